import PyProof.Rows.All
import Wide.All
import OpenK.AllK
import Wide.FinOn
import HandS.ForMost
import HandS.IsInst
import HandS.Evl
import HandS.Style
import HandS.Zip
import KE.GoesZip
import HandS.TupMul
import HandS.TupAny
import HandS.EndBits
import HandS.Rev
import HandS.Dict
import HandS.ForExc
import HandS.ExcInit
import HandS.NestedK
import HandS.FStr
import KE.KExcSuper
import KE.RegKSuper
import HandS.ExcInitHot
import HandS.RaiseFrom
import HandS.TryMany
import HandS.SuiteRaise
import HandS.ExcIs
import HandS.ExcField
import KE.KExcIs
import HandS.NestedHot
import HandS.CallLocal
import HandS.ExcCtx
import HandS.Property
import HandS.TupLe
import HandS.TryOnly
import HandS.DictTup
import HandS.Iter
import HandS.Conv
import KE.SortData
import HandS.NamedTupSort
import KE.KDictDisplayH
import PySem.Challenge.RW_tessera_k42_nodes_that_are_needed
set_option Elab.async false
set_option linter.all false
set_option maxRecDepth 100000
set_option maxHeartbeats 4000000
/-! Readings stepped forward over an abstract heap that a list of owned objects describes. -/
namespace RD
open PySem PySem.Spec PyProof.Rows L2

/-! ### the heap: H extends H0; the objects of L are new since H0 and stand apart -/
structure Own (H0 H : Hp) (L : List (Addr × HO)) : Prop where
  ex : Same H0 H
  fr : ∀ x ∈ L, H0 x.1 = none ∧ H x.1 = some x.2
  nd : (L.map (·.1)).Nodup
theorem Own.nil (H : Hp) : Own H H [] := ⟨Same.refl H, fun _ h => absurd h (by simp), List.nodup_nil⟩
theorem same_new {H : Hp} {p : Addr} {u : HO} (h : H p = none) : Same H (upd H p u) := fun b x e => by
  rw [upd_ne (ne_of_none e h)]
  exact e
section
variable {H0 H H' : Hp} {L : List (Addr × HO)} {p l : Addr} {u v : HO} {K : PySem.W.Frag}
theorem Own.mono (o : Own H0 H L) (e : Same H H') : Own H0 H' L := ⟨o.ex.trans e, fun x hx => ⟨(o.fr x hx).1, e _ _ (o.fr x hx).2⟩, o.nd⟩
theorem Own.add (o : Own H0 H L) (e : Same H H') (hp : H p = none) (hv : H' p = some u) : Own H0 H' ((p, u) :: L) := by
  refine ⟨o.ex.trans e, fun x hx => ?_, ?_⟩
  · rcases List.mem_cons.mp hx with rfl | hx
    · exact ⟨o.ex.free hp, hv⟩
    · exact ⟨(o.fr x hx).1, e _ _ (o.fr x hx).2⟩
  · rw [List.map_cons, List.nodup_cons]
    refine ⟨fun hm => ?_, o.nd⟩
    obtain ⟨x, hx, e1⟩ := List.mem_map.mp hm
    have := (o.fr x hx).2
    rw [e1] at this
    show False
    rw [hp] at this
    cases this
theorem Own.new (o : Own H0 H L) (hp : H p = none) : Own H0 (upd H p u) ((p, u) :: L) := o.add (same_new hp) hp upd_same
theorem Own.at (o : Own H0 H L) (i : Nat) (h : L[i]? = some (l, u)) : H l = some u := (o.fr _ (List.mem_of_getElem? h)).2
theorem Own.fresh (o : Own H0 H L) (i : Nat) (h : L[i]? = some (l, u)) : H0 l = none := (o.fr _ (List.mem_of_getElem? h)).1
theorem map_set_fst {α β : Type} : ∀ {L : List (α × β)} {i : Nat} {l : α} {u v : β}, L[i]? = some (l, u) → (L.set i (l, v)).map (·.1) = L.map (·.1)
  | [], _, _, _, _, h => by simp at h
  | x :: L, 0, l, u, v, h => by
    have e : x = (l, u) := Option.some.inj h
    subst e
    rfl
  | x :: L, i + 1, l, u, v, h => by
    show x.1 :: (L.set i (l, v)).map (·.1) = x.1 :: L.map (·.1)
    rw [map_set_fst (L := L) (i := i) (l := l) (u := u) (v := v) h]
theorem nodup_fst {α β : Type} : ∀ {L : List (α × β)} {i j : Nat} {l : α} {u v : β}, (L.map (·.1)).Nodup → L[i]? = some (l, u) → L[j]? = some (l, v) → i = j
  | L, i, j, l, u, v, hN, hi, hj => by
    refine nd_ix (l := L.map (·.1)) hN (x := l) ?_ ?_
    · rw [List.getElem?_map, hi]; rfl
    · rw [List.getElem?_map, hj]; rfl
/-- the object at l is changed; nothing else -/
theorem Own.chg (o : Own H0 H L) (i : Nat) (h : L[i]? = some (l, u)) (e : ∀ b x, b ≠ l → H b = some x → H' b = some x) (hv : H' l = some v) : Own H0 H' (L.set i (l, v)) := by
  refine ⟨fun b x hb => ?_, fun x hx => ?_, ?_⟩
  · exact e b x (ne_of_none hb (o.fresh i h)) (o.ex b x hb)
  · obtain ⟨j, hj⟩ := List.mem_iff_getElem?.mp hx
    by_cases hij : i = j
    · subst hij
      have hlt : i < L.length := (List.getElem?_eq_some_iff.mp h).1
      rw [List.getElem?_set_self hlt] at hj
      cases hj
      exact ⟨o.fresh i h, hv⟩
    · rw [List.getElem?_set_ne hij] at hj
      have hm := List.mem_of_getElem? hj
      have hne : x.1 ≠ l := fun z => hij (by
        have : L[j]? = some (l, x.2) := by rw [hj, ← z]
        exact nodup_fst o.nd h this)
      exact ⟨(o.fr x hm).1, e _ _ hne (o.fr x hm).2⟩
  · rw [map_set_fst h]
    exact o.nd
theorem Own.set (o : Own H0 H L) (i : Nat) (h : L[i]? = some (l, u)) : Own H0 (upd H l v) (L.set i (l, v)) :=
  o.chg i h (fun b x hb e => by rw [upd_ne hb]; exact e) upd_same
theorem Own.sub {L' : List (Addr × HO)} (o : Own H0 H L) (h : L'.Sublist L) : Own H0 H L' :=
  ⟨o.ex, fun x hx => o.fr x (h.subset hx), List.Sublist.nodup (h.map _) o.nd⟩
theorem Own.tl {x : Addr × HO} (o : Own H0 H (x :: L)) : Own H0 H L := o.sub (List.sublist_cons_self x L)
theorem Own.ne (o : Own H0 H L) {q : Addr} {i j : Nat} (hi : L[i]? = some (l, u)) (hj : L[j]? = some (q, v)) (h : i ≠ j) : l ≠ q := fun e => by
  subst e
  exact h (nodup_fst o.nd hi hj)
theorem Own.sqL (o : Own H0 H L) {xs : List V} (i : Nat) (h : L[i]? = some (l, .lst xs)) : SqL K H l xs := .inl (.inl (o.at i h))
theorem Own.sqT (o : Own H0 H L) {xs : List V} (i : Nat) (h : L[i]? = some (l, .tup xs)) : SqT K H l xs := .inl (.inl (o.at i h))
theorem Own.old (o : Own H0 H L) {xs : List V} (h : SqL K H0 l xs) : SqL K H l xs := o.ex.seq h
theorem same_seqT {xs : List V} (e : Same H H') (h : SqT K H l xs) : SqT K H' l xs := by
  rcases h with (h | ⟨o, h⟩) | h
  · exact .inl (.inl (e _ _ h))
  · exact .inl (.inr ⟨o, e _ _ h⟩)
  · exact .inr h
theorem Own.oldT (o : Own H0 H L) {xs : List V} (h : SqT K H0 l xs) : SqT K H l xs := same_seqT o.ex h
/-- start a new frame of ownership at H, giving up L -/
theorem Own.trans {H1 : Hp} {L1 : List (Addr × HO)} (o : Own H0 H L) (o1 : Own H H1 L1) : Own H0 H1 (L1 ++ L) := by
  refine ⟨o.ex.trans o1.ex, fun x hx => ?_, ?_⟩
  · rcases List.mem_append.mp hx with h | h
    · exact ⟨o.ex.free (o1.fr x h).1, (o1.fr x h).2⟩
    · exact ⟨(o.fr x h).1, o1.ex _ _ (o.fr x h).2⟩
  · rw [List.map_append, List.nodup_append]
    refine ⟨o1.nd, o.nd, fun a ha b hb e => ?_⟩
    subst e
    obtain ⟨x, hx, rfl⟩ := List.mem_map.mp ha
    obtain ⟨y, hy, e⟩ := List.mem_map.mp hb
    have h1 := (o1.fr x hx).1
    have h2 := (o.fr y hy).2
    rw [e, h1] at h2
    cases h2
end

/-! ### what an answer is -/
/-- a value that is no new object -/
def RetV (H : Hp) (Q : VK) (v : V) : Prop := ∀ H', Same H H' → Q v H'
/-- a new object -/
def RetO (H : Hp) (Q : VK) (u : HO) : Prop := ∀ H' p, Same H H' → H p = none → H' p = some u → Q (.ref p) H'
theorem RetO.mk {H0 H : Hp} {Q : VK} {u : HO} {L : List (Addr × HO)} {p : Addr} (q : RetO H0 Q u) (o : Own H0 H L) (i : Nat) (h : L[i]? = some (p, u)) : Q (.ref p) H := q H p o.ex (o.fresh i h) (o.at i h)
theorem RetV.mk {H0 H : Hp} {Q : VK} {v : V} {L : List (Addr × HO)} (q : RetV H0 Q v) (o : Own H0 H L) : Q v H := q H o.ex

/-! ### readings -/
def RBl (x : V) (H : Hp) (Q : Bool → Hp → Prop) : Prop := ∃ k, x = .bl k ∧ Q k H
def RPt (x : V) (H : Hp) (R : Option Int → Hp → Prop) : Prop := ∃ i, x = .int i ∧ R (some i) H
def RIf (c : Bool) (A B : Prop) : Prop := if c = true then A else B
def RNewL (xs : List V) (H : Hp) (Q : VK) : Prop := xs.length ≤ sizeLine ∧ ∀ p, H p = none → Q (.ref p) (upd H p (.lst xs))
def RNewT (xs : List V) (H : Hp) (Q : VK) : Prop := xs.length ≤ sizeLine ∧ ∀ p, H p = none → Q (.ref p) (upd H p (.tup xs))
section
variable {σ : L2.St} {H H0 : Hp} {Q : VK} {v x y : V} {ta tb te : TE} {t u : TT} {r : R2} {i j : Int} {D : Ends} {ts tz : TS} {g : TG} {K : PySem.W.Frag} {L : List (Addr × HO)}
theorem r_var {n : Nat} (h : σ[n]? = some (some v)) (q : Q v H) : tVar n σ H Q := ⟨v, h, q⟩
theorem r_c (q : Q v H) : tC v σ H Q := q
theorem r_op (q : ta σ H fun x H1 => tb σ H1 fun y H2 => r x y H2 Q) : tOp r ta tb σ H Q := q
theorem r_I0 {f : Int → Int → V} (q : Q (f i j) H) : rI0 f (.int i) (.int j) H Q := ⟨i, j, rfl, rfl, q⟩
theorem r_I {C : Int → Int → Prop} {f : Int → Int → V} (c : C i j) (q : Q (f i j) H) : rI C f (.int i) (.int j) H Q := ⟨i, j, rfl, rfl, c, q⟩
theorem r_un {f : V → Hp → VK → Prop} (q : ta σ H fun x H1 => f x H1 Q) : tUn f ta σ H Q := q
theorem r_U {f : Int → V} (q : Q (f i) H) : rU f (.int i) H Q := ⟨i, rfl, q⟩
theorem r_eqI (q : Q (.bl (decide (i = j))) H) : rEq (.int i) (.int j) H Q := ⟨rfl, by
  have e : decide ((V.int i) = .int j) = decide (i = j) := by simp
  rw [e]; exact q⟩
theorem r_neI (q : Q (.bl (!decide (i = j))) H) : rNe (.int i) (.int j) H Q := ⟨rfl, by
  have e : decide ((V.int i) = .int j) = decide (i = j) := by simp
  rw [e]; exact q⟩
theorem r_eqS {a b : Str} (q : Q (.bl (decide (a = b))) H) : rEq (.str a) (.str b) H Q := ⟨rfl, by
  have e : decide ((V.str a) = .str b) = decide (a = b) := by simp
  rw [e]; exact q⟩
theorem r_neS {a b : Str} (q : Q (.bl (!decide (a = b))) H) : rNe (.str a) (.str b) H Q := ⟨rfl, by
  have e : decide ((V.str a) = .str b) = decide (a = b) := by simp
  rw [e]; exact q⟩
theorem r_test {Q : Bool → Hp → Prop} (q : ta σ H fun x H' => RBl x H' Q) : tTest ta σ H Q := q
theorem r_tB {Q : Bool → Hp → Prop} (q : ta σ H fun x H' => RBl x H' Q) : tB ta σ H Q := q
theorem r_bl {Q : Bool → Hp → Prop} {b : Bool} (q : Q b H) : RBl (.bl b) H Q := ⟨b, rfl, q⟩
theorem r_and {Q : Bool → Hp → Prop} (q : t σ H fun c H1 => RIf c (u σ H1 Q) (Q false H1)) : tAnd t u σ H Q := q
theorem r_or {Q : Bool → Hp → Prop} (q : t σ H fun c H1 => RIf c (Q true H1) (u σ H1 Q)) : tOr t u σ H Q := q
theorem r_not {Q : Bool → Hp → Prop} (q : t σ H fun c H1 => Q (!c) H1) : tNot t σ H Q := q
theorem r_andV (q : ta σ H fun x H1 => RBl x H1 fun c H1 => RIf c (tb σ H1 Q) (Q (.bl false) H1)) : tAndV ta tb σ H Q := q
theorem r_orV (q : ta σ H fun x H1 => RBl x H1 fun c H1 => RIf c (Q (.bl true) H1) (tb σ H1 Q)) : tOrV ta tb σ H Q := q
theorem r_notV (q : ta σ H fun x H1 => RBl x H1 fun c H1 => Q (.bl (!c)) H1) : tNotV ta σ H Q := q
theorem r_ifE (q : t σ H fun c H1 => RIf c (ta σ H1 Q) (tb σ H1 Q)) : tIf t ta tb σ H Q := q
theorem r_seq (q : ts { D with nx := tz D } σ H) : tSeq ts tz D σ H := q
theorem r_asg (q : te σ H fun x H1 => g x σ H1 D.nx) : tAsg te g D σ H := q
theorem r_name {n : Nat} {R : L2.St → Hp → Prop} (q : R (σ.set n (some v)) H) : gName n v σ H R := q
theorem r_ifS (q : t σ H fun b H1 => RIf b (ts D σ H1) (tz D σ H1)) : tIfS t ts tz D σ H := q
theorem r_ret (q : te σ H D.rt) : tRet te D σ H := q
theorem r_retN (q : D.rt .non H) : tRetN D σ H := q
theorem r_drop (q : te σ H fun _ H1 => D.nx σ H1) : tDrop te D σ H := q
theorem r_next (q : D.nx σ H) : tNext D σ H := q
theorem r_break (q : D.bk σ H) : tBreak D σ H := q
theorem r_cont (q : D.ct σ H) : tCont D σ H := q
theorem r_nil {R : List V → Hp → Prop} (q : R [] H) : tNil σ H R := q
theorem r_cons {tr : TA} {R : List V → Hp → Prop} (q : te σ H fun x H1 => tr σ H1 fun xs H2 => R (x :: xs) H2) : tCons te tr σ H R := q
theorem r_tup {tr : TA} (q : tr σ H fun xs H1 => RNewT xs H1 Q) : tTup tr σ H Q := q
theorem r_lst {tr : TA} (q : tr σ H fun xs H1 => RNewL xs H1 Q) : tLst tr σ H Q := q
theorem r_CB {f : List V → Hp → VK → Prop} {tr : TA} (q : tr σ H fun vs H1 => f vs H1 Q) : tCB f tr σ H Q := q
theorem r_call {sp : Sp} {E : XK} {tr : TA} (q : tr σ H fun vs H1 => sp (vs ++ []) H1 Q E) : tCall sp [] E tr σ H Q := q
theorem r_sl {f : V → Option Int → Option Int → Hp → VK → Prop} {tl th : TO} (q : te σ H fun x H1 => tl σ H1 fun l H2 => th σ H2 fun u H3 => f x l u H3 Q) : tSl f te tl th σ H Q := q
theorem r_par {i j : Nat} {ta : TA} {D : Ends} (q : ta σ H fun vs H1 => ∃ v w, vs = [v, w] ∧ D.nx ((σ.set i (some v)).set j (some w)) H1) : tPar i j ta D σ H := q
theorem r_nopart {R : Option Int → Hp → Prop} (q : R none H) : tNoPart σ H R := q
theorem r_part {R : Option Int → Hp → Prop} (q : te σ H fun x H1 => RPt x H1 R) : tPart te σ H R := q
theorem r_pt {R : Option Int → Hp → Prop} (q : R (some i) H) : RPt (.int i) H R := ⟨i, rfl, q⟩
theorem r_aug {n : Nat} {ti : TIp} (h : σ[n]? = some (some x)) (q : te σ H fun y H1 => ti x y H1 fun z H2 => D.nx (σ.set n (some z)) H2) : tAug n te ti D σ H := ⟨x, h, q⟩
theorem r_ipI {f : Int → Int → Int} (q : Q (.int (f i j)) H) : ipI f (.int i) (.int j) H Q := ⟨i, j, rfl, rfl, q⟩
theorem r_set {to ti : TE} {s : TSet} {R : L2.St → Hp → Prop} (q : to σ H fun o H1 => ti σ H1 fun i H2 => s o i v H2 fun H3 => R σ H3) : gSub to ti s v σ H R := q

/-! ### branches -/
theorem rif {p : Prop} [Decidable p] {A B : Prop} (h1 : p → A) (h2 : ¬ p → B) : RIf (decide p) A B := by
  unfold RIf
  by_cases h : p
  · rw [if_pos (decide_eq_true h)]; exact h1 h
  · rw [if_neg (by simpa using h)]; exact h2 h
theorem rif_n {p : Prop} [Decidable p] {A B : Prop} (h1 : ¬ p → A) (h2 : p → B) : RIf (!decide p) A B := by
  unfold RIf
  by_cases h : p
  · rw [if_neg (by simpa using h)]; exact h2 h
  · rw [if_pos (by simpa using h)]; exact h1 h
theorem rif_t {A B : Prop} (h : A) : RIf true A B := by unfold RIf; rw [if_pos rfl]; exact h
theorem rif_f {A B : Prop} (h : B) : RIf false A B := by unfold RIf; rw [if_neg Bool.false_ne_true]; exact h
theorem rif_nt {A B : Prop} (h : B) : RIf (!true) A B := rif_f h
theorem rif_nf {A B : Prop} (h : A) : RIf (!false) A B := rif_t h
theorem rif_yes {p : Prop} [Decidable p] {A B : Prop} (hp : p) (h1 : A) : RIf (decide p) A B := rif (fun _ => h1) fun h => absurd hp h
theorem rif_no {p : Prop} [Decidable p] {A B : Prop} (hp : ¬ p) (h1 : B) : RIf (decide p) A B := rif (fun h => absurd h hp) fun _ => h1
theorem rif_nyes {p : Prop} [Decidable p] {A B : Prop} (hp : p) (h1 : B) : RIf (!decide p) A B := rif_n (fun h => absurd hp h) fun _ => h1
theorem rif_nno {p : Prop} [Decidable p] {A B : Prop} (hp : ¬ p) (h1 : A) : RIf (!decide p) A B := rif_n (fun _ => h1) fun h => absurd h hp
theorem rif_b {b : Bool} {A B : Prop} (h1 : b = true → A) (h2 : b = false → B) : RIf b A B := by
  cases b
  · exact rif_f (h2 rfl)
  · exact rif_t (h1 rfl)

/-! ### new objects -/
theorem sz100 {n : Nat} (h : n ≤ 10000000) : n ≤ sizeLine := Nat.le_trans h (by decide)
theorem sz_lt {n : Nat} (h : n < 10000000) : n < sizeLine := Nat.lt_of_lt_of_le h (by decide)
theorem r_newL {xs : List V} (o : Own H0 H L) (hz : xs.length ≤ 10000000) (k : ∀ p H', Own H0 H' ((p, .lst xs) :: L) → Q (.ref p) H') : RNewL xs H Q := ⟨sz100 hz, fun p hp => k p _ (o.new hp)⟩
theorem r_newT {xs : List V} (o : Own H0 H L) (hz : xs.length ≤ 10000000) (k : ∀ p H', Own H0 H' ((p, .tup xs) :: L) → Q (.ref p) H') : RNewT xs H Q := ⟨sz100 hz, fun p hp => k p _ (o.new hp)⟩

/-! ### lists -/
theorem r_ixL {p : Addr} {xs : List V} (h : SqL K H p xs) (ha : atI xs i = some v) (q : Q v H) : rIxL K (.ref p) (.int i) H Q := ⟨p, xs, i, v, rfl, rfl, h, ha, q⟩
theorem r_ixT {p : Addr} {xs : List V} (h : SqT K H p xs) (ha : atI xs i = some v) (q : Q v H) : rIxT K (.ref p) (.int i) H Q := ⟨p, xs, i, v, rfl, rfl, h, ha, q⟩
theorem r_slL {a : Addr} {xs : List V} {lo hi : Option Int} (o : Own H0 H L) (h : SqL K H a xs) (k : ∀ p H', Own H0 H' ((p, .lst (cutV xs lo hi)) :: L) → Q (.ref p) H') : rSlL K (.ref a) lo hi H Q := ⟨a, xs, rfl, h, fun p hp => k p _ (o.new hp)⟩
theorem r_cat {a b : Addr} {xs ys : List V} (o : Own H0 H L) (ha : H a = some (.lst xs)) (hb : H b = some (.lst ys)) (hz : xs.length + ys.length ≤ 10000000) (k : ∀ p H', Own H0 H' ((p, .lst (xs ++ ys)) :: L) → Q (.ref p) H') : rCat (.ref a) (.ref b) H Q :=
  ⟨a, b, xs, ys, rfl, rfl, ha, hb, sz100 hz, fun p hp => k p _ (o.new hp)⟩
theorem r_app {l : Addr} {xs : List V} (o : Own H0 H L) (n : Nat) (h : L[n]? = some (l, .lst xs)) (hz : xs.length < 10000000) (k : ∀ H', Own H0 H' (L.set n (l, .lst (xs ++ [y]))) → Q .non H') : rAppend (.ref l) [y] H Q :=
  ⟨l, xs, y, rfl, rfl, o.at n h, sz_lt hz, k _ (o.set n h)⟩
/-- l.append(e) as a statement's expression: the receiver's slot, the argument -/
theorem r_bm {T : String} {f : V → List V → Hp → VK → Prop} {tr : TA} {n : Nat} {l : Addr} (h : σ[n]? = some (some (.ref l))) (ht : tyV K T (.ref l) H) (q : tr σ H fun vs H2 => f (.ref l) vs H2 Q) : tBM K T f (tVar n) tr σ H Q := ⟨_, h, ht, q⟩
theorem ty_lst {l : Addr} {xs : List V} (h : H l = some (.lst xs)) : tyV K "list" (.ref l) H := .inl ⟨rfl, _, SqL.of h⟩
theorem r_setL {l : Addr} {xs : List V} {k : Nat} {R : Hp → Prop} (o : Own H0 H L) (n : Nat) (h : L[n]? = some (l, .lst xs)) (hj : ixN xs.length i = some k) (q : ∀ H', Own H0 H' (L.set n (l, .lst (xs.set k v))) → R H') : rSetL (.ref l) (.int i) v H R :=
  ⟨l, xs, i, k, rfl, rfl, o.at n h, hj, q _ (o.set n h)⟩
end

/-! ### isinstance, sums, == of lists -/
section
variable {σ : L2.St} {H H0 : Hp} {Q : VK} {v x y : V} {i j : Int} {K : PySem.W.Frag} {L : List (Addr × HO)}
theorem r_isi {T S : String} {b : Bool} (ht : TyX K H x (.type T)) (hk : kitB T S = some b) (q : Q (.bl b) H) : rIsi K [x, .ty S] H Q := ⟨x, .ty S, .type T, .type S, b, rfl, .ty S, ht, kit_ty hk, q⟩
theorem ty_int {i : Int} : TyX K H (.int i) (.type "int") := .base (.int i)
theorem ty_str {z : Str} : TyX K H (.str z) (.type "str") := .base (.str z)
theorem ty_non : TyX K H .non (.type "NoneType") := .base .non
theorem ty_list {l : Addr} {xs : List V} (h : H l = some (.lst xs)) : TyX K H (.ref l) (.type "list") := .base (.lst h)
theorem ty_tup {l : Addr} {xs : List V} (h : H l = some (.tup xs)) : TyX K H (.ref l) (.type "tuple") := .base (.tup h)
theorem r_sum {a : Addr} {ns : List Int} (h : SqL K H a (ns.map V.int)) (q : Q (.int ns.sum) H) : rSum K [.ref a] H Q := ⟨a, ns, rfl, h, q⟩
theorem dpAll_ints : ∀ ns : List Int, DpAll K H (ns.map V.int) (ns.map PyData.int)
  | [] => .nil
  | n :: ns => .cons (.int n) (dpAll_ints ns)
theorem dp_ints {a : Addr} {ns : List Int} (h : SqL K H a (ns.map V.int)) : Dp K H (.ref a) (.list (ns.map PyData.int)) := .lst h (dpAll_ints ns)
theorem dp_intsT {a : Addr} {ns : List Int} (h : SqT K H a (ns.map V.int)) : Dp K H (.ref a) (.tuple (ns.map PyData.int)) := .tup h (dpAll_ints ns)
end
/-! ### items -/
/-- the i-th of a list of ints -/
def gi (ns : List Int) (i : Int) : Int := ns.getD i.toNat 0
theorem at_map {α : Type} {f : α → V} {ns : List α} {i : Int} {x : α} (h0 : 0 ≤ i) (h : ns[i.toNat]? = some x) : atI (ns.map f) i = some (f x) := by
  obtain ⟨n, rfl⟩ := Int.eq_ofNat_of_zero_le h0
  refine atI_nat ?_
  have e : (Int.toNat (n : Int)) = n := rfl
  rw [e] at h
  rw [List.getElem?_map, h]
  rfl
theorem at_ints {ns : List Int} {i : Int} (h0 : 0 ≤ i) (h1 : i < ns.length) : atI (ns.map V.int) i = some (.int (gi ns i)) := by
  refine at_map h0 ?_
  unfold gi
  have : i.toNat < ns.length := by omega
  rw [List.getD_eq_getElem?_getD, List.getElem?_eq_getElem this]
  rfl
theorem gi_mem {ns : List Int} {i : Int} (h0 : 0 ≤ i) (h1 : i < ns.length) : gi ns i ∈ ns := by
  unfold gi
  have h2 : i.toNat < ns.length := by omega
  rw [List.getD_eq_getElem?_getD, List.getElem?_eq_getElem h2]
  exact List.getElem_mem h2

/-! ### equal lists of ints -/
theorem canLay_ints : ∀ ns : List Int, PyData.canLayAll0 (ns.map PyData.int) = true
  | [] => rfl
  | n :: ns => by
    show (PyData.canLay0 (.int n) && PyData.canLayAll0 (ns.map PyData.int)) = true
    rw [canLay_ints ns]
    rfl
theorem depth_ints : ∀ ns : List Int, PyData.depthAll (ns.map PyData.int) ≤ 1
  | [] => by decide
  | n :: ns => by
    have h := depth_ints ns
    show max (PyData.depth (.int n)) (PyData.depthAll (ns.map PyData.int)) ≤ 1
    exact Nat.max_le.mpr ⟨Nat.zero_le 1, h⟩
theorem shaped_ints (ns : List Int) : SeqAt.shaped (.list (ns.map PyData.int)) = true := by
  unfold SeqAt.shaped
  rw [Bool.and_eq_true]
  refine ⟨canLay_ints ns, decide_eq_true ?_⟩
  have h := depth_ints ns
  show PyData.depthAll (ns.map PyData.int) + 1 ≤ 64
  omega
theorem shaped_intsT (ns : List Int) : SeqAt.shaped (.tuple (ns.map PyData.int)) = true := by
  unfold SeqAt.shaped
  rw [Bool.and_eq_true]
  refine ⟨canLay_ints ns, decide_eq_true ?_⟩
  have h := depth_ints ns
  show PyData.depthAll (ns.map PyData.int) + 1 ≤ 64
  omega
theorem eqvAll_ints : ∀ ns ms : List Int, PyData.eqvAll (ns.map PyData.int) (ms.map PyData.int) = decide (ns = ms)
  | [], [] => by simp [PyData.eqvAll]
  | [], _ :: _ => by simp [PyData.eqvAll]
  | _ :: _, [] => by simp [PyData.eqvAll]
  | n :: ns, m :: ms => by
    show (PyData.eqv (.int n) (.int m) && PyData.eqvAll (ns.map PyData.int) (ms.map PyData.int)) = _
    rw [eqvAll_ints ns ms]
    simp [PyData.eqv, Bool.beq_eq_decide_eq]
section
variable {H : Hp} {Q : VK} {K : PySem.W.Frag} {a b : Addr} {ns ms : List Int}
theorem r_eqLL (h : SqL K H a (ns.map V.int)) (h2 : SqL K H b (ms.map V.int)) (q : Q (.bl (decide (ns = ms))) H) : rEqD K (.ref a) (.ref b) H Q :=
  ⟨_, _, dp_ints h, dp_ints h2, shaped_ints ns, shaped_ints ms, by
    have e : PyData.eqv (.list (ns.map PyData.int)) (.list (ms.map PyData.int)) = decide (ns = ms) := by rw [PyData.eqv]; exact eqvAll_ints ns ms
    rw [e]; exact q⟩
theorem r_neLL (h : SqL K H a (ns.map V.int)) (h2 : SqL K H b (ms.map V.int)) (q : Q (.bl (!decide (ns = ms))) H) : rNeD K (.ref a) (.ref b) H Q :=
  ⟨_, _, dp_ints h, dp_ints h2, shaped_ints ns, shaped_ints ms, by
    have e : PyData.eqv (.list (ns.map PyData.int)) (.list (ms.map PyData.int)) = decide (ns = ms) := by rw [PyData.eqv]; exact eqvAll_ints ns ms
    rw [e]; exact q⟩
theorem r_eqTT (h : SqT K H a (ns.map V.int)) (h2 : SqT K H b (ms.map V.int)) (q : Q (.bl (decide (ns = ms))) H) : rEqD K (.ref a) (.ref b) H Q :=
  ⟨_, _, dp_intsT h, dp_intsT h2, shaped_intsT ns, shaped_intsT ms, by
    have e : PyData.eqv (.tuple (ns.map PyData.int)) (.tuple (ms.map PyData.int)) = decide (ns = ms) := by rw [PyData.eqv]; exact eqvAll_ints ns ms
    rw [e]; exact q⟩
theorem r_eqSame (h : SqL K H a (ns.map V.int)) (h2 : SqL K H b (ns.map V.int)) (q : Q (.bl true) H) : rEqD K (.ref a) (.ref b) H Q := r_eqLL h h2 (by rw [decide_eq_true rfl]; exact q)
theorem r_neSame (h : SqL K H a (ns.map V.int)) (h2 : SqL K H b (ns.map V.int)) (q : Q (.bl false) H) : rNeD K (.ref a) (.ref b) H Q := r_neLL h h2 (by rw [decide_eq_true rfl]; exact q)
theorem r_ixI {i : Int} {p : Addr} (h : SqL K H p (ns.map V.int)) (h0 : 0 ≤ i) (h1 : i < ns.length) (q : Q (.int (gi ns i)) H) : rIxL K (.ref p) (.int i) H Q := r_ixL h (at_ints h0 h1) q
theorem r_ixqL {i : Int} {p : Addr} (h : SqL K H p (ns.map V.int)) (h0 : 0 ≤ i) (h1 : i < ns.length) (q : Q (.int (gi ns i)) H) : rIx K (.ref p) (.int i) H Q := .inl (r_ixL h (at_ints h0 h1) q)
theorem r_ixqT {i : Int} {p : Addr} (h : SqT K H p (ns.map V.int)) (h0 : 0 ≤ i) (h1 : i < ns.length) (q : Q (.int (gi ns i)) H) : rIx K (.ref p) (.int i) H Q := .inr (.inl (r_ixT h (at_ints h0 h1) q))
theorem r_ixIT {i : Int} {p : Addr} (h : SqT K H p (ns.map V.int)) (h0 : 0 ≤ i) (h1 : i < ns.length) (q : Q (.int (gi ns i)) H) : rIxT K (.ref p) (.int i) H Q := r_ixT h (at_ints h0 h1) q
/-- a written list (or one of unknown form) at a place in it -/
theorem r_ixM {i : Int} {p : Addr} {vs : List V} (h : SqL K H p vs) (h0 : 0 ≤ i) (h1 : i < vs.length) (q : ∀ v, v ∈ vs → atI vs i = some v → Q v H) : rIxL K (.ref p) (.int i) H Q := by
  obtain ⟨n, rfl⟩ := Int.eq_ofNat_of_zero_le h0
  have hn : n < vs.length := by omega
  have e : atI vs (n : Int) = some vs[n] := atI_nat (List.getElem?_eq_getElem hn)
  exact r_ixL h e (q _ (List.getElem_mem hn) e)
theorem r_ret1 {H0 : Hp} {L : List (Addr × HO)} {u : HO} (o : Own H0 H L) (k : ∀ p H', Own H0 H' ((p, u) :: L) → Q (.ref p) H') : RetO H Q u := fun H' p e f h => k p H' (o.add e f h)
theorem r_retvs {H0 : Hp} {L : List (Addr × HO)} {v : V} (o : Own H0 H L) (k : ∀ H', Same H H' → Own H0 H' L → Q v H') : RetV H Q v := fun H' e => k H' e (o.mono e)
theorem r_retv {H0 : Hp} {L : List (Addr × HO)} {v : V} (o : Own H0 H L) (k : ∀ H', Own H0 H' L → Q v H') : RetV H Q v := fun H' e => k H' (o.mono e)
end

/-! ### named relations -/
def rTupS (K : PySem.W.Frag) : List V → Hp → VK → Prop := fun xs H Q => ∃ p ys, xs = [.ref p] ∧ ((SqL K H p ys ∧ ∀ l, H l = none → Q (.ref l) (upd H l (.tup ys))) ∨ (SqT K H p ys ∧ Q (.ref p) H))
def rInt1 : List V → Hp → VK → Prop := fun xs H Q => (∃ i, xs = [.int i] ∧ Q (.int i) H) ∨ ∃ k, xs = [.bl k] ∧ Q (.int (if k then 1 else 0)) H
section
variable {H H0 : Hp} {Q : VK} {K : PySem.W.Frag} {L : List (Addr × HO)} {p : Addr} {xs : List V}
theorem r_len (h : SqL K H p xs) (q : Q (.int xs.length) H) : Evl.rLenS K [.ref p] H Q := ⟨p, xs, rfl, .inl h, q⟩
theorem r_lenT (h : SqT K H p xs) (q : Q (.int xs.length) H) : Evl.rLenS K [.ref p] H Q := ⟨p, xs, rfl, .inr h, q⟩
theorem r_list (o : Own H0 H L) (h : SqL K H p xs) (k : ∀ l H', Own H0 H' ((l, .lst xs) :: L) → Q (.ref l) H') : Evl.rListS K [.ref p] H Q := ⟨p, xs, rfl, .inl h, fun l hl => k l _ (o.new hl)⟩
theorem r_listT (o : Own H0 H L) (h : SqT K H p xs) (k : ∀ l H', Own H0 H' ((l, .lst xs) :: L) → Q (.ref l) H') : Evl.rListS K [.ref p] H Q := ⟨p, xs, rfl, .inr h, fun l hl => k l _ (o.new hl)⟩
theorem r_tupL (o : Own H0 H L) (h : SqL K H p xs) (k : ∀ l H', Own H0 H' ((l, .tup xs) :: L) → Q (.ref l) H') : rTupS K [.ref p] H Q := ⟨p, xs, rfl, .inl ⟨h, fun l hl => k l _ (o.new hl)⟩⟩
theorem r_int {i : Int} (q : Q (.int i) H) : rInt1 [.int i] H Q := .inl ⟨i, rfl, q⟩
theorem r_intB {b : Bool} (q : Q (.int (if b then 1 else 0)) H) : rInt1 [.bl b] H Q := .inr ⟨b, rfl, q⟩
end

/-! ### slices -/
theorem cut_hi (xs : List V) (n : Nat) : cutV xs none (some (n : Int)) = xs.take n := by
  unfold cutV
  rw [HT.sIx_none, HT.sIx_nat, List.drop_zero, Nat.sub_zero]
  rcases Nat.le_total n xs.length with h | h
  · rw [Nat.min_eq_left h]
  · rw [Nat.min_eq_right h, List.take_of_length_le (Nat.le_refl _), List.take_of_length_le h]
theorem cut_lo (xs : List V) (n : Nat) : cutV xs (some (n : Int)) none = xs.drop n := by
  unfold cutV
  rw [HT.sIx_none, HT.sIx_nat]
  rcases Nat.le_total n xs.length with h | h
  · rw [Nat.min_eq_left h]
    exact List.take_of_length_le (by rw [List.length_drop]; omega)
  · rw [Nat.min_eq_right h, List.drop_of_length_le h, List.drop_of_length_le (Nat.le_refl _)]
    simp
theorem cut_both (xs : List V) (a b : Nat) : cutV xs (some (a : Int)) (some (b : Int)) = (xs.drop a).take (b - a) := by
  unfold cutV
  rw [HT.sIx_nat, HT.sIx_nat]
  rcases Nat.le_total a xs.length with h | h
  · rw [Nat.min_eq_left h]
    rcases Nat.le_total b xs.length with h2 | h2
    · rw [Nat.min_eq_left h2]
    · rw [Nat.min_eq_right h2, List.take_of_length_le (by rw [List.length_drop]; omega), List.take_of_length_le (by rw [List.length_drop]; omega)]
  · rw [Nat.min_eq_right h, List.drop_of_length_le h, List.drop_of_length_le (Nat.le_refl _)]
    simp
theorem cut_all (xs : List V) : cutV xs none none = xs := by
  unfold cutV
  rw [HT.sIx_none, HT.sIx_none]
  simp

/-! ### loops -/
def RFor (J : It) (g : TG) (tb : TS) (D : Ends) (σ : L2.St) (H : Hp) : Prop := ∃ W : Nat → Nat → L2.St → Hp → Prop, (∃ m, W 0 m σ H) ∧ ∀ i m σ H, W i m σ H →
    (J.stop i H ∧ D.nx σ H) ∨ (J.go i H ∧ ∃ N : L2.St → Hp → Prop, (∀ σ' H', N σ' H' → ∃ m', m' < m ∧ W (i + 1) m' σ' H') ∧ ∀ x H', J.yld i H x H' → g x σ H' fun σ2 H2 => tb { D with nx := N, ct := N, bk := D.nx } σ2 H2)
section
variable {σ : L2.St} {H H0 : Hp} {Q : VK} {v x y : V} {ta tb te tl : TE} {t u : TT} {i j : Int} {D : Ends} {ts tz : TS} {g : TG} {K : PySem.W.Frag} {L : List (Addr × HO)} {tr : TA} {wi : TI}
theorem r_for (q : wi σ H fun J H1 => RFor J g ts D σ H1) : tFor wi g ts D σ H := q
theorem r_rng1 {R : It → Hp → Prop} (q : tr σ H fun vs H1 => ∃ j : Int, vs = [.int j] ∧ -(2 ^ 62) ≤ j ∧ j < 2 ^ 62 ∧ R (Itr 0 j.toNat) H1) : iRng1 tr σ H R := q
theorem r_rng2 {R : It → Hp → Prop} (q : tr σ H fun vs H1 => ∃ i j : Int, vs = [.int i, .int j] ∧ (-(2 ^ 62) ≤ i ∧ i < 2 ^ 62 ∧ -(2 ^ 62) ≤ j ∧ j < 2 ^ 62) ∧ R (Itr i (j - i).toNat) H1) : iRng2 tr σ H R := q
theorem r_rng3 {R : It → Hp → Prop} (q : tr σ H fun vs H1 => ∃ (i j c : Int) (n : Nat), vs = [.int i, .int j, .int c] ∧ RgC i j c n ∧ R (Itc i c n) H1) : iRng3 tr σ H R := q
theorem r_iL {R : It → Hp → Prop} (q : tl σ H fun x H1 => ∃ a, x = .ref a ∧ (∃ xs, SqL K H1 a xs) ∧ R (Itl K a) H1) : iList K tl σ H R := q
theorem r_iT {R : It → Hp → Prop} (q : tl σ H fun x H1 => ∃ a, x = .ref a ∧ (∃ xs, SqT K H1 a xs) ∧ R (Itt K a) H1) : iTup K tl σ H R := q
/-- for k in range(j): behind the argument's reading -/
theorem forR1 {n : Nat} {s : Nat} (hn : j = (n : Int)) (hb : j < 2 ^ 62) (Pv : Nat → L2.St → Hp → Prop) (h0 : Pv 0 σ H)
    (hs : ∀ i σ H, i < n → Pv i σ H → ts { D with nx := Pv (i + 1), ct := Pv (i + 1), bk := D.nx } (σ.set s (some (.int (i : Int)))) H) (hd : ∀ σ H, Pv n σ H → D.nx σ H) :
    ∃ k : Int, [V.int j] = [.int k] ∧ -(2 ^ 62) ≤ k ∧ k < 2 ^ 62 ∧ RFor (Itr 0 k.toNat) (gName s) ts D σ H := by
  refine ⟨j, rfl, by omega, hb, ?_⟩
  have e : j.toNat = n := by omega
  rw [e]
  refine for_range (lo := 0) (n := n) Pv h0 (fun i σ H hi p => ?_) hd
  have e0 : (0 : Int) + (i : Int) = (i : Int) := Int.zero_add _
  show gName s (.int ((0 : Int) + (i : Int))) σ H _
  rw [e0]
  exact hs i σ H hi p
/-- for k in range(i, j) -/
theorem forR2 {n s : Nat} (hn : (j - i).toNat = n) (hb : -(2 ^ 62) ≤ i ∧ i < 2 ^ 62 ∧ -(2 ^ 62) ≤ j ∧ j < 2 ^ 62) (Pv : Nat → L2.St → Hp → Prop) (h0 : Pv 0 σ H)
    (hs : ∀ k σ H, k < n → Pv k σ H → ts { D with nx := Pv (k + 1), ct := Pv (k + 1), bk := D.nx } (σ.set s (some (.int (i + (k : Int))))) H) (hd : ∀ σ H, Pv n σ H → D.nx σ H) :
    ∃ i' j' : Int, [V.int i, V.int j] = [.int i', .int j'] ∧ (-(2 ^ 62) ≤ i' ∧ i' < 2 ^ 62 ∧ -(2 ^ 62) ≤ j' ∧ j' < 2 ^ 62) ∧ RFor (Itr i' (j' - i').toNat) (gName s) ts D σ H := by
  refine ⟨i, j, rfl, hb, ?_⟩
  rw [hn]
  exact for_range (lo := i) (n := n) Pv h0 (fun k σ H hi p => hs k σ H hi p) hd
theorem forR3 {c : Int} {n s : Nat} (hc : RgC i j c n) (Pv : Nat → L2.St → Hp → Prop) (h0 : Pv 0 σ H)
    (hs : ∀ k σ H, k < n → Pv k σ H → ts { D with nx := Pv (k + 1), ct := Pv (k + 1), bk := D.nx } (σ.set s (some (.int (i + (k : Nat) * c)))) H) (hd : ∀ σ H, Pv n σ H → D.nx σ H) :
    ∃ (i' j' c' : Int) (n' : Nat), [V.int i, V.int j, V.int c] = [.int i', .int j', .int c'] ∧ RgC i' j' c' n' ∧ RFor (Itc i' c' n') (gName s) ts D σ H :=
  ⟨i, j, c, n, rfl, hc, for_rangeC (lo := i) (c := c) (n := n) Pv h0 (fun k σ H hi p => hs k σ H hi p) hd⟩
/-- for x in l: behind the reading of l -/
theorem forL {a : Addr} {xs : List V} (h : SqL K H a xs) (Pv : Nat → L2.St → Hp → Prop) (h0 : Pv 0 σ H) (hl : ∀ i σ H, i ≤ xs.length → Pv i σ H → SqL K H a xs)
    (hs : ∀ i x σ H, xs[i]? = some x → Pv i σ H → g x σ H fun σ2 H2 => ts { D with nx := Pv (i + 1), ct := Pv (i + 1), bk := D.nx } σ2 H2) (hd : ∀ σ H, Pv xs.length σ H → D.nx σ H) :
    ∃ a', V.ref a = .ref a' ∧ (∃ xs, SqL K H a' xs) ∧ RFor (Itl K a') g ts D σ H := ⟨a, rfl, ⟨xs, h⟩, for_list (K := K) (a := a) (xs := xs) Pv h0 hl hs hd⟩
theorem forT {a : Addr} {xs : List V} (h : SqT K H a xs) (Pv : Nat → L2.St → Hp → Prop) (h0 : Pv 0 σ H) (hl : ∀ i σ H, i ≤ xs.length → Pv i σ H → SqT K H a xs)
    (hs : ∀ i x σ H, xs[i]? = some x → Pv i σ H → g x σ H fun σ2 H2 => ts { D with nx := Pv (i + 1), ct := Pv (i + 1), bk := D.nx } σ2 H2) (hd : ∀ σ H, Pv xs.length σ H → D.nx σ H) :
    ∃ a', V.ref a = .ref a' ∧ (∃ xs, SqT K H a' xs) ∧ RFor (Itt K a') g ts D σ H := ⟨a, rfl, ⟨xs, h⟩, for_tup (K := K) (a := a) (xs := xs) Pv h0 hl hs hd⟩
/-- while -/
def RWh (c : TT) (tb : TS) (D : Ends) (σ : L2.St) (H : Hp) : Prop := tWhile c tb D σ H
theorem whileB {c : TT} (Pv : Nat → L2.St → Hp → Prop) (m : Nat) (h0 : Pv m σ H)
    (hs : ∀ m σ H, Pv m σ H → c σ H fun b H1 => RIf b (∃ N : L2.St → Hp → Prop, (∀ σ' H', N σ' H' → ∃ m', m' < m ∧ Pv m' σ' H') ∧ ts { D with nx := N, ct := N, bk := D.nx } σ H1) (D.nx σ H1)) : tWhile c ts D σ H :=
  ⟨Pv, ⟨m, h0⟩, hs⟩
/-- the body's end in such a loop: a smaller number and the word again -/
theorem wh_turn {Pv : Nat → L2.St → Hp → Prop} {m : Nat} (h : ts { D with nx := fun σ' H' => ∃ m', m' < m ∧ Pv m' σ' H', ct := fun σ' H' => ∃ m', m' < m ∧ Pv m' σ' H', bk := D.nx } σ H) :
    ∃ N : L2.St → Hp → Prop, (∀ σ' H', N σ' H' → ∃ m', m' < m ∧ Pv m' σ' H') ∧ ts { D with nx := N, ct := N, bk := D.nx } σ H := ⟨_, fun _ _ h => h, h⟩

/-! ### comprehensions -/
def RLc (J : It) (g : TG) (tt : TT) (te : TE) (vs : List Nat) (σ : L2.St) (H1 : Hp) (Q : VK) : Prop := ∀ D, H1 D = none → ∃ W : Nat → Nat → Hp → Prop, (∃ m, W 0 m (upd H1 D (.lst []))) ∧ ∀ i m H, W i m H →
  (J.stop i H ∧ Q (.ref D) H) ∨ (J.go i H ∧ ∃ Nx : Hp → Prop, (∀ H', Nx H' → ∃ m', m' < m ∧ W (i + 1) m' H') ∧ ∀ x H', J.yld i H x H' → g x (wipe σ vs) H' fun σ2 H2 => wipe σ2 vs = wipe σ vs ∧ tt σ2 H2 fun b H3 =>
    if b = true then te σ2 H3 fun y H4 => ∃ acc, H4 D = some (.lst acc) ∧ acc.length < sizeLine ∧ Nx (upd H4 D (.lst (acc ++ [y]))) else Nx H3)
theorem r_lc {tt : TT} {vs : List Nat} (q : wi σ H fun J H1 => RLc J g tt te vs σ H1 Q) : tLc wi g tt te vs σ H Q := q
/-- what a turn of a comprehension without an if is to reach -/
theorem lc_turn {H' : Hp} {zs ys : List V} {P : Addr} {k : Nat} {y : V} {σ2 : L2.St} (o : Own H0 H' ((P, .lst (ys.take k)) :: L)) (hy : ys[k]? = some y) (hz : ys.length ≤ 10000000)
    (he : ∀ Q : VK, RetV H' Q y → te σ2 H' Q) :
    tYes σ2 H' fun b H3 => if b = true then te σ2 H3 fun y H4 => ∃ acc, H4 P = some (.lst acc) ∧ acc.length < sizeLine ∧ Own H0 (upd H4 P (.lst (acc ++ [y]))) ((P, .lst (ys.take (k + 1))) :: L) else Own H0 H3 ((P, .lst (ys.take (k + 1))) :: L) := by
  refine iteT (B := Own H0 H' ((P, .lst (ys.take (k + 1))) :: L)) (he _ fun H4 s4 => ?_)
  have o4 := o.mono s4
  have hk := (List.getElem?_eq_some_iff.mp hy).1
  refine ⟨ys.take k, o4.at 0 rfl, sz_lt (by rw [List.length_take]; omega), ?_⟩
  have o5 := o4.set (v := .lst (ys.take k ++ [y])) 0 rfl
  have e : ys.take (k + 1) = ys.take k ++ [y] := by rw [List.take_add_one, hy]; rfl
  rw [e]
  exact o5
/-- [e for x in range(n)], e no new object -/
theorem lcR1 {n s : Nat} {vs : List Nat} (ys : List V) (hy : ys.length = n) (o : Own H0 H L) (hn : j = (n : Int)) (hz : n ≤ 10000000) (hw : ∀ x, wipe ((wipe σ vs).set s (some x)) vs = wipe σ vs)
    (he : ∀ (i : Nat) (y : V) (p : Addr) (zs : List V) (H' : Hp) (Q : VK), i < n → ys[i]? = some y → Own H0 H' ((p, .lst zs) :: L) → RetV H' Q y → te ((wipe σ vs).set s (some (.int (i : Int)))) H' Q)
    (k : ∀ p H', Own H0 H' ((p, .lst ys) :: L) → Q (.ref p) H') :
    ∃ k : Int, [V.int j] = [.int k] ∧ -(2 ^ 62) ≤ k ∧ k < 2 ^ 62 ∧ RLc (Itr 0 k.toNat) (gName s) tYes te vs σ H Q := by
  refine ⟨j, rfl, by omega, by omega, fun P hP => ?_⟩
  have e : j.toNat = n := by omega
  rw [e]
  refine lc_range (lo := 0) (n := n) (fun i H' => Own H0 H' ((P, .lst (ys.take i)) :: L)) (o.new hP) (fun i H' hi p => ?_) (fun H' p => k P H' (by rw [List.take_of_length_le (by omega)] at p; exact p))
  have e0 : (0 : Int) + (i : Int) = (i : Int) := Int.zero_add _
  rw [e0]
  have hlt : i < ys.length := by omega
  refine ⟨hw _, ?_⟩
  exact lc_turn (zs := []) p (List.getElem?_eq_getElem hlt) (by omega) fun Q q => he i _ P _ H' Q hi (List.getElem?_eq_getElem hlt) p q
/-- [e for x in xs], e no new object -/
theorem lcL {a : Addr} {xs : List V} {s : Nat} {vs : List Nat} (ys : List V) (hy : ys.length = xs.length) (o : Own H0 H L) (h : ∀ H' p zs, Own H0 H' ((p, .lst zs) :: L) → SqL K H' a xs) (h1 : SqL K H a xs) (hz : xs.length ≤ 10000000) (hw : ∀ x, wipe ((wipe σ vs).set s (some x)) vs = wipe σ vs)
    (he : ∀ (i : Nat) (x y : V) (p : Addr) (zs : List V) (H' : Hp) (Q : VK), xs[i]? = some x → ys[i]? = some y → Own H0 H' ((p, .lst zs) :: L) → RetV H' Q y → te ((wipe σ vs).set s (some x)) H' Q)
    (k : ∀ p H', Own H0 H' ((p, .lst ys) :: L) → Q (.ref p) H') :
    ∃ a', V.ref a = .ref a' ∧ (∃ xs, SqL K H a' xs) ∧ RLc (Itl K a') (gName s) tYes te vs σ H Q := by
  refine ⟨a, rfl, ⟨xs, h1⟩, fun P hP => ?_⟩
  refine lc_list (K := K) (a := a) (xs := xs) (fun i H' => Own H0 H' ((P, .lst (ys.take i)) :: L)) (o.new hP) (fun i H' _ p => h H' _ _ p) (fun i x H' hi p => ?_) (fun H' p => k P H' (by rw [List.take_of_length_le (by omega)] at p; exact p))
  have hlt : i < ys.length := by have := (List.getElem?_eq_some_iff.mp hi).1; omega
  refine ⟨hw _, ?_⟩
  exact lc_turn (zs := []) p (List.getElem?_eq_getElem hlt) (by omega) fun Q q => he i x _ P _ H' Q hi (List.getElem?_eq_getElem hlt) p q
end
/-! ### comprehensions of ints -/
def mapR (n : Nat) (f : Nat → Int) : List Int := (List.range n).map f
theorem mapR_len (n : Nat) (f : Nat → Int) : (mapR n f).length = n := by unfold mapR; rw [List.length_map, List.length_range]
theorem mapR_mem {n : Nat} {f : Nat → Int} {x : Int} (h : x ∈ mapR n f) : ∃ k, k < n ∧ x = f k := by
  obtain ⟨k, hk, e⟩ := List.mem_map.mp h
  exact ⟨k, List.mem_range.mp hk, e.symm⟩
theorem mapR_get {n k : Nat} {f : Nat → Int} (h : k < n) : (mapR n f)[k]? = some (f k) := by
  unfold mapR
  rw [List.getElem?_map, List.getElem?_range h]
  rfl
theorem mapR_ext {n : Nat} {f g : Nat → Int} (h : ∀ k, k < n → f k = g k) : mapR n f = mapR n g := by
  unfold mapR
  exact List.map_congr_left fun k hk => h k (List.mem_range.mp hk)
theorem RetV.here {H : Hp} {Q : VK} {v : V} (q : RetV H Q v) : Q v H := q H (Same.refl H)
section
variable {σ : L2.St} {H H0 : Hp} {Q : VK} {te : TE} {j : Int} {K : PySem.W.Frag} {L : List (Addr × HO)}
theorem lcR1I {n s : Nat} {vs : List Nat} (f : Nat → Int) (o : Own H0 H L) (hn : j = (n : Int)) (hz : n ≤ 10000000) (hw : ∀ x, wipe ((wipe σ vs).set s (some x)) vs = wipe σ vs)
    (he : ∀ (i : Nat) (p : Addr) (zs : List V) (H' : Hp) (Q : VK), i < n → Own H0 H' ((p, .lst zs) :: L) → RetV H' Q (.int (f i)) → te ((wipe σ vs).set s (some (.int (i : Int)))) H' Q)
    (k : ∀ p H', Own H0 H' ((p, .lst ((mapR n f).map V.int)) :: L) → Q (.ref p) H') :
    ∃ k : Int, [V.int j] = [.int k] ∧ -(2 ^ 62) ≤ k ∧ k < 2 ^ 62 ∧ RLc (Itr 0 k.toNat) (gName s) tYes te vs σ H Q := by
  refine lcR1 ((mapR n f).map V.int) (by rw [List.length_map, mapR_len]) o hn hz hw (fun i y p zs H' Q hi hy o' q => ?_) k
  rw [List.getElem?_map, mapR_get hi] at hy
  cases hy
  exact he i p zs H' Q hi o' q
theorem lcLI {a : Addr} {ns : List Int} {s : Nat} {vs : List Nat} (f : Int → Int) (o : Own H0 H L) (h : ∀ H' p zs, Own H0 H' ((p, .lst zs) :: L) → SqL K H' a (ns.map V.int)) (h1 : SqL K H a (ns.map V.int)) (hz : ns.length ≤ 10000000) (hw : ∀ x, wipe ((wipe σ vs).set s (some x)) vs = wipe σ vs)
    (he : ∀ (i : Nat) (x : Int) (p : Addr) (zs : List V) (H' : Hp) (Q : VK), x ∈ ns → Own H0 H' ((p, .lst zs) :: L) → RetV H' Q (.int (f x)) → te ((wipe σ vs).set s (some (.int x))) H' Q)
    (k : ∀ p H', Own H0 H' ((p, .lst ((ns.map f).map V.int)) :: L) → Q (.ref p) H') :
    ∃ a', V.ref a = .ref a' ∧ (∃ xs, SqL K H a' xs) ∧ RLc (Itl K a') (gName s) tYes te vs σ H Q := by
  refine lcL ((ns.map f).map V.int) (by rw [List.length_map, List.length_map, List.length_map]) o h h1 (by rw [List.length_map]; exact hz) hw (fun i x y p zs H' Q hx hy o' q => ?_) k
  rw [List.getElem?_map] at hx
  rw [List.getElem?_map, List.getElem?_map] at hy
  cases e : ns[i]? with
  | none => rw [e] at hx; cases hx
  | some z =>
    rw [e] at hx hy
    cases hx
    cases hy
    exact he i z p zs H' Q (List.mem_of_getElem? e) o' q
end
section
variable {H0 H : Hp} {L : List (Addr × HO)} {x y z u v : Addr × HO}
theorem Own.pick1 (o : Own H0 H L) (i : Nat) (hi : L[i]? = some x) : Own H0 H [x] := ⟨o.ex, fun q hq => by rw [List.mem_singleton.mp hq]; exact o.fr _ (List.mem_of_getElem? hi), by simp⟩
theorem Own.cons_of (o : Own H0 H L) {L' : List (Addr × HO)} (o' : Own H0 H L') (hx : x ∈ L) (hn : ∀ q ∈ L', q.1 ≠ x.1) : Own H0 H (x :: L') :=
  ⟨o.ex, fun q hq => by
    rcases List.mem_cons.mp hq with rfl | hq
    · exact o.fr _ hx
    · exact o'.fr _ hq, by
    rw [List.map_cons, List.nodup_cons]
    refine ⟨fun hm => ?_, o'.nd⟩
    obtain ⟨q, hq, e⟩ := List.mem_map.mp hm
    exact hn q hq e⟩
theorem Own.nei (o : Own H0 H L) {i j : Nat} (hi : L[i]? = some x) (hj : L[j]? = some y) (h : i ≠ j) : x.1 ≠ y.1 := fun e => h (nodup_fst (l := x.1) (u := x.2) (v := y.2) o.nd hi (by rw [hj, e]))
theorem Own.pick2 (o : Own H0 H L) (i j : Nat) (hij : i ≠ j) (hi : L[i]? = some x) (hj : L[j]? = some y) : Own H0 H [x, y] :=
  o.cons_of (o.pick1 j hj) (List.mem_of_getElem? hi) fun q hq => by rw [List.mem_singleton.mp hq]; exact (o.nei hi hj hij).symm
theorem Own.pick3 (o : Own H0 H L) (i j k : Nat) (h : i ≠ j ∧ i ≠ k ∧ j ≠ k) (hi : L[i]? = some x) (hj : L[j]? = some y) (hk : L[k]? = some z) : Own H0 H [x, y, z] :=
  o.cons_of (o.pick2 j k h.2.2 hj hk) (List.mem_of_getElem? hi) fun q hq => by
    rcases List.mem_cons.mp hq with rfl | hq
    · exact (o.nei hi hj h.1).symm
    · rw [List.mem_singleton.mp hq]; exact (o.nei hi hk h.2.1).symm
theorem Own.pick4 (o : Own H0 H L) (i j k l : Nat) (h : i ≠ j ∧ i ≠ k ∧ i ≠ l ∧ j ≠ k ∧ j ≠ l ∧ k ≠ l) (hi : L[i]? = some x) (hj : L[j]? = some y) (hk : L[k]? = some z) (hl : L[l]? = some u) : Own H0 H [x, y, z, u] :=
  o.cons_of (o.pick3 j k l h.2.2.2 hj hk hl) (List.mem_of_getElem? hi) fun q hq => by
    rcases List.mem_cons.mp hq with rfl | hq
    · exact (o.nei hi hj h.1).symm
    · rcases List.mem_cons.mp hq with rfl | hq
      · exact (o.nei hi hk h.2.1).symm
      · rw [List.mem_singleton.mp hq]; exact (o.nei hi hl h.2.2.1).symm
end

/-! ### tuples stand -/
def Stp (H H' : Hp) : Prop := ∀ a xs, Rd H a (.tup xs) → Rd H' a (.tup xs)
theorem Stp.refl (H : Hp) : Stp H H := fun _ _ h => h
theorem Stp.trans {H H1 H2 : Hp} (a : Stp H H1) (b : Stp H1 H2) : Stp H H2 := fun x xs h => b x xs (a x xs h)
theorem Stp.of {H H' : Hp} (e : Same H H') : Stp H H' := fun a xs h => by
  rcases h with h | ⟨o, h⟩
  · exact .inl (e _ _ h)
  · exact .inr ⟨o, e _ _ h⟩
theorem Stp.set {H : Hp} {l : Addr} {xs : List V} {u : HO} (h : H l = some (.lst xs)) : Stp H (upd H l u) := fun a ys r => by
  have hne : a ≠ l := by
    rintro rfl
    rcases r with r | ⟨o, r⟩ <;> rw [h] at r <;> cases r
  rcases r with r | ⟨o, r⟩
  · exact .inl (by rw [upd_ne hne]; exact r)
  · exact .inr ⟨o, by rw [upd_ne hne]; exact r⟩
theorem Stp.sq {K : PySem.W.Frag} {H H' : Hp} {a : Addr} {xs : List V} (e : Stp H H') (h : SqT K H a xs) : SqT K H' a xs := by
  rcases h with h | h
  · exact .inl (e _ _ h)
  · exact .inr h
/-! ### comprehensions with a test -/
theorem lc_turnF {H0 H H' : Hp} {L : List (Addr × HO)} {te : TE} {tt : TT} {zs : List V} {P : Addr} {o1 : Option V} {σ2 : L2.St} (o : Own H0 H' ((P, .lst zs) :: L)) (s : Stp H H') (hz : zs.length < 10000000)
    (ht : ∀ Q : Bool → Hp → Prop, (∀ H2, Same H' H2 → Q o1.isSome H2) → tt σ2 H' Q) (he : ∀ y H2, o1 = some y → Same H' H2 → ∀ Q : VK, RetV H2 Q y → te σ2 H2 Q) :
    tt σ2 H' fun b H3 => if b = true then te σ2 H3 fun y H4 => ∃ acc, H4 P = some (.lst acc) ∧ acc.length < sizeLine ∧ (Own H0 (upd H4 P (.lst (acc ++ [y]))) ((P, .lst (zs ++ o1.toList)) :: L) ∧ Stp H (upd H4 P (.lst (acc ++ [y])))) else (Own H0 H3 ((P, .lst (zs ++ o1.toList)) :: L) ∧ Stp H H3) := by
  refine ht _ fun H2 s2 => ?_
  have o2 := o.mono s2
  cases e : o1 with
  | none =>
    show Own H0 H2 ((P, .lst (zs ++ [])) :: L) ∧ Stp H H2
    rw [List.append_nil]
    exact ⟨o2, s.trans (.of s2)⟩
  | some y =>
    refine iteT (B := Own H0 H2 ((P, .lst (zs ++ [y])) :: L) ∧ Stp H H2) (he y H2 e s2 _ fun H4 s4 => ?_)
    have o4 := o2.mono s4
    exact ⟨zs, o4.at 0 rfl, sz_lt hz, o4.set (v := .lst (zs ++ [y])) 0 rfl, (s.trans ((Stp.of s2).trans (.of s4))).trans (Stp.set (o4.at 0 rfl))⟩
theorem fm_take {α β : Type} {xs : List α} {sel : α → Option β} {i : Nat} {x : α} (h : xs[i]? = some x) : (xs.take (i + 1)).filterMap sel = (xs.take i).filterMap sel ++ (sel x).toList := by
  rw [List.take_add_one, h, List.filterMap_append]
  congr 1
theorem fm_le {α β : Type} (xs : List α) (sel : α → Option β) : (xs.filterMap sel).length ≤ xs.length := List.length_filterMap_le sel xs
section
variable {σ : L2.St} {H H0 : Hp} {Q : VK} {te : TE} {tt : TT} {j : Int} {K : PySem.W.Frag} {L : List (Addr × HO)}
/-- [e for x in xs if t], what it gives by the item alone -/
theorem lcGL {a : Addr} {xs : List V} {g : TG} {vs : List Nat} (sel : V → Option V) (o : Own H0 H L) (h : ∀ H' p zs, Own H0 H' ((p, .lst zs) :: L) → SqL K H' a xs) (h1 : SqL K H a xs) (hz : xs.length < 10000000)
    (he : ∀ (i : Nat) (x : V) (p : Addr) (zs : List V) (H' : Hp) (R : L2.St → Hp → Prop), xs[i]? = some x → Own H0 H' ((p, .lst zs) :: L) → Stp H H' →
      (∀ σ2, (∀ H2, Same H' H2 → wipe σ2 vs = wipe σ vs) → (∀ Q : Bool → Hp → Prop, (∀ H2, Same H' H2 → Q (sel x).isSome H2) → tt σ2 H' Q) → (∀ y H2, sel x = some y → Same H' H2 → ∀ Q : VK, RetV H2 Q y → te σ2 H2 Q) → R σ2 H') → g x (wipe σ vs) H' R)
    (k : ∀ p H', Stp H H' → Own H0 H' ((p, .lst (xs.filterMap sel)) :: L) → Q (.ref p) H') :
    ∃ a', V.ref a = .ref a' ∧ (∃ xs, SqL K H a' xs) ∧ RLc (Itl K a') g tt te vs σ H Q := by
  refine ⟨a, rfl, ⟨xs, h1⟩, fun P hP => ?_⟩
  refine lc_list (K := K) (a := a) (xs := xs) (fun i H' => Own H0 H' ((P, .lst ((xs.take i).filterMap sel)) :: L) ∧ Stp H H') ⟨o.new hP, .of (same_new hP)⟩ (fun i H' _ p => h H' _ _ p.1) (fun i x H' hi p => ?_) (fun H' p => k P H' p.2 (by have p := p.1; rw [List.take_of_length_le (Nat.le_refl _)] at p; exact p))
  refine he i x P _ H' _ hi p.1 p.2 fun σ2 hw ht hv => ⟨hw H' (Same.refl _), ?_⟩
  rw [fm_take hi]
  refine lc_turnF p.1 p.2 ?_ ht hv
  have h2 := fm_le (xs.take i) sel
  rw [List.length_take] at h2
  omega
theorem lcGT {a : Addr} {xs : List V} {g : TG} {vs : List Nat} (sel : V → Option V) (o : Own H0 H L) (h : ∀ H' p zs, Own H0 H' ((p, .lst zs) :: L) → SqT K H' a xs) (h1 : SqT K H a xs) (hz : xs.length < 10000000)
    (he : ∀ (i : Nat) (x : V) (p : Addr) (zs : List V) (H' : Hp) (R : L2.St → Hp → Prop), xs[i]? = some x → Own H0 H' ((p, .lst zs) :: L) → Stp H H' →
      (∀ σ2, (∀ H2, Same H' H2 → wipe σ2 vs = wipe σ vs) → (∀ Q : Bool → Hp → Prop, (∀ H2, Same H' H2 → Q (sel x).isSome H2) → tt σ2 H' Q) → (∀ y H2, sel x = some y → Same H' H2 → ∀ Q : VK, RetV H2 Q y → te σ2 H2 Q) → R σ2 H') → g x (wipe σ vs) H' R)
    (k : ∀ p H', Stp H H' → Own H0 H' ((p, .lst (xs.filterMap sel)) :: L) → Q (.ref p) H') :
    ∃ a', V.ref a = .ref a' ∧ (∃ xs, SqT K H a' xs) ∧ RLc (Itt K a') g tt te vs σ H Q := by
  refine ⟨a, rfl, ⟨xs, h1⟩, fun P hP => ?_⟩
  refine lc_tup (K := K) (a := a) (xs := xs) (fun i H' => Own H0 H' ((P, .lst ((xs.take i).filterMap sel)) :: L) ∧ Stp H H') ⟨o.new hP, .of (same_new hP)⟩ (fun i H' _ p => h H' _ _ p.1) (fun i x H' hi p => ?_) (fun H' p => k P H' p.2 (by have p := p.1; rw [List.take_of_length_le (Nat.le_refl _)] at p; exact p))
  refine he i x P _ H' _ hi p.1 p.2 fun σ2 hw ht hv => ⟨hw H' (Same.refl _), ?_⟩
  rw [fm_take hi]
  refine lc_turnF p.1 p.2 ?_ ht hv
  have h2 := fm_le (xs.take i) sel
  rw [List.length_take] at h2
  omega
/-- .. over range(n) -/
theorem lcGR {n s : Nat} {vs : List Nat} (sel : Nat → Option V) (o : Own H0 H L) (hn : j = (n : Int)) (hz : n < 10000000) (hw : ∀ x, wipe ((wipe σ vs).set s (some x)) vs = wipe σ vs)
    (ht : ∀ (i : Nat) (p : Addr) (zs : List V) (H' : Hp) (Q : Bool → Hp → Prop), i < n → Own H0 H' ((p, .lst zs) :: L) → Stp H H' → (∀ H2, Same H' H2 → Q (sel i).isSome H2) → tt ((wipe σ vs).set s (some (.int (i : Int)))) H' Q)
    (he : ∀ (i : Nat) (y : V) (p : Addr) (zs : List V) (H' : Hp) (Q : VK), i < n → sel i = some y → Own H0 H' ((p, .lst zs) :: L) → Stp H H' → RetV H' Q y → te ((wipe σ vs).set s (some (.int (i : Int)))) H' Q)
    (k : ∀ p H', Stp H H' → Own H0 H' ((p, .lst ((List.range n).filterMap sel)) :: L) → Q (.ref p) H') :
    ∃ k : Int, [V.int j] = [.int k] ∧ -(2 ^ 62) ≤ k ∧ k < 2 ^ 62 ∧ RLc (Itr 0 k.toNat) (gName s) tt te vs σ H Q := by
  refine ⟨j, rfl, by omega, by omega, fun P hP => ?_⟩
  have e : j.toNat = n := by omega
  rw [e]
  refine lc_range (lo := 0) (n := n) (fun i H' => Own H0 H' ((P, .lst ((List.range i).filterMap sel)) :: L) ∧ Stp H H') ⟨o.new hP, .of (same_new hP)⟩ (fun i H' hi p => ?_) (fun H' p => k P H' p.2 p.1)
  have e0 : (0 : Int) + (i : Int) = (i : Int) := Int.zero_add _
  rw [e0]
  refine ⟨hw _, ?_⟩
  have e1 : (List.range (i + 1)).filterMap sel = (List.range i).filterMap sel ++ (sel i).toList := by
    rw [List.range_succ, List.filterMap_append]
    congr 1
  rw [e1]
  refine lc_turnF p.1 p.2 ?_ (fun Q q => ht i P _ H' Q hi p.1 p.2 q) (fun y H2 hy s2 Q q => he i y P _ H2 Q hi hy (p.1.mono s2) (p.2.trans (.of s2)) q)
  have h2 := fm_le (List.range i) sel
  rw [List.length_range] at h2
  omega
end
/-- ints chosen and mapped -/
def selI (p : Int → Bool) (f : Int → V) : V → Option V
  | .int x => if p x then some (f x) else none
  | _ => none
theorem fm_ints (p : Int → Bool) (f : Int → V) : ∀ ns : List Int, (ns.map V.int).filterMap (selI p f) = (ns.filter p).map f
  | [] => rfl
  | n :: ns => by
    show List.filterMap (selI p f) (V.int n :: ns.map V.int) = _
    have e : selI p f (V.int n) = if p n then some (f n) else none := rfl
    rw [List.filterMap_cons, List.filter_cons, fm_ints p f ns, e]
    cases p n <;> rfl
section
variable {σ : L2.St} {H H0 : Hp} {Q : VK} {te : TE} {tt : TT} {K : PySem.W.Frag} {L : List (Addr × HO)}
theorem lcLIF {a : Addr} {ns : List Int} {s : Nat} {vs : List Nat} (p : Int → Bool) (f : Int → V) (o : Own H0 H L) (h : ∀ H' p zs, Own H0 H' ((p, .lst zs) :: L) → SqL K H' a (ns.map V.int)) (h1 : SqL K H a (ns.map V.int)) (hz : ns.length < 10000000) (hw : ∀ x, wipe ((wipe σ vs).set s (some x)) vs = wipe σ vs)
    (ht : ∀ (x : Int) (q : Addr) (zs : List V) (H' : Hp) (Q : Bool → Hp → Prop), x ∈ ns → Own H0 H' ((q, .lst zs) :: L) → (∀ H2, Same H' H2 → Q (p x) H2) → tt ((wipe σ vs).set s (some (.int x))) H' Q)
    (he : ∀ (x : Int) (q : Addr) (zs : List V) (H' : Hp) (Q : VK), x ∈ ns → p x = true → Own H0 H' ((q, .lst zs) :: L) → RetV H' Q (f x) → te ((wipe σ vs).set s (some (.int x))) H' Q)
    (k : ∀ q H', Own H0 H' ((q, .lst ((ns.filter p).map f)) :: L) → Q (.ref q) H') :
    ∃ a', V.ref a = .ref a' ∧ (∃ xs, SqL K H a' xs) ∧ RLc (Itl K a') (gName s) tt te vs σ H Q := by
  refine lcGL (selI p f) o h h1 (by rw [List.length_map]; exact hz) (fun i v q zs H' R hi o' _ r => ?_) (fun q H' _ o' => k q H' (by rw [fm_ints] at o'; exact o'))
  rw [List.getElem?_map] at hi
  cases e : ns[i]? with
  | none => rw [e] at hi; cases hi
  | some x =>
    rw [e] at hi
    cases hi
    have hx := List.mem_of_getElem? e
    refine r _ (fun _ _ => hw _) (fun Q qq => ht x q zs H' Q hx o' fun H2 s2 => ?_) fun y H2 hy s2 Q qq => ?_
    · have z := qq H2 s2
      have e2 : (selI p f (V.int x)).isSome = p x := by show (if p x then some (f x) else none).isSome = p x; cases p x <;> rfl
      rw [e2] at z
      exact z
    · have hy2 : (if p x then some (f x) else none) = some y := hy
      cases hp : p x with
      | false => rw [hp] at hy2; cases hy2
      | true =>
        rw [hp] at hy2
        cases hy2
        exact he x q zs H2 Q hx hp (o'.mono s2) qq
theorem lcTIF {a : Addr} {ns : List Int} {s : Nat} {vs : List Nat} (p : Int → Bool) (f : Int → V) (o : Own H0 H L) (h : ∀ H' p zs, Own H0 H' ((p, .lst zs) :: L) → SqT K H' a (ns.map V.int)) (h1 : SqT K H a (ns.map V.int)) (hz : ns.length < 10000000) (hw : ∀ x, wipe ((wipe σ vs).set s (some x)) vs = wipe σ vs)
    (ht : ∀ (x : Int) (q : Addr) (zs : List V) (H' : Hp) (Q : Bool → Hp → Prop), x ∈ ns → Own H0 H' ((q, .lst zs) :: L) → (∀ H2, Same H' H2 → Q (p x) H2) → tt ((wipe σ vs).set s (some (.int x))) H' Q)
    (he : ∀ (x : Int) (q : Addr) (zs : List V) (H' : Hp) (Q : VK), x ∈ ns → p x = true → Own H0 H' ((q, .lst zs) :: L) → RetV H' Q (f x) → te ((wipe σ vs).set s (some (.int x))) H' Q)
    (k : ∀ q H', Own H0 H' ((q, .lst ((ns.filter p).map f)) :: L) → Q (.ref q) H') :
    ∃ a', V.ref a = .ref a' ∧ (∃ xs, SqT K H a' xs) ∧ RLc (Itt K a') (gName s) tt te vs σ H Q := by
  refine lcGT (selI p f) o h h1 (by rw [List.length_map]; exact hz) (fun i v q zs H' R hi o' _ r => ?_) (fun q H' _ o' => k q H' (by rw [fm_ints] at o'; exact o'))
  rw [List.getElem?_map] at hi
  cases e : ns[i]? with
  | none => rw [e] at hi; cases hi
  | some x =>
    rw [e] at hi
    cases hi
    have hx := List.mem_of_getElem? e
    refine r _ (fun _ _ => hw _) (fun Q qq => ht x q zs H' Q hx o' fun H2 s2 => ?_) fun y H2 hy s2 Q qq => ?_
    · have z := qq H2 s2
      have e2 : (selI p f (V.int x)).isSome = p x := by show (if p x then some (f x) else none).isSome = p x; cases p x <;> rfl
      rw [e2] at z
      exact z
    · have hy2 : (if p x then some (f x) else none) = some y := hy
      cases hp : p x with
      | false => rw [hp] at hy2; cases hy2
      | true =>
        rw [hp] at hy2
        cases hy2
        exact he x q zs H2 Q hx hp (o'.mono s2) qq
/-- without a test -/
theorem lcTIV {a : Addr} {ns : List Int} {s : Nat} {vs : List Nat} (f : Int → V) (o : Own H0 H L) (h : ∀ H' p zs, Own H0 H' ((p, .lst zs) :: L) → SqT K H' a (ns.map V.int)) (h1 : SqT K H a (ns.map V.int)) (hz : ns.length < 10000000) (hw : ∀ x, wipe ((wipe σ vs).set s (some x)) vs = wipe σ vs)
    (he : ∀ (x : Int) (q : Addr) (zs : List V) (H' : Hp) (Q : VK), x ∈ ns → Own H0 H' ((q, .lst zs) :: L) → RetV H' Q (f x) → te ((wipe σ vs).set s (some (.int x))) H' Q)
    (k : ∀ q H', Own H0 H' ((q, .lst (ns.map f)) :: L) → Q (.ref q) H') :
    ∃ a', V.ref a = .ref a' ∧ (∃ xs, SqT K H a' xs) ∧ RLc (Itt K a') (gName s) tYes te vs σ H Q :=
  lcTIF (fun _ => true) f o h h1 hz hw (fun x q zs H' Q _ _ r => r H' (Same.refl _)) (fun x q zs H' Q hx _ o' r => he x q zs H' Q hx o' r) (fun q H' o' => k q H' (by rw [List.filter_eq_self.mpr (fun _ _ => rfl)] at o'; exact o'))
end

/-! ### constants reckoned, chains, all, any, bools -/
theorem pe_powC {X : Cx} {a b c : Int} {j1 j2 : Nat} {p1 p2 pos : Pos} (hc : CPow a b) (h : a ^ b.toNat = c) : PE X (.BinOp (.Constant (.int a) j1 p1) .Pow (.Constant (.int b) j2 p2) pos) (tC (.int c)) :=
  ⟨fun pins s σ H Q I h0 => (pe_op op_pow pe_int pe_int).run pins s σ H Q I (show rI CPow (fun i j => .int (i ^ j.toNat)) (.int a) (.int b) H Q from ⟨a, b, rfl, rfl, hc, by show Q (.int (a ^ b.toNat)) H; rw [h]; exact h0⟩)⟩
section
variable {σ : L2.St} {H : Hp} {Q : VK} {ta tb tc : TE} {K : PySem.W.Frag} {i j k : Int}
theorem r_chain {r r' : R2} (q : ta σ H fun x H1 => tb σ H1 fun y H2 => r x y H2 fun z H3 => RBl z H3 fun k H3 => RIf k (tc σ H3 fun w' H4 => r' y w' H4 Q) (Q (.bl false) H3)) : tChain r r' ta tb tc σ H Q := q
theorem r_all {a : Addr} {bs : List Bool} (h : SqL K H a (bs.map V.bl)) (q : Q (.bl (bs.all id)) H) : rAll K [.ref a] H Q := ⟨a, bs, rfl, h, q⟩
theorem r_any {a : Addr} {bs : List Bool} (h : SqL K H a (bs.map V.bl)) (q : Q (.bl (bs.any id)) H) : rAny K [.ref a] H Q := ⟨a, bs, rfl, h, q⟩
theorem r_isB {a b : Bool} (q : Q (.bl (decide (a = b))) H) : rIsB (.bl a) (.bl b) H Q := ⟨a, b, rfl, rfl, q⟩
end

/-! ### items from the end -/
theorem at_neg {ns : List Int} {d : Nat} (h0 : 0 < d) (h1 : d ≤ ns.length) : atI (ns.map V.int) (-(d : Int)) = some (.int (gi ns ((ns.length : Int) - (d : Int)))) := by
  unfold atI ixN
  rw [List.length_map, if_neg (by omega), if_pos (by omega)]
  show (ns.map V.int)[(-(d : Int) + (ns.length : Int)).toNat]? = _
  rw [show (-(d : Int) + (ns.length : Int)).toNat = ns.length - d by omega, List.getElem?_map, List.getElem?_eq_getElem (show ns.length - d < ns.length by omega)]
  unfold gi
  rw [show ((ns.length : Int) - (d : Int)).toNat = ns.length - d by omega, List.getD_eq_getElem?_getD, List.getElem?_eq_getElem (show ns.length - d < ns.length by omega)]
  rfl
theorem ix_neg {n d : Nat} (h0 : 0 < d) (h1 : d ≤ n) : ixN n (-(d : Int)) = some (n - d) := by
  unfold ixN
  rw [if_neg (by omega), if_pos (by omega)]
  congr 1
  omega
theorem fm_filter {α β : Type} (p : α → Bool) (f : α → β) : ∀ l : List α, l.filterMap (fun k => if p k then some (f k) else none) = (l.filter p).map f
  | [] => rfl
  | x :: l => by
    rw [List.filterMap_cons, List.filter_cons, fm_filter p f l]
    cases p x <;> rfl
/-! ### lists of ints cut and glued -/
theorem gi_nat {ns : List Int} {k : Nat} (h : k < ns.length) : gi ns (k : Int) = ns[k] := by
  unfold gi
  rw [List.getD_eq_getElem?_getD, show ((k : Int)).toNat = k from rfl, List.getElem?_eq_getElem h]
  rfl
theorem take_drop_sum {ns : List Int} {k : Nat} {z : Int} (h : k < ns.length) : (ns.take k ++ [z] ++ ns.drop (k + 1)).sum = ns.sum - gi ns k + z := by
  have e : ns.sum = (ns.take k ++ [ns[k]] ++ ns.drop (k + 1)).sum := by
    congr 1
    rw [List.append_assoc, List.singleton_append, List.getElem_cons_drop, List.take_append_drop]
  rw [e, gi_nat h]
  simp only [List.sum_append, List.sum_cons, List.sum_nil]
  omega
theorem map_cut3 {ns : List Int} {k : Nat} {z : Int} : ((ns.map V.int).take k ++ [V.int z]) ++ (ns.map V.int).drop (k + 1) = (ns.take k ++ [z] ++ ns.drop (k + 1)).map V.int := by
  rw [List.map_append, List.map_append, List.map_take, List.map_drop]
  rfl
theorem len_cut3 {ns : List Int} {k : Nat} {z : Int} (h : k < ns.length) : (ns.take k ++ [z] ++ ns.drop (k + 1)).length = ns.length := by
  rw [List.length_append, List.length_append, List.length_take, List.length_drop]
  simp
  omega

/-! ### a value or an answer known by a word only -/
def tCutE (t : TE) : TE := fun σ H Q => ∃ R : VK, t σ H R ∧ ∀ v H', R v H' → Q v H'
def tCutT (t : TT) : TT := fun σ H Q => ∃ R : Bool → Hp → Prop, t σ H R ∧ ∀ b H', R b H' → Q b H'
theorem pe_cutE {X : Cx} {e : Expr} {t : TE} (he : PE X e t) : PE X e (tCutE t) := ⟨fun pins s σ H Q I ⟨R, h, k⟩ => thn (he.run pins s σ H R I h) fun _ _ ⟨v, H', I', r, q⟩ => ⟨v, H', I', r, k v H' q⟩⟩
theorem pt_cutT {X : Cx} {e : Expr} {t : TT} (he : PT X e t) : PT X e (tCutT t) := ⟨fun pins s σ H Q I ⟨R, h, k⟩ => thn (he.run pins s σ H R I h) fun b _ ⟨H', I', q⟩ => ⟨H', I', k b H' q⟩⟩
theorem r_cutE {σ : L2.St} {H : Hp} {Q : VK} {t : TE} (R : VK) (h : t σ H R) (k : ∀ v H', R v H' → Q v H') : tCutE t σ H Q := ⟨R, h, k⟩
theorem r_cutT {σ : L2.St} {H : Hp} {Q : Bool → Hp → Prop} {t : TT} (R : Bool → Hp → Prop) (h : t σ H R) (k : ∀ b H', R b H' → Q b H') : tCutT t σ H Q := ⟨R, h, k⟩
/-- the value is an int of which P holds; the heap stands -/
def IntR (H : Hp) (P : Int → Prop) : VK := fun v H' => H' = H ∧ ∃ m, v = .int m ∧ P m
theorem r_cutI {σ : L2.St} {H : Hp} {Q : VK} {t : TE} (P : Int → Prop) (h : t σ H (IntR H P)) (k : ∀ m, P m → Q (.int m) H) : tCutE t σ H Q := ⟨_, h, fun v H' ⟨e, m, e2, p⟩ => by subst e; subst e2; exact k m p⟩
/-- the answer is that of p; the heap stands -/
theorem r_cutB {σ : L2.St} {H : Hp} {Q : Bool → Hp → Prop} {t : TT} (c : Bool) (h : t σ H fun b H' => b = c ∧ H' = H) (k : Q c H) : tCutT t σ H Q := ⟨_, h, fun v H' ⟨e, e2⟩ => by subst e; subst e2; exact k⟩
/-- the value is v; the heap may have grown -/
theorem r_cutO {H0 : Hp} {σ : L2.St} {H : Hp} {Q : VK} {t : TE} (v : V) (L : List (Addr × HO)) (h : t σ H fun v' H' => v' = v ∧ Own H0 H' L) (k : ∀ H', Own H0 H' L → Q v H') : tCutE t σ H Q := ⟨_, h, fun v' H' ⟨e, o⟩ => by subst e; exact k H' o⟩
theorem rif_p {p : Prop} [Decidable p] {A B : Prop} (h1 : p → A) (h2 : ¬ p → B) : RIf (decide p) A B := rif h1 h2

/-! ### data of tuples: it stands while lists change -/
mutual
inductive Tp (K : PySem.W.Frag) (H : Hp) : V → PyData → Prop
  | non : Tp K H .non .none
  | bl (b : Bool) : Tp K H (.bl b) (.bool b)
  | int (i : Int) : Tp K H (.int i) (.int i)
  | str (x : Str) : Tp K H (.str x) (.str x)
  | tup {a : Addr} {xs : List V} {ds : List PyData} : SqT K H a xs → TpAll K H xs ds → Tp K H (.ref a) (.tuple ds)
inductive TpAll (K : PySem.W.Frag) (H : Hp) : List V → List PyData → Prop
  | nil : TpAll K H [] []
  | cons {v : V} {vs : List V} {d : PyData} {ds : List PyData} : Tp K H v d → TpAll K H vs ds → TpAll K H (v :: vs) (d :: ds)
end
section
variable {K : PySem.W.Frag} {H H' H0 : Hp} {Q : VK} {L : List (Addr × HO)}
mutual
theorem Tp.stp (e : Stp H H') : ∀ (d : PyData) (v : V), Tp K H v d → Tp K H' v d
  | .none, _, h => by cases h; exact .non
  | .bool b, _, h => by cases h; exact .bl b
  | .int i, _, h => by cases h; exact .int i
  | .str x, _, h => by cases h; exact .str x
  | .tuple ds, _, h => by
    cases h with
    | tup hs ha => exact .tup (e.sq hs) (TpAll.stp e ds _ ha)
  | .list _, _, h => by cases h
  | .dict _, _, h => by cases h
theorem TpAll.stp (e : Stp H H') : ∀ (ds : List PyData) (vs : List V), TpAll K H vs ds → TpAll K H' vs ds
  | [], _, h => by cases h; exact .nil
  | d :: ds, _, h => by
    cases h with
    | cons h1 h2 => exact .cons (Tp.stp e d _ h1) (TpAll.stp e ds _ h2)
end
mutual
theorem Tp.dp : ∀ (d : PyData) (v : V), Tp K H v d → Dp K H v d
  | .none, _, h => by cases h; exact .non
  | .bool b, _, h => by cases h; exact .bl b
  | .int i, _, h => by cases h; exact .int i
  | .str x, _, h => by cases h; exact .str x
  | .tuple ds, _, h => by
    cases h with
    | tup hs ha => exact .tup hs (TpAll.dp ds _ ha)
  | .list _, _, h => by cases h
  | .dict _, _, h => by cases h
theorem TpAll.dp : ∀ (ds : List PyData) (vs : List V), TpAll K H vs ds → DpAll K H vs ds
  | [], _, h => by cases h; exact .nil
  | d :: ds, _, h => by
    cases h with
    | cons h1 h2 => exact .cons (Tp.dp d _ h1) (TpAll.dp ds _ h2)
end
theorem Tp.up {v : V} {d : PyData} (h : Tp K H v d) (e : Stp H H') : Tp K H' v d := Tp.stp e d v h
theorem TpAll.up {vs : List V} {ds : List PyData} (h : TpAll K H vs ds) (e : Stp H H') : TpAll K H' vs ds := TpAll.stp e ds vs h
theorem TpAll.len : ∀ {vs : List V} {ds : List PyData}, TpAll K H vs ds → vs.length = ds.length
  | _, _, .nil => rfl
  | _, _, .cons _ h => by rw [List.length_cons, List.length_cons, TpAll.len h]
theorem TpAll.get : ∀ {vs : List V} {ds : List PyData} {i : Nat} {d : PyData}, TpAll K H vs ds → ds[i]? = some d → ∃ v, vs[i]? = some v ∧ Tp K H v d
  | _, _, _, _, .nil, h => by simp at h
  | _, _, 0, _, .cons a _, h => by simp at h; subst h; exact ⟨_, rfl, a⟩
  | _, _, i + 1, _, .cons _ t, h => by
    obtain ⟨v, h1, h2⟩ := TpAll.get (i := i) t (by simpa using h)
    exact ⟨v, by simpa using h1, h2⟩
theorem TpAll.getV : ∀ {vs : List V} {ds : List PyData} {i : Nat} {v : V}, TpAll K H vs ds → vs[i]? = some v → ∃ d, ds[i]? = some d ∧ Tp K H v d
  | _, _, _, _, .nil, h => by simp at h
  | _, _, 0, _, .cons a _, h => by simp at h; subst h; exact ⟨_, rfl, a⟩
  | _, _, i + 1, _, .cons _ t, h => by
    obtain ⟨v, h1, h2⟩ := TpAll.getV (i := i) t (by simpa using h)
    exact ⟨v, by simpa using h1, h2⟩
theorem TpAll.app : ∀ {vs ws : List V} {ds es : List PyData}, TpAll K H vs ds → TpAll K H ws es → TpAll K H (vs ++ ws) (ds ++ es)
  | _, _, _, _, .nil, h => h
  | _, _, _, _, .cons a t, h => .cons a (TpAll.app t h)
theorem TpAll.snoc {vs : List V} {ds : List PyData} {v : V} {d : PyData} (h : TpAll K H vs ds) (t : Tp K H v d) : TpAll K H (vs ++ [v]) (ds ++ [d]) := h.app (.cons t .nil)
theorem TpAll.take : ∀ {vs : List V} {ds : List PyData} (n : Nat), TpAll K H vs ds → TpAll K H (vs.take n) (ds.take n)
  | _, _, _, .nil => by simp; exact .nil
  | _, _, 0, .cons _ _ => .nil
  | _, _, n + 1, .cons a t => .cons a (TpAll.take n t)
theorem TpAll.drop : ∀ {vs : List V} {ds : List PyData} (n : Nat), TpAll K H vs ds → TpAll K H (vs.drop n) (ds.drop n)
  | _, _, _, .nil => by simp; exact .nil
  | _, _, 0, .cons a t => .cons a t
  | _, _, n + 1, .cons _ t => TpAll.drop n t
theorem TpAll.ints : ∀ ns : List Int, TpAll K H (ns.map V.int) (ns.map PyData.int)
  | [] => .nil
  | n :: ns => .cons (.int n) (TpAll.ints ns)
theorem TpAll.ints_inv : ∀ {vs : List V} {ns : List Int}, TpAll K H vs (ns.map PyData.int) → vs = ns.map V.int
  | _, [], h => by cases h; rfl
  | _, n :: ns, h => by
    cases h with
    | cons a t => cases a; rw [TpAll.ints_inv t]; rfl
theorem Tp.inv {v : V} {ds : List PyData} (h : Tp K H v (.tuple ds)) : ∃ a xs, v = .ref a ∧ SqT K H a xs ∧ TpAll K H xs ds := by
  cases h with
  | tup hs ha => exact ⟨_, _, rfl, hs, ha⟩
theorem Tp.invI {v : V} {ns : List Int} (h : Tp K H v (.tuple (ns.map PyData.int))) : ∃ a, v = .ref a ∧ SqT K H a (ns.map V.int) := by
  obtain ⟨a, xs, rfl, hs, ha⟩ := h.inv
  rw [TpAll.ints_inv ha] at hs
  exact ⟨a, rfl, hs⟩
theorem Tp.intsT {a : Addr} {ns : List Int} (h : SqT K H a (ns.map V.int)) : Tp K H (.ref a) (.tuple (ns.map PyData.int)) := .tup h (TpAll.ints ns)
theorem Tp.int_inv {v : V} {n : Int} (h : Tp K H v (.int n)) : v = .int n := by cases h; rfl
theorem Tp.str_inv {v : V} {n : Str} (h : Tp K H v (.str n)) : v = .str n := by cases h; rfl
/-- t[i] of such a tuple -/
theorem r_ixTp {v : V} {ds : List PyData} {i : Nat} {d : PyData} (h : Tp K H v (.tuple ds)) (hd : ds[i]? = some d) (k : ∀ u, Tp K H u d → Q u H) : rIxT K v (.int (i : Int)) H Q := by
  obtain ⟨a, xs, rfl, hs, ha⟩ := h.inv
  obtain ⟨u, hu, t⟩ := ha.get hd
  exact r_ixT hs (atI_nat hu) (k u t)
theorem r_ixTpI {v : V} {ds : List PyData} {i : Nat} {n : Int} (h : Tp K H v (.tuple ds)) (hd : ds[i]? = some (.int n)) (q : Q (.int n) H) : rIxT K v (.int (i : Int)) H Q := r_ixTp h hd fun u t => by cases t; exact q
/-- a value of such data that a call hands back -/
def RetD (K : PySem.W.Frag) (H : Hp) (Q : VK) (d : PyData) : Prop := ∀ H' v, Same H H' → Tp K H' v d → Q v H'
theorem r_retD {v : PyData} (o : Own H0 H L) (k : ∀ u H', Same H H' → Own H0 H' L → Tp K H' u v → Q u H') : RetD K H Q v := fun H' u e t => k u H' e (o.mono e) t
theorem RetD.mk {v : V} {d : PyData} (q : RetD K H0 Q d) (o : Own H0 H L) (t : Tp K H v d) : Q v H := q H v o.ex t
/-! the rules that tell that tuples stand -/
theorem r_newLs {xs : List V} (o : Own H0 H L) (hz : xs.length ≤ 10000000) (k : ∀ p H', Stp H H' → Own H0 H' ((p, .lst xs) :: L) → Q (.ref p) H') : RNewL xs H Q := ⟨sz100 hz, fun p hp => k p _ (.of (same_new hp)) (o.new hp)⟩
theorem r_newTs {xs : List V} (o : Own H0 H L) (hz : xs.length ≤ 10000000) (k : ∀ p H', Stp H H' → Own H0 H' L → SqT K H' p xs → Q (.ref p) H') : RNewT xs H Q := ⟨sz100 hz, fun p hp => k p _ (.of (same_new hp)) (o.mono (same_new hp)) (SqT.of upd_same)⟩
theorem r_newTi {xs : List V} (ns : List Int) (e : xs = ns.map V.int) (o : Own H0 H L) (hz : ns.length ≤ 10000000) (k : ∀ p H', Stp H H' → Own H0 H' L → SqT K H' p (ns.map V.int) → Q (.ref p) H') : RNewT xs H Q := by
  subst e
  exact r_newTs o (by rw [List.length_map]; exact hz) k
theorem r_newTp {xs : List V} {ds : List PyData} (o : Own H0 H L) (ha : TpAll K H xs ds) (hz : xs.length ≤ 10000000) (k : ∀ p H', Stp H H' → Own H0 H' L → Tp K H' (.ref p) (.tuple ds) → Q (.ref p) H') : RNewT xs H Q :=
  r_newTs o hz fun p H' s o' h => k p H' s o' (.tup h (ha.up s))
theorem r_apps {l : Addr} {xs : List V} {y : V} (o : Own H0 H L) (n : Nat) (h : L[n]? = some (l, .lst xs)) (hz : xs.length < 10000000) (k : ∀ H', Stp H H' → Own H0 H' (L.set n (l, .lst (xs ++ [y]))) → Q .non H') : rAppend (.ref l) [y] H Q :=
  ⟨l, xs, y, rfl, rfl, o.at n h, sz_lt hz, k _ (Stp.set (o.at n h)) (o.set n h)⟩
theorem r_setLs {l : Addr} {xs : List V} {k : Nat} {i : Int} {v : V} {R : Hp → Prop} (o : Own H0 H L) (n : Nat) (h : L[n]? = some (l, .lst xs)) (hj : ixN xs.length i = some k) (q : ∀ H', Stp H H' → Own H0 H' (L.set n (l, .lst (xs.set k v))) → R H') : rSetL (.ref l) (.int i) v H R :=
  ⟨l, xs, i, k, rfl, rfl, o.at n h, hj, q _ (Stp.set (o.at n h)) (o.set n h)⟩
theorem r_tupLs {p : Addr} {xs : List V} (o : Own H0 H L) (h : SqL K H p xs) (k : ∀ l H', Stp H H' → Own H0 H' L → SqT K H' l xs → Q (.ref l) H') : rTupS K [.ref p] H Q :=
  ⟨p, xs, rfl, .inl ⟨h, fun l hl => k l _ (.of (same_new hl)) (o.mono (same_new hl)) (SqT.of upd_same)⟩⟩
theorem r_ret1s {u : HO} (o : Own H0 H L) (k : ∀ p H', Stp H H' → Own H0 H' ((p, u) :: L) → Q (.ref p) H') : RetO H Q u := fun H' p e f h => k p H' (.of e) (o.add e f h)
theorem r_slLs {a : Addr} {xs : List V} {lo hi : Option Int} (o : Own H0 H L) (h : SqL K H a xs) (k : ∀ p H', Stp H H' → Own H0 H' ((p, .lst (cutV xs lo hi)) :: L) → Q (.ref p) H') : rSlL K (.ref a) lo hi H Q := ⟨a, xs, rfl, h, fun p hp => k p _ (.of (same_new hp)) (o.new hp)⟩
theorem r_cats {a b : Addr} {xs ys : List V} (o : Own H0 H L) (ha : H a = some (.lst xs)) (hb : H b = some (.lst ys)) (hz : xs.length + ys.length ≤ 10000000) (k : ∀ p H', Stp H H' → Own H0 H' ((p, .lst (xs ++ ys)) :: L) → Q (.ref p) H') : rCat (.ref a) (.ref b) H Q :=
  ⟨a, b, xs, ys, rfl, rfl, ha, hb, sz100 hz, fun p hp => k p _ (.of (same_new hp)) (o.new hp)⟩
theorem r_lists {p : Addr} {xs : List V} (o : Own H0 H L) (h : SqL K H p xs) (k : ∀ l H', Stp H H' → Own H0 H' ((l, .lst xs) :: L) → Q (.ref l) H') : Evl.rListS K [.ref p] H Q := ⟨p, xs, rfl, .inl h, fun l hl => k l _ (.of (same_new hl)) (o.new hl)⟩
theorem r_listTs {p : Addr} {xs : List V} (o : Own H0 H L) (h : SqT K H p xs) (k : ∀ l H', Stp H H' → Own H0 H' ((l, .lst xs) :: L) → Q (.ref l) H') : Evl.rListS K [.ref p] H Q := ⟨p, xs, rfl, .inr h, fun l hl => k l _ (.of (same_new hl)) (o.new hl)⟩
theorem r_eqTp {v u : V} {d e : PyData} (h : Tp K H v d) (h2 : Tp K H u e) (s1 : SeqAt.shaped d = true) (s2 : SeqAt.shaped e = true) (q : Q (.bl (PyData.eqv d e)) H) : rEqD K v u H Q := ⟨d, e, h.dp, h2.dp, s1, s2, q⟩
end

theorem ty_sqT {K : PySem.W.Frag} {H : Hp} {a : Addr} {xs : List V} (h : SqT K H a xs) : TyX K H (.ref a) (.type "tuple") := by
  rcases h with (h | ⟨o, h⟩) | ⟨o, its, n, h1, h2, _⟩
  · exact .base (.tup h)
  · exact .fTuple h
  · exact .kTuple h1 h2
theorem ty_sqL {K : PySem.W.Frag} {H : Hp} {a : Addr} {xs : List V} (h : SqL K H a xs) : TyX K H (.ref a) (.type "list") := by
  rcases h with (h | ⟨o, h⟩) | ⟨o, its, n, h1, h2, _⟩
  · exact .base (.lst h)
  · exact .base (.frz h)
  · exact .kList h1 h2
/-! ### zip -/
section
variable {σ : L2.St} {H : Hp} {K : PySem.W.Frag} {tr : TA} {D : Ends} {ts : TS} {g : TG}
def RZipA (K : PySem.W.Frag) (vs : List V) (H1 : Hp) (R : It → Hp → Prop) : Prop := ∃ a b xs ys, vs = [.ref a, .ref b] ∧ ((SqL K H1 a xs ∧ SqL K H1 b ys ∧ R (Itz K a b) H1) ∨ (SqT K H1 a xs ∧ SqT K H1 b ys ∧ R (RZ.ItzT K a b) H1))
theorem r_zipA {R : It → Hp → Prop} (q : tr σ H fun vs H1 => RZipA K vs H1 R) : RZ.iZipA K tr σ H R := q
theorem forZT {a b : Addr} {xs ys : List V} (ha : SqT K H a xs) (hb : SqT K H b ys) (hl : xs.length = ys.length) (Pv : Nat → L2.St → Hp → Prop) (h0 : Pv 0 σ H) (hq : ∀ i σ H, Pv i σ H → SqT K H a xs ∧ SqT K H b ys)
    (hs : ∀ (i : Nat) (x y : V) (T : Addr) (σ : L2.St) (H : Hp), xs[i]? = some x → ys[i]? = some y → Pv i σ H → H T = none → g (.ref T) σ (upd H T (.tup [x, y])) fun σ2 H2 => ts { D with nx := Pv (i + 1), ct := Pv (i + 1), bk := D.nx } σ2 H2) (hd : ∀ σ H, Pv xs.length σ H → D.nx σ H) :
    RZipA K [.ref a, .ref b] H fun J H1 => RFor J g ts D σ H1 := ⟨a, b, xs, ys, rfl, .inr ⟨ha, hb, RZ.for_zipT hl Pv h0 hq hs hd⟩⟩
theorem forZL {a b : Addr} {xs ys : List V} (ha : SqL K H a xs) (hb : SqL K H b ys) (hl : xs.length = ys.length) (Pv : Nat → L2.St → Hp → Prop) (h0 : Pv 0 σ H) (hq : ∀ i σ H, Pv i σ H → SqL K H a xs ∧ SqL K H b ys)
    (hs : ∀ (i : Nat) (x y : V) (T : Addr) (σ : L2.St) (H : Hp), xs[i]? = some x → ys[i]? = some y → Pv i σ H → H T = none → g (.ref T) σ (upd H T (.tup [x, y])) fun σ2 H2 => ts { D with nx := Pv (i + 1), ct := Pv (i + 1), bk := D.nx } σ2 H2) (hd : ∀ σ H, Pv xs.length σ H → D.nx σ H) :
    RZipA K [.ref a, .ref b] H fun J H1 => RFor J g ts D σ H1 := ⟨a, b, xs, ys, rfl, .inl ⟨ha, hb, RZ.for_zipL hl Pv h0 hq hs hd⟩⟩
/-- x, y = t: the target of a walk over pairs -/
theorem r_gTup2 {a : Addr} {x y : V} {i j : Nat} {R : L2.St → Hp → Prop} (h : SqT K H a [x, y]) (q : R ((σ.set i (some x)).set j (some y)) H) : gTup K 2 (gCons (gName i) (gCons (gName j) gNil)) (.ref a) σ H R :=
  ⟨a, [x, y], rfl, h, rfl, x, [y], rfl, y, [], rfl, rfl, q⟩
theorem r_gTup3 {a : Addr} {x y z : V} {i j k : Nat} {R : L2.St → Hp → Prop} (h : SqT K H a [x, y, z]) (q : R (((σ.set i (some x)).set j (some y)).set k (some z)) H) : gTup K 3 (gCons (gName i) (gCons (gName j) (gCons (gName k) gNil))) (.ref a) σ H R :=
  ⟨a, [x, y, z], rfl, h, rfl, x, [y, z], rfl, y, [z], rfl, z, [], rfl, rfl, q⟩
def rMax2 : List V → Hp → VK → Prop := fun xs H Q => ∃ i j, xs = [.int i, .int j] ∧ Q (.int (if j > i then j else i)) H
def rMin2 : List V → Hp → VK → Prop := fun xs H Q => ∃ i j, xs = [.int i, .int j] ∧ Q (.int (if j < i then j else i)) H
theorem r_max2 {i j : Int} {Q : VK} (q : Q (.int (if j > i then j else i)) H) : rMax2 [.int i, .int j] H Q := ⟨i, j, rfl, q⟩
theorem r_min2 {i j : Int} {Q : VK} (q : Q (.int (if j < i then j else i)) H) : rMin2 [.int i, .int j] H Q := ⟨i, j, rfl, q⟩
def rIsNon : R2 := fun x y H Q => y = .non ∧ Q (.bl (decide (x = .non))) H
def rNotNon : R2 := fun x y H Q => y = .non ∧ Q (.bl (!decide (x = .non))) H
theorem r_isNonN {Q : VK} (q : Q (.bl true) H) : rIsNon .non .non H Q := ⟨rfl, by rw [decide_eq_true rfl]; exact q⟩
theorem r_isNonR {a : Addr} {Q : VK} (q : Q (.bl false) H) : rIsNon (.ref a) .non H Q := ⟨rfl, by rw [decide_eq_false (by simp)]; exact q⟩
theorem r_isNonI {a : Int} {Q : VK} (q : Q (.bl false) H) : rIsNon (.int a) .non H Q := ⟨rfl, by rw [decide_eq_false (by simp)]; exact q⟩
theorem r_notNonN {Q : VK} (q : Q (.bl false) H) : rNotNon .non .non H Q := ⟨rfl, by rw [decide_eq_true rfl]; exact q⟩
theorem r_notNonR {a : Addr} {Q : VK} (q : Q (.bl true) H) : rNotNon (.ref a) .non H Q := ⟨rfl, by rw [decide_eq_false (by simp)]; exact q⟩
theorem r_notNonI {a : Int} {Q : VK} (q : Q (.bl true) H) : rNotNon (.int a) .non H Q := ⟨rfl, by rw [decide_eq_false (by simp)]; exact q⟩
end

/-! ### texts -/
def rAddStr : R2 := fun x y H Q => ∃ i j, x = .str i ∧ y = .str j ∧ i.length + j.length ≤ sizeLine ∧ Q (.str (i ++ j)) H
def rIntS : List V → Hp → VK → Prop := fun xs H Q => ∃ a n, xs = [.str a] ∧ PySem.intText? a = some n ∧ a.length ≤ 640 ∧ Q (.int n) H
def rLenStr : List V → Hp → VK → Prop := fun xs H Q => ∃ z, xs = [.str z] ∧ z.length ≤ sizeLine ∧ Q (.int z.length) H
section
variable {σ : L2.St} {H H0 : Hp} {Q : VK} {K : PySem.W.Frag} {L : List (Addr × HO)} {te : TE} {tt : TT}
theorem r_addS {a b : Str} (hz : a.length + b.length ≤ 10000000) (q : Q (.str (a ++ b)) H) : rAddStr (.str a) (.str b) H Q := ⟨a, b, rfl, rfl, sz100 hz, q⟩
theorem r_lenS {a : Str} (hz : a.length ≤ 10000000) (q : Q (.int a.length) H) : rLenStr [.str a] H Q := ⟨a, rfl, sz100 hz, q⟩
theorem r_slS {a : Str} {lo hi : Option Int} (hz : a.length ≤ 10000000) (q : Q (.str (cutS a lo hi)) H) : rSlS (.str a) lo hi H Q := ⟨a, rfl, sz100 hz, q⟩
theorem cutS_len (a : Str) (lo hi : Option Int) : (cutS a lo hi).length ≤ a.length := by
  unfold cutS
  show (List.toArray _).size ≤ a.cps.size
  rw [List.size_toArray, List.length_take, List.length_drop, Array.length_toList]
  omega
theorem addS_len (a b : Str) : (a ++ b).length = a.length + b.length := by
  show (a.cps ++ b.cps).size = a.cps.size + b.cps.size
  exact Array.size_append
theorem r_in {neg : Bool} {x : V} {p : Addr} {xs : List V} (h : SqL K H p xs ∨ SqT K H p xs) (hx : flatV x = true) (ha : xs.all flatV = true) (q : Q (.bl (if neg then !inV x xs else inV x xs)) H) : rIn K neg x (.ref p) H Q := ⟨p, xs, rfl, h, hx, ha, q⟩
theorem r_inY {x : V} {p : Addr} {xs : List V} (h : SqL K H p xs ∨ SqT K H p xs) (hx : flatV x = true) (ha : xs.all flatV = true) (q : Q (.bl (inV x xs)) H) : rIn K false x (.ref p) H Q := r_in h hx ha q
theorem r_inN {x : V} {p : Addr} {xs : List V} (h : SqL K H p xs ∨ SqT K H p xs) (hx : flatV x = true) (ha : xs.all flatV = true) (q : Q (.bl (!inV x xs)) H) : rIn K true x (.ref p) H Q := r_in h hx ha q
theorem r_ixS {p : Addr} {zs : List Str} {i : Int} (h : SqL K H p (zs.map V.str)) (h0 : 0 ≤ i) (h1 : i < zs.length) (q : ∀ z, z ∈ zs → zs[i.toNat]? = some z → Q (.str z) H) : rIxL K (.ref p) (.int i) H Q := by
  have h2 : i.toNat < zs.length := by omega
  have e := List.getElem?_eq_getElem h2
  exact r_ixL h (at_map h0 e) (q _ (List.getElem_mem h2) e)
theorem flat_strs (zs : List Str) : (zs.map V.str).all flatV = true := by
  rw [List.all_map, List.all_eq_true]
  intro _ _
  rfl
/-- [e for x in t], over a tuple, by the item -/
theorem lcTV {a : Addr} {xs : List V} {s : Nat} {vs : List Nat} (f : V → V) (o : Own H0 H L) (h : ∀ H' p zs, Own H0 H' ((p, .lst zs) :: L) → SqT K H' a xs) (h1 : SqT K H a xs) (hz : xs.length < 10000000) (hw : ∀ x, wipe ((wipe σ vs).set s (some x)) vs = wipe σ vs)
    (he : ∀ (i : Nat) (x : V) (q : Addr) (zs : List V) (H' : Hp) (Q : VK), xs[i]? = some x → Own H0 H' ((q, .lst zs) :: L) → Stp H H' → RetV H' Q (f x) → te ((wipe σ vs).set s (some x)) H' Q)
    (k : ∀ q H', Stp H H' → Own H0 H' ((q, .lst (xs.map f)) :: L) → Q (.ref q) H') :
    ∃ a', V.ref a = .ref a' ∧ (∃ xs, SqT K H a' xs) ∧ RLc (Itt K a') (gName s) tYes te vs σ H Q :=
  lcGT (fun v => some (f v)) o h h1 hz (fun i x p zs H' R hi o' s' r => r _ (fun _ _ => hw _) (fun Q q => q H' (Same.refl _)) fun y H2 hy s2 Q q => by
    cases hy
    exact he i x p zs H2 Q hi (o'.mono s2) (s'.trans (.of s2)) q) (fun q H' s' o' => k q H' s' (by rw [show (fun v => some (f v)) = some ∘ f from rfl, List.filterMap_eq_map] at o'; exact o'))
theorem lcLV {a : Addr} {xs : List V} {s : Nat} {vs : List Nat} (f : V → V) (o : Own H0 H L) (h : ∀ H' p zs, Own H0 H' ((p, .lst zs) :: L) → SqL K H' a xs) (h1 : SqL K H a xs) (hz : xs.length < 10000000) (hw : ∀ x, wipe ((wipe σ vs).set s (some x)) vs = wipe σ vs)
    (he : ∀ (i : Nat) (x : V) (q : Addr) (zs : List V) (H' : Hp) (Q : VK), xs[i]? = some x → Own H0 H' ((q, .lst zs) :: L) → Stp H H' → RetV H' Q (f x) → te ((wipe σ vs).set s (some x)) H' Q)
    (k : ∀ q H', Stp H H' → Own H0 H' ((q, .lst (xs.map f)) :: L) → Q (.ref q) H') :
    ∃ a', V.ref a = .ref a' ∧ (∃ xs, SqL K H a' xs) ∧ RLc (Itl K a') (gName s) tYes te vs σ H Q :=
  lcGL (fun v => some (f v)) o h h1 hz (fun i x p zs H' R hi o' s' r => r _ (fun _ _ => hw _) (fun Q q => q H' (Same.refl _)) fun y H2 hy s2 Q q => by
    cases hy
    exact he i x p zs H2 Q hi (o'.mono s2) (s'.trans (.of s2)) q) (fun q H' s' o' => k q H' s' (by rw [show (fun v => some (f v)) = some ∘ f from rfl, List.filterMap_eq_map] at o'; exact o'))
/-- .. with a test, over a list -/
theorem lcLVF {a : Addr} {xs : List V} {s : Nat} {vs : List Nat} (sel : V → Option V) (o : Own H0 H L) (h : ∀ H' p zs, Own H0 H' ((p, .lst zs) :: L) → SqL K H' a xs) (h1 : SqL K H a xs) (hz : xs.length < 10000000) (hw : ∀ x, wipe ((wipe σ vs).set s (some x)) vs = wipe σ vs)
    (ht : ∀ (i : Nat) (x : V) (q : Addr) (zs : List V) (H' : Hp) (Q : Bool → Hp → Prop), xs[i]? = some x → Own H0 H' ((q, .lst zs) :: L) → Stp H H' → (∀ H2, Same H' H2 → Q (sel x).isSome H2) → tt ((wipe σ vs).set s (some x)) H' Q)
    (he : ∀ (i : Nat) (x y : V) (q : Addr) (zs : List V) (H' : Hp) (Q : VK), xs[i]? = some x → sel x = some y → Own H0 H' ((q, .lst zs) :: L) → Stp H H' → RetV H' Q y → te ((wipe σ vs).set s (some x)) H' Q)
    (k : ∀ q H', Stp H H' → Own H0 H' ((q, .lst (xs.filterMap sel)) :: L) → Q (.ref q) H') :
    ∃ a', V.ref a = .ref a' ∧ (∃ xs, SqL K H a' xs) ∧ RLc (Itl K a') (gName s) tt te vs σ H Q :=
  lcGL sel o h h1 hz (fun i x p zs H' R hi o' s' r => r _ (fun _ _ => hw _) (fun Q q => ht i x p zs H' Q hi o' s' q) fun y H2 hy s2 Q q => he i x y p zs H2 Q hi hy (o'.mono s2) (s'.trans (.of s2)) q) k
end
/-- a written tuple of the module -/
theorem sqT_top {K : PySem.W.Frag} {p : Addr} {od : Option Addr} {its : Array Value} {n : Nat} {sl : Array (Option Value)} {xs : List V} (l : K.lookup p = some ⟨.type "tuple", od, .seq its n, sl⟩) (hz : its.size ≤ sizeLine) (hv : Vals xs its.toList) : ∀ H : Hp, SqT K H p xs :=
  fun _ => .inr ⟨_, its, n, l, rfl, rfl, hz, hv⟩

/-! ### [e for p in range(n) for q in range(lo, hi, c)] -/
def RLc2 (J : It) (g : TG) (tt : TT) (wi1 : TI) (g1 : TG) (tt1 : TT) (te : TE) (vs vs1 : List Nat) (σ : L2.St) (H1 : Hp) (Q : VK) : Prop := ∀ D, H1 D = none → ∃ W : Nat → Nat → Hp → Prop, (∃ m, W 0 m (upd H1 D (.lst []))) ∧ ∀ i m H, W i m H →
  (J.stop i H ∧ Q (.ref D) H) ∨ (J.go i H ∧ ∃ Nx : Hp → Prop, (∀ H', Nx H' → ∃ m', m' < m ∧ W (i + 1) m' H') ∧ ∀ x H', J.yld i H x H' → g x (wipe σ vs) H' fun σ2 H2 => wipe σ2 vs = wipe σ vs ∧ tt σ2 H2 fun b H3 =>
    if b = true then wi1 σ2 H3 fun J1 H4 => ∃ W1 : Nat → Nat → Hp → Prop, (∃ m, W1 0 m H4) ∧ ∀ j k H, W1 j k H →
      (J1.stop j H ∧ Nx H) ∨ (J1.go j H ∧ ∃ Nx1 : Hp → Prop, (∀ H', Nx1 H' → ∃ k', k' < k ∧ W1 (j + 1) k' H') ∧ ∀ x H', J1.yld j H x H' → g1 x (wipe σ2 vs1) H' fun σ3 H5 => wipe σ3 vs1 = wipe σ2 vs1 ∧ tt1 σ3 H5 fun b H6 =>
        if b = true then te σ3 H6 fun y H7 => ∃ acc, H7 D = some (.lst acc) ∧ acc.length < sizeLine ∧ Nx1 (upd H7 D (.lst (acc ++ [y]))) else Nx1 H6)
    else Nx H3)
theorem r_lc2 {σ : L2.St} {H : Hp} {Q : VK} {wi wi1 : TI} {g g1 : TG} {tt tt1 : TT} {te : TE} {vs vs1 : List Nat} (q : wi σ H fun J H1 => RLc2 J g tt wi1 g1 tt1 te vs vs1 σ H1 Q) : tLc2 wi g tt wi1 g1 tt1 te vs vs1 σ H Q := q
theorem lc2R3 {σ : L2.St} {H H0 : Hp} {Q : VK} {L : List (Addr × HO)} {te : TE} {wi1 : TI} {j c : Int} {n s s1 : Nat} {vs vs1 : List Nat} (lo : Nat → Int) (m : Nat → Nat) (o : Own H0 H L) (hn : j = (n : Int)) (hz : n ≤ 10000000)
    (hzz : ((List.range n).flatMap fun p => (List.range (m p)).map fun (k : Nat) => V.int (lo p + (k : Int) * c)).length < 10000000)
    (hw : ∀ x, wipe ((wipe σ vs).set s (some x)) vs = wipe σ vs) (hw1 : ∀ x y, wipe ((wipe ((wipe σ vs).set s (some x)) vs1).set s1 (some y)) vs1 = wipe ((wipe σ vs).set s (some x)) vs1)
    (hin : ∀ (p : Nat) (H' : Hp) (R : It → Hp → Prop), p < n → R (Itc (lo p) c (m p)) H' → wi1 ((wipe σ vs).set s (some (.int (p : Int)))) H' R)
    (he : ∀ (x : V) (z : Int) (H' : Hp) (Q : VK), Q (.int z) H' → te ((wipe ((wipe σ vs).set s (some x)) vs1).set s1 (some (.int z))) H' Q)
    (k : ∀ p H', Own H0 H' ((p, .lst ((List.range n).flatMap fun p => (List.range (m p)).map fun (k : Nat) => V.int (lo p + (k : Int) * c))) :: L) → Q (.ref p) H') :
    ∃ k : Int, [V.int j] = [.int k] ∧ -(2 ^ 62) ≤ k ∧ k < 2 ^ 62 ∧ RLc2 (Itr 0 k.toNat) (gName s) tYes wi1 (gName s1) tYes te vs vs1 σ H Q := by
  have hout : ∀ i, i ≤ n → ((List.range i).flatMap fun p => (List.range (m p)).map fun (k : Nat) => V.int (lo p + (k : Int) * c)).length ≤ ((List.range n).flatMap fun p => (List.range (m p)).map fun (k : Nat) => V.int (lo p + (k : Int) * c)).length := fun i hi => by
    have e : List.range n = List.range i ++ (List.range (n - i)).map (i + ·) := by
      rw [← List.range_add]
      congr 1
      omega
    rw [e, List.flatMap_append, List.length_append]
    omega
  refine ⟨j, rfl, by omega, by omega, fun D hD => ?_⟩
  have e : j.toNat = n := by omega
  rw [e]
  refine ⟨fun i mm H' => mm = n - i ∧ i ≤ n ∧ Own H0 H' ((D, .lst ((List.range i).flatMap fun p => (List.range (m p)).map fun (k : Nat) => V.int (lo p + (k : Int) * c))) :: L), ⟨n, rfl, Nat.zero_le _, o.new hD⟩, ?_⟩
  rintro i mm H' ⟨rfl, hi, o'⟩
  by_cases hlt : i < n
  · refine .inr ⟨hlt, fun H2 => Own H0 H2 ((D, .lst ((List.range (i + 1)).flatMap fun p => (List.range (m p)).map fun (k : Nat) => V.int (lo p + (k : Int) * c))) :: L), fun H2 p2 => ⟨n - (i + 1), by omega, rfl, hlt, p2⟩, ?_⟩
    rintro x H2 ⟨rfl, rfl⟩
    have e0 : (0 : Int) + (i : Int) = (i : Int) := Int.zero_add _
    rw [e0]
    refine ⟨hw _, ?_⟩
    refine iteT (B := Own H0 H2 ((D, .lst ((List.range (i + 1)).flatMap fun p => (List.range (m p)).map fun (k : Nat) => V.int (lo p + (k : Int) * c))) :: L)) (hin i H2 _ hlt ?_)
    have hs : (List.range (i + 1)).flatMap (fun p => (List.range (m p)).map fun (k : Nat) => V.int (lo p + (k : Int) * c)) = (List.range i).flatMap (fun p => (List.range (m p)).map fun (k : Nat) => V.int (lo p + (k : Int) * c)) ++ (List.range (m i)).map fun (k : Nat) => V.int (lo i + (k : Int) * c) := by
      rw [List.range_succ, List.flatMap_append]
      simp
    rw [hs]
    have hl2 := hout (i + 1) hlt
    rw [hs, List.length_append, List.length_map, List.length_range] at hl2
    refine ⟨fun j2 k2 H3 => k2 = m i - j2 ∧ j2 ≤ m i ∧ Own H0 H3 ((D, .lst ((List.range i).flatMap (fun p => (List.range (m p)).map fun (k : Nat) => V.int (lo p + (k : Int) * c)) ++ (List.range j2).map fun (k : Nat) => V.int (lo i + (k : Int) * c))) :: L), ⟨m i, rfl, Nat.zero_le _, by rw [show ((List.range 0).map fun (k : Nat) => V.int (lo i + ((k : Nat) : Int) * c)) = [] from rfl, List.append_nil]; exact o'⟩, ?_⟩
    rintro j2 k2 H3 ⟨rfl, hj, o3⟩
    by_cases hlt2 : j2 < m i
    · refine .inr ⟨hlt2, fun H4 => Own H0 H4 ((D, .lst ((List.range i).flatMap (fun p => (List.range (m p)).map fun (k : Nat) => V.int (lo p + (k : Int) * c)) ++ (List.range (j2 + 1)).map fun (k : Nat) => V.int (lo i + (k : Int) * c))) :: L), fun H4 p4 => ⟨m i - (j2 + 1), by omega, rfl, hlt2, p4⟩, ?_⟩
      rintro x H4 ⟨rfl, rfl⟩
      refine ⟨hw1 _ _, ?_⟩
      refine iteT (B := Own H0 H4 ((D, .lst ((List.range i).flatMap (fun p => (List.range (m p)).map fun (k : Nat) => V.int (lo p + (k : Int) * c)) ++ (List.range (j2 + 1)).map fun (k : Nat) => V.int (lo i + (k : Int) * c))) :: L)) (he _ _ H4 _ ⟨_, o3.at 0 rfl, sz_lt ?_, ?_⟩)
      · rw [List.length_append, List.length_map, List.length_range]
        omega
      · have o5 := o3.set (v := .lst (((List.range i).flatMap (fun p => (List.range (m p)).map fun (k : Nat) => V.int (lo p + (k : Int) * c)) ++ (List.range j2).map fun (k : Nat) => V.int (lo i + (k : Int) * c)) ++ [V.int (lo i + (j2 : Int) * c)])) 0 rfl
        rw [List.range_succ, List.map_append, ← List.append_assoc]
        exact o5
    · refine .inl ⟨show m i ≤ j2 by omega, ?_⟩
      have ej : j2 = m i := by omega
      rw [ej] at o3
      exact o3
  · refine .inl ⟨show n ≤ i by omega, ?_⟩
    have ei : i = n := by omega
    rw [ei] at o'
    exact k D _ o'

theorem fm_some {α β : Type} (f : α → Option β) (g : α → β) : ∀ (l : List α), (∀ k ∈ l, f k = some (g k)) → l.filterMap f = l.map g
  | [], _ => rfl
  | x :: l, h => by
    rw [List.filterMap_cons, h x List.mem_cons_self, List.map_cons, fm_some f g l fun k hk => h k (List.mem_cons_of_mem _ hk)]
/-! ### xs[lo:hi:c] -/
def stpV (xs : List V) (lo hi : Option Int) (c : Int) : List V := (sliceRange (sliceBounds lo hi (some c) xs.length).1 (sliceBounds lo hi (some c) xs.length).2.1 (sliceBounds lo hi (some c) xs.length).2.2).filterMap (xs[·]?)
theorem vals_pick {xs : List V} {us : List Value} (r : Vals xs us) : ∀ is : List Nat, Vals (is.filterMap (xs[·]?)) (is.filterMap (us[·]?))
  | [] => .nil
  | i :: is => by
    rw [List.filterMap_cons, List.filterMap_cons]
    cases h : xs[i]? with
    | none =>
      rw [r.none_of h]
      exact vals_pick r is
    | some x =>
      obtain ⟨u, hu, ru⟩ := r.get h
      rw [hu]
      exact .cons ru (vals_pick r is)
def tSl3 (K : PySem.W.Frag) (te : TE) (tl th ts : TO) : TE := fun σ H Q => te σ H fun x H1 => tl σ H1 fun l H2 => th σ H2 fun u H3 => ts σ H3 fun c H4 => ∃ a xs i, x = .ref a ∧ c = some i ∧ i ≠ 0 ∧ SqL K H4 a xs ∧ (stpV xs l u i).length ≤ sizeLine ∧ ∀ p, H4 p = none → Q (.ref p) (upd H4 p (.lst (stpV xs l u i)))
theorem pe_sl3 {X : Cx} {e : Expr} {lo hi : Option Expr} {st : Expr} {te : TE} {tl th ts : TO} {p2 pos : Pos} (he : PE X e te) (hl : PO X lo tl) (hu : PO X hi th) (hst : PO X (some st) ts) : PE X (.Subscript e (.Slice lo hi (some st) p2) pos) (tSl3 X.K te tl th ts) := by
  refine ⟨fun pins s σ H Q I h => ?_⟩
  refine Subscript_ (thn (he.run pins s σ H _ I h) fun v s1 ⟨x, H1, I1, r1, q1⟩ => ?_)
  refine wpAny_Slice (thn (hl.run pins s1 σ H1 _ I1 q1) fun vl s2 ⟨l, H2, I2, pl, q2⟩ => ?_)
  refine thn (hu.run pins s2 σ H2 _ I2 q2) fun vu s3 ⟨u, H3, I3, pu, q3⟩ => ?_
  refine thn (hst.run pins s3 σ H3 _ I3 q3) fun vs s4 ⟨c, H4, I4, ps, q4⟩ => ?_
  obtain ⟨a, xs, i, ex, ec, h0, hx, hzz, q⟩ := q4
  subst ex
  subst ec
  cases r1
  have I5 : Inv X pins σ H4 { s4 with heap := s4.heap.push { cls := .type "slice", data := .fields #[vl, vu, vs] } } := I4.kept (t' := s4.toks) fun b ob q => Heap.get?_push_of_some _ q
  obtain ⟨its, r, ht, hz⟩ := I5.list hx
  have hlen := r.length
  show wpAny (model X.prog X.w) X.A (subscriptTail e (.Slice lo hi (some st) p2) (.ref a) (.ref s4.heap.objs.size)) (EP X pins σ Q) X.xe { s4 with heap := s4.heap.push { cls := .type "slice", data := .fields #[vl, vu, vs] } }
  refine tail_any (ops := [.ref a, .ref s4.heap.objs.size]) ht.isList.typeIs (PySem.slot_list_getitem.lookup) ?_ (by with_unfolding_all rfl)
  refine wpAny_getItem_list_slice ht.isList (Heap.IsSliceOf.new _ vl vu vs) pl pu ps (fun z => h0 (Option.some.inj z)) ?_ (by rw [List.size_toArray]; omega)
  have ep : slicePick its.toArray l u (some i) = ((sliceRange (sliceBounds l u (some i) xs.length).1 (sliceBounds l u (some i) xs.length).2.1 (sliceBounds l u (some i) xs.length).2.2).filterMap (its[·]?)).toArray := by
    unfold slicePick
    rw [List.size_toArray, ← hlen]
    simp only [List.getElem?_toArray]
  rw [ep]
  refine ⟨.ref _, _, I5.laid (t' := s4.toks) (o := .lst (stpV xs l u i)) (fun b ob q => Heap.get?_push_of_some _ q) (Nat.le_refl _) ?_, rfl, q _ (I5.hok.fresh (Nat.le_refl _))⟩
  exact ⟨hzz, _, 0, vals_pick r _, Heap.get?_push_size _ rfl⟩
def RSl3 (K : PySem.W.Frag) (x : V) (l u c : Option Int) (H : Hp) (Q : VK) : Prop := ∃ a xs i, x = .ref a ∧ c = some i ∧ i ≠ 0 ∧ SqL K H a xs ∧ (stpV xs l u i).length ≤ sizeLine ∧ ∀ p, H p = none → Q (.ref p) (upd H p (.lst (stpV xs l u i)))
theorem r_sl3 {K : PySem.W.Frag} {σ : L2.St} {H : Hp} {Q : VK} {te : TE} {tl th ts : TO} (q : te σ H fun x H1 => tl σ H1 fun l H2 => th σ H2 fun u H3 => ts σ H3 fun c H4 => RSl3 K x l u c H4 Q) : tSl3 K te tl th ts σ H Q := q
theorem r_slc {K : PySem.W.Frag} {H H0 : Hp} {Q : VK} {L : List (Addr × HO)} {a : Addr} {xs : List V} {l u : Option Int} {i : Int} (o : Own H0 H L) (h : SqL K H a xs) (h0 : i ≠ 0) (hz : (stpV xs l u i).length ≤ 10000000) (k : ∀ p H', Stp H H' → Own H0 H' ((p, .lst (stpV xs l u i)) :: L) → Q (.ref p) H') : RSl3 K (.ref a) l u (some i) H Q :=
  ⟨a, xs, i, rfl, rfl, h0, h, sz100 hz, fun p hp => k p _ (.of (same_new hp)) (o.new hp)⟩
theorem flat_rep {α : Type} : ∀ (n : Nat) (x : α), (List.replicate n [x]).flatten = List.replicate n x
  | 0, _ => rfl
  | n + 1, x => by rw [List.replicate_succ, List.flatten_cons, flat_rep n x]; rfl
/-- a list times an int -/
theorem r_rep {H H0 : Hp} {Q : VK} {L : List (Addr × HO)} {a : Addr} {x : V} {i : Int} {n : Nat} (o : Own H0 H L) (ha : H a = some (.lst [x])) (hi : i.toNat = n) (hk : -(2 ^ 63) ≤ i ∧ i < 2 ^ 63) (hz : n ≤ 10000000) (k : ∀ p H', Stp H H' → Own H0 H' ((p, .lst (List.replicate n x)) :: L) → Q (.ref p) H') : rRep (.ref a) (.int i) H Q := by
  refine ⟨a, i, [x], rfl, rfl, ha, hk.1, hk.2, sz100 (by rw [hi]; simp; exact hz), fun p hp => ?_⟩
  have e : (List.replicate i.toNat [x]).flatten = List.replicate n x := by
    rw [hi]
    exact flat_rep n x
  rw [e]
  exact k p _ (.of (same_new hp)) (o.new hp)

/-! ### defs -/
/-- the def x of the text stands at its name -/
structure FunAt (K : PySem.W.Frag) (mg : Str → Option Value) (x : Str) (st : Stmt) (ps : List Str) : Prop where
  ex : ∃ f fd, Fun K x x st f fd ∧ mg x = some (.ref f) ∧ Binds K fd ps []
/-- .. and keeps a promise -/
structure Def (P : Program) (w : World) (K : PySem.W.Frag) (mg : Str → Option Value) (base : Heap) (CX : CXT) (k : Nat) (x : Str) (ps : List Str) (sp : Sp) : Prop where
  ex : ∃ f fd, FnOk P w K mg base CX k f fd ps sp ∧ mg x = some (.ref f) ∧ PySem.W.keepIn K (.ref f) = true ∧ Binds K fd ps []
section
variable {P : Program} {w : World} {K : PySem.W.Frag} {mg : Str → Option Value} {base : Heap}
theorem FunAt.ok {x : Str} {st : Stmt} {N ps : List Str} {k : Nat} {sp : Sp} (F : FunAt K mg x st ps) (S : FnScope N ps (defScope st)) (len : ∀ vs H Q E, sp vs H Q E → vs.length = ps.length)
    (hbody : ∀ (f : Addr) (cdv : Value) (A : Around) (outer : List Env) (s : Shared) (H : Hp) (vs : List V) (Q : VK) (E : XK), Room k (A.deeper (envOfC x (defScope st) s.heap.objs.size f cdv)) → sp vs H Q E →
      ∃ t, PSs (cxOf CX0 P w K mg base N x (defScope st) f cdv A outer s H E).nox (defBody st) t ∧ t { nx := fun _ H' => Q .non H', rt := Q } (start N vs) H) : Def P w K mg base CX0 (k + 1) x ps sp := by
  obtain ⟨f, fd, F, hm, hb⟩ := F.ex
  exact ⟨f, fd, F.ok S len (hbody f), hm, F.kp, hb⟩
theorem Def.imp {CX : CXT} {k : Nat} {x : Str} {ps : List Str} {sp sp' : Sp} (F : Def P w K mg base CX k x ps sp) (h : ∀ vs H Q E, sp' vs H Q E → sp vs H Q E) : Def P w K mg base CX k x ps sp' := by
  obtain ⟨f, fd, F, r⟩ := F.ex
  exact ⟨f, fd, F.imp h, r⟩
theorem Def.mono {CX : CXT} {k j : Nat} {x : Str} {ps : List Str} {sp : Sp} (F : Def P w K mg base CX k x ps sp) (h : k ≤ j) : Def P w K mg base CX j x ps sp := by
  obtain ⟨f, fd, F, r⟩ := F.ex
  exact ⟨f, fd, F.mono h, r⟩
end
theorem pe_callD {X : Cx} {k : Nat} {ps : List Str} {sp : Sp} {x : Str} {p pos : Pos} {e : Expr} {es : List Expr} {t : TA} (G : Def X.prog X.w X.K X.mg X.base CX0 k x ps sp) (hr : Room k X.A) (ha : PA X (e :: es) t) (hg : Gl X x := by rfl)
    (hdb : (x == ("__debug__" : Str)) = false := by decide) (he : starEach (e :: es) X.env = (false, eval e X.env) :: starEach es X.env := by rfl) (hpl : (backTo pos (starEach es X.env)).any (·.1) = false := by rfl) : PE X (.Call (.Name x p) (e :: es) [] pos) (tCall sp [] E0 t) := by
  obtain ⟨f, fd, F, hm, hk, hb⟩ := G.ex
  exact pe_call F hr hg hm hk hb .nil pass0 ha hdb he hpl
/-! ### own classes -/
structure MethAt (K : PySem.W.Frag) (C : Addr) (m qn : Str) (st : Stmt) (ps : List Str) : Prop where
  ex : ∃ f fd, Fun K m qn st f fd ∧ Meth K C m f ∧ Binds K fd ps []
structure MkAt (K : PySem.W.Frag) (C : Addr) (qn : Str) (st : Stmt) (ps : List Str) : Prop where
  ex : ∃ f fd, Fun K "__init__" qn st f fd ∧ Mk K C f ∧ Binds K fd ps []
structure MDef (P : Program) (w : World) (K : PySem.W.Frag) (mg : Str → Option Value) (base : Heap) (CX : CXT) (k : Nat) (C : Addr) (m : Str) (ps : List Str) (sp : Sp) : Prop where
  ex : ∃ f fd, FnOk P w K mg base CX k f fd ps sp ∧ Meth K C m f ∧ Binds K fd ps []
structure KDef (P : Program) (w : World) (K : PySem.W.Frag) (mg : Str → Option Value) (base : Heap) (CX : CXT) (k : Nat) (C : Addr) (ps : List Str) (sp : Sp) : Prop where
  ex : ∃ f fd, FnOk P w K mg base CX k f fd ps sp ∧ Mk K C f ∧ Binds K fd ps []
section
variable {P : Program} {w : World} {K : PySem.W.Frag} {mg : Str → Option Value} {base : Heap}
theorem MethAt.ok {C : Addr} {m qn : Str} {st : Stmt} {N ps : List Str} {k : Nat} {sp : Sp} (F : MethAt K C m qn st ps) (S : FnScope N ps (defScope st)) (len : ∀ vs H Q E, sp vs H Q E → vs.length = ps.length)
    (hbody : ∀ (f : Addr) (cdv : Value) (A : Around) (outer : List Env) (s : Shared) (H : Hp) (vs : List V) (Q : VK) (E : XK), Room k (A.deeper (envOfC qn (defScope st) s.heap.objs.size f cdv)) → sp vs H Q E →
      ∃ t, PSs (cxOf CX0 P w K mg base N qn (defScope st) f cdv A outer s H E).nox (defBody st) t ∧ t { nx := fun _ H' => Q .non H', rt := Q } (start N vs) H) : MDef P w K mg base CX0 (k + 1) C m ps sp := by
  obtain ⟨f, fd, F, hm, hb⟩ := F.ex
  exact ⟨f, fd, F.ok S len (hbody f), hm, hb⟩
theorem MkAt.ok {C : Addr} {qn : Str} {st : Stmt} {N ps : List Str} {k : Nat} {sp : Sp} (F : MkAt K C qn st ps) (S : FnScope N ps (defScope st)) (len : ∀ vs H Q E, sp vs H Q E → vs.length = ps.length)
    (hbody : ∀ (f : Addr) (cdv : Value) (A : Around) (outer : List Env) (s : Shared) (H : Hp) (vs : List V) (Q : VK) (E : XK), Room k (A.deeper (envOfC qn (defScope st) s.heap.objs.size f cdv)) → sp vs H Q E →
      ∃ t, PSs (cxOf CX0 P w K mg base N qn (defScope st) f cdv A outer s H E).nox (defBody st) t ∧ t { nx := fun _ H' => Q .non H', rt := Q } (start N vs) H) : KDef P w K mg base CX0 (k + 1) C ps sp := by
  obtain ⟨f, fd, F, hm, hb⟩ := F.ex
  exact ⟨f, fd, F.ok S len (hbody f), hm, hb⟩
end
theorem pe_makeD {X : Cx} {k : Nat} {ps : List Str} {sp : Sp} {C : Addr} {x : Str} {p pos : Pos} {e : Expr} {es : List Expr} {t : TA} (G : KDef X.prog X.w X.K X.mg X.base CX0 k C ps sp) (hm : X.mg x = some (.ref C)) (hr : Room (k + 1) X.A) (ha : PA X (e :: es) t) (hg : Gl X x := by rfl)
    (hdb : (x == ("__debug__" : Str)) = false := by decide) (he : starEach (e :: es) X.env = (false, eval e X.env) :: starEach es X.env := by rfl) (hpl : (backTo pos (starEach es X.env)).any (·.1) = false := by rfl) : PE X (.Call (.Name x p) (e :: es) [] pos) (tMake C sp [] E0 t) := by
  obtain ⟨f, fd, F, M, hb⟩ := G.ex
  exact pe_make M F hr hg hm hb .nil pass0 ha hdb he hpl
theorem pe_methD {X : Cx} {k : Nat} {ps : List Str} {sp : Sp} {C : Addr} {m : Str} {o e : Expr} {es : List Expr} {apos pos : Pos} {ta : TE} {t : TA} {pl : Sem Bool} (he : PE X o ta) (c : Cls X.K C) (G : MDef X.prog X.w X.K X.mg X.base CX0 k C m ps sp) (hr : Room k X.A) (ha : PA X (e :: es) t)
    (hst : starEach (e :: es) X.env = (false, eval e X.env) :: starEach es X.env := by rfl) (hpl : (backTo pos (starEach es X.env)).any (·.1) = false := by rfl)
    (ht : eval (.Call (.Attribute o m apos) (e :: es) [] pos) X.env = (do
      let ov ← eval o X.env
      standAt apos.atName
      let (f, first) ← holding [ov] (getMethod ov m pl)
      callWith pos f first (backTo pos (starEach (e :: es) X.env)) (backToKw pos (keywordEach [] X.env))) := by rfl) :
    PE X (.Call (.Attribute o m apos) (e :: es) [] pos) (tMeth C m sp [] E0 ta t) := by
  obtain ⟨f, fd, F, M, hb⟩ := G.ex
  exact pe_meth he c M F hr hb .nil pass0 ha hst hpl ht
theorem r_make {C : Addr} {sp : Sp} {E : XK} {t : TA} {σ : L2.St} {H : Hp} {Q : VK} (q : t σ H fun vs H1 => ∀ x dx, H1 x = none → H1 dx = none → dx ≠ x → sp (.ref x :: (vs ++ [])) (upd (upd H1 dx (.own x)) x (.ins C dx [])) (fun v H2 => v = .non ∧ Q (.ref x) H2) E) : tMake C sp [] E t σ H Q := q
theorem r_meth {C : Addr} {m : Str} {sp : Sp} {E : XK} {ta : TE} {t : TA} {σ : L2.St} {H : Hp} {Q : VK} (q : ta σ H fun x H1 => ∃ a dx fs, x = .ref a ∧ H1 a = some (.ins C dx fs) ∧ fs.lookup m = none ∧ t σ H1 fun vs H2 => sp (x :: (vs ++ [])) H2 Q E) : tMeth C m sp [] E ta t σ H Q := q
theorem r_fldq {K : PySem.W.Frag} {ta : TE} {f : Str} {σ : L2.St} {H : Hp} {Q : VK} (q : ta σ H fun x H1 => ∃ a C dx fs v, x = .ref a ∧ H1 a = some (.ins C dx fs) ∧ Cls K C ∧ NoAttr K C f ∧ fs.lookup f = some v ∧ Q v H1) : tFld K ta f σ H Q := q
theorem r_sfld {K : PySem.W.Frag} {ta tv : TE} {f : Str} {D : Ends} {σ : L2.St} {H : Hp} (q : tv σ H fun y H1 => ta σ H1 fun x H2 => ∃ a C dx fs, x = .ref a ∧ H2 a = some (.ins C dx fs) ∧ Cls K C ∧ NoAttr K C f ∧ fs.length < 1000 ∧ D.nx σ (upd H2 a (.ins C dx (putF f y fs)))) : sFld K ta tv f D σ H := q
/-! ### the same rules, K told -/
theorem pg_tupK {X : Cx} {K : PySem.W.Frag} {es : List Expr} {k : Nat} {t : TGs} {n : Nat} {pos : Pos} (hK : X.K = K) (hc : X.calm = true) (h : PGs X es t)
    (hn : (assignEach es X.env).length = n := by rfl) (hst : (assignEach es X.env).findIdx? (·.1) = none := by rfl) : PG X (.Tuple es k pos) (gTup K n t) := by
  subst hK
  exact pg_tup hc h hn hst
theorem pe_bmK {X : Cx} {K : PySem.W.Frag} {o e : Expr} {es : List Expr} {to : TE} {t : TA} {name : Str} {apos cpos : Pos} {T id : String} {r : V → List V → Hp → VK → Prop} (hK : X.K = K) (pa : PlainAttrs T) (slot : Slot T name id) (hty : typeOf (.builtin id) = pure (.type "method_descriptor")) (hm : MtR X id r) (ho : PE X o to) (ha : PA X (e :: es) t)
    (hbase : attributeBase o name X.env (eval o X.env) = eval o X.env := by rfl) (hfew : ((backTo cpos (starEach (e :: es) X.env)).all (fun x => !x.1) && (backToKw cpos (keywordEach [] X.env)).all (fun x => x.1.isSome) && decide ((e :: es).length + ([] : List Keyword).length + (if ([] : List Keyword).isEmpty then 0 else 1) < 30)) = true := by rfl)
    (hline : (apos.endLine == cpos.line) = true := by rfl) (hst : starEach (e :: es) X.env = (false, eval e X.env) :: starEach es X.env := by rfl) (hpl : (backTo cpos (starEach es X.env)).any (·.1) = false := by rfl) : PE X (.Call (.Attribute o name apos) (e :: es) [] cpos) (tBM K T r to t) := by
  subst hK
  exact pe_bm pa slot hty hm ho ha hbase hfew hline hst hpl
theorem r_ext {H H0 : Hp} {Q : VK} {L : List (Addr × HO)} {l b : Addr} {xs zs : List V} (o : Own H0 H L) (n m : Nat) (h : L[n]? = some (l, .lst xs)) (h2 : L[m]? = some (b, .lst zs)) (hz : xs.length + zs.length ≤ 10000000) (k : ∀ H', Own H0 H' (L.set n (l, .lst (xs ++ zs))) → Q .non H') : rExtend (.ref l) [.ref b] H Q :=
  ⟨l, b, xs, zs, rfl, rfl, o.at n h, o.at m h2, sz100 hz, k _ (o.set n h)⟩
theorem take_flat {α β : Type} {f : α → List β} {zs : List α} {i : Nat} {z : α} (h : zs[i]? = some z) : (zs.take (i + 1)).flatMap f = (zs.take i).flatMap f ++ f z := by
  rw [List.take_add_one, h, List.flatMap_append]
  simp
theorem get_ints {ns : List Int} {i : Nat} {x : V} (h : (ns.map V.int)[i]? = some x) : ∃ z, ns[i]? = some z ∧ x = .int z := by
  rw [List.getElem?_map] at h
  cases h2 : ns[i]? with
  | none => rw [h2] at h; cases h
  | some v => rw [h2] at h; cases h; exact ⟨v, rfl, rfl⟩
theorem r_bmE {K : PySem.W.Frag} {T : String} {f : V → List V → Hp → VK → Prop} {te : TE} {tr : TA} {σ : L2.St} {H : Hp} {Q : VK} (q : te σ H fun x H1 => tyV K T x H1 ∧ tr σ H1 fun vs H2 => f x vs H2 Q) : tBM K T f te tr σ H Q := q
theorem pe_callD0 {X : Cx} {k : Nat} {sp : Sp} {x : Str} {p pos : Pos} (G : Def X.prog X.w X.K X.mg X.base CX0 k x [] sp) (hr : Room k X.A) (hg : Gl X x := by rfl) (hdb : (x == ("__debug__" : Str)) = false := by decide) : PE X (.Call (.Name x p) [] [] pos) (tCall sp [] E0 tNil) := by
  obtain ⟨f, fd, F, hm, hk, hb⟩ := G.ex
  exact pe_call0 F hr hg hm hk hb .nil pass0 hdb
theorem pe_methD0 {X : Cx} {k : Nat} {ps : List Str} {sp : Sp} {C : Addr} {m : Str} {o : Expr} {apos pos : Pos} {ta : TE} {pl : Sem Bool} (he : PE X o ta) (c : Cls X.K C) (G : MDef X.prog X.w X.K X.mg X.base CX0 k C m ps sp) (hr : Room k X.A)
    (ht : eval (.Call (.Attribute o m apos) [] [] pos) X.env = (do
      let ov ← eval o X.env
      standAt apos.atName
      let (f, first) ← holding [ov] (getMethod ov m pl)
      callWith pos f first (backTo pos (starEach [] X.env)) (backToKw pos (keywordEach [] X.env))) := by rfl) :
    PE X (.Call (.Attribute o m apos) [] [] pos) (tMeth C m sp [] E0 ta tNil) := by
  obtain ⟨f, fd, F, M, hb⟩ := G.ex
  exact pe_meth0 he c M F hr hb .nil pass0 ht
end RD
namespace My
open PySem PySem.Spec PyProof.Rows L2 RD
local macro_rules | `(tactic| walk_at "sq") => `(tactic| (first
  | assumption
  | exact Own.sqL (by assumption) 0 (by exact rfl)
  | exact Own.sqL (by assumption) 1 (by exact rfl)
  | exact Own.sqL (by assumption) 2 (by exact rfl)
  | exact Own.sqL (by assumption) 3 (by exact rfl)
  | exact Own.sqL (by assumption) 4 (by exact rfl)
  | exact Own.sqL (by assumption) 5 (by exact rfl)
  | exact Own.sqL (by assumption) 6 (by exact rfl)
  | exact Own.sqL (by assumption) 7 (by exact rfl)
  | exact Own.sqL (by assumption) 8 (by exact rfl)
  | exact Own.sqL (by assumption) 9 (by exact rfl)
  | exact Own.sqL (by assumption) 10 (by exact rfl)
  | exact Own.sqL (by assumption) 11 (by exact rfl)
  | exact Own.sqL (by assumption) 12 (by exact rfl)
  | exact Own.sqL (by assumption) 13 (by exact rfl)
  | exact Own.sqL (by assumption) 14 (by exact rfl)
  | exact Own.sqL (by assumption) 15 (by exact rfl)
  | exact Own.sqL (by assumption) 16 (by exact rfl)
  | exact Own.old (by assumption) (by assumption)))
local macro_rules | `(tactic| walk_at "sqT") => `(tactic| (first
  | assumption
  | exact Own.sqT (by assumption) 0 (by exact rfl)
  | exact Own.sqT (by assumption) 1 (by exact rfl)
  | exact Own.sqT (by assumption) 2 (by exact rfl)
  | exact Own.sqT (by assumption) 3 (by exact rfl)
  | exact Own.sqT (by assumption) 4 (by exact rfl)
  | exact Own.sqT (by assumption) 5 (by exact rfl)
  | exact Own.sqT (by assumption) 6 (by exact rfl)
  | exact Own.sqT (by assumption) 7 (by exact rfl)
  | exact Own.sqT (by assumption) 8 (by exact rfl)
  | exact Own.sqT (by assumption) 9 (by exact rfl)
  | exact Own.sqT (by assumption) 10 (by exact rfl)
  | exact Own.sqT (by assumption) 11 (by exact rfl)
  | exact Own.sqT (by assumption) 12 (by exact rfl)
  | exact Own.sqT (by assumption) 13 (by exact rfl)
  | exact Own.sqT (by assumption) 14 (by exact rfl)
  | exact Own.sqT (by assumption) 15 (by exact rfl)
  | exact Own.sqT (by assumption) 16 (by exact rfl)
  | exact Own.oldT (by assumption) (by assumption)))
local macro_rules | `(tactic| walk_at "at") => `(tactic| (first
  | assumption
  | exact Own.at (by assumption) 0 (by exact rfl)
  | exact Own.at (by assumption) 1 (by exact rfl)
  | exact Own.at (by assumption) 2 (by exact rfl)
  | exact Own.at (by assumption) 3 (by exact rfl)
  | exact Own.at (by assumption) 4 (by exact rfl)
  | exact Own.at (by assumption) 5 (by exact rfl)
  | exact Own.at (by assumption) 6 (by exact rfl)
  | exact Own.at (by assumption) 7 (by exact rfl)
  | exact Own.at (by assumption) 8 (by exact rfl)
  | exact Own.at (by assumption) 9 (by exact rfl)
  | exact Own.at (by assumption) 10 (by exact rfl)
  | exact Own.at (by assumption) 11 (by exact rfl)
  | exact Own.at (by assumption) 12 (by exact rfl)
  | exact Own.at (by assumption) 13 (by exact rfl)
  | exact Own.at (by assumption) 14 (by exact rfl)
  | exact Own.at (by assumption) 15 (by exact rfl)
  | exact Own.at (by assumption) 16 (by exact rfl)))
/-! ### the words -/
local macro_rules | `(tactic| walk_at "rd1") => `(tactic| (first
  | with_reducible refine r_seq ?_
  | with_reducible refine r_asg ?_
  | with_reducible refine r_name ?_
  | ((with_reducible refine r_var (v := ?_) ?h ?_); (case h => exact rfl))
  | with_reducible refine r_c ?_
  | with_reducible refine r_op ?_
  | with_reducible refine r_I0 ?_
  | with_reducible refine r_un ?_
  | with_reducible refine r_U ?_
  | with_reducible refine r_eqI ?_
  | with_reducible refine r_neI ?_
  | with_reducible refine r_eqS ?_
  | with_reducible refine r_neS ?_
  | with_reducible refine r_test ?_
  | with_reducible refine r_tB ?_
  | with_reducible refine r_bl ?_
  | with_reducible refine r_and ?_
  | with_reducible refine r_or ?_
  | with_reducible refine r_not ?_
  | with_reducible refine r_andV ?_
  | with_reducible refine r_orV ?_
  | with_reducible refine r_notV ?_
  | with_reducible refine r_ifE ?_
  | with_reducible refine r_ifS ?_
  | with_reducible refine r_ret ?_
  | with_reducible refine r_retN ?_
  | with_reducible refine r_drop ?_
  | with_reducible refine r_next ?_
  | with_reducible refine r_break ?_
  | with_reducible refine r_cont ?_
  | with_reducible refine r_nil ?_
  | with_reducible refine r_cons ?_
  | with_reducible refine r_tup ?_
  | with_reducible refine r_lst ?_
  | with_reducible refine r_CB ?_
  | with_reducible refine r_call ?_
  | with_reducible refine r_sl ?_
  | with_reducible refine r_par ?_
  | with_reducible refine r_make ?_
  | with_reducible refine r_meth ?_
  | with_reducible refine r_fldq ?_
  | with_reducible refine r_sfld ?_
  | with_reducible refine r_nopart ?_
  | with_reducible refine r_part ?_
  | with_reducible refine r_pt ?_
  | ((with_reducible refine r_aug (x := ?_) ?h ?_); (case h => exact rfl))
  | with_reducible refine r_ipI ?_
  | ((with_reducible refine r_isi (T := ?_) (b := true) ?t ?k ?_); (case t => first | exact ty_int | exact ty_str | exact ty_non | exact ty_list (by walk_at "at") | exact ty_tup (by walk_at "at") | exact ty_sqT (by assumption) | exact ty_sqL (by assumption)); (case k => decide +kernel))
  | ((with_reducible refine r_isi (T := ?_) (b := false) ?t ?k ?_); (case t => first | exact ty_int | exact ty_str | exact ty_non | exact ty_list (by walk_at "at") | exact ty_tup (by walk_at "at") | exact ty_sqT (by assumption) | exact ty_sqL (by assumption)); (case k => decide +kernel))
  | with_reducible refine rif_t ?_
  | with_reducible refine rif_f ?_
  | with_reducible refine rif_nt ?_
  | with_reducible refine rif_nf ?_
  | with_reducible refine r_for ?_
  | with_reducible refine r_rng1 ?_
  | with_reducible refine r_rng2 ?_
  | with_reducible refine r_rng3 ?_
  | with_reducible refine r_iL ?_
  | with_reducible refine r_iT ?_
  | with_reducible refine r_lc ?_
  | with_reducible refine r_lc2 ?_
  | with_reducible refine r_sl3 ?_
  | ((with_reducible refine r_I ?c ?_); (case c => first | exact ⟨by decide, by decide⟩ | exact ⟨by decide, by decide, by decide⟩ | exact ⟨by decide, by decide, by omega⟩ | (show (0 : Int) < _; decide) | exact .inr ⟨by decide, by decide⟩ | exact .inl ⟨by decide, by decide⟩ | assumption | exact .inl ⟨by omega, by omega⟩ | exact .inr ⟨by omega, by omega⟩ | (show (0 : Int) < _; omega) | exact ⟨by omega, by omega⟩))
  | ((with_reducible refine r_bm (l := ?_) ?h ?t ?_); (case h => exact rfl); (case t => exact ty_lst (by walk_at "at")))
  | with_reducible refine r_int ?_
  | ((with_reducible refine r_lenS ?z ?_); (case z => first | omega | (simp; done)))
  | ((with_reducible refine r_slS ?z ?_); (case z => omega))
  | ((with_reducible refine r_addS ?z ?_); (case z => omega))
  | with_reducible refine r_zipA ?_
  | with_reducible refine r_max2 ?_
  | with_reducible refine r_min2 ?_
  | with_reducible refine r_isNonN ?_
  | with_reducible refine r_isNonR ?_
  | with_reducible refine r_isNonI ?_
  | with_reducible refine r_notNonN ?_
  | with_reducible refine r_notNonR ?_
  | with_reducible refine r_notNonI ?_
  | with_reducible refine r_chain ?_
  | with_reducible refine r_isB ?_
  | ((with_reducible refine r_ixI (ns := ?_) ?h ?b0 ?b1 ?_); (case h => walk_at "sq"); (case b0 => omega); (case b1 => first | omega | (simp; done) | (simp; omega)))
  | ((with_reducible refine r_ixIT (ns := ?_) ?h ?b0 ?b1 ?_); (case h => walk_at "sqT"); (case b0 => omega); (case b1 => first | omega | (simp; done) | (simp; omega)))
  | ((with_reducible refine r_ixqL (ns := ?_) ?h ?b0 ?b1 ?_); (case h => walk_at "sq"); (case b0 => omega); (case b1 => first | omega | (simp; done) | (simp; omega)))
  | ((with_reducible refine r_ixqT (ns := ?_) ?h ?b0 ?b1 ?_); (case h => walk_at "sqT"); (case b0 => omega); (case b1 => first | omega | (simp; done) | (simp; omega)))
  | ((with_reducible refine r_sum (ns := ?_) ?h ?_); (case h => walk_at "sq"))
  | ((with_reducible refine r_eqSame (ns := ?_) ?h ?h2 ?_); (case h => walk_at "sq"); (case h2 => walk_at "sq"))
  | ((with_reducible refine r_neSame (ns := ?_) ?h ?h2 ?_); (case h => walk_at "sq"); (case h2 => walk_at "sq"))
  | with_reducible refine r_intB ?_
  | ((with_reducible refine r_len (xs := ?_) ?h ?_); (case h => walk_at "sq"))
  | ((with_reducible refine r_lenT (xs := ?_) ?h ?_); (case h => walk_at "sqT"))
  | ((with_reducible refine r_gTup2 (x := ?_) (y := ?_) ?h ?_); (case h => walk_at "sqT"))
  | with_reducible refine r_bmE ?_
  | with_reducible refine r_set ?_))
local macro_rules | `(tactic| walk_at "rd") => `(tactic| (repeat' (walk_at "rd1")))
/-! ### zip of two or three sequences, each a list (false) or a tuple (true) -/
section
variable {prog : Program} {w : World} {A : Around} {E : Value → Shared → Prop} {s : Shared}
def HIt (k : Bool) (h : Heap) (it l : Addr) (i : Nat) : Prop := match k with | true => h.IsTupleIter it l i | false => h.IsListIter it l i
def HSq (k : Bool) (h : Heap) (l : Addr) (xs : Array Value) : Prop := match k with | true => h.IsTuple l xs | false => h.IsList l xs
def itTy (k : Bool) : String := match k with | true => "tuple_iterator" | false => "list_iterator"
def SqK (K : PySem.W.Frag) (k : Bool) (H : Hp) (a : Addr) (xs : List V) : Prop := match k with | true => SqT K H a xs | false => SqL K H a xs
theorem HIt.at {k : Bool} {h h' : Heap} {it l : Addr} {i : Nat} (x : HIt k h it l i) (e : ∀ o, h.get? it = some o → h'.get? it = some o) : HIt k h' it l i := by
  cases k
  · exact Heap.IsListIter.at x e
  · exact Heap.IsTupleIter.at x e
theorem HIt.obj {k : Bool} {h : Heap} {it l : Addr} {i : Nat} (x : HIt k h it l i) : ∃ o, h.get? it = some o ∧ ∀ v, o.data ≠ .cell v := by
  cases k
  · obtain ⟨o, e, _, d⟩ := (show h.IsListIter it l i from x)
    exact ⟨o, e, fun v z => by rw [d] at z; cases z⟩
  · obtain ⟨o, e, _, d⟩ := (show h.IsTupleIter it l i from x)
    exact ⟨o, e, fun v z => by rw [d] at z; cases z⟩
theorem HIt.lt {k : Bool} {h : Heap} {it l : Addr} {i : Nat} (x : HIt k h it l i) : it < h.objs.size := by
  obtain ⟨o, e, _⟩ := x.obj
  exact Heap.lt_size e
theorem HSq.lt {k : Bool} {h : Heap} {l : Addr} {xs : Array Value} (x : HSq k h l xs) : l < h.objs.size := by
  cases k
  · obtain ⟨o, e, _⟩ := (show h.IsList l xs from x)
    exact Heap.lt_size e
  · obtain ⟨o, e, _⟩ := (show h.IsTuple l xs from x)
    exact Heap.lt_size e
theorem drawsK (k : Bool) (hh : A.handled = none) {it l : Addr} (hne : l ≠ it) (items : Array Value) :
    Draws prog w A it [it, l] items.size (fun i v => items[i]? = some v) (fun i h => HIt k h it l i ∧ HSq k h l items) := by
  cases k
  · exact Draws.list hh it l hne items
  · refine ⟨fun i h st => ?_, fun i h h' st hk => ?_, fun i s Q E hi st hQ => ?_, fun s Q E st hE => ?_⟩
    · obtain ⟨o, ho, _⟩ := HIt.obj st.1
      exact ⟨o, ho⟩
    · exact ⟨st.1.at fun o e => hk it (by simp) o e, Heap.IsTuple.at st.2 fun o e => hk l (by simp) o e⟩
    · have st2 := (show s.heap.IsTuple l items from st.2)
      refine RZ.nextOf_tuple_item st.1 st2 (x := items[i]) (by simp [hi]) fun h1 it1 sb => ?_
      exact hQ _ h1 s.toks (by simp [hi]) ⟨it1, Heap.IsTuple.extBut st2 sb.extBut hne⟩ sb
    · exact RZ.nextOf_tuple_end hh st.1 st.2 (by simp) hE
def itO (k : Bool) (l : Addr) : Obj := { cls := .type (itTy k), data := .fields #[.ref l, .int 0 0] }
theorem iterK {k : Bool} {l : Addr} {items : Array Value} {Q : Value → Shared → Prop} (hl : HSq k s.heap l items) (h : Q (.ref s.heap.objs.size) { s with heap := s.heap.push (itO k l) }) : wpAny (model prog w) A (pyIter (.ref l)) Q E s := by
  cases k
  · exact wpAny_pyIter_list hl h
  · exact wpAny_pyIter_tuple hl h
theorem HSq.push {k : Bool} {h : Heap} {l : Addr} {xs : Array Value} (x : HSq k h l xs) (o : Obj) : HSq k (h.push o) l xs := by
  cases k
  · exact Heap.IsList.push x o
  · exact Heap.IsTuple.push x o
theorem HIt.mk0 {k : Bool} {h : Heap} {it l : Addr} (e : h.get? it = some (itO k l)) : HIt k h it l 0 := by
  cases k
  · exact ⟨_, e, rfl, rfl⟩
  · exact ⟨_, e, rfl, rfl⟩
def zA (h : Heap) (k1 : Bool) (l1 : Addr) : Heap := h.push (itO k1 l1)
def zB (h : Heap) (k1 k2 : Bool) (l1 l2 : Addr) : Heap := (zA h k1 l1).push (itO k2 l2)
def zC (h : Heap) (k1 k2 : Bool) (l1 l2 : Addr) : Heap := (zB h k1 k2 l1 l2).push { cls := .type "tuple", data := .seq #[.ref h.objs.size, .ref (zA h k1 l1).objs.size] }
def zD (h : Heap) (k1 k2 : Bool) (l1 l2 : Addr) : Heap := (zC h k1 k2 l1 l2).push { cls := .type "tuple", data := .seq #[.none, .none] }
def zE (h : Heap) (k1 k2 : Bool) (l1 l2 : Addr) : Heap := (zD h k1 k2 l1 l2).push { cls := .type "zip", data := .fields #[.none, .bool false, .bool false, .ref (zB h k1 k2 l1 l2).objs.size, .ref (zC h k1 k2 l1 l2).objs.size] }
theorem zip_new2 (k1 k2 : Bool) (l1 l2 : Addr) (xs ys : Array Value) :
    Meets (Builtin.«zip.__new__» ⟨[.type "zip", .ref l1, .ref l2], []⟩) (fun _ R s => HSq k1 s.heap l1 xs ∧ HSq k2 s.heap l2 ys ∧
      R (.ok (.ret (.ref (zD s.heap k1 k2 l1 l2).objs.size))) { s with heap := zE s.heap k1 k2 l1 l2 }) :=
  .of_wp fun prog w A R s h => by
    obtain ⟨hp, g, d, tk, os⟩ := s
    obtain ⟨q1, q2, h⟩ := h
    have hsub := sub_zip
    have p1 : HSq k1 (Shared.heap ⟨hp, g, d, tk, os⟩) l1 xs := q1
    have p2 : HSq k2 (Shared.heap ⟨hp.push (itO k1 l1), g, d, tk, os⟩) l2 ys := HSq.push q2 _
    wp_walk using iterK p1, iterK p2
    exact ⟨_, rfl, h⟩
theorem zip_call2 {k1 k2 : Bool} {l1 l2 : Addr} {xs ys : Array Value} {Q : Value → Shared → Prop} (q1 : HSq k1 s.heap l1 xs) (q2 : HSq k2 s.heap l2 ys)
    (h : ∀ h' n, n = s.heap.objs.size → IsZip h' (n + 4) (n + 2) (n + 3) .none → IsTupOf2 h' (n + 2) (.ref n) (.ref (n + 1)) → IsTupOf2 h' (n + 3) .none .none → HIt k1 h' n l1 0 → HIt k2 h' (n + 1) l2 0 →
      (∀ c o, s.heap.get? c = some o → h'.get? c = some o) → Q (.ref (n + 4)) { s with heap := h' }) :
    wpAny (model prog w) A (call (.type "zip") [.ref l1, .ref l2]) Q E s := by
  refine callType_new F.called_zip (by decide) (F.typeCall_zip_2 _ _) (F.newCall_zip_2 _ _) (fun obj => F.args_object_init_3 obj _ _) F.entry_zip_new (zip_new2 k1 k2 l1 l2 xs ys) ⟨q1, q2, ?_⟩
  have eA : (zA s.heap k1 l1).objs.size = s.heap.objs.size + 1 := Heap.size_push ..
  have eB : (zB s.heap k1 k2 l1 l2).objs.size = s.heap.objs.size + 2 := by unfold zB; rw [Heap.size_push, eA]
  have eC : (zC s.heap k1 k2 l1 l2).objs.size = s.heap.objs.size + 3 := by unfold zC; rw [Heap.size_push, eB]
  have eD : (zD s.heap k1 k2 l1 l2).objs.size = s.heap.objs.size + 4 := by unfold zD; rw [Heap.size_push, eC]
  have uE : ∀ c o, (zD s.heap k1 k2 l1 l2).get? c = some o → (zE s.heap k1 k2 l1 l2).get? c = some o := fun c o e => Heap.get?_push_of_some _ e
  have uD : ∀ c o, (zC s.heap k1 k2 l1 l2).get? c = some o → (zE s.heap k1 k2 l1 l2).get? c = some o := fun c o e => uE c o (Heap.get?_push_of_some _ e)
  have uC : ∀ c o, (zB s.heap k1 k2 l1 l2).get? c = some o → (zE s.heap k1 k2 l1 l2).get? c = some o := fun c o e => uD c o (Heap.get?_push_of_some _ e)
  have uB : ∀ c o, (zA s.heap k1 l1).get? c = some o → (zE s.heap k1 k2 l1 l2).get? c = some o := fun c o e => uC c o (Heap.get?_push_of_some _ e)
  have uA : ∀ c o, s.heap.get? c = some o → (zE s.heap k1 k2 l1 l2).get? c = some o := fun c o e => uB c o (Heap.get?_push_of_some _ e)
  have gE : (zE s.heap k1 k2 l1 l2).get? (zD s.heap k1 k2 l1 l2).objs.size = some _ := Heap.get?_push_size _ rfl
  have gD : (zE s.heap k1 k2 l1 l2).get? (zC s.heap k1 k2 l1 l2).objs.size = some _ := uE _ _ (Heap.get?_push_size _ rfl)
  have gC : (zE s.heap k1 k2 l1 l2).get? (zB s.heap k1 k2 l1 l2).objs.size = some _ := uD _ _ (Heap.get?_push_size _ rfl)
  have gB : (zE s.heap k1 k2 l1 l2).get? (zA s.heap k1 l1).objs.size = some _ := uC _ _ (Heap.get?_push_size _ rfl)
  have gA : (zE s.heap k1 k2 l1 l2).get? s.heap.objs.size = some _ := uB _ _ (Heap.get?_push_size _ rfl)
  rw [eD, eB, eC] at gE
  rw [eB, eA] at gC
  rw [eC] at gD
  rw [eA] at gB
  show _ ∧ _
  rw [eD]
  exact ⟨⟨_, gE, rfl⟩, h _ _ rfl gE gC gD (HIt.mk0 gA) (HIt.mk0 gB) uA⟩
theorem typeCall_zip3 (a b c : Value) : checkTypeCall "zip" ⟨[a, b, c], []⟩ = pure () := by kernel_rfl
theorem newCall_zip3 (a b c : Value) : checkBuiltinCall "zip.__new__" ⟨[.type "zip", a, b, c], []⟩ = pure () := by kernel_rfl
theorem args_object_init4 (a b c d : Value) : argsOk "object.__init__" ⟨[a, b, c, d], []⟩ := by
  unfold argsOk
  rw [signature?_of (id := "object.__init__") (n := ['_', '_', 't', 'i', 'n', 'i', '_', '_']) (o := ['t', 'c', 'e', 'j', 'b', 'o']) (by kernel_rfl) F.owner_object]
  kernel_rfl
def yB (h : Heap) (k1 k2 k3 : Bool) (l1 l2 l3 : Addr) : Heap := (zB h k1 k2 l1 l2).push (itO k3 l3)
def yC (h : Heap) (k1 k2 k3 : Bool) (l1 l2 l3 : Addr) : Heap := (yB h k1 k2 k3 l1 l2 l3).push { cls := .type "tuple", data := .seq #[.ref h.objs.size, .ref (zA h k1 l1).objs.size, .ref (zB h k1 k2 l1 l2).objs.size] }
def yD (h : Heap) (k1 k2 k3 : Bool) (l1 l2 l3 : Addr) : Heap := (yC h k1 k2 k3 l1 l2 l3).push { cls := .type "tuple", data := .seq #[.none, .none, .none] }
def yE (h : Heap) (k1 k2 k3 : Bool) (l1 l2 l3 : Addr) : Heap := (yD h k1 k2 k3 l1 l2 l3).push { cls := .type "zip", data := .fields #[.none, .bool false, .bool false, .ref (yB h k1 k2 k3 l1 l2 l3).objs.size, .ref (yC h k1 k2 k3 l1 l2 l3).objs.size] }
theorem zip_new3 (k1 k2 k3 : Bool) (l1 l2 l3 : Addr) (xs ys zs : Array Value) :
    Meets (Builtin.«zip.__new__» ⟨[.type "zip", .ref l1, .ref l2, .ref l3], []⟩) (fun _ R s => HSq k1 s.heap l1 xs ∧ HSq k2 s.heap l2 ys ∧ HSq k3 s.heap l3 zs ∧
      R (.ok (.ret (.ref (yD s.heap k1 k2 k3 l1 l2 l3).objs.size))) { s with heap := yE s.heap k1 k2 k3 l1 l2 l3 }) :=
  .of_wp fun prog w A R s h => by
    obtain ⟨hp, g, d, tk, os⟩ := s
    obtain ⟨q1, q2, q3, h⟩ := h
    have hsub := sub_zip
    have p1 : HSq k1 (Shared.heap ⟨hp, g, d, tk, os⟩) l1 xs := q1
    have p2 : HSq k2 (Shared.heap ⟨hp.push (itO k1 l1), g, d, tk, os⟩) l2 ys := HSq.push q2 _
    have p3 : HSq k3 (Shared.heap ⟨(hp.push (itO k1 l1)).push (itO k2 l2), g, d, tk, os⟩) l3 zs := HSq.push (HSq.push q3 _) _
    wp_walk using iterK p1, iterK p2, iterK p3
    exact ⟨_, rfl, h⟩
theorem zip_call3 {k1 k2 k3 : Bool} {l1 l2 l3 : Addr} {xs ys zs : Array Value} {Q : Value → Shared → Prop} (q1 : HSq k1 s.heap l1 xs) (q2 : HSq k2 s.heap l2 ys) (q3 : HSq k3 s.heap l3 zs)
    (h : ∀ h' n, n = s.heap.objs.size → IsZip h' (n + 5) (n + 3) (n + 4) .none → IsTupOf3 h' (n + 3) (.ref n) (.ref (n + 1)) (.ref (n + 2)) → IsTupOf3 h' (n + 4) .none .none .none → HIt k1 h' n l1 0 → HIt k2 h' (n + 1) l2 0 → HIt k3 h' (n + 2) l3 0 →
      (∀ c o, s.heap.get? c = some o → h'.get? c = some o) → Q (.ref (n + 5)) { s with heap := h' }) :
    wpAny (model prog w) A (call (.type "zip") [.ref l1, .ref l2, .ref l3]) Q E s := by
  refine callType_new F.called_zip (by decide) (typeCall_zip3 _ _ _) (newCall_zip3 _ _ _) (fun obj => args_object_init4 obj _ _ _) F.entry_zip_new (zip_new3 k1 k2 k3 l1 l2 l3 xs ys zs) ⟨q1, q2, q3, ?_⟩
  have eA : (zA s.heap k1 l1).objs.size = s.heap.objs.size + 1 := Heap.size_push ..
  have eB : (zB s.heap k1 k2 l1 l2).objs.size = s.heap.objs.size + 2 := by unfold zB; rw [Heap.size_push, eA]
  have eF : (yB s.heap k1 k2 k3 l1 l2 l3).objs.size = s.heap.objs.size + 3 := by unfold yB; rw [Heap.size_push, eB]
  have eC : (yC s.heap k1 k2 k3 l1 l2 l3).objs.size = s.heap.objs.size + 4 := by unfold yC; rw [Heap.size_push, eF]
  have eD : (yD s.heap k1 k2 k3 l1 l2 l3).objs.size = s.heap.objs.size + 5 := by unfold yD; rw [Heap.size_push, eC]
  have uE : ∀ c o, (yD s.heap k1 k2 k3 l1 l2 l3).get? c = some o → (yE s.heap k1 k2 k3 l1 l2 l3).get? c = some o := fun c o e => Heap.get?_push_of_some _ e
  have uD : ∀ c o, (yC s.heap k1 k2 k3 l1 l2 l3).get? c = some o → (yE s.heap k1 k2 k3 l1 l2 l3).get? c = some o := fun c o e => uE c o (Heap.get?_push_of_some _ e)
  have uF : ∀ c o, (yB s.heap k1 k2 k3 l1 l2 l3).get? c = some o → (yE s.heap k1 k2 k3 l1 l2 l3).get? c = some o := fun c o e => uD c o (Heap.get?_push_of_some _ e)
  have uC : ∀ c o, (zB s.heap k1 k2 l1 l2).get? c = some o → (yE s.heap k1 k2 k3 l1 l2 l3).get? c = some o := fun c o e => uF c o (Heap.get?_push_of_some _ e)
  have uB : ∀ c o, (zA s.heap k1 l1).get? c = some o → (yE s.heap k1 k2 k3 l1 l2 l3).get? c = some o := fun c o e => uC c o (Heap.get?_push_of_some _ e)
  have uA : ∀ c o, s.heap.get? c = some o → (yE s.heap k1 k2 k3 l1 l2 l3).get? c = some o := fun c o e => uB c o (Heap.get?_push_of_some _ e)
  have gE : (yE s.heap k1 k2 k3 l1 l2 l3).get? (yD s.heap k1 k2 k3 l1 l2 l3).objs.size = some _ := Heap.get?_push_size _ rfl
  have gD : (yE s.heap k1 k2 k3 l1 l2 l3).get? (yC s.heap k1 k2 k3 l1 l2 l3).objs.size = some _ := uE _ _ (Heap.get?_push_size _ rfl)
  have gC : (yE s.heap k1 k2 k3 l1 l2 l3).get? (yB s.heap k1 k2 k3 l1 l2 l3).objs.size = some _ := uD _ _ (Heap.get?_push_size _ rfl)
  have gF : (yE s.heap k1 k2 k3 l1 l2 l3).get? (zB s.heap k1 k2 l1 l2).objs.size = some _ := uF _ _ (Heap.get?_push_size _ rfl)
  have gB : (yE s.heap k1 k2 k3 l1 l2 l3).get? (zA s.heap k1 l1).objs.size = some _ := uC _ _ (Heap.get?_push_size _ rfl)
  have gA : (yE s.heap k1 k2 k3 l1 l2 l3).get? s.heap.objs.size = some _ := uB _ _ (Heap.get?_push_size _ rfl)
  rw [eD, eF, eC] at gE
  rw [eF, eA, eB] at gC
  rw [eC] at gD
  rw [eB] at gF
  rw [eA] at gB
  show _ ∧ _
  rw [eD]
  exact ⟨⟨_, gE, rfl⟩, h _ _ rfl gE gC gD (HIt.mk0 gA) (HIt.mk0 gB) (HIt.mk0 gF) uA⟩
end
section
variable {X : Cx} {pins : List (Addr × Obj)} {σ : L2.St} {H : Hp} {s : Shared}
theorem seqK {k : Bool} {a : Addr} {xs : List V} (I : Inv X pins σ H s) (h : SqK X.K k H a xs) : ∃ its : List Value, Vals xs its ∧ HSq k s.heap a its.toArray := by
  cases k
  · obtain ⟨its, r, p, _⟩ := I.list (show SqL X.K H a xs from h)
    exact ⟨its, r, p.isList⟩
  · obtain ⟨its, r, p, _⟩ := I.tuple (show SqT X.K H a xs from h)
    exact ⟨its, r, p⟩
theorem seqK_inj {k : Bool} {a : Addr} {xs ys : List V} (I : Inv X pins σ H s) (h : SqK X.K k H a xs) (h' : SqK X.K k H a ys) : xs = ys := by
  cases k
  · exact I.list_inj (show SqL X.K H a xs from h) h'
  · exact I.tuple_inj (show SqT X.K H a xs from h) h'
theorem hd_in1 {A : Around} (h : A.handled = none) : A.in1.handled = none := h
end
/-- two sequences as they stand at each turn, the items in new pairs -/
def It2 (K : PySem.W.Frag) (k1 k2 : Bool) (a b : Addr) : It :=
  ⟨fun i H => ∃ (xs ys : List V), SqK K k1 H a xs ∧ SqK K k2 H b ys ∧ i < xs.length ∧ i < ys.length,
    fun i H v H' => ∃ T x y, v = .ref T ∧ H T = none ∧ H' = upd H T (.tup [x, y]) ∧ (∀ xs, SqK K k1 H a xs → xs[i]? = some x) ∧ (∀ ys, SqK K k2 H b ys → ys[i]? = some y),
    fun i H => ∃ xs ys : List V, SqK K k1 H a xs ∧ SqK K k2 H b ys ∧ i ≤ xs.length ∧ i ≤ ys.length ∧ (i = xs.length ∨ i = ys.length)⟩
structure Ap2 (n z TI TO i1 i2 a b : Addr) : Prop where
  e0 : i1 = n
  e1 : i2 = n + 1
  e2 : TI = n + 2
  e3 : TO = n + 3
  e4 : z = n + 4
  la : a < n
  lb : b < n
theorem nin2 {z i a : Nat} (h : z ≠ i ∧ z ≠ a) : z ∉ [i, a] := by
  intro h2
  rcases List.mem_cons.mp h2 with e | h2
  · exact h.1 e
  · exact h.2 (List.mem_singleton.mp h2)
theorem sepN (n a b : Nat) (la : a < n) (lb : b < n) : ZipSep2 (n + 4) (n + 2) (n + 3) n (n + 1) [n, a] [n + 1, b] where
  TIz := show @Ne Nat _ _ by omega
  TOz := show @Ne Nat _ _ by omega
  TITO := show @Ne Nat _ _ by omega
  TIi1 := show @Ne Nat _ _ by omega
  mem1 := List.mem_cons_self
  zf1 := nin2 (by omega)
  Tf1 := nin2 (by omega)
  TIi2 := show @Ne Nat _ _ by omega
  mem2 := List.mem_cons_self
  zf2 := nin2 (by omega)
  Tf2 := nin2 (by omega)
  sep1_2 := nin2 (by omega)
  sep2_1 := nin2 (by omega)
theorem Ap2.sep {n z TI TO i1 i2 a b : Addr} (D : Ap2 n z TI TO i1 i2 a b) : ZipSep2 z TI TO i1 i2 [i1, a] [i2, b] := by
  obtain ⟨rfl, rfl, rfl, rfl, rfl, la, lb⟩ := D
  exact sepN _ a b la lb
theorem Ap2.na {n z TI TO i1 i2 a b : Addr} (D : Ap2 n z TI TO i1 i2 a b) : a ≠ i1 := by
  rw [D.e0]
  exact Nat.ne_of_lt D.la
theorem Ap2.nb {n z TI TO i1 i2 a b : Addr} (D : Ap2 n z TI TO i1 i2 a b) : b ≠ i2 := by
  rw [D.e1]
  exact Nat.ne_of_lt (Nat.lt_succ_of_lt D.lb)
theorem vals_of : ∀ {xs : List V} {us : List Value} {i : Nat} {u : Value}, Vals xs us → us[i]? = some u → ∃ x, xs[i]? = some x ∧ RelV x u
  | _, _, _, _, .nil, e => by simp at e
  | _, _, 0, _, .cons r _, e => by
    have e' := Option.some.inj e
    subst e'
    exact ⟨_, rfl, r⟩
  | _, _, i + 1, u, .cons _ t, e => by
    obtain ⟨x, h1, h2⟩ := vals_of (i := i) (u := u) t e
    exact ⟨x, h1, h2⟩
theorem turn2 {P : Program} {w : World} {K : PySem.W.Frag} {k1 k2 : Bool} {elts : List Expr} {kk : Nat} {tpos : Pos} {n a b z TI TO i1 i2 : Addr} (D : Ap2 n z TI TO i1 i2 a b) :
    Turn P w K (.Tuple elts kk tpos) (It2 K k1 k2 a b) [z, TI, TO, i1, i2] z (fun i h => IsZip h z TI TO .none ∧ IsTupOf2 h TI (.ref i1) (.ref i2) ∧ (∃ x y, IsTupOf2 h TO x y) ∧ HIt k1 h i1 a i ∧ HIt k2 h i2 b i) := by
  have S := D.sep
  have na := D.na
  have nb := D.nb
  refine ⟨by simp, fun i h st c hc => ?_, fun i h h' st k => ?_, ?_, ?_, fun A i s Q E st h => wpAny_pyIter_zip st.1 h⟩
  · obtain ⟨z1, z2, ⟨x, y, z3⟩, z4, z5⟩ := st
    simp only [List.mem_cons, List.not_mem_nil, or_false] at hc
    rcases hc with q | q | q | q | q <;> rw [q]
    · exact ⟨_, z1, fun v q => nomatch q⟩
    · exact ⟨_, z2, fun v q => nomatch q⟩
    · exact ⟨_, z3, fun v q => nomatch q⟩
    · exact z4.obj
    · exact z5.obj
  · obtain ⟨z1, z2, ⟨x, y, z3⟩, z4, z5⟩ := st
    exact ⟨k z (by simp) _ z1, k TI (by simp) _ z2, ⟨x, y, k TO (by simp) _ z3⟩, z4.at fun o q => k i1 (by simp) o q, z5.at fun o q => k i2 (by simp) o q⟩
  · intro X hP hw hK hc i pins s σ H E I hf st hg
    subst hP hw hK
    obtain ⟨z1, z2, ⟨x0, y0, z3⟩, z4, z5⟩ := st
    obtain ⟨xs, ys, sx, sy, hx, hy⟩ := hg
    obtain ⟨its, rv, p⟩ := seqK I sx
    obtain ⟨its2, rv2, p2⟩ := seqK I sy
    have hh := hd_in1 (I.ok.hd hc)
    have l1 := rv.length
    have l2 := rv2.length
    have zlt : z < s.heap.objs.size := Heap.lt_size z1
    have lti : ∀ c ∈ [z, TI, TO, i1, i2], c < s.heap.objs.size := fun c hcm => by
      simp only [List.mem_cons, List.not_mem_nil, or_false] at hcm
      rcases hcm with q | q | q | q | q <;> rw [q]
      · exact zlt
      · exact Heap.lt_size z2
      · exact Heap.lt_size z3
      · exact z4.lt
      · exact z5.lt
    refine wpAny_pyNext_zipD2_item S (drawsK k1 hh na its.toArray) (drawsK k2 hh nb its2.toArray) z1 z2 z3 ⟨z4, p⟩ ⟨z5, p2⟩ (by simp; omega) (by simp; omega) fun u1 u2 h' tk hu1 hu2 g1 g2 g3 g4 g5 g6 g7 => ?_
    refine ⟨_, rfl, wpAny_letOwnedTupleGo_zip (s := { s with heap := h', toks := tk }) g1 fun h2 y1 sb => ?_⟩
    have hu1' : its[i]? = some u1 := by simpa using hu1
    have hu2' : its2[i]? = some u2 := by simpa using hu2
    obtain ⟨x, hx1, r1⟩ := vals_of rv hu1'
    obtain ⟨y, hy1, r2⟩ := vals_of rv2 hu2'
    have eT : h2.get? s.heap.objs.size = some { cls := .type "tuple", data := .seq #[u1, u2] } := (sb.2 _ (Nat.ne_of_gt zlt)).trans g5
    have new : ObjOk X.prog X.w (upd H s.heap.objs.size (.tup [x, y])) h2 s.heap.objs.size (.tup [x, y]) :=
      ⟨by show 2 ≤ sizeLine; decide, [u1, u2], .cons r1 (.cons r2 .nil), ⟨_, eT, rfl, _, rfl⟩⟩
    have kept : ∀ c o, c ∉ [z, TI, TO, i1, i2] → s.heap.get? c = some o → h2.get? c = some o := fun c o hb q => by
      simp only [List.mem_cons, List.not_mem_nil, or_false, not_or] at hb
      exact (sb.2 c hb.1).trans (g7 c o hb.1 hb.2.2.1 hb.2.2.2.1 hb.2.2.2.2 q)
    have I1 : Inv X pins σ (upd H s.heap.objs.size (.tup [x, y])) { s with heap := h2, toks := tk } := I.turnedNew (t' := tk) kept hf (Nat.le_refl _) new
    refine ⟨.ref s.heap.objs.size, _, I1, rfl, ⟨_, x, y, rfl, I.hok.fresh (Nat.le_refl _), rfl, fun l hl => by rw [seqK_inj I hl sx]; exact hx1, fun l hl => by rw [seqK_inj I hl sy]; exact hy1⟩, ⟨y1, ?_, ⟨u1, u2, ?_⟩, ?_, ?_⟩, fun c hcm => ?_⟩
    · exact (sb.2 _ S.TIz).trans (g7 _ _ S.TIz S.TITO S.TIi1 S.TIi2 z2)
    · exact (sb.2 _ S.TOz).trans g2
    · exact g3.1.at fun o q => (sb.2 _ S.zi1.symm).trans q
    · exact g4.1.at fun o q => (sb.2 _ S.zi2.symm).trans q
    · rw [upd_ne (Nat.ne_of_lt (lti c hcm))]
      exact (hf c hcm).1
  · intro X hP hw hK hc i pins s σ H E I hf st hg
    subst hP hw hK
    obtain ⟨z1, z2, ⟨x0, y0, z3⟩, z4, z5⟩ := st
    obtain ⟨xs, ys, sx, sy, hx, hy, he⟩ := hg
    obtain ⟨its, rv, p⟩ := seqK I sx
    obtain ⟨its2, rv2, p2⟩ := seqK I sy
    have hh := hd_in1 (I.ok.hd hc)
    have l1 := rv.length
    have l2 := rv2.length
    refine wpAny_pyNext_zipD2_end S (drawsK k1 hh na its.toArray) (drawsK k2 hh nb its2.toArray) z1 z2 z3 ⟨z4, p⟩ ⟨z5, p2⟩ (by simp; omega) (by simp; omega) (by simp; omega) fun h' tk g7 => ⟨rfl, ?_⟩
    refine I.turnedL (t' := tk) (ch := [z, TI, TO, i1, i2]) (fun c o hb q => ?_) hf
    simp only [List.mem_cons, List.not_mem_nil, or_false, not_or] at hb
    exact g7 c o hb.1 hb.2.2.1 hb.2.2.2.1 hb.2.2.2.2 q
def iZip2 (K : PySem.W.Frag) (k1 k2 : Bool) (ta : TA) : TI := fun σ H R => ta σ H fun vs H1 => ∃ a b xs ys, vs = [.ref a, .ref b] ∧ SqK K k1 H1 a xs ∧ SqK K k2 H1 b ys ∧ R (It2 K k1 k2 a b) H1
theorem pi_zip2 {X : Cx} {k1 k2 : Bool} {e e2 : Expr} {ta : TA} {p pos tpos : Pos} {elts : List Expr} {kk : Nat} (hg : Gl X "zip") (hm : X.mg "zip" = none) (ha : PA X [e, e2] ta)
    (hst : starEach [e, e2] X.env = (false, eval e X.env) :: starEach [e2] X.env := by rfl) (hpl : (backTo pos (starEach [e2] X.env)).any (·.1) = false := by rfl) :
    PI X (.Tuple elts kk tpos) (.Call (.Name "zip" p) [e, e2] [] pos) (iZip2 X.K k1 k2 ta) := by
  refine ⟨fun pins s σ H R I h => ?_⟩
  refine Call_ (ld_blt I hg hm PyProof.Rows.boot_zip (PyProof.Rows.callWith_type1 (thn (ha.run pos pins s σ H _ I h) fun us s1 ⟨vs, H1, I1, r1, q1⟩ => ?_) hst hpl))
  obtain ⟨a, b, xs, ys, ex, qx, qy, q⟩ := q1
  subst ex
  obtain ⟨its, rv, p1⟩ := seqK I1 qx
  obtain ⟨its2, rv2, p2⟩ := seqK I1 qy
  cases r1 with
  | cons r rr =>
    cases rr with
    | cons r' rr =>
      cases rr
      cases r
      cases r'
      refine zip_call2 p1 p2 fun h' n en g1 g2 g3 g4 g5 hk => wpAny_pyIter_zip g1 ?_
      have I2 : Inv X pins σ H1 { s1 with heap := h' } := I1.kept (t' := s1.toks) hk
      refine ⟨n + 4, [n + 4, n + 2, n + 3, n, n + 1], _, _, H1, rfl, I2, turn2 (n := n) ⟨rfl, rfl, rfl, rfl, rfl, by rw [en]; exact p1.lt, by rw [en]; exact p2.lt⟩, ⟨g1, g2, ⟨_, _, g3⟩, g4, g5⟩, fun c hcm => ?_, q⟩
      have hle : s1.heap.objs.size ≤ c := by
        simp only [List.mem_cons, List.not_mem_nil, or_false] at hcm
        have en' : (n : Nat) = s1.heap.objs.size := en
        rcases hcm with z | z | z | z | z <;> rw [z] <;> omega
      exact I1.fpOk hle (I1.hok.fresh hle)
/-! ### comprehensions whose items are data of tuples -/
theorem bools_inv {K : PySem.W.Frag} {H : Hp} : ∀ {vs : List V} {bs : List Bool}, TpAll K H vs (bs.map PyData.bool) → vs = bs.map V.bl
  | _, [], h => by cases h; rfl
  | _, b :: bs, h => by
    cases h with
    | cons a t => cases a; rw [bools_inv t]; rfl
theorem strs_inv {K : PySem.W.Frag} {H : Hp} : ∀ {vs : List V} {bs : List Str}, TpAll K H vs (bs.map PyData.str) → vs = bs.map V.str
  | _, [], h => by cases h; rfl
  | _, b :: bs, h => by
    cases h with
    | cons a t => cases a; rw [strs_inv t]; rfl
theorem bools_invF {K : PySem.W.Frag} {H : Hp} {α : Type} {vs : List V} {l : List α} {f : α → Bool} (h : TpAll K H vs (l.map fun x => PyData.bool (f x))) : vs = (l.map f).map V.bl := by
  refine bools_inv (K := K) (H := H) (bs := l.map f) ?_
  rw [List.map_map]
  exact h
theorem ints_invF {K : PySem.W.Frag} {H : Hp} {α : Type} {vs : List V} {l : List α} {f : α → Int} (h : TpAll K H vs (l.map fun x => PyData.int (f x))) : vs = (l.map f).map V.int := by
  refine TpAll.ints_inv (K := K) (H := H) (ns := l.map f) ?_
  rw [List.map_map]
  exact h
theorem TpAll.bools {K : PySem.W.Frag} {H : Hp} : ∀ bs : List Bool, TpAll K H (bs.map V.bl) (bs.map PyData.bool)
  | [] => .nil
  | b :: bs => .cons (.bl b) (TpAll.bools bs)
theorem TpAll.strs {K : PySem.W.Frag} {H : Hp} : ∀ bs : List Str, TpAll K H (bs.map V.str) (bs.map PyData.str)
  | [] => .nil
  | b :: bs => .cons (.str b) (TpAll.strs bs)
theorem rfm_all {α : Type} (n : Nat) (f : Nat → α) : (List.range n).filterMap (fun i => some (f i)) = (List.range n).map f := congrFun List.filterMap_eq_map _
theorem rfm_succ {α : Type} (n : Nat) (f : Nat → Option α) : (List.range (n + 1)).filterMap f = (List.range n).filterMap f ++ (f n).toList := by
  rw [List.range_succ, List.filterMap_append]
  congr 1
theorem range_map_get {α β : Type} (xs : List α) (f : α → β) (g : Nat → β) (h : ∀ i x, xs[i]? = some x → g i = f x) : (List.range xs.length).map g = xs.map f := by
  apply List.ext_getElem?
  intro i
  rw [List.getElem?_map, List.getElem?_map]
  by_cases hi : i < xs.length
  · rw [List.getElem?_range hi, List.getElem?_eq_getElem hi]
    exact congrArg some (h i _ (List.getElem?_eq_getElem hi))
  · rw [List.getElem?_eq_none (by rw [List.length_range]; omega), List.getElem?_eq_none (by omega)]
    rfl
theorem range_pick1 {α β : Type} (xs : List α) (f : α → β) : ∀ n, n ≤ xs.length → (List.range n).filterMap (fun i => (xs[i]?).map f) = (xs.take n).map f
  | 0, _ => rfl
  | n + 1, h => by
    rw [rfm_succ, range_pick1 xs f n (by omega), List.take_add_one, List.map_append, List.getElem?_eq_getElem (show n < xs.length by omega)]
    rfl
theorem range_pick {α β : Type} (xs : List α) (f : α → β) : (List.range xs.length).filterMap (fun i => (xs[i]?).map f) = xs.map f := by
  rw [range_pick1 xs f _ (Nat.le_refl _), List.take_length]
theorem gi_get {ns : List Int} {i : Nat} {x : Int} (h : ns[i]? = some x) : gi ns (i : Int) = x := by
  obtain ⟨h1, h2⟩ := List.getElem?_eq_some_iff.mp h
  rw [gi_nat h1]
  exact h2
section
variable {σ : L2.St} {H H0 : Hp} {Q : VK} {te : TE} {tt : TT} {g : TG} {j : Int} {K : PySem.W.Frag} {L : List (Addr × HO)} {J : It} {vs : List Nat}
/-- what a turn's target is to reach: the test and the item there -/
def CGo (K : PySem.W.Frag) (tt : TT) (te : TE) (vs : List Nat) (σ : L2.St) (od : Option PyData) (H' : Hp) (R : L2.St → Hp → Prop) : Prop :=
  ∀ σ2, wipe σ2 vs = wipe σ vs → (∀ Qb : Bool → Hp → Prop, (∀ H2, Same H' H2 → Qb od.isSome H2) → tt σ2 H' Qb) → (∀ d H2, od = some d → Same H' H2 → ∀ Qv : VK, RetD K H2 Qv d → te σ2 H2 Qv) → R σ2 H'
theorem lcJ (n : Nat) (sel : Nat → Option PyData) (o : Own H0 H L) (hz : n < 10000000)
    (hst : ∀ H' p zs, Own H0 H' ((p, .lst zs) :: L) → Stp H H' → J.stop n H')
    (hgo : ∀ i H' p zs, i < n → Own H0 H' ((p, .lst zs) :: L) → Stp H H' → J.go i H')
    (he : ∀ (i : Nat) (x : V) (p : Addr) (zs : List V) (H' H1 : Hp) (R : L2.St → Hp → Prop), i < n → Own H0 H' ((p, .lst zs) :: L) → Stp H H' → J.yld i H' x H1 → (Same H' H1 → CGo K tt te vs σ (sel i) H1 R) → g x (wipe σ vs) H1 R)
    (hs : ∀ i H' x H1, J.yld i H' x H1 → Same H' H1)
    (k : ∀ p H' zs, Stp H H' → Own H0 H' ((p, .lst zs) :: L) → TpAll K H' zs ((List.range n).filterMap sel) → Q (.ref p) H') : RLc J g tt te vs σ H Q := by
  intro P hP
  refine ⟨fun i m H' => m = n - i ∧ i ≤ n ∧ ∃ zs, Own H0 H' ((P, .lst zs) :: L) ∧ Stp H H' ∧ TpAll K H' zs ((List.range i).filterMap sel), ⟨n, rfl, Nat.zero_le _, [], o.new hP, .of (same_new hP), .nil⟩, ?_⟩
  rintro i m H' ⟨rfl, hi, zs, o', s', t'⟩
  by_cases hlt : i < n
  · refine .inr ⟨hgo i H' P zs hlt o' s', fun H2 => ∃ zs, Own H0 H2 ((P, .lst zs) :: L) ∧ Stp H H2 ∧ TpAll K H2 zs ((List.range (i + 1)).filterMap sel), fun H2 p2 => ⟨n - (i + 1), by omega, rfl, hlt, p2⟩, fun x H1 hy => ?_⟩
    have s1 := hs i H' x H1 hy
    refine he i x P zs H' H1 _ hlt o' s' hy fun _ σ2 hw ht hv => ⟨hw, ?_⟩
    have o1 := o'.mono s1
    refine ht _ fun H2 s2 => ?_
    have o2 := o1.mono s2
    have t2 := (t'.up (.of s1)).up (Stp.of s2)
    have hl := t2.len
    have hl2 := fm_le (List.range i) sel
    rw [List.length_range] at hl2
    cases e : sel i with
    | none =>
      show ∃ zs, _
      rw [rfm_succ, e]
      exact ⟨zs, o2, (s'.trans (.of s1)).trans (.of s2), by rw [Option.toList_none, List.append_nil]; exact t2⟩
    | some d =>
      refine iteT (B := ∃ zs, Own H0 H2 ((P, .lst zs) :: L) ∧ Stp H H2 ∧ TpAll K H2 zs ((List.range (i + 1)).filterMap sel)) (hv d H2 e s2 _ fun H4 v s4 tv => ?_)
      have o4 := o2.mono s4
      have s5 := Stp.set (u := .lst (zs ++ [v])) (o4.at 0 rfl)
      refine ⟨zs, o4.at 0 rfl, sz_lt (by omega), zs ++ [v], o4.set (v := .lst (zs ++ [v])) 0 rfl, (((s'.trans (.of s1)).trans (.of s2)).trans (.of s4)).trans s5, ?_⟩
      rw [rfm_succ, e]
      exact (((t2.up (.of s4)).snoc tv).up s5)
  · refine .inl ⟨?_, ?_⟩
    · have e : i = n := by omega
      subst e
      exact hst H' P zs o' s'
    · have e : i = n := by omega
      subst e
      exact k P H' zs s' o' t'
/-- over a tuple -/
theorem lcjT {a : Addr} {xs : List V} (sel : Nat → Option PyData) (o : Own H0 H L) (h1 : SqT K H a xs) (hz : xs.length < 10000000)
    (he : ∀ (i : Nat) (x : V) (p : Addr) (zs : List V) (H' : Hp) (R : L2.St → Hp → Prop), xs[i]? = some x → Own H0 H' ((p, .lst zs) :: L) → Stp H H' → CGo K tt te vs σ (sel i) H' R → g x (wipe σ vs) H' R)
    (k : ∀ p H' zs, Stp H H' → Own H0 H' ((p, .lst zs) :: L) → TpAll K H' zs ((List.range xs.length).filterMap sel) → Q (.ref p) H') :
    ∃ a', V.ref a = .ref a' ∧ (∃ xs, SqT K H a' xs) ∧ RLc (Itt K a') g tt te vs σ H Q := by
  refine ⟨a, rfl, ⟨xs, h1⟩, lcJ xs.length sel o hz (fun H' p zs _ s' => ⟨xs, s'.sq h1, Nat.le_refl _⟩) (fun i H' p zs hi _ s' => ⟨xs, _, s'.sq h1, List.getElem?_eq_getElem hi⟩) (fun i x p zs H' H1 R hi o' s' hy r => ?_) (fun i H' x H1 hy => by rw [hy.1]; exact Same.refl _) k⟩
  obtain ⟨e, hx⟩ := hy
  subst e
  exact he i x p zs H1 R (hx xs (s'.sq h1)) o' s' (r (Same.refl _))
/-- over a list -/
theorem lcjL {a : Addr} {xs : List V} (sel : Nat → Option PyData) (o : Own H0 H L) (h : ∀ H' p zs, Own H0 H' ((p, .lst zs) :: L) → SqL K H' a xs) (h1 : SqL K H a xs) (hz : xs.length < 10000000)
    (he : ∀ (i : Nat) (x : V) (p : Addr) (zs : List V) (H' : Hp) (R : L2.St → Hp → Prop), xs[i]? = some x → Own H0 H' ((p, .lst zs) :: L) → Stp H H' → CGo K tt te vs σ (sel i) H' R → g x (wipe σ vs) H' R)
    (k : ∀ p H' zs, Stp H H' → Own H0 H' ((p, .lst zs) :: L) → TpAll K H' zs ((List.range xs.length).filterMap sel) → Q (.ref p) H') :
    ∃ a', V.ref a = .ref a' ∧ (∃ xs, SqL K H a' xs) ∧ RLc (Itl K a') g tt te vs σ H Q := by
  refine ⟨a, rfl, ⟨xs, h1⟩, lcJ xs.length sel o hz (fun H' p zs o' _ => ⟨xs, h H' p zs o', Nat.le_refl _⟩) (fun i H' p zs hi o' s' => ⟨xs, _, h H' p zs o', List.getElem?_eq_getElem hi⟩) (fun i x p zs H' H1 R hi o' s' hy r => ?_) (fun i H' x H1 hy => by rw [hy.1]; exact Same.refl _) k⟩
  obtain ⟨e, hx⟩ := hy
  subst e
  exact he i x p zs H1 R (hx xs (h H1 p zs o')) o' s' (r (Same.refl _))
/-- over range(n) -/
theorem lcjR {n : Nat} (sel : Nat → Option PyData) (o : Own H0 H L) (hn : j = (n : Int)) (hz : n < 10000000)
    (he : ∀ (i : Nat) (p : Addr) (zs : List V) (H' : Hp) (R : L2.St → Hp → Prop), i < n → Own H0 H' ((p, .lst zs) :: L) → Stp H H' → CGo K tt te vs σ (sel i) H' R → g (.int (i : Int)) (wipe σ vs) H' R)
    (k : ∀ p H' zs, Stp H H' → Own H0 H' ((p, .lst zs) :: L) → TpAll K H' zs ((List.range n).filterMap sel) → Q (.ref p) H') :
    ∃ k : Int, [V.int j] = [.int k] ∧ -(2 ^ 62) ≤ k ∧ k < 2 ^ 62 ∧ RLc (Itr 0 k.toNat) g tt te vs σ H Q := by
  refine ⟨j, rfl, by omega, by omega, ?_⟩
  have e : j.toNat = n := by omega
  rw [e]
  refine lcJ n sel o hz (fun H' p zs _ _ => Nat.le_refl _) (fun i H' p zs hi _ _ => hi) (fun i x p zs H' H1 R hi o' s' hy r => ?_) (fun i H' x H1 hy => by rw [hy.1]; exact Same.refl _) k
  obtain ⟨e, rfl⟩ := hy
  subst e
  have e0 : (0 : Int) + (i : Int) = (i : Int) := Int.zero_add _
  rw [e0]
  exact he i p zs H1 R hi o' s' (r (Same.refl _))
/-- over zip of two tuples, the shorter one ends it -/
theorem lcjZ {a b : Addr} {xs ys : List V} {n : Nat} (sel : Nat → Option PyData) (o : Own H0 H L) (h1 : SqT K H a xs) (h2 : SqT K H b ys) (hn : n = min xs.length ys.length) (hz : n < 10000000)
    (he : ∀ (i : Nat) (x y : V) (T : Addr) (p : Addr) (zs : List V) (H' : Hp) (R : L2.St → Hp → Prop), xs[i]? = some x → ys[i]? = some y → SqT K H' T [x, y] → Own H0 H' ((p, .lst zs) :: L) → Stp H H' → CGo K tt te vs σ (sel i) H' R → g (.ref T) (wipe σ vs) H' R)
    (k : ∀ p H' zs, Stp H H' → Own H0 H' ((p, .lst zs) :: L) → TpAll K H' zs ((List.range n).filterMap sel) → Q (.ref p) H') :
    RZipA K [.ref a, .ref b] H fun J H1 => RLc J g tt te vs σ H1 Q := by
  refine ⟨a, b, xs, ys, rfl, .inr ⟨h1, h2, lcJ n sel o hz (fun H' p zs _ s' => ⟨xs, ys, s'.sq h1, s'.sq h2, by omega⟩) (fun i H' p zs hi _ s' => ⟨xs, ys, _, _, s'.sq h1, s'.sq h2, List.getElem?_eq_getElem (by omega), List.getElem?_eq_getElem (by omega)⟩) (fun i x p zs H' H1 R hi o' s' hy r => ?_) (fun i H' x H1 hy => ?_) k⟩⟩
  · obtain ⟨T, u, v, rfl, hT, rfl, f1, f2⟩ := hy
    have s1 : Same H' (upd H' T (.tup [u, v])) := same_new hT
    exact he i u v T p zs _ R (f1 xs (s'.sq h1)) (f2 ys (s'.sq h2)) (SqT.of upd_same) (o'.mono s1) (s'.trans (.of s1)) (r s1)
  · obtain ⟨T, u, v, rfl, hT, rfl, f1, f2⟩ := hy
    exact same_new hT
/-- over zip of two lists -/
theorem lcjZL {a b : Addr} {xs ys : List V} {n : Nat} (sel : Nat → Option PyData) (o : Own H0 H L) (h : ∀ H' p zs, Own H0 H' ((p, .lst zs) :: L) → SqL K H' a xs ∧ SqL K H' b ys) (h1 : SqL K H a xs) (h2 : SqL K H b ys) (hn : n = min xs.length ys.length) (hz : n < 10000000)
    (he : ∀ (i : Nat) (x y : V) (T : Addr) (p : Addr) (zs : List V) (H' : Hp) (R : L2.St → Hp → Prop), xs[i]? = some x → ys[i]? = some y → SqT K H' T [x, y] → Own H0 H' ((p, .lst zs) :: L) → Stp H H' → CGo K tt te vs σ (sel i) H' R → g (.ref T) (wipe σ vs) H' R)
    (k : ∀ p H' zs, Stp H H' → Own H0 H' ((p, .lst zs) :: L) → TpAll K H' zs ((List.range n).filterMap sel) → Q (.ref p) H') :
    RZipA K [.ref a, .ref b] H fun J H1 => RLc J g tt te vs σ H1 Q := by
  refine ⟨a, b, xs, ys, rfl, .inl ⟨h1, h2, lcJ n sel o hz (fun H' p zs o' s' => ⟨xs, ys, (h H' p zs o').1, (h H' p zs o').2, by omega⟩) (fun i H' p zs hi o' s' => ⟨xs, ys, _, _, (h H' p zs o').1, (h H' p zs o').2, List.getElem?_eq_getElem (by omega), List.getElem?_eq_getElem (by omega)⟩) (fun i x p zs H' H1 R hi o' s' hy r => ?_) (fun i H' x H1 hy => ?_) k⟩⟩
  · obtain ⟨T, u, v, rfl, hT, rfl, f1, f2⟩ := hy
    have s1 : Same H' (upd H' T (.tup [u, v])) := same_new hT
    exact he i u v T p zs _ R (f1 xs (h H' p zs o').1) (f2 ys (h H' p zs o').2) (SqT.of upd_same) (o'.mono s1) (s'.trans (.of s1)) (r s1)
  · obtain ⟨T, u, v, rfl, hT, rfl, f1, f2⟩ := hy
    exact same_new hT
/-- enumerate(list) -/
theorem lcjE {a : Addr} {xs : List V} (sel : Nat → Option PyData) (o : Own H0 H L) (h : ∀ H' p zs, Own H0 H' ((p, .lst zs) :: L) → SqL K H' a xs) (h1 : SqL K H a xs) (hz : xs.length < 10000000)
    (he : ∀ (i : Nat) (x : V) (T : Addr) (p : Addr) (zs : List V) (H' : Hp) (R : L2.St → Hp → Prop), xs[i]? = some x → SqT K H' T [.int (i : Int), x] → Own H0 H' ((p, .lst zs) :: L) → Stp H H' → CGo K tt te vs σ (sel i) H' R → g (.ref T) (wipe σ vs) H' R)
    (k : ∀ p H' zs, Stp H H' → Own H0 H' ((p, .lst zs) :: L) → TpAll K H' zs ((List.range xs.length).filterMap sel) → Q (.ref p) H') :
    ∃ a' xs', [V.ref a] = [.ref a'] ∧ SqL K H a' xs' ∧ RLc (Ite K a') g tt te vs σ H Q := by
  refine ⟨a, xs, rfl, h1, lcJ xs.length sel o hz (fun H' p zs o' _ => ⟨xs, h H' p zs o', Nat.le_refl _⟩) (fun i H' p zs hi o' s' => ⟨xs, _, h H' p zs o', List.getElem?_eq_getElem hi⟩) (fun i x p zs H' H1 R hi o' s' hy r => ?_) (fun i H' x H1 hy => ?_) k⟩
  · obtain ⟨T, u, rfl, hT, rfl, f1⟩ := hy
    have s1 : Same H' (upd H' T (.tup [.int (i : Nat), u])) := same_new hT
    exact he i u T p zs _ R (f1 xs (h H' p zs o')) (SqT.of upd_same) (o'.mono s1) (s'.trans (.of s1)) (r s1)
  · obtain ⟨T, u, rfl, hT, rfl, f1⟩ := hy
    exact same_new hT
end
/-- three sequences as they stand at each turn, the items in new triples -/
def It3 (K : PySem.W.Frag) (k1 k2 k3 : Bool) (a b d : Addr) : It :=
  ⟨fun i H => ∃ (xs ys zs : List V), SqK K k1 H a xs ∧ SqK K k2 H b ys ∧ SqK K k3 H d zs ∧ i < xs.length ∧ i < ys.length ∧ i < zs.length,
    fun i H v H' => ∃ T x y u, v = .ref T ∧ H T = none ∧ H' = upd H T (.tup [x, y, u]) ∧ (∀ xs, SqK K k1 H a xs → xs[i]? = some x) ∧ (∀ ys, SqK K k2 H b ys → ys[i]? = some y) ∧ (∀ zs, SqK K k3 H d zs → zs[i]? = some u),
    fun i H => ∃ xs ys zs : List V, SqK K k1 H a xs ∧ SqK K k2 H b ys ∧ SqK K k3 H d zs ∧ i ≤ xs.length ∧ i ≤ ys.length ∧ i ≤ zs.length ∧ (i = xs.length ∨ i = ys.length ∨ i = zs.length)⟩
structure Ap3 (n z TI TO i1 i2 i3 a b d : Addr) : Prop where
  e0 : i1 = n
  e1 : i2 = n + 1
  e5 : i3 = n + 2
  e2 : TI = n + 3
  e3 : TO = n + 4
  e4 : z = n + 5
  la : a < n
  lb : b < n
  ld : d < n
theorem sepN3 (n a b d : Nat) (la : a < n) (lb : b < n) (ld : d < n) : ZipSep3 (n + 5) (n + 3) (n + 4) n (n + 1) (n + 2) [n, a] [n + 1, b] [n + 2, d] where
  TIz := show @Ne Nat _ _ by omega
  TOz := show @Ne Nat _ _ by omega
  TITO := show @Ne Nat _ _ by omega
  TIi1 := show @Ne Nat _ _ by omega
  mem1 := List.mem_cons_self
  zf1 := nin2 (by omega)
  Tf1 := nin2 (by omega)
  TIi2 := show @Ne Nat _ _ by omega
  mem2 := List.mem_cons_self
  zf2 := nin2 (by omega)
  Tf2 := nin2 (by omega)
  TIi3 := show @Ne Nat _ _ by omega
  mem3 := List.mem_cons_self
  zf3 := nin2 (by omega)
  Tf3 := nin2 (by omega)
  sep1_2 := nin2 (by omega)
  sep1_3 := nin2 (by omega)
  sep2_1 := nin2 (by omega)
  sep2_3 := nin2 (by omega)
  sep3_1 := nin2 (by omega)
  sep3_2 := nin2 (by omega)
theorem Ap3.sep {n z TI TO i1 i2 i3 a b d : Addr} (D : Ap3 n z TI TO i1 i2 i3 a b d) : ZipSep3 z TI TO i1 i2 i3 [i1, a] [i2, b] [i3, d] := by
  obtain ⟨rfl, rfl, rfl, rfl, rfl, rfl, la, lb, ld⟩ := D
  exact sepN3 _ a b d la lb ld
theorem Ap3.na {n z TI TO i1 i2 i3 a b d : Addr} (D : Ap3 n z TI TO i1 i2 i3 a b d) : a ≠ i1 := by
  rw [D.e0]
  exact Nat.ne_of_lt D.la
theorem Ap3.nb {n z TI TO i1 i2 i3 a b d : Addr} (D : Ap3 n z TI TO i1 i2 i3 a b d) : b ≠ i2 := by
  rw [D.e1]
  exact Nat.ne_of_lt (Nat.lt_succ_of_lt D.lb)
theorem Ap3.nd {n z TI TO i1 i2 i3 a b d : Addr} (D : Ap3 n z TI TO i1 i2 i3 a b d) : d ≠ i3 := by
  rw [D.e5]
  exact Nat.ne_of_lt (Nat.lt_succ_of_lt (Nat.lt_succ_of_lt D.ld))
theorem turn3 {P : Program} {w : World} {K : PySem.W.Frag} {k1 k2 k3 : Bool} {elts : List Expr} {kk : Nat} {tpos : Pos} {n a b d z TI TO i1 i2 i3 : Addr} (D : Ap3 n z TI TO i1 i2 i3 a b d) :
    Turn P w K (.Tuple elts kk tpos) (It3 K k1 k2 k3 a b d) [z, TI, TO, i1, i2, i3] z (fun i h => IsZip h z TI TO .none ∧ IsTupOf3 h TI (.ref i1) (.ref i2) (.ref i3) ∧ (∃ x y u, IsTupOf3 h TO x y u) ∧ HIt k1 h i1 a i ∧ HIt k2 h i2 b i ∧ HIt k3 h i3 d i) := by
  have S := D.sep
  have na := D.na
  have nb := D.nb
  have nd := D.nd
  refine ⟨by simp, fun i h st c hc => ?_, fun i h h' st k => ?_, ?_, ?_, fun A i s Q E st h => wpAny_pyIter_zip st.1 h⟩
  · obtain ⟨z1, z2, ⟨x, y, u, z3⟩, z4, z5, z6⟩ := st
    simp only [List.mem_cons, List.not_mem_nil, or_false] at hc
    rcases hc with q | q | q | q | q | q <;> rw [q]
    · exact ⟨_, z1, fun v q => nomatch q⟩
    · exact ⟨_, z2, fun v q => nomatch q⟩
    · exact ⟨_, z3, fun v q => nomatch q⟩
    · exact z4.obj
    · exact z5.obj
    · exact z6.obj
  · obtain ⟨z1, z2, ⟨x, y, u, z3⟩, z4, z5, z6⟩ := st
    exact ⟨k z (by simp) _ z1, k TI (by simp) _ z2, ⟨x, y, u, k TO (by simp) _ z3⟩, z4.at fun o q => k i1 (by simp) o q, z5.at fun o q => k i2 (by simp) o q, z6.at fun o q => k i3 (by simp) o q⟩
  · intro X hP hw hK hc i pins s σ H E I hf st hg
    subst hP hw hK
    obtain ⟨z1, z2, ⟨x0, y0, u0, z3⟩, z4, z5, z6⟩ := st
    obtain ⟨xs, ys, zs, sx, sy, sz, hx, hy, hz⟩ := hg
    obtain ⟨its, rv, p⟩ := seqK I sx
    obtain ⟨its2, rv2, p2⟩ := seqK I sy
    obtain ⟨its3, rv3, p3⟩ := seqK I sz
    have hh := hd_in1 (I.ok.hd hc)
    have l1 := rv.length
    have l2 := rv2.length
    have l3 := rv3.length
    have zlt : z < s.heap.objs.size := Heap.lt_size z1
    have lti : ∀ c ∈ [z, TI, TO, i1, i2, i3], c < s.heap.objs.size := fun c hcm => by
      simp only [List.mem_cons, List.not_mem_nil, or_false] at hcm
      rcases hcm with q | q | q | q | q | q <;> rw [q]
      · exact zlt
      · exact Heap.lt_size z2
      · exact Heap.lt_size z3
      · exact z4.lt
      · exact z5.lt
      · exact z6.lt
    refine wpAny_pyNext_zipD3_item S (drawsK k1 hh na its.toArray) (drawsK k2 hh nb its2.toArray) (drawsK k3 hh nd its3.toArray) z1 z2 z3 ⟨z4, p⟩ ⟨z5, p2⟩ ⟨z6, p3⟩ (by simp; omega) (by simp; omega) (by simp; omega) fun u1 u2 u3 h' tk hu1 hu2 hu3 g1 g2 g3 g4 g8 g5 g6 g7 => ?_
    refine ⟨_, rfl, wpAny_letOwnedTupleGo_zip (s := { s with heap := h', toks := tk }) g1 fun h2 y1 sb => ?_⟩
    have hu1' : its[i]? = some u1 := by simpa using hu1
    have hu2' : its2[i]? = some u2 := by simpa using hu2
    have hu3' : its3[i]? = some u3 := by simpa using hu3
    obtain ⟨x, hx1, r1⟩ := vals_of rv hu1'
    obtain ⟨y, hy1, r2⟩ := vals_of rv2 hu2'
    obtain ⟨u, hz1, r3⟩ := vals_of rv3 hu3'
    have eT : h2.get? s.heap.objs.size = some { cls := .type "tuple", data := .seq #[u1, u2, u3] } := (sb.2 _ (Nat.ne_of_gt zlt)).trans g5
    have new : ObjOk X.prog X.w (upd H s.heap.objs.size (.tup [x, y, u])) h2 s.heap.objs.size (.tup [x, y, u]) :=
      ⟨by show 3 ≤ sizeLine; decide, [u1, u2, u3], .cons r1 (.cons r2 (.cons r3 .nil)), ⟨_, eT, rfl, _, rfl⟩⟩
    have kept : ∀ c o, c ∉ [z, TI, TO, i1, i2, i3] → s.heap.get? c = some o → h2.get? c = some o := fun c o hb q => by
      simp only [List.mem_cons, List.not_mem_nil, or_false, not_or] at hb
      exact (sb.2 c hb.1).trans (g7 c o hb.1 hb.2.2.1 hb.2.2.2.1 hb.2.2.2.2.1 hb.2.2.2.2.2 q)
    have I1 : Inv X pins σ (upd H s.heap.objs.size (.tup [x, y, u])) { s with heap := h2, toks := tk } := I.turnedNew (t' := tk) kept hf (Nat.le_refl _) new
    refine ⟨.ref s.heap.objs.size, _, I1, rfl, ⟨_, x, y, u, rfl, I.hok.fresh (Nat.le_refl _), rfl, fun l hl => by rw [seqK_inj I hl sx]; exact hx1, fun l hl => by rw [seqK_inj I hl sy]; exact hy1, fun l hl => by rw [seqK_inj I hl sz]; exact hz1⟩, ⟨y1, ?_, ⟨u1, u2, u3, ?_⟩, ?_, ?_, ?_⟩, fun c hcm => ?_⟩
    · exact (sb.2 _ S.TIz).trans (g7 _ _ S.TIz S.TITO S.TIi1 S.TIi2 S.TIi3 z2)
    · exact (sb.2 _ S.TOz).trans g2
    · exact g3.1.at fun o q => (sb.2 _ S.zi1.symm).trans q
    · exact g4.1.at fun o q => (sb.2 _ S.zi2.symm).trans q
    · exact g8.1.at fun o q => (sb.2 _ S.zi3.symm).trans q
    · rw [upd_ne (Nat.ne_of_lt (lti c hcm))]
      exact (hf c hcm).1
  · intro X hP hw hK hc i pins s σ H E I hf st hg
    subst hP hw hK
    obtain ⟨z1, z2, ⟨x0, y0, u0, z3⟩, z4, z5, z6⟩ := st
    obtain ⟨xs, ys, zs, sx, sy, sz, hx, hy, hz, he⟩ := hg
    obtain ⟨its, rv, p⟩ := seqK I sx
    obtain ⟨its2, rv2, p2⟩ := seqK I sy
    obtain ⟨its3, rv3, p3⟩ := seqK I sz
    have hh := hd_in1 (I.ok.hd hc)
    have l1 := rv.length
    have l2 := rv2.length
    have l3 := rv3.length
    refine wpAny_pyNext_zipD3_end S (drawsK k1 hh na its.toArray) (drawsK k2 hh nb its2.toArray) (drawsK k3 hh nd its3.toArray) z1 z2 z3 ⟨z4, p⟩ ⟨z5, p2⟩ ⟨z6, p3⟩ (by simp; omega) (by simp; omega) (by simp; omega) (by simp; omega) fun h' tk g7 => ⟨rfl, ?_⟩
    refine I.turnedL (t' := tk) (ch := [z, TI, TO, i1, i2, i3]) (fun c o hb q => ?_) hf
    simp only [List.mem_cons, List.not_mem_nil, or_false, not_or] at hb
    exact g7 c o hb.1 hb.2.2.1 hb.2.2.2.1 hb.2.2.2.2.1 hb.2.2.2.2.2 q
def iZip3 (K : PySem.W.Frag) (k1 k2 k3 : Bool) (ta : TA) : TI := fun σ H R => ta σ H fun vs H1 => ∃ a b d xs ys zs, vs = [.ref a, .ref b, .ref d] ∧ SqK K k1 H1 a xs ∧ SqK K k2 H1 b ys ∧ SqK K k3 H1 d zs ∧ R (It3 K k1 k2 k3 a b d) H1
theorem pi_zip3 {X : Cx} {k1 k2 k3 : Bool} {e e2 e3 : Expr} {ta : TA} {p pos tpos : Pos} {elts : List Expr} {kk : Nat} (hg : Gl X "zip") (hm : X.mg "zip" = none) (ha : PA X [e, e2, e3] ta)
    (hst : starEach [e, e2, e3] X.env = (false, eval e X.env) :: starEach [e2, e3] X.env := by rfl) (hpl : (backTo pos (starEach [e2, e3] X.env)).any (·.1) = false := by rfl) :
    PI X (.Tuple elts kk tpos) (.Call (.Name "zip" p) [e, e2, e3] [] pos) (iZip3 X.K k1 k2 k3 ta) := by
  refine ⟨fun pins s σ H R I h => ?_⟩
  refine Call_ (ld_blt I hg hm PyProof.Rows.boot_zip (PyProof.Rows.callWith_type1 (thn (ha.run pos pins s σ H _ I h) fun us s1 ⟨vs, H1, I1, r1, q1⟩ => ?_) hst hpl))
  obtain ⟨a, b, d, xs, ys, zs, ex, qx, qy, qz, q⟩ := q1
  subst ex
  obtain ⟨its, rv, p1⟩ := seqK I1 qx
  obtain ⟨its2, rv2, p2⟩ := seqK I1 qy
  obtain ⟨its3, rv3, p3⟩ := seqK I1 qz
  cases r1 with
  | cons r rr =>
    cases rr with
    | cons r' rr =>
      cases rr with
      | cons r'' rr =>
        cases rr
        cases r
        cases r'
        cases r''
        refine zip_call3 p1 p2 p3 fun h' n en g1 g2 g3 g4 g5 g6 hk => wpAny_pyIter_zip g1 ?_
        have I2 : Inv X pins σ H1 { s1 with heap := h' } := I1.kept (t' := s1.toks) hk
        refine ⟨n + 5, [n + 5, n + 3, n + 4, n, n + 1, n + 2], _, _, H1, rfl, I2, turn3 (n := n) ⟨rfl, rfl, rfl, rfl, rfl, rfl, by rw [en]; exact p1.lt, by rw [en]; exact p2.lt, by rw [en]; exact p3.lt⟩, ⟨g1, g2, ⟨_, _, _, g3⟩, g4, g5, g6⟩, fun c hcm => ?_, q⟩
        have hle : s1.heap.objs.size ≤ c := by
          simp only [List.mem_cons, List.not_mem_nil, or_false] at hcm
          have en' : (n : Nat) = s1.heap.objs.size := en
          rcases hcm with z | z | z | z | z | z <;> rw [z] <;> omega
        exact I1.fpOk hle (I1.hok.fresh hle)
section
variable {σ : L2.St} {H H0 : Hp} {Q : VK} {te : TE} {tt : TT} {g : TG} {K : PySem.W.Frag} {L : List (Addr × HO)} {vs : List Nat} {tr : TA}
def RZ2 (K : PySem.W.Frag) (k1 k2 : Bool) (vs : List V) (H1 : Hp) (R : It → Hp → Prop) : Prop := ∃ a b xs ys, vs = [.ref a, .ref b] ∧ SqK K k1 H1 a xs ∧ SqK K k2 H1 b ys ∧ R (It2 K k1 k2 a b) H1
def RZ3 (K : PySem.W.Frag) (k1 k2 k3 : Bool) (vs : List V) (H1 : Hp) (R : It → Hp → Prop) : Prop := ∃ a b d xs ys zs, vs = [.ref a, .ref b, .ref d] ∧ SqK K k1 H1 a xs ∧ SqK K k2 H1 b ys ∧ SqK K k3 H1 d zs ∧ R (It3 K k1 k2 k3 a b d) H1
theorem r_z2 {k1 k2 : Bool} {R : It → Hp → Prop} (q : tr σ H fun vs H1 => RZ2 K k1 k2 vs H1 R) : iZip2 K k1 k2 tr σ H R := q
theorem r_z3 {k1 k2 k3 : Bool} {R : It → Hp → Prop} (q : tr σ H fun vs H1 => RZ3 K k1 k2 k3 vs H1 R) : iZip3 K k1 k2 k3 tr σ H R := q
/-- a comprehension over zip of two; sa, sb: that they stand -/
theorem lcj2 {k1 k2 : Bool} {a b : Addr} {xs ys : List V} {n : Nat} (sel : Nat → Option PyData) (o : Own H0 H L) (hq : ∀ H' p zs, Own H0 H' ((p, .lst zs) :: L) → Stp H H' → SqK K k1 H' a xs ∧ SqK K k2 H' b ys) (h1 : SqK K k1 H a xs) (h2 : SqK K k2 H b ys) (hn : n = min xs.length ys.length) (hz : n < 10000000)
    (he : ∀ (i : Nat) (x y : V) (T : Addr) (p : Addr) (zs : List V) (H' : Hp) (R : L2.St → Hp → Prop), xs[i]? = some x → ys[i]? = some y → SqT K H' T [x, y] → Own H0 H' ((p, .lst zs) :: L) → Stp H H' → CGo K tt te vs σ (sel i) H' R → g (.ref T) (wipe σ vs) H' R)
    (k : ∀ p H' zs, Stp H H' → Own H0 H' ((p, .lst zs) :: L) → TpAll K H' zs ((List.range n).filterMap sel) → Q (.ref p) H') :
    RZ2 K k1 k2 [.ref a, .ref b] H fun J H1 => RLc J g tt te vs σ H1 Q := by
  refine ⟨a, b, xs, ys, rfl, h1, h2, lcJ n sel o hz (fun H' p zs o' s' => ⟨xs, ys, (hq H' p zs o' s').1, (hq H' p zs o' s').2, by omega, by omega, by omega⟩) (fun i H' p zs hi o' s' => ⟨xs, ys, (hq H' p zs o' s').1, (hq H' p zs o' s').2, by omega, by omega⟩) (fun i x p zs H' H1 R hi o' s' hy r => ?_) (fun i H' x H1 hy => ?_) k⟩
  · obtain ⟨T, u, v, rfl, hT, rfl, f1, f2⟩ := hy
    have s1 : Same H' (upd H' T (.tup [u, v])) := same_new hT
    exact he i u v T p zs _ R (f1 xs (hq H' p zs o' s').1) (f2 ys (hq H' p zs o' s').2) (SqT.of upd_same) (o'.mono s1) (s'.trans (.of s1)) (r s1)
  · obtain ⟨T, u, v, rfl, hT, rfl, f1, f2⟩ := hy
    exact same_new hT
theorem lcj3 {k1 k2 k3 : Bool} {a b d : Addr} {xs ys us : List V} {n : Nat} (sel : Nat → Option PyData) (o : Own H0 H L) (hq : ∀ H' p zs, Own H0 H' ((p, .lst zs) :: L) → Stp H H' → SqK K k1 H' a xs ∧ SqK K k2 H' b ys ∧ SqK K k3 H' d us) (h1 : SqK K k1 H a xs) (h2 : SqK K k2 H b ys) (h3 : SqK K k3 H d us) (hn : n = min (min xs.length ys.length) us.length) (hz : n < 10000000)
    (he : ∀ (i : Nat) (x y u : V) (T : Addr) (p : Addr) (zs : List V) (H' : Hp) (R : L2.St → Hp → Prop), xs[i]? = some x → ys[i]? = some y → us[i]? = some u → SqT K H' T [x, y, u] → Own H0 H' ((p, .lst zs) :: L) → Stp H H' → CGo K tt te vs σ (sel i) H' R → g (.ref T) (wipe σ vs) H' R)
    (k : ∀ p H' zs, Stp H H' → Own H0 H' ((p, .lst zs) :: L) → TpAll K H' zs ((List.range n).filterMap sel) → Q (.ref p) H') :
    RZ3 K k1 k2 k3 [.ref a, .ref b, .ref d] H fun J H1 => RLc J g tt te vs σ H1 Q := by
  refine ⟨a, b, d, xs, ys, us, rfl, h1, h2, h3, lcJ n sel o hz (fun H' p zs o' s' => ?_) (fun i H' p zs hi o' s' => ?_) (fun i x p zs H' H1 R hi o' s' hy r => ?_) (fun i H' x H1 hy => ?_) k⟩
  · obtain ⟨q1, q2, q3⟩ := hq H' p zs o' s'
    exact ⟨xs, ys, us, q1, q2, q3, by omega, by omega, by omega, by omega⟩
  · obtain ⟨q1, q2, q3⟩ := hq H' p zs o' s'
    exact ⟨xs, ys, us, q1, q2, q3, by omega, by omega, by omega⟩
  · obtain ⟨q1, q2, q3⟩ := hq H' p zs o' s'
    obtain ⟨T, u, v, w, rfl, hT, rfl, f1, f2, f3⟩ := hy
    have s1 : Same H' (upd H' T (.tup [u, v, w])) := same_new hT
    exact he i u v w T p zs _ R (f1 xs q1) (f2 ys q2) (f3 us q3) (SqT.of upd_same) (o'.mono s1) (s'.trans (.of s1)) (r s1)
  · obtain ⟨T, u, v, w, rfl, hT, rfl, f1, f2, f3⟩ := hy
    exact same_new hT
end
/-! ### enumerate of any sequence -/
def eA (h : Heap) (k : Bool) (l : Addr) : Heap := h.push (itO k l)
def eB (h : Heap) (k : Bool) (l : Addr) : Heap := (eA h k l).push { cls := .type "enumerate", data := .fields #[.none, .bool false, .ref h.objs.size, rawInt 0, .none, .none] }
theorem enum_newK (k : Bool) (l : Addr) (items : Array Value) :
    Meets (Builtin.«enumerate.__new__» ⟨[.type "enumerate", .ref l], []⟩) (fun _ R s => HSq k s.heap l items ∧ (∃ o : Obj, s.heap.get? l = some o ∧ o.cls = .type (if k then "tuple" else "list") ∧ ∃ n, o.data = .seq items n) ∧
      R (.ok (.ret (.ref (eA s.heap k l).objs.size))) { s with heap := eB s.heap k l }) :=
  .of_wp fun prog w A R s h => by
    obtain ⟨hp, g, d, tk, os⟩ := s
    obtain ⟨q1, ⟨⟨c, dct, dt, sl⟩, hl, hc, n, hd⟩, h⟩ := h
    have hsub := sub_enumerate
    have p1 : HSq k (Shared.heap ⟨hp, g, d, tk, os⟩) l items := q1
    cases hc
    cases hd
    cases k
    all_goals
      wp_walk
      refine wpAny_stack_any fun st => wpAny_pure ?_
      split
      · rename_i c _ _ _ _ _
        cases (c == Value.type "enumerate")
        · wp_walk using wpAny_loadPart' hl, iterK p1
          exact ⟨_, rfl, h⟩
        · wp_walk using wpAny_loadPart' hl, iterK p1
          exact ⟨_, rfl, h⟩
      · wp_walk using wpAny_loadPart' hl, iterK p1
        exact ⟨_, rfl, h⟩
theorem HSq.obj {k : Bool} {h : Heap} {l : Addr} {xs : Array Value} (x : HSq k h l xs) : ∃ o : Obj, h.get? l = some o ∧ o.cls = .type (if k then "tuple" else "list") ∧ ∃ n, o.data = .seq xs n := by
  cases k
  · exact (show h.IsList l xs from x)
  · exact (show h.IsTuple l xs from x)
section
variable {prog : Program} {w : World} {A : Around} {E : Value → Shared → Prop} {s : Shared}
theorem enum_callK {k : Bool} {l : Addr} {items : Array Value} {Q : Value → Shared → Prop} (q1 : HSq k s.heap l items)
    (h : ∀ h' n, n = s.heap.objs.size → IsEnum h' (n + 1) n 0 .none → HIt k h' n l 0 → (∀ b o, s.heap.get? b = some o → h'.get? b = some o) → Q (.ref (n + 1)) { s with heap := h' }) :
    wpAny (model prog w) A (call (.type "enumerate") [.ref l]) Q E s := by
  refine callType_new F.called_enumerate (by decide) (F.typeCall_enumerate_1 _) (F.newCall_enumerate_1 _) (fun obj => F.args_object_init_2 obj _) F.entry_enumerate_new (enum_newK k l items) ⟨q1, q1.obj, ?_⟩
  have e1 : (eA s.heap k l).objs.size = s.heap.objs.size + 1 := Heap.size_push ..
  have uB : ∀ c o, (eA s.heap k l).get? c = some o → (eB s.heap k l).get? c = some o := fun c o e => Heap.get?_push_of_some _ e
  have g1 : (eB s.heap k l).get? (eA s.heap k l).objs.size = some _ := Heap.get?_push_size _ rfl
  rw [e1] at g1
  show _ ∧ _
  rw [e1]
  exact ⟨⟨_, g1, rfl⟩, h _ _ rfl g1 (HIt.mk0 (uB _ _ (Heap.get?_push_size _ rfl))) fun c o e => uB c o (Heap.get?_push_of_some _ e)⟩
end
/-- the sequence at a, each item in a new pair with its place -/
def ItE (K : PySem.W.Frag) (k : Bool) (a : Addr) : It :=
  ⟨fun i H => ∃ (xs : List V), SqK K k H a xs ∧ i < xs.length, fun i H v H' => ∃ T x, v = .ref T ∧ H T = none ∧ H' = upd H T (.tup [.int (i : Nat), x]) ∧ ∀ xs, SqK K k H a xs → xs[i]? = some x, fun i H => ∃ xs : List V, SqK K k H a xs ∧ i = xs.length⟩
theorem turnE {P : Program} {w : World} {K : PySem.W.Frag} {k : Bool} {elts : List Expr} {kk : Nat} {tpos : Pos} {a e it : Addr} (na : a ≠ it) (ne : e ≠ it) (nea : e ≠ a) :
    Turn P w K (.Tuple elts kk tpos) (ItE K k a) [e, it] e (fun i h => (∃ old, IsEnum h e it ((i : Nat) : Int) old) ∧ HIt k h it a i) := by
  refine ⟨by simp, fun i h st b hb => ?_, fun i h h' st kp => ?_, ?_, ?_, fun A i s Q E st h => by obtain ⟨⟨_, he⟩, _⟩ := st; exact wpAny_pyIter_enum he h⟩
  · obtain ⟨⟨old, he⟩, hi⟩ := st
    rcases List.mem_cons.mp hb with q | q
    · rw [q]; exact ⟨_, he, fun v q => nomatch q⟩
    · rw [List.mem_singleton.mp q]; exact hi.obj
  · obtain ⟨⟨old, he⟩, hi⟩ := st
    exact ⟨⟨old, kp e (by simp) _ he⟩, hi.at fun o q => kp it (by simp) o q⟩
  · intro X hP hw hK hc i pins s σ H E I hf st hg
    subst hP hw hK
    obtain ⟨⟨old, he⟩, hi⟩ := st
    obtain ⟨xs, sx, hx⟩ := hg
    obtain ⟨its, rv, p⟩ := seqK I sx
    have hh := hd_in1 (I.ok.hd hc)
    have l1 := rv.length
    have elt : e < s.heap.objs.size := Heap.lt_size he
    have ilt : it < s.heap.objs.size := hi.lt
    refine wpAny_pyNext_enum_itemD (drawsK k hh na its.toArray) he ⟨hi, p⟩ (by simp; omega) ne (nin2 ⟨ne, nea⟩) fun u h' tk hu ho st' hT hsz hk => ?_
    refine ⟨_, rfl, wpAny_letOwnedTupleGo_enum (s := { s with heap := h', toks := tk + 1 }) ho fun h2 he2 sb => ?_⟩
    have hu' : its[i]? = some u := by simpa using hu
    obtain ⟨x, hx1, r1⟩ := vals_of rv hu'
    have eT : h2.get? s.heap.objs.size = some { cls := .type "tuple", data := .seq #[.int i tk, u] } := (sb.2 _ (Nat.ne_of_gt elt)).trans hT
    have new : ObjOk X.prog X.w (upd H s.heap.objs.size (.tup [.int (i : Nat), x])) h2 s.heap.objs.size (.tup [.int (i : Nat), x]) :=
      ⟨by show 2 ≤ sizeLine; decide, [.int i tk, u], .cons ⟨_, rfl⟩ (.cons r1 .nil), ⟨_, eT, rfl, _, rfl⟩⟩
    have kept : ∀ c o, c ∉ [e, it] → s.heap.get? c = some o → h2.get? c = some o := fun c o hb q => by
      simp only [List.mem_cons, List.not_mem_nil, or_false, not_or] at hb
      exact (sb.2 c hb.1).trans (hk c o hb.1 hb.2 q)
    have I1 : Inv X pins σ (upd H s.heap.objs.size (.tup [.int (i : Nat), x])) { s with heap := h2, toks := tk + 1 } := I.turnedNew (t' := tk + 1) kept hf (Nat.le_refl _) new
    refine ⟨.ref s.heap.objs.size, _, I1, rfl, ⟨_, x, rfl, I.hok.fresh (Nat.le_refl _), rfl, fun l hl => by rw [seqK_inj I hl sx]; exact hx1⟩, ⟨⟨u, ?_⟩, st'.1.at fun o q => (sb.2 it (Ne.symm ne)).trans q⟩, fun c hcm => ?_⟩
    · have e1 : ((i + 1 : Nat) : Int) = (i : Int) + 1 := by omega
      rw [e1]
      exact he2
    · have clt : c < s.heap.objs.size := by
        rcases List.mem_cons.mp hcm with q | q
        · rw [q]; exact elt
        · rw [List.mem_singleton.mp q]; exact ilt
      rw [upd_ne (Nat.ne_of_lt clt)]
      exact (hf c hcm).1
  · intro X hP hw hK hc i pins s σ H E I hf st hg
    subst hP hw hK
    obtain ⟨⟨old, he⟩, hi⟩ := st
    obtain ⟨xs, sx, hx⟩ := hg
    obtain ⟨its, rv, p⟩ := seqK I sx
    have hh := hd_in1 (I.ok.hd hc)
    have l1 := rv.length
    have ei : i = its.toArray.size := by simp; omega
    refine wpAny_pyNext_enum_endD (drawsK k hh na its.toArray) he ⟨by rw [← ei]; exact hi, p⟩ fun h' eb => ⟨rfl, ?_⟩
    refine I.turnedL (t' := s.toks) (ch := [e, it]) (fun c o hb q => ?_) hf
    simp only [List.mem_cons, List.not_mem_nil, or_false, not_or] at hb
    exact eb c o hb.2 q
def iEnumK (K : PySem.W.Frag) (k : Bool) (ta : TA) : TI := fun σ H R => ta σ H fun vs H1 => ∃ a xs, vs = [.ref a] ∧ SqK K k H1 a xs ∧ R (ItE K k a) H1
theorem pi_enumK {X : Cx} {k : Bool} {e : Expr} {ta : TA} {p pos tpos : Pos} {elts : List Expr} {kk : Nat} (hg : Gl X "enumerate") (hm : X.mg "enumerate" = none) (ha : PA X [e] ta) (hst : starEach [e] X.env = [(false, eval e X.env)] := by rfl) :
    PI X (.Tuple elts kk tpos) (.Call (.Name "enumerate" p) [e] [] pos) (iEnumK X.K k ta) := by
  refine ⟨fun pins s σ H R I h => ?_⟩
  refine Call_ (ld_blt I hg hm boot_enumerate (PyProof.Rows.callWith_type1 (thn (ha.run pos pins s σ H _ I h) fun us s1 ⟨vs, H1, I1, r1, q1⟩ => ?_) hst rfl))
  obtain ⟨a, xs, ex, hq, q⟩ := q1
  subst ex
  obtain ⟨its, rv, p1⟩ := seqK I1 hq
  cases r1 with
  | cons r rr =>
    cases rr
    cases r
    refine enum_callK p1 fun h' n en g1 g2 hk => wpAny_pyIter_enum g1 ?_
    have I2 : Inv X pins σ H1 { s1 with heap := h' } := I1.kept (t' := s1.toks) hk
    have al : a < n := by rw [en]; exact p1.lt
    refine ⟨n + 1, [n + 1, n], _, _, H1, rfl, I2, turnE (Nat.ne_of_lt al) (Nat.succ_ne_self _) (Nat.ne_of_gt (Nat.lt_succ_of_lt al)), ⟨⟨.none, g1⟩, g2⟩, fun c hcm => ?_, q⟩
    have hle : s1.heap.objs.size ≤ c := by
      rcases List.mem_cons.mp hcm with z | z
      · rw [z, en]; exact Nat.le_succ _
      · rw [List.mem_singleton.mp z, en]; exact Nat.le_refl _
    exact I1.fpOk hle (I1.hok.fresh hle)
section
variable {σ : L2.St} {H H0 : Hp} {Q : VK} {te : TE} {tt : TT} {g : TG} {K : PySem.W.Frag} {L : List (Addr × HO)} {vs : List Nat} {tr : TA}
def REn (K : PySem.W.Frag) (k : Bool) (vs : List V) (H1 : Hp) (R : It → Hp → Prop) : Prop := ∃ a xs, vs = [.ref a] ∧ SqK K k H1 a xs ∧ R (ItE K k a) H1
theorem r_en {k : Bool} {R : It → Hp → Prop} (q : tr σ H fun vs H1 => REn K k vs H1 R) : iEnumK K k tr σ H R := q
theorem lcjEn {k : Bool} {a : Addr} {xs : List V} (sel : Nat → Option PyData) (o : Own H0 H L) (hq : ∀ H' p zs, Own H0 H' ((p, .lst zs) :: L) → Stp H H' → SqK K k H' a xs) (h1 : SqK K k H a xs) (hz : xs.length < 10000000)
    (he : ∀ (i : Nat) (x : V) (T : Addr) (p : Addr) (zs : List V) (H' : Hp) (R : L2.St → Hp → Prop), xs[i]? = some x → SqT K H' T [.int (i : Int), x] → Own H0 H' ((p, .lst zs) :: L) → Stp H H' → CGo K tt te vs σ (sel i) H' R → g (.ref T) (wipe σ vs) H' R)
    (kd : ∀ p H' zs, Stp H H' → Own H0 H' ((p, .lst zs) :: L) → TpAll K H' zs ((List.range xs.length).filterMap sel) → Q (.ref p) H') :
    REn K k [.ref a] H fun J H1 => RLc J g tt te vs σ H1 Q := by
  refine ⟨a, xs, rfl, h1, lcJ xs.length sel o hz (fun H' p zs o' s' => ⟨xs, hq H' p zs o' s', rfl⟩) (fun i H' p zs hi o' s' => ⟨xs, hq H' p zs o' s', hi⟩) (fun i x p zs H' H1 R hi o' s' hy r => ?_) (fun i H' x H1 hy => ?_) kd⟩
  · obtain ⟨T, u, rfl, hT, rfl, f1⟩ := hy
    have s1 : Same H' (upd H' T (.tup [.int (i : Nat), u])) := same_new hT
    exact he i u T p zs _ R (f1 xs (hq H' p zs o' s')) (SqT.of upd_same) (o'.mono s1) (s'.trans (.of s1)) (r s1)
  · obtain ⟨T, u, rfl, hT, rfl, f1⟩ := hy
    exact same_new hT
end
/-! ### a tuple times an int: once is the tuple itself, not at all the empty one -/
theorem tup_mul1 (l : Addr) (items : Array Value) (n : Nat) (dd : Option Addr) (sl : Array (Option Value)) (u : Tok) :
    Meets (Builtin.«tuple.__mul__» ⟨[.ref l, .int 1 u], []⟩) (fun _ R s => s.heap.get? l = some { cls := .type "tuple", dict := dd, data := .seq items n, slots := sl } ∧ R (.ok (.ret (.ref l))) s) :=
  .of_wp fun prog w A R s h => by
    obtain ⟨hp, g, d, tk, os⟩ := s
    obtain ⟨hl, h⟩ := h
    have f1 := AutoSeq1.idx_int
    have c1 : (items.isEmpty || (1 : Int) == 1) = true := by simp
    wp_walk using wpAny_loadPart' hl
    exact ⟨_, rfl, h⟩
theorem tup_mul0 (l : Addr) (items : Array Value) (n : Nat) (dd : Option Addr) (sl : Array (Option Value)) (u : Tok) (c1 : items.isEmpty = false) :
    Meets (Builtin.«tuple.__mul__» ⟨[.ref l, .int 0 u], []⟩) (fun _ R s => s.heap.get? l = some { cls := .type "tuple", dict := dd, data := .seq items n, slots := sl } ∧
      R (.ok (.ret (.ref s.heap.objs.size))) { s with heap := s.heap.push { cls := .type "tuple", data := .seq #[] } }) :=
  .of_wp fun prog w A R s h => by
    obtain ⟨hp, g, d, tk, os⟩ := s
    obtain ⟨hl, h⟩ := h
    have f1 := AutoSeq1.idx_int
    have c2 : (items.isEmpty || (0 : Int) == 1) = false := by rw [c1]; rfl
    wp_walk using wpAny_loadPart' hl
    repeat (first
      | (refine wpAny_ite_false (decide_eq_false (by rw [c2]; exact Bool.false_ne_true)) ?_; wp_walk using wpAny_loadPart' hl))
    exact ⟨_, rfl, h⟩
def rRepA (K : PySem.W.Frag) : R2 := fun x y H Q => ∃ l k xs, x = .ref l ∧ y = .int k ∧ SqT K H l xs ∧ xs ≠ [] ∧ 0 ≤ k ∧ k ≤ 1000 ∧ xs.length ≤ 1000 ∧ (k = 1 → Q (.ref l) H) ∧ (k ≠ 1 → ∀ p, H p = none → Q (.ref p) (upd H p (.tup (List.replicate k.toNat xs).flatten)))
theorem op_repA {X : Cx} : OpR X (binaryOp .Mult) (rRepA X.K) := by
  intro pins s σ H x y v u Q I rx ry h
  obtain ⟨l, k, xs, rfl, rfl, hT, hne, h1, h2, hz, q1, q⟩ := h
  by_cases hk1 : k = 1
  · subst hk1
    cases rx
    obtain ⟨t, rfl⟩ := ry
    obtain ⟨its, r, ⟨⟨cls, dd, data, sl⟩, ho, hc, n, hd⟩, hs⟩ := I.tuple hT
    simp only at hc hd
    subst hc hd
    refine wpAny_binaryOp_repeat_ref (T := "tuple") (U := "int") (by decide) ⟨_, ho, rfl⟩ (fun s' => typeIs_int s' 1 t) noFill_tuple_mul F.fills_int_mul F.slot_int_rmul repeat_tuple F.slot_int_index.lookup
      (call_meets F.slot_int_rmul (typeIs_int s 1 t) F.entry_int_rmul (F.args_int_rmul_2 _ _) (int_rmul_tuple 1 t l its.toArray n dd sl)
        ⟨ho, rfl, ⟨_, ho, rfl⟩, call_meets F.slot_tuple_mul ⟨_, ho, rfl⟩ F.entry_tuple_mul (F.args_tuple_mul_2 _ _) (tup_mul1 l its.toArray n dd sl t) ⟨ho, ?_⟩⟩)
    exact ⟨.ref l, H, I, rfl, q1 rfl⟩
  by_cases hk0 : k = 0
  · subst hk0
    cases rx
    obtain ⟨t, rfl⟩ := ry
    obtain ⟨its, r, ⟨⟨cls, dd, data, sl⟩, ho, hc, n, hd⟩, hs⟩ := I.tuple hT
    simp only at hc hd
    subst hc hd
    have hi : its.toArray.isEmpty = false := by
      have hl := r.length
      cases its with
      | nil => exact absurd (List.eq_nil_of_length_eq_zero hl) hne
      | cons a b => rfl
    refine wpAny_binaryOp_repeat_ref (T := "tuple") (U := "int") (by decide) ⟨_, ho, rfl⟩ (fun s' => typeIs_int s' 0 t) noFill_tuple_mul F.fills_int_mul F.slot_int_rmul repeat_tuple F.slot_int_index.lookup
      (call_meets F.slot_int_rmul (typeIs_int s 0 t) F.entry_int_rmul (F.args_int_rmul_2 _ _) (int_rmul_tuple 0 t l its.toArray n dd sl)
        ⟨ho, rfl, ⟨_, ho, rfl⟩, call_meets F.slot_tuple_mul ⟨_, ho, rfl⟩ F.entry_tuple_mul (F.args_tuple_mul_2 _ _) (tup_mul0 l its.toArray n dd sl t hi) ⟨ho, ?_⟩⟩)
    refine ⟨.ref s.heap.objs.size, _, I.laid (t' := s.toks) (o := .tup []) (fun b ob q => Heap.get?_push_of_some _ q) (Nat.le_refl _) ?_, rfl, q hk1 _ (I.hok.fresh (Nat.le_refl _))⟩
    exact ⟨Nat.zero_le _, _, .nil, IsTup.new _ _⟩
  · exact op_repT pins s σ H _ _ v u Q I rx ry ⟨l, k, xs, rfl, rfl, hT, hne, by omega, h2, hz, q hk1⟩
section
variable {H0 H : Hp} {Q : VK} {K : PySem.W.Frag} {L : List (Addr × HO)}
/-- (x,) * n -/
theorem r_repA {a : Addr} {x : V} {i : Int} {n : Nat} (o : Own H0 H L) (ha : SqT K H a [x]) (hi : i = (n : Int)) (hn : n ≤ 1000) (k : ∀ p H', Stp H H' → Own H0 H' L → SqT K H' p (List.replicate n x) → Q (.ref p) H') : rRepA K (.ref a) (.int i) H Q := by
  subst hi
  refine ⟨a, _, [x], rfl, rfl, ha, by simp, by omega, by omega, by simp, fun e => ?_, fun e p hp => ?_⟩
  · have en : n = 1 := by omega
    subst en
    exact k a H (.refl _) o ha
  · have e2 : (List.replicate (n : Int).toNat [x]).flatten = List.replicate n x := by
      rw [show (n : Int).toNat = n from rfl]
      exact flat_rep n x
    rw [e2]
    exact k p _ (.of (same_new hp)) (o.mono (same_new hp)) (SqT.of upd_same)
/-- t[lo:hi] -/
theorem r_slA {a : Addr} {xs : List V} {lo hi : Option Int} (o : Own H0 H L) (ha : SqT K H a xs) (k : ∀ p H', Stp H H' → Own H0 H' L → SqT K H' p (cutV xs lo hi) → Q (.ref p) H') : rSlA K (.ref a) lo hi H Q := by
  refine ⟨a, xs, rfl, ha, fun e => ?_, fun _ p hp => k p _ (.of (same_new hp)) (o.mono (same_new hp)) (SqT.of upd_same)⟩
  refine k a H (.refl _) o ?_
  have e2 : cutV xs lo hi = xs := by
    unfold cutV
    rw [e.1, e.2]
    simp
  rw [e2]
  exact ha
/-- t + u -/
theorem r_catA {a b : Addr} {xs ys : List V} (o : Own H0 H L) (ha : SqT K H a xs) (hb : SqT K H b ys) (hz : xs.length + ys.length ≤ 10000000) (k : ∀ p H', Stp H H' → Own H0 H' L → SqT K H' p (xs ++ ys) → Q (.ref p) H') : rCatA K (.ref a) (.ref b) H Q := by
  refine ⟨a, b, xs, ys, rfl, rfl, ha, hb, sz100 hz, fun e => ?_, fun _ e => ?_, fun _ _ p hp => k p _ (.of (same_new hp)) (o.mono (same_new hp)) (SqT.of upd_same)⟩
  · subst e
    exact k b H (.refl _) o hb
  · subst e
    exact k a H (.refl _) o (by rw [List.append_nil]; exact ha)
end
/-! ### walks with K told (within comprehensions) -/
theorem pi_listK {X : Cx} {K : PySem.W.Frag} {tg e : Expr} {te : TE} (hK : X.K = K) (he : PE X e te) : PI X tg e (iList K te) := by
  subst hK
  exact pi_list he
theorem pi_tupK {X : Cx} {K : PySem.W.Frag} {tg e : Expr} {te : TE} (hK : X.K = K) (he : PE X e te) : PI X tg e (iTup K te) := by
  subst hK
  exact pi_tup he
theorem pi_zip2K {X : Cx} {K : PySem.W.Frag} {k1 k2 : Bool} {e e2 : Expr} {ta : TA} {p pos tpos : Pos} {elts : List Expr} {kk : Nat} (hK : X.K = K) (hg : Gl X "zip") (hm : X.mg "zip" = none) (ha : PA X [e, e2] ta)
    (hst : starEach [e, e2] X.env = (false, eval e X.env) :: starEach [e2] X.env := by rfl) (hpl : (backTo pos (starEach [e2] X.env)).any (·.1) = false := by rfl) :
    PI X (.Tuple elts kk tpos) (.Call (.Name "zip" p) [e, e2] [] pos) (iZip2 K k1 k2 ta) := by
  subst hK
  exact pi_zip2 hg hm ha hst hpl
theorem pi_zip3K {X : Cx} {K : PySem.W.Frag} {k1 k2 k3 : Bool} {e e2 e3 : Expr} {ta : TA} {p pos tpos : Pos} {elts : List Expr} {kk : Nat} (hK : X.K = K) (hg : Gl X "zip") (hm : X.mg "zip" = none) (ha : PA X [e, e2, e3] ta)
    (hst : starEach [e, e2, e3] X.env = (false, eval e X.env) :: starEach [e2, e3] X.env := by rfl) (hpl : (backTo pos (starEach [e2, e3] X.env)).any (·.1) = false := by rfl) :
    PI X (.Tuple elts kk tpos) (.Call (.Name "zip" p) [e, e2, e3] [] pos) (iZip3 K k1 k2 k3 ta) := by
  subst hK
  exact pi_zip3 hg hm ha hst hpl
theorem pi_enumKK {X : Cx} {K : PySem.W.Frag} {k : Bool} {e : Expr} {ta : TA} {p pos tpos : Pos} {elts : List Expr} {kk : Nat} (hK : X.K = K) (hg : Gl X "enumerate") (hm : X.mg "enumerate" = none) (ha : PA X [e] ta) (hst : starEach [e] X.env = [(false, eval e X.env)] := by rfl) :
    PI X (.Tuple elts kk tpos) (.Call (.Name "enumerate" p) [e] [] pos) (iEnumK K k ta) := by
  subst hK
  exact pi_enumK hg hm ha hst
/-! ### own errors whose __init__ calls super().__init__ -/
/-- what is asked of the program as a whole -/
structure PrOk (P : Program) : Prop where
  file : P.main.file = "/claim/cut.py"
  top : (P.main.scope.names.lookup ("super" : Str)).isSome = false
/-- the def at fI is the __init__ of the class at C and closes over it -/
structure SupAt (K : PySem.W.Frag) (C : Addr) (qn : Str) (st : Stmt) (fI : Addr) (fd : FuncData) : Prop where
  ex : ∃ (oc : Value) (od : Option Addr) (kV doc pm : Value) (an : Option Addr) (cda cc : Addr) (ct : Value) (osl : Array (Option Value)),
    fd = PySem.W.fnX "__init__" qn (defArgs st) (defBody st) (defScope st) [("__class__", cc)] .none kV doc pm an (.ref cda) ct ∧ K.lookup fI = some ⟨oc, od, .func fd, osl⟩ ∧ PySem.W.codeIn K (.ref cda) qn = true ∧
    (∃ (cl : Value) (cld : Option Addr) (csl : Array (Option Value)), K.lookup cc = some ⟨cl, cld, .cell (some (.ref C)), csl⟩) ∧
    ∃ (cl : Value) (cld : Option Addr) (csl : Array (Option Value)) (fs : Array Value) (tf : Tok), K.lookup cda = some ⟨cl, cld, .fields fs, csl⟩ ∧ fs[2]? = some (.str "/claim/cut.py" tf)
/-- what else the written part says of the class -/
structure SupC (K : PySem.W.Frag) (C : Addr) : Prop where
  oex : OexC K C
  ini : PySem.W.ks_superIn K C C "__init__" = some (some (.builtin "ValueError.__init__"))
  sub : PySem.W.subIn K (.ref C) (.type "ValueError") = some true
  self : PySem.W.mroIn K C (.ref C) = some true
  stat : PySem.W.nsIn K PySem.cStatics "thirdparty.any" = some none
theorem mw_call1 {M : Model} {A : Around} {E : Value → Shared → Prop} {s : Shared} {u x : Addr} {i : String} {pos : Pos} {env : Env} {e : Expr} {Q : Value → Shared → Prop} (hst : starEach [e] env = [(false, eval e env)])
    (h : wpAny M A (spliced (backTo pos (starEach [e] env))) (fun vs s₁ => PySem.W.KxsAt i u x s₁.heap ∧ wpAny M A (call (.ref u) vs) Q E s₁) E s) : wpAny M A (callWith pos (.ref u) [] (backTo pos (starEach [e] env)) []) Q E s := by
  rw [hst] at h ⊢
  exact PySem.W.kxs_callWith (i := i) (x := x) rfl (Calls.evalArgs_plain h)
theorem cls_obj {K : PySem.W.Frag} {C : Addr} {cd : ClassData} (h : PySem.W.clsIn K C = some cd) : ∃ o, K.lookup C = some o ∧ o.data = .cls cd := by
  unfold PySem.W.clsIn at h
  split at h
  · rename_i c d cd' sl ho
    cases h
    exact ⟨_, ho, rfl⟩
  · cases h
section
variable {P : Program} {w : World} {K : PySem.W.Frag} {mg : Str → Option Value} {base : Heap}
abbrev supF (qn : Str) (st : Stmt) (cda cc : Addr) : NdefX.NF := ⟨"__init__", qn, defArgs st, [], defScope st, [("__class__", cc)], cda⟩
theorem SupAt.ok {C fI : Addr} {qn : Str} {st : Stmt} {N ps : List Str} {k : Nat} {sp : Sp} {fd : FuncData} {p0 p1 p2 p3 p4 : Pos} {msg : Expr} {pl : Env → Sem Bool} {rest : List Stmt} {ar : Arg} (S : SupAt K C qn st fI fd) (hP : PrOk P) (U : SupC K C) (Z : NdefX.NScope N ps ["__class__"] (defScope st))
    (hsup : mg "super" = none) (har : ((defArgs st).posonlyargs ++ (defArgs st).args).head? = some ar) (han : ps.head? = some ar.arg)
    (hks : (defScope st).names.lookup ("super" : Str) = some .globalImplicit)
    (hB : defBody st = .Expr (.Call (.Attribute (.Call (.Name "super" p0) [] [] p1) "__init__" p2) [msg] [] p3) p4 :: rest)
    (hst : ∀ env : Env, starEach [msg] env = [(false, eval msg env)]) (hsw : ∀ env : Env, swapsWith (.Call (.Attribute (.Call (.Name "super" p0) [] [] p1) "__init__" p2) [msg] [] p3) none p4.line env = pure false)
    (hev : ∀ env : Env, eval (.Call (.Attribute (.Call (.Name "super" p0) [] [] p1) "__init__" p2) [msg] [] p3) env = (do
      let ov ← attributeBase (.Call (.Name "super" p0) [] [] p1) "__init__" env (eval (.Call (.Name "super" p0) [] [] p1) env)
      standAt p2.atName
      let (f, first) ← holding [ov] (getMethod ov "__init__" (pl env))
      callWith p3 f first (backTo p3 (starEach [msg] env)) []))
    (len : ∀ vs H Q E, sp vs H Q E → vs.length = ps.length)
    (hbody : ∀ (cda cc : Addr) (A : Around) (outer : List Env) (s : Shared) (H : Hp) (vs : List V) (Q : VK) (E : XK), Room k (A.deeper (NdefX.envF (supF qn st cda cc) fI s.heap.objs.size)) → sp vs H Q E →
      ∃ (a : Addr) (vs2 : List V) (tm : TE) (tr : TS), vs = .ref a :: vs2 ∧ H a = some (exo a C none) ∧ PE (NdefX.ncx CX0 P w K mg base N (supF qn st cda cc) fI A outer s H E) msg tm ∧ PSs (NdefX.ncx CX0 P w K mg base N (supF qn st cda cc) fI A outer s H E) rest tr ∧
        tm (NdefX.startF N vs [none]) H fun x H1 => (∃ v, [x] = [v]) ∧ H1 a = some (exo a C none) ∧ tr { nx := fun _ H' => Q .non H', rt := Q } (NdefX.startF N vs [none]) H1) :
    FnOk P w K mg base CX0 (k + 1) fI fd ps sp := by
  obtain ⟨oc, od, kV, doc, pm, an, cda, cc, ct, osl, rfl, lk, hcd, ⟨cl1, cld1, csl1, hcc⟩, cl2, cld2, csl2, fs, tf, hcda, hfs⟩ := S.ex
  refine ⟨len, fun A outer s H args us vs Q E hr e0 hb r hsp => ?_⟩
  have KX : K.In s.heap := e0.mod.kin.keeps fun b o e => (e0.bs b o e).1
  have lim : s.heap.NoLimit := e0.mod.nolimit.keeps fun b o e => (e0.bs b o e).1
  have hl := len _ _ _ _ hsp
  have ccH : H cc = none := (e0.bs cc _ (e0.mod.kin _ _ hcc)).2
  have CA : NdefX.CellsAt [("__class__", cc)] ["__class__"] [none] s.heap H := by
    have look : ∀ y c, List.lookup y [(("__class__" : Str), cc)] = some c → y = "__class__" ∧ c = cc := fun y c h => by
      by_cases e : y = "__class__"
      · subst e
        simp [List.lookup] at h
        exact ⟨rfl, h.symm⟩
      · have e2 : (y == ("__class__" : Str)) = false := by simpa using e
        simp [List.lookup, e2] at h
    refine ⟨rfl, fun y c h => ?_, fun x y c h1 h2 => ?_, fun i y h => ?_⟩
    · obtain ⟨rfl, rfl⟩ := look y c h
      exact ⟨ccH, _, _, KX _ _ hcc, rfl⟩
    · rw [(look x c h1).1, (look y c h2).1]
    · match i, h with
      | 0, h =>
        have e : y = "__class__" := (Option.some.inj h).symm
        subst e
        exact ⟨cc, by simp [List.lookup], fun v z => by cases z⟩
  obtain ⟨a, vs2, tm, tr, hvs, ha, hm, htr, hq⟩ := hbody cda cc A outer s H vs Q E (hr.deeper _) hsp
  refine PySem.ks_codeAny_call_defAt (binds := ps.zip us) hr.depth (KX _ _ lk) rfl lim (PySem.W.codeRec_of KX hcd) rfl hb Z.nocell (fun ⟨n, _⟩ hy => Z.par n (List.of_mem_zip hy).1) (fun h₀ hns kp => ?_) Z.co Z.gen Z.kind
  have I := NdefX.inv_startN (f := fI) (F := supF qn st cda cc) (CX := CX0) (E := E) (tk := s.toks + (ps.zip us).length) Z hr.hd e0 hl r CA hns kp
  have q0 : ∃ us2, us = .ref a :: us2 := by
    subst hvs
    cases r with
    | @cons _ u0 _ ur r0 r1 =>
      obtain rfl : u0 = Value.ref a := r0
      exact ⟨ur, rfl⟩
  obtain ⟨us2, hus⟩ := q0
  obtain ⟨p', ps2, hps⟩ : ∃ p' ps2, ps = p' :: ps2 := by
    cases ps with
    | nil => cases han
    | cons p' ps2 => exact ⟨p', ps2, rfl⟩
  have hp' : p' = ar.arg := by
    rw [hps] at han
    exact Option.some.inj han
  have ndP : ps.Nodup := by
    have q := Z.nd.sublist (List.take_sublist (ps.length + 1) N)
    rw [show N.take (ps.length + 1) = ps ++ [("__class__" : Str)] from Z.pre] at q
    exact (List.nodup_append.mp q).1
  have hself : (ps.zip us).reverse.lookup ar.arg = some (.ref a) := by
    refine NdefX.zip_look (i := 0) ndP ?_ ?_
    · rw [hps, hp']; rfl
    · rw [hus]; rfl
  have hself2 : (defScope st).names.lookup ar.arg = some .local := by
    rw [← hp']
    exact Z.par p' (by rw [hps]; exact List.mem_cons_self ..)
  refine PySem.ks_wpAt_mono (Q := SP (NdefX.ncx CX0 P w K mg base N (supF qn st cda cc) fI A outer s H E) [] { nx := fun _ H' => Q .non H', rt := Q }) (E := (NdefX.ncx CX0 P w K mg base N (supF qn st cda cc) fI A outer s H E).xe) ?_ (fun fl s' hs => ?_) fun _ _ z => z
  · show PySem.wpAt _ _ _ (execs (defBody st) _) _ _ _
    obtain ⟨oD, hD0, hD2⟩ : ∃ o, K.lookup C = some o ∧ ∃ cd, o.data = .cls cd ∧ PySem.W.clsIn K C = some cd := by
      have q := U.self
      unfold PySem.W.mroIn at q
      cases z : PySem.W.clsIn K C with
      | none => rw [z] at q; cases q
      | some cd =>
        obtain ⟨o, h1, h2⟩ := cls_obj z
        exact ⟨o, h1, cd, h2, rfl⟩
    obtain ⟨cd, hD3, hD4⟩ := hD2
    have K1 := I.kIn
    obtain ⟨t1, ho⟩ := exo_at I.hok ha
    have gN := I.mod.glob.keeps I.bk
    obtain ⟨mb, hmb1, hmb2⟩ := I.mod.blt
    have bN := hmb1.keeps I.bk
    rw [hB]
    refine PySem.ks_wpAt_execs_cons ?_
    refine PySem.ks_wpAt_Expr_any ?_ (by show ((defScope st).kind == .module && _) = false; rw [Z.kind]; rfl) (hsw _)
    refine PySem.ks_wpAt_MethodCall ?_ (hev _)
    refine PySem.ks_wpAt_super_base hks (Z.frk _ (List.mem_singleton.mpr rfl)) (by decide) rfl (K1 _ _ lk) rfl har rfl (K1 _ _ hcda) rfl hfs (by rw [hP.file]; exact beq_self_eq_true _) hP.top ?_
    refine PySem.W.ks_loadName_global Z.kind hks (Calls.loadGlobal_builtin gN hsup bN ((hmb2 _ (by decide)).trans (by kernel_rfl)) ⟨rfl, ?_⟩)
    refine wpAny_loadName_free Z.kind (Z.frk _ (List.mem_singleton.mpr rfl)) (show List.lookup ("__class__" : Str) [(("__class__" : Str), cc)] = some cc by simp [List.lookup]) ⟨_, K1 _ _ hcc, rfl⟩ ?_
    refine wpAny_loadName_local Z.kind hself2 hns hself ?_
    refine PySem.ks_wpAny_isType_cls (K1 _ _ hD0) hD3 ⟨rfl, ?_⟩
    refine PySem.ks_wpAny_call_super (K1 _ _ hD0) hD3 ho rfl (fun c z => by cases z) (PySem.W.looks_mroIn K1 U.self) (fun h1 e1 k1 => ?_)
    have I1 := I.kept (t' := s.toks + (ps.zip us).length) k1
    have J1 : PySem.W.InstAt h1 a _ C none := ⟨k1 _ _ ho, rfl, rfl, trivial⟩
    have hf : PySem.W.alongIn K "__init__" ((cd.mro.dropWhile (· != .ref C)).drop 1) = some (some (.builtin "ValueError.__init__")) := by
      have q := U.ini
      unfold PySem.W.ks_superIn at q
      rw [hD4] at q
      exact q
    refine PySem.W.kxs_getMethod PySem.W.kxs_ValueError e1 (PySem.W.looks_opaque I1.kIn U.stat) (l₀ := cd.mro) (fun A Q E s k q => wpAny_bind ((PySem.W.looks_clsIn I1.kIn hD4) A _ E s k (wpAny_pure q))) rfl I1.kIn hf (J1.type.andThen (PySem.W.looks_subIn I1.kIn U.sub)) (PySem.W.ks_ne I1.kIn J1 hD4) (by decide) ?_
    have I2 := I1.kept (t' := s.toks + (ps.zip us).length + 1) (h' := h1.push (PySem.W.kxs_mw "ValueError.__init__" a)) (fun b o q => Heap.get?_push_of_some _ q)
    have I3 := I2.pins_of (pins' := [(h1.objs.size, PySem.W.kxs_mw "ValueError.__init__" a)]) (fun p hp => by
      rw [List.mem_singleton.mp hp]
      exact ⟨Heap.get?_push_size _ rfl, I1.hok.fresh (Nat.le_refl _), Nat.ne_of_gt I1.lt, I1.nofs (Nat.le_refl _), fun v z => by cases z⟩)
    refine mw_call1 (i := "ValueError.__init__") (x := a) (hst _) ?_
    have hst0 := hst (NdefX.ncx CX0 P w K mg base N (supF qn st cda cc) fI A outer s H E).env
    refine thn ((pa_cons hm pa_nil hst0).run p3 _ _ _ H (fun us2 H1 => (∃ v, us2 = [v]) ∧ H1 a = some (exo a C none) ∧ tr { nx := fun _ H' => Q .non H', rt := Q } (NdefX.startF N vs [none]) H1) I3 ?_) fun us3 s3 hh => ?_
    · exact hq
    obtain ⟨vs3, H1, I4, r4, ⟨v3, hv3⟩, ha1, hq1⟩ := hh
    subst hv3
    have hlen : us3.length ≤ sizeLine := by
      rw [← Paired.length r4]
      exact (by decide : 1 ≤ sizeLine)
    have hu : s3.heap.get? h1.objs.size = some (PySem.W.kxs_mw "ValueError.__init__" a) := (I4.pin _ (List.mem_append_right _ (List.mem_singleton.mpr rfl))).1
    refine ⟨hu, ?_⟩
    obtain ⟨t3, ho3⟩ := exo_at I4.hok ha1
    obtain ⟨nm, qq, nn, bs, bm, sn, sub, ab, col, dd, z0, z1, z2, z3, z5, hC, hbm⟩ := U.oex.cls
    obtain ⟨hp3, g3, d3, tk3, os3⟩ := s3
    have fin : ∀ h', (∀ b o, b ≠ a → hp3.get? b = some o → h'.get? b = some o) → h'.get? a = some (PySem.W.excObj C hp3.objs.size none .none) →
        PySem.wpAt (model P w) (A.deeper (NdefX.envF (supF qn st cda cc) fI s.heap.objs.size)) (.func (.Expr (.Call (.Attribute (.Call (.Name "super" p0) [] [] p1) "__init__" p2) [msg] [] p3) p4 :: rest) (NdefX.envF (supF qn st cda cc) fI s.heap.objs.size))
          (execs rest (NdefX.envF (supF qn st cda cc) fI s.heap.objs.size)) (SP (NdefX.ncx CX0 P w K mg base N (supF qn st cda cc) fI A outer s H E) [] { nx := fun _ H' => Q .non H', rt := Q }) (NdefX.ncx CX0 P w K mg base N (supF qn st cda cc) fI A outer s H E).xe ⟨h', g3, d3, tk3, os3⟩ := fun h' k hx => by
      have J := I4.write (t' := tk3) (x := a) (e := a) (o := exo a C none) (by rw [ha1]; exact True.intro) (.inl rfl) k ⟨_, hx⟩ (exo_ok hx)
      have eu : upd H1 a (exo a C none) = H1 := funext fun b => by
        by_cases hb : b = a
        · rw [hb, upd_same, ha1]
        · exact upd_ne hb
      rw [eu] at J
      exact PySem.wpAt_of_wpAny (htr.run [] _ _ H1 _ (J.pins_of (pins' := []) fun p hp => absurd hp (by simp)) hq1)
    refine wpAny_call (codeAny_of_tree (show wpAny _ _ (callAny (.ref h1.objs.size) ⟨us3, []⟩) _ _ _ from ?_))
    simp only [callAny]
    refine wpAny_bind (wpAny_load hu ?_)
    simp only [PySem.W.kxs_mw, show (Value.type "method-wrapper" == Value.type "method" || Value.type "method-wrapper" == Value.type "builtin_function_or_method" || Value.type "method-wrapper" == Value.type "method-wrapper") = true by decide, if_true]
    refine PySem.W.KFB.if_so (by decide) (wpAny_bind (PySem.W.check_bound_init F.excBase_ValueError.toExcCallFacts (I4.kIn _ _ hC) ho3 rfl (wpAny_bind (wpAny_pure (wpAny_pure ?_)))))
    refine ⟨plainId_quiet F.excBase_ValueError.init.plain _, codeAny_builtin F.excBase_ValueError.initEntry (PySem.W.exc_init_tree (cls := .ref C) (t0 := t3) (dv := none) (c2 := .none) (c3 := .none) (b4 := .bool false) ho3 hlen fun h' k hx _ => ?_)⟩
    exact fin h' k hx
  · have fin : ∀ {σ' : L2.St} {H' : Hp} {v : V} {u : Value}, Inv (NdefX.ncx CX0 P w K mg base N (supF qn st cda cc) fI A outer s H E) [] σ' H' s' → L2.RelV v u → Q v H' → CE outer P w H s Q u s' :=
      fun {σ' H' v u} J rv q => ⟨v, H', J.os, J.bare, J.base, J.hok, rv, q⟩
    cases fl with
    | ret u =>
      obtain ⟨v, σ', H', J, rv, q⟩ := hs
      exact fin J rv q
    | next =>
      obtain ⟨σ', H', J, q⟩ := hs
      exact fin (v := V.non) (u := Value.none) J rfl q
    | brk =>
      obtain ⟨_, _, _, q⟩ := hs
      exact False.elim q
    | cont =>
      obtain ⟨_, _, _, q⟩ := hs
      exact False.elim q
end

/-! ### messages -/
/-- what a message may show -/
def Tell (v : V) : Prop := (∃ i : Int, v = .int i ∧ i.natAbs.log2 < 1920) ∨ ∃ y : Str, v = .str y ∧ y.length ≤ 1000000
theorem tell_small {i : Int} (h : -(2 ^ 64) < i ∧ i < 2 ^ 64) : Tell (.int i) := .inl ⟨i, rfl, by
  have h1 : i.natAbs < 2 ^ 64 := by omega
  by_cases h0 : i.natAbs = 0
  · rw [h0]; decide
  · exact Nat.lt_trans ((Nat.log2_lt h0).mpr h1) (by decide)⟩
/-- a part: a text, or what a slot holds -/
inductive Mp where
  | c (x : Str) | v (i : Nat) | t (sp : Sp) (E : XK) (i : Nat)
def Mp.te : Mp → TE
  | .c x => tC (.str x)
  | .v i => tFmt (tVar i)
  | .t sp E i => tFmt (tCall sp [] E (tCons (tVar i) tNil))
def Mp.Ok (σ : L2.St) : Mp → Prop
  | .c x => x.length ≤ 1000
  | .v i => ∃ v, σ[i]? = some (some v) ∧ Tell v
  | .t sp E i => ∃ v, σ[i]? = some (some v) ∧ ∀ (H : Hp) (Q : VK), (∀ y : Str, y.length ≤ 1000000 → Q (.str y) H) → sp [v] H Q E
theorem str_cat (a b : Str) : (a ++ b).length = a.length + b.length := by
  show (a.cps ++ b.cps).size = _
  rw [Array.size_append]
  rfl
theorem js_ok {σ : L2.St} {H : Hp} {Q : Str → Hp → Prop} (q : ∀ y, Q y H) : ∀ (ps : List Mp) (acc : Str), (∀ p ∈ ps, p.Ok σ) → acc.length + ps.length * 1001000 ≤ 10000000 → tJs (ps.map Mp.te) acc σ H Q
  | [], acc, _, _ => q acc
  | .c x :: ps, acc, h, hz => by
    have hx : x.length ≤ 1000 := h _ List.mem_cons_self
    rw [List.length_cons] at hz
    have e := str_cat acc x
    exact ⟨x, rfl, sz100 (by omega), js_ok q ps _ (fun p hp => h p (List.mem_cons_of_mem _ hp)) (by omega)⟩
  | .v i :: ps, acc, h, hz => by
    obtain ⟨v, hv, ht⟩ := h _ List.mem_cons_self
    rw [List.length_cons] at hz
    have hr : ∀ p ∈ ps, p.Ok σ := fun p hp => h p (List.mem_cons_of_mem _ hp)
    rcases ht with ⟨j, rfl, hj⟩ | ⟨y, rfl, hy⟩
    · have e := str_cat acc (Str.ofString (toString j))
      have el : (Str.ofString (toString j)).length ≤ 1921 := by
        rw [PySem.ofString_length]
        exact int_text_length_le (by decide) hj
      exact ⟨.int j, hv, .inr ⟨j, rfl, hj, _, rfl, sz100 (by omega), js_ok q ps _ hr (by omega)⟩⟩
    · have e := str_cat acc y
      exact ⟨.str y, hv, .inl ⟨y, rfl, sz100 (by omega), y, rfl, sz100 (by omega), js_ok q ps _ hr (by omega)⟩⟩
  | .t sp E i :: ps, acc, h, hz => by
    obtain ⟨v, hv, ht⟩ := h _ List.mem_cons_self
    rw [List.length_cons] at hz
    have hr : ∀ p ∈ ps, p.Ok σ := fun p hp => h p (List.mem_cons_of_mem _ hp)
    refine ⟨v, hv, ht _ _ fun y hy => ?_⟩
    have e := str_cat acc y
    exact .inl ⟨y, rfl, sz100 (by omega), y, rfl, sz100 (by omega), js_ok q ps _ hr (by omega)⟩
/-! ### one field, two fields -/
def sp_i1 (C : Addr) (f : Str) : Sp := fun vs H Q _ => ∃ (a : Addr) (v : V), vs = [.ref a, v] ∧ Tell v ∧ H a = some (exo a C none) ∧ ∀ dx, H dx = none → dx ≠ a → Q .non (upd (upd H dx (exd dx [(f, v)])) a (exo a C (some dx)))
def sp_i2 (C : Addr) (f g : Str) : Sp := fun vs H Q _ => ∃ (a : Addr) (v u : V), vs = [.ref a, v, u] ∧ Tell v ∧ Tell u ∧ H a = some (exo a C none) ∧
  ∀ dx, H dx = none → dx ≠ a → Q .non (upd (upd (upd H dx (exd dx [(f, v)])) a (exo a C (some dx))) dx (exd dx [(g, u), (f, v)]))
/-- such an error made -/
def tErr (C : Addr) (fs : List Str) (ta : TA) : L2.St → Hp → XK → Prop := fun σ H Q => ta σ H fun vs H1 => vs.length = fs.length ∧ (∀ v ∈ vs, Tell v) ∧ ∀ d, H1 d = none → Q (.ref C) (some d) (upd H1 d (.xd (fs.zip vs).reverse))
theorem err_heap {H : Hp} {a d : Addr} {fs : List (Str × V)} (ha : H a = none) (hd : d ≠ a) {H2 : Hp} (e1 : ∀ b, b ≠ a → b ≠ d → H2 b = H b) : upd (del H2 a) d (.xd fs) = upd H d (.xd fs) := by
  funext b
  by_cases hb : b = d
  · rw [hb, upd_same, upd_same]
  · rw [upd_ne hb, upd_ne hb]
    by_cases hc : b = a
    · rw [hc, del_same, ha]
    · rw [del_ne hc, e1 b hc hb]
theorem upd_two {H : Hp} {a d b : Addr} {o u : HO} (h1 : b ≠ a) (h2 : b ≠ d) : upd (upd H d u) a o b = H b := by rw [upd_ne h1, upd_ne h2]
section
variable {X : Cx} {C fI : Addr} {x f g : Str} {k : Nat} {fd : FuncData} {e : Expr} {es : List Expr} {ta : TA} {p pos : Pos}
/-- C(e, ..) where nothing is handled -/
theorem pmk_oexN {ps : List Str} {sp : Sp} {R : XK → List V → Hp → Prop} (hR : ∀ Q vs H1, R Q vs H1 → vs.length ≤ 1000 ∧ ∀ a, H1 a = none → sp (.ref a :: vs) (upd H1 a (exo a C none))
      (fun v H2 => v = .non ∧ ∃ (d : Addr) (fs : List (Str × V)), H2 a = some (exo a C (some d)) ∧ H2 d = some (exd d fs) ∧ H1 d = none ∧ Q (.ref C) (some d) (upd (del H2 a) d (.xd fs))) (fun _ _ _ => False)) (T : OexC X.K C) (iC : PySem.W.findIn X.K (.ref C) "__init__" = some (some (.ref fI))) (tI : PySem.W.typeIn X.K (.ref fI) = some (.type "function"))
    (F1 : FnOk X.prog X.w X.K X.mg X.base CX0 k fI fd ps sp) (hr : Room (k + 1) X.A) (hb : Binds X.K fd ps []) (hg : Gl X x) (hm : X.mg x = some (.ref C)) (ha : PA X (e :: es) ta)
    (hdb : (x == ("__debug__" : Str)) = false) (he : starEach (e :: es) X.env = (false, eval e X.env) :: starEach es X.env) (hpl : (backTo pos (starEach es X.env)).any (·.1) = false) :
    L2N.PMk X (.Call (.Name x p) (e :: es) [] pos) (fun σ H Q => ta σ H fun vs H1 => R Q vs H1) := by
  intro pins s σ H Q I h
  obtain ⟨nm, q, N, bs, bm, sn, sub, ab, col, dd, z0, z1, z2, z3, z5, hC, hbm⟩ := T.cls
  refine wpAny_Call_Name_kw (ld_glob I hg hm (PySem.W.callWith_K (h₀ := X.base) I.ok.mod.kin T.kC (thn (ha.run pos pins s σ H _ I h) fun us s1 hh => ?_) he hpl) hdb)
  obtain ⟨vs, H1, I1, r1, hh⟩ := hh
  obtain ⟨hz, q1⟩ := hR _ _ _ hh
  refine ⟨I1.kIn, show wpAny _ _ (call (.ref C) us) _ _ _ from ?_⟩
  obtain ⟨hp, g, dr, tk, os⟩ := s1
  have hsz : hp.objs.size ≤ hp.objs.size + 1 := Nat.le_add_right _ 1
  have hq := q1 (hp.objs.size + 1) (I1.hok.fresh hsz)
  have kk : ∀ b o, hp.get? b = some o → ((hp.push (PySem.W.kdv_tup us)).push (PySem.HandSPX.excO C hp.objs.size)).get? b = some o := fun b o z => Heap.get?_push_of_some _ (Heap.get?_push_of_some _ z)
  have hget : ((hp.push (PySem.W.kdv_tup us)).push (PySem.HandSPX.excO C hp.objs.size)).get? (hp.objs.size + 1) = some (PySem.HandSPX.excO C hp.objs.size) := by heap_get
  have I2 := I1.laid (t' := tk) (a := hp.objs.size + 1) (o := exo (hp.objs.size + 1) C none) (h' := (hp.push (PySem.W.kdv_tup us)).push (PySem.HandSPX.excO C hp.objs.size)) kk hsz (exo_ok hget)
  have r2 : Vals (V.ref (hp.objs.size + 1) :: vs) (Value.ref (hp.objs.size + 1) :: us) := .cons rfl r1
  have hl : (Value.ref (hp.objs.size + 1) :: us).length = ps.length := by
    rw [← r2.length]
    exact F1.len _ _ _ _ hq
  have hus : us.length ≤ sizeLine := by
    have e3 := Paired.length r1
    exact sz100 (by omega)
  have b2 := hb _ (Value.ref (hp.objs.size + 1) :: us) I2.kIn (by rw [List.append_nil]; exact hl)
  rw [List.append_nil] at b2
  refine wpAny_call (PySem.HandSPX.call_own F.excBase_ValueError (fun Y => PySem.HandSPX.refsVE_contains Y bm hbm) (I1.kIn _ _ hC) (PySem.W.looks_findIn I1.kIn iC) (fun self => PySem.W.bind_fn I1.kIn self tI) hus
    (codeAny_mono (F1.run _ X.stack _ _ ⟨Value.ref (hp.objs.size + 1) :: us, []⟩ (Value.ref (hp.objs.size + 1) :: us) _ _ (fun _ _ _ => False) (hr.make C us []) (I2.env0.make C us []) b2 r2 hq) fun r s2 hq2 => ?_))
  cases r with
  | error er => exact absurd hq2 (fun z => z)
  | ok fl =>
    cases fl with
    | ret u =>
      obtain ⟨v, H2, os2, bare2, un2, hok2, rv, ev, d, fs, ea, ed, hd1, q2⟩ := hq2
      subst ev
      obtain ⟨h2, g2, d2, t2, os3⟩ := s2
      obtain ⟨t0, G, J, kG, ge, hoe, na⟩ := mk_end0 (d2 := d2) (t2 := t2) I1 hsz kk un2 hok2 os2 bare2 ea ed hd1
      exact ⟨rv, hp.objs.size + 1, _, _, ⟨G, g2, d2, t2, os3⟩, _, .ref C, some d, rfl, J, kG, ge, hoe, ⟨rfl, rfl, fun vs hv => by cases hv; rfl⟩, rfl, rfl, na, rfl, bare2, raises_own T.exC T.tyC, q2⟩
    | next => exact hq2.elim
    | brk => exact hq2.elim
    | cont => exact hq2.elim
end

/-! ### what the top says of error classes -/
structure ErrCls (K : PySem.W.Frag) (mg : Str → Option Value) (C : Addr) (x : Str) : Prop where
  at_ : mg x = some (.ref C)
  xf : XfC K C
  ex : ExcC K C
  ty : PySem.W.typeIn K (.ref C) = some (.type "type")
structure ErrIni (K : PySem.W.Frag) (C : Addr) (qn : Str) (st : Stmt) (ps fs : List Str) : Prop where
  sup : SupC K C
  ini : ∃ fI fd, SupAt K C qn st fI fd ∧ PySem.W.findIn K (.ref C) "__init__" = some (some (.ref fI)) ∧ PySem.W.typeIn K (.ref fI) = some (.type "function") ∧ Binds K fd ps []
  no : ∀ f ∈ fs, PySem.W.findIn K (.ref C) f = some none
/-- C's __init__ keeps sp -/
structure EDef (P : Program) (w : World) (K : PySem.W.Frag) (mg : Str → Option Value) (base : Heap) (C : Addr) (x : Str) (ps : List Str) (sp : Sp) : Prop where
  at_ : mg x = some (.ref C)
  oex : OexC K C
  ini : ∃ fI fd, FnOk P w K mg base CX0 2 fI fd ps sp ∧ PySem.W.findIn K (.ref C) "__init__" = some (some (.ref fI)) ∧ PySem.W.typeIn K (.ref fI) = some (.type "function") ∧ Binds K fd ps []
theorem _root_.L2H.RoomH.units {k : Nat} {A : Around} (r : L2H.RoomH k A) : A.units + 64 < cLine := by
  have := r.un
  omega
theorem ErrCls.exm {K : PySem.W.Frag} {mg : Str → Option Value} {C : Addr} {x : Str} {cls : Value} {b : Bool} (E : ErrCls K mg C x) (h : PySem.W.subIn K cls (.ref C) = some b) : PySem.W.exmOne K cls (.ref C) = some b := PySem.W.exm_ref E.ex.hs E.ex.hd E.ty h
theorem ErrCls.kit {K : PySem.W.Frag} {mg : Str → Option Value} {C D : Addr} {x : Str} {b : Bool} (E : ErrCls K mg C x) (h : PySem.W.subIn K (.ref D) (.ref C) = some b) (hb : D = C → b = true) : PySem.W.kitOne K (.ref D) (.ref C) = some b := by
  unfold PySem.W.kitOne
  by_cases e : D = C
  · rw [if_pos (by rw [e]; exact beq_self_eq_true _), hb e]
  · rw [if_neg (by simpa using e)]
    show (if ((PySem.W.clsIn K C).isSome && PySem.W.typeIn K (.ref C) == some (.type "type")) = true then PySem.W.subIn K (.ref D) (.ref C) else none) = some b
    obtain ⟨cd, hc, _⟩ := PySem.W.any_some E.ex.hd
    rw [hc, E.ty, h]
    rfl
theorem ErrCls.kitF {K : PySem.W.Frag} {mg : Str → Option Value} {C D : Addr} {x : Str} (E : ErrCls K mg C x) (h : PySem.W.subIn K (.ref D) (.ref C) = some false) (hs : PySem.W.subIn K (.ref D) (.ref D) = some true) : PySem.W.kitOne K (.ref D) (.ref C) = some false := E.kit h fun e => by
  rw [e] at h hs
  rw [hs] at h
  cases h
theorem ErrCls.kitT {K : PySem.W.Frag} {mg : Str → Option Value} {C D : Addr} {x : Str} (E : ErrCls K mg C x) (h : PySem.W.subIn K (.ref D) (.ref C) = some true) : PySem.W.kitOne K (.ref D) (.ref C) = some true := E.kit h fun _ => rfl
theorem sz2 (vs : List V) (h : vs.length ≤ 2) : vs.length ≤ 1000 := by omega
section
variable {X : Cx} {C : Addr} {x f g : Str} {e : Expr} {es : List Expr} {ta : TA} {p pos : Pos}
theorem pmk_e1 {n : Str} (G : EDef X.prog X.w X.K X.mg X.base C x ["self", n] (sp_i1 C f)) (hr : Room 3 X.A) (ha : PA X (e :: es) ta) (hg : Gl X x := by rfl) (hdb : (x == ("__debug__" : Str)) = false := by decide)
    (he : starEach (e :: es) X.env = (false, eval e X.env) :: starEach es X.env := by rfl) (hpl : (backTo pos (starEach es X.env)).any (·.1) = false := by rfl) : L2N.PMk X (.Call (.Name x p) (e :: es) [] pos) (tErr C [f] ta) := by
  obtain ⟨fI, fd, F1, iC, tI, hb⟩ := G.ini
  refine pmk_oexN (R := fun Q vs H1 => vs.length = 1 ∧ (∀ v ∈ vs, Tell v) ∧ ∀ d, H1 d = none → Q (.ref C) (some d) (upd H1 d (.xd (([f] : List Str).zip vs).reverse))) (fun Q vs H1 hh => ?_) G.oex iC tI F1 hr hb hg G.at_ ha hdb he hpl
  obtain ⟨hl, ht, q⟩ := hh
  match vs, hl with
  | [v], _ =>
    refine ⟨sz2 _ (Nat.le_of_ble_eq_true rfl), fun a na => ⟨a, v, rfl, ht v List.mem_cons_self, upd_same, fun dx h1 h2 => ⟨rfl, dx, [(f, v)], upd_same, by rw [upd_ne h2, upd_same], ?_, ?_⟩⟩⟩
    · rw [upd_ne h2] at h1
      exact h1
    · rw [upd_ne h2] at h1
      rw [err_heap na h2 (H := H1) (fun b b1 b2 => by rw [upd_ne b1, upd_ne b2, upd_ne b1])]
      exact q dx h1
theorem pmk_e2 {n m : Str} (G : EDef X.prog X.w X.K X.mg X.base C x ["self", n, m] (sp_i2 C f g)) (hr : Room 3 X.A) (ha : PA X (e :: es) ta) (hg : Gl X x := by rfl) (hdb : (x == ("__debug__" : Str)) = false := by decide)
    (he : starEach (e :: es) X.env = (false, eval e X.env) :: starEach es X.env := by rfl) (hpl : (backTo pos (starEach es X.env)).any (·.1) = false := by rfl) : L2N.PMk X (.Call (.Name x p) (e :: es) [] pos) (tErr C [f, g] ta) := by
  obtain ⟨fI, fd, F1, iC, tI, hb⟩ := G.ini
  refine pmk_oexN (R := fun Q vs H1 => vs.length = 2 ∧ (∀ v ∈ vs, Tell v) ∧ ∀ d, H1 d = none → Q (.ref C) (some d) (upd H1 d (.xd (([f, g] : List Str).zip vs).reverse))) (fun Q vs H1 hh => ?_) G.oex iC tI F1 hr hb hg G.at_ ha hdb he hpl
  obtain ⟨hl, ht, q⟩ := hh
  match vs, hl with
  | [v, u], _ =>
    refine ⟨sz2 _ (Nat.le_of_ble_eq_true rfl), fun a na => ⟨a, v, u, rfl, ht v List.mem_cons_self, ht u (List.mem_cons_of_mem _ List.mem_cons_self), upd_same, fun dx h1 h2 => ⟨rfl, dx, [(g, u), (f, v)], ?_, upd_same, ?_, ?_⟩⟩⟩
    · rw [upd_ne (Ne.symm h2), upd_same]
    · rw [upd_ne h2] at h1
      exact h1
    · rw [upd_ne h2] at h1
      rw [err_heap na h2 (H := H1) (fun b b1 b2 => by rw [upd_ne b2, upd_ne b1, upd_ne b2, upd_ne b1])]
      exact q dx h1
end
/-! ### defs that raise -/
section
variable {P : Program} {w : World} {K : PySem.W.Frag} {mg : Str → Option Value} {base : Heap}
theorem _root_.RD.FunAt.okN {x : Str} {st : Stmt} {N ps : List Str} {k : Nat} {sp : Sp} (F : FunAt K mg x st ps) (S : FnScope N ps (defScope st)) (len : ∀ vs H Q E, sp vs H Q E → vs.length = ps.length)
    (hbody : ∀ (f : Addr) (cdv : Value) (A : Around) (outer : List Env) (s : Shared) (H : Hp) (vs : List V) (Q : VK) (E : XK), Room k (A.deeper (envOfC x (defScope st) s.heap.objs.size f cdv)) → sp vs H Q E →
      ∃ t, PSs (cxOf (L2N.CX P w) P w K mg base N x (defScope st) f cdv A outer s H E) (defBody st) t ∧ t { nx := fun _ H' => Q .non H', rt := Q } (start N vs) H) : Def P w K mg base (L2N.CX P w) (k + 1) x ps sp := by
  obtain ⟨f, fd, F, hm, hb⟩ := F.ex
  have kp := F.kp
  obtain ⟨oc, od, kV, doc, pm, an, cdv, ct, osl, rfl, lk, hcd⟩ := F.ex
  exact ⟨f, _, fn_of lk hcd S len fun A outer s H vs Q E hr hsp => hbody f cdv A outer s H vs Q E hr hsp, hm, kp, hb⟩
theorem cx_of_cxn {outer : List Env} {H : Hp} {s : Shared} {E : XK} {u : Value} {s2 : Shared} (h : L2N.CX P w outer H s E u s2) : L2.CX P w outer H s E u s2 := by
  obtain ⟨a, B, H2, cls, d, e1, fl, r⟩ := h
  exact ⟨a, B, H2, cls, d, e1, L2H.flyingZ_imp (fun _ z => z.zc) fl, r⟩
theorem _root_.RD.Def.toX {x : Str} {ps : List Str} {k : Nat} {sp : Sp} (G : Def P w K mg base (L2N.CX P w) k x ps sp) : Def P w K mg base (L2.CX P w) k x ps sp := by
  obtain ⟨f, fd, F, r⟩ := G.ex
  refine ⟨f, fd, ⟨F.len, fun A outer s H args us vs Q E hr e0 hb hv hs => codeAny_mono (F.run A outer s H args us vs Q E hr e0 hb hv hs) fun r s2 hq => ?_⟩, r⟩
  cases r with
  | error e => exact cx_of_cxn hq
  | ok fl => cases fl <;> exact hq
end
section
variable {X : Cx} {k : Nat} {ps : List Str} {sp : Sp} {x : Str} {p pos : Pos} {e : Expr} {es : List Expr} {t : TA} {W : WX}
/-- a call that may raise -/
theorem pe_callX (G : Def X.prog X.w X.K X.mg X.base (L2.CX X.prog X.w) k x ps sp) (tk : L2.Takes X W) (hr : Room k X.A) (ha : PA X (e :: es) t) (hg : Gl X x := by rfl)
    (hdb : (x == ("__debug__" : Str)) = false := by decide) (he : starEach (e :: es) X.env = (false, eval e X.env) :: starEach es X.env := by rfl) (hpl : (backTo pos (starEach es X.env)).any (·.1) = false := by rfl) : PE X (.Call (.Name x p) (e :: es) [] pos) (tCallS sp (WE W) t) := by
  obtain ⟨f, fd, F, hm, hk, hb⟩ := G.ex
  exact pe_callS F hr hg hm hk hb (fun σ => L2.passAt tk σ) ha hdb he hpl
theorem pe_callN (G : Def X.prog X.w X.K X.mg X.base (L2N.CX X.prog X.w) k x ps sp) (tk : L2N.Takes X W) (hr : Room k X.A) (ha : PA X (e :: es) t) (hg : Gl X x := by rfl)
    (hdb : (x == ("__debug__" : Str)) = false := by decide) (he : starEach (e :: es) X.env = (false, eval e X.env) :: starEach es X.env := by rfl) (hpl : (backTo pos (starEach es X.env)).any (·.1) = false := by rfl) : PE X (.Call (.Name x p) (e :: es) [] pos) (tCallS sp (WE W) t) := by
  obtain ⟨f, fd, F, hm, hk, hb⟩ := G.ex
  exact pe_callS F hr hg hm hk hb (fun σ => L2N.passAt tk σ) ha hdb he hpl
end
/-! ### in an except suite -/
/-- what a def promises wherever it is called: nothing in it asks what is handled -/
structure FnW (P : Program) (w : World) (K : PySem.W.Frag) (mg : Str → Option Value) (base : Heap) (k : Nat) (f : Addr) (fd : FuncData) (ps : List Str) (sp : Sp) : Prop where
  len : ∀ vs H Q E, sp vs H Q E → vs.length = ps.length
  run : ∀ (A : Around) (outer : List Env) (s : Shared) (H : Hp) (args : Args) (us : List Value) (vs : List V) (Q : VK) (E : XK), L2H.RoomH k A → Env0 P w K mg base A outer s H → BindsTo s fd args (ps.zip us) → Vals vs us → sp vs H Q E →
    codeAny (model P w) A (.call (.ref f) args) (CR CX0 outer P w H s Q E) s
structure DefW (P : Program) (w : World) (K : PySem.W.Frag) (mg : Str → Option Value) (base : Heap) (k : Nat) (x : Str) (ps : List Str) (sp : Sp) : Prop where
  ex : ∃ f fd, FnW P w K mg base k f fd ps sp ∧ mg x = some (.ref f) ∧ PySem.W.keepIn K (.ref f) = true ∧ Binds K fd ps []
def cxW (P : Program) (w : World) (K : PySem.W.Frag) (mg : Str → Option Value) (base : Heap) (N : List Str) (qual : Str) (scope : Scope) (f : Addr) (cd : Value) (A : Around) (outer : List Env) (s : Shared) (H : Hp) (E : XK) : Cx :=
  { cxOf CX0 P w K mg base N qual scope f cd A outer s H E with calm := false, xe := fun _ _ => False }
theorem env0_mark {P : Program} {w : World} {K : PySem.W.Frag} {mg : Str → Option Value} {base : Heap} {A : Around} {outer : List Env} {s : Shared} {H : Hp} (e : Env0 P w K mg base A outer s H) : Env0 P w K mg base { A with handled := none } outer s H :=
  ⟨e.frames, e.mod, e.bs, e.bsz, e.funs, e.frf, e.hok, e.bare⟩
theorem _root_.RD.FunAt.okW {P : Program} {w : World} {K : PySem.W.Frag} {mg : Str → Option Value} {base : Heap} {x : Str} {st : Stmt} {N ps : List Str} {k : Nat} {sp : Sp} (F : FunAt K mg x st ps) (S : FnScope N ps (defScope st)) (len : ∀ vs H Q E, sp vs H Q E → vs.length = ps.length)
    (hbody : ∀ (f : Addr) (cdv : Value) (A : Around) (outer : List Env) (s : Shared) (H : Hp) (vs : List V) (Q : VK) (E : XK), L2H.RoomH k (A.deeper (envOfC x (defScope st) s.heap.objs.size f cdv)) → sp vs H Q E →
      ∃ t, PSs (cxW P w K mg base N x (defScope st) f cdv A outer s H E) (defBody st) t ∧ t { nx := fun _ H' => Q .non H', rt := Q } (start N vs) H) : DefW P w K mg base (k + 1) x ps sp := by
  obtain ⟨f, fd, F, hm, hbd⟩ := F.ex
  have kp := F.kp
  obtain ⟨oc, od, kV, doc, pm, an, cdv, ct, osl, rfl, lk, hcd⟩ := F.ex
  refine ⟨f, _, ⟨len, fun A outer s H args us vs Q E hr e0 hb r hsp => ?_⟩, hm, kp, hbd⟩
  have hl := len _ _ _ _ hsp
  have inS := e0.mod.kin.keeps fun b o e => (e0.bs b o e).1
  have lim := e0.mod.nolimit.keeps fun b o e => (e0.bs b o e).1
  have hkind : ∀ y ∈ ps.zip us, (defScope st).names.lookup y.1 = some .local ∨ ((defScope st).names.lookup y.1 = some .cell ∧ ((cellsFrom (s.heap.objs.size + 1) (defScope st).names []).lookup y.1).isSome = true) := fun ⟨n, v⟩ hy => (S.par n (List.of_mem_zip hy).1).imp id fun q => ⟨q, PySem.W.cellsFrom_some _ _ _ (.inl q)⟩
  refine codeAny_call_function hr.depth (inS _ _ lk) rfl S.co S.gen rfl (PySem.W.codeRec_of inS hcd) (hb _ _ _ _ (wpAny_newFunctionEnv_cells S.kind hkind fun env he s1 ic => ?_))
  subst he
  refine ⟨lim.keeps ic.toInCall.keep, codeAny_func ?_⟩
  obtain ⟨t, ht, hq⟩ := hbody f cdv A outer s H vs Q E (hr.deeper _) hsp
  have J : Inv (cxOf CX0 P w K mg base N x (defScope st) f cdv { A with handled := none } outer s H E) [] (start N vs) H s1 := inv_start S rfl (env0_mark e0) hl r ic
  have I : Inv (cxW P w K mg base N x (defScope st) f cdv A outer s H E) [] (start N vs) H s1 :=
    ⟨⟨J.ok.mod, J.ok.kind, J.ok.glob, J.ok.blt, J.ok.above, J.ok.inj, J.ok.has, J.ok.cab, fun z => (by cases z), Around.frames_deeper e0.frames, J.ok.stk, J.ok.exf, J.ok.bs, J.ok.bsz, J.ok.noex, J.ok.exfs, J.ok.funs, J.ok.frf⟩, J.os, J.bare, J.base, J.loc, J.cell, J.free, J.freeC, J.pin, J.hok, J.len⟩
  refine wpAny_mono (ht.run [] s1 (start N vs) H _ I hq) (fun fl s2 hs => ?_) fun e s2 hs => False.elim hs
  have fin : ∀ {σ2 : L2.St} {H2 : Hp} {v : V} {u : Value}, Inv (cxW P w K mg base N x (defScope st) f cdv A outer s H E) [] σ2 H2 s2 → RelV v u → Q v H2 → CE outer P w H s Q u s2 := fun {σ2 H2 v u} J2 rv q => ⟨v, H2, J2.os, J2.bare, J2.base, J2.hok, rv, q⟩
  cases fl with
  | ret u =>
    obtain ⟨v, σ2, H2, J2, rv, q⟩ := hs
    exact fin J2 rv q
  | next =>
    obtain ⟨σ2, H2, J2, q⟩ := hs
    exact fin (v := V.non) (u := Value.none) J2 rfl q
  | brk => exact hs.elim fun _ h => h.elim fun _ h => h.2.elim
  | cont => exact hs.elim fun _ h => h.elim fun _ h => h.2.elim
section
variable {X : Cx} {k : Nat} {ps : List Str} {sp : Sp} {x : Str} {p pos : Pos} {e : Expr} {es : List Expr} {t : TA}
theorem pe_callW (G : DefW X.prog X.w X.K X.mg X.base k x ps sp) (hr : L2H.RoomH k X.A) (ha : PA X (e :: es) t) (hg : Gl X x := by rfl)
    (hdb : (x == ("__debug__" : Str)) = false := by decide) (he : starEach (e :: es) X.env = (false, eval e X.env) :: starEach es X.env := by rfl) (hpl : (backTo pos (starEach es X.env)).any (·.1) = false := by rfl) : PE X (.Call (.Name x p) (e :: es) [] pos) (tCall sp [] E0 t) := by
  obtain ⟨f, fd, F, hm, hk, hb⟩ := G.ex
  refine ⟨fun pins s σ H Q I h => ?_⟩
  refine wpAny_Call_Name_kw (ld_glob I hg hm (PySem.W.callWith_K (h₀ := X.base) I.ok.mod.kin hk (thn (ha.run pos pins s σ H _ I h) fun us s1 hh => ?_) he hpl) hdb)
  obtain ⟨vs, H1, I1, r, q⟩ := hh
  rw [List.append_nil] at q
  have b := hb s1 us I1.kIn (by rw [List.append_nil, ← r.length]; exact F.len _ _ _ _ q)
  rw [List.append_nil] at b
  refine ⟨I1.kIn, wpAny_call (codeAny_mono (F.run X.A X.stack s1 H1 ⟨us, []⟩ us vs Q E0 hr I1.env0 b r q) fun r s2 hq => ?_)⟩
  cases r with
  | error e => exact hq.elim
  | ok fl =>
    cases fl with
    | ret u => exact I1.after hq
    | next => exact hq.elim
    | brk => exact hq.elim
    | cont => exact hq.elim
end
/-- isinstance(e, c), e the caught error (at a; its class cls, its dict d) -/
def rIsED (K : PySem.W.Frag) (a : Addr) (cls : Value) (d : Option Addr) : List V → Hp → VK → Prop := fun xs H Q => ∃ (D : Addr) (c : V) (cv : Value) (b : Bool) (dd : Addr) (fs : List (Str × V)), xs = [.ref a, c] ∧ cls = .ref D ∧ ExcC K D ∧ d = some dd ∧ H dd = some (.xd fs) ∧
  (∀ u, RelV c u → u = cv) ∧ PySem.W.kitOne K (.ref D) cv = some b ∧ Q (.bl b) H
theorem call_isED {X : Cx} {a : Addr} {cls : Value} {d : Option Addr} {oe : Obj} {pn : List (Addr × Obj)} (hz : Zc cls d oe) (hf : ∃ vs, oe.data = .fields vs) : CallR (X.suite a ((a, oe) :: pn)) (.builtin "isinstance") (rIsED X.K a cls d) := by
  intro pins s σ H xs us Q I r h
  obtain ⟨D, c, cv, b, dd, fs, rfl, hcl, T, hdd, hxd, hcv, e, q⟩ := h
  cases r with
  | cons rx rr =>
    cases rr with
    | cons rt rr =>
      cases rr
      cases rx
      have ec := hcv _ rt
      subst ec
      subst hcl
      subst hdd
      obtain ⟨hget, _⟩ := I.pin (a, oe) (List.mem_append.mpr (.inl List.mem_cons_self))
      obtain ⟨vs, hv⟩ := hf
      have hx : ObjOk X.prog X.w H s.heap dd (.xd fs) := I.hok dd _ hxd
      obtain ⟨mA, hns, _⟩ := hx
      obtain ⟨od, ho, _⟩ := lookIn_ns hns
      have J : PySem.W.InstAt s.heap a oe D (some od) := ⟨hget, hz.1, by unfold PySem.W.notCls; rw [hv], by rw [hz.2]; exact ho⟩
      obtain ⟨cd, hcc, _⟩ := PySem.W.any_some T.hd
      exact PySem.W.kia_one (PySem.W.kitx_exc (by rw [hcc]; rfl) T.hg T.hk T.hs T.ha T.hn T.ht T.hm) I.kIn J e (fun z => nomatch z) fun tk => ⟨.bl b, H, I.kept (t' := tk) fun _ _ z => z, rfl, q⟩
/-- e.f of the caught error -/
def tXfD (K : PySem.W.Frag) (a : Addr) (cls : Value) (d : Option Addr) (f : Str) (te : TE) : TE := fun σ H Q => te σ H fun x H1 => x = .ref a ∧ ∃ (D dd : Addr) (fs : List (Str × V)) (v : V), cls = .ref D ∧ XfC K D ∧ PySem.W.findIn K (.ref D) f = some none ∧ d = some dd ∧ H1 dd = some (.xd fs) ∧ fs.lookup f = some v ∧ Q v H1
theorem pe_xfD {X : Cx} {a : Addr} {oe : Obj} {cls : Value} {d : Option Addr} {pn : List (Addr × Obj)} {e : Expr} {te : TE} {pos : Pos} {n : Str}
    (hz : Zc cls d oe) (hf : ∃ vs, oe.data = .fields vs) (he : PE (X.suite a ((a, oe) :: pn)) e te) (hb : attributeBase e n X.env (eval e X.env) = eval e X.env := by rfl) :
    PE (X.suite a ((a, oe) :: pn)) (.Attribute e n pos) (tXfD X.K a cls d n te) := by
  refine ⟨fun pins s σ H Q I h => attr_of hb (thn (he.run pins s σ H _ I h) fun u s1 hh => ?_)⟩
  obtain ⟨x, H1, I1, rx, ex, D, dd, fs, v, ec, T, hno, ed, ea, l, q⟩ := hh
  subst ex
  obtain rfl : u = Value.ref a := rx
  subst ec
  subst ed
  obtain ⟨ha, _⟩ := I1.pin (a, oe) (List.mem_append_left _ List.mem_cons_self)
  obtain ⟨vs, hd⟩ := hf
  have hx : ObjOk X.prog X.w H1 s1.heap dd (.xd fs) := I1.hok dd _ ea
  obtain ⟨mA, hns, hr⟩ := hx
  obtain ⟨od, ho, hl⟩ := lookIn_ns hns
  obtain ⟨u, hu, ru⟩ := RelO.some_of (v := v) (o := mA n) (by rw [← l]; exact hr n)
  have J : PySem.W.InstAt s1.heap a oe D (some od) := ⟨ha, hz.1, by unfold PySem.W.notCls; rw [hd], by rw [hz.2]; exact ho⟩
  exact HandSPX.exc_get I1.kIn J T.ga T.gg T.exC (PySem.W.findObj_own T.hdC hno rfl (by rw [hl, hu])) (handed_of ru) ⟨v, H1, I1.tok _, ru, q⟩

/-! ### named readings -/
def tRaise (t : L2.St → Hp → XK → Prop) (W : WX) : TS := fun _ σ H => t σ H fun cls d H' => W cls d σ H'
theorem ps_raiseE {X : Cx} {W : WX} {e : Expr} {t : L2.St → Hp → XK → Prop} {pos : Pos} (hc : X.calm = true) (tk : L2N.Takes X W) (he : L2N.PMk X e t) : PS X (.Raise (some e) none pos) (tRaise t W) := L2N.ps_raise hc tk he
def tTryA (K : PySem.W.Frag) (c : Value) (i : Nat) (ts : Addr → Value → Option Addr → TS) (tb : WX → TS) : TS := fun D σ H => tb (wAs K c i ts (fun _ _ _ _ => False) D) D σ H
theorem ps_tryA {X : Cx} {x n : Str} {c : Value} {i : Nat} {body suite : List Stmt} {b₀ : Stmt} {np pos pos' : Pos} {tb : WX → TS} {ts : Addr → Value → Option Addr → TS} (hs : X.stack = X.env :: X.outer) (hf : X.env.frame = some X.env.locals) (hN : X.N.Nodup) (hi : X.N[i]? = some n) (hln : X.env.kindOf n = some .local) (hc : Names X x c)
    (hb : ∀ (W : WX) (pn : List (Addr × Obj)) (xe : Value → Shared → Prop), L2.Takes (X.tr pn xe) W → PassesOwn (model X.prog X.w) X.A X.env xe → PSs (X.tr pn xe) body (tb W))
    (hsu : ∀ (a : Addr) (oe : Obj) (cls : Value) (d : Option Addr) (pn : List (Addr × Obj)), Zc cls d oe → (∃ vs, oe.data = .fields vs) → PSs (X.suite a ((a, oe) :: pn)) (b₀ :: suite) (ts a cls d)) :
    PS X (.Try body [.ExceptHandler (some (.Name x np)) (some n) (b₀ :: suite) pos'] [] [] pos) (tTryA X.K c i ts tb) := L2.ps_try_as hs hf hN hi hln hc L2.takes0 hb hsu
theorem r_tryA {K : PySem.W.Frag} {c : Value} {i : Nat} {ts : Addr → Value → Option Addr → TS} {tb : WX → TS} {D : Ends} {σ : L2.St} {H : Hp} (q : tb (wAs K c i ts (fun _ _ _ _ => False) D) D σ H) : tTryA K c i ts tb D σ H := q
theorem r_callS {sp : Sp} {E : L2.St → XK} {t : TA} {σ : L2.St} {H : Hp} {Q : VK} (q : t σ H fun vs H1 => sp vs H1 Q (E σ)) : tCallS sp E t σ H Q := q
theorem r_raise {C : Addr} {fs : List Str} {ta : TA} {W : WX} {D : Ends} {σ : L2.St} {H : Hp} (q : ta σ H fun vs H1 => vs.length = fs.length ∧ (∀ v ∈ vs, Tell v) ∧ ∀ d, H1 d = none → W (.ref C) (some d) σ (upd H1 d (.xd (fs.zip vs).reverse))) : tRaise (tErr C fs ta) W D σ H := q
/-- the clause takes it -/
theorem w_yes {K : PySem.W.Frag} {cls c : Value} {d : Option Addr} {i : Nat} {ts : Addr → Value → Option Addr → TS} {Wout : WX} {D : Ends} {σ : L2.St} {H : Hp} (hb : PySem.W.exmOne K cls c = some true)
    (q : ∀ a, H a = none → ts a cls d { nx := fun σ' H' => D.nx (σ'.set i none) H', rt := D.rt, bk := fun σ' H' => D.bk (σ'.set i none) H', ct := fun σ' H' => D.ct (σ'.set i none) H' } (σ.set i (some (.ref a))) H) : wAs K c i ts Wout D cls d σ H := ⟨true, hb, fun _ => q, fun z => by cases z⟩
theorem r_isED {K : PySem.W.Frag} {a D C dd : Addr} {b : Bool} {fs : List (Str × V)} {H : Hp} {Q : VK} (T : ExcC K D) (hx : H dd = some (.xd fs)) (hk : PySem.W.kitOne K (.ref D) (.ref C) = some b) (q : Q (.bl b) H) : rIsED K a (.ref D) (some dd) [.ref a, .ref C] H Q :=
  ⟨D, .ref C, .ref C, b, dd, fs, rfl, rfl, T, rfl, hx, fun u h => h, hk, q⟩
theorem r_xfD {K : PySem.W.Frag} {a : Addr} {cls : Value} {d : Option Addr} {f : Str} {te : TE} {σ : L2.St} {H : Hp} {Q : VK} (q : te σ H fun x H1 => x = .ref a ∧ ∃ (D dd : Addr) (fs : List (Str × V)) (v : V), cls = .ref D ∧ XfC K D ∧ PySem.W.findIn K (.ref D) f = some none ∧ d = some dd ∧ H1 dd = some (.xd fs) ∧ fs.lookup f = some v ∧ Q v H1) : tXfD K a cls d f te σ H Q := q
/-- an error's dict beside the tracked heap -/
theorem _root_.RD.Own.xd {H0 H : Hp} {L : List (Addr × HO)} {d : Addr} {fs : List (Str × V)} (o : Own H0 H L) (hd : H d = none) : Own H0 (upd H d (.xd fs)) ((d, .xd fs) :: L) := o.new hd

/-! ### a def that may raise, called where it does not -/
def spZ (sp : Sp) : Sp := fun vs H Q _ => sp vs H Q (fun _ _ _ => False)
section
variable {P : Program} {w : World} {K : PySem.W.Frag} {mg : Str → Option Value} {base : Heap}
theorem _root_.RD.Def.toZ {x : Str} {ps : List Str} {k : Nat} {sp : Sp} (G : Def P w K mg base (L2.CX P w) k x ps sp) : Def P w K mg base CX0 k x ps (spZ sp) := by
  obtain ⟨f, fd, F, r⟩ := G.ex
  refine ⟨f, fd, ⟨fun vs H Q E h => F.len vs H Q _ h, fun A outer s H args us vs Q E hr e0 hb hv hs => codeAny_mono (F.run A outer s H args us vs Q (fun _ _ _ => False) hr e0 hb hv hs) fun r s2 hq => ?_⟩, r⟩
  cases r with
  | error e =>
    obtain ⟨a, B, H2, cls, d, e1, fl, h1, h2, h3, h4, h5, h6⟩ := hq
    exact h6
  | ok fl => cases fl <;> exact hq
end

/-! ### own errors raised in an except suite -/
section
variable {P : Program} {w : World} {K : PySem.W.Frag} {mg : Str → Option Value} {base : Heap}
theorem SupAt.okH {C fI : Addr} {qn : Str} {st : Stmt} {N ps : List Str} {k : Nat} {sp : Sp} {fd : FuncData} {p0 p1 p2 p3 p4 : Pos} {msg : Expr} {pl : Env → Sem Bool} {rest : List Stmt} {ar : Arg} (S : SupAt K C qn st fI fd) (hP : PrOk P) (U : SupC K C) (Z : NdefX.NScope N ps ["__class__"] (defScope st))
    (hsup : mg "super" = none) (har : ((defArgs st).posonlyargs ++ (defArgs st).args).head? = some ar) (han : ps.head? = some ar.arg)
    (hks : (defScope st).names.lookup ("super" : Str) = some .globalImplicit)
    (hB : defBody st = .Expr (.Call (.Attribute (.Call (.Name "super" p0) [] [] p1) "__init__" p2) [msg] [] p3) p4 :: rest)
    (hst : ∀ env : Env, starEach [msg] env = [(false, eval msg env)]) (hsw : ∀ env : Env, swapsWith (.Call (.Attribute (.Call (.Name "super" p0) [] [] p1) "__init__" p2) [msg] [] p3) none p4.line env = pure false)
    (hev : ∀ env : Env, eval (.Call (.Attribute (.Call (.Name "super" p0) [] [] p1) "__init__" p2) [msg] [] p3) env = (do
      let ov ← attributeBase (.Call (.Name "super" p0) [] [] p1) "__init__" env (eval (.Call (.Name "super" p0) [] [] p1) env)
      standAt p2.atName
      let (f, first) ← holding [ov] (getMethod ov "__init__" (pl env))
      callWith p3 f first (backTo p3 (starEach [msg] env)) []))
    (len : ∀ vs H Q E, sp vs H Q E → vs.length = ps.length)
    (hbody : ∀ (cda cc : Addr) (A : Around) (outer : List Env) (s : Shared) (H : Hp) (vs : List V) (Q : VK) (E : XK) (pp : Addr × Obj), L2H.RoomH k (A.deeper (NdefX.envF (supF qn st cda cc) fI s.heap.objs.size)) → sp vs H Q E →
      ∃ (a : Addr) (vs2 : List V) (tm : TE) (tr : TS), vs = .ref a :: vs2 ∧ H a = some (exo a C none) ∧ PE (NdefX.ncxH CX0 P w K mg base N (supF qn st cda cc) fI A outer s H E pp) msg tm ∧ PSs (NdefX.ncxH CX0 P w K mg base N (supF qn st cda cc) fI A outer s H E pp) rest tr ∧
        tm (NdefX.startF N vs [none]) H fun x H1 => (∃ v, [x] = [v]) ∧ H1 a = some (exo a C none) ∧ tr { nx := fun _ H' => Q .non H', rt := Q } (NdefX.startF N vs [none]) H1) :
    L2H.FnH P w K mg base CX0 (k + 1) fI fd ps sp := by
  obtain ⟨oc, od, kV, doc, pm, an, cda, cc, ct, osl, rfl, lk, hcd, ⟨cl1, cld1, csl1, hcc⟩, cl2, cld2, csl2, fs, tf, hcda, hfs⟩ := S.ex
  refine ⟨len, fun A outer s H args us vs Q E pp hr hhot hpin e0 hb r hsp => ?_⟩
  have KX : K.In s.heap := e0.mod.kin.keeps fun b o e => (e0.bs b o e).1
  have lim : s.heap.NoLimit := e0.mod.nolimit.keeps fun b o e => (e0.bs b o e).1
  have hl := len _ _ _ _ hsp
  have ccH : H cc = none := (e0.bs cc _ (e0.mod.kin _ _ hcc)).2
  have CA : NdefX.CellsAt [("__class__", cc)] ["__class__"] [none] s.heap H := by
    have look : ∀ y c, List.lookup y [(("__class__" : Str), cc)] = some c → y = "__class__" ∧ c = cc := fun y c h => by
      by_cases e : y = "__class__"
      · subst e
        simp [List.lookup] at h
        exact ⟨rfl, h.symm⟩
      · have e2 : (y == ("__class__" : Str)) = false := by simpa using e
        simp [List.lookup, e2] at h
    refine ⟨rfl, fun y c h => ?_, fun x y c h1 h2 => ?_, fun i y h => ?_⟩
    · obtain ⟨rfl, rfl⟩ := look y c h
      exact ⟨ccH, _, _, KX _ _ hcc, rfl⟩
    · rw [(look x c h1).1, (look y c h2).1]
    · match i, h with
      | 0, h =>
        have e : y = "__class__" := (Option.some.inj h).symm
        subst e
        exact ⟨cc, by simp [List.lookup], fun v z => by cases z⟩
  obtain ⟨a, vs2, tm, tr, hvs, ha, hm, htr, hq⟩ := hbody cda cc A outer s H vs Q E pp (hr.deeper _) hsp
  refine PySem.ks_codeAny_call_defAt (binds := ps.zip us) hr.depth (KX _ _ lk) rfl lim (PySem.W.codeRec_of KX hcd) rfl hb Z.nocell (fun ⟨n, _⟩ hy => Z.par n (List.of_mem_zip hy).1) (fun h₀ hns kp => ?_) Z.co Z.gen Z.kind
  have I := NdefX.inv_startNH (f := fI) (F := supF qn st cda cc) (CX := CX0) (E := E) (tk := s.toks + (ps.zip us).length) Z hpin e0 hl r CA hns kp
  have q0 : ∃ us2, us = .ref a :: us2 := by
    subst hvs
    cases r with
    | @cons _ u0 _ ur r0 r1 =>
      obtain rfl : u0 = Value.ref a := r0
      exact ⟨ur, rfl⟩
  obtain ⟨us2, hus⟩ := q0
  obtain ⟨p', ps2, hps⟩ : ∃ p' ps2, ps = p' :: ps2 := by
    cases ps with
    | nil => cases han
    | cons p' ps2 => exact ⟨p', ps2, rfl⟩
  have hp' : p' = ar.arg := by
    rw [hps] at han
    exact Option.some.inj han
  have ndP : ps.Nodup := by
    have q := Z.nd.sublist (List.take_sublist (ps.length + 1) N)
    rw [show N.take (ps.length + 1) = ps ++ [("__class__" : Str)] from Z.pre] at q
    exact (List.nodup_append.mp q).1
  have hself : (ps.zip us).reverse.lookup ar.arg = some (.ref a) := by
    refine NdefX.zip_look (i := 0) ndP ?_ ?_
    · rw [hps, hp']; rfl
    · rw [hus]; rfl
  have hself2 : (defScope st).names.lookup ar.arg = some .local := by
    rw [← hp']
    exact Z.par p' (by rw [hps]; exact List.mem_cons_self ..)
  refine PySem.ks_wpAt_mono (Q := SP (NdefX.ncxH CX0 P w K mg base N (supF qn st cda cc) fI A outer s H E pp) [] { nx := fun _ H' => Q .non H', rt := Q }) (E := (NdefX.ncxH CX0 P w K mg base N (supF qn st cda cc) fI A outer s H E pp).xe) ?_ (fun fl s' hs => ?_) fun _ _ z => z
  · show PySem.wpAt _ _ _ (execs (defBody st) _) _ _ _
    obtain ⟨oD, hD0, hD2⟩ : ∃ o, K.lookup C = some o ∧ ∃ cd, o.data = .cls cd ∧ PySem.W.clsIn K C = some cd := by
      have q := U.self
      unfold PySem.W.mroIn at q
      cases z : PySem.W.clsIn K C with
      | none => rw [z] at q; cases q
      | some cd =>
        obtain ⟨o, h1, h2⟩ := cls_obj z
        exact ⟨o, h1, cd, h2, rfl⟩
    obtain ⟨cd, hD3, hD4⟩ := hD2
    have K1 := I.kIn
    obtain ⟨t1, ho⟩ := exo_at I.hok ha
    have gN := I.mod.glob.keeps I.bk
    obtain ⟨mb, hmb1, hmb2⟩ := I.mod.blt
    have bN := hmb1.keeps I.bk
    rw [hB]
    refine PySem.ks_wpAt_execs_cons ?_
    refine PySem.ks_wpAt_Expr_any ?_ (by show ((defScope st).kind == .module && _) = false; rw [Z.kind]; rfl) (hsw _)
    refine PySem.ks_wpAt_MethodCall ?_ (hev _)
    refine PySem.ks_wpAt_super_base hks (Z.frk _ (List.mem_singleton.mpr rfl)) (by decide) rfl (K1 _ _ lk) rfl har rfl (K1 _ _ hcda) rfl hfs (by rw [hP.file]; exact beq_self_eq_true _) hP.top ?_
    refine PySem.W.ks_loadName_global Z.kind hks (Calls.loadGlobal_builtin gN hsup bN ((hmb2 _ (by decide)).trans (by kernel_rfl)) ⟨rfl, ?_⟩)
    refine wpAny_loadName_free Z.kind (Z.frk _ (List.mem_singleton.mpr rfl)) (show List.lookup ("__class__" : Str) [(("__class__" : Str), cc)] = some cc by simp [List.lookup]) ⟨_, K1 _ _ hcc, rfl⟩ ?_
    refine wpAny_loadName_local Z.kind hself2 hns hself ?_
    refine PySem.ks_wpAny_isType_cls (K1 _ _ hD0) hD3 ⟨rfl, ?_⟩
    refine PySem.ks_wpAny_call_super (K1 _ _ hD0) hD3 ho rfl (fun c z => by cases z) (PySem.W.looks_mroIn K1 U.self) (fun h1 e1 k1 => ?_)
    have I1 := I.kept (t' := s.toks + (ps.zip us).length) k1
    have J1 : PySem.W.InstAt h1 a _ C none := ⟨k1 _ _ ho, rfl, rfl, trivial⟩
    have hf : PySem.W.alongIn K "__init__" ((cd.mro.dropWhile (· != .ref C)).drop 1) = some (some (.builtin "ValueError.__init__")) := by
      have q := U.ini
      unfold PySem.W.ks_superIn at q
      rw [hD4] at q
      exact q
    refine PySem.W.kxs_getMethod PySem.W.kxs_ValueError e1 (PySem.W.looks_opaque I1.kIn U.stat) (l₀ := cd.mro) (fun A Q E s k q => wpAny_bind ((PySem.W.looks_clsIn I1.kIn hD4) A _ E s k (wpAny_pure q))) rfl I1.kIn hf (J1.type.andThen (PySem.W.looks_subIn I1.kIn U.sub)) (PySem.W.ks_ne I1.kIn J1 hD4) (by decide) ?_
    have I2 := I1.kept (t' := s.toks + (ps.zip us).length + 1) (h' := h1.push (PySem.W.kxs_mw "ValueError.__init__" a)) (fun b o q => Heap.get?_push_of_some _ q)
    have I3 := I2.pins_of (pins' := [(h1.objs.size, PySem.W.kxs_mw "ValueError.__init__" a)]) (fun p hp => by
      rw [List.mem_singleton.mp hp]
      exact ⟨Heap.get?_push_size _ rfl, I1.hok.fresh (Nat.le_refl _), Nat.ne_of_gt I1.lt, I1.nofs (Nat.le_refl _), fun v z => by cases z⟩)
    refine mw_call1 (i := "ValueError.__init__") (x := a) (hst _) ?_
    have hst0 := hst (NdefX.ncxH CX0 P w K mg base N (supF qn st cda cc) fI A outer s H E pp).env
    refine thn ((pa_cons hm pa_nil hst0).run p3 _ _ _ H (fun us2 H1 => (∃ v, us2 = [v]) ∧ H1 a = some (exo a C none) ∧ tr { nx := fun _ H' => Q .non H', rt := Q } (NdefX.startF N vs [none]) H1) I3 ?_) fun us3 s3 hh => ?_
    · exact hq
    obtain ⟨vs3, H1, I4, r4, ⟨v3, hv3⟩, ha1, hq1⟩ := hh
    subst hv3
    have hlen : us3.length ≤ sizeLine := by
      rw [← Paired.length r4]
      exact (by decide : 1 ≤ sizeLine)
    have hu : s3.heap.get? h1.objs.size = some (PySem.W.kxs_mw "ValueError.__init__" a) := (I4.pin _ (List.mem_append_right _ (List.mem_singleton.mpr rfl))).1
    refine ⟨hu, ?_⟩
    obtain ⟨t3, ho3⟩ := exo_at I4.hok ha1
    obtain ⟨nm, qq, nn, bs, bm, sn, sub, ab, col, dd, z0, z1, z2, z3, z5, hC, hbm⟩ := U.oex.cls
    obtain ⟨hp3, g3, d3, tk3, os3⟩ := s3
    have fin : ∀ h', (∀ b o, b ≠ a → hp3.get? b = some o → h'.get? b = some o) → h'.get? a = some (PySem.W.excObj C hp3.objs.size none .none) →
        PySem.wpAt (model P w) (A.deeper (NdefX.envF (supF qn st cda cc) fI s.heap.objs.size)) (.func (.Expr (.Call (.Attribute (.Call (.Name "super" p0) [] [] p1) "__init__" p2) [msg] [] p3) p4 :: rest) (NdefX.envF (supF qn st cda cc) fI s.heap.objs.size))
          (execs rest (NdefX.envF (supF qn st cda cc) fI s.heap.objs.size)) (SP (NdefX.ncxH CX0 P w K mg base N (supF qn st cda cc) fI A outer s H E pp) [] { nx := fun _ H' => Q .non H', rt := Q }) (NdefX.ncxH CX0 P w K mg base N (supF qn st cda cc) fI A outer s H E pp).xe ⟨h', g3, d3, tk3, os3⟩ := fun h' k hx => by
      have J := I4.write (t' := tk3) (x := a) (e := a) (o := exo a C none) (by rw [ha1]; exact True.intro) (.inl rfl) k ⟨_, hx⟩ (exo_ok hx)
      have eu : upd H1 a (exo a C none) = H1 := funext fun b => by
        by_cases hb : b = a
        · rw [hb, upd_same, ha1]
        · exact upd_ne hb
      rw [eu] at J
      exact PySem.wpAt_of_wpAny (htr.run [] _ _ H1 _ (J.pins_of (pins' := []) fun p hp => absurd hp (by simp)) hq1)
    refine wpAny_call (codeAny_of_tree (show wpAny _ _ (callAny (.ref h1.objs.size) ⟨us3, []⟩) _ _ _ from ?_))
    simp only [callAny]
    refine wpAny_bind (wpAny_load hu ?_)
    simp only [PySem.W.kxs_mw, show (Value.type "method-wrapper" == Value.type "method" || Value.type "method-wrapper" == Value.type "builtin_function_or_method" || Value.type "method-wrapper" == Value.type "method-wrapper") = true by decide, if_true]
    refine PySem.W.KFB.if_so (by decide) (wpAny_bind (PySem.W.check_bound_init F.excBase_ValueError.toExcCallFacts (I4.kIn _ _ hC) ho3 rfl (wpAny_bind (wpAny_pure (wpAny_pure ?_)))))
    refine ⟨plainId_quiet F.excBase_ValueError.init.plain _, codeAny_builtin F.excBase_ValueError.initEntry (PySem.W.exc_init_tree (cls := .ref C) (t0 := t3) (dv := none) (c2 := .none) (c3 := .none) (b4 := .bool false) ho3 hlen fun h' k hx _ => ?_)⟩
    exact fin h' k hx
  · have fin : ∀ {σ' : L2.St} {H' : Hp} {v : V} {u : Value}, Inv (NdefX.ncxH CX0 P w K mg base N (supF qn st cda cc) fI A outer s H E pp) [] σ' H' s' → L2.RelV v u → Q v H' → CE outer P w H s Q u s' :=
      fun {σ' H' v u} J rv q => ⟨v, H', J.os, J.bare, J.base, J.hok, rv, q⟩
    cases fl with
    | ret u =>
      obtain ⟨v, σ', H', J, rv, q⟩ := hs
      exact fin J rv q
    | next =>
      obtain ⟨σ', H', J, q⟩ := hs
      exact fin (v := V.non) (u := Value.none) J rfl q
    | brk =>
      obtain ⟨_, _, _, q⟩ := hs
      exact False.elim q
    | cont =>
      obtain ⟨_, _, _, q⟩ := hs
      exact False.elim q
end
/-- C's __init__ keeps sp where something is handled, too -/
structure EDefH (P : Program) (w : World) (K : PySem.W.Frag) (mg : Str → Option Value) (base : Heap) (C : Addr) (x : Str) (ps : List Str) (sp : Sp) : Prop where
  at_ : mg x = some (.ref C)
  oex : OexC K C
  ini : ∃ fI fd, L2H.FnH P w K mg base CX0 2 fI fd ps sp ∧ PySem.W.findIn K (.ref C) "__init__" = some (some (.ref fI)) ∧ PySem.W.typeIn K (.ref fI) = some (.type "function") ∧ Binds K fd ps []
theorem pmk_zc {X : Cx} {e : Expr} {t : L2.St → Hp → XK → Prop} (h : L2N.PMk X e t) : L2.PMk X e t := fun pins s σ H Q I q => thn (h pins s σ H Q I q) fun _ _ ⟨a, oe, vs, sI, H', cls, d, e1, J, k, hne, ha, hz, r⟩ => ⟨a, oe, vs, sI, H', cls, d, e1, J, k, hne, ha, hz.zc, r⟩
theorem ps_raiseX {X : Cx} {W : WX} {e : Expr} {t : L2.St → Hp → XK → Prop} {pos : Pos} (hc : X.calm = true) (tk : L2.Takes X W) (he : L2N.PMk X e t) : PS X (.Raise (some e) none pos) (tRaise t W) := L2.ps_raise hc tk (pmk_zc he)
theorem ps_raiseF {X : Cx} {W : WX} {e : Expr} {t : L2.St → Hp → XK → Prop} {j : Nat} {cpos pos : Pos} (hc : L2H.HotC X) (tk : L2.Takes X W) (he : L2H.PMk5 X e t) : PS X (.Raise (some e) (some (.Constant .none j cpos)) pos) (tRaise t W) := L2H.ps_raiseHN hc tk he
/-- arguments known by a word only -/
def tCutA (t : TA) : TA := fun σ H R => ∃ S : List V → Hp → Prop, t σ H S ∧ ∀ vs H1, S vs H1 → R vs H1
theorem pa_cut {X : Cx} {es : List Expr} {t : TA} (h : PA X es t) : PA X es (tCutA t) := ⟨fun pos pins s σ H R I ⟨S, h1, k⟩ => thn (h.run pos pins s σ H S I h1) fun us s1 ⟨vs, H1, I1, r, q⟩ => ⟨vs, H1, I1, r, k vs H1 q⟩⟩
section
variable {X : Cx} {C : Addr} {x f g : Str} {e : Expr} {es : List Expr} {ta : TA} {p pos : Pos}
theorem pmk5_e1 {n : Str} (G : EDefH X.prog X.w X.K X.mg X.base C x ["self", n] (sp_i1 C f)) (hr : L2H.RoomH 3 X.A) (hc : L2H.HotC X) (ha : PA X (e :: es) ta) (hg : Gl X x := by rfl) (hdb : (x == ("__debug__" : Str)) = false := by decide)
    (he : starEach (e :: es) X.env = (false, eval e X.env) :: starEach es X.env := by rfl) (hpl : (backTo pos (starEach es X.env)).any (·.1) = false := by rfl) : L2H.PMk5 X (.Call (.Name x p) (e :: es) [] pos) (tErr C [f] ta) := by
  obtain ⟨fI, fd, F1, iC, tI, hb⟩ := G.ini
  intro pins s σ H Q I h
  refine L2H.pmk5_oexH G.oex iC tI F1 hr hc hb pass0 hg G.at_ (pa_cut ha) hdb he hpl pins s σ H Q I ⟨_, h, fun vs H1 hh => ?_⟩
  obtain ⟨hl, ht, q⟩ := hh
  match vs, hl with
  | [v], _ =>
    refine ⟨sz2 _ (Nat.le_of_ble_eq_true rfl), fun a na => ⟨a, v, rfl, ht v List.mem_cons_self, upd_same, fun dx h1 h2 => ⟨rfl, dx, [(f, v)], upd_same, by rw [upd_ne h2, upd_same], ?_, ?_⟩⟩⟩
    · rw [upd_ne h2] at h1
      exact h1
    · rw [upd_ne h2] at h1
      rw [err_heap na h2 (H := H1) (fun b b1 b2 => by rw [upd_ne b1, upd_ne b2, upd_ne b1])]
      exact q dx h1
end
section
variable {P : Program} {w : World} {K : PySem.W.Frag} {mg : Str → Option Value} {base : Heap}
theorem _root_.RD.FunAt.okX {x : Str} {st : Stmt} {N ps : List Str} {k : Nat} {sp : Sp} (F : FunAt K mg x st ps) (S : FnScope N ps (defScope st)) (len : ∀ vs H Q E, sp vs H Q E → vs.length = ps.length)
    (hbody : ∀ (f : Addr) (cdv : Value) (A : Around) (outer : List Env) (s : Shared) (H : Hp) (vs : List V) (Q : VK) (E : XK), Room k (A.deeper (envOfC x (defScope st) s.heap.objs.size f cdv)) → sp vs H Q E →
      ∃ t, PSs (cxOf (L2.CX P w) P w K mg base N x (defScope st) f cdv A outer s H E) (defBody st) t ∧ t { nx := fun _ H' => Q .non H', rt := Q } (start N vs) H) : Def P w K mg base (L2.CX P w) (k + 1) x ps sp := by
  obtain ⟨f, fd, F, hm, hb⟩ := F.ex
  have kp := F.kp
  obtain ⟨oc, od, kV, doc, pm, an, cdv, ct, osl, rfl, lk, hcd⟩ := F.ex
  exact ⟨f, _, fn_of lk hcd S len fun A outer s H vs Q E hr hsp => hbody f cdv A outer s H vs Q E hr hsp, hm, kp, hb⟩
end
/-! a try whose suite raises -/
def tTryO (K : PySem.W.Frag) (c : Value) (ts : Addr → Value → Option Addr → TS) (Wout : WX) (tb : WX → TS) : TS := fun D σ H => tb (wOnly K c ts Wout D) D σ H
theorem ps_tryO {X : Cx} {x : Str} {c : Value} {body suite : List Stmt} {b₀ : Stmt} {np pos pos' : Pos} {tb : WX → TS} {ts : Addr → Value → Option Addr → TS} {Wout : WX} (hs : X.stack = X.env :: X.outer) (hf : X.env.frame = some X.env.locals) (hc : Names X x c) (hpa : ∀ hd : Option Value, PassesOwnAt (model X.prog X.w) (X.A.mark hd) X.A X.env X.xe) (tk : L2.Takes X Wout)
    (hb : ∀ (W : WX) (pn : List (Addr × Obj)) (xe : Value → Shared → Prop), L2N.Takes (X.tr pn xe) W → PassesOwn (model X.prog X.w) X.A X.env xe → PSs (X.tr pn xe) body (tb W))
    (hsu : ∀ (a : Addr) (oe : Obj) (cls : Value) (d : Option Addr) (pn : List (Addr × Obj)), L2N.Zn cls d oe → (∃ vs, oe.data = .fields vs) → L2.Takes (L2H.suiteX X a ((a, oe) :: pn)) Wout → L2H.HotC (L2H.suiteX X a ((a, oe) :: pn)) →
      PSs (L2H.suiteX X a ((a, oe) :: pn)) (b₀ :: suite) (ts a cls d)) :
    PS X (.Try body [.ExceptHandler (some (.Name x np)) none (b₀ :: suite) pos'] [] [] pos) (tTryO X.K c ts Wout tb) := L2H.ps_try_onlyX hs hf hc hpa tk (fun W pn xe t1 _ po => hb W pn xe t1 po) hsu
theorem r_tryO {K : PySem.W.Frag} {c : Value} {ts : Addr → Value → Option Addr → TS} {Wout : WX} {tb : WX → TS} {D : Ends} {σ : L2.St} {H : Hp} (q : tb (wOnly K c ts Wout D) D σ H) : tTryO K c ts Wout tb D σ H := q
theorem wo_yes {K : PySem.W.Frag} {cls c : Value} {d : Option Addr} {ts : Addr → Value → Option Addr → TS} {Wout : WX} {D : Ends} {σ : L2.St} {H : Hp} (hb : PySem.W.exmOne K cls c = some true) (q : ∀ a, H a = none → ts a cls d D σ H) : wOnly K c ts Wout D cls d σ H := ⟨true, hb, fun _ => q, fun z => by cases z⟩
/-! a call of a def that a local name holds, which may raise -/
structure HeldX (P : Program) (w : World) (K : PySem.W.Frag) (mg : Str → Option Value) (base : Heap) (CX : CXT) (k : Nat) (f : Addr) (sp : Sp) : Prop where
  ex : ∃ (fd : FuncData) (ps : List Str), FnOk P w K mg base CX k f fd ps sp ∧ PySem.W.keepIn K (.ref f) = true ∧ Binds K fd ps []
def tCallLS (i : Nat) (f : Addr) (sp : Sp) (E : L2.St → XK) (t : TA) : TE := fun σ H Q => σ[i]? = some (some (.ref f)) ∧ t σ H fun vs H1 => sp vs H1 Q (E σ)
theorem r_callLS {i : Nat} {f : Addr} {sp : Sp} {E : L2.St → XK} {t : TA} {σ : L2.St} {H : Hp} {Q : VK} (h : σ[i]? = some (some (.ref f))) (q : t σ H fun vs H1 => sp vs H1 Q (E σ)) : tCallLS i f sp E t σ H Q := ⟨h, q⟩
section
variable {X : Cx} {k i : Nat} {f : Addr} {sp : Sp} {x : Str} {p pos : Pos} {e : Expr} {es : List Expr} {t : TA} {W : WX}
theorem pe_callLN (G : HeldX X.prog X.w X.K X.mg X.base (L2N.CX X.prog X.w) k f sp) (tk : L2N.Takes X W) (hr : Room k X.A) (hN : X.N[i]? = some x) (hv : Vis X.env.scope x) (ha : PA X (e :: es) t)
    (hdb : (x == ("__debug__" : Str)) = false := by decide) (hcd : (x == ("__classdict__" : Str)) = false := by decide)
    (he : starEach (e :: es) X.env = (false, eval e X.env) :: starEach es X.env := by rfl) (hpl : (backTo pos (starEach es X.env)).any (·.1) = false := by rfl) : PE X (.Call (.Name x p) (e :: es) [] pos) (tCallLS i f sp (WE W) t) := by
  obtain ⟨fd, ps, F, hk, hb⟩ := G.ex
  refine ⟨fun pins s σ H Q I h => ?_⟩
  obtain ⟨hs, ht⟩ := h
  refine wpAny_Call_Name_kw (thn ((pe_var (pos := p) hN hv hdb hcd).run pins s σ H (fun v H1 => v = .ref f ∧ H1 = H) I ⟨.ref f, hs, rfl, rfl⟩) fun u s1 ⟨v, H1, I1, r1, q1⟩ => ?_)
  obtain ⟨rfl, rfl⟩ := q1
  cases r1
  refine PySem.W.callWith_K (h₀ := X.base) I.ok.mod.kin hk (thn (ha.run pos pins s1 σ _ _ I1 ht) fun us s2 ⟨vs, H2, I2, r, q⟩ => ⟨I2.kIn, ?_⟩) he hpl
  exact run_fnS F hr hb (L2N.passAt tk σ) I2 r q
end
/-! ### what a raised error is told by -/
/-- an error of the class at C with these fields, where the heap was H -/
def RetE (H : Hp) (E : XK) (C : Addr) (fs : List (Str × V)) : Prop := ∀ H' d, Same H H' → H d = none → H' d = some (.xd fs) → E (.ref C) (some d) H'
section
variable {H H0 H' : Hp} {E : XK} {C d : Addr} {fs : List (Str × V)} {L : List (Addr × HO)}
theorem RetE.mk (q : RetE H0 E C fs) (o : Own H0 H L) (hd : H d = none) : E (.ref C) (some d) (upd H d (.xd fs)) := q _ d (o.new (u := .xd fs) hd).ex (o.ex.free hd) upd_same
theorem r_retE (o : Own H0 H L) (k : ∀ d H', H d = none → Own H0 H' ((d, .xd fs) :: L) → E (.ref C) (some d) H') : RetE H E C fs := fun H' d s hd hx => k d H' hd (o.add s hd hx)
end
theorem ps_whileT {X : Cx} {pn : List (Addr × Obj)} {xe : Value → Shared → Prop} {c : Expr} {body : List Stmt} {tc : TT} {tb : TS} {pos : Pos} (hp : PassesOwn (model X.prog X.w) X.A X.env xe) (hc : PT (X.tr pn xe) c tc) (hb : PSs (X.tr pn xe) body tb) : PS (X.tr pn xe) (.While c body [] pos) (tWhile tc tb) := ps_while hp hc hb

/-! ### own error classes without __init__ -/
section
structure ErrPl (K : PySem.W.Frag) (C : Addr) : Prop where
  x : PySem.W.excIn K C [.type "ValueError", .type "Exception", .type "BaseException", .type "object"] "ValueError.__new__" = true
  k : PySem.W.keepIn K (.ref C) = true
def tErr0 (C : Addr) : L2.St → Hp → XK → Prop := fun _ H Q => Q (.ref C) none H
theorem pmk_e0 {X : Cx} {C : Addr} {x m : Str} {j : Nat} {p p2 pos : Pos} (E : ErrCls X.K X.mg C x) (I : ErrPl X.K C) (hg : Gl X x := by rfl) (hdb : (x == ("__debug__" : Str)) = false := by decide) :
    L2N.PMk X (.Call (.Name x p) [.Constant (.str m) j p2] [] pos) (tErr0 C) := L2N.pmk_own PySem.F.excBase_ValueError I.x E.at_ I.k (raises_own E.ex.hs E.ty) hg hdb
theorem r_raise0 {C : Addr} {W : WX} {D : Ends} {σ : L2.St} {H : Hp} (q : W (.ref C) none σ H) : tRaise (tErr0 C) W D σ H := q
def rIsEB (K : PySem.W.Frag) (a : Addr) (cls : Value) (d : Option Addr) : List V → Hp → VK → Prop := fun xs H Q => ∃ (D : Addr), cls = .ref D ∧ d = none ∧ ExcC K D ∧ rIsE K D a xs H Q
theorem call_isEB {X : Cx} {a : Addr} {cls : Value} {d : Option Addr} {oe : Obj} {pn : List (Addr × Obj)} (hz : Zc cls d oe) (hf : ∃ vs, oe.data = .fields vs) : CallR (X.suite a ((a, oe) :: pn)) (.builtin "isinstance") (rIsEB X.K a cls d) := by
  intro pins s σ H xs us Q I r h
  obtain ⟨D, rfl, rfl, T, h⟩ := h
  exact call_isE T hz hf pins s σ H xs us Q I r h
theorem r_isE0 {K : PySem.W.Frag} {a D C : Addr} {b : Bool} {H : Hp} {Q : VK} (T : ExcC K D) (hk : PySem.W.kitOne K (.ref D) (.ref C) = some b) (q : Q (.bl b) H) : rIsEB K a (.ref D) none [.ref a, .ref C] H Q :=
  ⟨D, rfl, rfl, T, .ref C, .ref C, b, rfl, (fun u h => by cases h; rfl), hk, q⟩
def RetE0 (H : Hp) (E : XK) (C : Addr) : Prop := ∀ H', Same H H' → E (.ref C) none H'
theorem RetE0.mk {H0 H : Hp} {E : XK} {C : Addr} {L : List (Addr × HO)} (q : RetE0 H0 E C) (o : Own H0 H L) : E (.ref C) none H := q _ o.ex
theorem r_retE0 {H0 H : Hp} {E : XK} {C : Addr} {L : List (Addr × HO)} (o : Own H0 H L) (k : ∀ H', Own H0 H' L → E (.ref C) none H') : RetE0 H E C := fun H' s => k H' (o.mono s)
end
theorem r_retE0s {H0 H : Hp} {E : XK} {C : Addr} {L : List (Addr × HO)} (o : Own H0 H L) (k : ∀ H', Same H H' → Own H0 H' L → E (.ref C) none H') : RetE0 H E C := fun H' s => k H' s (o.mono s)

/-! ### comprehensions whose values are known by a word only -/
section
variable {σ : L2.St} {H H0 : Hp} {Q : VK} {K : PySem.W.Frag} {L : List (Addr × HO)} {te : TE} {j : Int}
theorem lcR1P {n s : Nat} {vs : List Nat} (Pz : Int → Prop) (o : Own H0 H L) (hn : j = (n : Int)) (hz : n ≤ 1000000) (hw : ∀ x, wipe ((wipe σ vs).set s (some x)) vs = wipe σ vs)
    (he : ∀ (i : Nat) (p : Addr) (zs : List V) (H' : Hp) (Q : VK), i < n → Own H0 H' ((p, .lst zs) :: L) → (∀ z, Pz z → RetV H' Q (.int z)) → te ((wipe σ vs).set s (some (.int (i : Int)))) H' Q)
    (k : ∀ p H' (zs : List Int), zs.length = n → (∀ z ∈ zs, Pz z) → Own H0 H' ((p, .lst (zs.map V.int)) :: L) → Q (.ref p) H') :
    ∃ k : Int, [V.int j] = [.int k] ∧ -(2 ^ 62) ≤ k ∧ k < 2 ^ 62 ∧ RLc (Itr 0 k.toNat) (gName s) tYes te vs σ H Q := by
  refine ⟨j, rfl, by omega, by omega, fun P hP => ?_⟩
  have e : j.toNat = n := by omega
  rw [e]
  refine lc_range (lo := 0) (n := n) (fun i H' => ∃ zs : List Int, zs.length = i ∧ (∀ z ∈ zs, Pz z) ∧ Own H0 H' ((P, .lst (zs.map V.int)) :: L)) ⟨[], rfl, (by intro z hz; cases hz), o.new hP⟩ (fun i H' hi p => ?_) (fun H' ⟨zs, h1, h2, o'⟩ => k P H' zs h1 h2 o')
  obtain ⟨zs, hl, hp, o'⟩ := p
  have e0 : (0 : Int) + (i : Int) = (i : Int) := Int.zero_add _
  rw [e0]
  refine ⟨hw _, ?_⟩
  refine iteT (B := ∃ zs : List Int, zs.length = i + 1 ∧ (∀ z ∈ zs, Pz z) ∧ Own H0 H' ((P, .lst (zs.map V.int)) :: L)) (he i P _ H' _ hi o' fun z hz H4 s4 => ?_)
  have o4 := o'.mono s4
  refine ⟨zs.map V.int, o4.at 0 rfl, sz_lt (by rw [List.length_map]; omega), zs ++ [z], by rw [List.length_append, hl]; rfl, ?_, ?_⟩
  · intro x hx
    rcases List.mem_append.mp hx with hx | hx
    · exact hp x hx
    · rw [List.mem_singleton.mp hx]; exact hz
  · have o5 := o4.set (v := .lst (zs.map V.int ++ [V.int z])) 0 rfl
    rw [List.map_append]
    exact o5
end

/-! ### del xs[lo:], len of an own class -/
theorem keep_take {a : Nat} {F : Value × Nat → Option Value} : ∀ (xs : List Value) (j : Nat), (∀ x k, j ≤ k → k < j + xs.length → F (x, k) = if a ≤ k then none else some x) → (xs.zipIdx j).filterMap F = xs.take (a - j)
  | [], j, _ => by simp
  | x :: xs, j, hF => by
    rw [List.zipIdx_cons, List.filterMap_cons, hF x j (Nat.le_refl _) (by rw [List.length_cons]; omega)]
    have ih := keep_take xs (j + 1) fun y k h1 h2 => hF y k (by omega) (by rw [List.length_cons]; omega)
    by_cases h : a ≤ j
    · rw [if_pos h, show a - j = 0 by omega, List.take_zero]
      show (xs.zipIdx (j + 1)).filterMap F = []
      rw [ih, show a - (j + 1) = 0 by omega, List.take_zero]
    · rw [if_neg h, show a - j = (a - (j + 1)) + 1 by omega, List.take_succ_cons]
      show x :: (xs.zipIdx (j + 1)).filterMap F = _
      rw [ih]
theorem del_slice {prog : Program} {w : World} {A : Around} {E : Value → Shared → Prop} {s : Shared} {l sl : Addr} {items : Array Value} {n : Nat} {vl : Value} {lo : Int} {Q : Unit → Shared → Prop}
    (hl : s.heap.get? l = some ⟨.type "list", none, .seq items n, #[]⟩) (hs : s.heap.IsSliceOf sl vl .none .none) (pl : IsPart vl (some lo)) (h0 : 0 ≤ lo) (hsz : items.size ≤ sizeLine)
    (h : ∀ f : Array Value → Array Value, f items = (items.toList.take lo.toNat).toArray → Q () { s with heap := s.heap.update l (Obj.mapSeq f) }) : wpAny (model prog w) A (delItem (.ref l) (.ref sl)) Q E s := by
  obtain ⟨os, hos, hcs, hds⟩ := id hs
  have hTs : s.TypeIs (.ref sl) "slice" := ⟨os, hos, hcs⟩
  refine wpAny_delItem_slot ⟨_, hl, rfl⟩ (by decide) F.slot_list_delitem ?_
  refine wpAny_call_entry F.slot_list_delitem ⟨_, hl, rfl⟩ F.entry_list_delitem ?_ (F.args_list_delitem_2 _ _)
  show wpAny _ _ (Builtin.List.listSubscript? (.ref sl) >>= _) _ _ s
  refine wpAny_bind ?_
  unfold Builtin.List.listSubscript?
  refine wpAny_bind (wpAny_specialOf hTs slice_no_index ?_)
  simp only [Option.isNone_none, if_true]
  refine wpAny_pure ?_
  show wpAny _ _ (typeOf (.ref sl) >>= _) _ _ s
  refine wpAny_bind (wpAny_typeOf hTs ?_)
  rw [if_neg (by decide)]
  rw [listSliceParts_eq]
  refine wpAny_bind (wpAny_bind (wpAny_field hos hds (x := .none) rfl (wpAny_bind (wpAny_listPart (IsPart.none) ?_))))
  rw [if_neg (by decide)]
  refine wpAny_bind (wpAny_field hos hds (x := vl) rfl (wpAny_bind (wpAny_listPart pl ?_)))
  refine wpAny_bind (wpAny_field hos hds (x := .none) rfl (wpAny_bind (wpAny_listPart (IsPart.none) (wpAny_pure ?_))))
  refine wpAny_bind (m := Builtin.List.listItems (.ref l)) ?_
  unfold Builtin.List.listItems
  refine wpAny_bind (wpAny_seqItems hl rfl (wpAny_pure ?_))
  refine wpAny_bind (wpAny_of_eq (sliceIndices_raw (some lo) none none items.size (by simp)) ?_)
  refine wpAny_bind (wpAny_rule ?_)
  refine wpAny_bind (wpAny_updateSeq hl rfl ?_ hsz ?_)
  · refine wpAny_bind (wpAny_letGo (wpAny_pure ⟨_, rfl, h _ ?_⟩))
    congr 1
    refine keep_take (a := lo.toNat) _ 0 fun x k _ hk => ?_
    have hlt : k < items.size := by simpa using hk
    show (if (if (1 : Int) > 0 then decide (max (0 : Int) (min (if lo < 0 then lo + (items.size : Int) else lo) (items.size : Int)) ≤ (k : Int)) && decide ((k : Int) < (items.size : Int)) && (((k : Int) - max (0 : Int) (min (if lo < 0 then lo + (items.size : Int) else lo) (items.size : Int))) % 1 == 0) else _) = true then none else some x) = _
    rw [if_pos (show (1 : Int) > 0 by decide), if_neg (show ¬ lo < 0 by omega), decide_eq_true (show (k : Int) < (items.size : Int) by omega), Bool.and_true, show ((k : Int) - max (0 : Int) (min lo (items.size : Int))) % 1 = 0 by omega, beq_self_eq_true, Bool.and_true]
    by_cases h1 : lo.toNat ≤ k
    · rw [if_pos h1, if_pos (decide_eq_true (by omega))]
    · rw [if_neg h1, if_neg (by rw [decide_eq_true_eq]; omega)]
  · rw [List.size_toArray]
    refine Nat.le_trans (List.length_filterMap_le _ _) ?_
    rw [List.length_zipIdx, Array.length_toList]
    omega
/-- del xs[lo:] of a list -/
def tDelS (to : TE) (tl : TO) : TS := fun D σ H => to σ H fun x H1 => tl σ H1 fun l H2 => ∃ (a : Addr) (xs : List V) (i : Int), x = .ref a ∧ l = some i ∧ H2 a = some (.lst xs) ∧ 0 ≤ i ∧ D.nx σ (upd H2 a (.lst (xs.take i.toNat)))
theorem ps_delS {X : Cx} {o lo : Expr} {to : TE} {tl : TO} {tpos p2 pos : Pos} (ho : PE X o to) (hlo : PO X (some lo) tl) : PS X (.Delete [.Subscript o (.Slice (some lo) none none p2) tpos] pos) (tDelS to tl) := by
  refine ⟨fun pins s σ H D I h => ?_⟩
  refine wpAny_Delete (wpAny_deleteEach_cons (wpAny_delete_Subscript (thn (ho.run pins s σ H _ I h) fun u s1 ⟨x, H1, I1, rx, q1⟩ => ?_)))
  refine wpAny_Slice (thn (hlo.run pins s1 σ H1 _ I1 q1) fun vl s2 ⟨l, H2, I2, pl, q2⟩ => ?_)
  refine thn (po_none.run pins s2 σ H2 (fun u H3 => u = none ∧ H3 = H2) I2 ⟨rfl, rfl⟩) fun vu s3 ⟨u3, H3, I3, pu, e3, e4⟩ => ?_
  refine thn (po_none.run pins s3 σ H3 (fun u H4 => u = none ∧ H4 = H3) I3 ⟨rfl, rfl⟩) fun vs s4 ⟨u4, H4, I4, ps, e5, e6⟩ => ?_
  subst e3 e4 e5 e6
  obtain ⟨a, xs, i, ex, ei, hH, h0, q⟩ := q2
  subst ex ei
  cases rx
  cases pu
  cases ps
  have I5 : Inv X pins σ H4 { s4 with heap := s4.heap.push { cls := .type "slice", data := .fields #[vl, .none, .none] } } := I4.kept (t' := s4.toks) fun b ob q => Heap.get?_push_of_some _ q
  obtain ⟨z, its, n, r, hlen, e⟩ := I5.lstM hH
  refine del_slice e (Heap.IsSliceOf.new _ vl .none .none) pl h0 (by rw [List.size_toArray]; omega) fun f hf => ?_
  refine wpAny_deleteEach_nil ⟨σ, _, I5.lset (its' := its.take i.toNat) (t' := s4.toks) (ys := xs.take i.toNat) hH e hf ?_ ?_, q⟩
  · exact r.take _
  · rw [List.length_take]
    omega
theorem r_delS {to : TE} {tl : TO} {D : Ends} {σ : L2.St} {H : Hp} (q : to σ H fun x H1 => tl σ H1 fun l H2 => ∃ (a : Addr) (xs : List V) (i : Int), x = .ref a ∧ l = some i ∧ H2 a = some (.lst xs) ∧ 0 ≤ i ∧ D.nx σ (upd H2 a (.lst (xs.take i.toNat)))) : tDelS to tl D σ H := q
def rLenO (C : Addr) (sp : Sp) : List V → Hp → VK → Prop := fun xs H Q => ∃ (x dx : Addr) (fs : List (Str × V)), xs = [.ref x] ∧ H x = some (.ins C dx fs) ∧ sp [.ref x] H (fun v H' => ∃ n : Int, v = .int n ∧ 0 ≤ n ∧ n < 2 ^ 63 ∧ Q (.int n) H') E0
theorem call_lenO {X : Cx} {k : Nat} {C : Addr} {ps : List Str} {sp : Sp} (G : MDef X.prog X.w X.K X.mg X.base CX0 k C "__len__" ps sp) (hr : Room (k + 1) X.A) : CallR X (.builtin "len") (rLenO C sp) := by
  intro pins s σ H xs us Q I r h
  obtain ⟨x, dx, fs, rfl, hx, hs⟩ := h
  obtain ⟨u, rfl, ru⟩ := vals1 r
  obtain rfl : u = Value.ref x := ru
  obtain ⟨f, fd, F, M, hb⟩ := G.ex
  have hob : ObjOk X.prog X.w H s.heap x (.ins C dx fs) := I.hok x _ hx
  obtain ⟨_, _, _, ho, _⟩ := hob
  have LT : PySem.W.Looks (model X.prog X.w) s.heap (typeOf (.ref x)) (.ref C) := fun A Q E s k q => wpAny_typeOf_ref (k _ _ ho) q
  have sp1 : PySem.W.Looks (model X.prog X.w) s.heap (specialOf (.ref x) "__len__") (some (.ref f)) := LT.andThen (PySem.W.looks_findIn I.kIn M.at_)
  have hfn : PySem.W.typeIn X.K (.ref f) = some (.type "function") := by
    have q := M.fn
    unfold PySem.W.isFn at q
    exact eq_of_beq q
  have LB := PySem.W.bind_fn (M := model X.prog X.w) I.kIn (.ref x) hfn
  refine Calls.call_function_entry kind_len plain_len entry_len (args_len1 _) ?_
  unfold Builtin.«len»
  refine wpAny_bind (m := oneArg "len" _) (wpAny_pure ?_)
  refine wpAny_bind (m := callSpecial? (.ref x) (PySem.Str.ofString "__len__")) ?_
  unfold callSpecial?
  refine wpAny_bind (sp1.here ?_)
  refine wpAny_holding (wpAny_bind (LB.here ?_))
  have b2 := hb s [.ref x] I.kIn (by rw [List.append_nil]; exact F.len _ _ _ _ hs)
  rw [List.append_nil] at b2
  refine wpAny_bind (wpAny_call (codeAny_mono (F.run X.A.in1 X.stack s H ⟨[.ref x], []⟩ [.ref x] [.ref x] _ E0 (hr.in1) I.env0.in1 b2 (.cons rfl .nil) hs) fun r s2 hq => ?_))
  cases r with
  | error e => exact hq.elim
  | ok fl =>
    cases fl with
    | ret v =>
      obtain ⟨v2, H2, I2, rv, n, rfl, h0, h1, q2⟩ := I.after hq
      obtain ⟨t, rfl⟩ := (show ∃ t, v = Value.int n t from rv)
      refine wpAny_pure (wpAny_bind (wpAny_holding (wpAny_pure ?_)))
      refine wpAny_bind (wpAny_letGo ?_)
      show wpAny _ _ (if n < 0 then _ else _) _ _ _
      rw [if_neg (by omega)]
      show wpAny _ _ (if n ≥ 2 ^ 63 then _ else _) _ _ _
      rw [if_neg (by omega)]
      exact wpAny_bind (wpAny_mkInt (wpAny_pure ⟨_, rfl, .int n, H2, I2.tok _, ⟨_, rfl⟩, q2⟩))
    | next => exact hq.elim
    | brk => exact hq.elim
    | cont => exact hq.elim

/-! ### methods called in suites -/
theorem fun_okW {P : Program} {w : World} {K : PySem.W.Frag} {mg : Str → Option Value} {base : Heap} {x qn : Str} {st : Stmt} {N ps : List Str} {k : Nat} {sp : Sp} {f : Addr} {fd : FuncData} (F : Fun K x qn st f fd) (S : FnScope N ps (defScope st)) (len : ∀ vs H Q E, sp vs H Q E → vs.length = ps.length)
    (hbody : ∀ (cdv : Value) (A : Around) (outer : List Env) (s : Shared) (H : Hp) (vs : List V) (Q : VK) (E : XK), L2H.RoomH k (A.deeper (envOfC qn (defScope st) s.heap.objs.size f cdv)) → sp vs H Q E →
      ∃ t, PSs (cxW P w K mg base N qn (defScope st) f cdv A outer s H E) (defBody st) t ∧ t { nx := fun _ H' => Q .non H', rt := Q } (start N vs) H) : FnW P w K mg base (k + 1) f fd ps sp := by
  have kp := F.kp
  obtain ⟨oc, od, kV, doc, pm, an, cdv, ct, osl, rfl, lk, hcd⟩ := F.ex
  refine ⟨len, fun A outer s H args us vs Q E hr e0 hb r hsp => ?_⟩
  have hl := len _ _ _ _ hsp
  have inS := e0.mod.kin.keeps fun b o e => (e0.bs b o e).1
  have lim := e0.mod.nolimit.keeps fun b o e => (e0.bs b o e).1
  have hkind : ∀ y ∈ ps.zip us, (defScope st).names.lookup y.1 = some .local ∨ ((defScope st).names.lookup y.1 = some .cell ∧ ((cellsFrom (s.heap.objs.size + 1) (defScope st).names []).lookup y.1).isSome = true) := fun ⟨n, v⟩ hy => (S.par n (List.of_mem_zip hy).1).imp id fun q => ⟨q, PySem.W.cellsFrom_some _ _ _ (.inl q)⟩
  refine codeAny_call_function hr.depth (inS _ _ lk) rfl S.co S.gen rfl (PySem.W.codeRec_of inS hcd) (hb _ _ _ _ (wpAny_newFunctionEnv_cells S.kind hkind fun env he s1 ic => ?_))
  subst he
  refine ⟨lim.keeps ic.toInCall.keep, codeAny_func ?_⟩
  obtain ⟨t, ht, hq⟩ := hbody cdv A outer s H vs Q E (hr.deeper _) hsp
  have J : Inv (cxOf CX0 P w K mg base N qn (defScope st) f cdv { A with handled := none } outer s H E) [] (start N vs) H s1 := inv_start S rfl (env0_mark e0) hl r ic
  have I : Inv (cxW P w K mg base N qn (defScope st) f cdv A outer s H E) [] (start N vs) H s1 :=
    ⟨⟨J.ok.mod, J.ok.kind, J.ok.glob, J.ok.blt, J.ok.above, J.ok.inj, J.ok.has, J.ok.cab, fun z => (by cases z), Around.frames_deeper e0.frames, J.ok.stk, J.ok.exf, J.ok.bs, J.ok.bsz, J.ok.noex, J.ok.exfs, J.ok.funs, J.ok.frf⟩, J.os, J.bare, J.base, J.loc, J.cell, J.free, J.freeC, J.pin, J.hok, J.len⟩
  refine wpAny_mono (ht.run [] s1 (start N vs) H _ I hq) (fun fl s2 hs => ?_) fun e s2 hs => False.elim hs
  have fin : ∀ {σ2 : L2.St} {H2 : Hp} {v : V} {u : Value}, Inv (cxW P w K mg base N qn (defScope st) f cdv A outer s H E) [] σ2 H2 s2 → RelV v u → Q v H2 → CE outer P w H s Q u s2 := fun {σ2 H2 v u} J2 rv q => ⟨v, H2, J2.os, J2.bare, J2.base, J2.hok, rv, q⟩
  cases fl with
  | ret u =>
    obtain ⟨v, σ2, H2, J2, rv, q⟩ := hs
    exact fin J2 rv q
  | next =>
    obtain ⟨σ2, H2, J2, q⟩ := hs
    exact fin (v := V.non) (u := Value.none) J2 rfl q
  | brk => exact hs.elim fun _ h => h.elim fun _ h => h.2.elim
  | cont => exact hs.elim fun _ h => h.elim fun _ h => h.2.elim

structure MDefW (P : Program) (w : World) (K : PySem.W.Frag) (mg : Str → Option Value) (base : Heap) (k : Nat) (C : Addr) (m : Str) (ps : List Str) (sp : Sp) : Prop where
  ex : ∃ f fd, FnW P w K mg base k f fd ps sp ∧ Meth K C m f ∧ Binds K fd ps []
theorem _root_.RD.MethAt.okW {P : Program} {w : World} {K : PySem.W.Frag} {mg : Str → Option Value} {base : Heap} {C : Addr} {m qn : Str} {st : Stmt} {N ps : List Str} {k : Nat} {sp : Sp} (F : MethAt K C m qn st ps) (S : FnScope N ps (defScope st)) (len : ∀ vs H Q E, sp vs H Q E → vs.length = ps.length)
    (hbody : ∀ (f : Addr) (cdv : Value) (A : Around) (outer : List Env) (s : Shared) (H : Hp) (vs : List V) (Q : VK) (E : XK), L2H.RoomH k (A.deeper (envOfC qn (defScope st) s.heap.objs.size f cdv)) → sp vs H Q E →
      ∃ t, PSs (cxW P w K mg base N qn (defScope st) f cdv A outer s H E) (defBody st) t ∧ t { nx := fun _ H' => Q .non H', rt := Q } (start N vs) H) : MDefW P w K mg base (k + 1) C m ps sp := by
  obtain ⟨f, fd, F, hm, hb⟩ := F.ex
  exact ⟨f, fd, fun_okW F S len (hbody f), hm, hb⟩
theorem run_fnW {X : Cx} {k : Nat} {f : Addr} {fd : FuncData} {ps : List Str} {sp : Sp} {pins : List (Addr × Obj)} {σ : L2.St} {H : Hp} {s : Shared} {Q : VK} {us : List Value} {vs : List V} (F : FnW X.prog X.w X.K X.mg X.base k f fd ps sp) (hr : L2H.RoomH k X.A) (hb : Binds X.K fd ps [])
    (I : Inv X pins σ H s) (r : Vals vs us) (q : sp vs H Q E0) : wpAny (model X.prog X.w) X.A (call (.ref f) us) (EP X pins σ Q) X.xe s := by
  have b := hb s us I.kIn (by rw [List.append_nil, ← r.length]; exact F.len _ _ _ _ q)
  rw [List.append_nil] at b
  refine wpAny_call (codeAny_mono (F.run X.A X.stack s H ⟨us, []⟩ us vs Q E0 hr I.env0 b r q) fun r s2 hq => ?_)
  cases r with
  | error e => exact hq.elim
  | ok fl =>
    cases fl with
    | ret u => exact I.after hq
    | next => exact hq.elim
    | brk => exact hq.elim
    | cont => exact hq.elim
theorem pe_methW {X : Cx} {k : Nat} {ps : List Str} {sp : Sp} {C : Addr} {m : Str} {o e : Expr} {es : List Expr} {apos pos : Pos} {ta : TE} {t : TA} {pl : Sem Bool} (he : PE X o ta) (c : Cls X.K C) (G : MDefW X.prog X.w X.K X.mg X.base k C m ps sp) (hr : L2H.RoomH k X.A) (ha : PA X (e :: es) t)
    (hst : starEach (e :: es) X.env = (false, eval e X.env) :: starEach es X.env := by rfl) (hpl : (backTo pos (starEach es X.env)).any (·.1) = false := by rfl)
    (ht : eval (.Call (.Attribute o m apos) (e :: es) [] pos) X.env = (do
      let ov ← eval o X.env
      standAt apos.atName
      let (f, first) ← holding [ov] (getMethod ov m pl)
      callWith pos f first (backTo pos (starEach (e :: es) X.env)) (backToKw pos (keywordEach [] X.env))) := by rfl) :
    PE X (.Call (.Attribute o m apos) (e :: es) [] pos) (tMeth C m sp [] E0 ta t) := by
  obtain ⟨f, fd, F, M, hb⟩ := G.ex
  refine ⟨fun pins s σ H Q I h => ?_⟩
  refine PySem.W.methodCall_KW (pl := pl) (thn (he.run pins s σ H _ I h) fun u s1 ⟨x, H1, I1, rx, a, dx, fs, ex, ea, l, q⟩ => ?_) ht
  subst ex
  obtain rfl : u = Value.ref a := rx
  refine getmeth_ok I1 ea c M l ?_
  refine PySem.W.callWith_K (first := [.ref a]) (h₀ := X.base) I.ok.mod.kin M.kp (thn (ha.run pos pins s1 σ H1 _ I1 q) fun us s2 ⟨vs, H2, I2, r, q2⟩ => ⟨I2.kIn, ?_⟩) hst hpl
  have q3 : sp (.ref a :: (vs ++ [])) H2 Q E0 := q2
  rw [List.append_nil] at q3
  exact run_fnW (us := .ref a :: us) (vs := .ref a :: vs) F hr hb I2 (.cons rfl r) q3
theorem roomH_in1 {k : Nat} {A : Around} (r : L2H.RoomH (k + 1) A) : L2H.RoomH k A.in1 := ⟨by have := r.dp; show A.depth + 3 * k + 5 < _; omega, by have := r.un; show A.units + 1 + 16 * k + 200 < _; omega⟩
theorem call_lenOW {X : Cx} {k : Nat} {C : Addr} {ps : List Str} {sp : Sp} (G : MDefW X.prog X.w X.K X.mg X.base k C "__len__" ps sp) (hr : L2H.RoomH (k + 1) X.A) : CallR X (.builtin "len") (rLenO C sp) := by
  intro pins s σ H xs us Q I r h
  obtain ⟨x, dx, fs, rfl, hx, hs⟩ := h
  obtain ⟨u, rfl, ru⟩ := vals1 r
  obtain rfl : u = Value.ref x := ru
  obtain ⟨f, fd, F, M, hb⟩ := G.ex
  have hob : ObjOk X.prog X.w H s.heap x (.ins C dx fs) := I.hok x _ hx
  obtain ⟨_, _, _, ho, _⟩ := hob
  have LT : PySem.W.Looks (model X.prog X.w) s.heap (typeOf (.ref x)) (.ref C) := fun A Q E s k q => wpAny_typeOf_ref (k _ _ ho) q
  have sp1 : PySem.W.Looks (model X.prog X.w) s.heap (specialOf (.ref x) "__len__") (some (.ref f)) := LT.andThen (PySem.W.looks_findIn I.kIn M.at_)
  have hfn : PySem.W.typeIn X.K (.ref f) = some (.type "function") := by
    have q := M.fn
    unfold PySem.W.isFn at q
    exact eq_of_beq q
  have LB := PySem.W.bind_fn (M := model X.prog X.w) I.kIn (.ref x) hfn
  refine Calls.call_function_entry kind_len plain_len entry_len (args_len1 _) ?_
  unfold Builtin.«len»
  refine wpAny_bind (m := oneArg "len" _) (wpAny_pure ?_)
  refine wpAny_bind (m := callSpecial? (.ref x) (PySem.Str.ofString "__len__")) ?_
  unfold callSpecial?
  refine wpAny_bind (sp1.here ?_)
  refine wpAny_holding (wpAny_bind (LB.here ?_))
  have b2 := hb s [.ref x] I.kIn (by rw [List.append_nil]; exact F.len _ _ _ _ hs)
  rw [List.append_nil] at b2
  refine wpAny_bind (wpAny_call (codeAny_mono (F.run X.A.in1 X.stack s H ⟨[.ref x], []⟩ [.ref x] [.ref x] _ E0 (roomH_in1 hr) I.env0.in1 b2 (.cons rfl .nil) hs) fun r s2 hq => ?_))
  cases r with
  | error e => exact hq.elim
  | ok fl =>
    cases fl with
    | ret v =>
      obtain ⟨v2, H2, I2, rv, n, rfl, h0, h1, q2⟩ := I.after hq
      obtain ⟨t, rfl⟩ := (show ∃ t, v = Value.int n t from rv)
      refine wpAny_pure (wpAny_bind (wpAny_holding (wpAny_pure ?_)))
      refine wpAny_bind (wpAny_letGo ?_)
      show wpAny _ _ (if n < 0 then _ else _) _ _ _
      rw [if_neg (by omega)]
      show wpAny _ _ (if n ≥ 2 ^ 63 then _ else _) _ _ _
      rw [if_neg (by omega)]
      exact wpAny_bind (wpAny_mkInt (wpAny_pure ⟨_, rfl, .int n, H2, I2.tok _, ⟨_, rfl⟩, q2⟩))
    | next => exact hq.elim
    | brk => exact hq.elim
    | cont => exact hq.elim

/-! ### properties of own classes -/
structure PropAt (K : PySem.W.Frag) (C : Addr) (m qn : Str) (st : Stmt) (ps : List Str) : Prop where
  ex : ∃ p f fd, Fun K m qn st f fd ∧ PropOf K C m p f ∧ Binds K fd ps []
structure PDef (P : Program) (w : World) (K : PySem.W.Frag) (mg : Str → Option Value) (base : Heap) (CX : CXT) (k : Nat) (C : Addr) (m : Str) (ps : List Str) (sp : Sp) : Prop where
  ex : ∃ p f fd, FnOk P w K mg base CX k f fd ps sp ∧ PropOf K C m p f ∧ Binds K fd ps []
section
variable {P : Program} {w : World} {K : PySem.W.Frag} {mg : Str → Option Value} {base : Heap}
theorem PropAt.ok {C : Addr} {m qn : Str} {st : Stmt} {N ps : List Str} {k : Nat} {sp : Sp} (F : PropAt K C m qn st ps) (S : FnScope N ps (defScope st)) (len : ∀ vs H Q E, sp vs H Q E → vs.length = ps.length)
    (hbody : ∀ (f : Addr) (cdv : Value) (A : Around) (outer : List Env) (s : Shared) (H : Hp) (vs : List V) (Q : VK) (E : XK), Room k (A.deeper (envOfC qn (defScope st) s.heap.objs.size f cdv)) → sp vs H Q E →
      ∃ t, PSs (cxOf CX0 P w K mg base N qn (defScope st) f cdv A outer s H E).nox (defBody st) t ∧ t { nx := fun _ H' => Q .non H', rt := Q } (start N vs) H) : PDef P w K mg base CX0 (k + 1) C m ps sp := by
  obtain ⟨p, f, fd, F, hm, hb⟩ := F.ex
  exact ⟨p, f, fd, F.ok S len (hbody f), hm, hb⟩
theorem pe_propD {X : Cx} {C : Addr} {m : Str} {k : Nat} {ps : List Str} {sp : Sp} {e : Expr} {pos : Pos} {ta : TE} (he : PE X e ta) (c : Cls X.K C) (G : PDef X.prog X.w X.K X.mg X.base CX0 k C m ps sp) (hr : Room (k + 1) X.A)
    (hab : attributeBase e m X.env (eval e X.env) = eval e X.env := by rfl) : PE X (.Attribute e m pos) (tProp C sp [] E0 ta) := by
  obtain ⟨p, f, fd, F, hp, hb⟩ := G.ex
  exact pe_prop he c hp F hr hb .nil (fun _ _ _ _ _ _ _ z => z.elim) hab
theorem r_prop {C : Addr} {sp : Sp} {E : XK} {ta : TE} {σ : L2.St} {H : Hp} {Q : VK} (q : ta σ H fun x H1 => ∃ a dx fs, x = .ref a ∧ H1 a = some (.ins C dx fs) ∧ sp [.ref a] H1 Q E) : tProp C sp [] E ta σ H Q := q
end

/-! ### objects that no longer change go into the base -/
theorem erase_perm {α : Type} {x : α} : ∀ (L : List α) (n : Nat), L[n]? = some x → (x :: L.eraseIdx n).Perm L
  | [], _, h => by simp at h
  | y :: L, 0, h => by
    have e : y = x := Option.some.inj h
    subst e
    exact .refl _
  | y :: L, n + 1, h => by
    show (x :: y :: L.eraseIdx n).Perm (y :: L)
    exact (List.Perm.swap y x _).trans ((erase_perm L n h).cons y)
theorem same_seqL {K : PySem.W.Frag} {H H' : Hp} {l : Addr} {xs : List V} (e : Same H H') (h : SqL K H l xs) : SqL K H' l xs := e.seq h
section
variable {H0 H : Hp} {L : List (Addr × HO)} {a : Addr} {u : HO}
theorem _root_.RD.Own.frz (o : Own H0 H ((a, u) :: L)) : Own (upd H0 a u) H L := by
  have hnd := o.nd
  rw [List.map_cons, List.nodup_cons] at hnd
  have ha := o.fr _ List.mem_cons_self
  refine ⟨fun b x e => ?_, fun x hx => ?_, hnd.2⟩
  · by_cases hb : b = a
    · subst hb
      rw [upd_same] at e
      cases e
      exact ha.2
    · rw [upd_ne hb] at e
      exact o.ex _ _ e
  · have hx2 := o.fr x (List.mem_cons_of_mem _ hx)
    refine ⟨?_, hx2.2⟩
    rw [upd_ne]
    · exact hx2.1
    · intro e
      exact hnd.1 (List.mem_map.mpr ⟨x, hx, e⟩)
theorem _root_.RD.Own.same_frz (o : Own H0 H ((a, u) :: L)) : Same H0 (upd H0 a u) := same_new (o.fr _ List.mem_cons_self).1
theorem _root_.RD.Own.perm {L' : List (Addr × HO)} (o : Own H0 H L) (p : L'.Perm L) : Own H0 H L' := ⟨o.ex, fun x hx => o.fr x (p.mem_iff.mp hx), ((p.map _).nodup_iff).mpr o.nd⟩
theorem _root_.RD.Own.base {H1 : Hp} (o : Own H0 H L) (s : Same H1 H0) : Own H1 H L := ⟨s.trans o.ex, fun x hx => ⟨s.free (o.fr x hx).1, (o.fr x hx).2⟩, o.nd⟩
/-- the object at place n is frozen -/
theorem _root_.RD.Own.frzAt (o : Own H0 H L) (n : Nat) (h : L[n]? = some (a, u)) : Own (upd H0 a u) H (L.eraseIdx n) := by
  exact Own.frz (o.perm (erase_perm L n h))
end

/-! ### methods that may raise -/
section
variable {P : Program} {w : World} {K : PySem.W.Frag} {mg : Str → Option Value} {base : Heap}
theorem _root_.RD.MethAt.okN {C : Addr} {m qn : Str} {st : Stmt} {N ps : List Str} {k : Nat} {sp : Sp} (F : MethAt K C m qn st ps) (S : FnScope N ps (defScope st)) (len : ∀ vs H Q E, sp vs H Q E → vs.length = ps.length)
    (hbody : ∀ (f : Addr) (cdv : Value) (A : Around) (outer : List Env) (s : Shared) (H : Hp) (vs : List V) (Q : VK) (E : XK), Room k (A.deeper (envOfC qn (defScope st) s.heap.objs.size f cdv)) → sp vs H Q E →
      ∃ t, PSs (cxOf (L2N.CX P w) P w K mg base N qn (defScope st) f cdv A outer s H E) (defBody st) t ∧ t { nx := fun _ H' => Q .non H', rt := Q } (start N vs) H) : MDef P w K mg base (L2N.CX P w) (k + 1) C m ps sp := by
  obtain ⟨f, fd, F, hm, hb⟩ := F.ex
  obtain ⟨oc, od, kV, doc, pm, an, cdv, ct, osl, rfl, lk, hcd⟩ := F.ex
  exact ⟨f, _, fn_of lk hcd S len fun A outer s H vs Q E hr hsp => hbody f cdv A outer s H vs Q E hr hsp, hm, hb⟩
theorem _root_.RD.MethAt.okX {C : Addr} {m qn : Str} {st : Stmt} {N ps : List Str} {k : Nat} {sp : Sp} (F : MethAt K C m qn st ps) (S : FnScope N ps (defScope st)) (len : ∀ vs H Q E, sp vs H Q E → vs.length = ps.length)
    (hbody : ∀ (f : Addr) (cdv : Value) (A : Around) (outer : List Env) (s : Shared) (H : Hp) (vs : List V) (Q : VK) (E : XK), Room k (A.deeper (envOfC qn (defScope st) s.heap.objs.size f cdv)) → sp vs H Q E →
      ∃ t, PSs (cxOf (L2.CX P w) P w K mg base N qn (defScope st) f cdv A outer s H E) (defBody st) t ∧ t { nx := fun _ H' => Q .non H', rt := Q } (start N vs) H) : MDef P w K mg base (L2.CX P w) (k + 1) C m ps sp := by
  obtain ⟨f, fd, F, hm, hb⟩ := F.ex
  obtain ⟨oc, od, kV, doc, pm, an, cdv, ct, osl, rfl, lk, hcd⟩ := F.ex
  exact ⟨f, _, fn_of lk hcd S len fun A outer s H vs Q E hr hsp => hbody f cdv A outer s H vs Q E hr hsp, hm, hb⟩
theorem _root_.RD.MDef.toX {C : Addr} {m : Str} {ps : List Str} {k : Nat} {sp : Sp} (G : MDef P w K mg base (L2N.CX P w) k C m ps sp) : MDef P w K mg base (L2.CX P w) k C m ps sp := by
  obtain ⟨f, fd, F, r⟩ := G.ex
  refine ⟨f, fd, ⟨F.len, fun A outer s H args us vs Q E hr e0 hb hv hs => codeAny_mono (F.run A outer s H args us vs Q E hr e0 hb hv hs) fun r s2 hq => ?_⟩, r⟩
  cases r with
  | error e => exact cx_of_cxn hq
  | ok fl => cases fl <;> exact hq
theorem _root_.RD.MDef.toZ {C : Addr} {m : Str} {ps : List Str} {k : Nat} {sp : Sp} (G : MDef P w K mg base (L2.CX P w) k C m ps sp) : MDef P w K mg base CX0 k C m ps (spZ sp) := by
  obtain ⟨f, fd, F, r⟩ := G.ex
  refine ⟨f, fd, ⟨fun vs H Q E h => F.len vs H Q _ h, fun A outer s H args us vs Q E hr e0 hb hv hs => codeAny_mono (F.run A outer s H args us vs Q (fun _ _ _ => False) hr e0 hb hv hs) fun r s2 hq => ?_⟩, r⟩
  cases r with
  | error e =>
    obtain ⟨a, B, H2, cls, d, e1, fl, h1, h2, h3, h4, h5, h6⟩ := hq
    exact h6
  | ok fl => cases fl <;> exact hq
theorem _root_.RD.MDef.imp {CX : CXT} {C : Addr} {m : Str} {k : Nat} {ps : List Str} {sp sp' : Sp} (F : MDef P w K mg base CX k C m ps sp) (h : ∀ vs H Q E, sp' vs H Q E → sp vs H Q E) : MDef P w K mg base CX k C m ps sp' := by
  obtain ⟨f, fd, F, r⟩ := F.ex
  exact ⟨f, fd, F.imp h, r⟩
end

/-! ### methods called and objects made where they may raise -/
def tMethS (C : Addr) (m : Str) (sp : Sp) (E : L2.St → XK) (ta : TE) (t : TA) : TE := fun σ H Q => ta σ H fun x H1 => ∃ a dx fs, x = .ref a ∧ H1 a = some (.ins C dx fs) ∧ fs.lookup m = none ∧ t σ H1 fun vs H2 => sp (x :: vs) H2 Q (E σ)
def tMakeS (C : Addr) (sp : Sp) (E : L2.St → XK) (t : TA) : TE := fun σ H Q => t σ H fun vs H1 => ∀ x dx, H1 x = none → H1 dx = none → dx ≠ x → sp (.ref x :: vs) (upd (upd H1 dx (.own x)) x (.ins C dx [])) (fun v H2 => v = .non ∧ Q (.ref x) H2) (E σ)
section
variable {X : Cx} {CX : CXT} {k : Nat} {f C : Addr} {fd : FuncData} {ps : List Str} {sp : Sp} {E : L2.St → XK} {x m : Str} {p pos apos : Pos} {e o : Expr} {es : List Expr} {ta : TE} {t : TA}
theorem pe_methS {pl : Sem Bool} (he : PE X o ta) (c : Cls X.K C) (hm : Meth X.K C m f) (F : FnOk X.prog X.w X.K X.mg X.base CX k f fd ps sp) (hr : Room k X.A) (hb : Binds X.K fd ps []) (hx : ∀ σ, PassesAt CX X σ (E σ)) (ha : PA X (e :: es) t)
    (hst : starEach (e :: es) X.env = (false, eval e X.env) :: starEach es X.env := by rfl) (hpl : (backTo pos (starEach es X.env)).any (·.1) = false := by rfl)
    (ht : eval (.Call (.Attribute o m apos) (e :: es) [] pos) X.env = (do
      let ov ← eval o X.env
      standAt apos.atName
      let (f, first) ← holding [ov] (getMethod ov m pl)
      callWith pos f first (backTo pos (starEach (e :: es) X.env)) (backToKw pos (keywordEach [] X.env))) := by rfl) :
    PE X (.Call (.Attribute o m apos) (e :: es) [] pos) (tMethS C m sp E ta t) := by
  refine ⟨fun pins s σ H Q I h => ?_⟩
  refine PySem.W.methodCall_KW (pl := pl) (thn (he.run pins s σ H _ I h) fun u s1 ⟨x, H1, I1, rx, a, dx, fs, ex, ea, l, q⟩ => ?_) ht
  subst ex
  obtain rfl : u = Value.ref a := rx
  refine getmeth_ok I1 ea c hm l ?_
  refine PySem.W.callWith_K (first := [.ref a]) (h₀ := X.base) I.ok.mod.kin hm.kp (thn (ha.run pos pins s1 σ H1 _ I1 q) fun us s2 ⟨vs, H2, I2, r, q2⟩ => ⟨I2.kIn, ?_⟩) hst hpl
  exact run_fnS (us := .ref a :: us) (vs := .ref a :: vs) F hr hb (hx σ) I2 (.cons rfl r) q2
theorem run_makeS {pins : List (Addr × Obj)} {σ : L2.St} {H : Hp} {s : Shared} {Q : VK} {us : List Value} {vs : List V} {E : XK} (M : Mk X.K C f) (F : FnOk X.prog X.w X.K X.mg X.base CX k f fd ps sp) (hr : Room (k + 1) X.A) (hb : Binds X.K fd ps [])
    (hx : PassesAt CX X σ E) (I : Inv X pins σ H s) (r : Vals vs us)
    (h : ∀ x dx, H x = none → H dx = none → dx ≠ x → sp (.ref x :: vs) (upd (upd H dx (.own x)) x (.ins C dx [])) (fun v H2 => v = .non ∧ Q (.ref x) H2) E) :
    wpAny (model X.prog X.w) X.A (call (.ref C) us) (EP X pins σ Q) X.xe s := by
  have hq := h (s.heap.objs.size + 1) s.heap.objs.size (I.hok.fresh (Nat.le_succ _)) (I.hok.fresh (Nat.le_refl _)) (Nat.ne_of_lt (Nat.lt_succ_self _))
  have I2 := Inv.made (C := C) I
  have r2 : Vals (V.ref (s.heap.objs.size + 1) :: vs) (Value.ref (s.heap.objs.size + 1) :: us) := .cons rfl r
  have hl : (Value.ref (s.heap.objs.size + 1) :: us ++ []).length = ps.length := by
    have e := r2.length
    rw [F.len _ _ _ _ hq] at e
    rw [List.append_nil]
    exact e.symm
  have hbb := hb _ (Value.ref (s.heap.objs.size + 1) :: us) I2.kIn hl
  rw [List.append_nil] at hbb
  refine wpAny_call (make_map (f := f) I.kIn M.makes M.init (beq_iff_eq.mp M.fn) (codeAny_mono (F.run _ X.stack _ _ ⟨Value.ref (s.heap.objs.size + 1) :: us, []⟩ (Value.ref (s.heap.objs.size + 1) :: us) _ _ E (hr.make C us [])
    (I2.env0.make C us []) hbb r2 hq) fun r s' hq' => ?_))
  cases r with
  | error e => exact hx pins _ _ e s' I2 hq'
  | ok fl =>
    cases fl with
    | ret u =>
      obtain ⟨v, H', I3, rv, ev, q3⟩ := I2.after hq'
      subst ev
      exact ⟨rv, ⟨V.ref (s.heap.objs.size + 1), H', I3, rfl, q3⟩⟩
    | next => exact False.elim hq'
    | brk => exact False.elim hq'
    | cont => exact False.elim hq'
theorem pe_makeS (M : Mk X.K C f) (F : FnOk X.prog X.w X.K X.mg X.base CX k f fd ps sp) (hr : Room (k + 1) X.A) (hg : Gl X x) (hm : X.mg x = some (.ref C)) (hb : Binds X.K fd ps []) (hx : ∀ σ, PassesAt CX X σ (E σ))
    (ha : PA X (e :: es) t) (hdb : (x == ("__debug__" : Str)) = false := by decide) (he : starEach (e :: es) X.env = (false, eval e X.env) :: starEach es X.env := by rfl) (hpl : (backTo pos (starEach es X.env)).any (·.1) = false := by rfl) :
    PE X (.Call (.Name x p) (e :: es) [] pos) (tMakeS C sp E t) := by
  refine ⟨fun pins s σ H Q I h => ?_⟩
  refine wpAny_Call_Name_kw (ld_glob I hg hm ?_ hdb)
  refine PySem.W.callWith_K (h₀ := X.base) I.ok.mod.kin M.kp (thn (ha.run pos pins s σ H _ I h) fun us s1 ⟨vs, H1, I1, r, q⟩ => ⟨I1.kIn, ?_⟩) he hpl
  exact run_makeS M F hr hb (hx σ) I1 r q
end
section
variable {X : Cx} {k : Nat} {C : Addr} {ps : List Str} {sp : Sp} {W : WX} {x m : Str} {p pos apos : Pos} {e o : Expr} {es : List Expr} {ta : TE} {t : TA}
theorem pe_methX {pl : Sem Bool} (he : PE X o ta) (c : Cls X.K C) (G : MDef X.prog X.w X.K X.mg X.base (L2.CX X.prog X.w) k C m ps sp) (tk : L2.Takes X W) (hr : Room k X.A) (ha : PA X (e :: es) t)
    (hst : starEach (e :: es) X.env = (false, eval e X.env) :: starEach es X.env := by rfl) (hpl : (backTo pos (starEach es X.env)).any (·.1) = false := by rfl)
    (ht : eval (.Call (.Attribute o m apos) (e :: es) [] pos) X.env = (do
      let ov ← eval o X.env
      standAt apos.atName
      let (f, first) ← holding [ov] (getMethod ov m pl)
      callWith pos f first (backTo pos (starEach (e :: es) X.env)) (backToKw pos (keywordEach [] X.env))) := by rfl) :
    PE X (.Call (.Attribute o m apos) (e :: es) [] pos) (tMethS C m sp (WE W) ta t) := by
  obtain ⟨f, fd, F, M, hb⟩ := G.ex
  exact pe_methS he c M F hr hb (fun σ => L2.passAt tk σ) ha hst hpl ht
theorem pe_methN {pl : Sem Bool} (he : PE X o ta) (c : Cls X.K C) (G : MDef X.prog X.w X.K X.mg X.base (L2N.CX X.prog X.w) k C m ps sp) (tk : L2N.Takes X W) (hr : Room k X.A) (ha : PA X (e :: es) t)
    (hst : starEach (e :: es) X.env = (false, eval e X.env) :: starEach es X.env := by rfl) (hpl : (backTo pos (starEach es X.env)).any (·.1) = false := by rfl)
    (ht : eval (.Call (.Attribute o m apos) (e :: es) [] pos) X.env = (do
      let ov ← eval o X.env
      standAt apos.atName
      let (f, first) ← holding [ov] (getMethod ov m pl)
      callWith pos f first (backTo pos (starEach (e :: es) X.env)) (backToKw pos (keywordEach [] X.env))) := by rfl) :
    PE X (.Call (.Attribute o m apos) (e :: es) [] pos) (tMethS C m sp (WE W) ta t) := by
  obtain ⟨f, fd, F, M, hb⟩ := G.ex
  exact pe_methS he c M F hr hb (fun σ => L2N.passAt tk σ) ha hst hpl ht
theorem pe_makeX (G : KDef X.prog X.w X.K X.mg X.base (L2.CX X.prog X.w) k C ps sp) (hm : X.mg x = some (.ref C)) (tk : L2.Takes X W) (hr : Room (k + 1) X.A) (ha : PA X (e :: es) t) (hg : Gl X x := by rfl)
    (hdb : (x == ("__debug__" : Str)) = false := by decide) (he : starEach (e :: es) X.env = (false, eval e X.env) :: starEach es X.env := by rfl) (hpl : (backTo pos (starEach es X.env)).any (·.1) = false := by rfl) : PE X (.Call (.Name x p) (e :: es) [] pos) (tMakeS C sp (WE W) t) := by
  obtain ⟨f, fd, F, M, hb⟩ := G.ex
  exact pe_makeS M F hr hg hm hb (fun σ => L2.passAt tk σ) ha hdb he hpl
theorem pe_makeN (G : KDef X.prog X.w X.K X.mg X.base (L2N.CX X.prog X.w) k C ps sp) (hm : X.mg x = some (.ref C)) (tk : L2N.Takes X W) (hr : Room (k + 1) X.A) (ha : PA X (e :: es) t) (hg : Gl X x := by rfl)
    (hdb : (x == ("__debug__" : Str)) = false := by decide) (he : starEach (e :: es) X.env = (false, eval e X.env) :: starEach es X.env := by rfl) (hpl : (backTo pos (starEach es X.env)).any (·.1) = false := by rfl) : PE X (.Call (.Name x p) (e :: es) [] pos) (tMakeS C sp (WE W) t) := by
  obtain ⟨f, fd, F, M, hb⟩ := G.ex
  exact pe_makeS M F hr hg hm hb (fun σ => L2N.passAt tk σ) ha hdb he hpl
end
section
variable {C : Addr} {m : Str} {sp : Sp} {E : L2.St → XK} {ta : TE} {t : TA} {σ : L2.St} {H : Hp} {Q : VK}
theorem r_methS (q : ta σ H fun x H1 => ∃ a dx fs, x = .ref a ∧ H1 a = some (.ins C dx fs) ∧ fs.lookup m = none ∧ t σ H1 fun vs H2 => sp (x :: vs) H2 Q (E σ)) : tMethS C m sp E ta t σ H Q := q
theorem r_makeS (q : t σ H fun vs H1 => ∀ x dx, H1 x = none → H1 dx = none → dx ≠ x → sp (.ref x :: vs) (upd (upd H1 dx (.own x)) x (.ins C dx [])) (fun v H2 => v = .non ∧ Q (.ref x) H2) (E σ)) : tMakeS C sp E t σ H Q := q
end
section
variable {P : Program} {w : World} {K : PySem.W.Frag} {mg : Str → Option Value} {base : Heap}
theorem _root_.RD.MkAt.okN {C : Addr} {qn : Str} {st : Stmt} {N ps : List Str} {k : Nat} {sp : Sp} (F : MkAt K C qn st ps) (S : FnScope N ps (defScope st)) (len : ∀ vs H Q E, sp vs H Q E → vs.length = ps.length)
    (hbody : ∀ (f : Addr) (cdv : Value) (A : Around) (outer : List Env) (s : Shared) (H : Hp) (vs : List V) (Q : VK) (E : XK), Room k (A.deeper (envOfC qn (defScope st) s.heap.objs.size f cdv)) → sp vs H Q E →
      ∃ t, PSs (cxOf (L2N.CX P w) P w K mg base N qn (defScope st) f cdv A outer s H E) (defBody st) t ∧ t { nx := fun _ H' => Q .non H', rt := Q } (start N vs) H) : KDef P w K mg base (L2N.CX P w) (k + 1) C ps sp := by
  obtain ⟨f, fd, F, hm, hb⟩ := F.ex
  obtain ⟨oc, od, kV, doc, pm, an, cdv, ct, osl, rfl, lk, hcd⟩ := F.ex
  exact ⟨f, _, fn_of lk hcd S len fun A outer s H vs Q E hr hsp => hbody f cdv A outer s H vs Q E hr hsp, hm, hb⟩
theorem _root_.RD.KDef.toX {C : Addr} {ps : List Str} {k : Nat} {sp : Sp} (G : KDef P w K mg base (L2N.CX P w) k C ps sp) : KDef P w K mg base (L2.CX P w) k C ps sp := by
  obtain ⟨f, fd, F, r⟩ := G.ex
  refine ⟨f, fd, ⟨F.len, fun A outer s H args us vs Q E hr e0 hb hv hs => codeAny_mono (F.run A outer s H args us vs Q E hr e0 hb hv hs) fun r s2 hq => ?_⟩, r⟩
  cases r with
  | error e => exact cx_of_cxn hq
  | ok fl => cases fl <;> exact hq
theorem _root_.RD.KDef.toZ {C : Addr} {ps : List Str} {k : Nat} {sp : Sp} (G : KDef P w K mg base (L2.CX P w) k C ps sp) : KDef P w K mg base CX0 k C ps (spZ sp) := by
  obtain ⟨f, fd, F, r⟩ := G.ex
  refine ⟨f, fd, ⟨fun vs H Q E h => F.len vs H Q _ h, fun A outer s H args us vs Q E hr e0 hb hv hs => codeAny_mono (F.run A outer s H args us vs Q (fun _ _ _ => False) hr e0 hb hv hs) fun r s2 hq => ?_⟩, r⟩
  cases r with
  | error e =>
    obtain ⟨a, B, H2, cls, d, e1, fl, h1, h2, h3, h4, h5, h6⟩ := hq
    exact h6
  | ok fl => cases fl <;> exact hq
end

local macro_rules | `(tactic| walk_at "rd1") => `(tactic| (first
  | with_reducible refine r_tryA ?_
  | with_reducible refine r_tryO ?_
  | with_reducible refine r_callS ?_
  | with_reducible refine r_xfD ?_
  | ((with_reducible refine r_callLS ?h ?_); (case h => exact rfl))))
local macro_rules | `(tactic| walk_at "rd1") => `(tactic| (first
  | with_reducible refine r_z2 ?_
  | with_reducible refine r_z3 ?_
  | with_reducible refine r_en ?_
  | ((with_reducible refine r_gTup3 (x := ?_) (y := ?_) (z := ?_) ?h ?_); (case h => walk_at "sqT"))))
local macro_rules | `(tactic| walk_at "rd1") => `(tactic| (first
  | with_reducible refine r_prop ?_
  | with_reducible refine r_delS ?_))
local macro_rules | `(tactic| walk_at "rd1") => `(tactic| (first
  | with_reducible refine r_methS ?_
  | with_reducible refine r_makeS ?_))
/-! ### while an exception is handled: ends of iterators, sums, defs -/
section
open HotX
variable {prog : Program} {w : World} {A : Around} {E : Value → Shared → Prop} {s : Shared}
/-- the exception that ends an iterator, made and raised while another is handled -/
theorem stop_hot {α : Type} {x1 it : Addr} {h0 : Heap} (hot : HotAt A x1 s.heap) (e0 : Heap.ExtBut it h0 s.heap) :
    wpAny (model prog w) A (Builtin.SmallTypes.stopIteration (α := α)) (fun _ _ => False) (fun x s' => ∃ a o h', x = .ref a ∧ s' = { s with heap := h' } ∧ h'.get? a = some o ∧ o.cls = .type "StopIteration" ∧ Heap.ExtBut it h0 h') s := by
  obtain ⟨hh, o1, vs1, h1, d1, c1⟩ := hot
  show wpAny _ _ (newExc (.type "StopIteration") [] >>= _) _ _ _
  refine wpAny_bind ?_
  simp only [newExc, newTuple]
  refine wpAny_bind (wpAny_newObj_type ?_ (by size_fits))
  refine wpAny_bind (m := firstArgMember _ _) (wpAny_of_eq (a := Value.none) (by first | rfl | (simp only [firstArgMember]; rfl)) ?_)
  refine wpAny_newObj_type ?_ (by size_fits)
  refine raiseNew_hot ⟨hh, o1, vs1, Heap.get?_push_of_some _ (Heap.get?_push_of_some _ h1), d1, c1⟩ (Nat.ne_of_lt (Heap.lt_size (Heap.get?_push_of_some _ h1))) (Heap.get?_push_size _ rfl) rfl (by first | (simp; done) | (simp; omega) | (simp only [Array.size_append]; simp; omega)) ?_
  refine ⟨_, _, _, rfl, rfl, Heap.get?_update_self _ (Heap.get?_push_size _ rfl) rfl, rfl, fun b o hb e => ?_⟩
  have e1 : (s.heap.push { cls := Value.type "tuple", data := Data.seq #[] }).get? b = some o := Heap.get?_push_of_some _ (e0 b o hb e)
  exact (Heap.get?_update_other _ _ (Nat.ne_of_gt (Heap.lt_size e1))).trans (Heap.get?_push_of_some _ e1)
theorem list_end_hot {it l x1 : Addr} {i : Nat} {items : Array Value} {Q : Option Value → Shared → Prop} (hot : HotAt A x1 s.heap) (hne : x1 ≠ it) (hit : s.heap.IsListIter it l i) (hl : s.heap.IsList l items) (hx : items[i]? = none)
    (hQ : ∀ h', Heap.ExtBut it s.heap h' → Q none { s with heap := h' }) : wpAny (model prog w) A (pyNext (.ref it)) Q E s := by
  obtain ⟨hh, o1, vs1, h1, d1, c1⟩ := hot
  obtain ⟨o, ho, hc, hd⟩ := id hit
  obtain ⟨ol, hol, _, nl, hdl⟩ := hl
  unfold pyNext
  refine wpAny_bind (wpAny_attempt (wpAny_callSpecial?_slot (name := Str.ofString "__next__") hit.typeIs slot_listiter_next
    (wpAny_call_entry slot_listiter_next hit.typeIs entry_listiter_next ?_ (args_listiter_next _))))
  show wpAny _ _ (field (.ref it) 0 >>= _) _ _ s
  refine wpAny_bind (wpAny_field ho hd (x := .ref l) rfl ?_)
  show wpAny _ _ (if (Value.ref l == Value.none) = true then _ else _) _ _ s
  rw [if_neg (show ¬ ((Value.ref l == Value.none) = true) from Bool.false_ne_true)]
  show wpAny _ _ (field (.ref it) 1 >>= _) _ _ s
  refine wpAny_bind (wpAny_field ho hd (x := .int i 0) rfl ?_)
  show wpAny _ _ (seqItems? (.ref l) >>= _) _ _ s
  refine wpAny_bind (wpAny_seqItems hol hdl ?_)
  simp only [Int.toNat_natCast, hx]
  refine wpAny_bind (wpAny_rule (wpAny_bind (wpAny_setField ho hd (by simp) ?_)))
  refine wpAny_mono (stop_hot (A := A.in1) (it := it) (h0 := s.heap) (x1 := x1) ⟨hh, o1, vs1, (Heap.get?_update_other _ _ (Ne.symm hne)).trans h1, d1, c1⟩ (Heap.SameBut.update ..).extBut) (fun _ _ z => False.elim z) ?_
  rintro x s' ⟨a, oa, h', rfl, rfl, ha, hca, he⟩
  refine wpAny_bind (wpAny_isInstance (T := "StopIteration") (b := true) ⟨_, ha, hca⟩ isSubtype_stop ?_)
  exact wpAny_pure (hQ _ he)
theorem tup_end_hot {it t x1 : Addr} {i : Nat} {items : Array Value} {Q : Option Value → Shared → Prop} (hot : HotAt A x1 s.heap) (hne : x1 ≠ it) (hit : IsTupIter s.heap it t i) (ht : IsTup s.heap t items) (hx : items[i]? = none)
    (hQ : ∀ h', Heap.ExtBut it s.heap h' → Q none { s with heap := h' }) : wpAny (model prog w) A (pyNext (.ref it)) Q E s := by
  obtain ⟨hh, o1, vs1, h1, d1, c1⟩ := hot
  obtain ⟨o, ho, hc, hd⟩ := id hit
  obtain ⟨ol, hol, _, nl, hdl⟩ := ht
  unfold pyNext
  refine wpAny_bind (wpAny_attempt (wpAny_callSpecial?_slot (name := Str.ofString "__next__") hit.typeIs slot_tupleiter_next
    (wpAny_call_entry slot_tupleiter_next hit.typeIs entry_tupleiter_next ?_ (args_tupleiter_next _))))
  show wpAny _ _ (field (.ref it) 0 >>= _) _ _ s
  refine wpAny_bind (wpAny_field ho hd (x := .ref t) rfl ?_)
  show wpAny _ _ (if (Value.ref t == Value.none) = true then _ else _) _ _ s
  rw [if_neg (show ¬ ((Value.ref t == Value.none) = true) from Bool.false_ne_true)]
  show wpAny _ _ (field (.ref it) 1 >>= _) _ _ s
  refine wpAny_bind (wpAny_field ho hd (x := .int i 0) rfl ?_)
  show wpAny _ _ (seqItems? (.ref t) >>= _) _ _ s
  refine wpAny_bind (wpAny_seqItems hol hdl ?_)
  simp only [Int.toNat_natCast, hx]
  refine wpAny_bind (wpAny_rule (wpAny_bind (wpAny_setField ho hd (by simp) ?_)))
  refine wpAny_mono (stop_hot (A := A.in1) (it := it) (h0 := s.heap) (x1 := x1) ⟨hh, o1, vs1, (Heap.get?_update_other _ _ (Ne.symm hne)).trans h1, d1, c1⟩ (Heap.SameBut.update ..).extBut) (fun _ _ z => False.elim z) ?_
  rintro x s' ⟨a, oa, h', rfl, rfl, ha, hca, he⟩
  refine wpAny_bind (wpAny_isInstance (T := "StopIteration") (b := true) ⟨_, ha, hca⟩ isSubtype_stop ?_)
  exact wpAny_pure (hQ _ he)
/-- the handled exception as it stands -/
def HotO (h : Heap) (x1 : Addr) : Prop := ∃ (o : Obj) (vs : Array Value), h.get? x1 = some o ∧ o.data = .fields vs ∧ vs[2]? = some .none
theorem walksHot {A : Around} {x1 : Addr} (hh : A.handled = some (.ref x1)) (I ax : Addr) (hne : ax ≠ I) (hx : x1 ≠ I) (items : Array Value) :
    Walks prog w A I [I, ax, x1] [I] items.size (fun i v => items[i]? = some v) (fun i h => h.IsListIter I ax i ∧ h.IsList ax items ∧ HotO h x1) where
  sub := fun b hb => by simp at hb; simp [hb]
  frame := fun _ _ _ ⟨s1, s2, o, vs, s3, s4⟩ hk => ⟨s1.at fun o e => hk I (by simp) o e, s2.at fun o e => hk ax (by simp) o e, o, vs, hk x1 (by simp) _ s3, s4⟩
  item := fun i s Q E hi ⟨s1, s2, o, vs, s3, s4⟩ hQ => by
    refine wpAny_pyNext_list_item s1 s2 (x := items[i]) (by simp [hi]) fun h' hit' hs' => ?_
    exact hQ _ h' s.toks (by simp [hi]) ⟨hit', s2.extBut hs'.extBut hne, o, vs, hs'.extBut x1 o hx s3, s4⟩ fun b o hb e => hs'.extBut b o (fun h => hb (by simp [h])) e
  done := fun s Q E ⟨s1, s2, o, vs, s3, s4⟩ hQ => list_end_hot ⟨hh, o, vs, s3, s4⟩ hx s1 s2 (by simp) fun h' he' => hQ h' s.toks fun b o hb e => he' b o (fun h => hb (by simp [h])) e
  self := fun _ _ _ _ st hQ => wpAny_pyIter_listiter st.1 hQ
theorem iter_hot {l x1 : Addr} {items : Array Value} {Q : Value → Shared → Prop} (ho : HotO s.heap x1) (hl : s.heap.IsList l items)
    (h : ∀ s₂ : Shared, s₂ = { s with heap := s.heap.push { cls := .type "list_iterator", data := .fields #[.ref l, .int 0 0] } } →
      (s₂.heap.IsListIter s.heap.objs.size l 0 ∧ s₂.heap.IsList l items ∧ HotO s₂.heap x1) → (∀ b ∈ [s.heap.objs.size, l, x1], b < s₂.heap.objs.size) → l ≠ s.heap.objs.size → x1 ≠ s.heap.objs.size → Q (.ref s.heap.objs.size) s₂) :
    wpAny (model prog w) A (pyIter (.ref l)) Q E s := by
  have hlt : l < s.heap.objs.size := by obtain ⟨_, e, _⟩ := hl; exact Heap.lt_size e
  obtain ⟨o, vs, h1, h2⟩ := ho
  have hxt := Heap.lt_size h1
  refine wpAny_pyIter_list hl (h _ rfl ⟨⟨_, Heap.get?_push_size _ rfl, rfl, rfl⟩, hl.push _, o, vs, Heap.get?_push_of_some _ h1, h2⟩ (fun b hb => ?_) (Nat.ne_of_lt hlt) (Nat.ne_of_lt hxt))
  show b < (s.heap.push _).objs.size
  rw [Heap.size_push]
  simp only [List.mem_cons, List.not_mem_nil, or_false] at hb
  rcases hb with rfl | rfl | rfl
  · exact Nat.lt_succ_self _
  · exact Nat.lt_succ_of_lt hlt
  · exact Nat.lt_succ_of_lt hxt
theorem sum_hot {l x1 : Addr} {its : List Value} {ns : List Int} {Q : Value → Shared → Prop} (hh : A.handled = some (.ref x1)) (ho : HotO s.heap x1) (hl : s.heap.IsList l its.toArray) (hi : IntsAre its ns)
    (h : ∀ h' tk t', (∀ b o, s.heap.get? b = some o → h'.get? b = some o) → Q (.int ns.sum t') { s with heap := h', toks := tk }) : wpAny (model prog w) A (call (.builtin "sum") [.ref l]) Q E s := by
  obtain ⟨xs, e⟩ := hi.allInts.items
  have hn : numsOf (intItems xs).toList = ns := by rw [← e]; exact hi.numsOf
  rw [nums_intItems] at hn
  rw [e] at hl
  refine call_sum_walkG (iter_hot ho hl fun s₂ e st hfp hlI hxI => ?_)
  subst e
  refine ⟨_, _, _, _, _, _, numAt xs, rfl, walksHot (A := A.in1) hh _ l hlI hxI (intItems xs), st, hfp, (fun _ _ => intItems_at), fun h' tk t' hk => ?_⟩
  have := h h' tk t' (old_kept hk)
  rw [show (intItems xs).size = xs.size by simp [intItems], preSum_eq, List.take_of_length_le (by simp), hn]
  exact this
theorem max_hot {l x1 : Addr} {its : List Value} {ns : List Int} {Q : Value → Shared → Prop} (hh : A.handled = some (.ref x1)) (ho : HotO s.heap x1) (hl : s.heap.IsList l its.toArray) (hi : IntsAre its ns) (hne : 0 < ns.length)
    (h : ∀ h' tk M t', (∀ b o, s.heap.get? b = some o → h'.get? b = some o) → M ∈ ns → (∀ a, a ∈ ns → a ≤ M) → Q (.int M t') { s with heap := h', toks := tk }) : wpAny (model prog w) A (call (.builtin "max") [.ref l]) Q E s := by
  obtain ⟨xs, e⟩ := hi.allInts.items
  have hn : numsOf (intItems xs).toList = ns := by rw [← e]; exact hi.numsOf
  rw [nums_intItems] at hn
  subst hn
  rw [e] at hl
  have hsz : 0 < xs.size := by simpa using hne
  refine call_max_walk (iter_hot ho hl fun s₂ e st hfp hlI hxI => ?_)
  subst e
  refine ⟨_, _, _, _, _, _, _, rfl, walksHot (A := A.in1) hh _ l hlI hxI (intItems xs), st, hfp, by simpa [intItems] using hsz, CmpOf.ints_gt (numAt xs) (fun _ _ => intItems_at), fun v h' tk hP hk => ?_⟩
  have hv : (intItems xs)[argBest (fun i j => decide (numAt xs i > numAt xs j)) (xs.size - 1)]? = some v := by simpa [intItems] using hP
  obtain ⟨t, rfl⟩ := intItems_at hv
  obtain ⟨h1, h2⟩ := argBest_gt (numAt xs) (xs.size - 1)
  refine h h' tk _ t (old_kept hk) ?_ fun a ha => ?_
  · rw [numAt_eq]; exact PySem.getD_mem (by rw [List.length_map, Array.length_toList]; omega)
  · obtain ⟨j, hj, rfl⟩ := mem_getD ha
    rw [List.length_map, Array.length_toList] at hj
    rw [← numAt_eq]; exact h2 j (by omega)
theorem unpack_hot {t x1 : Addr} {items : Array Value} {Q : List Value → Shared → Prop} (hh : A.handled = some (.ref x1)) (ho : HotO s.heap x1) (ht : IsTup s.heap t items)
    (hQ : ∀ h', Heap.ExtBut s.heap.objs.size s.heap h' → Q items.toList { s with heap := h' }) : wpAny (model prog w) A (unpackItems (.ref t) items.size none) Q E s := by
  have hlt : t ≠ s.heap.objs.size := by obtain ⟨o, ho, _⟩ := ht; exact Nat.ne_of_lt (Heap.lt_size ho)
  obtain ⟨o, vs, g1, g2⟩ := ho
  have hxt : x1 ≠ s.heap.objs.size := Nat.ne_of_lt (Heap.lt_size g1)
  unfold unpackItems
  refine wpAny_bind ?_
  · unfold notIterableAtAll
    refine wpAny_bind (wpAny_specialOf ht.typeIs slot_tuple_iter.lookup ?_)
    refine wpAny_pure ?_
    simp only [Bool.false_eq_true, if_false]
    refine wpAny_bind (wpAny_holding (iter_tuple ht ?_))
    refine wpAny_bind (wpAny_holding (draw_tuple hlt items.size 0 _ _ ⟨_, Heap.get?_push_size _ rfl, rfl, rfl⟩ (ht.push _) (by omega) fun h₁ hit₁ hs₁ => ?_))
    have hall : List.take items.size (List.drop 0 items.toList) = items.toList := by
      rw [List.drop_zero]; exact List.take_of_length_le (by simp)
    rw [hall]
    rw [if_neg (by simp)]
    have ht₁ : IsTup h₁ t items := (ht.push _).extBut hs₁.extBut hlt
    refine wpAny_bind (wpAny_holding (tup_end_hot ⟨hh, o, vs, hs₁.extBut x1 o hxt (Heap.get?_push_of_some _ g1), g2⟩ hxt hit₁ ht₁ (by simp) fun h₂ he₂ => ?_))
    simp only [Option.isSome_none, Bool.false_eq_true, if_false]
    refine wpAny_pure (hQ h₂ fun b o hb e => he₂ b o hb (hs₁.extBut b o hb (Heap.get?_push_of_some _ e)))
end
section
variable {X : Cx}
theorem hotO {pins : List (Addr × Obj)} {σ : L2.St} {H : Hp} {s : Shared} (c : L2H.HotC X) (I : Inv X pins σ H s) : ∃ x1, X.A.handled = some (.ref x1) ∧ HotO s.heap x1 := by
  obtain ⟨x1, hh, h⟩ := c.at I
  exact ⟨x1, hh, h⟩
theorem cr_sumH (c : L2H.HotC X) : CallR X (.builtin "sum") (rSum X.K) := by
  intro pins s σ H vs us Q I r h
  obtain ⟨a, ns, rfl, hs, q⟩ := h
  obtain ⟨its, rv, hl, _⟩ := I.list hs
  obtain ⟨x1, hh, ho⟩ := hotO c I
  rw [Vals.ref1 r]
  exact sum_hot hh ho hl.isList rv.ints fun h' tk t' hk => ⟨.int _, H, I.kept hk, ⟨_, rfl⟩, q⟩
theorem cr_maxH (c : L2H.HotC X) : CallR X (.builtin "max") (rMax X.K) := by
  intro pins s σ H vs us Q I r h
  obtain ⟨a, ns, rfl, hs, hne, q⟩ := h
  obtain ⟨its, rv, hl, _⟩ := I.list hs
  obtain ⟨x1, hh, ho⟩ := hotO c I
  rw [Vals.ref1 r]
  exact max_hot hh ho hl.isList rv.ints hne fun h' tk m t' hk h1 h2 => ⟨.int _, H, I.kept hk, ⟨_, rfl⟩, q m h1 h2⟩
theorem pg_tupH {es : List Expr} {k : Nat} {t : TGs} {n : Nat} {pos : Pos} (c : L2H.HotC X) (h : PGs X es t)
    (hn : (assignEach es X.env).length = n := by rfl) (hst : (assignEach es X.env).findIdx? (·.1) = none := by rfl) : PG X (.Tuple es k pos) (gTup X.K n t) := by
  refine ⟨fun pins s σ H v u Q I r hw => ?_⟩
  obtain ⟨a, xs, e1, hq, hl, hw⟩ := hw
  subst e1
  cases r
  obtain ⟨its, rv, ht, hz⟩ := I.tuple hq
  obtain ⟨x1, hh, ho⟩ := hotO c I
  have hsz : (assignEach es X.env).length = its.toArray.size := by simp [hn, ← hl, rv.length]
  rw [assign_Tuple]
  refine wpAny_bind (wpAny_standAt ?_)
  unfold unpack
  rw [hsz, hst]
  refine wpAny_bind (wpAny_holding (unpack_hot hh ho ht fun h' hx => ?_))
  have I1 : Inv X pins σ H { s with heap := h' } := I.kept (t' := s.toks) fun b o e => hx b o (Nat.ne_of_lt (Heap.lt_size e)) e
  exact h.run pins _ σ H xs _ Q I1 (by simpa using rv) hw
end
/-! defs that are called there and raise nothing -/
structure DefH (P : Program) (w : World) (K : PySem.W.Frag) (mg : Str → Option Value) (base : Heap) (CX : CXT) (k : Nat) (x : Str) (ps : List Str) (sp : Sp) : Prop where
  ex : ∃ f fd, L2H.FnH P w K mg base CX k f fd ps sp ∧ mg x = some (.ref f) ∧ PySem.W.keepIn K (.ref f) = true ∧ Binds K fd ps []
structure MDefH (P : Program) (w : World) (K : PySem.W.Frag) (mg : Str → Option Value) (base : Heap) (CX : CXT) (k : Nat) (C : Addr) (m : Str) (ps : List Str) (sp : Sp) : Prop where
  ex : ∃ f fd, L2H.FnH P w K mg base CX k f fd ps sp ∧ Meth K C m f ∧ Binds K fd ps []
section
variable {P : Program} {w : World} {K : PySem.W.Frag} {mg : Str → Option Value} {base : Heap} {CX : CXT}
theorem _root_.RD.FunAt.okH {x : Str} {st : Stmt} {N ps : List Str} {k : Nat} {sp : Sp} (F : FunAt K mg x st ps) (S : FnScope N ps (defScope st)) (len : ∀ vs H Q E, sp vs H Q E → vs.length = ps.length)
    (hbody : ∀ (f : Addr) (cdv : Value) (A : Around) (outer : List Env) (s : Shared) (H : Hp) (vs : List V) (Q : VK) (E : XK) (p : Addr × Obj), L2H.HotC (L2H.cxH CX P w K mg base N x (defScope st) f cdv A outer s H E p) → L2H.RoomH k (A.deeper (envOfC x (defScope st) s.heap.objs.size f cdv)) → sp vs H Q E →
      ∃ t, PSs (L2H.cxH CX P w K mg base N x (defScope st) f cdv A outer s H E p) (defBody st) t ∧ t { nx := fun _ H' => Q .non H', rt := Q } (start N vs) H) : DefH P w K mg base CX (k + 1) x ps sp := by
  obtain ⟨f, fd, F, hm, hbd⟩ := F.ex
  have kp := F.kp
  obtain ⟨oc, od, kV, doc, pm, an, cdv, ct, osl, rfl, lk, hcd⟩ := F.ex
  exact ⟨f, _, L2H.fn_ofH lk hcd S len fun A outer s H vs Q E p hot hr hsp => hbody f cdv A outer s H vs Q E p ⟨p, hot, List.mem_singleton.mpr rfl⟩ hr hsp, hm, kp, hbd⟩
theorem _root_.RD.MethAt.okH {C : Addr} {m qn : Str} {st : Stmt} {N ps : List Str} {k : Nat} {sp : Sp} (F : MethAt K C m qn st ps) (S : FnScope N ps (defScope st)) (len : ∀ vs H Q E, sp vs H Q E → vs.length = ps.length)
    (hbody : ∀ (f : Addr) (cdv : Value) (A : Around) (outer : List Env) (s : Shared) (H : Hp) (vs : List V) (Q : VK) (E : XK) (p : Addr × Obj), L2H.HotC (L2H.cxH CX P w K mg base N qn (defScope st) f cdv A outer s H E p) → L2H.RoomH k (A.deeper (envOfC qn (defScope st) s.heap.objs.size f cdv)) → sp vs H Q E →
      ∃ t, PSs (L2H.cxH CX P w K mg base N qn (defScope st) f cdv A outer s H E p) (defBody st) t ∧ t { nx := fun _ H' => Q .non H', rt := Q } (start N vs) H) : MDefH P w K mg base CX (k + 1) C m ps sp := by
  obtain ⟨f, fd, F, hm, hb⟩ := F.ex
  obtain ⟨oc, od, kV, doc, pm, an, cdv, ct, osl, rfl, lk, hcd⟩ := F.ex
  exact ⟨f, _, L2H.fn_ofH lk hcd S len fun A outer s H vs Q E p hot hr hsp => hbody f cdv A outer s H vs Q E p ⟨p, hot, List.mem_singleton.mpr rfl⟩ hr hsp, hm, hb⟩
end
section
variable {X : Cx} {k : Nat} {ps : List Str} {sp : Sp} {x m : Str} {p pos apos : Pos} {C : Addr} {e o : Expr} {es : List Expr} {ta : TE} {t : TA}
theorem pe_callH0 (G : DefH X.prog X.w X.K X.mg X.base CX0 k x ps sp) (hr : L2H.RoomH k X.A) (c : L2H.HotC X) (ha : PA X (e :: es) t) (hg : Gl X x := by rfl)
    (hdb : (x == ("__debug__" : Str)) = false := by decide) (he : starEach (e :: es) X.env = (false, eval e X.env) :: starEach es X.env := by rfl) (hpl : (backTo pos (starEach es X.env)).any (·.1) = false := by rfl) : PE X (.Call (.Name x p) (e :: es) [] pos) (tCall sp [] E0 t) := by
  obtain ⟨f, fd, F, hm, hk, hb⟩ := G.ex
  refine ⟨fun pins s σ H Q I h => ?_⟩
  exact (L2H.pe_callH (E := fun _ => E0) F hr c hg hm hk hb (fun _ _ _ _ _ _ _ z => False.elim z) ha hdb he hpl).run pins s σ H Q I (by
    show t σ H _
    have h2 : t σ H fun vs H1 => sp (vs ++ []) H1 Q E0 := h
    simpa only [List.append_nil] using h2)
theorem pe_methH0 {pl : Sem Bool} (he : PE X o ta) (c : Cls X.K C) (G : MDefH X.prog X.w X.K X.mg X.base CX0 k C m ps sp) (hr : L2H.RoomH k X.A) (hc : L2H.HotC X) (ha : PA X (e :: es) t)
    (hst : starEach (e :: es) X.env = (false, eval e X.env) :: starEach es X.env := by rfl) (hpl : (backTo pos (starEach es X.env)).any (·.1) = false := by rfl)
    (ht : eval (.Call (.Attribute o m apos) (e :: es) [] pos) X.env = (do
      let ov ← eval o X.env
      standAt apos.atName
      let (f, first) ← holding [ov] (getMethod ov m pl)
      callWith pos f first (backTo pos (starEach (e :: es) X.env)) (backToKw pos (keywordEach [] X.env))) := by rfl) :
    PE X (.Call (.Attribute o m apos) (e :: es) [] pos) (tMeth C m sp [] E0 ta t) := by
  obtain ⟨f, fd, F, M, hb⟩ := G.ex
  refine ⟨fun pins s σ H Q I h => ?_⟩
  refine (L2H.pe_methH (E := fun _ => E0) (pl := pl) he c M F hr hc hb (fun _ _ _ _ _ _ _ z => False.elim z) ha hst hpl ht).run pins s σ H Q I ?_
  have h2 : ta σ H fun x H1 => ∃ a dx fs, x = .ref a ∧ H1 a = some (.ins C dx fs) ∧ fs.lookup m = none ∧ t σ H1 fun vs H2 => sp (x :: (vs ++ [])) H2 Q E0 := h
  show ta σ H _
  simpa only [List.append_nil] using h2
end

def topS (i : Nat) : Stmt := PySem.Challenge.pw_tessera_k42_nodes_that_are_needed.main.body.getD i (.Pass ⟨0, 0, 0, 0⟩)
abbrev s__wall : Stmt := topS 0
abbrev N__wall : List Str := ["k"]
theorem sc__wall : FnScope N__wall ["k"] (defScope s__wall) := ⟨rfl, rfl, rfl, by decide +kernel, rfl, by decide +kernel, by decide +kernel⟩
abbrev s_told : Stmt := topS 3
abbrev N_told : List Str := ["thing"]
theorem sc_told : FnScope N_told ["thing"] (defScope s_told) := ⟨rfl, rfl, rfl, by decide +kernel, rfl, by decide +kernel, by decide +kernel⟩
abbrev s_write_number : Stmt := topS 12
abbrev N_write_number : List Str := ["number", "written", "rest"]
theorem sc_write_number : FnScope N_write_number ["number"] (defScope s_write_number) := ⟨rfl, rfl, rfl, by decide +kernel, rfl, by decide +kernel, by decide +kernel⟩
abbrev s_write_integer : Stmt := topS 13
abbrev N_write_integer : List Str := ["number"]
theorem sc_write_integer : FnScope N_write_integer ["number"] (defScope s_write_integer) := ⟨rfl, rfl, rfl, by decide +kernel, rfl, by decide +kernel, by decide +kernel⟩
abbrev s_write_integers : Stmt := topS 14
abbrev N_write_integers : List Str := ["numbers", "written", "number"]
theorem sc_write_integers : FnScope N_write_integers ["numbers"] (defScope s_write_integers) := ⟨rfl, rfl, rfl, by decide +kernel, rfl, by decide +kernel, by decide +kernel⟩
abbrev s_read_number : Stmt := topS 15
abbrev N_read_number : List Str := ["values", "index", "number", "weight", "at", "byte"]
theorem sc_read_number : FnScope N_read_number ["values", "index"] (defScope s_read_number) := ⟨rfl, rfl, rfl, by decide +kernel, rfl, by decide +kernel, by decide +kernel⟩
abbrev s_read_integer : Stmt := topS 16
abbrev N_read_integer : List Str := ["values", "index", "number", "behind"]
theorem sc_read_integer : FnScope N_read_integer ["values", "index"] (defScope s_read_integer) := ⟨rfl, rfl, rfl, by decide +kernel, rfl, by decide +kernel, by decide +kernel⟩
abbrev s_read_list : Stmt := topS 17
abbrev N_read_list : List Str := ["values", "index", "read_one", "count", "behind", "found", "thing"]
theorem sc_read_list : FnScope N_read_list ["values", "index", "read_one"] (defScope s_read_list) := ⟨rfl, rfl, rfl, by decide +kernel, rfl, by decide +kernel, by decide +kernel⟩
abbrev s_read_integers : Stmt := topS 18
abbrev N_read_integers : List Str := ["values", "index"]
theorem sc_read_integers : FnScope N_read_integers ["values", "index"] (defScope s_read_integers) := ⟨rfl, rfl, rfl, by decide +kernel, rfl, by decide +kernel, by decide +kernel⟩
abbrev s_check_of : Stmt := topS 19
abbrev N_check_of : List Str := ["values", "rest"]
theorem sc_check_of : FnScope N_check_of ["values"] (defScope s_check_of) := ⟨rfl, rfl, rfl, by decide +kernel, rfl, by decide +kernel, by decide +kernel⟩
abbrev s_make_record : Stmt := topS 25
abbrev N_make_record : List Str := ["kind", "content", "checked"]
theorem sc_make_record : FnScope N_make_record ["kind", "content"] (defScope s_make_record) := ⟨rfl, rfl, rfl, by decide +kernel, rfl, by decide +kernel, by decide +kernel⟩
abbrev s_is_whole : Stmt := topS 26
abbrev N_is_whole : List Str := ["found", "kind"]
theorem sc_is_whole : FnScope N_is_whole ["found", "kind"] (defScope s_is_whole) := ⟨rfl, rfl, rfl, by decide +kernel, rfl, by decide +kernel, by decide +kernel⟩
abbrev s_content_of : Stmt := topS 27
abbrev N_content_of : List Str := ["found", "kind", "pointer", "address", "length"]
theorem sc_content_of : FnScope N_content_of ["found", "kind", "pointer"] (defScope s_content_of) := ⟨rfl, rfl, rfl, by decide +kernel, rfl, by decide +kernel, by decide +kernel⟩
abbrev s_find : Stmt := topS 31
abbrev N_find : List Str := ["log", "root", "key", "_", "pairs", "other", "pointer"]
theorem sc_find : FnScope N_find ["log", "root", "key"] (defScope s_find) := ⟨rfl, rfl, rfl, by decide +kernel, rfl, by decide +kernel, by decide +kernel⟩
abbrev s_put : Stmt := topS 32
abbrev N_put : List Str := ["log", "root", "key", "pointer", "way", "pairs", "made", "above", "at"]
theorem sc_put : FnScope N_put ["log", "root", "key", "pointer"] (defScope s_put) := ⟨rfl, rfl, rfl, by decide +kernel, rfl, by decide +kernel, by decide +kernel⟩
abbrev s_node_pointers : Stmt := topS 33
abbrev N_node_pointers : List Str := ["log", "root", "found", "kind", "pairs", "_", "pointer"]
theorem sc_node_pointers : FnScope N_node_pointers ["log", "root"] (defScope s_node_pointers) := ⟨rfl, rfl, rfl, by decide +kernel, rfl, by decide +kernel, by decide +kernel⟩
abbrev s_way_to : Stmt := topS 34
abbrev N_way_to : List Str := ["log", "root", "key", "way", "kind", "pairs", "at"]
theorem sc_way_to : FnScope N_way_to ["log", "root", "key"] (defScope s_way_to) := ⟨rfl, rfl, rfl, by decide +kernel, rfl, by decide +kernel, by decide +kernel⟩
abbrev s_place_below : Stmt := topS 35
abbrev N_place_below : List Str := ["pairs", "key", "at"]
theorem sc_place_below : FnScope N_place_below ["pairs", "key"] (defScope s_place_below) := ⟨rfl, rfl, rfl, by decide +kernel, rfl, by decide +kernel, by decide +kernel⟩
abbrev s_with_pair : Stmt := topS 36
abbrev N_with_pair : List Str := ["pairs", "key", "pointer", "before", "pair", "behind"]
theorem sc_with_pair : FnScope N_with_pair ["pairs", "key", "pointer"] (defScope s_with_pair) := ⟨rfl, rfl, rfl, by decide +kernel, rfl, by decide +kernel, by decide +kernel⟩
abbrev s_put_nodes : Stmt := topS 37
abbrev N_put_nodes : List Str := ["log", "kind", "pairs", "parts", "part"]
theorem sc_put_nodes : FnScope N_put_nodes ["log", "kind", "pairs"] (defScope s_put_nodes) := ⟨rfl, rfl, rfl, by decide +kernel, rfl, by decide +kernel, by decide +kernel⟩
abbrev s_write_node : Stmt := topS 38
abbrev N_write_node : List Str := ["pairs", "content", "key", "address", "length"]
theorem sc_write_node : FnScope N_write_node ["pairs"] (defScope s_write_node) := ⟨rfl, rfl, rfl, by decide +kernel, rfl, by decide +kernel, by decide +kernel⟩
abbrev s_read_node : Stmt := topS 39
abbrev N_read_node : List Str := ["log", "pointer", "kind", "content"]
theorem sc_read_node : FnScope N_read_node ["log", "pointer"] (defScope s_read_node) := ⟨rfl, rfl, rfl, by decide +kernel, rfl, by decide +kernel, by decide +kernel⟩
abbrev s_pairs_in : Stmt := topS 40
abbrev N_pairs_in : List Str := ["content", "pointer", "address", "length", "pairs", "behind"]
theorem sc_pairs_in : FnScope N_pairs_in ["content", "pointer"] (defScope s_pairs_in) := ⟨rfl, rfl, rfl, by decide +kernel, rfl, by decide +kernel, by decide +kernel⟩
abbrev s_read_pair : Stmt := topS 41
abbrev N_read_pair : List Str := ["content", "index", "key", "behind", "address", "length"]
theorem sc_read_pair : FnScope N_read_pair ["content", "index"] (defScope s_read_pair) := ⟨rfl, rfl, rfl, by decide +kernel, rfl, by decide +kernel, by decide +kernel⟩
abbrev s_write_eight : Stmt := topS 50
abbrev N_write_eight : List Str := ["number", "digits", "rest", "_"]
theorem sc_write_eight : FnScope N_write_eight ["number"] (defScope s_write_eight) := ⟨rfl, rfl, rfl, by decide +kernel, rfl, by decide +kernel, by decide +kernel⟩
abbrev s_read_eight : Stmt := topS 51
abbrev N_read_eight : List Str := ["digits", "number", "digit"]
theorem sc_read_eight : FnScope N_read_eight ["digits"] (defScope s_read_eight) := ⟨rfl, rfl, rfl, by decide +kernel, rfl, by decide +kernel, by decide +kernel⟩
abbrev s_make_seal : Stmt := topS 52
abbrev N_make_seal : List Str := ["batch", "root", "address", "length", "told"]
theorem sc_make_seal : FnScope N_make_seal ["batch", "root"] (defScope s_make_seal) := ⟨rfl, rfl, rfl, by decide +kernel, rfl, by decide +kernel, by decide +kernel⟩
abbrev s_is_whole_seal : Stmt := topS 53
abbrev N_is_whole_seal : List Str := ["found"]
theorem sc_is_whole_seal : FnScope N_is_whole_seal ["found"] (defScope s_is_whole_seal) := ⟨rfl, rfl, rfl, by decide +kernel, rfl, by decide +kernel, by decide +kernel⟩
abbrev s_seal_at : Stmt := topS 54
abbrev N_seal_at : List Str := ["disk", "address", "found"]
theorem sc_seal_at : FnScope N_seal_at ["disk", "address"] (defScope s_seal_at) := ⟨rfl, rfl, rfl, by decide +kernel, rfl, by decide +kernel, by decide +kernel⟩
abbrev s__law_cell : Stmt := topS 58
abbrev N__law_cell : List Str := ["script", "k"]
theorem sc__law_cell : FnScope N__law_cell ["script", "k"] (defScope s__law_cell) := ⟨rfl, rfl, rfl, by decide +kernel, rfl, by decide +kernel, by decide +kernel⟩
abbrev s__law_draws : Stmt := topS 59
abbrev N__law_draws : List Str := ["cell", "count", "rows", "left", "k", "mixed"]
theorem sc__law_draws : FnScope N__law_draws ["cell", "count"] (defScope s__law_draws) := ⟨rfl, rfl, rfl, by decide +kernel, rfl, by decide +kernel, by decide +kernel⟩
abbrev s__law_contents : Stmt := topS 60
abbrev N__law_contents : List Str := ["disk"]
theorem sc__law_contents : FnScope N__law_contents ["disk"] (defScope s__law_contents) := ⟨rfl, rfl, rfl, by decide +kernel, rfl, by decide +kernel, by decide +kernel⟩
abbrev s__law_read_number : Stmt := topS 61
abbrev N__law_read_number : List Str := ["values", "at", "number", "scale", "k", "value"]
theorem sc__law_read_number : FnScope N__law_read_number ["values", "at"] (defScope s__law_read_number) := ⟨rfl, rfl, rfl, by decide +kernel, rfl, by decide +kernel, by decide +kernel⟩
abbrev s__law_node : Stmt := topS 62
abbrev N__law_node : List Str := ["content", "count", "at", "rows", "k", "many", "key", "j", "number", "address", "length"]
theorem sc__law_node : FnScope N__law_node ["content"] (defScope s__law_node) := ⟨rfl, rfl, rfl, by decide +kernel, rfl, by decide +kernel, by decide +kernel⟩
abbrev s__law_node_at : Stmt := topS 63
abbrev N__law_node_at : List Str := ["log", "pointer", "content", "leaf", "rows", "at"]
theorem sc__law_node_at : FnScope N__law_node_at ["log", "pointer"] (defScope s__law_node_at) := ⟨rfl, rfl, rfl, by decide +kernel, rfl, by decide +kernel, by decide +kernel⟩
abbrev s__law_told : Stmt := topS 64
abbrev N__law_told : List Str := ["log", "root", "key", "e"]
theorem sc__law_told : FnScope N__law_told ["log", "root", "key"] (defScope s__law_told) := ⟨rfl, rfl, rfl, by decide +kernel, rfl, by decide +kernel, by decide +kernel⟩
abbrev s_law : Stmt := topS 65
abbrev N_law : List Str := ["script", "draws", "disk", "log", "root", "table", "k", "key", "above", "order", "waiting", "pointer", "leaf", "rows", "below", "row", "child", "bad", "at", "whole", "clean", "way", "met", "level", "due"]
theorem sc_law : FnScope N_law ["script"] (defScope s_law) := ⟨rfl, rfl, rfl, by decide +kernel, rfl, by decide +kernel, by decide +kernel⟩
abbrev s_Unreadable___init__ : Stmt := inClass (topS 5) 0
abbrev N_Unreadable___init__ : List Str := ["self", "index", "__class__"]
abbrev s_Damaged___init__ : Stmt := inClass (topS 6) 0
abbrev N_Damaged___init__ : List Str := ["self", "address", "length", "__class__"]
abbrev s_Disk___init__ : Stmt := inClass (topS 43) 0
abbrev N_Disk___init__ : List Str := ["self", "values"]
theorem sc_Disk___init__ : FnScope N_Disk___init__ ["self", "values"] (defScope s_Disk___init__) := ⟨rfl, rfl, rfl, by decide +kernel, rfl, by decide +kernel, by decide +kernel⟩
abbrev s_Disk___len__ : Stmt := inClass (topS 43) 1
abbrev N_Disk___len__ : List Str := ["self"]
theorem sc_Disk___len__ : FnScope N_Disk___len__ ["self"] (defScope s_Disk___len__) := ⟨rfl, rfl, rfl, by decide +kernel, rfl, by decide +kernel, by decide +kernel⟩
abbrev s_Disk_part : Stmt := inClass (topS 43) 2
abbrev N_Disk_part : List Str := ["self", "address", "count"]
theorem sc_Disk_part : FnScope N_Disk_part ["self", "address", "count"] (defScope s_Disk_part) := ⟨rfl, rfl, rfl, by decide +kernel, rfl, by decide +kernel, by decide +kernel⟩
abbrev s_Disk_append : Stmt := inClass (topS 43) 3
abbrev N_Disk_append : List Str := ["self", "values"]
theorem sc_Disk_append : FnScope N_Disk_append ["self", "values"] (defScope s_Disk_append) := ⟨rfl, rfl, rfl, by decide +kernel, rfl, by decide +kernel, by decide +kernel⟩
abbrev s_Disk_change : Stmt := inClass (topS 43) 5
abbrev N_Disk_change : List Str := ["self", "address", "value"]
theorem sc_Disk_change : FnScope N_Disk_change ["self", "address", "value"] (defScope s_Disk_change) := ⟨rfl, rfl, rfl, by decide +kernel, rfl, by decide +kernel, by decide +kernel⟩
abbrev s_Log___init__ : Stmt := inClass (topS 56) 0
abbrev N_Log___init__ : List Str := ["self", "disk", "last"]
theorem sc_Log___init__ : FnScope N_Log___init__ ["self", "disk"] (defScope s_Log___init__) := ⟨rfl, rfl, rfl, by decide +kernel, rfl, by decide +kernel, by decide +kernel⟩
abbrev s_Log_batch : Stmt := inClass (topS 56) 1
abbrev N_Log_batch : List Str := ["self"]
theorem sc_Log_batch : FnScope N_Log_batch ["self"] (defScope s_Log_batch) := ⟨rfl, rfl, rfl, by decide +kernel, rfl, by decide +kernel, by decide +kernel⟩
abbrev s_Log_put : Stmt := inClass (topS 56) 3
abbrev N_Log_put : List Str := ["self", "kind", "content", "record", "pointer"]
theorem sc_Log_put : FnScope N_Log_put ["self", "kind", "content"] (defScope s_Log_put) := ⟨rfl, rfl, rfl, by decide +kernel, rfl, by decide +kernel, by decide +kernel⟩
abbrev s_Log_fetch : Stmt := inClass (topS 56) 4
abbrev N_Log_fetch : List Str := ["self", "kind", "pointer", "address", "length", "start"]
theorem sc_Log_fetch : FnScope N_Log_fetch ["self", "kind", "pointer"] (defScope s_Log_fetch) := ⟨rfl, rfl, rfl, by decide +kernel, rfl, by decide +kernel, by decide +kernel⟩
abbrev s_Log_seal : Stmt := inClass (topS 56) 5
abbrev N_Log_seal : List Str := ["self", "root", "copy"]
theorem sc_Log_seal : FnScope N_Log_seal ["self", "root"] (defScope s_Log_seal) := ⟨rfl, rfl, rfl, by decide +kernel, rfl, by decide +kernel, by decide +kernel⟩
structure Errs (K : PySem.W.Frag) (mg : Str → Option Value) (C_TesseraError C_Unreadable C_Damaged : Addr) : Prop where
  c_TesseraError : ErrCls K mg C_TesseraError "TesseraError"
  c_Unreadable : ErrCls K mg C_Unreadable "Unreadable"
  c_Damaged : ErrCls K mg C_Damaged "Damaged"
  i_Unreadable : ErrIni K C_Unreadable "Unreadable.__init__" s_Unreadable___init__ ["self", "index"] ["index"]
  i_Damaged : ErrIni K C_Damaged "Damaged.__init__" s_Damaged___init__ ["self", "address", "length"] ["address", "length"]
  s_TesseraError_TesseraError : PySem.W.subIn K (.ref C_TesseraError) (.ref C_TesseraError) = some true
  s_TesseraError_Unreadable : PySem.W.subIn K (.ref C_TesseraError) (.ref C_Unreadable) = some false
  s_TesseraError_Damaged : PySem.W.subIn K (.ref C_TesseraError) (.ref C_Damaged) = some false
  s_Unreadable_TesseraError : PySem.W.subIn K (.ref C_Unreadable) (.ref C_TesseraError) = some true
  s_Unreadable_Unreadable : PySem.W.subIn K (.ref C_Unreadable) (.ref C_Unreadable) = some true
  s_Unreadable_Damaged : PySem.W.subIn K (.ref C_Unreadable) (.ref C_Damaged) = some false
  s_Damaged_TesseraError : PySem.W.subIn K (.ref C_Damaged) (.ref C_TesseraError) = some true
  s_Damaged_Unreadable : PySem.W.subIn K (.ref C_Damaged) (.ref C_Unreadable) = some false
  s_Damaged_Damaged : PySem.W.subIn K (.ref C_Damaged) (.ref C_Damaged) = some true
structure Cl_Disk (K : PySem.W.Frag) (mg : Str → Option Value) (C : Addr) : Prop where
  cl : Cls K C
  at_ : mg "Disk" = some (.ref C)
  a__file : NoAttr K C "_file"
  i_ : MkAt K C "Disk.__init__" s_Disk___init__ ["self", "values"]
  m___len__ : MethAt K C "__len__" "Disk.__len__" s_Disk___len__ ["self"]
  m_part : MethAt K C "part" "Disk.part" s_Disk_part ["self", "address", "count"]
  m_append : MethAt K C "append" "Disk.append" s_Disk_append ["self", "values"]
  m_change : MethAt K C "change" "Disk.change" s_Disk_change ["self", "address", "value"]
structure Cl_Log (K : PySem.W.Frag) (mg : Str → Option Value) (C : Addr) : Prop where
  cl : Cls K C
  at_ : mg "Log" = some (.ref C)
  a_disk : NoAttr K C "disk"
  a__waiting : NoAttr K C "_waiting"
  a__sealed : NoAttr K C "_sealed"
  i_ : MkAt K C "Log.__init__" s_Log___init__ ["self", "disk"]
  p_batch : PropAt K C "batch" "Log.batch" s_Log_batch ["self"]
  m_put : MethAt K C "put" "Log.put" s_Log_put ["self", "kind", "content"]
  m_fetch : MethAt K C "fetch" "Log.fetch" s_Log_fetch ["self", "kind", "pointer"]
  m_seal : MethAt K C "seal" "Log.seal" s_Log_seal ["self", "root"]
structure Top (K : PySem.W.Frag) (mg : Str → Option Value) : Prop where
  f_told : FunAt K mg "told" s_told ["thing"]
  f_write_number : FunAt K mg "write_number" s_write_number ["number"]
  f_write_integer : FunAt K mg "write_integer" s_write_integer ["number"]
  f_write_integers : FunAt K mg "write_integers" s_write_integers ["numbers"]
  f_read_number : FunAt K mg "read_number" s_read_number ["values", "index"]
  f_read_integer : FunAt K mg "read_integer" s_read_integer ["values", "index"]
  f_read_list : FunAt K mg "read_list" s_read_list ["values", "index", "read_one"]
  f_read_integers : FunAt K mg "read_integers" s_read_integers ["values", "index"]
  f_check_of : FunAt K mg "check_of" s_check_of ["values"]
  f_make_record : FunAt K mg "make_record" s_make_record ["kind", "content"]
  f_is_whole : FunAt K mg "is_whole" s_is_whole ["found", "kind"]
  f_content_of : FunAt K mg "content_of" s_content_of ["found", "kind", "pointer"]
  f_find : FunAt K mg "find" s_find ["log", "root", "key"]
  f_put : FunAt K mg "put" s_put ["log", "root", "key", "pointer"]
  f_node_pointers : FunAt K mg "node_pointers" s_node_pointers ["log", "root"]
  f_way_to : FunAt K mg "way_to" s_way_to ["log", "root", "key"]
  f_place_below : FunAt K mg "place_below" s_place_below ["pairs", "key"]
  f_with_pair : FunAt K mg "with_pair" s_with_pair ["pairs", "key", "pointer"]
  f_put_nodes : FunAt K mg "put_nodes" s_put_nodes ["log", "kind", "pairs"]
  f_write_node : FunAt K mg "write_node" s_write_node ["pairs"]
  f_read_node : FunAt K mg "read_node" s_read_node ["log", "pointer"]
  f_pairs_in : FunAt K mg "pairs_in" s_pairs_in ["content", "pointer"]
  f_read_pair : FunAt K mg "read_pair" s_read_pair ["content", "index"]
  f_write_eight : FunAt K mg "write_eight" s_write_eight ["number"]
  f_read_eight : FunAt K mg "read_eight" s_read_eight ["digits"]
  f_make_seal : FunAt K mg "make_seal" s_make_seal ["batch", "root"]
  f_is_whole_seal : FunAt K mg "is_whole_seal" s_is_whole_seal ["found"]
  f_seal_at : FunAt K mg "seal_at" s_seal_at ["disk", "address"]
  f__law_cell : FunAt K mg "_law_cell" s__law_cell ["script", "k"]
  f__law_draws : FunAt K mg "_law_draws" s__law_draws ["cell", "count"]
  f__law_contents : FunAt K mg "_law_contents" s__law_contents ["disk"]
  f__law_read_number : FunAt K mg "_law_read_number" s__law_read_number ["values", "at"]
  f__law_node : FunAt K mg "_law_node" s__law_node ["content"]
  f__law_node_at : FunAt K mg "_law_node_at" s__law_node_at ["log", "pointer"]
  f__law_told : FunAt K mg "_law_told" s__law_told ["log", "root", "key"]
  f_law : FunAt K mg "law" s_law ["script"]
  c_Disk : ∃ C, Cl_Disk K mg C
  c_Log : ∃ C, Cl_Log K mg C
  errs : ∃ C_TesseraError C_Unreadable C_Damaged, Errs K mg C_TesseraError C_Unreadable C_Damaged
  g_BASE : ∃ t, mg "BASE" = some (.int 125 t)
  g_BEYOND_TOLD : ∃ t, mg "BEYOND_TOLD" = some (.int 1000000000000000000000000000000 t)
  g_CHECK_BASE : ∃ t, mg "CHECK_BASE" = some (.int 250 t)
  g_CHECK_MODULUS : ∃ t, mg "CHECK_MODULUS" = some (.int 62500 t)
  g_FIRST_BYTE : ∃ t, mg "FIRST_BYTE" = some (.int 255 t)
  g_FIRST_OF_TWO : ∃ t, mg "FIRST_OF_TWO" = some (.int 5 t)
  g_HIGHEST_BYTE : ∃ t, mg "HIGHEST_BYTE" = some (.int 249 t)
  g_INNER : ∃ t, mg "INNER" = some (.int 2 t)
  g_LAST_BYTE : ∃ t, mg "LAST_BYTE" = some (.int 254 t)
  g_LEAF : ∃ t, mg "LEAF" = some (.int 1 t)
  g_MOST_PAIRS : ∃ t, mg "MOST_PAIRS" = some (.int 8 t)
  g_NOWHERE : ∃ a, mg "NOWHERE" = some (.ref a) ∧ ∀ H : Hp, SqT K H a [.int 0, .int 0]
  g_NUMBER_BASE : ∃ t, mg "NUMBER_BASE" = some (.int 250 t)
  g_NUMBER_LENGTH : ∃ t, mg "NUMBER_LENGTH" = some (.int 8 t)
  g_SEAL_LENGTH : ∃ t, mg "SEAL_LENGTH" = some (.int 28 t)
  g_SHORTEST_RECORD : ∃ t, mg "SHORTEST_RECORD" = some (.int 3 t)
  b_abs : mg "abs" = none
  b_int : mg "int" = none
  b_isinstance : mg "isinstance" = none
  b_len : mg "len" = none
  b_list : mg "list" = none
  b_max : mg "max" = none
  b_range : mg "range" = none
  b_reversed : mg "reversed" = none
  b_sorted : mg "sorted" = none
  b_str : mg "str" = none
  b_sum : mg "sum" = none
  b_super : mg "super" = none
  b_tuple : mg "tuple" = none
/-! ### the law's helpers -/
def Dr (ns : List Int) : Prop := ∀ x ∈ ns, 0 ≤ x ∧ x < 4096
theorem Dr.gi {ns : List Int} (d : Dr ns) {i : Int} (h0 : 0 ≤ i) (h1 : i < ns.length) : 0 ≤ gi ns i ∧ gi ns i < 4096 := d _ (gi_mem h0 h1)
theorem Dr.app {ns : List Int} (d : Dr ns) {x : Int} (h0 : 0 ≤ x) (h1 : x < 4096) : Dr (ns ++ [x]) := fun y hy => by
  rcases List.mem_append.mp hy with h | h
  · exact d y h
  · rw [List.mem_singleton.mp h]; exact ⟨h0, h1⟩
theorem Dr.app2 {ns ms : List Int} (d : Dr ns) (e : Dr ms) : Dr (ns ++ ms) := fun y hy => by
  rcases List.mem_append.mp hy with h | h
  · exact d y h
  · exact e y h
theorem Dr.take {ns : List Int} (d : Dr ns) (n : Nat) : Dr (ns.take n) := fun y hy => d y (List.mem_of_mem_take hy)
section
variable {P : Program} {w : World} {K : PySem.W.Frag} {mg : Str → Option Value} {base : Heap}
def sp_cell (K : PySem.W.Frag) : Sp := fun vs H Q _ => ∃ (a : Addr) (ns : List Int) (i : Int), vs = [.ref a, .int i] ∧ SqL K H a (ns.map V.int) ∧ 0 ≤ i ∧ Q (.int (gi ns i)) H
theorem d_cell (T : Top K mg) : Def P w K mg base CX0 1 "_law_cell" ["script", "k"] (sp_cell K) := by
  refine T.f__law_cell.ok sc__law_cell (by rintro vs H Q E ⟨a, ns, i, rfl, _⟩; rfl) (fun f cdv A outer s H vs Q E hr h => ?_)
  obtain ⟨a, ns, i, rfl, hS, h0, q⟩ := h
  refine ⟨_, (pss_cons (ps_if (pt_cmpR op_lt (pv 1) (pe_callB (r := Evl.rLenS K) call_len_seq (by rfl) T.b_len (by decide +kernel) (pa_cons (pv 0) pa_nil)) (nomark _)) (pss_one (ps_ret (pe_ix (r := rIxL K) ix_list (pv 0) (pv 1) (fun _ _ => rfl)))) pss_nil)
      (pss_one (ps_ret pe_int))), ?_⟩
  walk_at "rd"
  refine rif (fun h => ?_) fun h => ?_
  · walk_at "rd"
    rw [List.length_map] at h
    exact r_ixL hS (at_ints h0 h) q
  · walk_at "rd"
    rw [List.length_map] at h
    have e : gi ns i = 0 := by
      unfold gi
      rw [List.getD_eq_getElem?_getD, List.getElem?_eq_none (by omega)]
      rfl
    rw [e] at q
    exact q
def sp_draws : Sp := fun vs H Q _ => ∃ (c : Int) (n : Nat), vs = [.int c, .int n] ∧ n ≤ 1000 ∧ ∀ ns : List Int, ns.length = n → Dr ns → RetO H Q (.lst (ns.map V.int))
theorem d_draws (T : Top K mg) : Def P w K mg base CX0 1 "_law_draws" ["cell", "count"] sp_draws := by
  refine T.f__law_draws.ok sc__law_draws (by rintro vs H Q E ⟨c, n, rfl, _⟩; rfl) (fun f cdv A outer s H vs Q E hr h => ?_)
  obtain ⟨c, n, rfl, hn, q⟩ := h
  refine ⟨_, (pss_cons (ps_set (i := 2) sc__law_draws.nd rfl (Or.inl rfl) (pe_lst pa_nil))
      (pss_cons (ps_set (i := 3) sc__law_draws.nd rfl (Or.inl rfl) (pv 0))
      (pss_cons (ps_for PassesOwn.never rfl (pi_range1 (by rfl) T.b_range (pa_cons (pv 1) pa_nil)) (pg_name (i := 4) sc__law_draws.nd rfl (Or.inl rfl)) (pss_one (ps_if (pt_cutT (PW.pt (pw_and (pt_cmpR op_ge (pv 0) (pe_powC (c := 1000000000000000000) ⟨by decide, by decide, by decide⟩ (by decide +kernel)) (nomark _)) (pw_and1 (pt_cmpR op_gt (pv 3) pe_int (nomark _)))))) (pss_cons (ps_expr (pe_bm PySem.F.plainAttrs_list PySem.F.slot_list_append PySem.F.type_list_append mt_append (pv 2) (pa_cons (pe_op op_mod (pe_callTy (r := rInt1) call_int1 (by rfl) T.b_int (by decide +kernel) (pa_cons (pv 3) pa_nil)) pe_int) pa_nil)))
      (pss_one (ps_set (i := 3) sc__law_draws.nd rfl (Or.inl rfl) (pe_op op_fdiv (pv 3) pe_int)))) (pss_cons (ps_set (i := 5) sc__law_draws.nd rfl (Or.inl rfl) (pe_op op_mod (pe_callTy (r := rInt1) call_int1 (by rfl) T.b_int (by decide +kernel) (pa_cons (pe_op op_add (pe_op op_mul (pv 0) pe_int) (pe_op op_mul (pe_op op_add (pv 4) pe_int) pe_int)) pa_nil)) pe_int))
      (pss_cons (ps_set (i := 5) sc__law_draws.nd rfl (Or.inl rfl) (pe_op op_mod (pe_callTy (r := rInt1) call_int1 (by rfl) T.b_int (by decide +kernel) (pa_cons (pe_op op_add (pe_op op_add (pe_op op_mul (pv 5) (pv 5)) (pe_op op_mul (pv 5) pe_int)) (pe_op op_mul (pv 4) pe_int)) pa_nil)) pe_int))
      (pss_cons (ps_set (i := 5) sc__law_draws.nd rfl (Or.inl rfl) (pe_op op_mod (pe_callTy (r := rInt1) call_int1 (by rfl) T.b_int (by decide +kernel) (pa_cons (pe_op op_add (pe_op op_add (pe_op op_mul (pv 5) (pv 5)) (pv 0)) (pe_op op_mul pe_int (pv 4))) pa_nil)) pe_int))
      (pss_one (ps_expr (pe_bm PySem.F.plainAttrs_list PySem.F.slot_list_append PySem.F.type_list_append mt_append (pv 2) (pa_cons (pe_op op_mod (pe_op op_fdiv (pv 5) pe_int) pe_int) pa_nil))))))))))
      (pss_one (ps_ret (pv 2)))))), ?_⟩
  walk_at "rd"
  refine r_newL (Own.nil H) (Nat.zero_le _) fun l H1 o1 => ?_
  walk_at "rd"
  refine forR1 (n := n) rfl (by omega) (fun i σ H' => ∃ (left : Int) (v1 v2 : Option V) (ns : List Int), σ = [some (.int c), some (.int n), some (.ref l), some (.int left), v1, v2] ∧ ns.length = i ∧ Dr ns ∧ Own H H' [(l, .lst (ns.map V.int))])
    ⟨c, none, none, [], rfl, rfl, fun _ h => absurd h (by simp), o1⟩ ?_ ?_
  · rintro i σ H' hi ⟨left, v1, v2, ns, rfl, hl, hd, o⟩
    have hz : (ns.map V.int).length < 10000000 := by rw [List.length_map]; omega
    walk_at "rd"
    refine r_cutT (fun _ H2 => H2 = H') ?_ ?_
    · walk_at "rd"
      refine rif (fun h1 => ?_) fun h1 => ?_ <;> walk_at "rd" <;> rfl
    rintro b _ rfl
    refine rif_b (fun _ => ?_) fun _ => ?_ <;> walk_at "rd"
    · refine r_app o 0 rfl hz fun H2 o2 => ?_
      walk_at "rd"
      refine ⟨_, _, _, ns ++ [_], rfl, ?_, ?_, (by rw [List.map_append]; exact o2)⟩
      · rw [List.length_append]; simp [hl]
      · exact hd.app (by omega) (by omega)
    · refine r_app o 0 rfl hz fun H2 o2 => ?_
      refine ⟨_, _, _, ns ++ [_], rfl, ?_, ?_, (by rw [List.map_append]; exact o2)⟩
      · rw [List.length_append]; simp [hl]
      · exact hd.app (by omega) (by omega)
  · rintro σ H' ⟨left, v1, v2, ns, rfl, hl, hd, o⟩
    walk_at "rd"
    exact (q ns hl hd).mk o 0 rfl
def spLaw (K : PySem.W.Frag) : Sp := fun vs H Q _ => ∃ (a : Addr) (ss : List Int), vs = [.ref a] ∧ SqL K H a (ss.map V.int) ∧ ss.length ≤ 63 ∧ (∀ z ∈ ss, PySem.Builtin.Int.intBits z ≤ 1048576) ∧ ∀ H', Q (.bl true) H'
theorem law_in {a : Addr} {ss : List Int} {H : Hp} (hl : ss.length ≤ 63) (hb : ∀ z ∈ ss, PySem.Builtin.Int.intBits z ≤ 1048576) (hS : SqL K H a (ss.map V.int)) : spLaw K [.ref a] H (fun v _ => v = .bl true) fun _ _ _ => False :=
  ⟨a, ss, rfl, hS, hl, hb, fun _ => rfl⟩
end

section
variable {P : Program} {w : World} {K : PySem.W.Frag} {mg : Str → Option Value} {base : Heap}
def chk (ns : List Int) : List Int := [ns.sum % 62500 / 250, ns.sum % 62500 % 250]
def sp_check_of (K : PySem.W.Frag) : Sp := fun vs H Q _ => ∃ (a : Addr) (ns : List Int), vs = [.ref a] ∧ SqL K H a (ns.map V.int) ∧ RetO H Q (.lst ((chk ns).map V.int))
theorem d_check_of (T : Top K mg) : Def P w K mg base CX0 1 "check_of" ["values"] (sp_check_of K) := by
  obtain ⟨t1, g_CHECK_MODULUS⟩ := T.g_CHECK_MODULUS
  obtain ⟨t2, g_CHECK_BASE⟩ := T.g_CHECK_BASE
  refine T.f_check_of.ok sc_check_of (by rintro vs H Q E ⟨a, ns, rfl, _⟩; rfl) (fun f cdv A outer s H vs Q E hr h => ?_)
  obtain ⟨a, ns, rfl, hS, q⟩ := h
  refine ⟨_, (pss_cons (ps_set (i := 1) sc_check_of.nd rfl (Or.inl rfl) (pe_op op_mod (pe_callB (r := rSum K) (cr_sum rfl) (by rfl) T.b_sum (by decide +kernel) (pa_cons (pv 0) pa_nil)) (pe_glob (v := .int 62500) rfl g_CHECK_MODULUS ⟨_, rfl⟩)))
      (pss_one (ps_ret (pe_lst (pa_cons (pe_op op_fdiv (pv 1) (pe_glob (v := .int 250) rfl g_CHECK_BASE ⟨_, rfl⟩)) (pa_cons (pe_op op_mod (pv 1) (pe_glob (v := .int 250) rfl g_CHECK_BASE ⟨_, rfl⟩)) pa_nil)))))), ?_⟩
  walk_at "rd"
  refine r_newL (Own.nil H) (Nat.le_of_ble_eq_true rfl) fun l H1 o1 => ?_
  exact q.mk o1 0 rfl
end

/-! told: how a message tells an integer -/
theorem call_strIS {X : Cx} : CallR X (.type "str") (fun xs H Q => (∃ i, xs = [.int i] ∧ i.natAbs.log2 < 1920 ∧ Q (.str (toString i)) H) ∨ ∃ a, xs = [.str a] ∧ Q (.str a) H) := by
  intro pins s σ H xs us Q I r h
  rcases h with ⟨i, rfl, hz, q⟩ | ⟨a, rfl, q⟩
  · obtain ⟨u, rfl, t, rfl⟩ := vals1 r
    exact PySem.P.str_of_int hz ⟨.str _, H, I.tok _, ⟨_, rfl⟩, q⟩
  · obtain ⟨u, rfl, t, rfl⟩ := vals1 r
    exact PySem.P.str_of_str ⟨.str a, H, I, ⟨t, rfl⟩, q⟩
section
variable {P : Program} {w : World} {K : PySem.W.Frag} {mg : Str → Option Value} {base : Heap}
def sp_told : Sp := fun vs H Q _ => ∃ v : V, vs = [v] ∧ Tell v ∧ ∀ y : Str, y.length ≤ 1000000 → Q (.str y) H
theorem sp_told_t {v : V} (h : Tell v) (H : Hp) (Q : VK) (E : XK) (q : ∀ y : Str, y.length ≤ 1000000 → Q (.str y) H) : sp_told [v] H Q E := ⟨v, rfl, h, q⟩
theorem msg_len {i : Int} (h : i.natAbs.log2 < 1920) : (Str.ofString (toString i)).length ≤ 1000000 := by
  rw [PySem.ofString_length]
  exact Nat.le_trans (int_text_length_le (by decide) h) (by decide)
theorem d_told (T : Top K mg) : Def P w K mg base CX0 1 "told" ["thing"] sp_told := by
  obtain ⟨t1, g_BEYOND_TOLD⟩ := T.g_BEYOND_TOLD
  refine T.f_told.ok sc_told (by rintro vs H Q E ⟨i, rfl, _⟩; rfl) (fun f cdv A outer s H vs Q E hr h => ?_)
  obtain ⟨v, rfl, hv, q⟩ := h
  refine ⟨_, (pss_cons (ps_if (PW.pt (pw_and (pt_val (pe_callB (r := rIsi K) call_isi (by rfl) T.b_isinstance (by decide +kernel) (pa_cons (pv 0) (pa_cons (pe_bltn (v := .ty "int") (by rfl) T.b_int (by decide +kernel) rfl) pa_nil)))) (pw_and1 (pt_cmpR op_ge (pe_callB call_abs (by rfl) T.b_abs (by decide +kernel) (pa_cons (pv 0) pa_nil)) (pe_glob (v := .int 1000000000000000000000000000000) rfl g_BEYOND_TOLD ⟨_, rfl⟩) (nomark _))))) (pss_one (ps_ret pe_str)) pss_nil)
      (pss_one (ps_ret (pe_callTy call_strIS (by rfl) T.b_str (by decide +kernel) (pa_cons (pv 0) pa_nil))))), ?_⟩
  rcases hv with ⟨i, rfl, hi⟩ | ⟨y, rfl, hy⟩
  · walk_at "rd"
    refine ⟨i, rfl, ?_⟩
    walk_at "rd"
    refine rif (fun h1 => ?_) fun h1 => ?_
    · walk_at "rd"
      exact q _ (by decide)
    · walk_at "rd"
      exact .inl ⟨i, rfl, hi, q _ (msg_len hi)⟩
  · walk_at "rd"
    exact .inr ⟨y, rfl, q _ hy⟩
theorem w_told (T : Top K mg) : DefW P w K mg base 1 "told" ["thing"] sp_told := by
  obtain ⟨t1, g_BEYOND_TOLD⟩ := T.g_BEYOND_TOLD
  refine T.f_told.okW sc_told (by rintro vs H Q E ⟨i, rfl, _⟩; rfl) (fun f cdv A outer s H vs Q E hr h => ?_)
  obtain ⟨v, rfl, hv, q⟩ := h
  refine ⟨_, (pss_cons (ps_if (PW.pt (pw_and (pt_val (pe_callB (r := rIsi K) call_isi (by rfl) T.b_isinstance (by decide +kernel) (pa_cons (pv 0) (pa_cons (pe_bltn (v := .ty "int") (by rfl) T.b_int (by decide +kernel) rfl) pa_nil)))) (pw_and1 (pt_cmpR op_ge (pe_callB call_abs (by rfl) T.b_abs (by decide +kernel) (pa_cons (pv 0) pa_nil)) (pe_glob (v := .int 1000000000000000000000000000000) rfl g_BEYOND_TOLD ⟨_, rfl⟩) (nomark _))))) (pss_one (ps_ret pe_str)) pss_nil)
      (pss_one (ps_ret (pe_callTy call_strIS (by rfl) T.b_str (by decide +kernel) (pa_cons (pv 0) pa_nil))))), ?_⟩
  rcases hv with ⟨i, rfl, hi⟩ | ⟨y, rfl, hy⟩
  · walk_at "rd"
    refine ⟨i, rfl, ?_⟩
    walk_at "rd"
    refine rif (fun h1 => ?_) fun h1 => ?_
    · walk_at "rd"
      exact q _ (by decide)
    · walk_at "rd"
      exact .inl ⟨i, rfl, hi, q _ (msg_len hi)⟩
  · walk_at "rd"
    exact .inr ⟨y, rfl, q _ hy⟩
end

theorem ini_Damaged {P : Program} {w : World} {K : PySem.W.Frag} {mg : Str → Option Value} {base : Heap} {C : Addr} (hP : PrOk P) (hsup : mg "super" = none) (G_told : Def P w K mg base CX0 1 "told" ["thing"] sp_told) (A : ErrCls K mg C "Damaged") (I : ErrIni K C "Damaged.__init__" s_Damaged___init__ ["self", "address", "length"] ["address", "length"]) : EDef P w K mg base C "Damaged" ["self", "address", "length"] (sp_i2 C "address" "length") := by
  obtain ⟨fI, fd, S, iC, tI, hb⟩ := I.ini
  refine ⟨A.at_, I.sup.oex, fI, fd, ?_, iC, tI, hb⟩
  refine S.ok (N := N_Damaged___init__) (ps := ["self", "address", "length"]) (pl := fun _ => _) hP I.sup (NdefX.nscope_by (by decide +kernel)) hsup rfl rfl rfl rfl (fun _ => rfl) (fun _ => rfl) (fun _ => rfl) (by rintro vs H Q E ⟨a, v, u, rfl, _⟩; rfl) (fun cda cc A2 outer s H vs Q E hr h => ?_)
  obtain ⟨a, v, u, rfl, tv, tu, ha, q⟩ := h
  refine ⟨a, [v, u], _, _, rfl, ha, pe_joined (PJ.cons pe_str (PJ.cons (pe_fmt (pe_callD G_told (hr.mono (by decide)) (pa_cons (pv 2) pa_nil))) (PJ.cons pe_str (PJ.cons (pe_fmt (pe_callD G_told (hr.mono (by decide)) (pa_cons (pv 1) pa_nil))) (PJ.cons pe_str PJ.nil))))), (pss_cons (ps_ost (pv 0) (pv 1)) (pss_one (ps_ost (pv 0) (pv 2)))), ?_⟩
  refine js_ok (ps := [.c "the record of ", .t sp_told E0 2, .c " bytes at ", .t sp_told E0 1, .c " is damaged"]) (fun y => ⟨⟨_, rfl⟩, ha, ⟨v, rfl, .ref a, rfl, a, C, rfl, I.sup.oex, I.no _ List.mem_cons_self, .inl ⟨ha, fun dx h1 h2 => ⟨u, rfl, .ref a, rfl, a, C, rfl, I.sup.oex, I.no _ (List.mem_cons_of_mem _ List.mem_cons_self), .inr ⟨dx, [("address", v)], upd_same, (upd_ne h2).trans upd_same, Nat.le_of_ble_eq_true rfl, q dx h1 h2⟩⟩⟩⟩⟩) _ ?_ (by decide)
  intro p hp
  simp only [List.mem_cons, List.not_mem_nil, or_false] at hp
  rcases hp with rfl | rfl | rfl | rfl | rfl
  · show Str.length _ ≤ 1000; decide
  · exact ⟨u, rfl, fun H Q q => sp_told_t tu H Q E0 q⟩
  · show Str.length _ ≤ 1000; decide
  · exact ⟨v, rfl, fun H Q q => sp_told_t tv H Q E0 q⟩
  · show Str.length _ ≤ 1000; decide
theorem inih_Damaged {P : Program} {w : World} {K : PySem.W.Frag} {mg : Str → Option Value} {base : Heap} {C : Addr} (hP : PrOk P) (hsup : mg "super" = none) (W_told : DefW P w K mg base 1 "told" ["thing"] sp_told) (A : ErrCls K mg C "Damaged") (I : ErrIni K C "Damaged.__init__" s_Damaged___init__ ["self", "address", "length"] ["address", "length"]) : EDefH P w K mg base C "Damaged" ["self", "address", "length"] (sp_i2 C "address" "length") := by
  obtain ⟨fI, fd, S, iC, tI, hb⟩ := I.ini
  refine ⟨A.at_, I.sup.oex, fI, fd, ?_, iC, tI, hb⟩
  refine S.okH (N := N_Damaged___init__) (ps := ["self", "address", "length"]) (pl := fun _ => _) hP I.sup (NdefX.nscope_by (by decide +kernel)) hsup rfl rfl rfl rfl (fun _ => rfl) (fun _ => rfl) (fun _ => rfl) (by rintro vs H Q E ⟨a, v, u, rfl, _⟩; rfl) (fun cda cc A2 outer s H vs Q E pp hr h => ?_)
  obtain ⟨a, v, u, rfl, tv, tu, ha, q⟩ := h
  refine ⟨a, [v, u], _, _, rfl, ha, pe_joined (PJ.cons pe_str (PJ.cons (pe_fmt (pe_callW W_told (hr.mono (by decide)) (pa_cons (pv 2) pa_nil))) (PJ.cons pe_str (PJ.cons (pe_fmt (pe_callW W_told (hr.mono (by decide)) (pa_cons (pv 1) pa_nil))) (PJ.cons pe_str PJ.nil))))), (pss_cons (ps_ost (pv 0) (pv 1)) (pss_one (ps_ost (pv 0) (pv 2)))), ?_⟩
  refine js_ok (ps := [.c "the record of ", .t sp_told E0 2, .c " bytes at ", .t sp_told E0 1, .c " is damaged"]) (fun y => ⟨⟨_, rfl⟩, ha, ⟨v, rfl, .ref a, rfl, a, C, rfl, I.sup.oex, I.no _ List.mem_cons_self, .inl ⟨ha, fun dx h1 h2 => ⟨u, rfl, .ref a, rfl, a, C, rfl, I.sup.oex, I.no _ (List.mem_cons_of_mem _ List.mem_cons_self), .inr ⟨dx, [("address", v)], upd_same, (upd_ne h2).trans upd_same, Nat.le_of_ble_eq_true rfl, q dx h1 h2⟩⟩⟩⟩⟩) _ ?_ (by decide)
  intro p hp
  simp only [List.mem_cons, List.not_mem_nil, or_false] at hp
  rcases hp with rfl | rfl | rfl | rfl | rfl
  · show Str.length _ ≤ 1000; decide
  · exact ⟨u, rfl, fun H Q q => sp_told_t tu H Q E0 q⟩
  · show Str.length _ ≤ 1000; decide
  · exact ⟨v, rfl, fun H Q q => sp_told_t tv H Q E0 q⟩
  · show Str.length _ ≤ 1000; decide
theorem ini_Unreadable {P : Program} {w : World} {K : PySem.W.Frag} {mg : Str → Option Value} {base : Heap} {C : Addr} (hP : PrOk P) (hsup : mg "super" = none) (G_told : Def P w K mg base CX0 1 "told" ["thing"] sp_told) (A : ErrCls K mg C "Unreadable") (I : ErrIni K C "Unreadable.__init__" s_Unreadable___init__ ["self", "index"] ["index"]) : EDef P w K mg base C "Unreadable" ["self", "index"] (sp_i1 C "index") := by
  obtain ⟨fI, fd, S, iC, tI, hb⟩ := I.ini
  refine ⟨A.at_, I.sup.oex, fI, fd, ?_, iC, tI, hb⟩
  refine S.ok (N := N_Unreadable___init__) (ps := ["self", "index"]) (pl := fun _ => _) hP I.sup (NdefX.nscope_by (by decide +kernel)) hsup rfl rfl rfl rfl (fun _ => rfl) (fun _ => rfl) (fun _ => rfl) (by rintro vs H Q E ⟨a, v, rfl, _⟩; rfl) (fun cda cc A2 outer s H vs Q E hr h => ?_)
  obtain ⟨a, v, rfl, tv, ha, q⟩ := h
  refine ⟨a, [v], _, _, rfl, ha, pe_joined (PJ.cons pe_str (PJ.cons (pe_fmt (pe_callD G_told (hr.mono (by decide)) (pa_cons (pv 1) pa_nil))) PJ.nil)), (pss_one (ps_ost (pv 0) (pv 1))), ?_⟩
  refine js_ok (ps := [.c "nothing of this form can be read at index ", .t sp_told E0 1]) (fun y => ⟨⟨_, rfl⟩, ha, ⟨v, rfl, .ref a, rfl, a, C, rfl, I.sup.oex, I.no _ List.mem_cons_self, .inl ⟨ha, fun dx h1 h2 => q dx h1 h2⟩⟩⟩) _ ?_ (by decide)
  intro p hp
  simp only [List.mem_cons, List.not_mem_nil, or_false] at hp
  rcases hp with rfl | rfl
  · show Str.length _ ≤ 1000; decide
  · exact ⟨v, rfl, fun H Q q => sp_told_t tv H Q E0 q⟩
theorem inih_Unreadable {P : Program} {w : World} {K : PySem.W.Frag} {mg : Str → Option Value} {base : Heap} {C : Addr} (hP : PrOk P) (hsup : mg "super" = none) (W_told : DefW P w K mg base 1 "told" ["thing"] sp_told) (A : ErrCls K mg C "Unreadable") (I : ErrIni K C "Unreadable.__init__" s_Unreadable___init__ ["self", "index"] ["index"]) : EDefH P w K mg base C "Unreadable" ["self", "index"] (sp_i1 C "index") := by
  obtain ⟨fI, fd, S, iC, tI, hb⟩ := I.ini
  refine ⟨A.at_, I.sup.oex, fI, fd, ?_, iC, tI, hb⟩
  refine S.okH (N := N_Unreadable___init__) (ps := ["self", "index"]) (pl := fun _ => _) hP I.sup (NdefX.nscope_by (by decide +kernel)) hsup rfl rfl rfl rfl (fun _ => rfl) (fun _ => rfl) (fun _ => rfl) (by rintro vs H Q E ⟨a, v, rfl, _⟩; rfl) (fun cda cc A2 outer s H vs Q E pp hr h => ?_)
  obtain ⟨a, v, rfl, tv, ha, q⟩ := h
  refine ⟨a, [v], _, _, rfl, ha, pe_joined (PJ.cons pe_str (PJ.cons (pe_fmt (pe_callW W_told (hr.mono (by decide)) (pa_cons (pv 1) pa_nil))) PJ.nil)), (pss_one (ps_ost (pv 0) (pv 1))), ?_⟩
  refine js_ok (ps := [.c "nothing of this form can be read at index ", .t sp_told E0 1]) (fun y => ⟨⟨_, rfl⟩, ha, ⟨v, rfl, .ref a, rfl, a, C, rfl, I.sup.oex, I.no _ List.mem_cons_self, .inl ⟨ha, fun dx h1 h2 => q dx h1 h2⟩⟩⟩) _ ?_ (by decide)
  intro p hp
  simp only [List.mem_cons, List.not_mem_nil, or_false] at hp
  rcases hp with rfl | rfl
  · show Str.length _ ≤ 1000; decide
  · exact ⟨v, rfl, fun H Q q => sp_told_t tv H Q E0 q⟩
/-! ### a list or a tuple, walked -/
def iSeq (K : PySem.W.Frag) (tl : TE) : TI := fun σ H R => tl σ H fun x H1 => ∃ a, x = .ref a ∧ (((∃ xs, SqL K H1 a xs) ∧ R (Itl K a) H1) ∨ ((∃ xs, SqT K H1 a xs) ∧ R (Itt K a) H1))
theorem pi_seq {X : Cx} {tg l : Expr} {tl : TE} (hl : PE X l tl) : PI X tg l (iSeq X.K tl) := by
  refine ⟨fun pins s σ H R I h => ?_⟩
  refine thn (hl.run pins s σ H _ I h) fun v s1 ⟨x, H1, I1, r1, q1⟩ => ?_
  obtain ⟨a, e, ⟨⟨xs, hq⟩, q⟩ | ⟨⟨xs, hq⟩, q⟩⟩ := q1
  · subst e
    cases r1
    obtain ⟨its, rv, p, hz⟩ := I1.list hq
    refine wpAny_pyIter_list p.isList ?_
    refine ⟨s1.heap.objs.size, [s1.heap.objs.size], _, _, H1, rfl, I1.kept (t' := s1.toks) fun b o e => Heap.get?_push_of_some _ e, turn_list a _, ⟨_, Heap.get?_push_size _ rfl, rfl, rfl⟩, fun b hb => ?_, q⟩
    have e : b = s1.heap.objs.size := by simpa using hb
    subst e
    exact I1.fpOk (Nat.le_refl _) (I1.hok.fresh (Nat.le_refl _))
  · subst e
    cases r1
    obtain ⟨its, rv, p, hz⟩ := I1.tuple hq
    refine wpAny_pyIter_tuple (show s1.heap.IsTuple a its.toArray from p) ?_
    refine ⟨s1.heap.objs.size, [s1.heap.objs.size], _, _, H1, rfl, I1.kept (t' := s1.toks) fun b o e => Heap.get?_push_of_some _ e, turn_tuple a _, ⟨_, Heap.get?_push_size _ rfl, rfl, rfl⟩, fun b hb => ?_, q⟩
    have e : b = s1.heap.objs.size := by simpa using hb
    subst e
    exact I1.fpOk (Nat.le_refl _) (I1.hok.fresh (Nat.le_refl _))
def SqS (K : PySem.W.Frag) (H : Hp) (a : Addr) (xs : List V) : Prop := SqL K H a xs ∨ SqT K H a xs
theorem SqS.up {K : PySem.W.Frag} {H H' : Hp} {a : Addr} {xs : List V} (h : SqS K H a xs) (s : Same H H') : SqS K H' a xs := h.elim (fun h => .inl (s.seq h)) fun h => .inr ((Stp.of s).sq h)
section
variable {σ : L2.St} {H H0 : Hp} {D : Ends} {ts : TS} {g : TG} {K : PySem.W.Frag}
theorem r_iSeq {tl : TE} {R : It → Hp → Prop} (q : tl σ H fun x H1 => ∃ a, x = .ref a ∧ (((∃ xs, SqL K H1 a xs) ∧ R (Itl K a) H1) ∨ ((∃ xs, SqT K H1 a xs) ∧ R (Itt K a) H1))) : iSeq K tl σ H R := q
theorem forQ {Hb : Hp} {a : Addr} {xs : List V} (h : SqS K Hb a xs) (Pv : Nat → L2.St → Hp → Prop) (h0 : Pv 0 σ H) (hl : ∀ i σ' H', i ≤ xs.length → Pv i σ' H' → Same Hb H')
    (hs : ∀ i x σ H, xs[i]? = some x → Pv i σ H → g x σ H fun σ2 H2 => ts { D with nx := Pv (i + 1), ct := Pv (i + 1), bk := D.nx } σ2 H2) (hd : ∀ σ H, Pv xs.length σ H → D.nx σ H) :
    ∃ a', V.ref a = .ref a' ∧ (((∃ xs, SqL K H a' xs) ∧ RFor (Itl K a') g ts D σ H) ∨ ((∃ xs, SqT K H a' xs) ∧ RFor (Itt K a') g ts D σ H)) := by
  have s0 := hl 0 σ H (Nat.zero_le _) h0
  rcases h with h | h
  · exact ⟨a, rfl, .inl ⟨⟨xs, s0.seq h⟩, for_list (K := K) (a := a) (xs := xs) Pv h0 (fun i σ' H' hi p => (hl i σ' H' hi p).seq h) hs hd⟩⟩
  · exact ⟨a, rfl, .inr ⟨⟨xs, (Stp.of s0).sq h⟩, for_tup (K := K) (a := a) (xs := xs) Pv h0 (fun i σ' H' hi p => (Stp.of (hl i σ' H' hi p)).sq h) hs hd⟩⟩
theorem r_lenQ {xs : List V} {Q : VK} {p : Addr} (h : SqS K H p xs) (q : Q (.int xs.length) H) : Evl.rLenS K [.ref p] H Q := h.elim (fun h => r_len h q) fun h => r_lenT h q
end

section
variable {P : Program} {w : World} {K : PySem.W.Frag} {mg : Str → Option Value} {base : Heap}
/-- the digits of a number -/
def numB (n : Nat) : List Int := if _h : n < 125 then [(n : Int)] else ((n % 125 + 125 : Nat) : Int) :: numB (n / 125)
termination_by n
decreasing_by omega
theorem numB_lt {n : Nat} (h : n < 125) : numB n = [(n : Int)] := by rw [numB, dif_pos h]
theorem numB_ge {n : Nat} (h : ¬ n < 125) : numB n = ((n % 125 + 125 : Nat) : Int) :: numB (n / 125) := by rw [numB, dif_neg h]
theorem numB_len : ∀ (k n : Nat), n < 125 ^ (k + 1) → (numB n).length ≤ k + 1
  | 0, n, h => by
    rw [numB_lt (by simpa using h)]
    exact Nat.le_refl _
  | k + 1, n, h => by
    by_cases h1 : n < 125
    · rw [numB_lt h1]
      exact Nat.succ_le_succ (Nat.zero_le _)
    · rw [numB_ge h1, List.length_cons]
      refine Nat.succ_le_succ (numB_len k _ ?_)
      rw [Nat.pow_succ] at h
      exact Nat.div_lt_of_lt_mul (by rw [Nat.mul_comm]; exact h)
theorem numB_pos (n : Nat) : 1 ≤ (numB n).length := by
  by_cases h1 : n < 125
  · rw [numB_lt h1]; exact Nat.le_refl _
  · rw [numB_ge h1]; exact Nat.succ_le_succ (Nat.zero_le _)
/-- bytes in a wide sense -/
def Bw (ns : List Int) : Prop := ∀ x ∈ ns, 0 ≤ x ∧ x < 1000
theorem Bw.gi {ns : List Int} (d : Bw ns) {i : Int} (h0 : 0 ≤ i) (h1 : i < ns.length) : 0 ≤ gi ns i ∧ gi ns i < 1000 := d _ (gi_mem h0 h1)
theorem Bw.app {ns ms : List Int} (d : Bw ns) (e : Bw ms) : Bw (ns ++ ms) := fun y hy => by
  rcases List.mem_append.mp hy with h | h
  · exact d y h
  · exact e y h
theorem Bw.take {ns : List Int} (d : Bw ns) (n : Nat) : Bw (ns.take n) := fun y hy => d y (List.mem_of_mem_take hy)
theorem Bw.drop {ns : List Int} (d : Bw ns) (n : Nat) : Bw (ns.drop n) := fun y hy => d y (List.mem_of_mem_drop hy)
theorem bw_num (n : Nat) : ∀ x ∈ numB n, 0 ≤ x ∧ x < 250 := by
  induction n using Nat.strongRecOn with
  | _ n ih =>
    intro x hx
    by_cases h1 : n < 125
    · rw [numB_lt h1, List.mem_singleton] at hx
      omega
    · rw [numB_ge h1, List.mem_cons] at hx
      rcases hx with rfl | hx
      · omega
      · exact ih _ (by omega) x hx
/-- reading a number: it and how many digits it took -/
def rdN : List Int → Bool → Option (Int × Nat)
  | [], _ => none
  | b :: r, f => if b < 125 then (if b = 0 ∧ f = false then none else some (b, 1)) else if b > 249 then none else (rdN r false).map fun p => (b - 125 + 125 * p.1, p.2 + 1)
theorem rdN_num (n : Nat) : ∀ (bk : List Int) (f : Bool), (f = true ∨ 0 < n) → rdN (numB n ++ bk) f = some ((n : Int), (numB n).length) := by
  induction n using Nat.strongRecOn with
  | _ n ih =>
    intro bk f hf
    by_cases h1 : n < 125
    · rw [numB_lt h1]
      show (if (n : Int) < 125 then (if (n : Int) = 0 ∧ f = false then none else some ((n : Int), 1)) else _) = _
      rw [if_pos (by omega), if_neg]
      · rfl
      · rintro ⟨h2, h3⟩
        rcases hf with h | h
        · rw [h] at h3; cases h3
        · omega
    · rw [numB_ge h1, List.cons_append]
      show (if (((n % 125 + 125 : Nat) : Int)) < 125 then _ else if ((n % 125 + 125 : Nat) : Int) > 249 then none else (rdN (numB (n / 125) ++ bk) false).map fun p => (((n % 125 + 125 : Nat) : Int) - 125 + 125 * p.1, p.2 + 1)) = _
      rw [if_neg (by omega), if_neg (by omega), ih (n / 125) (by omega) bk false (.inr (by omega))]
      show some (((n % 125 + 125 : Nat) : Int) - 125 + 125 * ((n / 125 : Nat) : Int), (numB (n / 125)).length + 1) = _
      rw [List.length_cons]
      congr 2
      omega
/-- .. with a zero behind it as the last digit -/
def numZ (n : Nat) : List Int := if _h : n < 125 then [(n : Int) + 125, 0] else ((n % 125 + 125 : Nat) : Int) :: numZ (n / 125)
termination_by n
decreasing_by omega
theorem numZ_lt {n : Nat} (h : n < 125) : numZ n = [(n : Int) + 125, 0] := by rw [numZ, dif_pos h]
theorem numZ_ge {n : Nat} (h : ¬ n < 125) : numZ n = ((n % 125 + 125 : Nat) : Int) :: numZ (n / 125) := by rw [numZ, dif_neg h]
theorem rdN_zero (n : Nat) : ∀ (bk : List Int) (f : Bool), rdN (numZ n ++ bk) f = none := by
  induction n using Nat.strongRecOn with
  | _ n ih =>
    intro bk f
    by_cases h1 : n < 125
    · rw [numZ_lt h1]
      show (if (n : Int) + 125 < 125 then _ else if (n : Int) + 125 > 249 then none else (rdN (0 :: bk) false).map _) = _
      rw [if_neg (by omega), if_neg (by omega)]
      show Option.map _ (if (0 : Int) < 125 then (if (0 : Int) = 0 ∧ false = false then none else some (0, 1)) else _) = _
      rw [if_pos (by decide), if_pos ⟨rfl, rfl⟩]
      rfl
    · rw [numZ_ge h1, List.cons_append]
      show (if (((n % 125 + 125 : Nat) : Int)) < 125 then _ else if ((n % 125 + 125 : Nat) : Int) > 249 then none else (rdN (numZ (n / 125) ++ bk) false).map fun p => (((n % 125 + 125 : Nat) : Int) - 125 + 125 * p.1, p.2 + 1)) = _
      rw [if_neg (by omega), if_neg (by omega), ih (n / 125) (by omega) bk false]
      rfl
theorem numZ_cut (n : Nat) : numZ n = (numB n).take ((numB n).length - 1) ++ [gi (numB n) (((numB n).length : Int) - ((1 : Nat) : Int)) + 125, 0] := by
  induction n using Nat.strongRecOn with
  | _ n ih =>
    by_cases h1 : n < 125
    · rw [numZ_lt h1, numB_lt h1]
      rfl
    · have hp := numB_pos (n / 125)
      rw [numZ_ge h1, numB_ge h1, ih (n / 125) (by omega), List.length_cons, show (numB (n / 125)).length + 1 - 1 = ((numB (n / 125)).length - 1) + 1 by omega, List.take_succ_cons, List.cons_append]
      congr 4
      unfold RD.gi
      rw [show ((((numB (n / 125)).length + 1 : Nat) : Int) - ((1 : Nat) : Int)).toNat = ((numB (n / 125)).length - 1) + 1 by omega, show (((numB (n / 125)).length : Int) - ((1 : Nat) : Int)).toNat = (numB (n / 125)).length - 1 by omega]
      rfl
theorem bw_numZ (n : Nat) : ∀ x ∈ numZ n, 0 ≤ x ∧ x < 1000 := by
  induction n using Nat.strongRecOn with
  | _ n ih =>
    intro x hx
    by_cases h1 : n < 125
    · rw [numZ_lt h1] at hx
      simp only [List.mem_cons, List.not_mem_nil, or_false] at hx
      omega
    · rw [numZ_ge h1, List.mem_cons] at hx
      rcases hx with rfl | hx
      · omega
      · exact ih _ (by omega) x hx
theorem cut_m1 (xs : List V) : cutV xs none (some (-1)) = xs.take (xs.length - 1) := by
  unfold cutV
  have e : HT.sIx xs.length xs.length (some (-1)) = xs.length - 1 := by
    show (if (-1 : Int) < 0 then (-1 + (xs.length : Int)).toNat else min (-1 : Int).toNat xs.length) = xs.length - 1
    rw [if_pos (by decide)]
    omega
  rw [HT.sIx_none, e, List.drop_zero, Nat.sub_zero]
def sp_write_number : Sp := fun vs H Q _ => ∃ n : Nat, vs = [.int (n : Int)] ∧ (numB n).length ≤ 1000000 ∧ RetO H Q (.lst ((numB n).map V.int))
theorem d_write_number (T : Top K mg) : Def P w K mg base CX0 1 "write_number" ["number"] sp_write_number := by
  obtain ⟨t1, g_BASE⟩ := T.g_BASE
  refine T.f_write_number.ok sc_write_number (by rintro vs H Q E ⟨n, rfl, _⟩; rfl) (fun f cdv A outer s H vs Q E hr h => ?_)
  obtain ⟨n, rfl, hl, q⟩ := h
  refine ⟨_, (pss_cons (ps_set (i := 1) sc_write_number.nd rfl (Or.inl rfl) (pe_lst pa_nil))
      (pss_cons (ps_set (i := 2) sc_write_number.nd rfl (Or.inl rfl) (pv 0))
      (pss_cons (ps_while PassesOwn.never (pt_cmpR op_ge (pv 2) (pe_glob (v := .int 125) rfl g_BASE ⟨_, rfl⟩) (nomark _)) (pss_cons (ps_expr (pe_bm PySem.F.plainAttrs_list PySem.F.slot_list_append PySem.F.type_list_append mt_append (pv 1) (pa_cons (pe_op op_add (pe_op op_mod (pv 2) (pe_glob (v := .int 125) rfl g_BASE ⟨_, rfl⟩)) (pe_glob (v := .int 125) rfl g_BASE ⟨_, rfl⟩)) pa_nil)))
      (pss_one (ps_set (i := 2) sc_write_number.nd rfl (Or.inl rfl) (pe_op op_fdiv (pv 2) (pe_glob (v := .int 125) rfl g_BASE ⟨_, rfl⟩))))))
      (pss_cons (ps_expr (pe_bm PySem.F.plainAttrs_list PySem.F.slot_list_append PySem.F.type_list_append mt_append (pv 1) (pa_cons (pv 2) pa_nil)))
      (pss_one (ps_ret (pv 1))))))), ?_⟩
  walk_at "rd"
  refine r_newL (Own.nil H) (Nat.zero_le _) fun p1 H1 o1 => ?_
  walk_at "rd"
  refine whileB (fun m σ' H' => ∃ ws : List Int, σ' = [some (.int (n : Int)), some (.ref p1), some (.int (m : Int))] ∧ ws ++ numB m = numB n ∧ Own H H' [(p1, .lst (ws.map V.int))]) n ⟨[], rfl, rfl, o1⟩ ?_
  rintro m σ' H' ⟨ws, rfl, hw, o⟩
  have hwl : ws.length ≤ 1000000 := by
    have := congrArg List.length hw
    rw [List.length_append] at this
    omega
  walk_at "rd"
  refine rif (fun h1 => ?_) fun h1 => ?_
  · refine wh_turn ?_
    walk_at "rd"
    refine r_app o 0 rfl (by rw [List.length_map]; omega) fun H2 o2 => ?_
    walk_at "rd"
    refine ⟨m / 125, by omega, ws ++ [((m % 125 + 125 : Nat) : Int)], rfl, ?_, ?_⟩
    · rw [List.append_assoc, List.singleton_append, ← numB_ge (by omega)]
      exact hw
    · rw [List.map_append]
      exact o2
  · walk_at "rd"
    refine r_app o 0 rfl (by rw [List.length_map]; omega) fun H2 o2 => ?_
    walk_at "rd"
    rw [numB_lt (by omega)] at hw
    rw [← hw, List.map_append] at q
    exact q.mk o2 0 rfl
def sp_read_number (K : PySem.W.Frag) (C : Addr) : Sp := fun vs H Q E => ∃ (a : Addr) (ns : List Int) (i : Int), vs = [.ref a, .int i] ∧ SqL K H a (ns.map V.int) ∧ Bw ns ∧ ns.length ≤ 1000000 ∧ -2000000 ≤ i ∧ i ≤ 2000000 ∧
  (∀ x k, 0 ≤ i → rdN (ns.drop i.toNat) true = some (x, k) → RetO H Q (.tup [.int x, .int (i + (k : Int))])) ∧
  (i < 0 ∨ rdN (ns.drop i.toNat) true = none → RetE H E C [("index", .int i)])
theorem d_read_number {C : Addr} (T : Top K mg) (E_Unreadable : EDef P w K mg base C "Unreadable" ["self", "index"] (sp_i1 C "index")) : Def P w K mg base (L2N.CX P w) 5 "read_number" ["values", "index"] (sp_read_number K C) := by
  obtain ⟨t1, g_BASE⟩ := T.g_BASE
  obtain ⟨t2, g_HIGHEST_BYTE⟩ := T.g_HIGHEST_BYTE
  refine T.f_read_number.okN sc_read_number (by rintro vs H Q E ⟨a, ns, i, rfl, _⟩; rfl) (fun f cdv A outer s H vs Q E hr h => ?_)
  obtain ⟨a, ns, i, rfl, hS, hB, hl, hi1, hi2, q, qe⟩ := h
  have bad : (i < 0 ∨ rdN (ns.drop i.toNat) true = none) → ∀ (v2 v3 v4 v5 : Option V), tRaise (tErr C ["index"] (tCons (tVar 1) tNil)) (fun cls d _ H => E cls d H) { nx := fun σ H => True, rt := fun _ _ => True } [some (.ref a), some (.int i), v2, v3, v4, v5] H := fun ho v2 v3 v4 v5 => by
    refine r_raise ⟨_, rfl, rfl, ?_, fun d hd => (qe ho).mk (Own.nil H) hd⟩
    intro u hu
    rw [List.mem_singleton.mp hu]
    exact tell_small ⟨by omega, by omega⟩
  refine ⟨_, (pss_cons (ps_if (pt_cmpR op_lt (pv 1) pe_int (nomark _)) (pss_one (ps_raiseE rfl (L2N.takes_of rfl rfl rfl rfl) (pmk_e1 E_Unreadable (hr.mono (by decide)) (pa_cons (pv 1) pa_nil)))) pss_nil)
      (pss_cons (ps_set (i := 2) sc_read_number.nd rfl (Or.inl rfl) pe_int)
      (pss_cons (ps_set (i := 3) sc_read_number.nd rfl (Or.inl rfl) pe_int)
      (pss_cons (ps_for (passes_of rfl) rfl (pi_range2 (by rfl) T.b_range (pa_cons (pv 1) (pa_cons (pe_callB (r := Evl.rLenS K) call_len_seq (by rfl) T.b_len (by decide +kernel) (pa_cons (pv 0) pa_nil)) pa_nil))) (pg_name (i := 4) sc_read_number.nd rfl (Or.inl rfl)) (pss_cons (ps_set (i := 5) sc_read_number.nd rfl (Or.inl rfl) (pe_ix (r := rIxL K) ix_list (pv 0) (pv 4) (fun _ _ => rfl)))
      (pss_cons (ps_if (pt_cmpR op_lt (pv 5) (pe_glob (v := .int 125) rfl g_BASE ⟨_, rfl⟩) (nomark _)) (pss_cons (ps_if (PW.pt (pw_and (pt_cmpR op_eq (pv 5) pe_int (nomark _)) (pw_and1 (pt_cmpR op_gt (pv 4) (pv 1) (nomark _))))) (pss_one ps_break) pss_nil)
      (pss_one (ps_ret (pe_tup (pa_cons (pe_op op_add (pv 2) (pe_op op_mul (pv 5) (pv 3))) (pa_cons (pe_op op_add (pv 4) pe_int) pa_nil)))))) pss_nil)
      (pss_cons (ps_if (pt_cmpR op_gt (pv 5) (pe_glob (v := .int 249) rfl g_HIGHEST_BYTE ⟨_, rfl⟩) (nomark _)) (pss_one ps_break) pss_nil)
      (pss_cons (ps_set (i := 2) sc_read_number.nd rfl (Or.inl rfl) (pe_op op_add (pv 2) (pe_op op_mul (pe_op op_sub (pv 5) (pe_glob (v := .int 125) rfl g_BASE ⟨_, rfl⟩)) (pv 3))))
      (pss_one (ps_set (i := 3) sc_read_number.nd rfl (Or.inl rfl) (pe_op op_mul (pv 3) (pe_glob (v := .int 125) rfl g_BASE ⟨_, rfl⟩)))))))))
      (pss_one (ps_raiseE rfl (L2N.takes_of rfl rfl rfl rfl) (pmk_e1 E_Unreadable (hr.mono (by decide)) (pa_cons (pv 1) pa_nil)))))))), ?_⟩
  walk_at "rd"
  refine rif (fun h1 => ?_) fun h1 => ?_
  · walk_at "rd"
    exact bad (.inl h1) _ _ _ _
  walk_at "rd"
  refine forR2 (n := ns.length - i.toNat) (by rw [List.length_map]; omega) (by rw [List.length_map]; omega) (fun k σ' H' => H' = H ∧ ∃ (x wt : Int) (v4 v5 : Option V), σ' = [some (.ref a), some (.int i), some (.int x), some (.int wt), v4, v5] ∧
    rdN (ns.drop i.toNat) true = (rdN (ns.drop (i.toNat + k)) (decide (k = 0))).map fun p => (x + wt * p.1, p.2 + k)) ⟨rfl, 0, 1, _, _, rfl, ?_⟩ ?_ ?_
  · rw [Nat.add_zero, decide_eq_true rfl]
    cases rdN (ns.drop i.toNat) true with
    | none => rfl
    | some p => show some p = some ((0 : Int) + 1 * p.1, p.2 + 0); rw [Int.zero_add, Int.one_mul, Nat.add_zero]
  · rintro k σ' H' hk ⟨rfl, x, wt, v4, v5, rfl, hr2⟩
    have hlt : i.toNat + k < ns.length := by omega
    have hd : ns.drop (i.toNat + k) = gi ns (i + (k : Int)) :: ns.drop (i.toNat + (k + 1)) := by
      rw [← List.getElem_cons_drop hlt, show i + (k : Int) = ((i.toNat + k : Nat) : Int) by omega, gi_nat hlt]
      rfl
    have hb := hB.gi (i := i + (k : Int)) (by omega) (by omega)
    rw [hd] at hr2
    walk_at "rd"
    generalize gi ns (i + (k : Int)) = b at *
    have hc : rdN (b :: ns.drop (i.toNat + (k + 1))) (decide (k = 0)) = if b < 125 then (if b = 0 ∧ decide (k = 0) = false then none else some (b, 1)) else if b > 249 then none else (rdN (ns.drop (i.toNat + (k + 1))) false).map fun p => (b - 125 + 125 * p.1, p.2 + 1) := rfl
    rw [hc] at hr2
    refine rif (fun h2 => ?_) fun h2 => ?_
    · rw [if_pos h2] at hr2
      have good : ¬ (b = 0 ∧ decide (k = 0) = false) → ∀ Z, (∀ (_ : RetO H' Q (.tup [.int (x + b * wt), .int (i + (k : Int) + 1)])), Z) → Z := fun hg Z z => by
        rw [if_neg hg] at hr2
        have z2 := q _ _ (by omega) hr2
        rw [show wt * b = b * wt from Int.mul_comm _ _] at z2
        refine z ?_
        rw [show i + (k : Int) + 1 = i + ((1 + k : Nat) : Int) by omega]
        exact z2
      walk_at "rd"
      refine rif (fun h3 => ?_) fun h3 => ?_
      · walk_at "rd"
        refine rif (fun h4 => ?_) fun h4 => ?_
        · walk_at "rd"
          rw [if_pos ⟨h3, decide_eq_false (by omega)⟩] at hr2
          exact bad (.inr hr2) _ _ _ _
        · walk_at "rd"
          refine good (fun hg => h4 ?_) _ fun z => ?_
          · have := of_decide_eq_false hg.2
            omega
          · refine r_newT (Own.nil H') (Nat.le_of_ble_eq_true rfl) fun p2 H2 o2 => ?_
            exact z.mk o2 0 rfl
      · walk_at "rd"
        refine good (fun hg => h3 hg.1) _ fun z => ?_
        refine r_newT (Own.nil H') (Nat.le_of_ble_eq_true rfl) fun p2 H2 o2 => ?_
        exact z.mk o2 0 rfl
    · rw [if_neg h2] at hr2
      walk_at "rd"
      refine rif (fun h3 => ?_) fun h3 => ?_
      · walk_at "rd"
        rw [if_pos h3] at hr2
        exact bad (.inr hr2) _ _ _ _
      · rw [if_neg h3] at hr2
        walk_at "rd"
        refine ⟨rfl, _, _, _, _, rfl, ?_⟩
        rw [hr2, decide_eq_false (show ¬ k + 1 = 0 by omega)]
        cases rdN (ns.drop (i.toNat + (k + 1))) false with
        | none => rfl
        | some p =>
          show some (x + wt * (b - 125 + 125 * p.1), p.2 + 1 + k) = some (x + (b - 125) * wt + wt * 125 * p.1, p.2 + (k + 1))
          rw [Int.mul_add, Int.mul_comm wt (b - 125), ← Int.mul_assoc, ← Int.add_assoc, show p.2 + 1 + k = p.2 + (k + 1) by omega]
  · rintro σ' H' ⟨rfl, x, wt, v4, v5, rfl, hr2⟩
    walk_at "rd"
    refine bad (.inr ?_) _ _ _ _
    rw [hr2, List.drop_of_length_le (by omega)]
    rfl
end

section
variable {P : Program} {w : World} {K : PySem.W.Frag} {mg : Str → Option Value} {base : Heap}
/-! ### integers -/
def zz (z : Int) : Nat := if z < 0 then (-2 * z - 1).toNat else (2 * z).toNat
def unzz (x : Int) : Int := if x % 2 = 1 then -((x + 1) / 2) else x / 2
theorem unzz_zz (z : Int) : unzz ((zz z : Nat) : Int) = z := by
  unfold unzz zz
  by_cases h : z < 0
  · rw [if_pos h, if_pos (by omega)]
    omega
  · rw [if_neg h, if_neg (by omega)]
    omega
def intB (z : Int) : List Int := numB (zz z)
/-- one thing read: it and how many bytes it took -/
def OneOk (one : List Int → Option (Int × Nat)) : Prop := ∀ s x k, one s = some (x, k) → 1 ≤ k ∧ k ≤ s.length
def rdZ (s : List Int) : Option (Int × Nat) := (rdN s true).map fun p => (unzz p.1, p.2)
theorem rdN_ok : ∀ (s : List Int) (f : Bool) (x : Int) (k : Nat), rdN s f = some (x, k) → 1 ≤ k ∧ k ≤ s.length
  | [], f, x, k, h => by cases h
  | b :: r, f, x, k, h => by
    have h : (if b < 125 then (if b = 0 ∧ f = false then none else some (b, 1)) else if b > 249 then none else (rdN r false).map fun p => (b - 125 + 125 * p.1, p.2 + 1)) = some (x, k) := h
    rw [List.length_cons]
    by_cases h1 : b < 125
    · rw [if_pos h1] at h
      by_cases h2 : b = 0 ∧ f = false
      · rw [if_pos h2] at h; cases h
      · rw [if_neg h2] at h; cases h; omega
    · rw [if_neg h1] at h
      by_cases h2 : b > 249
      · rw [if_pos h2] at h; cases h
      · rw [if_neg h2] at h
        cases h3 : rdN r false with
        | none => rw [h3] at h; cases h
        | some p =>
          rw [h3] at h
          have := rdN_ok r false p.1 p.2 h3
          cases h
          show 1 ≤ p.2 + 1 ∧ p.2 + 1 ≤ _
          omega
theorem rdZ_ok : OneOk rdZ := fun s x k h => by
  unfold rdZ at h
  cases h3 : rdN s true with
  | none => rw [h3] at h; cases h
  | some p =>
    rw [h3] at h
    have := rdN_ok s true p.1 p.2 h3
    cases h
    exact this
theorem rdZ_int (z : Int) (bk : List Int) : rdZ (intB z ++ bk) = some (z, (intB z).length) := by
  unfold rdZ intB
  rw [rdN_num _ bk true (.inl rfl)]
  show some (unzz ((zz z : Nat) : Int), _) = _
  rw [unzz_zz]
/-! ### bytes -/
def rdB : List Int → Option (Int × Nat)
  | [] => none
  | b :: r => if b > 249 then none else if b < 249 then some (b, 1) else match r with
    | [] => none
    | c :: _ => if c ≤ 6 then some (249 + c, 2) else none
theorem rdB_ok : OneOk rdB := fun s x k h => by
  match s, h with
  | b :: r, h =>
    have h : (if b > 249 then none else if b < 249 then some (b, 1) else match r with
      | [] => none
      | c :: _ => if c ≤ 6 then some (249 + c, 2) else none) = some (x, k) := h
    rw [List.length_cons]
    by_cases h1 : b > 249
    · rw [if_pos h1] at h; cases h
    · rw [if_neg h1] at h
      by_cases h2 : b < 249
      · rw [if_pos h2] at h; cases h; omega
      · rw [if_neg h2] at h
        match r, h with
        | c :: t, h =>
          have h : (if c ≤ 6 then some (249 + c, 2) else none) = some (x, k) := h
          by_cases h3 : c ≤ 6
          · rw [if_pos h3] at h
            cases h
            rw [List.length_cons]
            omega
          · rw [if_neg h3] at h; cases h
def byB (v : Int) : List Int := if v < 249 then [v] else [249, v - 249]
theorem rdB_by {v : Int} (h : 0 ≤ v ∧ v < 256) (bk : List Int) : rdB (byB v ++ bk) = some (v, (byB v).length) := by
  unfold byB
  by_cases h1 : v < 249
  · rw [if_pos h1]
    show (if v > 249 then none else if v < 249 then some (v, 1) else _) = _
    rw [if_neg (by omega), if_pos h1]
    rfl
  · rw [if_neg h1]
    show (if (249 : Int) > 249 then none else if (249 : Int) < 249 then _ else if v - 249 ≤ 6 then some (249 + (v - 249), 2) else none) = _
    rw [if_neg (by omega), if_neg (by omega), if_pos (by omega), show 249 + (v - 249) = v by omega]
    rfl
/-! ### lists -/
def rdL (one : List Int → Option (Int × Nat)) : Nat → Int → List Int → Option (List Int × Nat)
  | 0, c, _ => if c ≤ 0 then some ([], 0) else none
  | f + 1, c, s => if c ≤ 0 then some ([], 0) else match one s with
    | none => none
    | some p => (rdL one f (c - 1) (s.drop p.2)).map fun q => (p.1 :: q.1, p.2 + q.2)
theorem rdL_0 (one : List Int → Option (Int × Nat)) {f : Nat} {c : Int} {s : List Int} (h : c ≤ 0) : rdL one f c s = some ([], 0) := by
  cases f <;> (unfold rdL; rw [if_pos h])
theorem rdL_none {one : List Int → Option (Int × Nat)} {f : Nat} {c : Int} {s : List Int} (h : ¬ c ≤ 0) (ho : one s = none) : rdL one f c s = none := by
  cases f with
  | zero => unfold rdL; rw [if_neg h]
  | succ f => unfold rdL; rw [if_neg h, ho]
theorem rdL_some {one : List Int → Option (Int × Nat)} {f : Nat} {c x : Int} {k : Nat} {s : List Int} (h : ¬ c ≤ 0) (ho : one s = some (x, k)) : rdL one (f + 1) c s = (rdL one f (c - 1) (s.drop k)).map fun q => (x :: q.1, k + q.2) := by
  conv => lhs; unfold rdL
  rw [if_neg h, ho]
def rdLs (one : List Int → Option (Int × Nat)) (s : List Int) : Option (List Int × Nat) := (rdN s true).bind fun p => (rdL one (s.length + 1) p.1 (s.drop p.2)).map fun q => (q.1, p.2 + q.2)
theorem rdL_list {one : List Int → Option (Int × Nat)} {wr : Int → List Int} : ∀ (zs : List Int) (f : Nat) (bk : List Int), (∀ z ∈ zs, ∀ bk, one (wr z ++ bk) = some (z, (wr z).length)) → zs.length ≤ f → rdL one f (zs.length : Int) (zs.flatMap wr ++ bk) = some (zs, (zs.flatMap wr).length)
  | [], f, bk, _, _ => rdL_0 one (by show (0 : Int) ≤ 0; omega)
  | z :: zs, f, bk, h, hf => by
    obtain ⟨f, rfl⟩ : ∃ g, f = g + 1 := ⟨f - 1, by rw [List.length_cons] at hf; omega⟩
    rw [List.flatMap_cons, List.append_assoc, rdL_some (by rw [List.length_cons]; omega) (h z List.mem_cons_self _), List.drop_left, List.length_cons, show (((zs.length + 1 : Nat) : Int) - 1) = (zs.length : Int) by omega,
      rdL_list zs f bk (fun z hz => h z (List.mem_cons_of_mem _ hz)) (by rw [List.length_cons] at hf; omega), List.length_append]
    rfl
def lsB (wr : Int → List Int) (zs : List Int) : List Int := numB zs.length ++ zs.flatMap wr
theorem flat_ge {wr : Int → List Int} : ∀ (zs : List Int), (∀ z ∈ zs, 1 ≤ (wr z).length) → zs.length ≤ (zs.flatMap wr).length
  | [], _ => Nat.zero_le _
  | z :: zs, h => by
    have h1 := h z List.mem_cons_self
    have h2 := flat_ge zs fun z hz => h z (List.mem_cons_of_mem _ hz)
    rw [List.flatMap_cons, List.length_append, List.length_cons]
    omega
theorem flat_le {wr : Int → List Int} {m : Nat} : ∀ (zs : List Int), (∀ z ∈ zs, (wr z).length ≤ m) → (zs.flatMap wr).length ≤ zs.length * m
  | [], _ => by simp
  | z :: zs, h => by
    have h1 := h z List.mem_cons_self
    have h2 := flat_le zs fun z hz => h z (List.mem_cons_of_mem _ hz)
    rw [List.flatMap_cons, List.length_append, List.length_cons, Nat.add_mul]
    omega
theorem rdLs_list {one : List Int → Option (Int × Nat)} {wr : Int → List Int} (zs bk : List Int) (h : ∀ z ∈ zs, ∀ bk, one (wr z ++ bk) = some (z, (wr z).length)) (h1 : ∀ z ∈ zs, 1 ≤ (wr z).length) : rdLs one (lsB wr zs ++ bk) = some (zs, (lsB wr zs).length) := by
  have h2 := flat_ge zs h1
  unfold rdLs lsB
  rw [List.append_assoc, rdN_num _ _ true (.inl rfl)]
  show ((rdL one _ (zs.length : Int) ((numB zs.length ++ (zs.flatMap wr ++ bk)).drop (numB zs.length).length)).map fun q => (q.1, (numB zs.length).length + q.2)) = _
  rw [List.drop_left, rdL_list zs _ bk h (by rw [List.length_append, List.length_append]; omega), List.length_append]
  rfl
theorem bw_int (z : Int) : ∀ x ∈ intB z, 0 ≤ x ∧ x < 250 := bw_num _
theorem bw_by {v : Int} (h : 0 ≤ v ∧ v < 256) : ∀ x ∈ byB v, 0 ≤ x ∧ x < 250 := by
  intro x hx
  unfold byB at hx
  split at hx <;> simp only [List.mem_cons, List.not_mem_nil, or_false] at hx <;> omega
theorem by_len (v : Int) : 1 ≤ (byB v).length ∧ (byB v).length ≤ 2 := by
  unfold byB
  split
  · exact ⟨Nat.le_refl _, Nat.le_succ _⟩
  · exact ⟨Nat.le_succ _, Nat.le_refl _⟩
theorem bw_ls {wr : Int → List Int} {zs : List Int} (h : ∀ z ∈ zs, ∀ x ∈ wr z, 0 ≤ x ∧ x < 250) : ∀ x ∈ lsB wr zs, 0 ≤ x ∧ x < 250 := by
  intro x hx
  rcases List.mem_append.mp hx with hx | hx
  · exact bw_num _ x hx
  · obtain ⟨z, hz, hx⟩ := List.mem_flatMap.mp hx
    exact h z hz x hx
theorem Bw.of {ns : List Int} (h : ∀ x ∈ ns, 0 ≤ x ∧ x < 250) : Bw ns := fun x hx => ⟨(h x hx).1, by have := (h x hx).2; omega⟩
/-! ### the defs that read -/
def sp_one (one : List Int → Option (Int × Nat)) (K : PySem.W.Frag) (C : Addr) : Sp := fun vs H Q E => ∃ (a : Addr) (ns : List Int) (i : Int), vs = [.ref a, .int i] ∧ SqL K H a (ns.map V.int) ∧ Bw ns ∧ ns.length ≤ 1000000 ∧ -2000000 ≤ i ∧ i ≤ 2000000 ∧
  (∀ x k, 0 ≤ i → one (ns.drop i.toNat) = some (x, k) → RetO H Q (.tup [.int x, .int (i + (k : Int))])) ∧
  (i < 0 ∨ one (ns.drop i.toNat) = none → RetE H E C [("index", .int i)])
/-- a list of ints and an int -/
def RetLT (H : Hp) (Q : VK) (xs : List Int) (j : Int) : Prop := ∀ H' p l, Same H H' → H p = none → H l = none → p ≠ l → H' p = some (.tup [.ref l, .int j]) → H' l = some (.lst (xs.map V.int)) → Q (.ref p) H'
theorem RetLT.mk {H0 H : Hp} {Q : VK} {xs : List Int} {j : Int} {L : List (Addr × HO)} {p l : Addr} (q : RetLT H0 Q xs j) (o : Own H0 H L) (i i2 : Nat) (h : L[i]? = some (p, .tup [.ref l, .int j])) (h2 : L[i2]? = some (l, .lst (xs.map V.int))) : Q (.ref p) H := by
  refine q H p l o.ex (o.fresh i h) (o.fresh i2 h2) (o.ne h h2 fun e => ?_) (o.at i h) (o.at i2 h2)
  subst e
  rw [h] at h2
  cases h2
theorem r_retLT {H0 H : Hp} {Q : VK} {xs : List Int} {j : Int} {L : List (Addr × HO)} (o : Own H0 H L) (k : ∀ p l H', Own H0 H' ((p, .tup [.ref l, .int j]) :: (l, .lst (xs.map V.int)) :: L) → Q (.ref p) H') : RetLT H Q xs j := fun H' p l s hp hl hne h1 h2 => by
  have o1 := o.add s hl h2
  refine k p l H' ⟨o1.ex, fun x hx => ?_, ?_⟩
  · rcases List.mem_cons.mp hx with rfl | hx
    · exact ⟨o.ex.free hp, h1⟩
    · exact o1.fr x hx
  · rw [List.map_cons, List.nodup_cons]
    refine ⟨fun hm => ?_, o1.nd⟩
    obtain ⟨x, hx, e⟩ := List.mem_map.mp hm
    rcases List.mem_cons.mp hx with rfl | hx
    · exact hne e.symm
    · have := (o.fr x hx).2
      rw [e] at this
      rw [show (p, HO.tup [V.ref l, V.int j]).1 = p from rfl, hp] at this
      cases this
def sp_ls (one : List Int → Option (Int × Nat)) (K : PySem.W.Frag) (C : Addr) : Sp := fun vs H Q E => ∃ (a : Addr) (ns : List Int) (i : Int), vs = [.ref a, .int i] ∧ SqL K H a (ns.map V.int) ∧ Bw ns ∧ ns.length ≤ 1000000 ∧ -2000000 ≤ i ∧ i ≤ 2000000 ∧
  (∀ xs k, 0 ≤ i → rdLs one (ns.drop i.toNat) = some (xs, k) → RetLT H Q xs (i + (k : Int))) ∧
  (i < 0 ∨ rdLs one (ns.drop i.toNat) = none → RetE H E C [("index", .int i)])
theorem d_read_integer {C : Addr} (T : Top K mg) (E_Unreadable : EDef P w K mg base C "Unreadable" ["self", "index"] (sp_i1 C "index")) : Def P w K mg base (L2N.CX P w) 6 "read_integer" ["values", "index"] (sp_one rdZ K C) := by
  have G_read_number : Def P w K mg base (L2N.CX P w) 5 "read_number" ["values", "index"] (sp_read_number K C) := d_read_number T E_Unreadable
  refine T.f_read_integer.okN sc_read_integer (by rintro vs H Q E ⟨a, ns, i, rfl, _⟩; rfl) (fun f cdv A outer s H vs Q E hr h => ?_)
  obtain ⟨a, ns, i, rfl, hS, hB, hl, hi1, hi2, q, qe⟩ := h
  refine ⟨_, (pss_cons (ps_asg (pe_callN G_read_number (L2N.takes_of rfl rfl rfl rfl) (hr.mono (by decide)) (pa_cons (pv 0) (pa_cons (pv 1) pa_nil))) (pg_tup (n := 2) rfl (pgs_cons (pg_name (i := 2) sc_read_integer.nd rfl (Or.inl rfl)) (pgs_cons (pg_name (i := 3) sc_read_integer.nd rfl (Or.inl rfl)) pgs_nil))))
      (pss_cons (ps_if (pt_cmpR op_eq (pe_op op_mod (pv 2) pe_int) pe_int (nomark _)) (pss_one (ps_ret (pe_tup (pa_cons (pe_un un_neg (pe_op op_fdiv (pe_op op_add (pv 2) pe_int) pe_int)) (pa_cons (pv 3) pa_nil))))) pss_nil)
      (pss_one (ps_ret (pe_tup (pa_cons (pe_op op_fdiv (pv 2) pe_int) (pa_cons (pv 3) pa_nil))))))), ?_⟩
  walk_at "rd"
  refine ⟨a, ns, i, rfl, hS, hB, hl, hi1, hi2, fun x k h0 hx => ?_, fun hx => qe ?_⟩
  · have z := q (unzz x) k h0 (by unfold rdZ; rw [hx]; rfl)
    refine r_ret1 (Own.nil H) fun p1 H1 o1 => ?_
    walk_at "rd"
    unfold unzz at z
    refine rif (fun h1 => ?_) fun h1 => ?_
    · rw [if_pos h1] at z
      walk_at "rd"
      refine r_newT o1 (Nat.le_of_ble_eq_true rfl) fun p2 H2 o2 => ?_
      exact z.mk o2 0 rfl
    · rw [if_neg h1] at z
      walk_at "rd"
      refine r_newT o1 (Nat.le_of_ble_eq_true rfl) fun p2 H2 o2 => ?_
      exact z.mk o2 0 rfl
  · rcases hx with hx | hx
    · exact .inl hx
    · refine .inr ?_
      unfold rdZ
      rw [hx]
      rfl
def sp_rlist (one : List Int → Option (Int × Nat)) (K : PySem.W.Frag) (C f : Addr) : Sp := fun vs H Q E => ∃ (a : Addr) (ns : List Int) (i : Int), vs = [.ref a, .int i, .ref f] ∧ SqL K H a (ns.map V.int) ∧ Bw ns ∧ ns.length ≤ 1000000 ∧ -2000000 ≤ i ∧ i ≤ 2000000 ∧
  (∀ xs k, 0 ≤ i → rdLs one (ns.drop i.toNat) = some (xs, k) → RetLT H Q xs (i + (k : Int))) ∧
  (i < 0 ∨ rdLs one (ns.drop i.toNat) = none → RetE H E C [("index", .int i)])
theorem d_rlist {C_TesseraError C_Unreadable C_Damaged : Addr} {one : List Int → Option (Int × Nat)} {fo : Addr} (hone : OneOk one) (T : Top K mg) (R : Errs K mg C_TesseraError C_Unreadable C_Damaged) (E_Unreadable : EDef P w K mg base C_Unreadable "Unreadable" ["self", "index"] (sp_i1 C_Unreadable "index")) (EH_Unreadable : EDefH P w K mg base C_Unreadable "Unreadable" ["self", "index"] (sp_i1 C_Unreadable "index"))
    (L_read_one : HeldX P w K mg base (L2N.CX P w) 7 fo (sp_one one K C_Unreadable)) : Def P w K mg base (L2.CX P w) 8 "read_list" ["values", "index", "read_one"] (sp_rlist one K C_Unreadable fo) := by
  have G_read_number : Def P w K mg base (L2.CX P w) 5 "read_number" ["values", "index"] (sp_read_number K C_Unreadable) := (d_read_number T E_Unreadable).toX
  refine T.f_read_list.okX sc_read_list (by rintro vs H Q E ⟨a, ns, i, rfl, _⟩; rfl) (fun f cdv A outer s H vs Q E hr h => ?_)
  obtain ⟨a, ns, i, rfl, hS, hB, hl, hi1, hi2, q, qe⟩ := h
  refine ⟨_, (pss_cons (ps_asg (pe_callX G_read_number (L2.takes_of rfl rfl rfl rfl) (hr.mono (by decide)) (pa_cons (pv 0) (pa_cons (pv 1) pa_nil))) (pg_tup (n := 2) rfl (pgs_cons (pg_name (i := 3) sc_read_list.nd rfl (Or.inl rfl)) (pgs_cons (pg_name (i := 4) sc_read_list.nd rfl (Or.inl rfl)) pgs_nil))))
      (pss_cons (ps_set (i := 5) sc_read_list.nd rfl (Or.inl rfl) (pe_lst pa_nil))
      (pss_cons (ps_tryO (Wout := fun cls d _ H => E cls d H) rfl rfl ⟨rfl, by decide, Or.inl R.c_Unreadable.at_⟩ (fun hd => L2H.passesAt_of rfl hd) (L2.takes_of rfl rfl rfl rfl) (fun W pn xe tk po => (pss_one (ps_whileT po (pt_cmpR op_lt (pe_callB (r := Evl.rLenS K) call_len_seq (by rfl) T.b_len (by decide +kernel) (pa_cons (pv 5) pa_nil)) (pv 3) (nomark _)) (pss_cons (ps_asg (pe_callLN (i := 2) L_read_one tk (hr.mono (by decide)) rfl (Or.inl rfl) (pa_cons (pv 0) (pa_cons (pv 4) pa_nil))) (pg_tupK (K := K) (n := 2) rfl rfl (pgs_cons (pg_name (i := 6) sc_read_list.nd rfl (Or.inl rfl)) (pgs_cons (pg_name (i := 4) sc_read_list.nd rfl (Or.inl rfl)) pgs_nil))))
      (pss_one (ps_expr (pe_bmK (K := K) rfl PySem.F.plainAttrs_list PySem.F.slot_list_append PySem.F.type_list_append mt_append (pv 5) (pa_cons (pv 6) pa_nil)))))))) (fun a oe cls d pn hz hf tkS hot => (pss_one (ps_raiseF hot tkS (pmk5_e1 EH_Unreadable (L2H.roomH_mark (hr.mono (by decide)) _) hot (pa_cons (pv 1) pa_nil))))))
      (pss_one (ps_ret (pe_tup (pa_cons (pv 5) (pa_cons (pv 4) pa_nil)))))))), ?_⟩
  walk_at "rd"
  refine ⟨a, ns, i, rfl, hS, hB, hl, hi1, hi2, fun c k h0 hx => ?_, fun hx => qe ?_⟩
  rotate_left
  · rcases hx with hx | hx
    · exact .inl hx
    · refine .inr ?_
      unfold rdLs
      rw [hx]
      rfl
  have hk := rdN_ok _ _ _ _ hx
  rw [List.length_drop] at hk
  refine r_ret1 (Own.nil H) fun p1 H1 o1 => ?_
  walk_at "rd"
  refine r_newL o1 (Nat.zero_le _) fun p2 H2 o2 => ?_
  walk_at "rd"
  obtain ⟨i0, rfl⟩ : ∃ i0 : Nat, i = i0 := ⟨i.toNat, by omega⟩
  have ht : rdLs one (ns.drop i0) = (rdL one (ns.length - i0 + 1) c (ns.drop (i0 + k))).map fun q => (q.1, k + q.2) := by
    unfold rdLs
    rw [show rdN (ns.drop i0) true = some (c, k) from hx]
    show (rdL one ((ns.drop i0).length + 1) c ((ns.drop i0).drop k)).map _ = _
    rw [List.length_drop, List.drop_drop]
  rw [show ((i0 : Nat) : Int).toNat = i0 from rfl] at q qe hk
  generalize rdLs one (ns.drop i0) = tot at *
  refine whileB (fun m σ' H' => ∃ (xs : List Int) (b g : Nat) (v6 : Option V) (L : List (Addr × HO)), m = ns.length - b ∧ b ≤ ns.length ∧ ns.length - b < g ∧ i0 ≤ b ∧ xs.length ≤ b ∧ σ' = [some (.ref a), some (.int (i0 : Int)), some (.ref fo), some (.int c), some (.int (b : Int)), some (.ref p2), v6] ∧
    tot = (rdL one g (c - (xs.length : Int)) (ns.drop b)).map (fun q => (xs ++ q.1, (b - i0) + q.2)) ∧ Own H H' ((p2, .lst (xs.map V.int)) :: L)) (ns.length - (i0 + k))
    ⟨[], i0 + k, ns.length - i0 + 1, _, _, rfl, by omega, by omega, by omega, Nat.zero_le _, (by rw [show ((i0 : Int) + (k : Int)) = ((i0 + k : Nat) : Int) by omega]; rfl), (by rw [ht, List.length_nil, show c - ((0 : Nat) : Int) = c by omega, show i0 + k - i0 = k by omega]; rfl), o2⟩ ?_
  rintro m σ' H' ⟨xs, b, g, v6, L, rfl, hb, hg, hib, hxb, rfl, ht2, o⟩
  walk_at "rd"
  rw [List.length_map]
  refine rif (fun h1 => ?_) fun h1 => ?_
  · refine wh_turn ?_
    obtain ⟨g, rfl⟩ : ∃ g2, g = g2 + 1 := ⟨g - 1, by omega⟩
    walk_at "rd"
    refine ⟨a, ns, (b : Int), rfl, o.old hS, hB, hl, by omega, by omega, fun x k2 _ hx2 => ?_, fun hx2 => ?_⟩
    · rw [show ((b : Nat) : Int).toNat = b from rfl] at hx2
      have hk2 := hone _ _ _ hx2
      rw [List.length_drop] at hk2
      rw [rdL_some (by omega) hx2] at ht2
      refine r_ret1 o fun p3 H3 o3 => ?_
      walk_at "rd"
      refine r_app o3 1 rfl (by rw [List.length_map]; omega) fun H4 o4 => ?_
      have o5 : Own H H4 ((p2, .lst ((xs ++ [x]).map V.int)) :: _) := (by
        rw [List.map_append]
        exact o4.cons_of (o4.pick1 0 rfl) (List.mem_of_getElem? (i := 1) rfl) fun q2 hq2 => by rw [List.mem_singleton.mp hq2]; exact o4.nei (i := 0) (j := 1) rfl rfl (by decide))
      refine ⟨ns.length - (b + k2), by omega, xs ++ [x], b + k2, g, _, _, rfl, by omega, by omega, by omega, (by rw [List.length_append]; show xs.length + 1 ≤ _; omega), (by rw [show ((b + k2 : Nat) : Int) = (b : Int) + (k2 : Int) by omega]; rfl), ?_, o5⟩
      · rw [ht2, List.drop_drop, List.length_append, show c - (xs.length : Int) - 1 = c - ((xs.length + [x].length : Nat) : Int) by show _ = c - ((xs.length + 1 : Nat) : Int); omega, Option.map_map]
        congr 1
        funext q2
        show (xs ++ (x :: q2.1), b - i0 + (k2 + q2.2)) = (xs ++ [x] ++ q2.1, b + k2 - i0 + q2.2)
        rw [List.append_assoc]
        congr 1
        omega
    · have hn : one (ns.drop b) = none := by
        rcases hx2 with hx2 | hx2
        · omega
        · exact hx2
      rw [rdL_none (by omega) hn] at ht2
      refine r_retE o fun d H3 hd o3 => ?_
      refine wo_yes (R.c_Unreadable.exm R.s_Unreadable_Unreadable) fun a0 na => ?_
      walk_at "rd"
      refine r_raise ⟨_, rfl, rfl, ?_, fun d2 hd2 => (qe (.inr ht2)).mk o3 hd2⟩
      intro u hu
      rw [List.mem_singleton.mp hu]
      exact tell_small ⟨by omega, by omega⟩
  · rw [rdL_0 one (by omega)] at ht2
    walk_at "rd"
    refine r_newT o (Nat.le_of_ble_eq_true rfl) fun p3 H3 o3 => ?_
    have z := q _ _ (by omega) ht2
    rw [List.append_nil, Nat.add_zero] at z
    refine z.mk o3 0 1 (by rw [show (i0 : Int) + ((b - i0 : Nat) : Int) = (b : Int) by omega]; rfl) rfl
theorem d_read_integers {C_TesseraError C_Unreadable C_Damaged : Addr} (T : Top K mg) (R : Errs K mg C_TesseraError C_Unreadable C_Damaged) (E_Unreadable : EDef P w K mg base C_Unreadable "Unreadable" ["self", "index"] (sp_i1 C_Unreadable "index")) (EH_Unreadable : EDefH P w K mg base C_Unreadable "Unreadable" ["self", "index"] (sp_i1 C_Unreadable "index")) : Def P w K mg base (L2.CX P w) 9 "read_integers" ["values", "index"] (sp_ls rdZ K C_Unreadable) := by
  obtain ⟨fa_read_integer, fd1, F1, hm_read_integer, hk1, hb1⟩ := (d_read_integer (P := P) (w := w) (base := base) T E_Unreadable).ex
  have G_read_list : Def P w K mg base (L2.CX P w) 8 "read_list" ["values", "index", "read_one"] (sp_rlist rdZ K C_Unreadable fa_read_integer) := d_rlist rdZ_ok T R E_Unreadable EH_Unreadable ⟨fd1, _, F1.mono (by decide), hk1, hb1⟩
  refine T.f_read_integers.okX sc_read_integers (by rintro vs H Q E ⟨a, ns, i, rfl, _⟩; rfl) (fun f cdv A outer s H vs Q E hr h => ?_)
  obtain ⟨a, ns, i, rfl, hS, hB, hl, hi1, hi2, q, qe⟩ := h
  refine ⟨_, (pss_one (ps_ret (pe_callX G_read_list (L2.takes_of rfl rfl rfl rfl) (hr.mono (by decide)) (pa_cons (pv 0) (pa_cons (pv 1) (pa_cons (pe_glob (v := .ref fa_read_integer) rfl hm_read_integer rfl) pa_nil)))))), ?_⟩
  walk_at "rd"
  exact ⟨a, ns, i, rfl, hS, hB, hl, hi1, hi2, q, qe⟩
def sp_write_integer : Sp := fun vs H Q _ => ∃ z : Int, vs = [.int z] ∧ (intB z).length ≤ 1000000 ∧ RetO H Q (.lst ((intB z).map V.int))
theorem d_write_integer (T : Top K mg) : Def P w K mg base CX0 2 "write_integer" ["number"] sp_write_integer := by
  have G_write_number : Def P w K mg base CX0 1 "write_number" ["number"] sp_write_number := d_write_number T
  refine T.f_write_integer.ok sc_write_integer (by rintro vs H Q E ⟨z, rfl, _⟩; rfl) (fun f cdv A outer s H vs Q E hr h => ?_)
  obtain ⟨z, rfl, hl, q⟩ := h
  refine ⟨_, (pss_cons (ps_if (pt_cmpR op_lt (pv 0) pe_int (nomark _)) (pss_one (ps_ret (pe_callD G_write_number (hr.mono (by decide)) (pa_cons (pe_op op_sub (pe_op op_mul (pe_un un_neg pe_int) (pv 0)) pe_int) pa_nil)))) pss_nil)
      (pss_one (ps_ret (pe_callD G_write_number (hr.mono (by decide)) (pa_cons (pe_op op_mul pe_int (pv 0)) pa_nil))))), ?_⟩
  walk_at "rd"
  unfold intB zz at hl q
  refine rif (fun h1 => ?_) fun h1 => ?_
  · rw [if_pos h1] at hl q
    walk_at "rd"
    exact ⟨(-2 * z - 1).toNat, by rw [show (((-2 * z - 1).toNat : Nat) : Int) = -2 * z - 1 by omega]; rfl, hl, q⟩
  · rw [if_neg h1] at hl q
    walk_at "rd"
    exact ⟨(2 * z).toNat, by rw [show (((2 * z).toNat : Nat) : Int) = 2 * z by omega]; rfl, hl, q⟩
end

section
variable {P : Program} {w : World} {K : PySem.W.Frag} {mg : Str → Option Value} {base : Heap}
theorem lsI_len21 {zs : List Int} (hz : ∀ z ∈ zs, (intB z).length ≤ 21) (hl : zs.length ≤ 1000) : (lsB intB zs).length ≤ 21021 := by
  have hn := numB_len 20 zs.length (Nat.lt_of_le_of_lt hl (by decide))
  have hfl := flat_le (wr := intB) (m := 21) zs hz
  unfold lsB
  rw [List.length_append]
  omega
def sp_write_integersQ (K : PySem.W.Frag) : Sp := fun vs H Q _ => ∃ (a : Addr) (zs : List Int), vs = [.ref a] ∧ SqS K H a (zs.map V.int) ∧ (∀ z ∈ zs, (intB z).length ≤ 21) ∧ zs.length ≤ 1000 ∧ RetO H Q (.lst ((lsB intB zs).map V.int))
theorem d_write_integersQ (T : Top K mg) : Def P w K mg base CX0 3 "write_integers" ["numbers"] (sp_write_integersQ K) := by
  have G_write_number : Def P w K mg base CX0 1 "write_number" ["number"] sp_write_number := d_write_number T
  have G_write_integer : Def P w K mg base CX0 2 "write_integer" ["number"] sp_write_integer := d_write_integer T
  refine T.f_write_integers.ok sc_write_integers (by rintro vs H Q E ⟨a, zs, rfl, _⟩; rfl) (fun f cdv A outer s H vs Q E hr h => ?_)
  obtain ⟨a, zs, rfl, hS, hz, hl, q⟩ := h
  have hn := numB_len 20 zs.length (Nat.lt_of_le_of_lt hl (by decide))
  refine ⟨_, (pss_cons (ps_set (i := 1) sc_write_integers.nd rfl (Or.inl rfl) (pe_callD G_write_number (hr.mono (by decide)) (pa_cons (pe_callB (r := Evl.rLenS K) call_len_seq (by rfl) T.b_len (by decide +kernel) (pa_cons (pv 0) pa_nil)) pa_nil)))
      (pss_cons (ps_for PassesOwn.never rfl (pi_seq (pv 0)) (pg_name (i := 2) sc_write_integers.nd rfl (Or.inl rfl)) (pss_one (ps_expr (pe_bm PySem.F.plainAttrs_list PySem.F.slot_list_extend PySem.F.type_list_extend mt_extend (pv 1) (pa_cons (pe_callD G_write_integer (hr.mono (by decide)) (pa_cons (pv 2) pa_nil)) pa_nil)))))
      (pss_one (ps_ret (pv 1))))), ?_⟩
  walk_at "rd"
  refine r_lenQ hS ?_
  walk_at "rd"
  refine ⟨zs.length, by rw [List.length_map]; rfl, by omega, r_ret1 (Own.nil H) fun p1 H1 o1 => ?_⟩
  walk_at "rd"
  refine r_iSeq ?_
  walk_at "rd"
  refine forQ hS (fun i σ' H' => ∃ (v : Option V) (L : List (Addr × HO)), σ' = [some (.ref a), some (.ref p1), v] ∧ Own H H' ((p1, .lst ((numB zs.length ++ (zs.take i).flatMap intB).map V.int)) :: L)) ⟨_, [], rfl, (by rw [List.take_zero, List.flatMap_nil, List.append_nil]; exact o1)⟩ (fun i σ' H' _ ⟨_, _, _, o⟩ => o.ex) ?_ ?_
  · rintro i x σ' H' hx ⟨v, L, rfl, o⟩
    obtain ⟨z, hv, rfl⟩ := get_ints hx
    have hzz := hz z (List.mem_of_getElem? hv)
    walk_at "rd"
    refine ⟨z, rfl, by omega, r_ret1 o fun p2 H2 o2 => ?_⟩
    walk_at "rd"
    have hfi := flat_le (wr := intB) (m := 21) (zs.take i) fun z hz2 => hz z (List.mem_of_mem_take hz2)
    have htl : (zs.take i).length ≤ zs.length := by rw [List.length_take]; omega
    refine r_ext o2 1 0 rfl rfl (by rw [List.length_map, List.length_map, List.length_append]; omega) fun H3 o3 => ?_
    rw [← List.map_append, List.append_assoc, ← take_flat hv] at o3
    exact ⟨_, [], rfl, o3.pick1 1 rfl⟩
  · rintro σ' H' ⟨v, L, rfl, o⟩
    rw [List.length_map, List.take_length] at o
    walk_at "rd"
    exact q.mk o 0 rfl
end

section
variable {P : Program} {w : World} {K : PySem.W.Frag} {mg : Str → Option Value} {base : Heap}
theorem r_revL {te : TE} {σ : L2.St} {H : Hp} {Q : VK} (q : te σ H fun x H1 => ∃ a xs, x = .ref a ∧ SqL K H1 a xs ∧ ∀ p, H1 p = none → Q (.ref p) (upd H1 p (.lst xs.reverse))) : tRevL K te σ H Q := q
def dg : Nat → Int → List Int
  | 0, _ => []
  | w + 1, v => v % 250 :: dg w (v / 250)
theorem dg_len : ∀ (w : Nat) (v : Int), (dg w v).length = w
  | 0, _ => rfl
  | w + 1, v => by show (dg w (v / 250)).length + 1 = w + 1; rw [dg_len w]
theorem dg_b : ∀ (w : Nat) (v : Int), ∀ x ∈ dg w v, 0 ≤ x ∧ x < 250
  | 0, _ => fun _ h => nomatch h
  | w + 1, v => fun x hx => by
    rcases List.mem_cons.mp hx with rfl | h
    · omega
    · exact dg_b w _ x h
def w8 (v : Int) : List Int := (dg 8 v).reverse
def rd8 (ds : List Int) : Int := ds.foldl (fun n d => n * 250 + d) 0
theorem rd8_snoc {ds : List Int} {i : Nat} {d : Int} (h : ds[i]? = some d) : rd8 (ds.take (i + 1)) = rd8 (ds.take i) * 250 + d := by
  rw [List.take_add_one, h]
  unfold rd8
  rw [List.foldl_append]
  rfl
theorem rd8_b : ∀ (ds : List Int), (∀ x ∈ ds, 0 ≤ x ∧ x < 256) → ds.length ≤ 8 → 0 ≤ rd8 ds ∧ rd8 ds < 256 ^ ds.length := by
  intro ds
  suffices h : ∀ (ds : List Int) (n : Int) (j : Nat), (∀ x ∈ ds, 0 ≤ x ∧ x < 256) → 0 ≤ n → n < 256 ^ j → 0 ≤ ds.foldl (fun n d => n * 250 + d) n ∧ ds.foldl (fun n d => n * 250 + d) n < 256 ^ (j + ds.length) by
    intro hb _
    have := h ds 0 0 hb (by omega) (by decide)
    rw [Nat.zero_add] at this
    exact this
  intro ds
  induction ds with
  | nil => intro n j _ h0 h1; exact ⟨h0, h1⟩
  | cons d ds ih =>
    intro n j hb h0 h1
    have hd := hb d List.mem_cons_self
    have := ih (n * 250 + d) (j + 1) (fun x hx => hb x (List.mem_cons_of_mem _ hx)) (by omega) (by rw [Int.pow_succ]; omega)
    rw [List.length_cons, show j + (ds.length + 1) = j + 1 + ds.length by omega]
    exact this
theorem w8_len (v : Int) : (w8 v).length = 8 := by unfold w8; rw [List.length_reverse, dg_len]
theorem w8_b (v : Int) : ∀ x ∈ w8 v, 0 ≤ x ∧ x < 250 := fun x hx => dg_b 8 v x (List.mem_reverse.mp hx)
def told (b a l : Int) : List Int := w8 b ++ w8 a ++ w8 l
def sealL (b a l : Int) : List Int := [255] ++ told b a l ++ chk (told b a l) ++ [254]
theorem told_len (b a l : Int) : (told b a l).length = 24 := by unfold told; rw [List.length_append, List.length_append, w8_len, w8_len, w8_len]
theorem seal_len (b a l : Int) : (sealL b a l).length = 28 := by unfold sealL; rw [List.length_append, List.length_append, List.length_append, told_len]; rfl
def sp_w8 : Sp := fun vs H Q _ => ∃ (v : Int), vs = [.int v] ∧ 0 ≤ v ∧ RetO H Q (.lst ((w8 v).map V.int))
theorem d_write_eight (T : Top K mg) : Def P w K mg base CX0 1 "write_eight" ["number"] sp_w8 := by
  obtain ⟨t1, g_NUMBER_LENGTH⟩ := T.g_NUMBER_LENGTH
  obtain ⟨t2, g_NUMBER_BASE⟩ := T.g_NUMBER_BASE
  refine T.f_write_eight.ok sc_write_eight (by rintro vs H Q E ⟨v, rfl, _⟩; rfl) (fun f cdv A outer s H vs Q E hr h => ?_)
  obtain ⟨v, rfl, h0, q⟩ := h
  refine ⟨_, (pss_cons (ps_set (i := 1) sc_write_eight.nd rfl (Or.inl rfl) (pe_lst pa_nil))
      (pss_cons (ps_set (i := 2) sc_write_eight.nd rfl (Or.inl rfl) (pv 0))
      (pss_cons (ps_for PassesOwn.never rfl (pi_range1 (by rfl) T.b_range (pa_cons (pe_glob (v := .int 8) rfl g_NUMBER_LENGTH ⟨_, rfl⟩) pa_nil)) (pg_name (i := 3) sc_write_eight.nd rfl (Or.inl rfl)) (pss_cons (ps_expr (pe_bm PySem.F.plainAttrs_list PySem.F.slot_list_append PySem.F.type_list_append mt_append (pv 1) (pa_cons (pe_op op_mod (pv 2) (pe_glob (v := .int 250) rfl g_NUMBER_BASE ⟨_, rfl⟩)) pa_nil)))
      (pss_one (ps_set (i := 2) sc_write_eight.nd rfl (Or.inl rfl) (pe_op op_fdiv (pv 2) (pe_glob (v := .int 250) rfl g_NUMBER_BASE ⟨_, rfl⟩))))))
      (pss_one (ps_ret (pe_revL (pv 1))))))), ?_⟩
  walk_at "rd"
  refine r_newL (Own.nil H) (Nat.zero_le _) fun p1 H1 o1 => ?_
  walk_at "rd"
  refine forR1 (n := 8) rfl (by omega) (fun j σ' H' => ∃ (ds : List Int) (r : Int) (v3 : Option V), σ' = [some (.int v), some (.ref p1), some (.int r), v3] ∧ ds.length = j ∧ ds ++ dg (8 - j) r = dg 8 v ∧ Own H H' [(p1, .lst (ds.map V.int))]) ⟨[], _, _, rfl, rfl, rfl, o1⟩ ?_ ?_
  · rintro j σ' H' hj ⟨ds, r, v3, rfl, hdl, hde, o⟩
    walk_at "rd"
    refine r_app o 0 rfl (by rw [List.length_map]; omega) fun H2 o2 => ?_
    walk_at "rd"
    refine ⟨ds ++ [r % 250], _, _, rfl, by rw [List.length_append, hdl]; rfl, ?_, ?_⟩
    · rw [show 8 - j = (8 - (j + 1)) + 1 by omega] at hde
      rw [← hde, List.append_assoc]
      rfl
    · rw [List.map_append]
      exact o2
  · rintro σ' H' ⟨ds, r, v3, rfl, hdl, hde, o⟩
    rw [Nat.sub_self] at hde
    have hde2 : ds = dg 8 v := by rw [← hde]; exact (List.append_nil ds).symm
    subst hde2
    walk_at "rd"
    refine r_revL ?_
    walk_at "rd"
    refine ⟨p1, _, rfl, o.sqL 0 rfl, fun p2 hp2 => ?_⟩
    have o2 := o.new (u := .lst ((dg 8 v).map V.int).reverse) hp2
    have e : ((dg 8 v).map V.int).reverse = (w8 v).map V.int := List.map_reverse.symm
    refine q.mk o2 0 ?_
    rw [e]
    rfl
def sp_r8 (K : PySem.W.Frag) : Sp := fun vs H Q _ => ∃ (a : Addr) (ds : List Int), vs = [.ref a] ∧ SqL K H a (ds.map V.int) ∧ (∀ x ∈ ds, 0 ≤ x ∧ x < 256) ∧ ds.length ≤ 8 ∧ Q (.int (rd8 ds)) H
theorem d_read_eight (T : Top K mg) : Def P w K mg base CX0 1 "read_eight" ["digits"] (sp_r8 K) := by
  obtain ⟨t2, g_NUMBER_BASE⟩ := T.g_NUMBER_BASE
  refine T.f_read_eight.ok sc_read_eight (by rintro vs H Q E ⟨a, ds, rfl, _⟩; rfl) (fun f cdv A outer s H vs Q E hr h => ?_)
  obtain ⟨a, ds, rfl, hS, hb, hl, q⟩ := h
  refine ⟨_, (pss_cons (ps_set (i := 1) sc_read_eight.nd rfl (Or.inl rfl) pe_int)
      (pss_cons (ps_for PassesOwn.never rfl (pi_list (pv 0)) (pg_name (i := 2) sc_read_eight.nd rfl (Or.inl rfl)) (pss_one (ps_set (i := 1) sc_read_eight.nd rfl (Or.inl rfl) (pe_op op_add (pe_op op_mul (pv 1) (pe_glob (v := .int 250) rfl g_NUMBER_BASE ⟨_, rfl⟩)) (pv 2)))))
      (pss_one (ps_ret (pv 1))))), ?_⟩
  walk_at "rd"
  refine forL hS (fun i σ' H' => H' = H ∧ ∃ v, σ' = [some (.ref a), some (.int (rd8 (ds.take i))), v]) ⟨rfl, _, rfl⟩ (fun i σ' H' _ ⟨e, _⟩ => by rw [e]; exact hS) ?_ ?_
  · rintro i x σ' H' hx ⟨rfl, v, rfl⟩
    obtain ⟨z, hv, rfl⟩ : ∃ z, ds[i]? = some z ∧ x = .int z := by
      rw [List.getElem?_map] at hx
      cases h2 : ds[i]? with
      | none => rw [h2] at hx; cases hx
      | some v => rw [h2] at hx; cases hx; exact ⟨v, rfl, rfl⟩
    walk_at "rd"
    rw [← rd8_snoc hv]
    exact ⟨rfl, _, rfl⟩
  · rintro σ' H' ⟨rfl, v, rfl⟩
    rw [List.length_map, List.take_length]
    walk_at "rd"
    exact q
def sp_make_seal (K : PySem.W.Frag) : Sp := fun vs H Q _ => ∃ (b a l : Int) (t : Addr), vs = [.int b, .ref t] ∧ SqT K H t (([a, l] : List Int).map V.int) ∧ 0 ≤ b ∧ 0 ≤ a ∧ 0 ≤ l ∧ RetO H Q (.lst ((sealL b a l).map V.int))
theorem d_make_seal (T : Top K mg) : Def P w K mg base CX0 2 "make_seal" ["batch", "root"] (sp_make_seal K) := by
  have G_write_eight : Def P w K mg base CX0 1 "write_eight" ["number"] sp_w8 := d_write_eight T
  have G_check_of : Def P w K mg base CX0 1 "check_of" ["values"] (sp_check_of K) := d_check_of T
  obtain ⟨t1, g_FIRST_BYTE⟩ := T.g_FIRST_BYTE
  obtain ⟨t2, g_LAST_BYTE⟩ := T.g_LAST_BYTE
  refine T.f_make_seal.ok sc_make_seal (by rintro vs H Q E ⟨b, a, l, t, rfl, _⟩; rfl) (fun f cdv A outer s H vs Q E hr h => ?_)
  obtain ⟨b, a, l, t, rfl, hT, h0, h1, h2, q⟩ := h
  refine ⟨_, (pss_cons (ps_asg (pv 1) (pg_tup (n := 2) rfl (pgs_cons (pg_name (i := 2) sc_make_seal.nd rfl (Or.inl rfl)) (pgs_cons (pg_name (i := 3) sc_make_seal.nd rfl (Or.inl rfl)) pgs_nil))))
      (pss_cons (ps_set (i := 4) sc_make_seal.nd rfl (Or.inl rfl) (pe_op op_cat (pe_op op_cat (pe_callD G_write_eight (hr.mono (by decide)) (pa_cons (pv 0) pa_nil)) (pe_callD G_write_eight (hr.mono (by decide)) (pa_cons (pv 2) pa_nil))) (pe_callD G_write_eight (hr.mono (by decide)) (pa_cons (pv 3) pa_nil))))
      (pss_one (ps_ret (pe_op op_cat (pe_op op_cat (pe_op op_cat (pe_lst (pa_cons (pe_glob (v := .int 255) rfl g_FIRST_BYTE ⟨_, rfl⟩) pa_nil)) (pv 4)) (pe_callD G_check_of (hr.mono (by decide)) (pa_cons (pv 4) pa_nil))) (pe_lst (pa_cons (pe_glob (v := .int 254) rfl g_LAST_BYTE ⟨_, rfl⟩) pa_nil))))))), ?_⟩
  walk_at "rd"
  refine ⟨_, rfl, h0, r_ret1 (Own.nil H) fun p1 H1 o1 => ?_⟩
  walk_at "rd"
  refine ⟨_, rfl, h1, r_ret1 o1 fun p2 H2 o2 => ?_⟩
  refine r_cat o2 (o2.at 1 rfl) (o2.at 0 rfl) (by rw [List.length_map, List.length_map, w8_len, w8_len]; omega) fun p3 H3 o3 => ?_
  rw [← List.map_append] at o3
  walk_at "rd"
  refine ⟨_, rfl, h2, r_ret1 o3 fun p4 H4 o4 => ?_⟩
  refine r_cat o4 (o4.at 1 rfl) (o4.at 0 rfl) (by rw [List.length_map, List.length_map, List.length_append, w8_len, w8_len, w8_len]; omega) fun p5 H5 o5 => ?_
  rw [← List.map_append] at o5
  have o6 : Own H H5 [(p5, .lst ((told b a l).map V.int))] := o5.pick1 0 rfl
  have htl := told_len b a l
  walk_at "rd"
  refine r_newL o6 (Nat.le_of_ble_eq_true rfl) fun p7 H7 o7 => ?_
  walk_at "rd"
  refine r_cat o7 (o7.at 0 rfl) (o7.at 1 rfl) (by rw [List.length_map, htl]; decide) fun p8 H8 o8 => ?_
  have o8 : Own H H8 ((p8, .lst (([255] ++ told b a l).map V.int)) :: _) := o8
  walk_at "rd"
  refine ⟨_, _, rfl, o8.sqL 2 rfl, r_ret1 o8 fun p9 H9 o9 => ?_⟩
  refine r_cat o9 (o9.at 1 rfl) (o9.at 0 rfl) (by rw [List.length_map, List.length_map, List.length_append, htl]; show 1 + 24 + 2 ≤ _; omega) fun p10 H10 o10 => ?_
  rw [← List.map_append] at o10
  walk_at "rd"
  refine r_newL o10 (Nat.le_of_ble_eq_true rfl) fun p11 H11 o11 => ?_
  walk_at "rd"
  refine r_cat o11 (o11.at 1 rfl) (o11.at 0 rfl) (by rw [List.length_map, List.length_append, List.length_append, htl]; show 1 + 24 + 2 + 1 ≤ _; omega) fun p12 H12 o12 => ?_
  have e : ([255] ++ told b a l ++ chk (told b a l)).map V.int ++ [V.int 254] = (sealL b a l).map V.int := by unfold sealL; rw [List.map_append (l₂ := [254])]; rfl
  rw [e] at o12
  exact q.mk o12 0 rfl
theorem sIx_neg (n d : Nat) {k : Nat} (h : 0 < k) : HT.sIx n d (some (-(k : Int))) = n - k := by
  show (if (-(k : Int)) < 0 then (-(k : Int) + (n : Int)).toNat else min (-(k : Int)).toNat n) = n - k
  rw [if_pos (by omega)]
  omega
def wholeB (f : List Int) : Bool := decide (f.length = 28) && (decide (gi f 0 = 255) && (decide (gi f 27 = 254) && (decide (∀ x ∈ (f.drop 1).take 26, x ≤ 249) && decide (chk ((f.drop 1).take 24) = (f.drop 25).take 2))))
theorem cutA {f : List V} (h : f.length = 28) : cutV f (some 1) (some (-1)) = (f.drop 1).take 26 := by
  unfold cutV
  rw [h, show (-1 : Int) = -((1 : Nat) : Int) from rfl, sIx_neg 28 28 (by decide), show (1 : Int) = ((1 : Nat) : Int) from rfl, HT.sIx_nat]
  rfl
theorem cutB {f : List V} (h : f.length = 28) : cutV f (some 1) (some (-3)) = (f.drop 1).take 24 := by
  unfold cutV
  rw [h, show (-3 : Int) = -((3 : Nat) : Int) from rfl, sIx_neg 28 28 (by decide), show (1 : Int) = ((1 : Nat) : Int) from rfl, HT.sIx_nat]
  rfl
theorem cutC {f : List V} (h : f.length = 28) : cutV f (some (-3)) (some (-1)) = (f.drop 25).take 2 := by
  unfold cutV
  rw [h, show (-1 : Int) = -((1 : Nat) : Int) from rfl, show (-3 : Int) = -((3 : Nat) : Int) from rfl, sIx_neg 28 28 (by decide), sIx_neg 28 0 (by decide)]
def sp_is_ws (K : PySem.W.Frag) : Sp := fun vs H Q _ => ∃ (a : Addr) (f : List Int), vs = [.ref a] ∧ SqL K H a (f.map V.int) ∧ RetV H Q (.bl (wholeB f))
theorem d_is_ws (T : Top K mg) : Def P w K mg base CX0 2 "is_whole_seal" ["found"] (sp_is_ws K) := by
  have G_check_of : Def P w K mg base CX0 1 "check_of" ["values"] (sp_check_of K) := d_check_of T
  obtain ⟨t1, g_FIRST_BYTE⟩ := T.g_FIRST_BYTE
  obtain ⟨t2, g_LAST_BYTE⟩ := T.g_LAST_BYTE
  obtain ⟨t3, g_SEAL_LENGTH⟩ := T.g_SEAL_LENGTH
  obtain ⟨t4, g_HIGHEST_BYTE⟩ := T.g_HIGHEST_BYTE
  refine T.f_is_whole_seal.ok sc_is_whole_seal (by rintro vs H Q E ⟨a, f, rfl, _⟩; rfl) (fun f cdv A outer s H vs Q E hr h => ?_)
  obtain ⟨a, f, rfl, hS, q⟩ := h
  refine ⟨_, (pss_cons (ps_if (PW.pt (pw_or (pt_cmpR op_ne (pe_callB (r := Evl.rLenS K) call_len_seq (by rfl) T.b_len (by decide +kernel) (pa_cons (pv 0) pa_nil)) (pe_glob (v := .int 28) rfl g_SEAL_LENGTH ⟨_, rfl⟩) (nomark _)) (pw_or (pt_cmpR op_ne (pe_ix (r := rIxL K) ix_list (pv 0) pe_int (fun _ _ => rfl)) (pe_glob (v := .int 255) rfl g_FIRST_BYTE ⟨_, rfl⟩) (nomark _)) (pw_or1 (pt_cmpR op_ne (pe_ix (r := rIxL K) ix_list (pv 0) (pe_un un_neg pe_int) (fun _ _ => rfl)) (pe_glob (v := .int 254) rfl g_LAST_BYTE ⟨_, rfl⟩) (nomark _)))))) (pss_one (ps_ret pe_bl)) pss_nil)
      (pss_one (ps_ret (pe_and (pe_cmpR op_le (pe_callB (r := rMax K) (cr_max rfl) (by rfl) T.b_max (by decide +kernel) (pa_cons (pe_slice (r := rSlL K) sl_list (pv 0) (po_some pe_int) (po_some (pe_un un_neg pe_int))) pa_nil)) (pe_glob (v := .int 249) rfl g_HIGHEST_BYTE ⟨_, rfl⟩) (nomark _)) (pe_one (pe_cmpR (r := rEqD K) (op_eqD hr.units) (pe_callD G_check_of (hr.mono (by decide)) (pa_cons (pe_slice (r := rSlL K) sl_list (pv 0) (po_some pe_int) (po_some (pe_un un_neg pe_int))) pa_nil)) (pe_slice (r := rSlL K) sl_list (pv 0) (po_some (pe_un un_neg pe_int)) (po_some (pe_un un_neg pe_int))) (nomark _))))))), ?_⟩
  unfold wholeB at q
  walk_at "rd"
  by_cases h1 : f.length = 28
  case neg =>
    rw [decide_eq_false h1] at q
    refine rif_nno (by rw [List.length_map]; omega) ?_
    walk_at "rd"
    exact q.here
  rw [decide_eq_true h1, Bool.true_and] at q
  refine rif_nyes (by rw [List.length_map]; omega) ?_
  walk_at "rd"
  by_cases h2 : gi f 0 = 255
  case neg =>
    rw [decide_eq_false h2] at q
    refine rif_nno h2 ?_
    walk_at "rd"
    exact q.here
  rw [decide_eq_true h2, Bool.true_and] at q
  refine rif_nyes h2 ?_
  walk_at "rd"
  refine r_ixL hS (at_neg (d := 1) (by decide) (by omega)) ?_
  rw [show ((f.length : Nat) : Int) - ((1 : Nat) : Int) = 27 by omega]
  walk_at "rd"
  by_cases h3 : gi f 27 = 254
  case neg =>
    rw [decide_eq_false h3] at q
    refine rif_nno h3 ?_
    walk_at "rd"
    exact q.here
  rw [decide_eq_true h3, Bool.true_and] at q
  refine rif_nyes h3 ?_
  walk_at "rd"
  have hml : (f.map V.int).length = 28 := by rw [List.length_map, h1]
  refine r_slL (Own.nil H) hS fun p1 H1 o1 => ?_
  rw [cutA hml, ← List.map_drop, ← List.map_take] at o1
  walk_at "rd"
  refine ⟨_, _, rfl, o1.sqL 0 rfl, by rw [List.length_take, List.length_drop]; omega, fun m hm hmx => ?_⟩
  walk_at "rd"
  have h4 : (m ≤ 249) ↔ ∀ x ∈ (f.drop 1).take 26, x ≤ 249 := ⟨fun h x hx => Int.le_trans (hmx x hx) h, fun h => h m hm⟩
  by_cases h5 : m ≤ 249
  case neg =>
    rw [decide_eq_false (fun h => h5 (h4.mpr h))] at q
    refine rif_no h5 ?_
    exact q.mk o1
  rw [decide_eq_true (h4.mp h5), Bool.true_and] at q
  refine rif_yes h5 ?_
  walk_at "rd"
  refine r_slL o1 (o1.old hS) fun p2 H2 o2 => ?_
  rw [cutB hml, ← List.map_drop, ← List.map_take] at o2
  walk_at "rd"
  refine ⟨_, _, rfl, o2.sqL 0 rfl, r_ret1 o2 fun p3 H3 o3 => ?_⟩
  walk_at "rd"
  refine r_slL o3 (o3.old hS) fun p4 H4 o4 => ?_
  rw [cutC hml, ← List.map_drop, ← List.map_take] at o4
  walk_at "rd"
  refine r_eqLL (o4.sqL 1 rfl) (o4.sqL 0 rfl) ?_
  exact q.mk o4
end

section
variable {P : Program} {w : World} {K : PySem.W.Frag} {mg : Str → Option Value} {base : Heap}
/-- the fields of a disk whose file is the list at l -/
def dkF (l : Addr) : List (Str × V) := [("_file", .ref l)]
def sp_dinit (K : PySem.W.Frag) (C : Addr) : Sp := fun vs H Q _ => ∃ (p a dx : Addr) (xs : List V), vs = [.ref p, .ref a] ∧ H p = some (.ins C dx []) ∧ SqL K H a xs ∧ ∀ l, H l = none → Q .non (upd (upd H l (.lst xs)) p (.ins C dx (dkF l)))
theorem d_dinit {C : Addr} (T : Top K mg) (D : Cl_Disk K mg C) : KDef P w K mg base CX0 1 C ["self", "values"] (sp_dinit K C) := by
  refine D.i_.ok sc_Disk___init__ (by rintro vs H Q E ⟨p, a, dx, xs, rfl, _⟩; rfl) (fun f cdv A outer s H vs Q E hr h => ?_)
  obtain ⟨p, a, dx, xs, rfl, hp, hS, q⟩ := h
  refine ⟨_, (pss_one (ps_fld (pv 0) (pe_callTy (r := Evl.rListS K) call_list_of (by rfl) T.b_list (by decide +kernel) (pa_cons (pv 1) pa_nil)) rfl)), ?_⟩
  walk_at "rd"
  refine ⟨a, xs, rfl, .inl hS, fun l hl => ?_⟩
  walk_at "rd"
  exact ⟨p, C, dx, [], rfl, (upd_ne (ne_of_none hp hl)).trans hp, D.cl, D.a__file, by decide, q l hl⟩
def sp_dpart (K : PySem.W.Frag) (C : Addr) : Sp := fun vs H Q _ => ∃ (p l dx : Addr) (a c : Int) (ns : List Int), vs = [.ref p, .int a, .int c] ∧ H p = some (.ins C dx (dkF l)) ∧ SqL K H l (ns.map V.int) ∧ RetO H Q (.lst (cutV (ns.map V.int) (some a) (some (a + c))))
theorem d_dpart {C : Addr} (T : Top K mg) (D : Cl_Disk K mg C) : MDef P w K mg base CX0 1 C "part" ["self", "address", "count"] (sp_dpart K C) := by
  refine D.m_part.ok sc_Disk_part (by rintro vs H Q E ⟨p, l, dx, a, c, ns, rfl, _⟩; rfl) (fun f cdv A outer s H vs Q E hr h => ?_)
  obtain ⟨p, l, dx, a, c, ns, rfl, hp, hS, q⟩ := h
  refine ⟨_, (pss_one (ps_ret (pe_slice (r := rSlL K) sl_list (pe_fld (pv 0) rfl) (po_some (pv 1)) (po_some (pe_op op_add (pv 1) (pv 2)))))), ?_⟩
  walk_at "rd"
  refine ⟨p, C, dx, dkF l, .ref l, rfl, hp, D.cl, D.a__file, rfl, ?_⟩
  walk_at "rd"
  refine r_slL (Own.nil H) hS fun p3 H3 o3 => ?_
  exact q.mk o3 0 rfl
end

section
variable {P : Program} {w : World} {K : PySem.W.Frag} {mg : Str → Option Value} {base : Heap}
def sp_dlen (K : PySem.W.Frag) (C : Addr) : Sp := fun vs H Q _ => ∃ (p l dx : Addr) (ns : List Int), vs = [.ref p] ∧ H p = some (.ins C dx (dkF l)) ∧ SqL K H l (ns.map V.int) ∧ Q (.int (ns.length : Int)) H
theorem d_dlen {C : Addr} (T : Top K mg) (D : Cl_Disk K mg C) : MDef P w K mg base CX0 1 C "__len__" ["self"] (sp_dlen K C) := by
  refine D.m___len__.ok sc_Disk___len__ (by rintro vs H Q E ⟨p, l, dx, ns, rfl, _⟩; rfl) (fun f cdv A outer s H vs Q E hr h => ?_)
  obtain ⟨p, l, dx, ns, rfl, hp, hS, q⟩ := h
  refine ⟨_, (pss_one (ps_ret (pe_callB (r := Evl.rLenS K) call_len_seq (by rfl) T.b_len (by decide +kernel) (pa_cons (pe_fld (pv 0) rfl) pa_nil)))), ?_⟩
  walk_at "rd"
  refine ⟨p, C, dx, dkF l, .ref l, rfl, hp, D.cl, D.a__file, rfl, ?_⟩
  walk_at "rd"
  rw [List.length_map]
  exact q
end

section
variable {P : Program} {w : World} {K : PySem.W.Frag} {mg : Str → Option Value} {base : Heap}
def sp_dappend (K : PySem.W.Frag) (C : Addr) : Sp := fun vs H Q _ => ∃ (p l dx a : Addr) (ns ms : List Int), vs = [.ref p, .ref a] ∧ H p = some (.ins C dx (dkF l)) ∧ H l = some (.lst (ns.map V.int)) ∧ H a = some (.lst (ms.map V.int)) ∧ ns.length + ms.length ≤ 10000000 ∧ Q .non (upd H l (.lst ((ns ++ ms).map V.int)))
theorem d_dappend {C : Addr} (T : Top K mg) (D : Cl_Disk K mg C) : MDef P w K mg base CX0 1 C "append" ["self", "values"] (sp_dappend K C) := by
  refine D.m_append.ok sc_Disk_append (by rintro vs H Q E ⟨p, l, dx, a, ns, ms, rfl, _⟩; rfl) (fun f cdv A outer s H vs Q E hr h => ?_)
  obtain ⟨p, l, dx, a, ns, ms, rfl, hp, hl, ha, hz, q⟩ := h
  refine ⟨_, (pss_one (ps_expr (pe_bm PySem.F.plainAttrs_list PySem.F.slot_list_extend PySem.F.type_list_extend mt_extend (pe_fld (pv 0) rfl) (pa_cons (pv 1) pa_nil)))), ?_⟩
  walk_at "rd"
  refine ⟨p, C, dx, dkF l, .ref l, rfl, hp, D.cl, D.a__file, rfl, ty_lst hl, ?_⟩
  walk_at "rd"
  refine ⟨l, a, _, _, rfl, rfl, hl, ha, sz100 (by rw [List.length_map, List.length_map]; exact hz), ?_⟩
  rw [List.map_append] at q
  exact q
end

section
variable {P : Program} {w : World} {K : PySem.W.Frag} {mg : Str → Option Value} {base : Heap}
def sealD (r : List Int) : PyData := .tuple [.int (rd8 ((r.drop 1).take 8)), .tuple [.int (rd8 ((r.drop 9).take 8)), .int (rd8 ((r.drop 17).take 8))]]
theorem cut_at (fs : List Int) (n c : Nat) : cutV (fs.map V.int) (some (n : Int)) (some ((n : Int) + (c : Nat))) = ((fs.drop n).take c).map V.int := by
  rw [show (n : Int) + (c : Nat) = ((n + c : Nat) : Int) by omega, cut_both, ← List.map_drop, ← List.map_take, show n + c - n = c by omega]
def sp_seal_at (K : PySem.W.Frag) (C : Addr) : Sp := fun vs H Q _ => ∃ (p l dx : Addr) (n : Nat) (fs : List Int), vs = [.ref p, .int n] ∧ H p = some (.ins C dx (dkF l)) ∧ SqL K H l (fs.map V.int) ∧ (∀ x ∈ fs, 0 ≤ x ∧ x < 256) ∧
  (wholeB ((fs.drop n).take 28) = false → RetV H Q .non) ∧ (wholeB ((fs.drop n).take 28) = true → RetD K H Q (sealD ((fs.drop n).take 28)))
theorem d_seal_at {C : Addr} (T : Top K mg) (C_Disk : Cl_Disk K mg C) : Def P w K mg base CX0 3 "seal_at" ["disk", "address"] (sp_seal_at K C) := by
  have M_Disk_part : MDef P w K mg base CX0 1 C "part" ["self", "address", "count"] (sp_dpart K C) := d_dpart T C_Disk
  have G_is_whole_seal : Def P w K mg base CX0 2 "is_whole_seal" ["found"] (sp_is_ws K) := d_is_ws T
  have G_read_eight : Def P w K mg base CX0 1 "read_eight" ["digits"] (sp_r8 K) := d_read_eight T
  obtain ⟨t3, g_SEAL_LENGTH⟩ := T.g_SEAL_LENGTH
  refine T.f_seal_at.ok sc_seal_at (by rintro vs H Q E ⟨p, l, dx, n, fs, rfl, _⟩; rfl) (fun f cdv A outer s H vs Q E hr h => ?_)
  obtain ⟨p, l, dx, n, fs, rfl, hp, hS, hb, q0, q1⟩ := h
  refine ⟨_, (pss_cons (ps_if (pt_cmpR op_lt (pv 1) pe_int (nomark _)) (pss_one (ps_ret pe_non)) pss_nil)
      (pss_cons (ps_set (i := 2) sc_seal_at.nd rfl (Or.inl rfl) (pe_methD (pv 0) C_Disk.cl M_Disk_part (hr.mono (by decide)) (pa_cons (pv 1) (pa_cons (pe_glob (v := .int 28) rfl g_SEAL_LENGTH ⟨_, rfl⟩) pa_nil))))
      (pss_cons (ps_if (pt_not (pt_val (pe_callD G_is_whole_seal (hr.mono (by decide)) (pa_cons (pv 2) pa_nil)))) (pss_one (ps_ret pe_non)) pss_nil)
      (pss_one (ps_ret (pe_tup (pa_cons (pe_callD G_read_eight (hr.mono (by decide)) (pa_cons (pe_slice (r := rSlL K) sl_list (pv 2) (po_some pe_int) (po_some pe_int)) pa_nil)) (pa_cons (pe_tup (pa_cons (pe_callD G_read_eight (hr.mono (by decide)) (pa_cons (pe_slice (r := rSlL K) sl_list (pv 2) (po_some pe_int) (po_some pe_int)) pa_nil)) (pa_cons (pe_callD G_read_eight (hr.mono (by decide)) (pa_cons (pe_slice (r := rSlL K) sl_list (pv 2) (po_some pe_int) (po_some pe_int)) pa_nil)) pa_nil))) pa_nil)))))))), ?_⟩
  walk_at "rd"
  refine rif_no (by omega) ?_
  walk_at "rd"
  refine ⟨p, dx, dkF l, rfl, hp, rfl, ?_⟩
  walk_at "rd"
  refine ⟨p, l, dx, _, _, fs, rfl, hp, hS, r_ret1 (Own.nil H) fun p1 H1 o1 => ?_⟩
  rw [show (28 : Int) = ((28 : Nat) : Int) from rfl, cut_at] at o1
  have hrb : ∀ x ∈ (fs.drop n).take 28, 0 ≤ x ∧ x < 256 := fun x hx => hb x (List.mem_of_mem_drop (List.mem_of_mem_take hx))
  generalize (fs.drop n).take 28 = r at *
  walk_at "rd"
  refine ⟨_, _, rfl, o1.sqL 0 rfl, r_retv o1 fun H2 o2 => ?_⟩
  cases hw : wholeB r with
  | false =>
    walk_at "rd"
    exact (q0 hw).mk o2
  | true =>
    have sb : ∀ a c : Nat, ∀ x ∈ (r.drop a).take c, 0 ≤ x ∧ x < 256 := fun a c x hx => hrb x (List.mem_of_mem_drop (List.mem_of_mem_take hx))
    walk_at "rd"
    refine r_slL o2 (o2.sqL 0 rfl) fun p3 H3 o3 => ?_
    rw [show (1 : Int) = ((1 : Nat) : Int) from rfl, show (9 : Int) = ((1 : Nat) : Int) + ((8 : Nat) : Int) from rfl, cut_at] at o3
    walk_at "rd"
    refine ⟨_, _, rfl, o3.sqL 0 rfl, sb 1 8, by rw [List.length_take]; omega, ?_⟩
    walk_at "rd"
    refine r_slL o3 (o3.sqL 1 rfl) fun p4 H4 o4 => ?_
    rw [show (9 : Int) = ((9 : Nat) : Int) from rfl, show (17 : Int) = ((9 : Nat) : Int) + ((8 : Nat) : Int) from rfl, cut_at] at o4
    walk_at "rd"
    refine ⟨_, _, rfl, o4.sqL 0 rfl, sb 9 8, by rw [List.length_take]; omega, ?_⟩
    walk_at "rd"
    refine r_slL o4 (o4.sqL 2 rfl) fun p5 H5 o5 => ?_
    rw [show (17 : Int) = ((17 : Nat) : Int) from rfl, show (25 : Int) = ((17 : Nat) : Int) + ((8 : Nat) : Int) from rfl, cut_at] at o5
    walk_at "rd"
    refine ⟨_, _, rfl, o5.sqL 0 rfl, sb 17 8, by rw [List.length_take]; omega, ?_⟩
    walk_at "rd"
    refine r_newTi (K := K) [_, _] rfl o5 (Nat.le_of_ble_eq_true rfl) fun t6 H6 s6 o6 h6 => ?_
    walk_at "rd"
    refine r_newTp (K := K) (ds := [.int _, .tuple (([_, _] : List Int).map PyData.int)]) o6 (.cons (.int _) (.cons (Tp.intsT h6) .nil)) (Nat.le_of_ble_eq_true rfl) fun t7 H7 s7 o7 tt => ?_
    exact (q1 hw).mk o7 tt
end

section
variable {P : Program} {w : World} {K : PySem.W.Frag} {mg : Str → Option Value} {base : Heap}
theorem sIx_m2 (n d : Nat) : HT.sIx n d (some (-2)) = n - 2 := by
  show (if (-2 : Int) < 0 then (-2 + (n : Int)).toNat else min (-2 : Int).toNat n) = n - 2
  rw [if_pos (by decide)]
  omega
theorem cut_m (xs : List V) : cutV xs none (some (-2)) = xs.take (xs.length - 2) := by
  unfold cutV
  rw [HT.sIx_none, sIx_m2, List.drop_zero, Nat.sub_zero]
theorem cut_l (xs : List V) : cutV xs (some (-2)) none = xs.drop (xs.length - 2) := by
  unfold cutV
  rw [HT.sIx_none, sIx_m2]
  exact List.take_of_length_le (by rw [List.length_drop]; omega)
theorem cut_1m {xs : List V} (h : 1 ≤ xs.length) : cutV xs (some 1) (some (-2)) = (xs.drop 1).take (xs.length - 3) := by
  unfold cutV
  rw [sIx_m2, show (1 : Int) = ((1 : Nat) : Int) from rfl, HT.sIx_nat, Nat.min_eq_left h, Nat.sub_sub]
/-- the bytes are a record of the kind k -/
def RecOk (k : Int) (fd : List Int) : Prop := 3 ≤ fd.length ∧ gi fd 0 = k ∧ (∀ x ∈ fd, x ≤ 249) ∧ chk (fd.take (fd.length - 2)) = fd.drop (fd.length - 2)
instance (k : Int) (fd : List Int) : Decidable (RecOk k fd) := by unfold RecOk; infer_instance
def recC (fd : List Int) : List Int := (fd.drop 1).take (fd.length - 3)
theorem rec_take (k : Int) (ns : List Int) (a b : Int) : ((k :: ns) ++ [a, b]).take (((k :: ns) ++ [a, b]).length - 2) = k :: ns := by
  rw [List.length_append]
  exact List.take_left
theorem rec_drop (k : Int) (ns : List Int) (a b : Int) : ((k :: ns) ++ [a, b]).drop (((k :: ns) ++ [a, b]).length - 2) = [a, b] := by
  rw [List.length_append]
  exact List.drop_left
theorem rec_mid (k : Int) (ns : List Int) (a b : Int) : (((k :: ns) ++ [a, b]).drop 1).take (((k :: ns) ++ [a, b]).length - 3) = ns := by
  have e : ((k :: ns) ++ [a, b]).length - 3 = ns.length := by simp
  rw [e]
  exact List.take_left
def recD (k : Int) (ns : List Int) : List Int := (k :: ns) ++ chk (k :: ns)
theorem recD_len (k : Int) (ns : List Int) : (recD k ns).length = ns.length + 3 := by unfold recD chk; simp
def B250 (ns : List Int) : Prop := ∀ x ∈ ns, 0 ≤ x ∧ x < 250
theorem recD_b {k : Int} {ns : List Int} (hk : 0 ≤ k ∧ k < 250) (hb : B250 ns) : B250 (recD k ns) := by
  intro x hx
  unfold recD chk at hx
  simp only [List.mem_append, List.mem_cons, List.not_mem_nil, or_false] at hx
  rcases hx with (rfl | h) | rfl | rfl
  · exact hk
  · exact hb x h
  · omega
  · omega
theorem rec_ok {k : Int} {ns : List Int} (hk : 0 ≤ k ∧ k < 250) (hb : B250 ns) : RecOk k (recD k ns) := by
  refine ⟨by rw [recD_len]; omega, rfl, fun x hx => by have := recD_b hk hb x hx; omega, ?_⟩
  rw [show (recD k ns).take ((recD k ns).length - 2) = k :: ns from rec_take k ns _ _]
  exact (rec_drop k ns _ _).symm
theorem recC_d (k : Int) (ns : List Int) : recC (recD k ns) = ns := rec_mid k ns _ _
def sp_make_record (K : PySem.W.Frag) : Sp := fun vs H Q _ => ∃ (k : Int) (a : Addr) (ns : List Int), vs = [.int k, .ref a] ∧ H a = some (.lst (ns.map V.int)) ∧ ns.length ≤ 1000000 ∧ RetO H Q (.lst ((recD k ns).map V.int))
theorem d_make_record (T : Top K mg) : Def P w K mg base CX0 2 "make_record" ["kind", "content"] (sp_make_record K) := by
  have G_check_of : Def P w K mg base CX0 1 "check_of" ["values"] (sp_check_of K) := d_check_of T
  refine T.f_make_record.ok sc_make_record (by rintro vs H Q E ⟨k, a, ns, rfl, _⟩; rfl) (fun f cdv A outer s H vs Q E hr h => ?_)
  obtain ⟨k, a, ns, rfl, hA, hz, q⟩ := h
  refine ⟨_, (pss_cons (ps_set (i := 2) sc_make_record.nd rfl (Or.inl rfl) (pe_op op_cat (pe_lst (pa_cons (pv 0) pa_nil)) (pv 1)))
      (pss_one (ps_ret (pe_op op_cat (pv 2) (pe_callD G_check_of (hr.mono (by decide)) (pa_cons (pv 2) pa_nil)))))), ?_⟩
  walk_at "rd"
  refine r_newL (Own.nil H) (Nat.le_of_ble_eq_true rfl) fun p1 H1 o1 => ?_
  walk_at "rd"
  refine r_cat o1 (o1.at 0 rfl) (o1.ex _ _ hA) (by rw [List.length_map]; show 1 + _ ≤ _; omega) fun p2 H2 o2 => ?_
  have o2 : Own H H2 ((p2, .lst ((k :: ns).map V.int)) :: _) := o2
  walk_at "rd"
  refine ⟨_, _, rfl, o2.sqL 0 rfl, r_ret1 o2 fun p3 H3 o3 => ?_⟩
  refine r_cat o3 (o3.at 1 rfl) (o3.at 0 rfl) (by rw [List.length_map, List.length_map]; show (ns.length + 1) + 2 ≤ _; omega) fun p4 H4 o4 => ?_
  rw [← List.map_append] at o4
  exact q.mk o4 0 rfl
def sp_is_whole (K : PySem.W.Frag) : Sp := fun vs H Q _ => ∃ (a : Addr) (k : Int) (fd : List Int), vs = [.ref a, .int k] ∧ SqL K H a (fd.map V.int) ∧ fd.length ≤ 1000000 ∧ RetV H Q (.bl (decide (RecOk k fd)))
theorem d_is_whole (T : Top K mg) : Def P w K mg base CX0 2 "is_whole" ["found", "kind"] (sp_is_whole K) := by
  have G_check_of : Def P w K mg base CX0 1 "check_of" ["values"] (sp_check_of K) := d_check_of T
  obtain ⟨t1, g_SHORTEST_RECORD⟩ := T.g_SHORTEST_RECORD
  obtain ⟨t2, g_HIGHEST_BYTE⟩ := T.g_HIGHEST_BYTE
  refine T.f_is_whole.ok sc_is_whole (by rintro vs H Q E ⟨a, k, fd, rfl, _⟩; rfl) (fun f cdv A outer s H vs Q E hr h => ?_)
  obtain ⟨a, k, fd, rfl, hS, hz, q⟩ := h
  refine ⟨_, (pss_cons (ps_if (PW.pt (pw_or (pt_cmpR op_lt (pe_callB (r := Evl.rLenS K) call_len_seq (by rfl) T.b_len (by decide +kernel) (pa_cons (pv 0) pa_nil)) (pe_glob (v := .int 3) rfl g_SHORTEST_RECORD ⟨_, rfl⟩) (nomark _)) (pw_or (pt_cmpR op_ne (pe_ix (r := rIxL K) ix_list (pv 0) pe_int (fun _ _ => rfl)) (pv 1) (nomark _)) (pw_or1 (pt_cmpR op_gt (pe_callB (r := rMax K) (cr_max rfl) (by rfl) T.b_max (by decide +kernel) (pa_cons (pv 0) pa_nil)) (pe_glob (v := .int 249) rfl g_HIGHEST_BYTE ⟨_, rfl⟩) (nomark _)))))) (pss_one (ps_ret pe_bl)) pss_nil)
      (pss_one (ps_ret (pe_cmpR (r := rEqD K) (op_eqD hr.units) (pe_callD G_check_of (hr.mono (by decide)) (pa_cons (pe_slice (r := rSlL K) sl_list (pv 0) po_none (po_some (pe_un un_neg pe_int))) pa_nil)) (pe_slice (r := rSlL K) sl_list (pv 0) (po_some (pe_un un_neg pe_int)) po_none) (nomark _))))), ?_⟩
  have no : ¬ RecOk k fd → RetV H Q (.bl false) := fun h => by rw [decide_eq_false h] at q; exact q
  walk_at "rd"
  rw [List.length_map]
  refine rif (fun h1 => ?_) fun h1 => ?_
  · walk_at "rd"
    exact (no fun h => by have := h.1; omega).here
  walk_at "rd"
  refine rif_n (fun h2 => ?_) fun h2 => ?_
  · walk_at "rd"
    exact (no fun h => h2 h.2.1).here
  walk_at "rd"
  refine ⟨_, _, rfl, hS, by omega, fun m hm hmm => ?_⟩
  walk_at "rd"
  refine rif (fun h3 => ?_) fun h3 => ?_
  · walk_at "rd"
    exact (no fun h => by have := h.2.2.1 m hm; omega).here
  walk_at "rd"
  refine r_slL (Own.nil H) hS fun p3 H3 o3 => ?_
  rw [cut_m, List.length_map, ← List.map_take] at o3
  walk_at "rd"
  refine ⟨_, _, rfl, o3.sqL 0 rfl, r_ret1 o3 fun p4 H4 o4 => ?_⟩
  walk_at "rd"
  refine r_slL o4 (o4.old hS) fun p5 H5 o5 => ?_
  rw [cut_l, List.length_map, ← List.map_drop] at o5
  refine r_eqLL (o5.sqL 1 rfl) (o5.sqL 0 rfl) ?_
  rw [decide_eq_decide.mpr (show RecOk k fd ↔ chk (fd.take (fd.length - 2)) = fd.drop (fd.length - 2) from ⟨fun h => h.2.2.2, fun h => ⟨by omega, h2, fun x hx => by have := hmm x hx; omega, h⟩⟩)] at q
  exact q.mk o5
def sp_content (K : PySem.W.Frag) (C : Addr) : Sp := fun vs H Q E => ∃ (a t : Addr) (k ad ln : Int) (fd : List Int), vs = [.ref a, .int k, .ref t] ∧ SqL K H a (fd.map V.int) ∧ SqT K H t (([ad, ln] : List Int).map V.int) ∧ fd.length ≤ 1000000 ∧ Tell (.int ad) ∧ Tell (.int ln) ∧
  (ln ≤ fd.length → RecOk k fd → RetO H Q (.lst ((recC fd).map V.int))) ∧ (¬ (ln ≤ fd.length ∧ RecOk k fd) → RetE H E C [("length", .int ln), ("address", .int ad)])
theorem d_content {C : Addr} (T : Top K mg) (E_Damaged : EDef P w K mg base C "Damaged" ["self", "address", "length"] (sp_i2 C "address" "length")) : Def P w K mg base (L2N.CX P w) 5 "content_of" ["found", "kind", "pointer"] (sp_content K C) := by
  have G_is_whole : Def P w K mg base CX0 2 "is_whole" ["found", "kind"] (sp_is_whole K) := d_is_whole T
  refine T.f_content_of.okN sc_content_of (by rintro vs H Q E ⟨a, t, k, ad, ln, fd, rfl, _⟩; rfl) (fun f cdv A outer s H vs Q E hr h => ?_)
  obtain ⟨a, t, k, ad, ln, fd, rfl, hS, hT, hz, ta, tl, q, qe⟩ := h
  have bad : ¬ (ln ≤ fd.length ∧ RecOk k fd) → ∀ H2 L, Own H H2 L → tRaise (tErr C ["address", "length"] (tCons (tVar 3) (tCons (tVar 4) tNil))) (fun cls d _ H => E cls d H) { nx := fun σ H => True, rt := fun _ _ => True } [some (.ref a), some (.int k), some (.ref t), some (.int ad), some (.int ln)] H2 := fun ho H2 L o => by
    refine r_raise ⟨_, rfl, _, rfl, rfl, ?_, fun d hd => (qe ho).mk o hd⟩
    intro u hu
    simp only [List.mem_cons, List.not_mem_nil, or_false] at hu
    rcases hu with rfl | rfl
    · exact ta
    · exact tl
  refine ⟨_, (pss_cons (ps_asg (pv 2) (pg_tup (n := 2) rfl (pgs_cons (pg_name (i := 3) sc_content_of.nd rfl (Or.inl rfl)) (pgs_cons (pg_name (i := 4) sc_content_of.nd rfl (Or.inl rfl)) pgs_nil))))
      (pss_cons (ps_if (PW.pt (pw_or (pt_cmpR op_lt (pe_callB (r := Evl.rLenS K) call_len_seq (by rfl) T.b_len (by decide +kernel) (pa_cons (pv 0) pa_nil)) (pv 4) (nomark _)) (pw_or1 (pt_not (pt_val (pe_callD G_is_whole (hr.mono (by decide)) (pa_cons (pv 0) (pa_cons (pv 1) pa_nil)))))))) (pss_one (ps_raiseE rfl (L2N.takes_of rfl rfl rfl rfl) (pmk_e2 E_Damaged (hr.mono (by decide)) (pa_cons (pv 3) (pa_cons (pv 4) pa_nil))))) pss_nil)
      (pss_one (ps_ret (pe_slice (r := rSlL K) sl_list (pv 0) (po_some pe_int) (po_some (pe_un un_neg pe_int))))))), ?_⟩
  walk_at "rd"
  rw [List.length_map]
  refine rif (fun h1 => ?_) fun h1 => ?_
  · walk_at "rd"
    exact bad (fun h => by have := h.1; omega) H [] (Own.nil H)
  walk_at "rd"
  refine ⟨a, k, fd, rfl, hS, hz, r_retv (Own.nil H) fun H2 o2 => ?_⟩
  walk_at "rd"
  refine rif_n (fun h2 => ?_) fun h2 => ?_
  · walk_at "rd"
    exact bad (fun h => h2 h.2) H2 [] o2
  walk_at "rd"
  refine r_slL o2 (o2.old hS) fun p5 H5 o5 => ?_
  have h3 := h2.1
  rw [cut_1m (by rw [List.length_map]; omega), List.length_map, ← List.map_drop, ← List.map_take] at o5
  exact (q (by omega) h2).mk o5 0 rfl
def sp_read_record (K : PySem.W.Frag) (C D : Addr) : Sp := fun vs H Q E => ∃ (p l dx t : Addr) (k ad ln : Int) (fs fd : List Int), vs = [.ref p, .int k, .ref t] ∧ H p = some (.ins D dx (dkF l)) ∧ SqL K H l (fs.map V.int) ∧ SqT K H t (([ad, ln] : List Int).map V.int) ∧
  cutV (fs.map V.int) (some ad) (some (ad + ln)) = fd.map V.int ∧ fd.length ≤ 1000000 ∧ Tell (.int ad) ∧ Tell (.int ln) ∧
  (ln ≤ fd.length → RecOk k fd → RetO H Q (.lst ((recC fd).map V.int))) ∧ (¬ (ln ≤ fd.length ∧ RecOk k fd) → RetE H E C [("length", .int ln), ("address", .int ad)])
theorem RetE.up {H H' : Hp} {E : XK} {C : Addr} {fs : List (Str × V)} {L : List (Addr × HO)} (q : RetE H E C fs) (o : Own H H' L) : RetE H' E C fs := fun H2 d s hd hx => q H2 d (o.ex.trans s) (o.ex.free hd) hx
theorem RetO.up {H H' : Hp} {Q : VK} {u : HO} {L : List (Addr × HO)} (q : RetO H Q u) (o : Own H H' L) : RetO H' Q u := fun H2 p s hp hx => q H2 p (o.ex.trans s) (o.ex.free hp) hx
end

/-! ### logs -/
/-- an object of the base, taken out -/
def delH (H : Hp) (l : Addr) : Hp := fun b => if b = l then none else H b
theorem delH_ne {H : Hp} {l b : Addr} (h : b ≠ l) : delH H l b = H b := if_neg h
theorem delH_same {H : Hp} {l : Addr} : delH H l l = none := if_pos rfl
theorem take_l {H : Hp} {l : Addr} {u : HO} (h : H l = some u) : Own (delH H l) H [(l, u)] := by
  refine ⟨fun b x e => ?_, fun x hx => ?_, by simp⟩
  · by_cases hb : b = l
    · subst hb
      rw [delH_same] at e
      cases e
    · rw [delH_ne hb] at e
      exact e
  · rw [List.mem_singleton.mp hx]
    exact ⟨delH_same, h⟩
theorem stp_frame {H H' : Hp} {p : Addr} {C dx : Addr} {fs : List (Str × V)} (hp : H p = some (.ins C dx fs)) (h : ∀ b u, b ≠ p → H b = some u → H' b = some u) : Stp H H' := fun a xs r => by
  have hne : a ≠ p := by
    rintro rfl
    rcases r with r | ⟨o, r⟩ <;> rw [hp] at r <;> cases r
  rcases r with r | ⟨o, r⟩
  · exact .inl (h _ _ hne r)
  · exact .inr ⟨o, h _ _ hne r⟩
theorem stp_frameL {H H' : Hp} {p : Addr} {xs : List V} (hp : H p = some (.lst xs)) (h : ∀ b u, b ≠ p → H b = some u → H' b = some u) : Stp H H' := fun a xs r => by
  have hne : a ≠ p := by
    rintro rfl
    rcases r with r | ⟨o, r⟩ <;> rw [hp] at r <;> cases r
  rcases r with r | ⟨o, r⟩
  · exact .inl (h _ _ hne r)
  · exact .inr ⟨o, h _ _ hne r⟩
theorem r_exts {H H0 : Hp} {Q : VK} {L : List (Addr × HO)} {l b : Addr} {xs zs : List V} (o : Own H0 H L) (n m : Nat) (h : L[n]? = some (l, .lst xs)) (h2 : L[m]? = some (b, .lst zs)) (hz : xs.length + zs.length ≤ 10000000) (k : ∀ H', Stp H H' → Own H0 H' (L.set n (l, .lst (xs ++ zs))) → Q .non H') : rExtend (.ref l) [.ref b] H Q :=
  ⟨l, b, xs, zs, rfl, rfl, o.at n h, o.at m h2, sz100 hz, k _ (Stp.set (o.at n h)) (o.set n h)⟩
/-- one more object of the base taken out -/
theorem _root_.RD.Own.take {H0 H : Hp} {L : List (Addr × HO)} {l : Addr} {u : HO} (o : Own H0 H L) (h : H0 l = some u) : Own (delH H0 l) H ((l, u) :: L) := by
  refine ⟨fun b x e => ?_, fun x hx => ?_, ?_⟩
  · by_cases hb : b = l
    · subst hb
      rw [delH_same] at e
      cases e
    · rw [delH_ne hb] at e
      exact o.ex _ _ e
  · rcases List.mem_cons.mp hx with rfl | hx
    · exact ⟨delH_same, o.ex _ _ h⟩
    · refine ⟨?_, (o.fr x hx).2⟩
      by_cases hb : x.1 = l
      · rw [hb]; exact delH_same
      · rw [delH_ne hb]; exact (o.fr x hx).1
  · rw [List.map_cons, List.nodup_cons]
    refine ⟨fun hm => ?_, o.nd⟩
    obtain ⟨x, hx, e⟩ := List.mem_map.mp hm
    have := (o.fr x hx).1
    rw [e, h] at this
    cases this
/-- a new object beside one that is changed -/
theorem Own.addF {H0 H H' : Hp} {L L' : List (Addr × HO)} {l : Addr} {z : HO} (o : Own H0 H L) (o' : Own H0 H' L') (e : L'.map (·.1) = L.map (·.1)) (hl : H l = none) (hz : H' l = some z) : Own H0 H' ((l, z) :: L') := by
  refine ⟨o'.ex, fun x hx => ?_, ?_⟩
  · rcases List.mem_cons.mp hx with rfl | hx
    · exact ⟨o.ex.free hl, hz⟩
    · exact o'.fr x hx
  · rw [List.map_cons, List.nodup_cons]
    refine ⟨fun hm => ?_, o'.nd⟩
    rw [e] at hm
    obtain ⟨x, hx, e1⟩ := List.mem_map.mp hm
    have h2 := (o.fr x hx).2
    have e2 : x.1 = l := e1
    rw [e2, hl] at h2
    cases h2
/-- some of the objects, in another order -/
theorem _root_.RD.Own.pick {H0 H : Hp} {L : List (Addr × HO)} (o : Own H0 H L) (is : List Nat) (hn : is.Nodup) : Own H0 H (is.filterMap fun i => L[i]?) := by
  refine ⟨o.ex, fun x hx => ?_, ?_⟩
  · obtain ⟨i, _, hi⟩ := List.mem_filterMap.mp hx
    exact o.fr x (List.mem_of_getElem? hi)
  · induction is with
    | nil => exact List.nodup_nil
    | cons i is ih =>
      rw [List.nodup_cons] at hn
      rw [List.filterMap_cons]
      cases e : L[i]? with
      | none => exact ih hn.2
      | some x =>
        show (x.1 :: (is.filterMap fun i => L[i]?).map (·.1)).Nodup
        rw [List.nodup_cons]
        refine ⟨fun hm => ?_, ih hn.2⟩
        obtain ⟨z, hz, ez⟩ := List.mem_map.mp hm
        obtain ⟨j, hj, hj2⟩ := List.mem_filterMap.mp hz
        have hij : i = j := by
          obtain ⟨x1, x2⟩ := x
          obtain ⟨z1, z2⟩ := z
          have ez : z1 = x1 := ez
          subst ez
          exact nodup_fst o.nd e hj2
        rw [hij] at hn
        exact hn.1 hj
/-- two objects are changed -/
theorem _root_.RD.Own.chg2 {H0 H H' : Hp} {L : List (Addr × HO)} {l m : Addr} {u v u' v' : HO} (o : Own H0 H L) (i j : Nat) (hi : L[i]? = some (l, u)) (hj : L[j]? = some (m, v)) (hij : i ≠ j) (e : ∀ b x, b ≠ l → b ≠ m → H b = some x → H' b = some x) (hl : H' l = some u') (hm : H' m = some v') : Own H0 H' ((L.set i (l, u')).set j (m, v')) := by
  have hne : l ≠ m := o.ne hi hj hij
  have o1 := o.set (v := u') i hi
  refine o1.chg (u := v) j ?_ (fun b x hb h => ?_) hm
  · rw [List.getElem?_set_ne hij]; exact hj
  · by_cases hbl : b = l
    · subst hbl
      rw [upd_same] at h
      cases h
      exact hl
    · rw [upd_ne hbl] at h
      exact e b x hbl hb h
/-- what is no tuple may change -/
def NoTup (H : Hp) (p : Addr) : Prop := ∀ xs, ¬ Rd H p (.tup xs)
theorem noTup_l {H : Hp} {p : Addr} {xs : List V} (h : H p = some (.lst xs)) : NoTup H p := fun ys r => by rcases r with r | ⟨o, r⟩ <;> rw [h] at r <;> cases r
theorem noTup_i {H : Hp} {p C dx : Addr} {fs : List (Str × V)} (h : H p = some (.ins C dx fs)) : NoTup H p := fun ys r => by rcases r with r | ⟨o, r⟩ <;> rw [h] at r <;> cases r
theorem stp_frame2 {H H' : Hp} {p q : Addr} (hp : NoTup H p) (hq : NoTup H q) (h : ∀ b u, b ≠ p → b ≠ q → H b = some u → H' b = some u) : Stp H H' := fun a xs r => by
  have h1 : a ≠ p := fun e => hp xs (e ▸ r)
  have h2 : a ≠ q := fun e => hq xs (e ▸ r)
  rcases r with r | ⟨o, r⟩
  · exact .inl (h _ _ h1 h2 r)
  · exact .inr ⟨o, h _ _ h1 h2 r⟩

/-- the fields of a log -/
def lgF (d l : Addr) (b : Int) : List (Str × V) := putF "_sealed" (.int b) (putF "_waiting" (.ref l) (putF "disk" (.ref d) []))
structure LG where
  dx : Addr
  l : Addr
  d : Addr
  ddx : Addr
  fl : Addr
  b : Int
  ws : List Int
  fs : List Int
structure LogAt (CL CD : Addr) (H : Hp) (p : Addr) (g : LG) : Prop where
  me : H p = some (.ins CL g.dx (lgF g.d g.l g.b))
  wt : H g.l = some (.lst (g.ws.map V.int))
  dk : H g.d = some (.ins CD g.ddx (dkF g.fl))
  fl : H g.fl = some (.lst (g.fs.map V.int))
  ne : g.l ≠ g.fl
theorem lst_ne {H : Hp} {a b C dx : Addr} {xs : List V} {fs : List (Str × V)} (h : H a = some (.lst xs)) (h2 : H b = some (.ins C dx fs)) : b ≠ a := by
  rintro rfl
  rw [h2] at h
  cases h
/-- where the bytes of a pointer stand -/
def LG.at_ (g : LG) (ad ln : Nat) : List Int := if ad < g.fs.length then (g.fs.drop ad).take ln else (g.ws.drop (ad - g.fs.length)).take ln
/-- what the last seal of a file tells -/
def lastB (fs : List Int) : Int := if fs.length < 28 then -1 else if wholeB ((fs.drop (fs.length - 28)).take 28) = true then rd8 ((((fs.drop (fs.length - 28)).take 28).drop 1).take 8) else -1
section
variable {P : Program} {w : World} {K : PySem.W.Frag} {mg : Str → Option Value} {base : Heap}
def sp_seal_atI (K : PySem.W.Frag) (C : Addr) : Sp := fun vs H Q _ => ∃ (p l dx : Addr) (i : Int) (fs : List Int), vs = [.ref p, .int i] ∧ H p = some (.ins C dx (dkF l)) ∧ SqL K H l (fs.map V.int) ∧ (∀ x ∈ fs, 0 ≤ x ∧ x < 256) ∧ (i < 0 → Q .non H) ∧
  (∀ n : Nat, i = n → (wholeB ((fs.drop n).take 28) = false → RetV H Q .non) ∧ (wholeB ((fs.drop n).take 28) = true → RetD K H Q (sealD ((fs.drop n).take 28))))
theorem d_seal_atI {C : Addr} (T : Top K mg) (C_Disk : Cl_Disk K mg C) : Def P w K mg base CX0 3 "seal_at" ["disk", "address"] (sp_seal_atI K C) := by
  have M_Disk_part : MDef P w K mg base CX0 1 C "part" ["self", "address", "count"] (sp_dpart K C) := d_dpart T C_Disk
  have G_is_whole_seal : Def P w K mg base CX0 2 "is_whole_seal" ["found"] (sp_is_ws K) := d_is_ws T
  have G_read_eight : Def P w K mg base CX0 1 "read_eight" ["digits"] (sp_r8 K) := d_read_eight T
  obtain ⟨t3, g_SEAL_LENGTH⟩ := T.g_SEAL_LENGTH
  refine T.f_seal_at.ok sc_seal_at (by rintro vs H Q E ⟨p, l, dx, i, fs, rfl, _⟩; rfl) (fun f cdv A outer s H vs Q E hr h => ?_)
  obtain ⟨p, l, dx, i, fs, rfl, hp, hS, hb, qn, q01⟩ := h
  refine ⟨_, (pss_cons (ps_if (pt_cmpR op_lt (pv 1) pe_int (nomark _)) (pss_one (ps_ret pe_non)) pss_nil)
      (pss_cons (ps_set (i := 2) sc_seal_at.nd rfl (Or.inl rfl) (pe_methD (pv 0) C_Disk.cl M_Disk_part (hr.mono (by decide)) (pa_cons (pv 1) (pa_cons (pe_glob (v := .int 28) rfl g_SEAL_LENGTH ⟨_, rfl⟩) pa_nil))))
      (pss_cons (ps_if (pt_not (pt_val (pe_callD G_is_whole_seal (hr.mono (by decide)) (pa_cons (pv 2) pa_nil)))) (pss_one (ps_ret pe_non)) pss_nil)
      (pss_one (ps_ret (pe_tup (pa_cons (pe_callD G_read_eight (hr.mono (by decide)) (pa_cons (pe_slice (r := rSlL K) sl_list (pv 2) (po_some pe_int) (po_some pe_int)) pa_nil)) (pa_cons (pe_tup (pa_cons (pe_callD G_read_eight (hr.mono (by decide)) (pa_cons (pe_slice (r := rSlL K) sl_list (pv 2) (po_some pe_int) (po_some pe_int)) pa_nil)) (pa_cons (pe_callD G_read_eight (hr.mono (by decide)) (pa_cons (pe_slice (r := rSlL K) sl_list (pv 2) (po_some pe_int) (po_some pe_int)) pa_nil)) pa_nil))) pa_nil)))))))), ?_⟩
  walk_at "rd"
  refine rif (fun hneg => ?_) fun hneg => ?_
  · walk_at "rd"
    exact qn hneg
  obtain ⟨n, rfl⟩ := Int.eq_ofNat_of_zero_le (show 0 ≤ i by omega)
  obtain ⟨q0, q1⟩ := q01 n rfl
  walk_at "rd"
  refine ⟨p, dx, dkF l, rfl, hp, rfl, ?_⟩
  walk_at "rd"
  refine ⟨p, l, dx, _, _, fs, rfl, hp, hS, r_ret1 (Own.nil H) fun p1 H1 o1 => ?_⟩
  rw [show (28 : Int) = ((28 : Nat) : Int) from rfl, cut_at] at o1
  have hrb : ∀ x ∈ (fs.drop n).take 28, 0 ≤ x ∧ x < 256 := fun x hx => hb x (List.mem_of_mem_drop (List.mem_of_mem_take hx))
  generalize (fs.drop n).take 28 = r at *
  walk_at "rd"
  refine ⟨_, _, rfl, o1.sqL 0 rfl, r_retv o1 fun H2 o2 => ?_⟩
  cases hw : wholeB r with
  | false =>
    walk_at "rd"
    exact (q0 hw).mk o2
  | true =>
    have sb : ∀ a c : Nat, ∀ x ∈ (r.drop a).take c, 0 ≤ x ∧ x < 256 := fun a c x hx => hrb x (List.mem_of_mem_drop (List.mem_of_mem_take hx))
    walk_at "rd"
    refine r_slL o2 (o2.sqL 0 rfl) fun p3 H3 o3 => ?_
    rw [show (1 : Int) = ((1 : Nat) : Int) from rfl, show (9 : Int) = ((1 : Nat) : Int) + ((8 : Nat) : Int) from rfl, cut_at] at o3
    walk_at "rd"
    refine ⟨_, _, rfl, o3.sqL 0 rfl, sb 1 8, by rw [List.length_take]; omega, ?_⟩
    walk_at "rd"
    refine r_slL o3 (o3.sqL 1 rfl) fun p4 H4 o4 => ?_
    rw [show (9 : Int) = ((9 : Nat) : Int) from rfl, show (17 : Int) = ((9 : Nat) : Int) + ((8 : Nat) : Int) from rfl, cut_at] at o4
    walk_at "rd"
    refine ⟨_, _, rfl, o4.sqL 0 rfl, sb 9 8, by rw [List.length_take]; omega, ?_⟩
    walk_at "rd"
    refine r_slL o4 (o4.sqL 2 rfl) fun p5 H5 o5 => ?_
    rw [show (17 : Int) = ((17 : Nat) : Int) from rfl, show (25 : Int) = ((17 : Nat) : Int) + ((8 : Nat) : Int) from rfl, cut_at] at o5
    walk_at "rd"
    refine ⟨_, _, rfl, o5.sqL 0 rfl, sb 17 8, by rw [List.length_take]; omega, ?_⟩
    walk_at "rd"
    refine r_newTi (K := K) [_, _] rfl o5 (Nat.le_of_ble_eq_true rfl) fun t6 H6 s6 o6 h6 => ?_
    walk_at "rd"
    refine r_newTp (K := K) (ds := [.int _, .tuple (([_, _] : List Int).map PyData.int)]) o6 (.cons (.int _) (.cons (Tp.intsT h6) .nil)) (Nat.le_of_ble_eq_true rfl) fun t7 H7 s7 o7 tt => ?_
    exact (q1 hw).mk o7 tt
end
/-! the methods -/
theorem sfld {K : PySem.W.Frag} {H0 H : Hp} {L : List (Addr × HO)} {p C dx : Addr} {fs : List (Str × V)} {f : Str} {v : V} {D : Ends} {σ : L2.St} (o : Own H0 H L) (i : Nat) (h : L[i]? = some (p, .ins C dx fs)) (c : Cls K C) (na : NoAttr K C f) (hz : fs.length < 1000)
    (k : ∀ H', Stp H H' → Own H0 H' (L.set i (p, .ins C dx (putF f v fs))) → D.nx σ H') : ∃ a C dx fs, V.ref p = V.ref a ∧ H a = some (.ins C dx fs) ∧ Cls K C ∧ NoAttr K C f ∧ fs.length < 1000 ∧ D.nx σ (upd H a (.ins C dx (putF f v fs))) :=
  ⟨p, C, dx, fs, rfl, o.at i h, c, na, hz, k _ (stp_frame (o.at i h) fun b u hb e => by rw [upd_ne hb]; exact e) (o.set i h)⟩
section
variable {P : Program} {w : World} {K : PySem.W.Frag} {mg : Str → Option Value} {base : Heap}
def sp_lginit (K : PySem.W.Frag) (CL CD : Addr) : Sp := fun vs H Q _ => ∃ (p dx d ddx fl : Addr) (fs : List Int), vs = [.ref p, .ref d] ∧ H p = some (.ins CL dx []) ∧ H d = some (.ins CD ddx (dkF fl)) ∧ H fl = some (.lst (fs.map V.int)) ∧ (∀ x ∈ fs, 0 ≤ x ∧ x < 256) ∧ fs.length ≤ 1000000 ∧
  ∀ l H', (∀ b u, b ≠ p → H b = some u → H' b = some u) → H l = none → H' p = some (.ins CL dx (lgF d l (lastB fs))) → H' l = some (.lst []) → Q .non H'
theorem d_lginit {CL CD : Addr} (T : Top K mg) (D : Cl_Log K mg CL) (C_Disk : Cl_Disk K mg CD) : KDef P w K mg base CX0 4 CL ["self", "disk"] (sp_lginit K CL CD) := by
  have M_Disk___len__ : MDef P w K mg base CX0 1 CD "__len__" ["self"] (sp_dlen K CD) := d_dlen T C_Disk
  have G_seal_at : Def P w K mg base CX0 3 "seal_at" ["disk", "address"] (sp_seal_atI K CD) := d_seal_atI T C_Disk
  obtain ⟨t3, g_SEAL_LENGTH⟩ := T.g_SEAL_LENGTH
  refine D.i_.ok sc_Log___init__ (by rintro vs H Q E ⟨p, dx, d, ddx, fl, fs, rfl, _⟩; rfl) (fun f cdv A outer s H vs Q E hr h => ?_)
  obtain ⟨p, dx, d, ddx, fl, fs, rfl, hp, hd, hfl, hb, hz, q⟩ := h
  refine ⟨_, (pss_cons (ps_fld (pv 0) (pv 1) rfl)
      (pss_cons (ps_fld (pv 0) (pe_lst pa_nil) rfl)
      (pss_cons (ps_fld (pv 0) (pe_un un_neg pe_int) rfl)
      (pss_cons (ps_set (i := 2) sc_Log___init__.nd rfl (Or.inl rfl) (pe_callD G_seal_at (hr.mono (by decide)) (pa_cons (pv 1) (pa_cons (pe_op op_sub (pe_callB (call_lenO M_Disk___len__ (hr.mono (by decide))) (by rfl) T.b_len (by decide +kernel) (pa_cons (pv 1) pa_nil)) (pe_glob (v := .int 28) rfl g_SEAL_LENGTH ⟨_, rfl⟩)) pa_nil))))
      (pss_one (ps_if (pt_cmpR (r := rNotNon) op_notN (pv 2) pe_non (nomark _)) (pss_one (ps_fld (pv 0) (pe_ix (r := rIxT K) ix_tup (pv 2) pe_int (fun _ _ => rfl)) rfl)) pss_nil)))))), ?_⟩
  have hdp : d ≠ p := by rintro rfl; rw [hd] at hp; cases hp
  have o0 := take_l hp
  have hd0 : delH H p d = some (.ins CD ddx (dkF fl)) := (delH_ne hdp).trans hd
  have hfl0 : delH H p fl = some (.lst (fs.map V.int)) := (delH_ne (Ne.symm (lst_ne hfl hp))).trans hfl
  walk_at "rd"
  refine sfld o0 0 rfl D.cl D.a_disk (by decide) fun H1 s1 o1 => ?_
  walk_at "rd"
  refine r_newLs o1 (Nat.zero_le _) fun l H2 s2 o2 => ?_
  walk_at "rd"
  refine sfld o2 1 rfl D.cl D.a__waiting (Nat.le_of_ble_eq_true rfl) fun H3 s3 o3 => ?_
  walk_at "rd"
  refine sfld o3 1 rfl D.cl D.a__sealed (Nat.le_of_ble_eq_true rfl) fun H4 s4 o4 => ?_
  have hfl4 : H4 fl = some (.lst (fs.map V.int)) := o4.ex _ _ hfl0
  walk_at "rd"
  refine ⟨d, ddx, dkF fl, rfl, o4.ex _ _ hd0, d, fl, ddx, fs, rfl, o4.ex _ _ hd0, SqL.of hfl4, (fs.length : Int), rfl, by omega, by omega, ?_⟩
  walk_at "rd"
  have fin : ∀ (H5 : Hp) (b : Int), b = lastB fs → Own (delH H p) H5 [(l, .lst []), (p, .ins CL dx (lgF d l b))] → Q .non H5 := fun H5 b e o5 => by
    subst e
    have hlp : l ≠ p := Own.ne o5 (i := 0) (j := 1) rfl rfl (by decide)
    have h0 := o5.fresh 0 rfl
    rw [delH_ne hlp] at h0
    exact q l H5 (fun b u hb h => o5.ex _ _ ((delH_ne hb).trans h)) h0 (o5.at 1 rfl) (o5.at 0 rfl)
  refine ⟨d, fl, ddx, (fs.length : Int) - 28, fs, rfl, o4.ex _ _ hd0, SqL.of hfl4, hb, fun hneg => ?_, fun n hn => ⟨fun hw => ?_, fun hw => ?_⟩⟩
  · walk_at "rd"
    refine fin _ _ ?_ o4
    unfold lastB
    rw [if_pos (by omega)]
  · refine r_retv o4 fun H5 o5 => ?_
    walk_at "rd"
    refine fin _ _ ?_ o5
    unfold lastB
    rw [if_neg (by omega), show fs.length - 28 = n by omega, hw]
    rfl
  · refine r_retD o4 fun u H5 s5 o5 t5 => ?_
    obtain ⟨a5, xs5, rfl, hs5, ht5⟩ := Tp.inv t5
    walk_at "rd"
    refine r_ixTpI (i := 0) t5 rfl ?_
    walk_at "rd"
    refine sfld o5 1 rfl D.cl D.a__sealed (Nat.le_of_ble_eq_true rfl) fun H6 s6 o6 => ?_
    walk_at "rd"
    refine fin _ _ ?_ o6
    unfold lastB
    rw [if_neg (by omega), show fs.length - 28 = n by omega, hw]
    rfl
def sp_lgbatch (CL : Addr) : Sp := fun vs H Q _ => ∃ (p dx d l : Addr) (b : Int), vs = [.ref p] ∧ H p = some (.ins CL dx (lgF d l b)) ∧ Q (.int b) H
theorem d_lgbatch {CL : Addr} (T : Top K mg) (D : Cl_Log K mg CL) : PDef P w K mg base CX0 1 CL "batch" ["self"] (sp_lgbatch CL) := by
  refine D.p_batch.ok sc_Log_batch (by rintro vs H Q E ⟨p, dx, d, l, b, rfl, _⟩; rfl) (fun f cdv A outer s H vs Q E hr h => ?_)
  obtain ⟨p, dx, d, l, b, rfl, hp, q⟩ := h
  refine ⟨_, (pss_one (ps_ret (pe_fld (pv 0) rfl))), ?_⟩
  walk_at "rd"
  exact ⟨p, CL, dx, _, .int b, rfl, hp, D.cl, D.a__sealed, rfl, q⟩
def sp_lgput (K : PySem.W.Frag) (CL CD : Addr) : Sp := fun vs H Q _ => ∃ (p a : Addr) (g : LG) (k : Int) (ns : List Int), vs = [.ref p, .int k, .ref a] ∧ LogAt CL CD H p g ∧ H a = some (.lst (ns.map V.int)) ∧ a ≠ g.l ∧ ns.length ≤ 1000000 ∧ g.fs.length ≤ 1000000 ∧ g.ws.length ≤ 1000000 ∧
  ∀ H' t, (∀ b u, b ≠ g.l → H b = some u → H' b = some u) → H' g.l = some (.lst ((g.ws ++ recD k ns).map V.int)) → H' t = some (.tup (([((g.fs.length : Int) + (g.ws.length : Int)), ((ns.length + 3 : Nat) : Int)] : List Int).map V.int)) → Q (.ref t) H'
theorem d_lgput {CL CD : Addr} (T : Top K mg) (D : Cl_Log K mg CL) (C_Disk : Cl_Disk K mg CD) : MDef P w K mg base CX0 3 CL "put" ["self", "kind", "content"] (sp_lgput K CL CD) := by
  have M_Disk___len__ : MDef P w K mg base CX0 1 CD "__len__" ["self"] (sp_dlen K CD) := d_dlen T C_Disk
  have G_make_record : Def P w K mg base CX0 2 "make_record" ["kind", "content"] (sp_make_record K) := d_make_record T
  refine D.m_put.ok sc_Log_put (by rintro vs H Q E ⟨p, a, g, k, ns, rfl, _⟩; rfl) (fun f cdv A outer s H vs Q E hr h => ?_)
  obtain ⟨p, a, ⟨dx, l, d, ddx, fl, b, ws, fs⟩, k, ns, rfl, ⟨hp, hl, hd, hfl, hne⟩, ha, hal, hz, hfz, hwz, q⟩ := h
  dsimp only at hal hfz hwz hne q hp hl hd hfl
  refine ⟨_, (pss_cons (ps_set (i := 3) sc_Log_put.nd rfl (Or.inl rfl) (pe_callD G_make_record (hr.mono (by decide)) (pa_cons (pv 1) (pa_cons (pv 2) pa_nil))))
      (pss_cons (ps_set (i := 4) sc_Log_put.nd rfl (Or.inl rfl) (pe_tup (pa_cons (pe_op op_add (pe_callB (call_lenO M_Disk___len__ (hr.mono (by decide))) (by rfl) T.b_len (by decide +kernel) (pa_cons (pe_fld (pv 0) rfl) pa_nil)) (pe_callB (r := Evl.rLenS K) call_len_seq (by rfl) T.b_len (by decide +kernel) (pa_cons (pe_fld (pv 0) rfl) pa_nil))) (pa_cons (pe_callB (r := Evl.rLenS K) call_len_seq (by rfl) T.b_len (by decide +kernel) (pa_cons (pv 3) pa_nil)) pa_nil))))
      (pss_cons (ps_expr (pe_bm PySem.F.plainAttrs_list PySem.F.slot_list_extend PySem.F.type_list_extend mt_extend (pe_fld (pv 0) rfl) (pa_cons (pv 3) pa_nil)))
      (pss_one (ps_ret (pv 4)))))), ?_⟩
  have o0 := take_l hl
  have hp0 : delH H l p = _ := (delH_ne (lst_ne hl hp)).trans hp
  have hd0 : delH H l d = _ := (delH_ne (lst_ne hl hd)).trans hd
  have hfl0 : delH H l fl = _ := (delH_ne (Ne.symm hne)).trans hfl
  have ha0 : delH H l a = _ := (delH_ne hal).trans ha
  walk_at "rd"
  refine ⟨k, a, ns, rfl, ha, hz, r_ret1 o0 fun p1 H1 o1 => ?_⟩
  have hrl := recD_len k ns
  walk_at "rd"
  refine ⟨p, CL, dx, _, .ref d, rfl, o1.ex _ _ hp0, D.cl, D.a_disk, rfl, ?_⟩
  walk_at "rd"
  refine ⟨d, ddx, dkF fl, rfl, o1.ex _ _ hd0, d, fl, ddx, fs, rfl, o1.ex _ _ hd0, SqL.of (o1.ex _ _ hfl0), (fs.length : Int), rfl, by omega, by omega, ?_⟩
  walk_at "rd"
  refine ⟨p, CL, dx, _, .ref l, rfl, o1.ex _ _ hp0, D.cl, D.a__waiting, rfl, ?_⟩
  have hW1 : SqL K H1 l (ws.map V.int) := o1.sqL 1 rfl
  walk_at "rd"
  refine ⟨Nat.le_of_ble_eq_true rfl, fun t ht0 => ?_⟩
  have o2 := o1.new (u := .tup [.int ((fs.length : Int) + ((ws.map V.int).length : Int)), .int (((recD k ns).map V.int).length : Int)]) ht0
  rw [List.length_map, List.length_map, hrl] at o2
  rw [List.length_map, List.length_map, hrl]
  revert o2
  generalize upd H1 t (.tup [.int ((fs.length : Int) + (ws.length : Int)), .int ((ns.length + 3 : Nat) : Int)]) = H2
  intro o2
  walk_at "rd"
  refine ⟨p, CL, dx, _, .ref l, rfl, o2.ex _ _ hp0, D.cl, D.a__waiting, rfl, ?_⟩
  refine ⟨ty_lst (o2.at 2 rfl), ?_⟩
  walk_at "rd"
  refine r_exts o2 2 1 rfl rfl (by rw [List.length_map, List.length_map, hrl]; omega) fun H3 s3 o3 => ?_
  rw [← List.map_append] at o3
  walk_at "rd"
  exact q H3 t (fun b u hb h => o3.ex _ _ ((delH_ne hb).trans h)) (o3.at 2 rfl) (o3.at 0 rfl)
def sp_lgseal (K : PySem.W.Frag) (CL CD : Addr) : Sp := fun vs H Q _ => ∃ (p t : Addr) (g : LG) (a l : Int), vs = [.ref p, .ref t] ∧ LogAt CL CD H p g ∧ SqT K H t (([a, l] : List Int).map V.int) ∧ 0 ≤ a ∧ 0 ≤ l ∧ 0 ≤ g.b + 1 ∧ g.fs.length ≤ 1000000 ∧ g.ws.length ≤ 1000000 ∧
  ∀ H' l', (∀ b u, b ≠ p → b ≠ g.fl → H b = some u → H' b = some u) → H l' = none → H' p = some (.ins CL g.dx (lgF g.d l' (g.b + 1))) → H' l' = some (.lst []) → H' g.fl = some (.lst ((g.fs ++ (g.ws ++ sealL (g.b + 1) a l ++ sealL (g.b + 1) a l)).map V.int)) → Q .non H'
theorem d_lgseal {CL CD : Addr} (T : Top K mg) (D : Cl_Log K mg CL) (C_Disk : Cl_Disk K mg CD) : MDef P w K mg base CX0 3 CL "seal" ["self", "root"] (sp_lgseal K CL CD) := by
  have M_Disk_append : MDef P w K mg base CX0 1 CD "append" ["self", "values"] (sp_dappend K CD) := d_dappend T C_Disk
  have G_make_seal : Def P w K mg base CX0 2 "make_seal" ["batch", "root"] (sp_make_seal K) := d_make_seal T
  refine D.m_seal.ok sc_Log_seal (by rintro vs H Q E ⟨p, t, g, a, l, rfl, _⟩; rfl) (fun f cdv A outer s H vs Q E hr h => ?_)
  obtain ⟨p, t, ⟨dx, l, d, ddx, fl, b, ws, fs⟩, ra, rl, rfl, ⟨hp, hl, hd, hfl, hne⟩, ht, ha0, hl0', hb0, hfz, hwz, q⟩ := h
  dsimp only at hfz hwz hne q hb0 hp hl hd hfl
  have C_Disk := C_Disk
  have hpf : p ≠ fl := lst_ne hfl hp
  have o0 := (take_l hp).take ((delH_ne (Ne.symm hpf)).trans hfl)
  have hl0 : delH (delH H p) fl l = _ := (delH_ne hne).trans ((delH_ne (Ne.symm (lst_ne hl hp))).trans hl)
  have hdp : d ≠ p := by rintro rfl; rw [hd] at hp; cases hp
  have hd0 : delH (delH H p) fl d = _ := (delH_ne (lst_ne hfl hd)).trans ((delH_ne hdp).trans hd)
  refine ⟨_, (pss_cons (ps_set (i := 2) sc_Log_seal.nd rfl (Or.inl rfl) (pe_callD G_make_seal (hr.mono (by decide)) (pa_cons (pe_op op_add (pe_fld (pv 0) rfl) pe_int) (pa_cons (pv 1) pa_nil))))
      (pss_cons (ps_expr (pe_methD (pe_fld (pv 0) rfl) C_Disk.cl M_Disk_append (hr.mono (by decide)) (pa_cons (pe_op op_cat (pe_op op_cat (pe_fld (pv 0) rfl) (pv 2)) (pv 2)) pa_nil)))
      (pss_cons (ps_fld (pv 0) (pe_lst pa_nil) rfl)
      (pss_one (ps_fld (pv 0) (pe_op op_add (pe_fld (pv 0) rfl) pe_int) rfl))))), ?_⟩
  walk_at "rd"
  refine ⟨p, CL, dx, _, .int b, rfl, hp, D.cl, D.a__sealed, rfl, ?_⟩
  walk_at "rd"
  refine ⟨b + 1, ra, rl, t, rfl, ht, hb0, ha0, hl0', r_ret1 o0 fun p1 H1 o1 => ?_⟩
  have hs := seal_len (b + 1) ra rl
  generalize sealL (b + 1) ra rl = sl at *
  walk_at "rd"
  refine ⟨p, CL, dx, _, .ref d, rfl, o1.at 2 rfl, D.cl, D.a_disk, rfl, ?_⟩
  refine ⟨d, ddx, dkF fl, rfl, o1.ex _ _ hd0, rfl, ?_⟩
  walk_at "rd"
  refine ⟨p, CL, dx, _, .ref l, rfl, o1.at 2 rfl, D.cl, D.a__waiting, rfl, ?_⟩
  walk_at "rd"
  refine r_cat o1 (o1.ex _ _ hl0) (o1.at 0 rfl) (by rw [List.length_map, List.length_map]; omega) fun p2 H2 o2 => ?_
  rw [← List.map_append] at o2
  walk_at "rd"
  refine r_cat o2 (o2.at 0 rfl) (o2.at 1 rfl) (by rw [List.length_map, List.length_map, List.length_append]; omega) fun p3 H3 o3 => ?_
  rw [← List.map_append] at o3
  walk_at "rd"
  refine ⟨d, fl, ddx, p3, fs, _, rfl, o3.ex _ _ hd0, o3.at 3 rfl, o3.at 0 rfl, by rw [List.length_append, List.length_append]; omega, ?_⟩
  have o4 := o3.set (v := .lst ((fs ++ (ws ++ sl ++ sl)).map V.int)) 3 rfl
  revert o4
  generalize upd H3 fl (.lst ((fs ++ (ws ++ sl ++ sl)).map V.int)) = H4
  intro o4
  walk_at "rd"
  refine r_newLs o4 (Nat.zero_le _) fun l5 H5 s5 o5 => ?_
  walk_at "rd"
  refine sfld o5 5 rfl D.cl D.a__waiting (Nat.le_of_ble_eq_true rfl) fun H6 s6 o6 => ?_
  walk_at "rd"
  refine ⟨p, CL, dx, _, .int b, rfl, o6.at 5 rfl, D.cl, D.a__sealed, rfl, ?_⟩
  walk_at "rd"
  refine sfld o6 5 rfl D.cl D.a__sealed (Nat.le_of_ble_eq_true rfl) fun H7 s7 o7 => ?_
  walk_at "rd"
  have n1 : l5 ≠ p := Own.ne o7 (i := 0) (j := 5) rfl rfl (by decide)
  have n2 : l5 ≠ fl := Own.ne o7 (i := 0) (j := 4) rfl rfl (by decide)
  have hn := o7.fresh 0 rfl
  rw [delH_ne n2, delH_ne n1] at hn
  exact q H7 l5 (fun b u h1 h2 h => o7.ex _ _ ((delH_ne h2).trans ((delH_ne h1).trans h))) hn (o7.at 5 rfl) (o7.at 0 rfl) (o7.at 4 rfl)
end

section
variable {P : Program} {w : World} {K : PySem.W.Frag} {mg : Str → Option Value} {base : Heap}
theorem cut_nat (fs : List Int) (n c : Nat) : cutV (fs.map V.int) (some (n : Int)) (some ((n : Int) + (c : Int))) = ((fs.drop n).take c).map V.int := cut_at fs n c
def sp_lgfetch (K : PySem.W.Frag) (CL CD C : Addr) : Sp := fun vs H Q E => ∃ (p t : Addr) (g : LG) (k : Int) (ad ln : Nat), vs = [.ref p, .int k, .ref t] ∧ LogAt CL CD H p g ∧ SqT K H t (([(ad : Int), (ln : Int)] : List Int).map V.int) ∧ g.fs.length ≤ 1000000 ∧ g.ws.length ≤ 1000000 ∧ Tell (.int ad) ∧ Tell (.int ln) ∧
  (ln ≤ (g.at_ ad ln).length → RecOk k (g.at_ ad ln) → RetO H Q (.lst ((recC (g.at_ ad ln)).map V.int))) ∧ (¬ (ln ≤ (g.at_ ad ln).length ∧ RecOk k (g.at_ ad ln)) → RetE H E C [("length", .int ln), ("address", .int ad)])
theorem d_lgfetch {CL CD C : Addr} (T : Top K mg) (E_Damaged : EDef P w K mg base C "Damaged" ["self", "address", "length"] (sp_i2 C "address" "length")) (D : Cl_Log K mg CL) (C_Disk : Cl_Disk K mg CD) : MDef P w K mg base (L2N.CX P w) 6 CL "fetch" ["self", "kind", "pointer"] (sp_lgfetch K CL CD C) := by
  have M_Disk___len__ : MDef P w K mg base CX0 1 CD "__len__" ["self"] (sp_dlen K CD) := d_dlen T C_Disk
  have M_Disk_part : MDef P w K mg base CX0 1 CD "part" ["self", "address", "count"] (sp_dpart K CD) := d_dpart T C_Disk
  have G_content_of : Def P w K mg base (L2N.CX P w) 5 "content_of" ["found", "kind", "pointer"] (sp_content K C) := d_content T E_Damaged
  refine D.m_fetch.okN sc_Log_fetch (by rintro vs H Q E ⟨p, t, g, k, ad, ln, rfl, _⟩; rfl) (fun f cdv A outer s H vs Q E hr h => ?_)
  obtain ⟨p, t, ⟨dx, l, d, ddx, fl, b, ws, fs⟩, k, ad, ln, rfl, ⟨hp, hl, hd, hfl, hne⟩, ht, hfz, hwz, ta, tl, q, qe⟩ := h
  dsimp only at hfz hwz hne hp hl hd hfl
  unfold LG.at_ at q qe
  dsimp only at q qe
  refine ⟨_, (pss_cons (ps_asg (pv 2) (pg_tup (n := 2) rfl (pgs_cons (pg_name (i := 3) sc_Log_fetch.nd rfl (Or.inl rfl)) (pgs_cons (pg_name (i := 4) sc_Log_fetch.nd rfl (Or.inl rfl)) pgs_nil))))
      (pss_cons (ps_set (i := 5) sc_Log_fetch.nd rfl (Or.inl rfl) (pe_op op_sub (pv 3) (pe_callB (call_lenO M_Disk___len__ (hr.mono (by decide))) (by rfl) T.b_len (by decide +kernel) (pa_cons (pe_fld (pv 0) rfl) pa_nil))))
      (pss_cons (ps_if (pt_cmpR op_lt (pv 5) pe_int (nomark _)) (pss_one (ps_ret (pe_callN G_content_of (L2N.takes_of rfl rfl rfl rfl) (hr.mono (by decide)) (pa_cons (pe_methD (pe_fld (pv 0) rfl) C_Disk.cl M_Disk_part (hr.mono (by decide)) (pa_cons (pv 3) (pa_cons (pv 4) pa_nil))) (pa_cons (pv 1) (pa_cons (pv 2) pa_nil)))))) pss_nil)
      (pss_one (ps_ret (pe_callN G_content_of (L2N.takes_of rfl rfl rfl rfl) (hr.mono (by decide)) (pa_cons (pe_slice (r := rSlL K) sl_list (pe_fld (pv 0) rfl) (po_some (pv 5)) (po_some (pe_op op_add (pv 5) (pv 4)))) (pa_cons (pv 1) (pa_cons (pv 2) pa_nil))))))))), ?_⟩
  walk_at "rd"
  refine ⟨p, CL, dx, _, .ref d, rfl, hp, D.cl, D.a_disk, rfl, ?_⟩
  walk_at "rd"
  refine ⟨d, ddx, dkF fl, rfl, hd, d, fl, ddx, fs, rfl, hd, SqL.of hfl, (fs.length : Int), rfl, by omega, by omega, ?_⟩
  walk_at "rd"
  refine rif (fun h1 => ?_) fun h1 => ?_
  · rw [if_pos (show ad < fs.length by omega)] at q qe
    walk_at "rd"
    refine ⟨p, CL, dx, _, .ref d, rfl, hp, D.cl, D.a_disk, rfl, ?_⟩
    walk_at "rd"
    refine ⟨d, ddx, dkF fl, rfl, hd, rfl, ?_⟩
    walk_at "rd"
    refine ⟨d, fl, ddx, _, _, fs, rfl, hd, SqL.of hfl, r_ret1s (Own.nil H) fun p3 H3 s3 o3 => ?_⟩
    rw [cut_nat] at o3
    walk_at "rd"
    exact ⟨p3, t, k, ad, ln, _, rfl, o3.sqL 0 rfl, s3.sq ht, by rw [List.length_take, List.length_drop]; omega, ta, tl, fun h1 h2 => My.RetO.up (q (by omega) h2) o3, fun h => (qe fun h2 => h ⟨by omega, h2.2⟩).up o3⟩
  · rw [if_neg (show ¬ ad < fs.length by omega)] at q qe
    walk_at "rd"
    refine ⟨p, CL, dx, _, .ref l, rfl, hp, D.cl, D.a__waiting, rfl, ?_⟩
    have hL : SqL K H l (ws.map V.int) := SqL.of hl
    walk_at "rd"
    rw [show (ad : Int) - (fs.length : Int) = ((ad - fs.length : Nat) : Int) by omega]
    refine r_slLs (Own.nil H) hL fun p3 H3 s3 o3 => ?_
    rw [cut_nat] at o3
    walk_at "rd"
    exact ⟨p3, t, k, ad, ln, _, rfl, o3.sqL 0 rfl, s3.sq ht, by rw [List.length_take, List.length_drop]; omega, ta, tl, fun h1 h2 => My.RetO.up (q (by omega) h2) o3, fun h => (qe fun h2 => h ⟨by omega, h2.2⟩).up o3⟩
end

/-! ### tuples of ints in their order -/
def lexR (r : Int → Int → Bool) (z : Bool) : List Int → List Int → Bool
  | x :: xs, y :: ys => if x = y then lexR r z xs ys else r x y
  | [], _ => z
  | _ :: _, [] => z
theorem lexAt_R (r : Int → Int → Bool) (z : Bool) : ∀ (xs ys : List Int) (i : Nat) (e' r' : Nat → Bool), (∀ j, e' (i + j) = decide (xs.getD j 0 = ys.getD j 0)) → (∀ j, r' (i + j) = r (xs.getD j 0) (ys.getD j 0)) →
    Ob.lexAt e' r' z i (min xs.length ys.length) = lexR r z xs ys
  | [], ys, i, e', r', _, _ => by rw [List.length_nil, Nat.zero_min]; rfl
  | _ :: _, [], i, e', r', _, _ => by rw [List.length_nil, Nat.min_zero]; rfl
  | x :: xs, y :: ys, i, e', r', he, hr => by
    have ih := lexAt_R r z xs ys (i + 1) e' r' (fun j => by have := he (j + 1); rw [show i + (j + 1) = i + 1 + j by omega] at this; exact this) (fun j => by have := hr (j + 1); rw [show i + (j + 1) = i + 1 + j by omega] at this; exact this)
    have e0 : e' i = decide (x = y) := he 0
    have r0 : r' i = r x y := hr 0
    rw [show min (x :: xs).length (y :: ys).length = min xs.length ys.length + 1 by rw [List.length_cons, List.length_cons]; omega, Ob.lexAt_succ, ih, e0, r0]
    unfold lexR
    by_cases h : x = y
    · rw [if_pos h, if_pos (decide_eq_true h)]; cases xs <;> cases ys <;> rfl
    · rw [if_neg h, if_neg (by rw [decide_eq_false h]; exact Bool.false_ne_true)]
def rLtT (K : PySem.W.Frag) : R2 := fun x y H Q => ∃ (a b : Addr) (ns ms : List Int), x = .ref a ∧ y = .ref b ∧ SqT K H a (ns.map V.int) ∧ SqT K H b (ms.map V.int) ∧ Q (.bl (lexR (fun i j => decide (i < j)) (decide (ns.length < ms.length)) ns ms)) H
def rGeT (K : PySem.W.Frag) : R2 := fun x y H Q => ∃ (a b : Addr) (ns ms : List Int), x = .ref a ∧ y = .ref b ∧ SqT K H a (ns.map V.int) ∧ SqT K H b (ms.map V.int) ∧ Q (.bl (lexR (fun i j => decide (j ≤ i)) (decide (ms.length ≤ ns.length)) ns ms)) H
theorem beq_dec (i j : Int) : (i == j) = decide (i = j) := by
  by_cases q : i = j
  · rw [decide_eq_true q]; exact beq_iff_eq.mpr q
  · rw [decide_eq_false q]; exact beq_eq_false_iff_ne.mpr q
theorem op_ltT {X : Cx} (hu : X.A.units < cLine) : OpR X (compareOp .Lt) (rLtT X.K) := by
  intro pins s σ H x y v u Q I rx ry h
  obtain ⟨a, b, ns, ms, rfl, rfl, ha, hb, q⟩ := h
  cases rx
  cases ry
  obtain ⟨its, r1, p1, _⟩ := I.tuple ha
  obtain ⟨its2, r2, p2, _⟩ := I.tuple hb
  have i1 : IntsAre its ns := Vals.ints r1
  have i2 : IntsAre its2 ms := Vals.ints r2
  have e1 : its.toArray.size = ns.length := by rw [List.size_toArray]; exact i1.length
  have e2 : its2.toArray.size = ms.length := by rw [List.size_toArray]; exact i2.length
  have at1 : ∀ j (h1 : j < its.toArray.size), ∃ t, its.toArray[j] = .int (ns.getD j 0) t := fun j h1 => PyProof.Rows.IntsAre.int_at i1 _ _ (by simp at h1; simp [h1])
  have at2 : ∀ j (h1 : j < its2.toArray.size), ∃ t, its2.toArray[j] = .int (ms.getD j 0) t := fun j h1 => PyProof.Rows.IntsAre.int_at i2 _ _ (by simp at h1; simp [h1])
  have R := Ob.RcOp.tuples_lt (A := X.A) (s := s) (e := fun j => decide (ns.getD j 0 = ms.getD j 0)) (r := fun j => decide (ns.getD j 0 < ms.getD j 0)) p1 p2 hu (fun j h1 h2 => by
    obtain ⟨t, et⟩ := at1 j h1
    obtain ⟨t', et'⟩ := at2 j h2
    rw [et, et']
    rw [← beq_dec]
    exact SeqAt.EqAt.int_int _ _ _ _) (fun j h1 h2 _ => by
    obtain ⟨t, et⟩ := at1 j h1
    obtain ⟨t', et'⟩ := at2 j h2
    rw [et, et']
    exact Ob.RcOp.lt_int _ _ _ _)
  rw [e1, e2, lexAt_R (fun i j => decide (i < j)) _ ns ms 0 _ _ (fun j => by rw [Nat.zero_add]) (fun j => by rw [Nat.zero_add])] at R
  have z : wpAny (model X.prog X.w) X.A (compareOp .Lt (.ref a) (.ref b)) (EP X pins σ Q) X.xe s := R X.prog X.w X.xe (EP X pins σ Q) ⟨.bl _, H, I, rfl, q⟩
  exact z
theorem op_geT {X : Cx} (hu : X.A.units < cLine) : OpR X (compareOp .GtE) (rGeT X.K) := by
  intro pins s σ H x y v u Q I rx ry h
  obtain ⟨a, b, ns, ms, rfl, rfl, ha, hb, q⟩ := h
  cases rx
  cases ry
  obtain ⟨its, r1, p1, _⟩ := I.tuple ha
  obtain ⟨its2, r2, p2, _⟩ := I.tuple hb
  have i1 : IntsAre its ns := Vals.ints r1
  have i2 : IntsAre its2 ms := Vals.ints r2
  have e1 : its.toArray.size = ns.length := by rw [List.size_toArray]; exact i1.length
  have e2 : its2.toArray.size = ms.length := by rw [List.size_toArray]; exact i2.length
  have at1 : ∀ j (h1 : j < its.toArray.size), ∃ t, its.toArray[j] = .int (ns.getD j 0) t := fun j h1 => PyProof.Rows.IntsAre.int_at i1 _ _ (by simp at h1; simp [h1])
  have at2 : ∀ j (h1 : j < its2.toArray.size), ∃ t, its2.toArray[j] = .int (ms.getD j 0) t := fun j h1 => PyProof.Rows.IntsAre.int_at i2 _ _ (by simp at h1; simp [h1])
  have R := Ob.RcOp.tuples_ge (A := X.A) (s := s) (e := fun j => decide (ns.getD j 0 = ms.getD j 0)) (r := fun j => decide (ms.getD j 0 ≤ ns.getD j 0)) p1 p2 hu (fun j h1 h2 => by
    obtain ⟨t, et⟩ := at1 j h1
    obtain ⟨t', et'⟩ := at2 j h2
    rw [et, et']
    rw [← beq_dec]
    exact SeqAt.EqAt.int_int _ _ _ _) (fun j h1 h2 _ => by
    obtain ⟨t, et⟩ := at1 j h1
    obtain ⟨t', et'⟩ := at2 j h2
    rw [et, et']
    exact Ob.RcOp.ge_int _ _ _ _)
  rw [e1, e2, lexAt_R (fun i j => decide (j ≤ i)) _ ns ms 0 _ _ (fun j => by rw [Nat.zero_add]) (fun j => by rw [Nat.zero_add])] at R
  have z : wpAny (model X.prog X.w) X.A (compareOp .GtE (.ref a) (.ref b)) (EP X pins σ Q) X.xe s := R X.prog X.w X.xe (EP X pins σ Q) ⟨.bl _, H, I, rfl, q⟩
  exact z
section
variable {K : PySem.W.Frag} {H : Hp} {Q : VK} {a b : Addr}
theorem r_ltT {ns ms : List Int} (h : SqT K H a (ns.map V.int)) (h2 : SqT K H b (ms.map V.int)) (q : Q (.bl (lexR (fun i j => decide (i < j)) (decide (ns.length < ms.length)) ns ms)) H) : rLtT K (.ref a) (.ref b) H Q := ⟨a, b, ns, ms, rfl, rfl, h, h2, q⟩
theorem r_geT {ns ms : List Int} (h : SqT K H a (ns.map V.int)) (h2 : SqT K H b (ms.map V.int)) (q : Q (.bl (lexR (fun i j => decide (j ≤ i)) (decide (ms.length ≤ ns.length)) ns ms)) H) : rGeT K (.ref a) (.ref b) H Q := ⟨a, b, ns, ms, rfl, rfl, h, h2, q⟩
theorem r_neBl {a b : Bool} (q : Q (.bl (!decide (a = b))) H) : rNe (.bl a) (.bl b) H Q := ⟨rfl, by
  have e : decide ((V.bl a) = .bl b) = decide (a = b) := by simp
  rw [e]; exact q⟩
end

/-! ### entries, nodes, trees -/
structure Ent where
  k : List Int
  ad : Nat
  ln : Nat
def entD (e : Ent) : PyData := .tuple [.tuple (e.k.map PyData.int), .tuple (([(e.ad : Int), (e.ln : Int)] : List Int).map PyData.int)]
def KeyOk (k : List Int) : Prop := k.length ≤ 3 ∧ ∀ z ∈ k, 0 ≤ z ∧ z < 1000
structure EntOk (e : Ent) : Prop where
  k : KeyOk e.k
  ad : e.ad < 5000000
  ln : e.ln < 20000
def entB (e : Ent) : List Int := lsB intB e.k ++ numB e.ad ++ numB e.ln
def nodeB (es : List Ent) : List Int := numB es.length ++ es.flatMap entB
theorem int_len2 {z : Int} (h : 0 ≤ z ∧ z < 1000) : (intB z).length ≤ 2 := by
  unfold intB
  refine numB_len 1 _ ?_
  unfold zz
  rw [if_neg (by omega)]
  omega
theorem key_len {k : List Int} (h : KeyOk k) : (lsB intB k).length ≤ 7 := by
  have hn := numB_len 0 k.length (Nat.lt_of_le_of_lt h.1 (by decide))
  have hfl := flat_le (wr := intB) (m := 2) k fun z hz => int_len2 (h.2 z hz)
  have := h.1
  unfold lsB
  rw [List.length_append]
  omega
theorem ent_len {e : Ent} (h : EntOk e) : (entB e).length ≤ 14 := by
  have h1 := key_len h.k
  have h2 := numB_len 3 e.ad (Nat.lt_of_lt_of_le h.ad (by decide))
  have h3 := numB_len 2 e.ln (Nat.lt_of_lt_of_le h.ln (by decide))
  unfold entB
  rw [List.length_append, List.length_append]
  omega
theorem flatE_le : ∀ (es : List Ent), (∀ e ∈ es, EntOk e) → (es.flatMap entB).length ≤ es.length * 14
  | [], _ => by simp
  | e :: es, h => by
    have h1 := ent_len (h e List.mem_cons_self)
    have h2 := flatE_le es fun x hx => h x (List.mem_cons_of_mem _ hx)
    rw [List.flatMap_cons, List.length_append, List.length_cons, Nat.add_mul]
    omega
theorem node_len {es : List Ent} (h : ∀ e ∈ es, EntOk e) (hl : es.length ≤ 9) : (nodeB es).length ≤ 127 := by
  have h1 := flatE_le es h
  have hn := numB_len 0 es.length (Nat.lt_of_le_of_lt hl (by decide))
  unfold nodeB
  rw [List.length_append]
  omega
theorem ent_b (e : Ent) : B250 (entB e) := by
  intro x hx
  unfold entB at hx
  simp only [List.mem_append] at hx
  rcases hx with (h | h) | h
  · exact bw_ls (fun z _ => bw_int z) x h
  · exact bw_num _ x h
  · exact bw_num _ x h
theorem node_b (es : List Ent) : B250 (nodeB es) := by
  intro x hx
  unfold nodeB at hx
  rcases List.mem_append.mp hx with h | h
  · exact bw_num _ x h
  · obtain ⟨e, _, h⟩ := List.mem_flatMap.mp h
    exact ent_b e x h
/-! keys in their order -/
def ltK (a b : List Int) : Bool := lexR (fun i j => decide (i < j)) (decide (a.length < b.length)) a b
theorem ltK_nil : ∀ a : List Int, ltK a [] = false
  | [] => rfl
  | x :: xs => by
    show decide ((x :: xs).length < ([] : List Int).length) = false
    exact decide_eq_false (by simp)
theorem ltK_cons0 (y : Int) (ys : List Int) : ltK [] (y :: ys) = true := by
  show decide (([] : List Int).length < (y :: ys).length) = true
  exact decide_eq_true (by simp)
theorem ltK_cons (x y : Int) (xs ys : List Int) : ltK (x :: xs) (y :: ys) = if x = y then ltK xs ys else decide (x < y) := by
  show (if x = y then lexR _ (decide ((x :: xs).length < (y :: ys).length)) xs ys else _) = _
  have e : decide ((x :: xs).length < (y :: ys).length) = decide (xs.length < ys.length) := by rw [decide_eq_decide]; simp
  rw [e]
  rfl
theorem ltK_irr : ∀ a : List Int, ltK a a = false
  | [] => rfl
  | x :: xs => by rw [ltK_cons, if_pos rfl]; exact ltK_irr xs
theorem ltK_trans : ∀ {a b c : List Int}, ltK a b = true → ltK b c = true → ltK a c = true
  | _, [], _, h, _ => by rw [ltK_nil] at h; cases h
  | _, _ :: _, [], _, h => by rw [ltK_nil] at h; cases h
  | [], _ :: _, _ :: _, _, _ => ltK_cons0 _ _
  | x :: xs, y :: ys, z :: zs, h1, h2 => by
    rw [ltK_cons] at h1 h2 ⊢
    by_cases e1 : x = y
    · subst e1
      rw [if_pos rfl] at h1
      by_cases e2 : x = z
      · rw [if_pos e2] at h2 ⊢
        exact ltK_trans h1 h2
      · rw [if_neg e2] at h2 ⊢
        exact h2
    · rw [if_neg e1] at h1
      have h1 := of_decide_eq_true h1
      by_cases e2 : y = z
      · subst e2
        rw [if_neg e1]
        exact decide_eq_true h1
      · rw [if_neg e2] at h2
        have h2 := of_decide_eq_true h2
        rw [if_neg (by omega)]
        exact decide_eq_true (by omega)
theorem ltK_tri : ∀ {a b : List Int}, ltK a b = false → ltK b a = false → a = b
  | [], [], _, _ => rfl
  | [], y :: ys, h, _ => by rw [ltK_cons0] at h; cases h
  | x :: xs, [], _, h => by rw [ltK_cons0] at h; cases h
  | x :: xs, y :: ys, h1, h2 => by
    rw [ltK_cons] at h1 h2
    by_cases e : x = y
    · subst e
      rw [if_pos rfl] at h1 h2
      rw [ltK_tri h1 h2]
    · rw [if_neg e] at h1
      rw [if_neg (Ne.symm e)] at h2
      have h1 := of_decide_eq_false h1
      have h2 := of_decide_eq_false h2
      omega
theorem ltK_asym {a b : List Int} (h : ltK a b = true) : ltK b a = false := by
  cases h2 : ltK b a with
  | false => rfl
  | true => exact absurd (ltK_trans h h2) (by rw [ltK_irr]; exact Bool.false_ne_true)

/-- the comparisons of tuples, told by ltK -/
theorem lex_ge : ∀ a b : List Int, lexR (fun i j => decide (j ≤ i)) (decide (b.length ≤ a.length)) a b = !ltK a b
  | [], [] => rfl
  | x :: xs, [] => by rw [ltK_nil]; exact decide_eq_true (Nat.zero_le _)
  | [], y :: ys => by rw [ltK_cons0]; exact decide_eq_false (by simp)
  | x :: xs, y :: ys => by
    rw [ltK_cons]
    show (if x = y then lexR _ (decide ((y :: ys).length ≤ (x :: xs).length)) xs ys else _) = _
    have e : decide ((y :: ys).length ≤ (x :: xs).length) = decide (ys.length ≤ xs.length) := by rw [decide_eq_decide]; simp
    rw [e]
    by_cases h : x = y
    · rw [if_pos h, if_pos h]; exact lex_ge xs ys
    · rw [if_neg h, if_neg h]
      by_cases h2 : x < y
      · rw [decide_eq_true h2]; exact decide_eq_false (by omega)
      · rw [decide_eq_false h2]; exact decide_eq_true (by omega)
theorem lex_le : ∀ a b : List Int, lexR (fun i j => decide (i ≤ j)) (decide (a.length ≤ b.length)) a b = !ltK b a
  | [], [] => rfl
  | x :: xs, [] => by rw [ltK_cons0]; exact decide_eq_false (by simp)
  | [], y :: ys => by rw [ltK_nil]; exact decide_eq_true (Nat.zero_le _)
  | x :: xs, y :: ys => by
    rw [ltK_cons]
    show (if x = y then lexR _ (decide ((x :: xs).length ≤ (y :: ys).length)) xs ys else _) = _
    have e : decide ((x :: xs).length ≤ (y :: ys).length) = decide (xs.length ≤ ys.length) := by rw [decide_eq_decide]; simp
    rw [e]
    by_cases h : x = y
    · rw [if_pos h, if_pos h.symm]; exact lex_le xs ys
    · rw [if_neg h, if_neg (Ne.symm h)]
      by_cases h2 : y < x
      · rw [decide_eq_true h2]; exact decide_eq_false (by omega)
      · rw [decide_eq_false h2]; exact decide_eq_true (by omega)
theorem lex_gt : ∀ a b : List Int, lexR (fun i j => decide (j < i)) (decide (b.length < a.length)) a b = ltK b a
  | [], [] => rfl
  | x :: xs, [] => by rw [ltK_cons0]; exact decide_eq_true (by simp)
  | [], y :: ys => by rw [ltK_nil]; exact decide_eq_false (by simp)
  | x :: xs, y :: ys => by
    rw [ltK_cons]
    show (if x = y then lexR _ (decide ((y :: ys).length < (x :: xs).length)) xs ys else _) = _
    have e : decide ((y :: ys).length < (x :: xs).length) = decide (ys.length < xs.length) := by rw [decide_eq_decide]; simp
    rw [e]
    by_cases h : x = y
    · rw [if_pos h, if_pos h.symm]; exact lex_gt xs ys
    · rw [if_neg h, if_neg (Ne.symm h)]
/-! ### node records delimit themselves: what lies in a file of them one behind the other lies apart -/
theorem numB_pre : ∀ (a b : Nat) (r s : List Int), numB a ++ r = numB b ++ s → a = b ∧ r = s := by
  intro a
  induction a using Nat.strongRecOn with
  | ind a ih =>
    intro b r s h
    by_cases ha : a < 125
    · by_cases hb : b < 125
      · rw [numB_lt ha, numB_lt hb, List.cons_append, List.cons_append] at h
        obtain ⟨h1, h2⟩ := List.cons.inj h
        exact ⟨by omega, h2⟩
      · rw [numB_lt ha, numB_ge hb, List.cons_append, List.cons_append] at h
        have := (List.cons.inj h).1
        omega
    · by_cases hb : b < 125
      · rw [numB_ge ha, numB_lt hb, List.cons_append, List.cons_append] at h
        have := (List.cons.inj h).1
        omega
      · rw [numB_ge ha, numB_ge hb, List.cons_append, List.cons_append] at h
        obtain ⟨h1, h2⟩ := List.cons.inj h
        obtain ⟨e, q⟩ := ih (a / 125) (by omega) _ _ _ h2
        exact ⟨by omega, q⟩
def PreF {β : Type} (wr : β → List Int) : Prop := ∀ a b r s, wr a ++ r = wr b ++ s → a = b ∧ r = s
theorem intB_pre : PreF intB := fun a b r s h => by
  obtain ⟨e, q⟩ := numB_pre _ _ _ _ h
  refine ⟨?_, q⟩
  have h1 := unzz_zz a
  rw [e, unzz_zz] at h1
  exact h1.symm
theorem flat_pre {β : Type} {wr : β → List Int} (hp : PreF wr) : ∀ (xs ys : List β) (r s : List Int), xs.length = ys.length → xs.flatMap wr ++ r = ys.flatMap wr ++ s → xs = ys ∧ r = s
  | [], [], _, _, _, h => ⟨rfl, h⟩
  | [], _ :: _, _, _, hl, _ => by cases hl
  | _ :: _, [], _, _, hl, _ => by cases hl
  | x :: xs, y :: ys, r, s, hl, h => by
    rw [List.flatMap_cons, List.flatMap_cons, List.append_assoc, List.append_assoc] at h
    obtain ⟨e1, h1⟩ := hp _ _ _ _ h
    obtain ⟨e2, h2⟩ := flat_pre hp xs ys r s (Nat.succ.inj hl) h1
    exact ⟨by rw [e1, e2], h2⟩
theorem lsB_pre : PreF (lsB intB) := fun a b r s h => by
  unfold lsB at h
  rw [List.append_assoc, List.append_assoc] at h
  obtain ⟨e, h⟩ := numB_pre _ _ _ _ h
  exact flat_pre intB_pre _ _ _ _ e h
theorem entB_pre : PreF entB := fun a b r s h => by
  unfold entB at h
  rw [List.append_assoc, List.append_assoc, List.append_assoc, List.append_assoc] at h
  obtain ⟨e1, h⟩ := lsB_pre _ _ _ _ h
  obtain ⟨e2, h⟩ := numB_pre _ _ _ _ h
  obtain ⟨e3, h3⟩ := numB_pre _ _ _ _ h
  refine ⟨?_, h3⟩
  obtain ⟨k, ad, ln⟩ := a
  obtain ⟨k2, ad2, ln2⟩ := b
  dsimp only at e1 e2 e3
  rw [e1, e2, e3]
theorem nodeB_pre : PreF nodeB := fun a b r s h => by
  unfold nodeB at h
  rw [List.append_assoc, List.append_assoc] at h
  obtain ⟨e, h⟩ := numB_pre _ _ _ _ h
  exact flat_pre entB_pre _ _ _ _ e h
def nrB (p : Int × List Ent) : List Int := recD p.1 (nodeB p.2)
theorem nrB_pre : PreF nrB := fun a b r s h => by
  obtain ⟨k, es⟩ := a
  obtain ⟨k2, es2⟩ := b
  unfold nrB recD at h
  rw [List.append_assoc, List.append_assoc, List.cons_append, List.cons_append] at h
  obtain ⟨e, h⟩ := List.cons.inj h
  obtain ⟨e2, h⟩ := nodeB_pre _ _ _ _ h
  dsimp only at e e2
  subst e e2
  exact ⟨rfl, List.append_cancel_left h⟩
/-- node records one behind the other -/
def Led (ns : List Int) : Prop := ∃ l : List (Int × List Ent), ns = l.flatMap nrB ∧ ∀ p ∈ l, 0 ≤ p.1 ∧ p.1 < 250
theorem Led.nil : Led [] := ⟨[], rfl, fun p hp => by cases hp⟩
theorem Led.b {ns : List Int} (h : Led ns) : ∀ x ∈ ns, 0 ≤ x ∧ x < 256 := by
  obtain ⟨l, rfl, hk⟩ := h
  intro x hx
  obtain ⟨p, hp, hx⟩ := List.mem_flatMap.mp hx
  have := recD_b (hk p hp) (node_b p.2) x hx
  omega
theorem Led.snoc {ns : List Int} (h : Led ns) (k : Int) (es : List Ent) (hk : 0 ≤ k ∧ k < 250) : Led (ns ++ recD k (nodeB es)) := by
  obtain ⟨l, rfl, hl⟩ := h
  refine ⟨l ++ [(k, es)], ?_, fun p hp => ?_⟩
  rotate_left
  · rcases List.mem_append.mp hp with hp | hp
    · exact hl p hp
    · rw [List.mem_singleton.mp hp]; exact hk
  rw [List.flatMap_append, List.flatMap_cons, List.flatMap_nil, List.append_nil]
  rfl
theorem flat_cut : ∀ (l1 l2 : List (Int × List Ent)) (r : List Int), l1.flatMap nrB ++ r = l2.flatMap nrB → ∃ q, l2 = l1 ++ q ∧ r = q.flatMap nrB
  | [], l2, r, h => ⟨l2, rfl, h⟩
  | p :: l1, [], r, h => by
    rw [List.flatMap_cons] at h
    have := congrArg List.length h
    rw [List.length_append, List.length_append] at this
    have h2 : (nrB p).length = (nodeB p.2).length + 3 := recD_len _ _
    rw [h2, List.flatMap_nil, List.length_nil] at this
    omega
  | p :: l1, p2 :: l2, r, h => by
    rw [List.flatMap_cons, List.flatMap_cons, List.append_assoc] at h
    obtain ⟨e1, h1⟩ := nrB_pre _ _ _ _ h
    obtain ⟨q, e2, h2⟩ := flat_cut l1 l2 r h1
    exact ⟨q, by rw [e1, e2]; rfl, h2⟩
/-- a node that begins before another ends before it -/
theorem Led.apart {D : List Int} {a b n : Nat} {k : Int} {es : List Ent} (ha : Led (D.take a)) (hb : Led (D.take b)) (hab : a < b) (hbD : b ≤ D.length) (hr : (D.drop a).take n = recD k (nodeB es)) (hn : n = (nodeB es).length + 3) : a + n ≤ b := by
  obtain ⟨l1, h1, _⟩ := ha
  obtain ⟨l2, h2, _⟩ := hb
  have e : D.take a ++ (D.take b).drop a = D.take b := by
    have := List.take_append_drop a (D.take b)
    rw [List.take_take, Nat.min_eq_left (Nat.le_of_lt hab)] at this
    exact this
  rw [h1, h2] at e
  obtain ⟨q, rfl, e2⟩ := flat_cut _ _ _ e
  have hd : D.drop a = q.flatMap nrB ++ D.drop b := by
    have e3 : (D.take b).drop a ++ D.drop b = D.drop a := by
      have h3 := congrArg (List.drop a) (List.take_append_drop b D)
      rw [List.drop_append_of_le_length (by rw [List.length_take]; omega)] at h3
      exact h3
    rw [← e3, h2, e2]
  have hlen1 : (l1.flatMap nrB).length = a := by rw [← h1, List.length_take]; omega
  have hlen2 : (l1.flatMap nrB).length + (q.flatMap nrB).length = b := by
    rw [← List.length_append, ← List.flatMap_append, ← h2, List.length_take]
    omega
  cases q with
  | nil => rw [List.flatMap_nil, List.length_nil] at hlen2; omega
  | cons p q =>
    have hs : recD k (nodeB es) ++ (D.drop a).drop n = nrB p ++ (q.flatMap nrB ++ D.drop b) := by
      rw [← hr, List.take_append_drop, hd, List.flatMap_cons, List.append_assoc]
    obtain ⟨rfl, _⟩ := nrB_pre (k, es) p _ _ hs
    rw [List.flatMap_cons, List.length_append] at hlen2
    have : (nrB (k, es)).length = (nodeB es).length + 3 := recD_len _ _
    omega

/-! nodes in a log -/
/-- what the ledger tells of a node -/
def Nk (kd : Int) (es : List Ent) : Prop := kd = 2 → 2 ≤ es.length
theorem nk1 (es : List Ent) : Nk 1 es := fun h => absurd h (by decide)
theorem nk_of {kd : Int} {es : List Ent} (h : 2 ≤ es.length) : Nk kd es := fun _ => h
theorem nk_le {es fs : List Ent} (h : Nk 2 es) (hl : es.length ≤ fs.length) : Nk 2 fs := fun _ => Nat.le_trans (h rfl) hl
def BdN (g : LG) (kd : Int) (ad : Nat) (es : List Ent) : Prop := ad ≤ g.fs.length + g.ws.length ∧ Led ((g.fs ++ g.ws).take ad) ∧ Nk kd es
theorem BdN.nk {g : LG} {kd : Int} {ad : Nat} {es : List Ent} (h : BdN g kd ad es) : Nk kd es := h.2.2
def Al (g : LG) : Prop := Led (g.fs ++ g.ws)
structure NodeR (g : LG) (kd : Int) (ad ln : Nat) (es : List Ent) : Prop where
  at_ : g.at_ ad ln = recD kd (nodeB es)
  ln_ : ln = (nodeB es).length + 3
  end_ : (ad < g.fs.length ∧ ad + ln ≤ g.fs.length) ∨ (g.fs.length ≤ ad ∧ ad + ln ≤ g.fs.length + g.ws.length)
  pos : 1 ≤ es.length
  le : es.length ≤ 8
  ok : ∀ e ∈ es, EntOk e
structure NodeAt (g : LG) (kd : Int) (ad ln : Nat) (es : List Ent) : Prop extends NodeR g kd ad ln es where
  bd : BdN g kd ad es
def LG.put (g : LG) (bs : List Int) : LG := { g with ws := g.ws ++ bs }
theorem take_drop_app (xs ys : List Int) {a n : Nat} (h : a + n ≤ xs.length) : ((xs ++ ys).drop a).take n = (xs.drop a).take n := by
  rw [List.drop_append_of_le_length (by omega), List.take_append_of_le_length (by rw [List.length_drop]; omega)]
theorem BdN.put {g : LG} {kd : Int} {ad : Nat} {es : List Ent} (h : BdN g kd ad es) (bs : List Int) : BdN (g.put bs) kd ad es := by
  obtain ⟨h1, h2, h3⟩ := h
  refine ⟨?_, ?_, h3⟩
  · unfold LG.put
    dsimp only
    rw [List.length_append]
    omega
  · unfold LG.put
    dsimp only
    rw [← List.append_assoc, List.take_append_of_le_length (by rw [List.length_append]; exact h1)]
    exact h2
theorem Al.bd {g : LG} (h : Al g) {kd : Int} {es : List Ent} (hk : Nk kd es) : BdN g kd (g.fs.length + g.ws.length) es := by
  refine ⟨Nat.le_refl _, ?_, hk⟩
  rw [← List.length_append, List.take_length]
  exact h
theorem Al.rec {g : LG} (h : Al g) (kd : Int) (es : List Ent) (hk : 0 ≤ kd ∧ kd < 250) : Al (g.put (recD kd (nodeB es))) := by
  unfold Al LG.put
  dsimp only
  rw [← List.append_assoc]
  exact Led.snoc h kd es hk
theorem NodeAt.put {g : LG} {kd : Int} {ad ln : Nat} {es : List Ent} (h : NodeAt g kd ad ln es) (bs : List Int) : NodeAt (g.put bs) kd ad ln es := by
  obtain ⟨⟨h1, h2, h3, h4, h5, h6⟩, h7⟩ := h
  refine ⟨⟨?_, h2, ?_, h4, h5, h6⟩, h7.put bs⟩
  · rw [← h1]
    unfold LG.at_ LG.put
    dsimp only
    rcases h3 with h3 | h3
    · rw [if_pos h3.1, if_pos h3.1]
    · rw [if_neg (by omega), if_neg (by omega)]
      exact take_drop_app _ _ (by omega)
  · unfold LG.put
    dsimp only
    rw [List.length_append]
    omega
/-- a sealed log holds the same -/
def LG.sealed (g : LG) (l : Addr) (sl : List Int) : LG := { g with l := l, b := g.b + 1, ws := [], fs := g.fs ++ (g.ws ++ sl) }
theorem BdN.sealed {g : LG} {kd : Int} {ad : Nat} {es : List Ent} (h : BdN g kd ad es) (l : Addr) (sl : List Int) : BdN (g.sealed l sl) kd ad es := by
  obtain ⟨h1, h2, h3⟩ := h
  refine ⟨?_, ?_, h3⟩
  · unfold LG.sealed
    dsimp only
    rw [List.length_append, List.length_append]
    omega
  · unfold LG.sealed
    dsimp only
    rw [List.append_nil, ← List.append_assoc, List.take_append_of_le_length (by rw [List.length_append]; exact h1)]
    exact h2
theorem NodeAt.sealed {g : LG} {kd : Int} {ad ln : Nat} {es : List Ent} (h : NodeAt g kd ad ln es) (l : Addr) (sl : List Int) : NodeAt (g.sealed l sl) kd ad ln es := by
  obtain ⟨⟨h1, h2, h3, h4, h5, h6⟩, h7⟩ := h
  refine ⟨⟨?_, h2, ?_, h4, h5, h6⟩, h7.sealed l sl⟩
  · rw [← h1]
    unfold LG.at_ LG.sealed
    dsimp only
    rw [if_pos (by rw [List.length_append, List.length_append]; omega)]
    rcases h3 with h3 | h3
    · rw [if_pos h3.1]
      exact take_drop_app _ _ h3.2
    · rw [if_neg (by omega), List.drop_append, List.drop_eq_nil_of_le h3.1, List.nil_append]
      exact take_drop_app _ _ (by omega)
  · unfold LG.sealed
    dsimp only
    rw [List.length_append, List.length_append]
    omega
/-- what a put writes -/
theorem NodeAt.new (g : LG) {kd : Int} {es : List Ent} (bs : List Int) (h4 : 1 ≤ es.length) (h5 : es.length ≤ 8) (h6 : ∀ e ∈ es, EntOk e) (ha : Al g) (hk : Nk kd es) : NodeAt (g.put (recD kd (nodeB es) ++ bs)) kd (g.fs.length + g.ws.length) ((nodeB es).length + 3) es := by
  refine ⟨⟨?_, rfl, ?_, h4, h5, h6⟩, (ha.bd hk).put _⟩
  · unfold LG.at_ LG.put
    dsimp only
    rw [if_neg (by omega), Nat.add_sub_cancel_left, List.drop_left, ← recD_len kd, List.take_left]
  · unfold LG.put
    dsimp only
    have := recD_len kd (nodeB es)
    rw [List.length_append, List.length_append]
    omega
/-! trees -/
def KidsR (R : Ent → List Ent → Prop) : List Ent → List Ent → Prop
  | [], es => es = []
  | k :: ks, es => ∃ part rest, es = part ++ rest ∧ R k part ∧ part.head?.map (·.k) = some k.k ∧ KidsR R ks rest
def IsT (g : LG) : Nat → Ent → List Ent → Prop
  | 0, p, es => NodeAt g 1 p.ad p.ln es
  | d + 1, p, es => ∃ kids, NodeAt g 2 p.ad p.ln kids ∧ KidsR (IsT g d) kids es
theorem KidsR.imp {R R' : Ent → List Ent → Prop} (h : ∀ k es, R k es → R' k es) : ∀ {ks es : List Ent}, KidsR R ks es → KidsR R' ks es
  | [], _, q => q
  | _ :: _, _, ⟨part, rest, e, r, hd, q⟩ => ⟨part, rest, e, h _ _ r, hd, KidsR.imp h q⟩
theorem KidsR.app {R : Ent → List Ent → Prop} : ∀ {ks ls es fs : List Ent}, KidsR R ks es → KidsR R ls fs → KidsR R (ks ++ ls) (es ++ fs)
  | [], _, es, _, h1, h2 => by
    have h1 : es = [] := h1
    subst h1
    exact h2
  | _ :: _, _, _, _, ⟨part, rest, e, r, hd, q⟩, h2 => ⟨part, rest ++ _, by rw [e, List.append_assoc], r, hd, KidsR.app q h2⟩
theorem KidsR.split {R : Ent → List Ent → Prop} : ∀ {ks es : List Ent} (i : Nat) {k : Ent}, KidsR R ks es → ks[i]? = some k → ∃ b part a, es = b ++ part ++ a ∧ KidsR R (ks.take i) b ∧ R k part ∧ part.head?.map (·.k) = some k.k ∧ KidsR R (ks.drop (i + 1)) a
  | [], _, _, _, _, h => by cases h
  | k0 :: ks, es, 0, k, ⟨part, rest, e, r, hd, q⟩, h => by
    cases h
    exact ⟨[], part, rest, by rw [e]; rfl, rfl, r, hd, q⟩
  | k0 :: ks, es, i + 1, k, ⟨part, rest, e, r, hd, q⟩, h => by
    obtain ⟨b, p2, a, e2, q1, q2, q3, q4⟩ := KidsR.split i q h
    exact ⟨part ++ b, p2, a, by rw [e, e2]; simp only [List.append_assoc], ⟨part, b, rfl, r, hd, q1⟩, q2, q3, q4⟩
theorem IsT.put {g : LG} (bs : List Int) : ∀ (d : Nat) {p : Ent} {es : List Ent}, IsT g d p es → IsT (g.put bs) d p es
  | 0, _, _, h => NodeAt.put h bs
  | d + 1, _, _, ⟨kids, h, q⟩ => ⟨kids, h.put bs, q.imp fun _ _ r => IsT.put bs d r⟩
theorem IsT.sealed {g : LG} (l : Addr) (sl : List Int) : ∀ (d : Nat) {p : Ent} {es : List Ent}, IsT g d p es → IsT (g.sealed l sl) d p es
  | 0, _, _, h => NodeAt.sealed h l sl
  | d + 1, _, _, ⟨kids, h, q⟩ => ⟨kids, h.sealed l sl, q.imp fun _ _ r => IsT.sealed l sl d r⟩
/-- keys ascend -/
def Asc : List Ent → Prop
  | [] => True
  | e :: es => (∀ x ∈ es, ltK e.k x.k = true) ∧ Asc es
theorem Asc.app {as bs : List Ent} : Asc (as ++ bs) ↔ Asc as ∧ Asc bs ∧ ∀ a ∈ as, ∀ b ∈ bs, ltK a.k b.k = true := by
  induction as with
  | nil => simp [Asc]
  | cons a as ih =>
    show (∀ x ∈ as ++ bs, ltK a.k x.k = true) ∧ Asc (as ++ bs) ↔ _
    rw [ih]
    constructor
    · rintro ⟨h1, h2, h3, h4⟩
      refine ⟨⟨fun x hx => h1 x (List.mem_append_left _ hx), h2⟩, h3, fun x hx b hb => ?_⟩
      rcases List.mem_cons.mp hx with rfl | hx
      · exact h1 b (List.mem_append_right _ hb)
      · exact h4 x hx b hb
    · rintro ⟨⟨h1, h2⟩, h3, h4⟩
      refine ⟨fun x hx => ?_, h2, h3, fun x hx => h4 x (List.mem_cons_of_mem _ hx)⟩
      rcases List.mem_append.mp hx with hx | hx
      · exact h1 x hx
      · exact h4 a List.mem_cons_self x hx
def keyIn (k : List Int) (es : List Ent) : Prop := ∃ e ∈ es, e.k = k
theorem KidsR.keys {R : Ent → List Ent → Prop} : ∀ {ks es : List Ent}, KidsR R ks es → ∀ k ∈ ks, keyIn k.k es
  | [], _, _, k, h => by cases h
  | k0 :: ks, es, ⟨part, rest, e, r, hd, q⟩, k, h => by
    subst e
    rcases List.mem_cons.mp h with rfl | h
    · cases part with
      | nil => cases hd
      | cons x xs => exact ⟨x, List.mem_append_left _ List.mem_cons_self, Option.some.inj hd⟩
    · obtain ⟨x, hx, e⟩ := KidsR.keys q k h
      exact ⟨x, List.mem_append_right _ hx, e⟩
/-- the keys of the entries above ascend too -/
theorem KidsR.asc {R : Ent → List Ent → Prop} : ∀ {ks es : List Ent}, KidsR R ks es → Asc es → Asc ks
  | [], _, _, _ => trivial
  | k0 :: ks, es, ⟨part, rest, e, r, hd, q⟩, h => by
    subst e
    rw [Asc.app] at h
    refine ⟨fun x hx => ?_, q.asc h.2.1⟩
    obtain ⟨y, hy, e⟩ := q.keys x hx
    cases part with
    | nil => cases hd
    | cons z zs =>
      rw [← e, ← Option.some.inj hd]
      exact h.2.2 z List.mem_cons_self y hy
theorem IsT.ne {g : LG} : ∀ (d : Nat) {p : Ent} {es : List Ent}, IsT g d p es → es ≠ []
  | 0, _, _, h => fun e => by have := h.pos; rw [e] at this; cases this
  | d + 1, _, _, ⟨kids, h, q⟩ => fun e => by
    subst e
    have := h.pos
    cases kids with
    | nil => cases this
    | cons k ks =>
      obtain ⟨part, rest, e, r, hd, q⟩ := q
      have e2 := List.append_eq_nil_iff.mp e.symm
      rw [e2.1] at hd
      cases hd
theorem KidsR.all {R : Ent → List Ent → Prop} {C : Ent → Prop} (h : ∀ k part, R k part → ∀ e ∈ part, C e) : ∀ {ks es : List Ent}, KidsR R ks es → ∀ e ∈ es, C e
  | [], _, q, e, he => by rw [show _ = [] from q] at he; cases he
  | _ :: _, _, ⟨part, rest, e1, r, hd, q⟩, e, he => by
    subst e1
    rcases List.mem_append.mp he with he | he
    · exact h _ _ r e he
    · exact q.all h e he
theorem IsT.ok {g : LG} : ∀ (d : Nat) {p : Ent} {es : List Ent}, IsT g d p es → ∀ e ∈ es, EntOk e
  | 0, _, _, h => NodeR.ok (NodeAt.toNodeR h)
  | d + 1, _, _, ⟨_, _, q⟩ => q.all fun _ _ r => IsT.ok d r

section
variable {P : Program} {w : World} {K : PySem.W.Frag} {mg : Str → Option Value} {base : Heap}
def sp_lcont (K : PySem.W.Frag) (C : Addr) : Sp := fun vs H Q _ => ∃ (p l dx : Addr) (fs : List Int), vs = [.ref p] ∧ H p = some (.ins C dx (dkF l)) ∧ SqL K H l (fs.map V.int) ∧ fs.length ≤ 1000000 ∧ RetO H Q (.lst (fs.map V.int))
theorem d_lcont {C : Addr} (T : Top K mg) (C_Disk : Cl_Disk K mg C) : Def P w K mg base CX0 3 "_law_contents" ["disk"] (sp_lcont K C) := by
  have M_Disk___len__ : MDef P w K mg base CX0 1 C "__len__" ["self"] (sp_dlen K C) := d_dlen T C_Disk
  have M_Disk_part : MDef P w K mg base CX0 1 C "part" ["self", "address", "count"] (sp_dpart K C) := d_dpart T C_Disk
  refine T.f__law_contents.ok sc__law_contents (by rintro vs H Q E ⟨p, l, dx, fs, rfl, _⟩; rfl) (fun f cdv A outer s H vs Q E hr h => ?_)
  obtain ⟨p, l, dx, fs, rfl, hp, hS, hz, q⟩ := h
  refine ⟨_, (pss_one (ps_ret (pe_methD (pv 0) C_Disk.cl M_Disk_part (hr.mono (by decide)) (pa_cons pe_int (pa_cons (pe_callB (call_lenO M_Disk___len__ (hr.mono (by decide))) (by rfl) T.b_len (by decide +kernel) (pa_cons (pv 0) pa_nil)) pa_nil))))), ?_⟩
  walk_at "rd"
  refine ⟨p, dx, dkF l, rfl, hp, rfl, ?_⟩
  walk_at "rd"
  refine ⟨p, dx, dkF l, rfl, hp, p, l, dx, fs, rfl, hp, hS, (fs.length : Int), rfl, by omega, by omega, ?_⟩
  walk_at "rd"
  refine ⟨p, l, dx, _, _, fs, rfl, hp, hS, r_ret1 (Own.nil H) fun p5 H5 o5 => ?_⟩
  rw [show (0 : Int) = ((0 : Nat) : Int) from rfl, show ((0 : Nat) : Int) + (fs.length : Int) = ((fs.length : Nat) : Int) by omega, cut_both, ← List.map_drop, ← List.map_take, List.drop_zero, Nat.sub_zero, List.take_of_length_le (by omega)] at o5
  exact q.mk o5 0 rfl
end

section
variable {P : Program} {w : World} {K : PySem.W.Frag} {mg : Str → Option Value} {base : Heap}
theorem w_dpart {C : Addr} (T : Top K mg) (D : Cl_Disk K mg C) : MDefW P w K mg base 1 C "part" ["self", "address", "count"] (sp_dpart K C) := by
  refine D.m_part.okW sc_Disk_part (by rintro vs H Q E ⟨p, l, dx, a, c, ns, rfl, _⟩; rfl) (fun f cdv A outer s H vs Q E hr h => ?_)
  obtain ⟨p, l, dx, a, c, ns, rfl, hp, hS, q⟩ := h
  refine ⟨_, (pss_one (ps_ret (pe_slice (r := rSlL K) sl_list (pe_fld (pv 0) rfl) (po_some (pv 1)) (po_some (pe_op op_add (pv 1) (pv 2)))))), ?_⟩
  walk_at "rd"
  refine ⟨p, C, dx, dkF l, .ref l, rfl, hp, D.cl, D.a__file, rfl, ?_⟩
  walk_at "rd"
  refine r_slL (Own.nil H) hS fun p3 H3 o3 => ?_
  exact q.mk o3 0 rfl
theorem w_dlen {C : Addr} (T : Top K mg) (D : Cl_Disk K mg C) : MDefW P w K mg base 1 C "__len__" ["self"] (sp_dlen K C) := by
  refine D.m___len__.okW sc_Disk___len__ (by rintro vs H Q E ⟨p, l, dx, ns, rfl, _⟩; rfl) (fun f cdv A outer s H vs Q E hr h => ?_)
  obtain ⟨p, l, dx, ns, rfl, hp, hS, q⟩ := h
  refine ⟨_, (pss_one (ps_ret (pe_callB (r := Evl.rLenS K) call_len_seq (by rfl) T.b_len (by decide +kernel) (pa_cons (pe_fld (pv 0) rfl) pa_nil)))), ?_⟩
  walk_at "rd"
  refine ⟨p, C, dx, dkF l, .ref l, rfl, hp, D.cl, D.a__file, rfl, ?_⟩
  walk_at "rd"
  rw [List.length_map]
  exact q
theorem w_lcont {C : Addr} (T : Top K mg) (C_Disk : Cl_Disk K mg C) : DefW P w K mg base 3 "_law_contents" ["disk"] (sp_lcont K C) := by
  have WM_Disk___len__ : MDefW P w K mg base 1 C "__len__" ["self"] (sp_dlen K C) := w_dlen T C_Disk
  have WM_Disk_part : MDefW P w K mg base 1 C "part" ["self", "address", "count"] (sp_dpart K C) := w_dpart T C_Disk
  refine T.f__law_contents.okW sc__law_contents (by rintro vs H Q E ⟨p, l, dx, fs, rfl, _⟩; rfl) (fun f cdv A outer s H vs Q E hr h => ?_)
  obtain ⟨p, l, dx, fs, rfl, hp, hS, hz, q⟩ := h
  refine ⟨_, (pss_one (ps_ret (pe_methW (pv 0) C_Disk.cl WM_Disk_part (hr.mono (by decide)) (pa_cons pe_int (pa_cons (pe_callB (call_lenOW WM_Disk___len__ (hr.mono (by decide))) (by rfl) T.b_len (by decide +kernel) (pa_cons (pv 0) pa_nil)) pa_nil))))), ?_⟩
  walk_at "rd"
  refine ⟨p, dx, dkF l, rfl, hp, rfl, ?_⟩
  walk_at "rd"
  refine ⟨p, dx, dkF l, rfl, hp, p, l, dx, fs, rfl, hp, hS, (fs.length : Int), rfl, by omega, by omega, ?_⟩
  walk_at "rd"
  refine ⟨p, l, dx, _, _, fs, rfl, hp, hS, r_ret1 (Own.nil H) fun p5 H5 o5 => ?_⟩
  rw [show (0 : Int) = ((0 : Nat) : Int) from rfl, show ((0 : Nat) : Int) + (fs.length : Int) = ((fs.length : Nat) : Int) by omega, cut_both, ← List.map_drop, ← List.map_take, List.drop_zero, Nat.sub_zero, List.take_of_length_le (by omega)] at o5
  exact q.mk o5 0 rfl
end

section
variable {P : Program} {w : World} {K : PySem.W.Frag} {mg : Str → Option Value} {base : Heap}
/-! ### records read while an exception is handled -/
theorem h_check_of (T : Top K mg) : DefH P w K mg base CX0 1 "check_of" ["values"] (sp_check_of K) := by
  obtain ⟨t1, g_CHECK_MODULUS⟩ := T.g_CHECK_MODULUS
  obtain ⟨t2, g_CHECK_BASE⟩ := T.g_CHECK_BASE
  refine T.f_check_of.okH sc_check_of (by rintro vs H Q E ⟨a, ns, rfl, _⟩; rfl) (fun f cdv A outer s H vs Q E p hot hr h => ?_)
  obtain ⟨a, ns, rfl, hS, q⟩ := h
  refine ⟨_, (pss_cons (ps_set (i := 1) sc_check_of.nd rfl (Or.inl rfl) (pe_op op_mod (pe_callB (r := rSum K) (cr_sumH hot) (by rfl) T.b_sum (by decide +kernel) (pa_cons (pv 0) pa_nil)) (pe_glob (v := .int 62500) rfl g_CHECK_MODULUS ⟨_, rfl⟩)))
      (pss_one (ps_ret (pe_lst (pa_cons (pe_op op_fdiv (pv 1) (pe_glob (v := .int 250) rfl g_CHECK_BASE ⟨_, rfl⟩)) (pa_cons (pe_op op_mod (pv 1) (pe_glob (v := .int 250) rfl g_CHECK_BASE ⟨_, rfl⟩)) pa_nil)))))), ?_⟩
  walk_at "rd"
  refine r_newL (Own.nil H) (Nat.le_of_ble_eq_true rfl) fun l H1 o1 => ?_
  exact q.mk o1 0 rfl
theorem h_is_whole (T : Top K mg) : DefH P w K mg base CX0 2 "is_whole" ["found", "kind"] (sp_is_whole K) := by
  have H_check_of : DefH P w K mg base CX0 1 "check_of" ["values"] (sp_check_of K) := h_check_of T
  obtain ⟨t1, g_SHORTEST_RECORD⟩ := T.g_SHORTEST_RECORD
  obtain ⟨t2, g_HIGHEST_BYTE⟩ := T.g_HIGHEST_BYTE
  refine T.f_is_whole.okH sc_is_whole (by rintro vs H Q E ⟨a, k, fd, rfl, _⟩; rfl) (fun f cdv A outer s H vs Q E p hot hr h => ?_)
  obtain ⟨a, k, fd, rfl, hS, hz, q⟩ := h
  refine ⟨_, (pss_cons (ps_if (PW.pt (pw_or (pt_cmpR op_lt (pe_callB (r := Evl.rLenS K) call_len_seq (by rfl) T.b_len (by decide +kernel) (pa_cons (pv 0) pa_nil)) (pe_glob (v := .int 3) rfl g_SHORTEST_RECORD ⟨_, rfl⟩) (nomark _)) (pw_or (pt_cmpR op_ne (pe_ix (r := rIxL K) ix_list (pv 0) pe_int (fun _ _ => rfl)) (pv 1) (nomark _)) (pw_or1 (pt_cmpR op_gt (pe_callB (r := rMax K) (cr_maxH hot) (by rfl) T.b_max (by decide +kernel) (pa_cons (pv 0) pa_nil)) (pe_glob (v := .int 249) rfl g_HIGHEST_BYTE ⟨_, rfl⟩) (nomark _)))))) (pss_one (ps_ret pe_bl)) pss_nil)
      (pss_one (ps_ret (pe_cmpR (r := rEqD K) (op_eqD hr.units) (pe_callH0 H_check_of (hr.mono (by decide)) hot (pa_cons (pe_slice (r := rSlL K) sl_list (pv 0) po_none (po_some (pe_un un_neg pe_int))) pa_nil)) (pe_slice (r := rSlL K) sl_list (pv 0) (po_some (pe_un un_neg pe_int)) po_none) (nomark _))))), ?_⟩
  have no : ¬ RecOk k fd → RetV H Q (.bl false) := fun h => by rw [decide_eq_false h] at q; exact q
  walk_at "rd"
  rw [List.length_map]
  refine rif (fun h1 => ?_) fun h1 => ?_
  · walk_at "rd"
    exact (no fun h => by have := h.1; omega).here
  walk_at "rd"
  refine rif_n (fun h2 => ?_) fun h2 => ?_
  · walk_at "rd"
    exact (no fun h => h2 h.2.1).here
  walk_at "rd"
  refine ⟨_, _, rfl, hS, by omega, fun m hm hmm => ?_⟩
  walk_at "rd"
  refine rif (fun h3 => ?_) fun h3 => ?_
  · walk_at "rd"
    exact (no fun h => by have := h.2.2.1 m hm; omega).here
  walk_at "rd"
  refine r_slL (Own.nil H) hS fun p3 H3 o3 => ?_
  rw [cut_m, List.length_map, ← List.map_take] at o3
  walk_at "rd"
  refine ⟨_, _, rfl, o3.sqL 0 rfl, r_ret1 o3 fun p4 H4 o4 => ?_⟩
  walk_at "rd"
  refine r_slL o4 (o4.old hS) fun p5 H5 o5 => ?_
  rw [cut_l, List.length_map, ← List.map_drop] at o5
  refine r_eqLL (o5.sqL 1 rfl) (o5.sqL 0 rfl) ?_
  rw [decide_eq_decide.mpr (show RecOk k fd ↔ chk (fd.take (fd.length - 2)) = fd.drop (fd.length - 2) from ⟨fun h => h.2.2.2, fun h => ⟨by omega, h2, fun x hx => by have := hmm x hx; omega, h⟩⟩)] at q
  exact q.mk o5
/-- where the record is whole -/
def sp_contentH (K : PySem.W.Frag) : Sp := fun vs H Q _ => ∃ (a t : Addr) (k ad ln : Int) (fd : List Int), vs = [.ref a, .int k, .ref t] ∧ SqL K H a (fd.map V.int) ∧ SqT K H t (([ad, ln] : List Int).map V.int) ∧ fd.length ≤ 1000000 ∧
  ln ≤ fd.length ∧ RecOk k fd ∧ RetO H Q (.lst ((recC fd).map V.int))
theorem h_content (T : Top K mg) : DefH P w K mg base CX0 3 "content_of" ["found", "kind", "pointer"] (sp_contentH K) := by
  have H_is_whole : DefH P w K mg base CX0 2 "is_whole" ["found", "kind"] (sp_is_whole K) := h_is_whole T
  refine T.f_content_of.okH sc_content_of (by rintro vs H Q E ⟨a, t, k, ad, ln, fd, rfl, _⟩; rfl) (fun f cdv A outer s H vs Q E p hot hr h => ?_)
  obtain ⟨a, t, k, ad, ln, fd, rfl, hS, hT, hz, h1, h2, q⟩ := h
  refine ⟨_, (pss_cons (ps_asg (pv 2) (pg_tupH (n := 2) hot (pgs_cons (pg_name (i := 3) sc_content_of.nd rfl (Or.inl rfl)) (pgs_cons (pg_name (i := 4) sc_content_of.nd rfl (Or.inl rfl)) pgs_nil))))
      (pss_cons (ps_if (PW.pt (pw_or (pt_cmpR op_lt (pe_callB (r := Evl.rLenS K) call_len_seq (by rfl) T.b_len (by decide +kernel) (pa_cons (pv 0) pa_nil)) (pv 4) (nomark _)) (pw_or1 (pt_not (pt_val (pe_callH0 H_is_whole (hr.mono (by decide)) hot (pa_cons (pv 0) (pa_cons (pv 1) pa_nil)))))))) (pss_one ps_never) pss_nil)
      (pss_one (ps_ret (pe_slice (r := rSlL K) sl_list (pv 0) (po_some pe_int) (po_some (pe_un un_neg pe_int))))))), ?_⟩
  walk_at "rd"
  rw [List.length_map]
  refine rif (fun h => by omega) fun _ => ?_
  walk_at "rd"
  refine ⟨a, k, fd, rfl, hS, hz, r_retv (Own.nil H) fun H2 o2 => ?_⟩
  walk_at "rd"
  refine rif_n (fun h => absurd h2 h) fun _ => ?_
  walk_at "rd"
  refine r_slL o2 (o2.old hS) fun p5 H5 o5 => ?_
  have h3 := h2.1
  rw [cut_1m (by rw [List.length_map]; omega), List.length_map, ← List.map_drop, ← List.map_take] at o5
  exact q.mk o5 0 rfl
def sp_lgfetchH (K : PySem.W.Frag) (CL CD : Addr) : Sp := fun vs H Q _ => ∃ (p t : Addr) (g : LG) (k : Int) (ad ln : Nat), vs = [.ref p, .int k, .ref t] ∧ LogAt CL CD H p g ∧ SqT K H t (([(ad : Int), (ln : Int)] : List Int).map V.int) ∧ g.fs.length ≤ 1000000 ∧ g.ws.length ≤ 1000000 ∧
  ln ≤ (g.at_ ad ln).length ∧ RecOk k (g.at_ ad ln) ∧ RetO H Q (.lst ((recC (g.at_ ad ln)).map V.int))
theorem h_lgfetch {CL CD : Addr} (T : Top K mg) (D : Cl_Log K mg CL) (C_Disk : Cl_Disk K mg CD) : MDefH P w K mg base CX0 4 CL "fetch" ["self", "kind", "pointer"] (sp_lgfetchH K CL CD) := by
  have WM_Disk___len__ : MDefW P w K mg base 1 CD "__len__" ["self"] (sp_dlen K CD) := w_dlen T C_Disk
  have WM_Disk_part : MDefW P w K mg base 1 CD "part" ["self", "address", "count"] (sp_dpart K CD) := w_dpart T C_Disk
  have H_content_of : DefH P w K mg base CX0 3 "content_of" ["found", "kind", "pointer"] (sp_contentH K) := h_content T
  refine D.m_fetch.okH sc_Log_fetch (by rintro vs H Q E ⟨p, t, g, k, ad, ln, rfl, _⟩; rfl) (fun f cdv A outer s H vs Q E p0 hot hr h => ?_)
  obtain ⟨p, t, ⟨dx, l, d, ddx, fl, b, ws, fs⟩, k, ad, ln, rfl, ⟨hp, hl, hd, hfl, hne⟩, ht, hfz, hwz, hln, hok, q⟩ := h
  dsimp only at hfz hwz hne hp hl hd hfl
  unfold LG.at_ at q hln hok
  dsimp only at q hln hok
  refine ⟨_, (pss_cons (ps_asg (pv 2) (pg_tupH (n := 2) hot (pgs_cons (pg_name (i := 3) sc_Log_fetch.nd rfl (Or.inl rfl)) (pgs_cons (pg_name (i := 4) sc_Log_fetch.nd rfl (Or.inl rfl)) pgs_nil))))
      (pss_cons (ps_set (i := 5) sc_Log_fetch.nd rfl (Or.inl rfl) (pe_op op_sub (pv 3) (pe_callB (call_lenOW WM_Disk___len__ (hr.mono (by decide))) (by rfl) T.b_len (by decide +kernel) (pa_cons (pe_fld (pv 0) rfl) pa_nil))))
      (pss_cons (ps_if (pt_cmpR op_lt (pv 5) pe_int (nomark _)) (pss_one (ps_ret (pe_callH0 H_content_of (hr.mono (by decide)) hot (pa_cons (pe_methW (pe_fld (pv 0) rfl) C_Disk.cl WM_Disk_part (hr.mono (by decide)) (pa_cons (pv 3) (pa_cons (pv 4) pa_nil))) (pa_cons (pv 1) (pa_cons (pv 2) pa_nil)))))) pss_nil)
      (pss_one (ps_ret (pe_callH0 H_content_of (hr.mono (by decide)) hot (pa_cons (pe_slice (r := rSlL K) sl_list (pe_fld (pv 0) rfl) (po_some (pv 5)) (po_some (pe_op op_add (pv 5) (pv 4)))) (pa_cons (pv 1) (pa_cons (pv 2) pa_nil))))))))), ?_⟩
  walk_at "rd"
  refine ⟨p, CL, dx, _, .ref d, rfl, hp, D.cl, D.a_disk, rfl, ?_⟩
  walk_at "rd"
  refine ⟨d, ddx, dkF fl, rfl, hd, d, fl, ddx, fs, rfl, hd, SqL.of hfl, (fs.length : Int), rfl, by omega, by omega, ?_⟩
  walk_at "rd"
  refine rif (fun h1 => ?_) fun h1 => ?_
  · rw [if_pos (show ad < fs.length by omega)] at q hln hok
    walk_at "rd"
    refine ⟨p, CL, dx, _, .ref d, rfl, hp, D.cl, D.a_disk, rfl, ?_⟩
    walk_at "rd"
    refine ⟨d, ddx, dkF fl, rfl, hd, rfl, ?_⟩
    walk_at "rd"
    refine ⟨d, fl, ddx, _, _, fs, rfl, hd, SqL.of hfl, r_ret1s (Own.nil H) fun p3 H3 s3 o3 => ?_⟩
    rw [cut_nat] at o3
    walk_at "rd"
    exact ⟨p3, t, k, ad, ln, _, rfl, o3.sqL 0 rfl, s3.sq ht, by rw [List.length_take, List.length_drop]; omega, by omega, hok, My.RetO.up q o3⟩
  · rw [if_neg (show ¬ ad < fs.length by omega)] at q hln hok
    walk_at "rd"
    refine ⟨p, CL, dx, _, .ref l, rfl, hp, D.cl, D.a__waiting, rfl, ?_⟩
    have hL : SqL K H l (ws.map V.int) := SqL.of hl
    walk_at "rd"
    rw [show (ad : Int) - (fs.length : Int) = ((ad - fs.length : Nat) : Int) by omega]
    refine r_slLs (Own.nil H) hL fun p3 H3 s3 o3 => ?_
    rw [cut_nat] at o3
    walk_at "rd"
    exact ⟨p3, t, k, ad, ln, _, rfl, o3.sqL 0 rfl, s3.sq ht, by rw [List.length_take, List.length_drop]; omega, by omega, hok, My.RetO.up q o3⟩
end

/-! ### defs that are called while an exception is handled, and raise -/
section
variable {X : Cx} {k : Nat} {ps : List Str} {sp : Sp} {x m : Str} {p pos apos : Pos} {C : Addr} {e o : Expr} {es : List Expr} {ta : TE} {t : TA} {W : WX}
theorem pe_callHX (G : DefH X.prog X.w X.K X.mg X.base (L2.CX X.prog X.w) k x ps sp) (tk : L2.Takes X W) (hr : L2H.RoomH k X.A) (c : L2H.HotC X) (ha : PA X (e :: es) t) (hg : Gl X x := by rfl)
    (hdb : (x == ("__debug__" : Str)) = false := by decide) (he : starEach (e :: es) X.env = (false, eval e X.env) :: starEach es X.env := by rfl) (hpl : (backTo pos (starEach es X.env)).any (·.1) = false := by rfl) : PE X (.Call (.Name x p) (e :: es) [] pos) (tCallS sp (WE W) t) := by
  obtain ⟨f, fd, F, hm, hk, hb⟩ := G.ex
  exact L2H.pe_callH F hr c hg hm hk hb (fun σ => L2.passAt tk σ) ha hdb he hpl
theorem pe_methHX {pl : Sem Bool} (he : PE X o ta) (c : Cls X.K C) (G : MDefH X.prog X.w X.K X.mg X.base (L2.CX X.prog X.w) k C m ps sp) (tk : L2.Takes X W) (hr : L2H.RoomH k X.A) (hc : L2H.HotC X) (ha : PA X (e :: es) t)
    (hst : starEach (e :: es) X.env = (false, eval e X.env) :: starEach es X.env := by rfl) (hpl : (backTo pos (starEach es X.env)).any (·.1) = false := by rfl)
    (ht : eval (.Call (.Attribute o m apos) (e :: es) [] pos) X.env = (do
      let ov ← eval o X.env
      standAt apos.atName
      let (f, first) ← holding [ov] (getMethod ov m pl)
      callWith pos f first (backTo pos (starEach (e :: es) X.env)) (backToKw pos (keywordEach [] X.env))) := by rfl) :
    PE X (.Call (.Attribute o m apos) (e :: es) [] pos) (tMethS C m sp (WE W) ta t) := by
  obtain ⟨f, fd, F, M, hb⟩ := G.ex
  exact L2H.pe_methH (E := WE W) (pl := pl) he c M F hr hc hb (fun σ => L2.passAt tk σ) ha hst hpl ht
theorem ps_raiseHX {e : Expr} {t : L2.St → Hp → XK → Prop} {pos : Pos} (hc : L2H.HotC X) (tk : L2.Takes X W) (he : L2H.PMk5 X e t) : PS X (.Raise (some e) none pos) (tRaise t W) := L2H.ps_raiseH hc tk he.pmk
end
section
variable {X : Cx} {C : Addr} {x f g : Str} {p pos : Pos} {e : Expr} {es : List Expr} {ta : TA}
theorem pmk5_e2 {n m : Str} (G : EDefH X.prog X.w X.K X.mg X.base C x ["self", n, m] (sp_i2 C f g)) (hr : L2H.RoomH 3 X.A) (hc : L2H.HotC X) (ha : PA X (e :: es) ta) (hg : Gl X x := by rfl) (hdb : (x == ("__debug__" : Str)) = false := by decide)
    (he : starEach (e :: es) X.env = (false, eval e X.env) :: starEach es X.env := by rfl) (hpl : (backTo pos (starEach es X.env)).any (·.1) = false := by rfl) : L2H.PMk5 X (.Call (.Name x p) (e :: es) [] pos) (tErr C [f, g] ta) := by
  obtain ⟨fI, fd, F1, iC, tI, hb⟩ := G.ini
  intro pins s σ H Q I h
  refine L2H.pmk5_oexH G.oex iC tI F1 hr hc hb pass0 hg G.at_ (pa_cut ha) hdb he hpl pins s σ H Q I ⟨_, h, fun vs H1 hh => ?_⟩
  obtain ⟨hl, ht, q⟩ := hh
  match vs, hl with
  | [v, u], _ =>
    refine ⟨sz2 _ (Nat.le_of_ble_eq_true rfl), fun a na => ⟨a, v, u, rfl, ht v List.mem_cons_self, ht u (List.mem_cons_of_mem _ List.mem_cons_self), upd_same, fun dx h1 h2 => ⟨rfl, dx, [(g, u), (f, v)], ?_, upd_same, ?_, ?_⟩⟩⟩
    · rw [upd_ne (Ne.symm h2), upd_same]
    · rw [upd_ne h2] at h1
      exact h1
    · rw [upd_ne h2] at h1
      rw [err_heap na h2 (H := H1) (fun b b1 b2 => by rw [upd_ne b2, upd_ne b1, upd_ne b2, upd_ne b1])]
      exact q dx h1
end

section
variable {P : Program} {w : World} {K : PySem.W.Frag} {mg : Str → Option Value} {base : Heap}
theorem hx_content {C : Addr} (T : Top K mg) (EH_Damaged : EDefH P w K mg base C "Damaged" ["self", "address", "length"] (sp_i2 C "address" "length")) : DefH P w K mg base (L2.CX P w) 5 "content_of" ["found", "kind", "pointer"] (sp_content K C) := by
  have H_is_whole : DefH P w K mg base CX0 2 "is_whole" ["found", "kind"] (sp_is_whole K) := h_is_whole T
  refine T.f_content_of.okH sc_content_of (by rintro vs H Q E ⟨a, t, k, ad, ln, fd, rfl, _⟩; rfl) (fun f cdv A outer s H vs Q E p hot hr h => ?_)
  obtain ⟨a, t, k, ad, ln, fd, rfl, hS, hT, hz, ta, tl, q, qe⟩ := h
  have bad : ¬ (ln ≤ fd.length ∧ RecOk k fd) → ∀ H2 L, Own H H2 L → tRaise (tErr C ["address", "length"] (tCons (tVar 3) (tCons (tVar 4) tNil))) (fun cls d _ H => E cls d H) { nx := fun σ H => True, rt := fun _ _ => True } [some (.ref a), some (.int k), some (.ref t), some (.int ad), some (.int ln)] H2 := fun ho H2 L o => by
    refine r_raise ⟨_, rfl, _, rfl, rfl, ?_, fun d hd => (qe ho).mk o hd⟩
    intro u hu
    simp only [List.mem_cons, List.not_mem_nil, or_false] at hu
    rcases hu with rfl | rfl
    · exact ta
    · exact tl
  refine ⟨_, (pss_cons (ps_asg (pv 2) (pg_tupH (n := 2) hot (pgs_cons (pg_name (i := 3) sc_content_of.nd rfl (Or.inl rfl)) (pgs_cons (pg_name (i := 4) sc_content_of.nd rfl (Or.inl rfl)) pgs_nil))))
      (pss_cons (ps_if (PW.pt (pw_or (pt_cmpR op_lt (pe_callB (r := Evl.rLenS K) call_len_seq (by rfl) T.b_len (by decide +kernel) (pa_cons (pv 0) pa_nil)) (pv 4) (nomark _)) (pw_or1 (pt_not (pt_val (pe_callH0 H_is_whole (hr.mono (by decide)) hot (pa_cons (pv 0) (pa_cons (pv 1) pa_nil)))))))) (pss_one (ps_raiseHX hot (L2.takes_of rfl rfl rfl rfl) (pmk5_e2 EH_Damaged (hr.mono (by decide)) hot (pa_cons (pv 3) (pa_cons (pv 4) pa_nil))))) pss_nil)
      (pss_one (ps_ret (pe_slice (r := rSlL K) sl_list (pv 0) (po_some pe_int) (po_some (pe_un un_neg pe_int))))))), ?_⟩
  walk_at "rd"
  rw [List.length_map]
  refine rif (fun h1 => ?_) fun h1 => ?_
  · walk_at "rd"
    exact bad (fun h => by have := h.1; omega) H [] (Own.nil H)
  walk_at "rd"
  refine ⟨a, k, fd, rfl, hS, hz, r_retv (Own.nil H) fun H2 o2 => ?_⟩
  walk_at "rd"
  refine rif_n (fun h2 => ?_) fun h2 => ?_
  · walk_at "rd"
    exact bad (fun h => h2 h.2) H2 [] o2
  walk_at "rd"
  refine r_slL o2 (o2.old hS) fun p5 H5 o5 => ?_
  have h3 := h2.1
  rw [cut_1m (by rw [List.length_map]; omega), List.length_map, ← List.map_drop, ← List.map_take] at o5
  exact (q (by omega) h2).mk o5 0 rfl
theorem hx_lgfetch {CL CD C : Addr} (T : Top K mg) (EH_Damaged : EDefH P w K mg base C "Damaged" ["self", "address", "length"] (sp_i2 C "address" "length")) (D : Cl_Log K mg CL) (C_Disk : Cl_Disk K mg CD) : MDefH P w K mg base (L2.CX P w) 6 CL "fetch" ["self", "kind", "pointer"] (sp_lgfetch K CL CD C) := by
  have WM_Disk___len__ : MDefW P w K mg base 1 CD "__len__" ["self"] (sp_dlen K CD) := w_dlen T C_Disk
  have WM_Disk_part : MDefW P w K mg base 1 CD "part" ["self", "address", "count"] (sp_dpart K CD) := w_dpart T C_Disk
  have HX_content_of : DefH P w K mg base (L2.CX P w) 5 "content_of" ["found", "kind", "pointer"] (sp_content K C) := hx_content T EH_Damaged
  refine D.m_fetch.okH sc_Log_fetch (by rintro vs H Q E ⟨p, t, g, k, ad, ln, rfl, _⟩; rfl) (fun f cdv A outer s H vs Q E p0 hot hr h => ?_)
  obtain ⟨p, t, ⟨dx, l, d, ddx, fl, b, ws, fs⟩, k, ad, ln, rfl, ⟨hp, hl, hd, hfl, hne⟩, ht, hfz, hwz, ta, tl, q, qe⟩ := h
  dsimp only at hfz hwz hne hp hl hd hfl
  unfold LG.at_ at q qe
  dsimp only at q qe
  refine ⟨_, (pss_cons (ps_asg (pv 2) (pg_tupH (n := 2) hot (pgs_cons (pg_name (i := 3) sc_Log_fetch.nd rfl (Or.inl rfl)) (pgs_cons (pg_name (i := 4) sc_Log_fetch.nd rfl (Or.inl rfl)) pgs_nil))))
      (pss_cons (ps_set (i := 5) sc_Log_fetch.nd rfl (Or.inl rfl) (pe_op op_sub (pv 3) (pe_callB (call_lenOW WM_Disk___len__ (hr.mono (by decide))) (by rfl) T.b_len (by decide +kernel) (pa_cons (pe_fld (pv 0) rfl) pa_nil))))
      (pss_cons (ps_if (pt_cmpR op_lt (pv 5) pe_int (nomark _)) (pss_one (ps_ret (pe_callHX HX_content_of (L2.takes_of rfl rfl rfl rfl) (hr.mono (by decide)) hot (pa_cons (pe_methW (pe_fld (pv 0) rfl) C_Disk.cl WM_Disk_part (hr.mono (by decide)) (pa_cons (pv 3) (pa_cons (pv 4) pa_nil))) (pa_cons (pv 1) (pa_cons (pv 2) pa_nil)))))) pss_nil)
      (pss_one (ps_ret (pe_callHX HX_content_of (L2.takes_of rfl rfl rfl rfl) (hr.mono (by decide)) hot (pa_cons (pe_slice (r := rSlL K) sl_list (pe_fld (pv 0) rfl) (po_some (pv 5)) (po_some (pe_op op_add (pv 5) (pv 4)))) (pa_cons (pv 1) (pa_cons (pv 2) pa_nil))))))))), ?_⟩
  walk_at "rd"
  refine ⟨p, CL, dx, _, .ref d, rfl, hp, D.cl, D.a_disk, rfl, ?_⟩
  walk_at "rd"
  refine ⟨d, ddx, dkF fl, rfl, hd, d, fl, ddx, fs, rfl, hd, SqL.of hfl, (fs.length : Int), rfl, by omega, by omega, ?_⟩
  walk_at "rd"
  refine rif (fun h1 => ?_) fun h1 => ?_
  · rw [if_pos (show ad < fs.length by omega)] at q qe
    walk_at "rd"
    refine ⟨p, CL, dx, _, .ref d, rfl, hp, D.cl, D.a_disk, rfl, ?_⟩
    walk_at "rd"
    refine ⟨d, ddx, dkF fl, rfl, hd, rfl, ?_⟩
    walk_at "rd"
    refine ⟨d, fl, ddx, _, _, fs, rfl, hd, SqL.of hfl, r_ret1s (Own.nil H) fun p3 H3 s3 o3 => ?_⟩
    rw [cut_nat] at o3
    walk_at "rd"
    exact ⟨p3, t, k, ad, ln, _, rfl, o3.sqL 0 rfl, s3.sq ht, by rw [List.length_take, List.length_drop]; omega, ta, tl, fun h1 h2 => My.RetO.up (q (by omega) h2) o3, fun h => (qe fun h2 => h ⟨by omega, h2.2⟩).up o3⟩
  · rw [if_neg (show ¬ ad < fs.length by omega)] at q qe
    walk_at "rd"
    refine ⟨p, CL, dx, _, .ref l, rfl, hp, D.cl, D.a__waiting, rfl, ?_⟩
    have hL : SqL K H l (ws.map V.int) := SqL.of hl
    walk_at "rd"
    rw [show (ad : Int) - (fs.length : Int) = ((ad - fs.length : Nat) : Int) by omega]
    refine r_slLs (Own.nil H) hL fun p3 H3 s3 o3 => ?_
    rw [cut_nat] at o3
    walk_at "rd"
    exact ⟨p3, t, k, ad, ln, _, rfl, o3.sqL 0 rfl, s3.sq ht, by rw [List.length_take, List.length_drop]; omega, ta, tl, fun h1 h2 => My.RetO.up (q (by omega) h2) o3, fun h => (qe fun h2 => h ⟨by omega, h2.2⟩).up o3⟩
end


section
variable {P : Program} {w : World} {K : PySem.W.Frag} {mg : Str → Option Value} {base : Heap}
/-! ### entries in the heap -/
def EntsV (K : PySem.W.Frag) (H : Hp) (vs : List V) (es : List Ent) : Prop := TpAll K H vs (es.map entD)
theorem entV {H : Hp} {v : V} {e : Ent} (h : Tp K H v (entD e)) : ∃ t tk tp, v = .ref t ∧ SqT K H t [.ref tk, .ref tp] ∧ SqT K H tk (e.k.map V.int) ∧ SqT K H tp (([(e.ad : Int), (e.ln : Int)] : List Int).map V.int) := by
  obtain ⟨t, xs, rfl, hs, ha⟩ := Tp.inv h
  obtain ⟨u1, u2, h1, h2⟩ : ∃ u1 u2, xs = [u1, u2] ∧ Tp K H u1 (.tuple (e.k.map PyData.int)) ∧ Tp K H u2 (.tuple (([(e.ad : Int), (e.ln : Int)] : List Int).map PyData.int)) := by
    cases ha with
    | cons a ha =>
      cases ha with
      | cons b ha => cases ha; exact ⟨_, _, rfl, a, b⟩
  obtain ⟨h2, h3⟩ := h2
  obtain ⟨tk, rfl, hk⟩ := Tp.invI h2
  obtain ⟨tp, rfl, hp⟩ := Tp.invI h3
  exact ⟨t, tk, tp, rfl, by rw [← h1]; exact hs, hk, hp⟩
theorem EntsV.get {H : Hp} {vs : List V} {es : List Ent} {i : Nat} {v : V} (h : EntsV K H vs es) (hv : vs[i]? = some v) : ∃ e, es[i]? = some e ∧ Tp K H v (entD e) := by
  obtain ⟨d, hd, t⟩ := TpAll.getV h hv
  rw [List.getElem?_map] at hd
  cases e : es[i]? with
  | none => rw [e] at hd; cases hd
  | some x => rw [e] at hd; cases hd; exact ⟨x, rfl, t⟩
theorem EntsV.len {H : Hp} {vs : List V} {es : List Ent} (h : EntsV K H vs es) : vs.length = es.length := by
  have := TpAll.len h
  rw [List.length_map] at this
  exact this
theorem r_gEnt {H : Hp} {σ : L2.St} {t tk tp : Addr} {x y : V} {i j k : Nat} {R : L2.St → Hp → Prop} (h : SqT K H t [.ref tk, .ref tp]) (h2 : SqT K H tp [x, y]) (q : R (((σ.set i (some (.ref tk))).set j (some x)).set k (some y)) H) :
    gTup K 2 (gCons (gName i) (gCons (gTup K 2 (gCons (gName j) (gCons (gName k) gNil))) gNil)) (.ref t) σ H R :=
  ⟨t, [.ref tk, .ref tp], rfl, h, rfl, .ref tk, [.ref tp], rfl, .ref tp, [], rfl, tp, [x, y], rfl, h2, rfl, x, [y], rfl, y, [], rfl, rfl, rfl, q⟩
theorem take_flatE {es : List Ent} {i : Nat} {e : Ent} (h : es[i]? = some e) : (es.take (i + 1)).flatMap entB = (es.take i).flatMap entB ++ entB e := by
  rw [List.take_add_one, h, List.flatMap_append]
  congr 1
  exact List.append_nil _
theorem _root_.RD.Own.add2 {H0 H H' : Hp} {L : List (Addr × HO)} {p l : Addr} {u v : HO} (o : Own H0 H L) (s : Same H H') (hp : H p = none) (hl : H l = none) (hne : p ≠ l) (h1 : H' p = some u) (h2 : H' l = some v) : Own H0 H' ((p, u) :: (l, v) :: L) := by
  have o1 := o.add s hl h2
  refine ⟨o1.ex, fun x hx => ?_, ?_⟩
  · rcases List.mem_cons.mp hx with rfl | hx
    · exact ⟨o.ex.free hp, h1⟩
    · exact o1.fr x hx
  · rw [List.map_cons, List.nodup_cons]
    refine ⟨fun hm => ?_, o1.nd⟩
    obtain ⟨x, hx, e⟩ := List.mem_map.mp hm
    rcases List.mem_cons.mp hx with rfl | hx
    · exact hne e.symm
    · have := (o.fr x hx).2
      rw [e] at this
      rw [show (p, u).1 = p from rfl, hp] at this
      cases this
theorem r_newTb {H0 H : Hp} {L : List (Addr × HO)} {xs : List V} {Q : VK} (o : Own H0 H L) (hz : xs.length ≤ 10000000) (k : ∀ p H', Stp H H' → Own H0 H' ((p, .tup xs) :: L) → Q (.ref p) H') : RNewT xs H Q := ⟨sz100 hz, fun p hp => k p _ (.of (same_new hp)) (o.new hp)⟩
/-- the tuples stand -/
def Sth (H H' : Hp) : Prop := ∀ a xs, H a = some (.tup xs) → H' a = some (.tup xs)
theorem Sth.of {H H' : Hp} (s : Same H H') : Sth H H' := fun a xs h => s a _ h
theorem Sth.trans {H1 H2 H3 : Hp} (a : Sth H1 H2) (b : Sth H2 H3) : Sth H1 H3 := fun x xs h => b x xs (a x xs h)
theorem Sth.refl (H : Hp) : Sth H H := fun _ _ h => h
theorem Sth.frameL {H H' : Hp} {p : Addr} {xs : List V} (hp : H p = some (.lst xs)) (h : ∀ b u, b ≠ p → H b = some u → H' b = some u) : Sth H H' := fun a ys e => h a _ (fun z => by rw [z, hp] at e; cases e) e
def ptrH (H : Hp) (t : Addr) (a l : Nat) : Prop := H t = some (.tup (([(a : Int), (l : Int)] : List Int).map V.int))
/-- entries whose tuples are tracked -/
def RowH (H : Hp) (v : V) (e : Ent) : Prop := ∃ te tk tp, v = .ref te ∧ H te = some (.tup [.ref tk, .ref tp]) ∧ H tk = some (.tup (e.k.map V.int)) ∧ ptrH H tp e.ad e.ln
/-- .. with the key as it may be -/
def RowP (K : PySem.W.Frag) (H : Hp) (v : V) (e : Ent) : Prop := ∃ te tk tp, v = .ref te ∧ H te = some (.tup [.ref tk, .ref tp]) ∧ SqT K H tk (e.k.map V.int) ∧ ptrH H tp e.ad e.ln
theorem RowH.p {H : Hp} {v : V} {e : Ent} (h : RowH H v e) : RowP K H v e := by
  obtain ⟨te, tk, tp, e1, h1, h2, h3⟩ := h
  exact ⟨te, tk, tp, e1, h1, SqT.of h2, h3⟩
theorem RowP.tp {H : Hp} {v : V} {e : Ent} (h : RowP K H v e) : Tp K H v (entD e) := by
  obtain ⟨te, tk, tp, rfl, h1, h2, h3⟩ := h
  exact .tup (SqT.of h1) (.cons (Tp.intsT h2) (.cons (Tp.intsT (SqT.of h3)) .nil))
theorem RowH.up {H H' : Hp} {v : V} {e : Ent} (h : RowH H v e) (s : Sth H H') : RowH H' v e := by
  obtain ⟨te, tk, tp, e1, h1, h2, h3⟩ := h
  exact ⟨te, tk, tp, e1, s _ _ h1, s _ _ h2, s _ _ h3⟩
theorem RowP.up {H H' : Hp} {v : V} {e : Ent} (h : RowP K H v e) (s : Sth H H') (s2 : Stp H H') : RowP K H' v e := by
  obtain ⟨te, tk, tp, e1, h1, h2, h3⟩ := h
  exact ⟨te, tk, tp, e1, s _ _ h1, s2.sq h2, s _ _ h3⟩
inductive All2 {α β : Type} (R : α → β → Prop) : List α → List β → Prop where
  | nil : All2 R [] []
  | cons {a : α} {b : β} {as : List α} {bs : List β} : R a b → All2 R as bs → All2 R (a :: as) (b :: bs)
theorem All2.mono {α β : Type} {R R' : α → β → Prop} (hm : ∀ a b, R a b → R' a b) : ∀ {as : List α} {bs : List β}, All2 R as bs → All2 R' as bs
  | _, _, .nil => .nil
  | _, _, .cons h t => .cons (hm _ _ h) (All2.mono hm t)
theorem All2.len {α β : Type} {R : α → β → Prop} : ∀ {as : List α} {bs : List β}, All2 R as bs → as.length = bs.length
  | _, _, .nil => rfl
  | _, _, .cons _ t => congrArg (· + 1) (All2.len t)
def RowsP (K : PySem.W.Frag) (H : Hp) (vs : List V) (es : List Ent) : Prop := All2 (RowP K H) vs es
def RowsH (H : Hp) (vs : List V) (es : List Ent) : Prop := All2 (RowH H) vs es
theorem All2.snoc {α β : Type} {R : α → β → Prop} {a : α} {b : β} (h : R a b) : ∀ {as : List α} {bs : List β}, All2 R as bs → All2 R (as ++ [a]) (bs ++ [b])
  | _, _, .nil => .cons h .nil
  | _, _, .cons h1 t => .cons h1 (All2.snoc h t)
theorem All2.get {α β : Type} {R : α → β → Prop} : ∀ {as : List α} {bs : List β} (i : Nat) {a : α}, All2 R as bs → as[i]? = some a → ∃ b, bs[i]? = some b ∧ R a b
  | _, _, 0, _, .cons h _, ha => by cases ha; exact ⟨_, rfl, h⟩
  | _, _, i + 1, _, .cons _ t, ha => All2.get i t ha
theorem RowsP.ents {H : Hp} : ∀ {vs : List V} {es : List Ent}, RowsP K H vs es → EntsV K H vs es
  | _, _, .nil => .nil
  | _, _, .cons h t => .cons h.tp (RowsP.ents t)
theorem RowsH.p {H : Hp} {vs : List V} {es : List Ent} (h : RowsH H vs es) : RowsP K H vs es := All2.mono (fun _ _ r => RowH.p r) h
theorem RowsH.up {H H' : Hp} {vs : List V} {es : List Ent} (h : RowsH H vs es) (s : Sth H H') : RowsH H' vs es := All2.mono (fun _ _ r => RowH.up r s) h
theorem RowsP.up {H H' : Hp} {vs : List V} {es : List Ent} (h : RowsP K H vs es) (s : Sth H H') (s2 : Stp H H') : RowsP K H' vs es := All2.mono (fun _ _ r => RowP.up r s s2) h
/-! ### write_node -/
def sp_wnode (K : PySem.W.Frag) : Sp := fun vs H Q _ => ∃ (a : Addr) (us : List V) (es : List Ent), vs = [.ref a] ∧ SqL K H a us ∧ EntsV K H us es ∧ (∀ e ∈ es, EntOk e) ∧ es.length ≤ 9 ∧ RetO H Q (.lst ((nodeB es).map V.int))
theorem d_wnode (T : Top K mg) : Def P w K mg base CX0 5 "write_node" ["pairs"] (sp_wnode K) := by
  have G_write_number : Def P w K mg base CX0 1 "write_number" ["number"] sp_write_number := d_write_number T
  have G_write_integers : Def P w K mg base CX0 3 "write_integers" ["numbers"] (sp_write_integersQ K) := d_write_integersQ T
  refine T.f_write_node.ok sc_write_node (by rintro vs H Q E ⟨a, us, es, rfl, _⟩; rfl) (fun f cdv A outer s H vs Q E hr h => ?_)
  obtain ⟨a, us, es, rfl, hS, hE, hok, hl, q⟩ := h
  have hul := hE.len
  have hn := numB_len 20 es.length (Nat.lt_of_le_of_lt hl (by decide))
  refine ⟨_, (pss_cons (ps_set (i := 1) sc_write_node.nd rfl (Or.inl rfl) (pe_callD G_write_number (hr.mono (by decide)) (pa_cons (pe_callB (r := Evl.rLenS K) call_len_seq (by rfl) T.b_len (by decide +kernel) (pa_cons (pv 0) pa_nil)) pa_nil)))
      (pss_cons (ps_for PassesOwn.never rfl (pi_list (pv 0)) (pg_tup (n := 2) rfl (pgs_cons (pg_name (i := 2) sc_write_node.nd rfl (Or.inl rfl)) (pgs_cons (pg_tup (n := 2) rfl (pgs_cons (pg_name (i := 3) sc_write_node.nd rfl (Or.inl rfl)) (pgs_cons (pg_name (i := 4) sc_write_node.nd rfl (Or.inl rfl)) pgs_nil))) pgs_nil))) (pss_one (ps_expr (pe_bm PySem.F.plainAttrs_list PySem.F.slot_list_extend PySem.F.type_list_extend mt_extend (pv 1) (pa_cons (pe_op op_cat (pe_op op_cat (pe_callD G_write_integers (hr.mono (by decide)) (pa_cons (pv 2) pa_nil)) (pe_callD G_write_number (hr.mono (by decide)) (pa_cons (pv 3) pa_nil))) (pe_callD G_write_number (hr.mono (by decide)) (pa_cons (pv 4) pa_nil))) pa_nil)))))
      (pss_one (ps_ret (pv 1))))), ?_⟩
  walk_at "rd"
  refine ⟨es.length, by rw [hul]; rfl, by omega, r_ret1 (Own.nil H) fun p1 H1 o1 => ?_⟩
  walk_at "rd"
  refine forL (o1.old hS) (fun i σ' H' => ∃ (v2 v3 v4 : Option V) (L : List (Addr × HO)), σ' = [some (.ref a), some (.ref p1), v2, v3, v4] ∧ Own H H' ((p1, .lst ((numB es.length ++ (es.take i).flatMap entB).map V.int)) :: L)) ⟨_, _, _, [], rfl, (by rw [List.take_zero, List.flatMap_nil, List.append_nil]; exact o1)⟩ (fun i σ' H' _ ⟨_, _, _, _, _, o⟩ => o.old hS) ?_ ?_
  · rintro i x σ' H' hx ⟨v2, v3, v4, L, rfl, o⟩
    obtain ⟨e, he, tE⟩ := EntsV.get (TpAll.up hE (Stp.of o.ex)) hx
    obtain ⟨t, tk, tp, rfl, h1, h2, h3⟩ := entV tE
    have hoe := hok e (List.mem_of_getElem? he)
    have hel := ent_len hoe
    refine r_gEnt h1 h3 ?_
    walk_at "rd"
    refine ⟨tk, e.k, rfl, .inr h2, fun z hz => ?_, by have := hoe.k.1; omega, r_ret1 o fun p2 H2 o2 => ?_⟩
    · exact Nat.le_trans (int_len2 (hoe.k.2 z hz)) (by decide)
    walk_at "rd"
    have := hoe.ad
    have := hoe.ln
    have l4 := numB_len 3 e.ad (by omega)
    have l5 := numB_len 3 e.ln (by omega)
    refine ⟨e.ad, rfl, by omega, r_ret1 o2 fun p3 H3 o3 => ?_⟩
    have hk7 := key_len hoe.k
    walk_at "rd"
    refine r_cat o3 (o3.at 1 rfl) (o3.at 0 rfl) (by rw [List.length_map, List.length_map]; omega) fun p4 H4 o4 => ?_
    walk_at "rd"
    refine ⟨e.ln, rfl, by omega, r_ret1 o4 fun p5 H5 o5 => ?_⟩
    refine r_cat o5 (o5.at 1 rfl) (o5.at 0 rfl) (by rw [List.length_map, List.length_append, List.length_map, List.length_map]; omega) fun p6 H6 o6 => ?_
    walk_at "rd"
    have hfl := flatE_le (es.take i) fun z hz => hok z (List.mem_of_mem_take hz)
    have htl : (es.take i).length ≤ es.length := by rw [List.length_take]; omega
    rw [← List.map_append, ← List.map_append] at o6
    have o6 : Own H H6 ((p6, .lst ((entB e).map V.int)) :: _) := o6
    refine r_ext o6 5 0 rfl rfl (by rw [List.length_map, List.length_map, List.length_append]; omega) fun H7 o7 => ?_
    rw [← List.map_append, List.append_assoc, ← take_flatE he] at o7
    exact ⟨_, _, _, [], rfl, o7.pick1 5 rfl⟩
  · rintro σ' H' ⟨v2, v3, v4, L, rfl, o⟩
    rw [hul, List.take_length] at o
    walk_at "rd"
    exact q.mk o 0 rfl
/-! ### read_pair -/
def sp_rpair (K : PySem.W.Frag) : Sp := fun vs H Q _ => ∃ (a : Addr) (ns : List Int) (i : Nat) (e : Ent) (bk : List Int), vs = [.ref a, .int i] ∧ SqL K H a (ns.map V.int) ∧ Bw ns ∧ ns.length ≤ 1000000 ∧ ns.drop i = entB e ++ bk ∧ EntOk e ∧
  ∀ H' p t, Same H H' → H p = none → H' p = some (.tup [.ref t, .int ((i + (entB e).length : Nat) : Int)]) → Tp K H' (.ref t) (entD e) → Q (.ref p) H'
theorem d_rpair {C_TesseraError C_Unreadable C_Damaged : Addr} (T : Top K mg) (R : Errs K mg C_TesseraError C_Unreadable C_Damaged) (E_Unreadable : EDef P w K mg base C_Unreadable "Unreadable" ["self", "index"] (sp_i1 C_Unreadable "index")) (EH_Unreadable : EDefH P w K mg base C_Unreadable "Unreadable" ["self", "index"] (sp_i1 C_Unreadable "index")) : Def P w K mg base CX0 10 "read_pair" ["content", "index"] (sp_rpair K) := by
  have Z_read_integers : Def P w K mg base CX0 9 "read_integers" ["values", "index"] (spZ (sp_ls rdZ K C_Unreadable)) := (d_read_integers T R E_Unreadable EH_Unreadable).toZ
  have Z_read_number : Def P w K mg base CX0 5 "read_number" ["values", "index"] (spZ (sp_read_number K C_Unreadable)) := (d_read_number T E_Unreadable).toX.toZ
  refine T.f_read_pair.ok sc_read_pair (by rintro vs H Q E ⟨a, ns, i, e, bk, rfl, _⟩; rfl) (fun f cdv A outer s H vs Q E hr h => ?_)
  obtain ⟨a, ns, i, e, bk, rfl, hS, hB, hl, hd, hok, q⟩ := h
  refine ⟨_, (pss_cons (ps_asg (pe_callD Z_read_integers (hr.mono (by decide)) (pa_cons (pv 0) (pa_cons (pv 1) pa_nil))) (pg_tup (n := 2) rfl (pgs_cons (pg_name (i := 2) sc_read_pair.nd rfl (Or.inl rfl)) (pgs_cons (pg_name (i := 3) sc_read_pair.nd rfl (Or.inl rfl)) pgs_nil))))
      (pss_cons (ps_asg (pe_callD Z_read_number (hr.mono (by decide)) (pa_cons (pv 0) (pa_cons (pv 3) pa_nil))) (pg_tup (n := 2) rfl (pgs_cons (pg_name (i := 4) sc_read_pair.nd rfl (Or.inl rfl)) (pgs_cons (pg_name (i := 3) sc_read_pair.nd rfl (Or.inl rfl)) pgs_nil))))
      (pss_cons (ps_asg (pe_callD Z_read_number (hr.mono (by decide)) (pa_cons (pv 0) (pa_cons (pv 3) pa_nil))) (pg_tup (n := 2) rfl (pgs_cons (pg_name (i := 5) sc_read_pair.nd rfl (Or.inl rfl)) (pgs_cons (pg_name (i := 3) sc_read_pair.nd rfl (Or.inl rfl)) pgs_nil))))
      (pss_one (ps_ret (pe_tup (pa_cons (pe_tup (pa_cons (pe_callTy (r := rTupS K) call_tuple_of (by rfl) T.b_tuple (by decide +kernel) (pa_cons (pv 2) pa_nil)) (pa_cons (pe_tup (pa_cons (pv 4) (pa_cons (pv 5) pa_nil))) pa_nil))) (pa_cons (pv 3) pa_nil)))))))), ?_⟩
  walk_at "rd"
  have hdl : (entB e).length + bk.length = ns.length - i := by rw [← List.length_append, ← hd, List.length_drop]
  have hel : (entB e).length = (lsB intB e.k).length + (numB e.ad).length + (numB e.ln).length := by
    unfold entB
    rw [List.length_append, List.length_append]
  have hp1 := numB_pos e.ad
  have hil : i ≤ ns.length := by omega
  have hd1 : ns.drop i = lsB intB e.k ++ (numB e.ad ++ (numB e.ln ++ bk)) := by
    rw [hd]
    unfold entB
    rw [List.append_assoc, List.append_assoc]
  have hd2 : ns.drop (i + (lsB intB e.k).length) = numB e.ad ++ (numB e.ln ++ bk) := by rw [← List.drop_drop, hd1, List.drop_left]
  have hd3 : ns.drop (i + (lsB intB e.k).length + (numB e.ad).length) = numB e.ln ++ bk := by rw [← List.drop_drop, hd2, List.drop_left]
  have r1 : rdLs rdZ (ns.drop i) = some (e.k, (lsB intB e.k).length) := by
    rw [hd1]
    exact rdLs_list e.k _ (fun z _ bk => rdZ_int z bk) fun z _ => numB_pos _
  have r2 : rdN (ns.drop (i + (lsB intB e.k).length)) true = some ((e.ad : Int), (numB e.ad).length) := by rw [hd2]; exact rdN_num _ _ true (.inl rfl)
  have r3 : rdN (ns.drop (i + (lsB intB e.k).length + (numB e.ad).length)) true = some ((e.ln : Int), (numB e.ln).length) := by rw [hd3]; exact rdN_num _ _ true (.inl rfl)
  refine ⟨a, ns, (i : Int), rfl, hS, hB, hl, by omega, by omega, fun xs k _ hx => ?_, fun hx => ?_⟩
  rotate_left
  · rw [show ((i : Nat) : Int).toNat = i from rfl, r1] at hx
    rcases hx with hx | hx
    · omega
    · cases hx
  rw [show ((i : Nat) : Int).toNat = i from rfl, r1] at hx
  cases hx
  refine r_retLT (Own.nil H) fun p1 l1 H1 o1 => ?_
  walk_at "rd"
  rw [show (i : Int) + ((lsB intB e.k).length : Int) = ((i + (lsB intB e.k).length : Nat) : Int) by omega]
  refine ⟨a, ns, _, rfl, o1.old hS, hB, hl, by omega, by omega, fun x k _ hx => ?_, fun hx => ?_⟩
  rotate_left
  · rw [show ((i + (lsB intB e.k).length : Nat) : Int).toNat = i + (lsB intB e.k).length from rfl, r2] at hx
    rcases hx with hx | hx
    · omega
    · cases hx
  rw [show ((i + (lsB intB e.k).length : Nat) : Int).toNat = i + (lsB intB e.k).length from rfl, r2] at hx
  cases hx
  refine r_ret1 o1 fun p2 H2 o2 => ?_
  walk_at "rd"
  rw [show ((i + (lsB intB e.k).length : Nat) : Int) + ((numB e.ad).length : Int) = ((i + (lsB intB e.k).length + (numB e.ad).length : Nat) : Int) by omega]
  refine ⟨a, ns, _, rfl, o2.old hS, hB, hl, by omega, by omega, fun x k _ hx => ?_, fun hx => ?_⟩
  rotate_left
  · rw [show ((i + (lsB intB e.k).length + (numB e.ad).length : Nat) : Int).toNat = i + (lsB intB e.k).length + (numB e.ad).length from rfl, r3] at hx
    rcases hx with hx | hx
    · omega
    · cases hx
  rw [show ((i + (lsB intB e.k).length + (numB e.ad).length : Nat) : Int).toNat = i + (lsB intB e.k).length + (numB e.ad).length from rfl, r3] at hx
  cases hx
  refine r_ret1 o2 fun p3 H3 o3 => ?_
  walk_at "rd"
  refine r_tupLs o3 (o3.sqL 3 rfl) fun tk H4 s4 o4 h4 => ?_
  walk_at "rd"
  refine r_newTi (K := K) [(e.ad : Int), (e.ln : Int)] rfl o4 (Nat.le_of_ble_eq_true rfl) fun tp H5 s5 o5 h5 => ?_
  walk_at "rd"
  refine r_newTp (K := K) (ds := [.tuple (e.k.map PyData.int), .tuple (([(e.ad : Int), (e.ln : Int)] : List Int).map PyData.int)]) o5 (.cons (Tp.intsT (s5.sq h4)) (.cons (Tp.intsT h5) .nil)) (Nat.le_of_ble_eq_true rfl) fun t H6 s6 o6 t6 => ?_
  walk_at "rd"
  refine r_newTb o6 (Nat.le_of_ble_eq_true rfl) fun p7 H7 s7 o7 => ?_
  exact q H7 p7 t o7.ex (o7.fresh 0 rfl) (by rw [o7.at 0 rfl, hel, show ((i + (lsB intB e.k).length + (numB e.ad).length : Nat) : Int) + ((numB e.ln).length : Int) = ((i + ((lsB intB e.k).length + (numB e.ad).length + (numB e.ln).length) : Nat) : Int) by omega]) (t6.up s7)
/-! ### read_list of pairs -/
theorem fn0N {f : Addr} {fd : FuncData} {k : Nat} {ps : List Str} {sp : Sp} (F : FnOk P w K mg base CX0 k f fd ps sp) : FnOk P w K mg base (L2N.CX P w) k f fd ps sp :=
  ⟨F.len, fun A outer s H args us vs Q E hr e0 hb hv hs => codeAny_mono (F.run A outer s H args us vs Q E hr e0 hb hv hs) fun r s2 hq => by
    cases r with
    | error e => exact False.elim hq
    | ok fl => cases fl <;> exact hq⟩
def sp_rlistE (K : PySem.W.Frag) (f : Addr) : Sp := fun vs H Q _ => ∃ (a : Addr) (ns : List Int) (i : Nat) (es : List Ent) (bk : List Int), vs = [.ref a, .int i, .ref f] ∧ SqL K H a (ns.map V.int) ∧ Bw ns ∧ ns.length ≤ 1000000 ∧ ns.drop i = nodeB es ++ bk ∧ (∀ e ∈ es, EntOk e) ∧ es.length ≤ 1000 ∧
  ∀ H' p l us, Same H H' → H p = none → H l = none → p ≠ l → H' p = some (.tup [.ref l, .int ((i + (nodeB es).length : Nat) : Int)]) → H' l = some (.lst us) → EntsV K H' us es → Q (.ref p) H'
theorem d_rlistE {C_TesseraError C_Unreadable C_Damaged : Addr} {fo : Addr} (T : Top K mg) (R : Errs K mg C_TesseraError C_Unreadable C_Damaged) (E_Unreadable : EDef P w K mg base C_Unreadable "Unreadable" ["self", "index"] (sp_i1 C_Unreadable "index")) (EH_Unreadable : EDefH P w K mg base C_Unreadable "Unreadable" ["self", "index"] (sp_i1 C_Unreadable "index"))
    (L_read_one : HeldX P w K mg base (L2N.CX P w) 10 fo (sp_rpair K)) : Def P w K mg base (L2.CX P w) 11 "read_list" ["values", "index", "read_one"] (sp_rlistE K fo) := by
  have G_read_number : Def P w K mg base (L2.CX P w) 5 "read_number" ["values", "index"] (sp_read_number K C_Unreadable) := (d_read_number T E_Unreadable).toX
  refine T.f_read_list.okX sc_read_list (by rintro vs H Q E ⟨a, ns, i, es, bk, rfl, _⟩; rfl) (fun f cdv A outer s H vs Q E hr h => ?_)
  obtain ⟨a, ns, i, es, bk, rfl, hS, hB, hl, hd, hok, hez, q⟩ := h
  have hdl : (nodeB es).length + bk.length = ns.length - i := by rw [← List.length_append, ← hd, List.length_drop]
  have hnl : (nodeB es).length = (numB es.length).length + (es.flatMap entB).length := by
    unfold nodeB
    rw [List.length_append]
  have hp1 := numB_pos es.length
  have hd1 : ns.drop i = numB es.length ++ (es.flatMap entB ++ bk) := by
    rw [hd]
    unfold nodeB
    rw [List.append_assoc]
  have r1 : rdN (ns.drop i) true = some ((es.length : Int), (numB es.length).length) := by rw [hd1]; exact rdN_num _ _ true (.inl rfl)
  refine ⟨_, (pss_cons (ps_asg (pe_callX G_read_number (L2.takes_of rfl rfl rfl rfl) (hr.mono (by decide)) (pa_cons (pv 0) (pa_cons (pv 1) pa_nil))) (pg_tup (n := 2) rfl (pgs_cons (pg_name (i := 3) sc_read_list.nd rfl (Or.inl rfl)) (pgs_cons (pg_name (i := 4) sc_read_list.nd rfl (Or.inl rfl)) pgs_nil))))
      (pss_cons (ps_set (i := 5) sc_read_list.nd rfl (Or.inl rfl) (pe_lst pa_nil))
      (pss_cons (ps_tryO (Wout := fun cls d _ H => E cls d H) rfl rfl ⟨rfl, by decide, Or.inl R.c_Unreadable.at_⟩ (fun hd => L2H.passesAt_of rfl hd) (L2.takes_of rfl rfl rfl rfl) (fun W pn xe tk po => (pss_one (ps_whileT po (pt_cmpR op_lt (pe_callB (r := Evl.rLenS K) call_len_seq (by rfl) T.b_len (by decide +kernel) (pa_cons (pv 5) pa_nil)) (pv 3) (nomark _)) (pss_cons (ps_asg (pe_callLN (i := 2) L_read_one tk (hr.mono (by decide)) rfl (Or.inl rfl) (pa_cons (pv 0) (pa_cons (pv 4) pa_nil))) (pg_tupK (K := K) (n := 2) rfl rfl (pgs_cons (pg_name (i := 6) sc_read_list.nd rfl (Or.inl rfl)) (pgs_cons (pg_name (i := 4) sc_read_list.nd rfl (Or.inl rfl)) pgs_nil))))
      (pss_one (ps_expr (pe_bmK (K := K) rfl PySem.F.plainAttrs_list PySem.F.slot_list_append PySem.F.type_list_append mt_append (pv 5) (pa_cons (pv 6) pa_nil)))))))) (fun a oe cls d pn hz hf tkS hot => (pss_one (ps_raiseF hot tkS (pmk5_e1 EH_Unreadable (L2H.roomH_mark (hr.mono (by decide)) _) hot (pa_cons (pv 1) pa_nil))))))
      (pss_one (ps_ret (pe_tup (pa_cons (pv 5) (pa_cons (pv 4) pa_nil)))))))), ?_⟩
  walk_at "rd"
  refine ⟨a, ns, (i : Int), rfl, hS, hB, hl, by omega, by omega, fun c k _ hx => ?_, fun hx => ?_⟩
  rotate_left
  · rw [show ((i : Nat) : Int).toNat = i from rfl, r1] at hx
    rcases hx with hx | hx
    · omega
    · cases hx
  rw [show ((i : Nat) : Int).toNat = i from rfl, r1] at hx
  cases hx
  refine r_ret1 (Own.nil H) fun p1 H1 o1 => ?_
  walk_at "rd"
  refine r_newL o1 (Nat.zero_le _) fun p2 H2 o2 => ?_
  walk_at "rd"
  have hd2 : ∀ m, ns.drop (i + (numB es.length).length + ((es.take m).flatMap entB).length) = (es.drop m).flatMap entB ++ bk := fun m => by
    rw [← List.drop_drop, ← List.drop_drop, hd1, List.drop_left]
    conv => lhs; rw [← List.take_append_drop m es, List.flatMap_append, List.append_assoc]
    rw [List.take_append_drop]
    exact List.drop_left
  refine whileB (fun m σ' H' => ∃ (n : Nat) (us : List V) (v6 : Option V) (L : List (Addr × HO)), m = es.length - n ∧ n ≤ es.length ∧ σ' = [some (.ref a), some (.int (i : Int)), some (.ref fo), some (.int (es.length : Int)), some (.int ((i + (numB es.length).length + ((es.take n).flatMap entB).length : Nat) : Int)), some (.ref p2), v6] ∧
    EntsV K H' us (es.take n) ∧ Own H H' ((p2, .lst us) :: L)) es.length
    ⟨0, [], _, _, rfl, Nat.zero_le _, (by rw [show ((i : Int) + ((numB es.length).length : Int)) = ((i + (numB es.length).length : Nat) : Int) by omega]; rfl), .nil, o2⟩ ?_
  rintro m σ' H' ⟨n, us, v6, L, rfl, hn, rfl, hE, o⟩
  have hul := hE.len
  rw [List.length_take, Nat.min_eq_left hn] at hul
  have hfl := flatE_le es hok
  walk_at "rd"
  refine rif (fun h1 => ?_) fun h1 => ?_
  · refine wh_turn ?_
    obtain ⟨e, he⟩ : ∃ e, es[n]? = some e := ⟨_, List.getElem?_eq_getElem (by omega)⟩
    have hfe := take_flatE he
    have hd3 := hd2 n
    rw [List.drop_eq_getElem_cons (show n < es.length by omega), List.flatMap_cons, List.append_assoc, show es[n] = e from (List.getElem?_eq_some_iff.mp he).2] at hd3
    walk_at "rd"
    refine ⟨a, ns, _, e, _, rfl, o.old hS, hB, hl, hd3, hok e (List.mem_of_getElem? he), fun H3 p3 t3 s3 hp3 h3 t3v => ?_⟩
    have o3 := o.add s3 hp3 h3
    walk_at "rd"
    refine r_apps o3 1 rfl (by omega) fun H4 s4 o4 => ?_
    have o4 : Own H H4 ((p3, .tup [.ref t3, .int _]) :: (p2, .lst (us ++ [.ref t3])) :: L) := o4
    refine ⟨es.length - (n + 1), by omega, n + 1, us ++ [.ref t3], _, L, rfl, by omega, (by rw [hfe, List.length_append, show i + (numB es.length).length + (((es.take n).flatMap entB).length + (entB e).length) = i + (numB es.length).length + ((es.take n).flatMap entB).length + (entB e).length by omega]; rfl), ?_, o4.tl⟩
    rw [List.take_add_one, he]
    unfold EntsV
    rw [List.map_append]
    exact TpAll.up (TpAll.snoc (TpAll.up hE (Stp.of s3)) t3v) s4
  · walk_at "rd"
    have hne : n = es.length := by omega
    subst hne
    rw [List.take_length] at hE
    refine r_newTb o (Nat.le_of_ble_eq_true rfl) fun p3 H3 s3 o3 => ?_
    refine q H3 p3 p2 us o3.ex (o3.fresh 0 rfl) (o3.fresh 1 rfl) (o3.ne (i := 0) (j := 1) rfl rfl (by decide)) ?_ (o3.at 1 rfl) (TpAll.up hE s3)
    rw [o3.at 0 rfl, hnl, List.take_length, Nat.add_assoc]
/-! ### pairs_in -/
def sp_pairsin (K : PySem.W.Frag) : Sp := fun vs H Q _ => ∃ (a t : Addr) (x y : Int) (es : List Ent), vs = [.ref a, .ref t] ∧ SqL K H a ((nodeB es).map V.int) ∧ SqT K H t (([x, y] : List Int).map V.int) ∧ 1 ≤ es.length ∧ es.length ≤ 8 ∧ (∀ e ∈ es, EntOk e) ∧
  ∀ H' l us, Same H H' → H l = none → H' l = some (.lst us) → EntsV K H' us es → Q (.ref l) H'
theorem d_pairsin {C_TesseraError C_Unreadable C_Damaged : Addr} (T : Top K mg) (R : Errs K mg C_TesseraError C_Unreadable C_Damaged) (E_Unreadable : EDef P w K mg base C_Unreadable "Unreadable" ["self", "index"] (sp_i1 C_Unreadable "index")) (EH_Unreadable : EDefH P w K mg base C_Unreadable "Unreadable" ["self", "index"] (sp_i1 C_Unreadable "index")) : Def P w K mg base CX0 12 "pairs_in" ["content", "pointer"] (sp_pairsin K) := by
  obtain ⟨fa_read_pair, fd1, F1, hm_read_pair, hk1, hb1⟩ := (d_rpair (P := P) (w := w) (base := base) T R E_Unreadable EH_Unreadable).ex
  have G_read_list : Def P w K mg base (L2.CX P w) 11 "read_list" ["values", "index", "read_one"] (sp_rlistE K fa_read_pair) := d_rlistE T R E_Unreadable EH_Unreadable ⟨fd1, _, fn0N F1, hk1, hb1⟩
  obtain ⟨t1, g_MOST_PAIRS⟩ := T.g_MOST_PAIRS
  refine T.f_pairs_in.ok sc_pairs_in (by rintro vs H Q E ⟨a, t, x, y, es, rfl, _⟩; rfl) (fun f cdv A outer s H vs Q E hr h => ?_)
  obtain ⟨a, t, x, y, es, rfl, hS, hT, h1, h8, hok, q⟩ := h
  have hnl := node_len hok (by omega)
  refine ⟨_, (pss_cons (ps_asg (pv 1) (pg_tup (n := 2) rfl (pgs_cons (pg_name (i := 2) sc_pairs_in.nd rfl (Or.inl rfl)) (pgs_cons (pg_name (i := 3) sc_pairs_in.nd rfl (Or.inl rfl)) pgs_nil))))
      (pss_cons (L2.ps_try_only (Wout := fun _ _ _ _ => False) rfl rfl ⟨rfl, by decide, Or.inl R.c_Unreadable.at_⟩ L2.takes0 (fun W pn xe tk po => (pss_one (ps_asg (pe_callX G_read_list tk (hr.mono (by decide)) (pa_cons (pv 0) (pa_cons pe_int (pa_cons (pe_glob (v := .ref fa_read_pair) rfl hm_read_pair rfl) pa_nil)))) (pg_tupK (K := K) (n := 2) rfl rfl (pgs_cons (pg_name (i := 4) sc_pairs_in.nd rfl (Or.inl rfl)) (pgs_cons (pg_name (i := 5) sc_pairs_in.nd rfl (Or.inl rfl)) pgs_nil)))))) (fun a oe cls d pn hz hf => (pss_one ps_never)))
      (pss_cons (ps_if (PW.pt (pw_or (pt_cmpR op_lt (pv 5) (pe_callB (r := Evl.rLenS K) call_len_seq (by rfl) T.b_len (by decide +kernel) (pa_cons (pv 0) pa_nil)) (nomark _)) (pw_or1 (pt_not (pt_chain op_le op_le pe_int (pe_callB (r := Evl.rLenS K) call_len_seq (by rfl) T.b_len (by decide +kernel) (pa_cons (pv 4) pa_nil)) (pe_glob (v := .int 8) rfl g_MOST_PAIRS ⟨_, rfl⟩)))))) (pss_one ps_never) pss_nil)
      (pss_one (ps_ret (pv 4)))))), ?_⟩
  walk_at "rd"
  refine ⟨a, nodeB es, 0, es, [], rfl, hS, Bw.of (node_b es), by omega, (by rw [List.append_nil]; rfl), hok, by omega, fun H1 p1 l1 us s1 hp1 hl1 hne h1p h1l hE => ?_⟩
  have o1 := (Own.nil H).add2 s1 hp1 hl1 hne h1p h1l
  have hul := hE.len
  walk_at "rd"
  refine rif (fun h => absurd h (by rw [List.length_map]; omega)) fun _ => ?_
  walk_at "rd"
  refine rif (fun _ => ?_) fun h => absurd h (by omega)
  walk_at "rd"
  refine rif_n (fun h => absurd (show ((us.length : Nat) : Int) ≤ 8 by omega) h) fun _ => ?_
  walk_at "rd"
  exact q H1 l1 us o1.ex hl1 h1l hE
/-! ### read_node -/
theorem LogAt.up {CL CD : Addr} {H H' : Hp} {p : Addr} {g : LG} (h : LogAt CL CD H p g) (s : Same H H') : LogAt CL CD H' p g := ⟨s _ _ h.me, s _ _ h.wt, s _ _ h.dk, s _ _ h.fl, h.ne⟩
def kdI (leaf : Bool) : Int := if leaf = true then 1 else 2
def sp_rnode (K : PySem.W.Frag) (CL CD : Addr) : Sp := fun vs H Q _ => ∃ (p t : Addr) (g : LG) (leaf : Bool) (ad ln : Nat) (es : List Ent), vs = [.ref p, .ref t] ∧ LogAt CL CD H p g ∧ SqT K H t (([(ad : Int), (ln : Int)] : List Int).map V.int) ∧ g.fs.length ≤ 1000000 ∧ g.ws.length ≤ 1000000 ∧ NodeAt g (kdI leaf) ad ln es ∧
  ∀ H' x l us, Same H H' → H x = none → H l = none → x ≠ l → H' x = some (.tup [.int (kdI leaf), .ref l]) → H' l = some (.lst us) → EntsV K H' us es → Q (.ref x) H'
end

section
theorem sum_set : ∀ (l : List Int) (i : Nat) (v : Int) (h : i < l.length), (l.set i v).sum = l.sum - l[i] + v
  | x :: l, 0, v, _ => by
    rw [List.set_cons_zero, List.sum_cons, List.sum_cons, List.getElem_cons_zero]; omega
  | x :: l, i + 1, v, h => by
    rw [List.set_cons_succ, List.sum_cons, List.sum_cons, List.getElem_cons_succ, sum_set l i v (Nat.lt_of_succ_lt_succ h)]; omega
/-- one changed byte: the record is not whole -/
theorem rec_changed {k : Int} {f : List Int} {j : Nat} {v : Int} (hf : RecOk k f) (hfb : ∀ x ∈ f, 0 ≤ x) (hj : j < f.length) (hv : 0 ≤ v) (hne : v ≠ f[j]) : ¬ RecOk k (f.set j v) := by
  rintro ⟨_, _, gle, gc⟩
  obtain ⟨h3, _, hle, hc⟩ := hf
  have hb := hfb _ (List.getElem_mem hj)
  have hb2 := hle _ (List.getElem_mem hj)
  have hv2 := gle v (List.mem_set hj v)
  rw [List.length_set] at gc
  by_cases hj2 : j < f.length - 2
  · rw [List.take_set, List.drop_set_of_lt (by omega), ← hc] at gc
    have hlt : j < (f.take (f.length - 2)).length := by rw [List.length_take]; omega
    have es := sum_set (f.take (f.length - 2)) j v hlt
    rw [List.getElem_take] at es
    unfold chk at gc
    injection gc with c1 c2
    injection c2 with c2 _
    rw [es] at c1 c2
    generalize (f.take (f.length - 2)).sum = s at *
    generalize f[j] = z at *
    omega
  · rw [List.take_set, List.set_eq_of_length_le (by rw [List.length_take]; omega), hc, List.drop_set, if_neg (by omega)] at gc
    have hlt : j - (f.length - 2) < (f.drop (f.length - 2)).length := by rw [List.length_drop]; omega
    have e3 : (f.drop (f.length - 2))[j - (f.length - 2)] = v := by
      have := List.getElem_of_eq gc hlt
      rw [List.getElem_set_self] at this
      exact this
    rw [List.getElem_drop] at e3
    apply hne
    rw [← e3]
    congr 1
    omega
end

/-! ### one changed byte breaks a record, whatever kind is asked for -/
theorem rec_broken {k : Int} {f : List Int} {j : Nat} {v : Int} (hf : RecOk k f) (hfb : ∀ x ∈ f, 0 ≤ x) (hj : j < f.length) (hv : 0 ≤ v) (hne : v ≠ f[j]) (k' : Int) : ¬ RecOk k' (f.set j v) := fun h => by
  by_cases hj0 : j = 0
  · subst hj0
    obtain ⟨h1, h2, h3, h4⟩ := h
    obtain ⟨f1, f2, f3, f4⟩ := hf
    rw [List.length_set] at h4
    have hd : (f.set 0 v).drop (f.length - 2) = f.drop (f.length - 2) := by
      cases f with
      | nil => cases hj
      | cons x xs =>
        obtain ⟨n, hn⟩ : ∃ n, (x :: xs).length - 2 = n + 1 := ⟨(x :: xs).length - 3, by omega⟩
        rw [hn]
        rfl
    have ht : ((f.set 0 v).take (f.length - 2)).sum = (f.take (f.length - 2)).sum - f[0] + v := by
      cases f with
      | nil => cases hj
      | cons x xs =>
        obtain ⟨n, hn⟩ : ∃ n, (x :: xs).length - 2 = n + 1 := ⟨(x :: xs).length - 3, by omega⟩
        rw [hn]
        show (v :: xs.take n).sum = (x :: xs.take n).sum - x + v
        rw [List.sum_cons, List.sum_cons]
        omega
    rw [hd, ← f4] at h4
    unfold chk at h4
    have c1 := (List.cons.inj h4).1
    have c2 := (List.cons.inj (List.cons.inj h4).2).1
    have b0 := f3 f[0] (List.getElem_mem hj)
    have b1 := hfb f[0] (List.getElem_mem hj)
    have b2 := h3 v (List.mem_of_getElem? (i := 0) (by rw [List.getElem?_set_self hj]))
    rw [ht] at c1 c2
    omega
  · have e : gi (f.set j v) 0 = gi f 0 := by
      cases f with
      | nil => cases hj
      | cons x xs =>
        obtain ⟨n, rfl⟩ : ∃ n, j = n + 1 := ⟨j - 1, by omega⟩
        rfl
    have hk : k' = k := by rw [← h.2.1, e, hf.2.1]
    subst hk
    exact rec_changed hf hfb hj hv hne h

section
variable {P : Program} {w : World} {K : PySem.W.Frag} {mg : Str → Option Value} {base : Heap}
/-! ### read_node, where a node may be broken -/
def Broken (g : LG) (ad ln : Nat) : Prop := ∀ k : Int, k = 1 ∨ k = 2 → ¬ (ln ≤ (g.at_ ad ln).length ∧ RecOk k (g.at_ ad ln))
def sp_rnodeX (K : PySem.W.Frag) (CL CD C : Addr) : Sp := fun vs H Q E => ∃ (p t : Addr) (g : LG) (ad ln : Nat), vs = [.ref p, .ref t] ∧ LogAt CL CD H p g ∧ SqT K H t (([(ad : Int), (ln : Int)] : List Int).map V.int) ∧ g.fs.length ≤ 1000000 ∧ g.ws.length ≤ 1000000 ∧
  ((∃ (leaf : Bool) (es : List Ent), NodeR g (kdI leaf) ad ln es ∧ ∀ H' x l us, Same H H' → H x = none → H l = none → x ≠ l → H' x = some (.tup [.int (kdI leaf), .ref l]) → H' l = some (.lst us) → EntsV K H' us es → Q (.ref x) H') ∨
   (Broken g ad ln ∧ ad < 1000000000 ∧ ln < 1000000000 ∧ RetE H E C [("length", .int ln), ("address", .int ad)]))
theorem d_rnodeX {C_TesseraError C_Unreadable C_Damaged CL CD : Addr} (T : Top K mg) (R : Errs K mg C_TesseraError C_Unreadable C_Damaged) (E_Unreadable : EDef P w K mg base C_Unreadable "Unreadable" ["self", "index"] (sp_i1 C_Unreadable "index")) (EH_Unreadable : EDefH P w K mg base C_Unreadable "Unreadable" ["self", "index"] (sp_i1 C_Unreadable "index"))
    (E_Damaged : EDef P w K mg base C_Damaged "Damaged" ["self", "address", "length"] (sp_i2 C_Damaged "address" "length")) (EH_Damaged : EDefH P w K mg base C_Damaged "Damaged" ["self", "address", "length"] (sp_i2 C_Damaged "address" "length")) (C_Log : Cl_Log K mg CL) (C_Disk : Cl_Disk K mg CD) : Def P w K mg base (L2.CX P w) 13 "read_node" ["log", "pointer"] (sp_rnodeX K CL CD C_Damaged) := by
  have M_Log_fetch : MDef P w K mg base (L2N.CX P w) 6 CL "fetch" ["self", "kind", "pointer"] (sp_lgfetch K CL CD C_Damaged) := d_lgfetch T E_Damaged C_Log C_Disk
  have MHX_Log_fetch : MDefH P w K mg base (L2.CX P w) 6 CL "fetch" ["self", "kind", "pointer"] (sp_lgfetch K CL CD C_Damaged) := hx_lgfetch T EH_Damaged C_Log C_Disk
  have G_pairs_in : Def P w K mg base CX0 12 "pairs_in" ["content", "pointer"] (sp_pairsin K) := d_pairsin T R E_Unreadable EH_Unreadable
  obtain ⟨t1, g_LEAF⟩ := T.g_LEAF
  obtain ⟨t2, g_INNER⟩ := T.g_INNER
  refine T.f_read_node.okX sc_read_node (by rintro vs H Q E ⟨p, t, g, ad, ln, rfl, _⟩; rfl) (fun f cdv A outer s H vs Q E hr h => ?_)
  obtain ⟨p, t, g, ad, ln, rfl, hL, hT, hfz, hwz, hq⟩ := h
  refine ⟨_, (pss_cons (ps_set (i := 2) sc_read_node.nd rfl (Or.inl rfl) (pe_glob (v := .int 1) rfl g_LEAF ⟨_, rfl⟩))
      (pss_cons (ps_tryO (Wout := fun cls d _ H => E cls d H) rfl rfl ⟨rfl, by decide, Or.inl R.c_Damaged.at_⟩ (fun hd => L2H.passesAt_of rfl hd) (L2.takes_of rfl rfl rfl rfl) (fun W pn xe tk po => (pss_one (ps_set (i := 3) sc_read_node.nd rfl (Or.inl rfl) (pe_methN (pv 0) C_Log.cl M_Log_fetch tk (hr.mono (by decide)) (pa_cons (pe_glob (v := .int 1) rfl g_LEAF ⟨_, rfl⟩) (pa_cons (pv 1) pa_nil)))))) (fun a oe cls d pn hz hf tkS hot => (pss_cons (ps_set (i := 2) sc_read_node.nd rfl (Or.inl rfl) (pe_glob (v := .int 2) rfl g_INNER ⟨_, rfl⟩))
      (pss_one (ps_set (i := 3) sc_read_node.nd rfl (Or.inl rfl) (pe_methHX (pv 0) C_Log.cl MHX_Log_fetch tkS (L2H.roomH_mark (hr.mono (by decide)) _) hot (pa_cons (pe_glob (v := .int 2) rfl g_INNER ⟨_, rfl⟩) (pa_cons (pv 1) pa_nil))))))))
      (pss_one (ps_ret (pe_tup (pa_cons (pv 2) (pa_cons (pe_callD G_pairs_in (hr.mono (by decide)) (pa_cons (pv 3) (pa_cons (pv 1) pa_nil))) pa_nil))))))), ?_⟩
  walk_at "rd"
  rcases hq with ⟨leaf, es, hN, q⟩ | ⟨hbr, e1, e2, qe⟩
  rotate_left
  · refine ⟨p, g.dx, _, rfl, hL.me, rfl, ?_⟩
    walk_at "rd"
    refine ⟨p, t, g, 1, ad, ln, rfl, hL, hT, hfz, hwz, tell_small ⟨by omega, by omega⟩, tell_small ⟨by omega, by omega⟩, fun h1 h2 => absurd ⟨h1, h2⟩ (hbr 1 (.inl rfl)), fun _ => ?_⟩
    refine r_retE (Own.nil H) fun d H1 hd o1 => ?_
    refine wo_yes (R.c_Damaged.exm R.s_Damaged_Damaged) fun a0 na => ?_
    walk_at "rd"
    refine ⟨p, g.dx, _, rfl, (hL.up o1.ex).me, rfl, ?_⟩
    walk_at "rd"
    exact ⟨p, t, g, 2, ad, ln, rfl, hL.up o1.ex, o1.oldT hT, hfz, hwz, tell_small ⟨by omega, by omega⟩, tell_small ⟨by omega, by omega⟩, fun h1 h2 => absurd ⟨h1, h2⟩ (hbr 2 (.inr rfl)), fun _ => My.RetE.up qe o1⟩
  have hat := hN.at_
  have hln := hN.ln_
  have hrl := recD_len (kdI leaf) (nodeB es)
  have hnl := node_len hN.ok (by have := hN.le; omega)
  have hkd : 0 ≤ kdI leaf ∧ kdI leaf < 250 := by cases leaf <;> decide
  have hrok := rec_ok hkd (node_b es)
  have hend := hN.end_
  obtain ⟨e1, e2, e3⟩ : ad < 1000000000 ∧ ln < 1000000000 ∧ True := ⟨by omega, by omega, trivial⟩
  refine ⟨p, g.dx, _, rfl, hL.me, rfl, ?_⟩
  walk_at "rd"
  refine ⟨p, t, g, 1, ad, ln, rfl, hL, hT, hfz, hwz, tell_small ⟨by omega, by omega⟩, tell_small ⟨by omega, by omega⟩, fun h1 h2 => ?_, fun hno => ?_⟩
  · rw [hat] at h2
    have hk : leaf = true := by
      cases leaf with
      | true => rfl
      | false => exact absurd (show (2 : Int) = 1 from h2.2.1) (by decide)
    subst hk
    rw [hat, show kdI true = 1 from rfl, recC_d]
    refine r_ret1 (Own.nil H) fun c H1 o1 => ?_
    walk_at "rd"
    refine ⟨c, t, ad, ln, es, rfl, o1.sqL 0 rfl, o1.oldT hT, hN.pos, hN.le, hN.ok, fun H2 l us s2 hl h2 hE => ?_⟩
    have o2 := o1.add s2 hl h2
    walk_at "rd"
    refine r_newTb o2 (Nat.le_of_ble_eq_true rfl) fun x H3 s3 o3 => ?_
    exact q H3 x l us o3.ex (o3.fresh 0 rfl) (o3.fresh 1 rfl) (o3.ne (i := 0) (j := 1) rfl rfl (by decide)) (o3.at 0 rfl) (o3.at 1 rfl) (TpAll.up hE s3)
  · have hk : leaf = false := by
      cases leaf with
      | false => rfl
      | true => exact absurd ⟨by rw [hat, hrl, hln]; exact Nat.le_refl _, by rw [hat]; exact hrok⟩ hno
    subst hk
    refine r_retE (Own.nil H) fun d H1 hd o1 => ?_
    refine wo_yes (R.c_Damaged.exm R.s_Damaged_Damaged) fun a0 na => ?_
    walk_at "rd"
    refine ⟨p, g.dx, _, rfl, (hL.up o1.ex).me, rfl, ?_⟩
    walk_at "rd"
    refine ⟨p, t, g, 2, ad, ln, rfl, hL.up o1.ex, o1.oldT hT, hfz, hwz, tell_small ⟨by omega, by omega⟩, tell_small ⟨by omega, by omega⟩, fun _ _ => ?_, fun hno => absurd ⟨by rw [hat, hrl, hln]; exact Nat.le_refl _, by rw [hat]; exact hrok⟩ hno⟩
    rw [hat, recC_d]
    refine r_ret1 o1 fun c H2 o2 => ?_
    walk_at "rd"
    refine ⟨c, t, ad, ln, es, rfl, o2.sqL 0 rfl, o2.oldT hT, hN.pos, hN.le, hN.ok, fun H3 l us s3 hl h3 hE => ?_⟩
    have o3 := o2.add s3 hl h3
    walk_at "rd"
    refine r_newTb o3 (Nat.le_of_ble_eq_true rfl) fun x H4 s4 o4 => ?_
    exact q H4 x l us o4.ex (o4.fresh 0 rfl) (o4.fresh 1 rfl) (o4.ne (i := 0) (j := 1) rfl rfl (by decide)) (o4.at 0 rfl) (o4.at 1 rfl) (TpAll.up hE s4)
end

/-! ### <= and > of tuples of ints -/
def rLeT (K : PySem.W.Frag) : R2 := fun x y H Q => ∃ (a b : Addr) (ns ms : List Int), x = .ref a ∧ y = .ref b ∧ SqT K H a (ns.map V.int) ∧ SqT K H b (ms.map V.int) ∧ Q (.bl (lexR (fun i j => decide (i ≤ j)) (decide (ns.length ≤ ms.length)) ns ms)) H
def rGtT (K : PySem.W.Frag) : R2 := fun x y H Q => ∃ (a b : Addr) (ns ms : List Int), x = .ref a ∧ y = .ref b ∧ SqT K H a (ns.map V.int) ∧ SqT K H b (ms.map V.int) ∧ Q (.bl (lexR (fun i j => decide (j < i)) (decide (ms.length < ns.length)) ns ms)) H
theorem op_leT {X : Cx} (hu : X.A.units < cLine) : OpR X (compareOp .LtE) (rLeT X.K) := by
  intro pins s σ H x y v u Q I rx ry h
  obtain ⟨a, b, ns, ms, rfl, rfl, ha, hb, q⟩ := h
  cases rx
  cases ry
  obtain ⟨its, r1, p1, _⟩ := I.tuple ha
  obtain ⟨its2, r2, p2, _⟩ := I.tuple hb
  have i1 : IntsAre its ns := Vals.ints r1
  have i2 : IntsAre its2 ms := Vals.ints r2
  have e1 : its.toArray.size = ns.length := by rw [List.size_toArray]; exact i1.length
  have e2 : its2.toArray.size = ms.length := by rw [List.size_toArray]; exact i2.length
  have at1 : ∀ j (h1 : j < its.toArray.size), ∃ t, its.toArray[j] = .int (ns.getD j 0) t := fun j h1 => PyProof.Rows.IntsAre.int_at i1 _ _ (by simp at h1; simp [h1])
  have at2 : ∀ j (h1 : j < its2.toArray.size), ∃ t, its2.toArray[j] = .int (ms.getD j 0) t := fun j h1 => PyProof.Rows.IntsAre.int_at i2 _ _ (by simp at h1; simp [h1])
  have R := Ob.RcOp.tuples_le (A := X.A) (s := s) (e := fun j => decide (ns.getD j 0 = ms.getD j 0)) (r := fun j => decide (ns.getD j 0 ≤ ms.getD j 0)) p1 p2 hu (fun j h1 h2 => by
    obtain ⟨t, et⟩ := at1 j h1
    obtain ⟨t', et'⟩ := at2 j h2
    rw [et, et']
    rw [← beq_dec]
    exact SeqAt.EqAt.int_int _ _ _ _) (fun j h1 h2 _ => by
    obtain ⟨t, et⟩ := at1 j h1
    obtain ⟨t', et'⟩ := at2 j h2
    rw [et, et']
    exact Ob.RcOp.le_int _ _ _ _)
  rw [e1, e2, lexAt_R (fun i j => decide (i ≤ j)) _ ns ms 0 _ _ (fun j => by rw [Nat.zero_add]) (fun j => by rw [Nat.zero_add])] at R
  have z : wpAny (model X.prog X.w) X.A (compareOp .LtE (.ref a) (.ref b)) (EP X pins σ Q) X.xe s := R X.prog X.w X.xe (EP X pins σ Q) ⟨.bl _, H, I, rfl, q⟩
  exact z
theorem op_gtT {X : Cx} (hu : X.A.units < cLine) : OpR X (compareOp .Gt) (rGtT X.K) := by
  intro pins s σ H x y v u Q I rx ry h
  obtain ⟨a, b, ns, ms, rfl, rfl, ha, hb, q⟩ := h
  cases rx
  cases ry
  obtain ⟨its, r1, p1, _⟩ := I.tuple ha
  obtain ⟨its2, r2, p2, _⟩ := I.tuple hb
  have i1 : IntsAre its ns := Vals.ints r1
  have i2 : IntsAre its2 ms := Vals.ints r2
  have e1 : its.toArray.size = ns.length := by rw [List.size_toArray]; exact i1.length
  have e2 : its2.toArray.size = ms.length := by rw [List.size_toArray]; exact i2.length
  have at1 : ∀ j (h1 : j < its.toArray.size), ∃ t, its.toArray[j] = .int (ns.getD j 0) t := fun j h1 => PyProof.Rows.IntsAre.int_at i1 _ _ (by simp at h1; simp [h1])
  have at2 : ∀ j (h1 : j < its2.toArray.size), ∃ t, its2.toArray[j] = .int (ms.getD j 0) t := fun j h1 => PyProof.Rows.IntsAre.int_at i2 _ _ (by simp at h1; simp [h1])
  have R := Ob.RcOp.tuples_gt (A := X.A) (s := s) (e := fun j => decide (ns.getD j 0 = ms.getD j 0)) (r := fun j => decide (ms.getD j 0 < ns.getD j 0)) p1 p2 hu (fun j h1 h2 => by
    obtain ⟨t, et⟩ := at1 j h1
    obtain ⟨t', et'⟩ := at2 j h2
    rw [et, et']
    rw [← beq_dec]
    exact SeqAt.EqAt.int_int _ _ _ _) (fun j h1 h2 _ => by
    obtain ⟨t, et⟩ := at1 j h1
    obtain ⟨t', et'⟩ := at2 j h2
    rw [et, et']
    exact Ob.RcOp.gt_int _ _ _ _)
  rw [e1, e2, lexAt_R (fun i j => decide (j < i)) _ ns ms 0 _ _ (fun j => by rw [Nat.zero_add]) (fun j => by rw [Nat.zero_add])] at R
  have z : wpAny (model X.prog X.w) X.A (compareOp .Gt (.ref a) (.ref b)) (EP X pins σ Q) X.xe s := R X.prog X.w X.xe (EP X pins σ Q) ⟨.bl _, H, I, rfl, q⟩
  exact z
section
variable {K : PySem.W.Frag} {H : Hp} {Q : VK} {a b : Addr}
theorem r_leT {ns ms : List Int} (h : SqT K H a (ns.map V.int)) (h2 : SqT K H b (ms.map V.int)) (q : Q (.bl (lexR (fun i j => decide (i ≤ j)) (decide (ns.length ≤ ms.length)) ns ms)) H) : rLeT K (.ref a) (.ref b) H Q := ⟨a, b, ns, ms, rfl, rfl, h, h2, q⟩
theorem r_gtT {ns ms : List Int} (h : SqT K H a (ns.map V.int)) (h2 : SqT K H b (ms.map V.int)) (q : Q (.bl (lexR (fun i j => decide (j < i)) (decide (ms.length < ns.length)) ns ms)) H) : rGtT K (.ref a) (.ref b) H Q := ⟨a, b, ns, ms, rfl, rfl, h, h2, q⟩
end

section
variable {P : Program} {w : World} {K : PySem.W.Frag} {mg : Str → Option Value} {base : Heap}
/-! ### place_below -/
theorem ltK_lt_le {a b c : List Int} (h : ltK a b = true) (h2 : ltK c b = false) : ltK a c = true := by
  cases h3 : ltK a c with
  | true => rfl
  | false =>
    cases h4 : ltK c a with
    | true => rw [ltK_trans h4 h] at h2; cases h2
    | false =>
      rw [← ltK_tri h3 h4, h] at h2
      cases h2
theorem ltK_le_lt {a b c : List Int} (h : ltK b a = false) (h2 : ltK c a = true) : ltK c b = true := by
  cases h3 : ltK c b with
  | true => rfl
  | false =>
    cases h4 : ltK b c with
    | true => rw [ltK_trans h4 h2] at h; cases h
    | false => rw [← ltK_tri h3 h4, h2] at h; cases h
/-- the entry of an inner node that leads to the key -/
structure Below (ks : List Ent) (key : List Int) (i : Nat) : Prop where
  lt : i < ks.length
  le : ∀ j k, j ≤ i → 0 < j → ks[j]? = some k → ltK key k.k = false
  gt : ∀ k, ks[i + 1]? = some k → ltK key k.k = true
def sp_place (K : PySem.W.Frag) : Sp := fun vs H Q _ => ∃ (a t : Addr) (us : List V) (ks : List Ent) (key : List Int), vs = [.ref a, .ref t] ∧ SqL K H a us ∧ EntsV K H us ks ∧ SqT K H t (key.map V.int) ∧ 1 ≤ ks.length ∧ ks.length ≤ 1000 ∧ ∀ i : Nat, Below ks key i → Q (.int i) H
theorem d_place (T : Top K mg) : Def P w K mg base CX0 1 "place_below" ["pairs", "key"] (sp_place K) := by
  refine T.f_place_below.ok sc_place_below (by rintro vs H Q E ⟨a, t, us, ks, key, rfl, _⟩; rfl) (fun f cdv A outer s H vs Q E hr h => ?_)
  obtain ⟨a, t, us, ks, key, rfl, hS, hE, hT, h1, h1000, q⟩ := h
  have hul := hE.len
  refine ⟨_, (pss_cons (ps_set (i := 2) sc_place_below.nd rfl (Or.inl rfl) pe_int)
      (pss_cons (ps_while PassesOwn.never (pt_cutT (PW.pt (pw_and (pt_cmpR op_lt (pe_op op_add (pv 2) pe_int) (pe_callB (r := Evl.rLenS K) call_len_seq (by rfl) T.b_len (by decide +kernel) (pa_cons (pv 0) pa_nil)) (nomark _)) (pw_and1 (pt_cmpR (r := rLeT K) (op_leT (Nat.lt_of_le_of_lt (Nat.le_add_right _ _) hr.units)) (pe_ix (r := rIxT K) ix_tup (pe_ix (r := rIxL K) ix_list (pv 0) (pe_op op_add (pv 2) pe_int) (fun _ _ => rfl)) pe_int (fun _ _ => rfl)) (pv 1) (nomark _)))))) (pss_one (ps_set (i := 2) sc_place_below.nd rfl (Or.inl rfl) (pe_op op_add (pv 2) pe_int))))
      (pss_one (ps_ret (pv 2))))), ?_⟩
  walk_at "rd"
  refine whileB (fun m σ' H' => ∃ i : Nat, m = ks.length - i ∧ i < ks.length ∧ σ' = [some (.ref a), some (.ref t), some (.int (i : Int))] ∧ H' = H ∧ ∀ j k, j ≤ i → 0 < j → ks[j]? = some k → ltK key k.k = false) ks.length ⟨0, rfl, h1, rfl, rfl, fun j k h0 h2 => by omega⟩ ?_
  rintro m σ' H' ⟨i, rfl, hi, rfl, hH, hle⟩
  have hH2 : H = H' := hH.symm
  subst hH2
  walk_at "rd"
  refine r_cutT (fun b H' => H' = H ∧ (b = true → ∃ k, ks[i + 1]? = some k ∧ ltK key k.k = false) ∧ (b = false → ∀ k, ks[i + 1]? = some k → ltK key k.k = true)) ?_ ?_
  · walk_at "rd"
    refine rif (fun h2 => ?_) fun h2 => ?_
    · obtain ⟨v, hv⟩ : ∃ v, us[i + 1]? = some v := ⟨_, List.getElem?_eq_getElem (by omega)⟩
      obtain ⟨k, hk, tK⟩ := hE.get hv
      obtain ⟨te, tk, tp, rfl, e1, e2, e3⟩ := entV tK
      walk_at "rd"
      refine r_ixL hS (i := (i : Int) + 1) (by rw [show (i : Int) + 1 = ((i + 1 : Nat) : Int) by omega]; exact atI_nat hv) ?_
      walk_at "rd"
      refine r_ixT e1 (v := .ref tk) rfl ?_
      walk_at "rd"
      refine r_leT e2 hT ?_
      rw [lex_le]
      walk_at "rd"
      cases hb : ltK key k.k with
      | true => exact ⟨rfl, fun z => (by cases z), fun _ k2 hk2 => by rw [hk] at hk2; cases hk2; exact hb⟩
      | false => exact ⟨rfl, fun _ => ⟨k, hk, hb⟩, fun z => (by cases z)⟩
    · exact ⟨rfl, fun z => (by cases z), fun _ k hk => by have := (List.getElem?_eq_some_iff.mp hk).1; omega⟩
  · rintro b H1 ⟨rfl, hb1, hb2⟩
    cases b with
    | true =>
      obtain ⟨k, hk, hlk⟩ := hb1 rfl
      have hi2 := (List.getElem?_eq_some_iff.mp hk).1
      refine wh_turn ?_
      walk_at "rd"
      refine ⟨ks.length - (i + 1), by omega, i + 1, rfl, hi2, rfl, rfl, fun j k2 h0 h2 h3 => ?_⟩
      by_cases e : j = i + 1
      · subst e
        rw [hk] at h3
        cases h3
        exact hlk
      · exact hle j k2 (by omega) h2 h3
    | false =>
      walk_at "rd"
      exact q i ⟨hi, hle, hb2 rfl⟩
/-! ### with_pair -/
theorem range_pickF1 {α β : Type} (xs : List α) (f : α → Option β) : ∀ n, n ≤ xs.length → (List.range n).filterMap (fun i => (xs[i]?).bind f) = (xs.take n).filterMap f
  | 0, _ => rfl
  | n + 1, h => by
    rw [rfm_succ, range_pickF1 xs f n (by omega), List.take_add_one, List.filterMap_append, List.getElem?_eq_getElem (show n < xs.length by omega)]
    congr 1
theorem range_pickF {α β : Type} (xs : List α) (f : α → Option β) : (List.range xs.length).filterMap (fun i => (xs[i]?).bind f) = xs.filterMap f := by
  rw [range_pickF1 xs f _ (Nat.le_refl _), List.take_length]
theorem fm_filter {α β : Type} (p : α → Bool) (f : α → β) : ∀ xs : List α, xs.filterMap (fun x => if p x = true then some (f x) else none) = (xs.filter p).map f
  | [] => rfl
  | x :: xs => by
    cases h : p x with
    | true => rw [List.filterMap_cons, if_pos h, List.filter_cons, if_pos h, List.map_cons, fm_filter p f xs]
    | false => rw [List.filterMap_cons, if_neg (by rw [h]; exact Bool.false_ne_true), List.filter_cons, if_neg (by rw [h]; exact Bool.false_ne_true), fm_filter p f xs]
def selE (p : Ent → Bool) (es : List Ent) : Nat → Option PyData := fun i => (es[i]?).bind fun x => if p x = true then some (entD x) else none
theorem selE_all (p : Ent → Bool) (es : List Ent) {n : Nat} (h : n = es.length) : (List.range n).filterMap (selE p es) = (es.filter p).map entD := by
  subst h
  exact (range_pickF es _).trans (fm_filter p entD es)
def insE (e : Ent) (es : List Ent) : List Ent := es.filter (fun x => ltK x.k e.k) ++ [e] ++ es.filter fun x => ltK e.k x.k
def sp_withp (K : PySem.W.Frag) : Sp := fun vs H Q _ => ∃ (a t tp : Addr) (us : List V) (es : List Ent) (e : Ent), vs = [.ref a, .ref t, .ref tp] ∧ SqL K H a us ∧ EntsV K H us es ∧ SqT K H t (e.k.map V.int) ∧ SqT K H tp (([(e.ad : Int), (e.ln : Int)] : List Int).map V.int) ∧ es.length ≤ 1000 ∧
  ∀ H' l ws, Same H H' → H l = none → H' l = some (.lst ws) → EntsV K H' ws (insE e es) → Q (.ref l) H'
theorem d_withp (T : Top K mg) : Def P w K mg base CX0 1 "with_pair" ["pairs", "key", "pointer"] (sp_withp K) := by
  refine T.f_with_pair.ok sc_with_pair (by rintro vs H Q E ⟨a, t, tp, us, es, e, rfl, _⟩; rfl) (fun f cdv A outer s H vs Q E hr h => ?_)
  obtain ⟨a, t, tp, us, es, e, rfl, hS, hE, hT, hP, hl, q⟩ := h
  have hul := hE.len
  refine ⟨_, (pss_cons (ps_setLc (i := 3) (own := [("pair", 4)]) (g := (gName 4)) rfl sc_with_pair.nd rfl rfl (sw_true rfl rfl rfl (by decide +kernel)) (pi_list (pv 0)) (blkOk_by (N := N_with_pair) (sc := defScope s_with_pair) (by decide +kernel)) (fun _ _ _ _ _ => (pg_name (i := 4) sc_with_pair.nd rfl (Or.inl rfl))) (fun _ _ _ _ _ => pts_one (pt_cmpR (r := rLtT K) (op_ltT (Nat.lt_of_le_of_lt (Nat.le_add_right _ _) hr.units)) (pe_ix (r := rIxT K) ix_tup (pv 4) pe_int (fun _ _ => rfl)) (pv 1) (nomark _))) (fun _ _ _ _ _ => (pv 4)))
      (pss_cons (ps_setLc (i := 5) (own := [("pair", 4)]) (g := (gName 4)) rfl sc_with_pair.nd rfl rfl (sw_true rfl rfl rfl (by decide +kernel)) (pi_list (pv 0)) (blkOk_by (N := N_with_pair) (sc := defScope s_with_pair) (by decide +kernel)) (fun _ _ _ _ _ => (pg_name (i := 4) sc_with_pair.nd rfl (Or.inl rfl))) (fun _ _ _ _ _ => pts_one (pt_cmpR (r := rGtT K) (op_gtT (Nat.lt_of_le_of_lt (Nat.le_add_right _ _) hr.units)) (pe_ix (r := rIxT K) ix_tup (pv 4) pe_int (fun _ _ => rfl)) (pv 1) (nomark _))) (fun _ _ _ _ _ => (pv 4)))
      (pss_one (ps_ret (pe_op op_cat (pe_op op_cat (pv 3) (pe_lst (pa_cons (pe_tup (pa_cons (pv 1) (pa_cons (pv 2) pa_nil))) pa_nil))) (pv 5)))))), ?_⟩
  walk_at "rd"
  refine lcjL (K := K) (selE (fun x => ltK x.k e.k) es) (Own.nil H) (fun H' p zs o' => o'.old hS) hS (by omega) ?_ ?_
  · intro i v p zs H' R' hv o' s' r
    obtain ⟨x, hx, tX⟩ := EntsV.get (TpAll.up hE s') hv
    obtain ⟨te, tk, tp2, rfl, e1, e2, e3⟩ := entV tX
    have hsel : selE (fun x => ltK x.k e.k) es i = if ltK x.k e.k = true then some (entD x) else none := by
      unfold selE
      rw [hx]
      rfl
    refine r_name (r _ rfl (fun Qb k => ?_) fun d' H2 hd' s2 Qv qv => ?_)
    · have k' := k H' (.refl _)
      rw [hsel] at k'
      walk_at "rd"
      refine r_ixT e1 (v := .ref tk) rfl ?_
      walk_at "rd"
      refine r_ltT e2 (s'.sq hT) ?_
      rw [show lexR (fun i j => decide (i < j)) (decide (x.k.length < e.k.length)) x.k e.k = ltK x.k e.k from rfl]
      walk_at "rd"
      cases h : ltK x.k e.k <;> (rw [h] at k'; exact k')
    · rw [hsel] at hd'
      walk_at "rd"
      split at hd'
      · cases hd'
        exact qv H2 (.ref te) (.refl _) (tX.up (Stp.of s2))
      · cases hd'
  intro p1 H1 zs1 s1 o1 t1
  rw [selE_all _ _ hul] at t1
  have hS1 : SqL K H1 a us := o1.old hS
  have hE1 : EntsV K H1 us es := TpAll.up hE s1
  have hT1 := s1.sq hT
  walk_at "rd"
  refine lcjL (K := K) (selE (fun x => ltK e.k x.k) es) o1 (fun H' p zs o' => o'.old hS) hS1 (by omega) ?_ ?_
  · intro i v p zs H' R' hv o' s' r
    obtain ⟨x, hx, tX⟩ := EntsV.get (TpAll.up hE1 s') hv
    obtain ⟨te, tk, tp2, rfl, e1, e2, e3⟩ := entV tX
    have hsel : selE (fun x => ltK e.k x.k) es i = if ltK e.k x.k = true then some (entD x) else none := by
      unfold selE
      rw [hx]
      rfl
    refine r_name (r _ rfl (fun Qb k => ?_) fun d' H2 hd' s2 Qv qv => ?_)
    · have k' := k H' (.refl _)
      rw [hsel] at k'
      walk_at "rd"
      refine r_ixT e1 (v := .ref tk) rfl ?_
      walk_at "rd"
      refine r_gtT e2 (s'.sq hT1) ?_
      rw [lex_gt]
      walk_at "rd"
      cases h : ltK e.k x.k <;> (rw [h] at k'; exact k')
    · rw [hsel] at hd'
      walk_at "rd"
      split at hd'
      · cases hd'
        exact qv H2 (.ref te) (.refl _) (tX.up (Stp.of s2))
      · cases hd'
  intro p2 H2 zs2 s2 o2 t2
  rw [selE_all _ _ hul] at t2
  have z1 := EntsV.len t1
  have z2 := EntsV.len t2
  have f1 := List.length_filter_le (fun x : Ent => ltK x.k e.k) es
  have f2 := List.length_filter_le (fun x : Ent => ltK e.k x.k) es
  walk_at "rd"
  refine r_newTp (K := K) (ds := [.tuple (e.k.map PyData.int), .tuple (([(e.ad : Int), (e.ln : Int)] : List Int).map PyData.int)]) o2 (.cons (Tp.intsT (s2.sq hT1)) (.cons (Tp.intsT (s2.sq (s1.sq hP))) .nil)) (Nat.le_of_ble_eq_true rfl) fun t3 H3 s3 o3 t3v => ?_
  walk_at "rd"
  refine r_newLs o3 (Nat.le_of_ble_eq_true rfl) fun p4 H4 s4 o4 => ?_
  walk_at "rd"
  refine r_cats o4 (o4.at 2 rfl) (o4.at 0 rfl) (by simp only [List.length_cons, List.length_nil]; omega) fun p5 H5 s5 o5 => ?_
  walk_at "rd"
  refine r_cats o5 (o5.at 0 rfl) (o5.at 2 rfl) (by rw [List.length_append]; simp only [List.length_cons, List.length_nil]; omega) fun p6 H6 s6 o6 => ?_
  have sA := ((s3.trans s4).trans s5).trans s6
  refine q H6 p6 _ o6.ex (o6.fresh 0 rfl) (o6.at 0 rfl) ?_
  unfold EntsV insE
  rw [List.map_append, List.map_append]
  exact TpAll.app (TpAll.app (TpAll.up t1 (s2.trans sA)) (.cons (t3v.up ((s4.trans s5).trans s6)) .nil)) (TpAll.up t2 sA)
end

section
variable {P : Program} {w : World} {K : PySem.W.Frag} {mg : Str → Option Value} {base : Heap}
/-! ### the way to a leaf -/
inductive WayT (g : LG) : Nat → Ent → List (List Ent × Nat) → List Ent → List Ent → List Ent → Prop where
  | leaf {p : Ent} {es : List Ent} (h : NodeAt g 1 p.ad p.ln es) : WayT g 0 p [] es [] []
  | inner {d i : Nat} {p k : Ent} {kids b a lf b1 a1 : List Ent} {w : List (List Ent × Nat)} (h : NodeAt g 2 p.ad p.ln kids) (hk : kids[i]? = some k) (hb : KidsR (IsT g d) (kids.take i) b) (ha : KidsR (IsT g d) (kids.drop (i + 1)) a) (r : WayT g d k w lf b1 a1) :
      WayT g (d + 1) p ((kids, i) :: w) lf (b ++ b1) (a1 ++ a)
def WayV (K : PySem.W.Frag) (H : Hp) : List V → List (List Ent × Nat) → Prop
  | [], [] => True
  | v :: vs, p :: ws => (∃ t l us, v = .ref t ∧ SqT K H t [.ref l, .int (p.2 : Int)] ∧ H l = some (.lst us) ∧ EntsV K H us p.1) ∧ WayV K H vs ws
  | _, _ => False
theorem WayV.up {H H' : Hp} (s : Stp H H') (hl : ∀ l us, H l = some (.lst us) → ∀ es, es ≠ [] → EntsV K H us es → H' l = some (.lst us)) : ∀ {vs : List V} {ws : List (List Ent × Nat)}, (∀ p ∈ ws, p.1 ≠ []) → WayV K H vs ws → WayV K H' vs ws
  | [], [], _, _ => trivial
  | v :: vs, p :: ws, hn, ⟨⟨t, l, us, e, h1, h2, h3⟩, r⟩ => ⟨⟨t, l, us, e, s.sq h1, hl l us h2 p.1 (hn p List.mem_cons_self) h3, TpAll.up h3 s⟩, WayV.up s hl (fun q hq => hn q (List.mem_cons_of_mem _ hq)) r⟩
  | _ :: _, [], _, h => h
  | [], _ :: _, _, h => h
theorem WayV.same {H H' : Hp} (s : Same H H') : ∀ {vs : List V} {ws : List (List Ent × Nat)}, WayV K H vs ws → WayV K H' vs ws
  | [], [], _ => trivial
  | v :: vs, p :: ws, ⟨⟨t, l, us, e, h1, h2, h3⟩, r⟩ => ⟨⟨t, l, us, e, (Stp.of s).sq h1, s _ _ h2, TpAll.up h3 (Stp.of s)⟩, WayV.same s r⟩
  | _ :: _, [], h => h
  | [], _ :: _, h => h
theorem WayV.snoc {H : Hp} {v : V} {p : List Ent × Nat} (h : ∃ t l us, v = .ref t ∧ SqT K H t [.ref l, .int (p.2 : Int)] ∧ H l = some (.lst us) ∧ EntsV K H us p.1) : ∀ {vs : List V} {ws : List (List Ent × Nat)}, WayV K H vs ws → WayV K H (vs ++ [v]) (ws ++ [p])
  | [], [], _ => ⟨h, trivial⟩
  | _ :: _, _ :: _, ⟨q, r⟩ => ⟨q, WayV.snoc h r⟩
  | _ :: _, [], h2 => h2.elim
  | [], _ :: _, h2 => h2.elim
theorem WayV.len {H : Hp} : ∀ {vs : List V} {ws : List (List Ent × Nat)}, WayV K H vs ws → vs.length = ws.length
  | [], [], _ => rfl
  | _ :: _, _ :: _, ⟨_, r⟩ => congrArg (· + 1) (WayV.len r)
  | _ :: _, [], h2 => h2.elim
  | [], _ :: _, h2 => h2.elim
theorem WayV.get {H : Hp} : ∀ {vs : List V} {ws : List (List Ent × Nat)} {i : Nat} {p : List Ent × Nat}, WayV K H vs ws → ws[i]? = some p → ∃ t l us, vs[i]? = some (.ref t) ∧ SqT K H t [.ref l, .int (p.2 : Int)] ∧ H l = some (.lst us) ∧ EntsV K H us p.1
  | [], [], _, _, _, h => by cases h
  | v :: vs, q :: ws, 0, p, ⟨⟨t, l, us, e, h1, h2, h3⟩, r⟩, h => by cases h; exact ⟨t, l, us, congrArg some e, h1, h2, h3⟩
  | v :: vs, q :: ws, i + 1, p, ⟨_, r⟩, h => WayV.get (vs := vs) (ws := ws) (i := i) r h
  | _ :: _, [], _, _, h2, _ => h2.elim
  | [], _ :: _, _, _, h2, _ => h2.elim
/-- keys of a part that stands behind are not below its first -/
theorem KidsR.ge {R : Ent → List Ent → Prop} {k : Ent} {ks es : List Ent} (h : KidsR R (k :: ks) es) (ha : Asc es) : ∀ e ∈ es, ltK e.k k.k = false := by
  obtain ⟨part, rest, rfl, r, hd, q⟩ := h
  intro e he
  cases part with
  | nil => cases hd
  | cons x xs =>
    rw [← show x.k = k.k from Option.some.inj hd]
    rcases List.mem_cons.mp he with rfl | he
    · exact ltK_irr _
    · exact ltK_asym (ha.1 e he)
theorem drop_cons {α : Type} {xs : List α} {i : Nat} {x : α} (h : xs[i]? = some x) : xs.drop i = x :: xs.drop (i + 1) := by
  obtain ⟨h1, h2⟩ := List.getElem?_eq_some_iff.mp h
  rw [List.drop_eq_getElem_cons h1, h2]
/-- one step down -/
theorem step_down {R : Ent → List Ent → Prop} {kids es : List Ent} {key : List Int} {i : Nat} (h : KidsR R kids es) (ha : Asc es) (hb : Below kids key i) : ∃ k b part a, kids[i]? = some k ∧ es = b ++ part ++ a ∧ KidsR R (kids.take i) b ∧ R k part ∧ KidsR R (kids.drop (i + 1)) a ∧
    (∀ e ∈ b, ltK e.k key = true) ∧ (∀ e ∈ a, ltK key e.k = true) := by
  obtain ⟨k, hk⟩ : ∃ k, kids[i]? = some k := ⟨_, List.getElem?_eq_getElem hb.lt⟩
  obtain ⟨b, part, a, rfl, h1, h2, h3, h4⟩ := h.split i hk
  rw [Asc.app, Asc.app] at ha
  refine ⟨k, b, part, a, hk, rfl, h1, h2, h4, fun e he => ?_, fun e he => ?_⟩
  · cases i with
    | zero =>
      rw [List.take_zero] at h1
      rw [show b = [] from h1] at he
      cases he
    | succ i =>
      cases part with
      | nil => cases h3
      | cons x xs =>
        refine ltK_lt_le (ha.1.2.2 e he x List.mem_cons_self) ?_
        rw [show x.k = k.k from Option.some.inj h3]
        exact hb.le (i + 1) k (Nat.le_refl _) (Nat.succ_pos _) hk
  · cases hk2 : kids[i + 1]? with
    | none =>
      rw [List.drop_eq_nil_of_le (List.getElem?_eq_none_iff.mp hk2)] at h4
      rw [show a = [] from h4] at he
      cases he
    | some k2 =>
      rw [drop_cons hk2] at h4
      exact ltK_le_lt (h4.ge ha.2.1 e he) (hb.gt k2 hk2)
def Cur (g : LG) : Nat → Ent → List Ent → List Ent → Prop
  | 0, p, nd, es => NodeAt g 1 p.ad p.ln es ∧ nd = es
  | d + 1, p, nd, es => NodeAt g 2 p.ad p.ln nd ∧ KidsR (IsT g d) nd es
theorem IsT.cur {g : LG} : ∀ {d : Nat} {p : Ent} {es : List Ent}, IsT g d p es → ∃ nd, NodeAt g (kdI (decide (d = 0))) p.ad p.ln nd ∧ Cur g d p nd es
  | 0, p, es, h => ⟨es, h, h, rfl⟩
  | d + 1, p, es, ⟨kids, h, q⟩ => ⟨kids, h, h, q⟩
theorem own_same {B H H3 : Hp} {w : Addr} {u : HO} (o : Own B H [(w, u)]) (s : Same H H3) : Same B (delH H3 w) := fun b v h => by
  have hb : b ≠ w := fun e => by
    have := o.fresh 0 rfl
    rw [e, this] at h
    cases h
  rw [delH_ne hb]
  exact s _ _ (o.ex _ _ h)
theorem stp_del {H : Hp} {w : Addr} {xs : List V} (h : H w = some (.lst xs)) : Stp H (delH H w) := stp_frameL h fun _ _ hb e => (delH_ne hb).trans e
def firstOf (way : List (List Ent × Nat)) (nd : List Ent) : List Ent := match way with
  | [] => nd
  | p :: _ => p.1
theorem firstOf_snoc (way : List (List Ent × Nat)) (nd nd2 : List Ent) (i : Nat) : firstOf (way ++ [(nd, i)]) nd2 = firstOf way nd := by cases way <;> rfl
theorem Cur.node {g : LG} : ∀ {d : Nat} {p : Ent} {nd es : List Ent}, Cur g d p nd es → NodeAt g (kdI (decide (d = 0))) p.ad p.ln nd
  | 0, _, _, _, ⟨h, rfl⟩ => h
  | _ + 1, _, _, _, ⟨h, _⟩ => h
theorem Cur.isT {g : LG} : ∀ {d : Nat} {p : Ent} {nd es : List Ent}, Cur g d p nd es → IsT g d p es
  | 0, _, _, _, ⟨h, rfl⟩ => h
  | _ + 1, _, nd, _, ⟨h, q⟩ => ⟨nd, h, q⟩
def sp_wayto (K : PySem.W.Frag) (CL CD : Addr) : Sp := fun vs H Q _ => ∃ (p t tk : Addr) (g : LG) (d : Nat) (r : Ent) (nd es : List Ent) (key : List Int), vs = [.ref p, .ref t, .ref tk] ∧ LogAt CL CD H p g ∧ SqT K H t (([(r.ad : Int), (r.ln : Int)] : List Int).map V.int) ∧ SqT K H tk (key.map V.int) ∧
  g.fs.length ≤ 1000000 ∧ g.ws.length ≤ 1000000 ∧ Cur g d r nd es ∧ Asc es ∧ d ≤ 1000 ∧
  ∀ H' x wl pl vs us way lf B A, Same H H' → H x = none → H wl = none → H' x = some (.tup [.ref wl, .ref pl]) → H' wl = some (.lst vs) → WayV K H' vs way → H' pl = some (.lst us) → EntsV K H' us lf → WayT g d r way lf B A → firstOf way lf = nd → es = B ++ lf ++ A →
    (∀ e ∈ B, ltK e.k key = true) → (∀ e ∈ A, ltK key e.k = true) → Q (.ref x) H'
/-! ### put_nodes -/
def partsOf (es : List Ent) : List (List Ent) := if es = [] then [] else if 8 < es.length then [es.take 5, es.drop 5] else [es]
def headK (es : List Ent) : List Int := match es with
  | [] => []
  | e :: _ => e.k
def madeOf : Nat → List (List Ent) → List Ent
  | _, [] => []
  | n, p :: ps => ⟨headK p, n, (nodeB p).length + 3⟩ :: madeOf (n + ((nodeB p).length + 3)) ps
def wrAll (kd : Int) (ps : List (List Ent)) : List Int := ps.flatMap fun p => recD kd (nodeB p)
theorem ents_ne {H : Hp} {a b : Addr} {us : List V} {es : List Ent} {ns : List Int} (h : H a = some (.lst us)) (hE : EntsV K H us es) (hn : es ≠ []) (h2 : H b = some (.lst (ns.map V.int))) : a ≠ b := by
  rintro rfl
  rw [h] at h2
  cases h2
  cases es with
  | nil => exact hn rfl
  | cons e es =>
    have hl := EntsV.len hE
    cases ns with
    | nil => cases hl
    | cons n ns =>
      obtain ⟨e2, he2, tE⟩ := EntsV.get (i := 0) hE rfl
      obtain ⟨t, _, _, e3, _⟩ := entV tE
      cases e3
theorem madeOf_get (kd : Int) : ∀ (ps : List (List Ent)) (n i : Nat) (p : List Ent), ps[i]? = some p → (madeOf n ps)[i]? = some ⟨headK p, n + (wrAll kd (ps.take i)).length, (nodeB p).length + 3⟩
  | [], _, _, _, h => by cases h
  | q :: ps, n, 0, p, h => by cases h; rfl
  | q :: ps, n, i + 1, p, h => by
    show (madeOf (n + ((nodeB q).length + 3)) ps)[i]? = _
    rw [madeOf_get kd ps _ i p h]
    show _ = some (⟨_, n + ((recD kd (nodeB q) ++ wrAll kd (ps.take i)).length), _⟩ : Ent)
    rw [List.length_append, recD_len, Nat.add_assoc]
theorem madeOf_len : ∀ (ps : List (List Ent)) (n : Nat), (madeOf n ps).length = ps.length
  | [], _ => rfl
  | q :: ps, n => congrArg (· + 1) (madeOf_len ps _)
theorem wrAll_succ {kd : Int} {ps : List (List Ent)} {i : Nat} {p : List Ent} (h : ps[i]? = some p) : wrAll kd (ps.take (i + 1)) = wrAll kd (ps.take i) ++ recD kd (nodeB p) := by
  unfold wrAll
  rw [List.take_add_one, h, List.flatMap_append]
  congr 1
  exact List.append_nil _
theorem wrAll_len {kd : Int} : ∀ {ps : List (List Ent)}, (∀ p ∈ ps, (∀ e ∈ p, EntOk e) ∧ p.length ≤ 9) → (wrAll kd ps).length ≤ ps.length * 130
  | [], _ => Nat.zero_le _
  | p :: ps, h => by
    have h1 := node_len (h p List.mem_cons_self).1 (h p List.mem_cons_self).2
    have h2 := wrAll_len (kd := kd) (ps := ps) fun q hq => h q (List.mem_cons_of_mem _ hq)
    show (recD kd (nodeB p) ++ wrAll kd ps).length ≤ _
    rw [List.length_append, recD_len, List.length_cons]
    omega
theorem cut_to5 {us : List V} (h : 5 ≤ us.length) : cutV us none (some 5) = us.take 5 := by
  unfold cutV
  rw [HT.sIx_none, show (5 : Int) = ((5 : Nat) : Int) from rfl, HT.sIx_nat, Nat.min_eq_left h]
  rfl
theorem cut_from5 {us : List V} (h : 5 ≤ us.length) : cutV us (some 5) none = us.drop 5 := by
  unfold cutV
  rw [HT.sIx_none, show (5 : Int) = ((5 : Nat) : Int) from rfl, HT.sIx_nat, Nat.min_eq_left h]
  exact List.take_of_length_le (by rw [List.length_drop]; exact Nat.le_refl _)
theorem yes_turn {σ : L2.St} {H : Hp} {te : TE} {F : VK} {N : Hp → Prop} (h : te σ H F) : tYes σ H fun b H3 => if b = true then te σ H3 F else N H3 := by
  show (if true = true then te σ H F else N H)
  rw [if_pos rfl]
  exact h
def PartsV (K : PySem.W.Frag) (H : Hp) : List V → List (List Ent) → Prop
  | [], [] => True
  | v :: vs, p :: ps => (∃ l us, v = .ref l ∧ H l = some (.lst us) ∧ EntsV K H us p) ∧ PartsV K H vs ps
  | _, _ => False
theorem PartsV.get {H : Hp} : ∀ {vs : List V} {ps : List (List Ent)} {i : Nat} {v : V}, PartsV K H vs ps → vs[i]? = some v → ∃ l us p, ps[i]? = some p ∧ v = .ref l ∧ H l = some (.lst us) ∧ EntsV K H us p
  | [], [], _, _, _, h => by cases h
  | v :: vs, p :: ps, 0, u, ⟨⟨l, us, e, h1, h2⟩, _⟩, h => by cases h; exact ⟨l, us, p, rfl, e, h1, h2⟩
  | v :: vs, p :: ps, i + 1, u, ⟨_, r⟩, h => PartsV.get (vs := vs) (ps := ps) (i := i) r h
  | _ :: _, [], _, _, h, _ => h.elim
  | [], _ :: _, _, _, h, _ => h.elim
theorem parts_ne {H : Hp} {a b : Addr} {vs : List V} {ps : List (List Ent)} {ns : List Int} (h : H a = some (.lst vs)) (hP : PartsV K H vs ps) (hn : ps ≠ []) (h2 : H b = some (.lst (ns.map V.int))) : a ≠ b := by
  rintro rfl
  rw [h] at h2
  cases h2
  cases ps with
  | nil => exact hn rfl
  | cons p ps =>
    cases ns with
    | nil => exact hP.elim
    | cons n ns =>
      obtain ⟨⟨l, us, e, _⟩, _⟩ := hP
      cases e
theorem PartsV.len {H : Hp} : ∀ {vs : List V} {ps : List (List Ent)}, PartsV K H vs ps → vs.length = ps.length
  | [], [], _ => rfl
  | v :: vs, p :: ps, ⟨_, r⟩ => congrArg (· + 1) (PartsV.len r)
  | _ :: _, [], h => h.elim
  | [], _ :: _, h => h.elim
/-- a log's records grow -/
theorem LogAt.put {CL CD : Addr} {H H' : Hp} {p : Addr} {g : LG} {bs : List Int} (h : LogAt CL CD H p g) (hf : ∀ b u, b ≠ g.l → H b = some u → H' b = some u) (hl : H' g.l = some (.lst ((g.ws ++ bs).map V.int))) : LogAt CL CD H' p (g.put bs) :=
  ⟨hf _ _ (lst_ne h.wt h.me) h.me, hl, hf _ _ (lst_ne h.wt h.dk) h.dk, hf _ _ (Ne.symm h.ne) h.fl, h.ne⟩
def sp_pnodes (K : PySem.W.Frag) (CL CD : Addr) : Sp := fun vs H Q _ => ∃ (p a : Addr) (g : LG) (kd : Int) (us : List V) (es : List Ent), vs = [.ref p, .int kd, .ref a] ∧ LogAt CL CD H p g ∧ H a = some (.lst us) ∧ EntsV K H us es ∧ (∀ e ∈ es, EntOk e) ∧ es.length ≤ 9 ∧ g.fs.length ≤ 900000 ∧ g.ws.length ≤ 900000 ∧
  ∀ H' l zs, (∀ b u, b ≠ g.l → H b = some u → H' b = some u) → H l = none → H' g.l = some (.lst ((g.ws ++ wrAll kd (partsOf es)).map V.int)) → H' l = some (.lst zs) → RowsP K H' zs (madeOf (g.fs.length + g.ws.length) (partsOf es)) → Q (.ref l) H'
theorem d_pnodes {CL CD : Addr} (T : Top K mg) (C_Log : Cl_Log K mg CL) (C_Disk : Cl_Disk K mg CD) : Def P w K mg base CX0 7 "put_nodes" ["log", "kind", "pairs"] (sp_pnodes K CL CD) := by
  have M_Log_put : MDef P w K mg base CX0 3 CL "put" ["self", "kind", "content"] (sp_lgput K CL CD) := d_lgput T C_Log C_Disk
  have G_write_node : Def P w K mg base CX0 5 "write_node" ["pairs"] (sp_wnode K) := d_wnode T
  obtain ⟨t1, g_MOST_PAIRS⟩ := T.g_MOST_PAIRS
  obtain ⟨t2, g_FIRST_OF_TWO⟩ := T.g_FIRST_OF_TWO
  refine T.f_put_nodes.ok sc_put_nodes (by rintro vs H Q E ⟨p, a, g, kd, us, es, rfl, _⟩; rfl) (fun f cdv A outer s H vs Q E hr h => ?_)
  obtain ⟨p, a, g, kd, us, es, rfl, hL, hA, hE, hok, hl9, hfz, hwz, q⟩ := h
  have hul := hE.len
  refine ⟨_, (pss_cons (ps_if (pt_not (pt_truth (pv 2) (by intro _; rfl))) (pss_one (ps_ret (pe_lst pa_nil))) pss_nil)
      (pss_cons (ps_set (i := 3) sc_put_nodes.nd rfl (Or.inl rfl) (pe_lst (pa_cons (pv 2) pa_nil)))
      (Evl.pss_cut (ps_if (pt_cmpR op_gt (pe_callB (r := Evl.rLenS K) call_len_seq (by rfl) T.b_len (by decide +kernel) (pa_cons (pv 2) pa_nil)) (pe_glob (v := .int 8) rfl g_MOST_PAIRS ⟨_, rfl⟩) (nomark _)) (pss_one (ps_set (i := 3) sc_put_nodes.nd rfl (Or.inl rfl) (pe_lst (pa_cons (pe_slice (r := rSlL K) sl_list (pv 2) po_none (po_some (pe_glob (v := .int 5) rfl g_FIRST_OF_TWO ⟨_, rfl⟩))) (pa_cons (pe_slice (r := rSlL K) sl_list (pv 2) (po_some (pe_glob (v := .int 5) rfl g_FIRST_OF_TWO ⟨_, rfl⟩)) po_none) pa_nil))))) pss_nil)
      (pss_one (ps_ret (pe_lc (own := [("part", 4)]) (g := (gName 4)) (tt := tYes) rfl sc_put_nodes.nd (pi_list (pv 3)) (blkOk_by (N := N_put_nodes) (sc := defScope s_put_nodes) (by decide +kernel)) (fun _ _ _ _ _ => (pg_name (i := 4) sc_put_nodes.nd rfl (Or.inl rfl))) (fun _ _ _ _ _ => pts_nil) (fun _ _ _ _ _ => (pe_tup (pa_cons (pe_ix (r := rIxT K) ix_tup (pe_ix (r := rIxL K) ix_list (pv 4) pe_int (fun _ _ => rfl)) pe_int (fun _ _ => rfl)) (pa_cons (pe_methD (pv 0) C_Log.cl M_Log_put (hr.mono (by decide)) (pa_cons (pv 1) (pa_cons (pe_callD G_write_node (hr.mono (by decide)) (pa_cons (pv 4) pa_nil)) pa_nil))) pa_nil)))))))))), ?_⟩
  walk_at "rd"
  refine ⟨decide (us.length ≠ 0), ?_, ?_⟩
  · exact .inl ⟨us, SqL.of hA, by cases us <;> simp⟩
  by_cases h0 : es = []
  · subst h0
    rw [hul, decide_eq_false (by decide)]
    walk_at "rd"
    refine r_newL (Own.nil H) (Nat.zero_le _) fun l H1 o1 => ?_
    exact q H1 l [] (fun b u _ h => o1.ex _ _ h) (o1.fresh 0 rfl) (by rw [o1.ex _ _ hL.wt]; show _ = some (HO.lst ((g.ws ++ []).map V.int)); rw [List.append_nil]) (o1.at 0 rfl) .nil
  have hpos : 0 < es.length := by cases es with
    | nil => exact absurd rfl h0
    | cons e es => exact Nat.succ_pos _
  rw [hul, decide_eq_true (by omega)]
  walk_at "rd"
  refine r_newLs (Own.nil H) (Nat.le_of_ble_eq_true rfl) fun pp H1 s1 o1 => ?_
  walk_at "rd"
  refine ⟨fun σ' H' => ∃ (pp : Addr) (avs : List V), σ' = [some (.ref p), some (.int kd), some (.ref a), some (.ref pp), none] ∧ Same H H' ∧ H' pp = some (.lst avs) ∧ PartsV K H' avs (partsOf es), ?_, ?_⟩
  · walk_at "rd"
    refine r_len (o1.old (SqL.of hA)) ?_
    walk_at "rd"
    have hS1 : SqL K H1 a us := o1.old (SqL.of hA)
    refine rif (fun h8 => ?_) fun h8 => ?_
    · walk_at "rd"
      refine r_slLs o1 hS1 fun pa H2 s2 o2 => ?_
      walk_at "rd"
      refine r_slLs o2 (o2.old (SqL.of hA)) fun pb H3 s3 o3 => ?_
      walk_at "rd"
      refine r_newLs o3 (Nat.le_of_ble_eq_true rfl) fun pc H4 s4 o4 => ?_
      walk_at "rd"
      refine ⟨pc, [.ref pa, .ref pb], rfl, o4.ex, o4.at 0 rfl, ?_⟩
      rw [cut_to5 (by omega), cut_from5 (by omega)] at o4
      unfold partsOf
      rw [if_neg h0, if_pos (by omega)]
      have hE4 : EntsV K H4 us es := TpAll.up hE (Stp.of o4.ex)
      refine ⟨⟨pa, us.take 5, rfl, o4.at 2 rfl, ?_⟩, ⟨pb, us.drop 5, rfl, o4.at 1 rfl, ?_⟩, trivial⟩
      · unfold EntsV
        rw [List.map_take]
        exact TpAll.take 5 hE4
      · unfold EntsV
        rw [List.map_drop]
        exact TpAll.drop 5 hE4
    · walk_at "rd"
      refine ⟨pp, [.ref a], rfl, o1.ex, o1.at 0 rfl, ?_⟩
      unfold partsOf
      rw [if_neg h0, if_neg (by omega)]
      exact ⟨⟨a, us, rfl, o1.ex _ _ hA, TpAll.up hE (Stp.of o1.ex)⟩, trivial⟩
  rintro σ' H2 ⟨pp, avs, rfl, s2, hpp, hPV⟩
  have hps : ∀ q ∈ partsOf es, (∀ e ∈ q, EntOk e) ∧ 1 ≤ q.length ∧ q.length ≤ 9 := by
    intro q hq
    unfold partsOf at hq
    rw [if_neg h0] at hq
    split at hq
    · rcases List.mem_cons.mp hq with rfl | hq
      · exact ⟨fun e he => hok e (List.mem_of_mem_take he), by rw [List.length_take]; omega, by rw [List.length_take]; omega⟩
      · rw [List.mem_singleton.mp hq]
        exact ⟨fun e he => hok e (List.mem_of_mem_drop he), by rw [List.length_drop]; omega, by rw [List.length_drop]; omega⟩
    · rw [List.mem_singleton.mp hq]
      exact ⟨hok, hpos, hl9⟩
  have hpl : (partsOf es).length ≤ 2 := by
    unfold partsOf
    split
    · exact Nat.zero_le _
    · split <;> simp
  have hps0 : partsOf es ≠ [] := by
    unfold partsOf
    rw [if_neg h0]
    split <;> exact List.cons_ne_nil _ _
  generalize partsOf es = ps at *
  have hvl := hPV.len
  walk_at "rd"
  refine ⟨pp, rfl, ⟨avs, SqL.of hpp⟩, ?_⟩
  intro D hD
  have hppD : pp ≠ D := fun e => by rw [e, hD] at hpp; cases hpp
  have hgD : g.l ≠ D := fun e => by have := s2 _ _ hL.wt; rw [e, hD] at this; cases this
  refine ⟨fun i m H' => m = ps.length - i ∧ i ≤ ps.length ∧ ∃ zs, (∀ b u, b ≠ g.l → H2 b = some u → H' b = some u) ∧ H' D = some (.lst zs) ∧ H' g.l = some (.lst ((g.ws ++ wrAll kd (ps.take i)).map V.int)) ∧ RowsP K H' zs ((madeOf (g.fs.length + g.ws.length) ps).take i), ⟨ps.length, rfl, Nat.zero_le _, [], fun b u hb h => ?_, upd_same, ?_, .nil⟩, ?_⟩
  · rw [upd_ne (fun e => by rw [e, hD] at h; cases h)]
    exact h
  · rw [upd_ne hgD, s2 _ _ hL.wt]
    show _ = some (HO.lst ((g.ws ++ []).map V.int))
    rw [List.append_nil]
  rintro i m H' ⟨rfl, hi, zs, hf, hD', hg', hZ⟩
  have hppg : pp ≠ g.l := parts_ne hpp hPV hps0 (s2 _ _ hL.wt)
  by_cases hlt : i < ps.length
  · refine .inr ⟨⟨avs, _, SqL.of (hf _ _ hppg hpp), List.getElem?_eq_getElem (by omega)⟩, fun H' => ∃ zs, (∀ b u, b ≠ g.l → H2 b = some u → H' b = some u) ∧ H' D = some (.lst zs) ∧ H' g.l = some (.lst ((g.ws ++ wrAll kd (ps.take (i + 1))).map V.int)) ∧ RowsP K H' zs ((madeOf (g.fs.length + g.ws.length) ps).take (i + 1)), fun H3 h3 => ⟨ps.length - (i + 1), by omega, rfl, hlt, h3⟩, fun v H3 hy => ?_⟩
    obtain ⟨rfl, hx⟩ := hy
    obtain ⟨l, us2, pt, hpt, rfl, hl, hEp⟩ := hPV.get (hx avs (SqL.of (hf _ _ hppg hpp)))
    obtain ⟨hok2, hl1, hl9⟩ := hps pt (List.mem_of_getElem? hpt)
    have hpt0 : pt ≠ [] := fun e => by rw [e] at hl1; cases hl1
    have hlg := ents_ne hl hEp hpt0 (s2 _ _ hL.wt)
    have hl' := hf _ _ hlg hl
    have hLat := LogAt.put (LogAt.up hL s2) hf hg'
    have hst : Stp H2 H3 := stp_frameL (s2 _ _ hL.wt) hf
    have hE' : EntsV K H3 us2 pt := TpAll.up hEp hst
    have hwl := wrAll_len (kd := kd) (ps := ps.take i) fun q hq => ⟨(hps q (List.mem_of_mem_take hq)).1, (hps q (List.mem_of_mem_take hq)).2.2⟩
    have htk : (ps.take i).length ≤ 2 := by rw [List.length_take]; omega
    have hzl := hZ.len
    have hzl2 : zs.length ≤ 2 := by rw [hzl, List.length_take]; omega
    have hnl := node_len hok2 hl9
    refine ⟨rfl, yes_turn ?_⟩
    walk_at "rd"
    obtain ⟨e0, es0, rfl⟩ : ∃ e0 es0, pt = e0 :: es0 := by cases pt with
      | nil => exact absurd rfl hpt0
      | cons e0 es0 => exact ⟨e0, es0, rfl⟩
    obtain ⟨v0, hv0⟩ : ∃ v, us2[0]? = some v := ⟨_, List.getElem?_eq_getElem (by rw [EntsV.len hEp]; exact Nat.succ_pos _)⟩
    obtain ⟨e1, he1, tE⟩ := hE'.get hv0
    cases he1
    obtain ⟨te, tk, tp, rfl, f1, f2, f3⟩ := entV tE
    refine r_ixL (SqL.of hl') (atI_nat (j := 0) hv0) ?_
    walk_at "rd"
    refine r_ixT f1 (v := .ref tk) rfl ?_
    walk_at "rd"
    refine ⟨p, g.dx, _, rfl, hLat.me, rfl, ?_⟩
    walk_at "rd"
    refine ⟨l, us2, e0 :: es0, rfl, SqL.of hl', hE', hok2, hl9, r_ret1 (Own.nil H3) fun c H4 o4 => ?_⟩
    have hcg : c ≠ g.l := fun e => by have := o4.fresh 0 rfl; rw [e, hg'] at this; cases this
    have hcD : c ≠ D := fun e => by have := o4.fresh 0 rfl; rw [e, hD'] at this; cases this
    refine ⟨p, c, g.put (wrAll kd (ps.take i)), kd, nodeB (e0 :: es0), rfl, LogAt.up hLat o4.ex, o4.at 0 rfl, hcg, by omega, by show g.fs.length ≤ _; omega, by show (g.ws ++ _).length ≤ _; rw [List.length_append]; omega, fun H5 t hf5 hl5 ht5 => ?_⟩
    have hst5 : Stp H3 H5 := (Stp.of o4.ex).trans (stp_frameL (o4.ex _ _ hg') hf5)
    walk_at "rd"
    refine r_newTb (Own.nil H5) (Nat.le_of_ble_eq_true rfl) fun t6 H6 s6 o6 => ?_
    have ht6 : RowP K H6 (.ref t6) ⟨headK (e0 :: es0), g.fs.length + g.ws.length + (wrAll kd (ps.take i)).length, (nodeB (e0 :: es0)).length + 3⟩ := by
      refine ⟨t6, tk, t, rfl, o6.at 0 rfl, s6.sq (hst5.sq f2), o6.ex _ _ ?_⟩
      have e1 : ((g.fs.length + g.ws.length + (wrAll kd (ps.take i)).length : Nat) : Int) = ((g.put (wrAll kd (ps.take i))).fs.length : Int) + ((g.put (wrAll kd (ps.take i))).ws.length : Int) := by
        show _ = (g.fs.length : Int) + ((g.ws ++ wrAll kd (ps.take i)).length : Int)
        rw [List.length_append]
        omega
      show H5 t = some (.tup (([((g.fs.length + g.ws.length + (wrAll kd (ps.take i)).length : Nat) : Int), (((nodeB (e0 :: es0)).length + 3 : Nat) : Int)] : List Int).map V.int))
      rw [e1]
      exact ht5
    have hth5 : Sth H3 H5 := (Sth.of o4.ex).trans (.frameL (o4.ex _ _ hg') hf5)
    have hD6 : H6 D = some (.lst zs) := o6.ex _ _ (hf5 _ _ (Ne.symm hgD) (o4.ex _ _ hD'))
    have hst6 : Stp H6 (upd H6 D (.lst (zs ++ [.ref t6]))) := Stp.set hD6
    refine ⟨zs, hD6, sz_lt (by omega), zs ++ [.ref t6], fun b u hb h => ?_, upd_same, ?_, ?_⟩
    · rw [upd_ne (fun e => by rw [e, hD] at h; cases h)]
      exact o6.ex _ _ (hf5 _ _ hb (o4.ex _ _ (hf _ _ hb h)))
    · have h6 := o6.ex _ _ hl5
      rw [upd_ne hgD, wrAll_succ hpt, ← List.append_assoc]
      exact h6
    · rw [List.take_add_one, madeOf_get kd ps _ i _ hpt]
      have hth6 : Sth H6 (upd H6 D (.lst (zs ++ [.ref t6]))) := .frameL hD6 fun b u hb h => (upd_ne hb).trans h
      exact RowsP.up (All2.snoc ht6 (RowsP.up hZ (hth5.trans (.of o6.ex)) (hst5.trans s6))) hth6 hst6
  · have e : i = ps.length := by omega
    subst e
    rw [List.take_length] at hg'
    rw [List.take_of_length_le (by rw [madeOf_len]; exact Nat.le_refl _)] at hZ
    refine .inl ⟨⟨avs, SqL.of (hf _ _ hppg hpp), by omega⟩, ?_⟩
    exact q H' D zs (fun b u hb h => hf b u hb (s2 _ _ h)) (s2.free hD) hg' hD' hZ
end

section
variable {P : Program} {w : World} {K : PySem.W.Frag} {mg : Str → Option Value} {base : Heap}
/-! ### the way to a leaf, where a node may be broken -/
inductive PathP (g : LG) (key : List Int) : Nat → Ent → List (Nat × Nat) → List Ent → Prop where
  | leaf {p : Ent} {es : List Ent} (h : NodeAt g 1 p.ad p.ln es) : PathP g key 0 p [(p.ad, p.ln)] es
  | inner {d i : Nat} {p k : Ent} {kids lf : List Ent} {ps : List (Nat × Nat)} (h : NodeAt g 2 p.ad p.ln kids) (hb : Below kids key i) (hk : kids[i]? = some k) (r : PathP g key d k ps lf) : PathP g key (d + 1) p ((p.ad, p.ln) :: ps) lf
theorem nodeAt_uniq {g : LG} {kd : Int} {ad ln : Nat} {es fs : List Ent} (h : NodeAt g kd ad ln es) (h2 : NodeAt g kd ad ln fs) : es = fs := by
  have e := h.at_.symm.trans h2.at_
  have e2 : nrB (kd, es) ++ [] = nrB (kd, fs) ++ [] := by rw [List.append_nil, List.append_nil]; exact e
  exact congrArg Prod.snd (nrB_pre _ _ _ _ e2).1
theorem asc_get : ∀ {es : List Ent} {i j : Nat} {a b : Ent}, Asc es → i < j → es[i]? = some a → es[j]? = some b → ltK a.k b.k = true
  | [], _, _, _, _, _, _, h, _ => by cases h
  | e :: es, 0, j + 1, a, b, h, _, h1, h2 => by
    cases h1
    exact h.1 b (List.mem_of_getElem? (i := j) h2)
  | e :: es, i + 1, j + 1, a, b, h, hij, h1, h2 => asc_get h.2 (Nat.lt_of_succ_lt_succ hij) h1 h2
  | _, _, 0, _, _, _, hij, _, _ => by omega
theorem Below.uniq {ks : List Ent} {key : List Int} {i j : Nat} (h1 : Below ks key i) (h2 : Below ks key j) : i = j := by
  rcases Nat.lt_trichotomy i j with h | h | h
  · obtain ⟨k, hk⟩ : ∃ k, ks[i + 1]? = some k := ⟨_, List.getElem?_eq_getElem (by have := h2.lt; omega)⟩
    have a := h1.gt k hk
    rw [h2.le (i + 1) k (by omega) (by omega) hk] at a
    cases a
  · exact h
  · obtain ⟨k, hk⟩ : ∃ k, ks[j + 1]? = some k := ⟨_, List.getElem?_eq_getElem (by have := h1.lt; omega)⟩
    have a := h2.gt k hk
    rw [h1.le (j + 1) k (by omega) (by omega) hk] at a
    cases a
theorem Below.ex (key : List Int) : ∀ {ks : List Ent}, Asc ks → 1 ≤ ks.length → ∃ i, Below ks key i := by
  intro ks hA h1
  have go : ∀ m, m ≤ ks.length → 1 ≤ m → ∃ i, i < m ∧ (∀ j k, j ≤ i → 0 < j → ks[j]? = some k → ltK key k.k = false) ∧ ∀ j k, i < j → j < m → ks[j]? = some k → ltK key k.k = true := by
    intro m
    induction m with
    | zero => intro _ h; omega
    | succ m ih =>
      intro hm _
      by_cases h0 : m = 0
      · subst h0
        exact ⟨0, Nat.lt_succ_self _, fun j k a b _ => by omega, fun j k a b _ => by omega⟩
      · obtain ⟨i, hi, a, b⟩ := ih (by omega) (by omega)
        obtain ⟨k, hk⟩ : ∃ k, ks[m]? = some k := ⟨_, List.getElem?_eq_getElem (by omega)⟩
        cases hl : ltK key k.k with
        | true =>
          refine ⟨i, by omega, a, fun j k2 h2 h3 h4 => ?_⟩
          by_cases e : j = m
          · subst e
            rw [hk] at h4
            cases h4
            exact hl
          · exact b j k2 h2 (by omega) h4
        | false =>
          refine ⟨m, Nat.lt_succ_self _, fun j k2 h2 h3 h4 => ?_, fun j k2 h2 h3 h4 => by omega⟩
          cases h5 : ltK key k2.k with
          | false => rfl
          | true =>
            by_cases e : j = m
            · subst e
              rw [hk] at h4
              cases h4
              rw [hl] at h5
              cases h5
            · have hjm := asc_get hA (i := j) (j := m) (by omega) h4 hk
              rw [ltK_trans h5 hjm] at hl
              cases hl
  obtain ⟨i, hi, a, b⟩ := go ks.length (Nat.le_refl _) h1
  exact ⟨i, hi, a, fun k hk => b (i + 1) k (Nat.lt_succ_self _) (List.getElem?_eq_some_iff.mp hk).1 hk⟩
theorem PathP.ex {g : LG} (key : List Int) : ∀ {d : Nat} {p : Ent} {es : List Ent}, IsT g d p es → Asc es → ∃ ps lf, PathP g key d p ps lf
  | 0, _, _, h, _ => ⟨_, _, .leaf h⟩
  | d + 1, p, es, ⟨kids, h, q⟩, hA => by
    obtain ⟨i, hi⟩ := Below.ex key (q.asc hA) h.pos
    obtain ⟨k, b, part, a, hk, rfl, q1, q2, q3, q4, q5⟩ := step_down q hA hi
    rw [Asc.app, Asc.app] at hA
    obtain ⟨ps, lf, r⟩ := PathP.ex key q2 hA.1.2.1
    exact ⟨_, _, .inner h hi hk r⟩
def Hurt (g g' : LG) (bad : Option Nat) : Prop := ∀ kd ad ln ns, NodeAt g kd ad ln ns → (bad ≠ some ad → NodeR g' kd ad ln ns) ∧ (bad = some ad → Broken g' ad ln ∧ ad < 1000000000 ∧ ln < 1000000000)
theorem Hurt.none (g : LG) : Hurt g g none := fun kd ad ln ns h => ⟨fun _ => h.toNodeR, fun e => by cases e⟩
def sp_waytoX (K : PySem.W.Frag) (CL CD C : Addr) : Sp := fun vs H Q E => ∃ (p t tk : Addr) (g g' : LG) (bad : Option Nat) (d : Nat) (r : Ent) (nd es : List Ent) (key : List Int) (ps : List (Nat × Nat)) (lf : List Ent), vs = [.ref p, .ref t, .ref tk] ∧ LogAt CL CD H p g' ∧ SqT K H t (([(r.ad : Int), (r.ln : Int)] : List Int).map V.int) ∧ SqT K H tk (key.map V.int) ∧
  g'.fs.length ≤ 1000000 ∧ g'.ws.length ≤ 1000000 ∧ Cur g d r nd es ∧ Asc es ∧ d ≤ 1000 ∧ Hurt g g' bad ∧ PathP g key d r ps lf ∧
  (∀ q ∈ ps, bad = some q.1 → RetE H E C [("length", .int q.2), ("address", .int q.1)]) ∧
  ((∀ q ∈ ps, bad ≠ some q.1) → ∀ H' x wl pl vs us way B A, Same H H' → H x = none → H wl = none → H' x = some (.tup [.ref wl, .ref pl]) → H' wl = some (.lst vs) → WayV K H' vs way → H' pl = some (.lst us) → EntsV K H' us lf → WayT g d r way lf B A → firstOf way lf = nd → es = B ++ lf ++ A →
    (∀ e ∈ B, ltK e.k key = true) → (∀ e ∈ A, ltK key e.k = true) → Q (.ref x) H')
theorem d_waytoX {C_TesseraError C_Unreadable C_Damaged CL CD : Addr} (T : Top K mg) (R : Errs K mg C_TesseraError C_Unreadable C_Damaged) (E_Unreadable : EDef P w K mg base C_Unreadable "Unreadable" ["self", "index"] (sp_i1 C_Unreadable "index")) (EH_Unreadable : EDefH P w K mg base C_Unreadable "Unreadable" ["self", "index"] (sp_i1 C_Unreadable "index"))
    (E_Damaged : EDef P w K mg base C_Damaged "Damaged" ["self", "address", "length"] (sp_i2 C_Damaged "address" "length")) (EH_Damaged : EDefH P w K mg base C_Damaged "Damaged" ["self", "address", "length"] (sp_i2 C_Damaged "address" "length")) (C_Log : Cl_Log K mg CL) (C_Disk : Cl_Disk K mg CD) : Def P w K mg base (L2.CX P w) 15 "way_to" ["log", "root", "key"] (sp_waytoX K CL CD C_Damaged) := by
  have G_read_node : Def P w K mg base (L2.CX P w) 13 "read_node" ["log", "pointer"] (sp_rnodeX K CL CD C_Damaged) := d_rnodeX T R E_Unreadable EH_Unreadable E_Damaged EH_Damaged C_Log C_Disk
  have G_place_below : Def P w K mg base CX0 1 "place_below" ["pairs", "key"] (sp_place K) := d_place T
  obtain ⟨t2, g_INNER⟩ := T.g_INNER
  refine T.f_way_to.okX sc_way_to (by rintro vs H Q E ⟨p, t, tk, g, g', bad, d, r, nd, es, key, ps, lf, rfl, _⟩; rfl) (fun f cdv A outer s H vs Q E hr h => ?_)
  obtain ⟨p, t, tk, g, g', bad, d, r, nd0, es, key, ps0, lf0, rfl, hL, hT, hK, hfz, hwz, hcur0, hA, hd, hu, hp0, qe, q⟩ := h
  have hI := Cur.isT hcur0
  have hnd0 := Cur.node hcur0
  refine ⟨_, (pss_cons (ps_set (i := 3) sc_way_to.nd rfl (Or.inl rfl) (pe_lst pa_nil))
      (pss_cons (ps_asg (pe_callX G_read_node (L2.takes_of rfl rfl rfl rfl) (hr.mono (by decide)) (pa_cons (pv 0) (pa_cons (pv 1) pa_nil))) (pg_tup (n := 2) rfl (pgs_cons (pg_name (i := 4) sc_way_to.nd rfl (Or.inl rfl)) (pgs_cons (pg_name (i := 5) sc_way_to.nd rfl (Or.inl rfl)) pgs_nil))))
      (pss_cons (ps_while (passes_of rfl) (pt_cmpR op_eq (pv 4) (pe_glob (v := .int 2) rfl g_INNER ⟨_, rfl⟩) (nomark _)) (pss_cons (ps_set (i := 6) sc_way_to.nd rfl (Or.inl rfl) (pe_callD G_place_below (hr.mono (by decide)) (pa_cons (pv 5) (pa_cons (pv 2) pa_nil))))
      (pss_cons (ps_expr (pe_bm PySem.F.plainAttrs_list PySem.F.slot_list_append PySem.F.type_list_append mt_append (pv 3) (pa_cons (pe_tup (pa_cons (pv 5) (pa_cons (pv 6) pa_nil))) pa_nil)))
      (pss_one (ps_asg (pe_callX G_read_node (L2.takes_of rfl rfl rfl rfl) (hr.mono (by decide)) (pa_cons (pv 0) (pa_cons (pe_ix (r := rIxT K) ix_tup (pe_ix (r := rIxL K) ix_list (pv 5) (pv 6) (fun _ _ => rfl)) pe_int (fun _ _ => rfl)) pa_nil))) (pg_tup (n := 2) rfl (pgs_cons (pg_name (i := 4) sc_way_to.nd rfl (Or.inl rfl)) (pgs_cons (pg_name (i := 5) sc_way_to.nd rfl (Or.inl rfl)) pgs_nil))))))))
      (pss_one (ps_ret (pe_tup (pa_cons (pv 3) (pa_cons (pv 5) pa_nil)))))))), ?_⟩
  walk_at "rd"
  refine r_newL (Own.nil H) (Nat.zero_le _) fun wl H1 o1 => ?_
  walk_at "rd"
  have hwl : H wl = none := o1.fresh 0 rfl
  have hhd : ∀ {m : Nat} {k : Ent} {ps : List (Nat × Nat)} {lf : List Ent}, PathP g key m k ps lf → (k.ad, k.ln) ∈ ps := fun h => by cases h <;> exact List.mem_cons_self
  refine ⟨p, t, g', r.ad, r.ln, rfl, LogAt.up hL o1.ex, o1.oldT hT, hfz, hwz, ?_⟩
  by_cases hb0 : bad = some r.ad
  · obtain ⟨h1, h2, h3⟩ := (hu _ _ _ _ hnd0).2 hb0
    exact .inr ⟨h1, h2, h3, My.RetE.up (qe _ (hhd hp0) hb0) o1⟩
  refine .inl ⟨decide (d = 0), nd0, (hu _ _ _ _ hnd0).1 hb0, fun H2 x pl us s2 hx hpl hne hx2 hpl2 hE => ?_⟩
  have o2 := o1.add2 s2 hx hpl hne hx2 hpl2
  walk_at "rd"
  have z2 := o2.at 2 rfl
  have ob := take_l z2
  refine whileB (fun m σ' H' => ∃ (Bs : Hp) (vs : List V) (way : List (List Ent × Nat)) (pl : Addr) (us : List V) (nd : List Ent) (k : Ent) (part B0 A0 : List Ent) (v6 : Option V) (ps : List (Nat × Nat)),
    σ' = [some (.ref p), some (.ref t), some (.ref tk), some (.ref wl), some (.int (kdI (decide (m = 0)))), some (.ref pl), v6] ∧ Own Bs H' [(wl, .lst vs)] ∧ Same H Bs ∧ WayV K Bs vs way ∧ Bs pl = some (.lst us) ∧ EntsV K Bs us nd ∧ Cur g m k nd part ∧ IsT g m k part ∧
    (∀ w lf b1 a1, WayT g m k w lf b1 a1 → WayT g d r (way ++ w) lf (B0 ++ b1) (a1 ++ A0)) ∧ es = B0 ++ part ++ A0 ∧ (∀ e ∈ B0, ltK e.k key = true) ∧ (∀ e ∈ A0, ltK key e.k = true) ∧ way.length + m = d ∧ firstOf way nd = nd0 ∧ PathP g key m k ps lf0 ∧ (∀ q ∈ ps, q ∈ ps0) ∧ (∀ q ∈ ps0, q ∈ ps ∨ bad ≠ some q.1) ∧ bad ≠ some k.ad) d
    ⟨delH H2 wl, [], [], pl, us, nd0, r, es, [], [], none, ps0, rfl, ob, own_same (B := H) (u := .lst []) ⟨o1.ex, o1.fr, o1.nd⟩ s2, trivial, (delH_ne (Ne.symm (o2.ne (i := 2) (j := 1) rfl rfl (by decide)))).trans hpl2, ?_, hcur0, hI, fun w lf b1 a1 h => (by rw [List.append_nil]; exact h), by rw [List.append_nil]; rfl, (fun e he => by cases he), (fun e he => by cases he), Nat.zero_add _, rfl, hp0, fun q hq => hq, fun q hq => .inl hq, hb0⟩ ?_
  · exact TpAll.up hE (stp_del z2)
  rintro m σ' H' ⟨Bs, vs, way, pl, us, nd, k, part, B0, A0, v6, ps, rfl, o, sB, hW, hpB, hEB, hC, hIk, hcl, hes, hB0, hA0, hwm, hfo, hpp, hps1, hps2, hbk⟩
  walk_at "rd"
  have zw := o.at 0 rfl
  have hpH := o.ex _ _ hpB
  have hul := hEB.len
  refine rif (fun h1 => ?_) fun h1 => ?_
  · obtain ⟨m, rfl⟩ : ∃ m2, m = m2 + 1 := by
      cases m with
      | zero => exact absurd h1 (by decide)
      | succ m => exact ⟨m, rfl⟩
    obtain ⟨hN, hKd⟩ := hC
    refine wh_turn ?_
    walk_at "rd"
    refine ⟨pl, tk, us, nd, key, rfl, SqL.of hpH, TpAll.up hEB (Stp.of o.ex), (Stp.of (sB.trans o.ex)).sq hK, hN.pos, by have := hN.le; omega, fun i hbl => ?_⟩
    have hAp : Asc part := by
      rw [hes, Asc.app, Asc.app] at hA
      exact hA.1.2.1
    obtain ⟨k2, b, part2, a, hk2, rfl, q1, q2, q3, q4, q5⟩ := step_down hKd hAp hbl
    obtain ⟨ps2, rfl, hpp2⟩ : ∃ ps2, ps = (k.ad, k.ln) :: ps2 ∧ PathP g key m k2 ps2 lf0 := by
      cases hpp with
      | inner h hb hk r2 =>
        rename_i kids2 ps2
        have e : kids2 = nd := nodeAt_uniq h hN
        subst e
        have e := hb.uniq hbl
        subst e
        rw [hk2] at hk
        cases hk
        exact ⟨_, rfl, r2⟩
    walk_at "rd"
    refine r_newTs (K := K) o (Nat.le_of_ble_eq_true rfl) fun t3 H3 s3 o3 h3 => ?_
    have hvl := hW.len
    walk_at "rd"
    refine r_apps o3 0 rfl (by omega) fun H4 s4 o4 => ?_
    have o4 : Own Bs H4 [(wl, .lst (vs ++ [.ref t3]))] := o4
    obtain ⟨v, hv⟩ : ∃ v, us[i]? = some v := ⟨_, List.getElem?_eq_getElem (by have := hbl.lt; omega)⟩
    obtain ⟨k3, hk3, tK⟩ := (show EntsV K H4 us nd from TpAll.up hEB (Stp.of o4.ex)).get hv
    rw [hk2] at hk3
    cases hk3
    obtain ⟨te, tk2, tp2, rfl, e1, e2, e3⟩ := entV tK
    walk_at "rd"
    refine r_ixL (o4.old (SqL.of hpB)) (atI_nat hv) ?_
    walk_at "rd"
    refine r_ixT e1 (v := .ref tp2) rfl ?_
    walk_at "rd"
    obtain ⟨nd2, hnd2, hcur2⟩ := IsT.cur q2
    refine ⟨p, tp2, g', k2.ad, k2.ln, rfl, LogAt.up hL (sB.trans o4.ex), e3, hfz, hwz, ?_⟩
    by_cases hb2 : bad = some k2.ad
    · obtain ⟨h1, h2, h3⟩ := (hu _ _ _ _ hnd2).2 hb2
      exact .inr ⟨h1, h2, h3, fun H7 d7 s7 hd hx => qe _ (hps1 _ (List.mem_cons_of_mem _ (hhd hpp2))) hb2 H7 d7 ((sB.trans o4.ex).trans s7) ((sB.trans o4.ex).free hd) hx⟩
    refine .inl ⟨decide (m = 0), nd2, (hu _ _ _ _ hnd2).1 hb2, fun H5 x5 pl5 us5 s5 hx5 hpl5 hne5 hx52 hpl52 hE5 => ?_⟩
    have o5 := o4.add2 s5 hx5 hpl5 hne5 hx52 hpl52
    walk_at "rd"
    have z5 := o5.at 2 rfl
    have sBs := own_same o4 s5
    refine ⟨m, Nat.lt_succ_self m, delH H5 wl, vs ++ [.ref t3], way ++ [(nd, i)], pl5, us5, nd2, k2, part2, B0 ++ b, a ++ A0, _, ps2, rfl, take_l z5, sB.trans sBs, ?_, (delH_ne (Ne.symm (o5.ne (i := 2) (j := 1) rfl rfl (by decide)))).trans hpl52, TpAll.up hE5 (stp_del z5), hcur2, q2, fun w lf b1 a1 hw => ?_, ?_, fun e he => ?_, fun e he => ?_, ?_, (firstOf_snoc _ _ _ _).trans hfo, hpp2, fun q hq => hps1 q (List.mem_cons_of_mem _ hq), fun q hq => ?_, hb2⟩
    · refine WayV.snoc (p := (nd, i)) ⟨t3, pl, us, rfl, ((s4.trans (Stp.of s5)).trans (stp_del z5)).sq h3, sBs _ _ hpB, TpAll.up hEB (Stp.of sBs)⟩ (WayV.same sBs hW)
    · have := hcl _ _ _ _ (WayT.inner hN hk2 q1 q3 hw)
      simp only [List.append_assoc, List.cons_append, List.nil_append] at this ⊢
      exact this
    · rw [hes]
      simp only [List.append_assoc]
    · rcases List.mem_append.mp he with he | he
      · exact hB0 e he
      · exact q4 e he
    · rcases List.mem_append.mp he with he | he
      · exact q5 e he
      · exact hA0 e he
    · rw [List.length_append, List.length_singleton]
      omega
    · rcases hps2 q hq with h | h
      · rcases List.mem_cons.mp h with rfl | h
        · exact .inr hbk
        · exact .inl h
      · exact .inr h
  · walk_at "rd"
    obtain rfl : m = 0 := by
      cases m with
      | zero => rfl
      | succ m => exact absurd rfl h1
    obtain ⟨hN, rfl⟩ := hC
    have hpe : ps = [(k.ad, k.ln)] ∧ lf0 = nd := by
      cases hpp with
      | leaf h => exact ⟨rfl, nodeAt_uniq h hN⟩
    obtain ⟨rfl, rfl⟩ := hpe
    refine r_newTb o (Nat.le_of_ble_eq_true rfl) fun x H1 s1 o1 => ?_
    have := hcl _ _ _ _ (WayT.leaf hN)
    rw [List.append_nil, List.append_nil, List.nil_append] at this
    refine q (fun q hq => ?_) H1 x wl pl vs us way B0 A0 (sB.trans o1.ex) (sB.free (o1.fresh 0 rfl)) (sB.free (o1.fresh 1 rfl)) (o1.at 0 rfl) (o1.at 1 rfl) (WayV.same o1.ex hW) (o1.ex _ _ hpB) (TpAll.up hEB (Stp.of o1.ex)) this hfo hes hB0 hA0
    rcases hps2 q hq with h | h
    · rw [List.mem_singleton.mp h]
      exact hbk
    · exact h
theorem d_wayto {C_TesseraError C_Unreadable C_Damaged CL CD : Addr} (T : Top K mg) (R : Errs K mg C_TesseraError C_Unreadable C_Damaged) (E_Unreadable : EDef P w K mg base C_Unreadable "Unreadable" ["self", "index"] (sp_i1 C_Unreadable "index")) (EH_Unreadable : EDefH P w K mg base C_Unreadable "Unreadable" ["self", "index"] (sp_i1 C_Unreadable "index"))
    (E_Damaged : EDef P w K mg base C_Damaged "Damaged" ["self", "address", "length"] (sp_i2 C_Damaged "address" "length")) (EH_Damaged : EDefH P w K mg base C_Damaged "Damaged" ["self", "address", "length"] (sp_i2 C_Damaged "address" "length")) (C_Log : Cl_Log K mg CL) (C_Disk : Cl_Disk K mg CD) : Def P w K mg base CX0 15 "way_to" ["log", "root", "key"] (sp_wayto K CL CD) := by
  refine (d_waytoX T R E_Unreadable EH_Unreadable E_Damaged EH_Damaged C_Log C_Disk).toZ.imp ?_
  rintro vs H Q E ⟨p, t, tk, g, d, r, nd, es, key, e, hL, hT, hK, hf, hw, hC, hA, hd, q⟩
  obtain ⟨ps, lf, hp⟩ := PathP.ex key hC.isT hA
  exact ⟨p, t, tk, g, g, none, d, r, nd, es, key, ps, lf, e, hL, hT, hK, hf, hw, hC, hA, hd, Hurt.none g, hp, fun q _ h => (by cases h), fun _ H' x wl pl vs us way B A => q H' x wl pl vs us way lf B A⟩
end

/-! ### what a tree becomes -/
theorem insE_mid {B lf A : List Ent} {e : Ent} (hB : ∀ x ∈ B, ltK x.k e.k = true) (hA : ∀ x ∈ A, ltK e.k x.k = true) : insE e (B ++ lf ++ A) = B ++ insE e lf ++ A := by
  have b1 : B.filter (fun x => ltK x.k e.k) = B := List.filter_eq_self.mpr hB
  have a1 : A.filter (fun x => ltK e.k x.k) = A := List.filter_eq_self.mpr hA
  have b2 : B.filter (fun x => ltK e.k x.k) = [] := List.filter_eq_nil_iff.mpr fun x hx h => by rw [ltK_asym (hB x hx)] at h; cases h
  have a2 : A.filter (fun x => ltK x.k e.k) = [] := List.filter_eq_nil_iff.mpr fun x hx h => by rw [ltK_asym (hA x hx)] at h; cases h
  unfold insE
  rw [List.filter_append, List.filter_append, List.filter_append, List.filter_append, b1, a1, b2, a2]
  simp only [List.append_assoc, List.nil_append, List.append_nil]
theorem Asc.filter {p : Ent → Bool} : ∀ {es : List Ent}, Asc es → Asc (es.filter p)
  | [], _ => trivial
  | e :: es, ⟨h1, h2⟩ => by
    rw [List.filter_cons]
    split
    · exact ⟨fun x hx => h1 x (List.mem_filter.mp hx).1, Asc.filter h2⟩
    · exact Asc.filter h2
theorem Asc.ins {es : List Ent} (h : Asc es) (e : Ent) : Asc (insE e es) := by
  unfold insE
  rw [Asc.app, Asc.app]
  refine ⟨⟨h.filter, ⟨fun x hx => (by cases hx), trivial⟩, fun a ha b hb => ?_⟩, h.filter, fun a ha b hb => ?_⟩
  · rw [List.mem_singleton.mp hb]
    exact (List.mem_filter.mp ha).2
  · have hb2 := (List.mem_filter.mp hb).2
    rcases List.mem_append.mp ha with ha | ha
    · exact ltK_trans (List.mem_filter.mp ha).2 hb2
    · rw [List.mem_singleton.mp ha]
      exact hb2
theorem ins_len : ∀ {es : List Ent} (e : Ent), (insE e es).length ≤ es.length + 1 := by
  intro es e
  have go : ∀ es : List Ent, (es.filter fun x => ltK x.k e.k).length + (es.filter fun x => ltK e.k x.k).length ≤ es.length := by
    intro es
    induction es with
    | nil => exact Nat.le_refl _
    | cons x xs ih =>
      rw [List.filter_cons, List.filter_cons, List.length_cons]
      cases h1 : ltK x.k e.k with
      | true =>
        rw [ltK_asym h1, if_pos rfl, if_neg Bool.false_ne_true, List.length_cons]
        omega
      | false =>
        rw [if_neg Bool.false_ne_true]
        split
        · rw [List.length_cons]; omega
        · omega
  have := go es
  unfold insE
  rw [List.length_append, List.length_append, List.length_singleton]
  omega
theorem ins_ok {es : List Ent} {e : Ent} (h : ∀ x ∈ es, EntOk x) (he : EntOk e) : ∀ x ∈ insE e es, EntOk x := by
  intro x hx
  unfold insE at hx
  rcases List.mem_append.mp hx with hx | hx
  · rcases List.mem_append.mp hx with hx | hx
    · exact h x (List.mem_filter.mp hx).1
    · rw [List.mem_singleton.mp hx]; exact he
  · exact h x (List.mem_filter.mp hx).1
theorem ins_ne (es : List Ent) (e : Ent) : insE e es ≠ [] := fun h => by
  have := congrArg List.length h
  unfold insE at this
  rw [List.length_append, List.length_append, List.length_singleton, List.length_nil] at this
  omega
def LG.end_ (g : LG) : Nat := g.fs.length + g.ws.length
theorem LG.put_put (g : LG) (a b : List Int) : (g.put a).put b = g.put (a ++ b) := by
  unfold LG.put
  dsimp only
  rw [List.append_assoc]
theorem LG.put_nil (g : LG) : g.put [] = g := by
  unfold LG.put
  rw [List.append_nil]
theorem LG.end_put (g : LG) (a : List Int) : (g.put a).end_ = g.end_ + a.length := by
  unfold LG.put LG.end_
  dsimp only
  rw [List.length_append, Nat.add_assoc]
def GoodP (p : List Ent) : Prop := 1 ≤ p.length ∧ p.length ≤ 8 ∧ ∀ e ∈ p, EntOk e
theorem made_nodes (kd : Int) (hkd : 0 ≤ kd ∧ kd < 250) : ∀ (ps : List (List Ent)) (g : LG), Al g → (∀ p ∈ ps, Nk kd p) → (∀ p ∈ ps, GoodP p) → ∀ (i : Nat) (p : List Ent) (m : Ent), ps[i]? = some p → (madeOf g.end_ ps)[i]? = some m → NodeAt (g.put (wrAll kd ps)) kd m.ad m.ln p ∧ m.k = headK p
  | [], _, _, _, _, _, _, _, h, _ => by cases h
  | q :: ps, g, ha, hk, hg, i, p, m, h1, h2 => by
    obtain ⟨g1, g2, g3⟩ := hg q List.mem_cons_self
    have e : g.put (wrAll kd (q :: ps)) = (g.put (recD kd (nodeB q))).put (wrAll kd ps) := (LG.put_put g _ _).symm
    cases i with
    | zero =>
      cases h1
      cases h2
      exact ⟨NodeAt.new g (wrAll kd ps) g1 g2 g3 ha (hk q List.mem_cons_self), rfl⟩
    | succ i =>
      have h2 : (madeOf (g.end_ + ((nodeB q).length + 3)) ps)[i]? = some m := h2
      rw [← recD_len kd (nodeB q), ← LG.end_put] at h2
      rw [e]
      exact made_nodes kd hkd ps _ (ha.rec kd q hkd) (fun x hx => hk x (List.mem_cons_of_mem _ hx)) (fun x hx => hg x (List.mem_cons_of_mem _ hx)) i p m h1 h2
theorem headK_eq {p : List Ent} (h : 1 ≤ p.length) : p.head?.map (·.k) = some (headK p) := by
  cases p with
  | nil => cases h
  | cons e es => rfl
theorem KidsR.head {R : Ent → List Ent → Prop} {k : Ent} {ks es : List Ent} (h : KidsR R (k :: ks) es) : es.head?.map (·.k) = some k.k := by
  obtain ⟨part, rest, rfl, r, hd, q⟩ := h
  cases part with
  | nil => cases hd
  | cons x xs => exact hd
theorem KidsR.cut {R : Ent → List Ent → Prop} : ∀ {ks es : List Ent} (n : Nat), KidsR R ks es → ∃ a b, es = a ++ b ∧ KidsR R (ks.take n) a ∧ KidsR R (ks.drop n) b
  | ks, es, 0, h => ⟨[], es, rfl, rfl, h⟩
  | [], es, n + 1, h => ⟨[], es, rfl, rfl, h⟩
  | k :: ks, es, n + 1, ⟨part, rest, e, r, hd, q⟩ => by
    obtain ⟨a, b, e2, q1, q2⟩ := KidsR.cut n q
    exact ⟨part ++ a, b, by rw [e, e2, List.append_assoc], ⟨part, a, rfl, r, hd, q1⟩, q2⟩
/-- the nodes that put_nodes made, level d, for a list that stood with cnt entries before -/
def MadeC (g : LG) (d : Nat) (ms mid : List Ent) (cnt : Nat) : Prop :=
  KidsR (IsT g d) ms mid ∧ (∀ m ∈ ms, EntOk m) ∧ ((∃ m nd, ms = [m] ∧ Cur g d m nd mid ∧ nd.length ≤ cnt + 1) ∨ (ms.length = 2 ∧ 8 ≤ cnt))
theorem made_ok {g : LG} {ps : List (List Ent)} {kd : Int} (hg : ∀ p ∈ ps, GoodP p) (hl : ps.length ≤ 2) (hz : g.end_ ≤ 1900000) : ∀ m ∈ madeOf g.end_ ps, EntOk m := by
  intro m hm
  obtain ⟨i, hi, e⟩ := List.getElem_of_mem hm
  have hi2 : i < ps.length := by rw [madeOf_len] at hi; exact hi
  have h := madeOf_get 1 ps g.end_ i _ (List.getElem?_eq_getElem hi2)
  rw [List.getElem?_eq_getElem hi, e] at h
  have h := Option.some.inj h
  obtain ⟨g1, g2, g3⟩ := hg _ (List.getElem_mem hi2)
  have hw := wrAll_len (kd := 1) (ps := ps.take i) fun q hq => ⟨(hg q (List.mem_of_mem_take hq)).2.2, by have := (hg q (List.mem_of_mem_take hq)).2.1; omega⟩
  have ht : (ps.take i).length ≤ 2 := by rw [List.length_take]; omega
  have hn := node_len g3 (by omega)
  rw [h]
  refine ⟨?_, by show g.end_ + _ < _; omega, by show (nodeB ps[i]).length + 3 < _; omega⟩
  show KeyOk (headK ps[i])
  revert g3 g1
  generalize ps[i] = q
  intro g1 g3
  cases q with
  | nil => cases g1
  | cons x xs => exact (g3 x List.mem_cons_self).k
theorem parts_good {es : List Ent} (h1 : es ≠ []) (h9 : es.length ≤ 9) (hok : ∀ e ∈ es, EntOk e) : (∀ p ∈ partsOf es, GoodP p) ∧ (partsOf es).length ≤ 2 := by
  have hpos : 0 < es.length := by cases es with
    | nil => exact absurd rfl h1
    | cons e es => exact Nat.succ_pos _
  unfold partsOf
  rw [if_neg h1]
  split
  · refine ⟨fun p hp => ?_, Nat.le_refl _⟩
    rcases List.mem_cons.mp hp with rfl | hp
    · exact ⟨by rw [List.length_take]; omega, by rw [List.length_take]; omega, fun e he => hok e (List.mem_of_mem_take he)⟩
    · rw [List.mem_singleton.mp hp]
      exact ⟨by rw [List.length_drop]; omega, by rw [List.length_drop]; omega, fun e he => hok e (List.mem_of_mem_drop he)⟩
  · exact ⟨fun p hp => by rw [List.mem_singleton.mp hp]; exact ⟨hpos, by omega, hok⟩, Nat.le_succ _⟩
theorem Al.wr (kd : Int) (hkd : 0 ≤ kd ∧ kd < 250) : ∀ (ps : List (List Ent)) {g : LG}, Al g → Al (g.put (wrAll kd ps))
  | [], g, h => by
    show Al (g.put [])
    rw [LG.put_nil]
    exact h
  | q :: ps, g, h => by
    have e : g.put (wrAll kd (q :: ps)) = (g.put (recD kd (nodeB q))).put (wrAll kd ps) := (LG.put_put g _ _).symm
    rw [e]
    exact Al.wr kd hkd ps (h.rec kd q hkd)
theorem nk_parts {es : List Ent} (h : Nk 2 es) : ∀ p ∈ partsOf es, Nk 2 p := by
  intro p hp
  unfold partsOf at hp
  split at hp
  · cases hp
  · split at hp
    · rcases List.mem_cons.mp hp with rfl | hp
      · exact nk_of (by rw [List.length_take]; omega)
      · rw [List.mem_singleton.mp hp]
        exact nk_of (by rw [List.length_drop]; omega)
    · rw [List.mem_singleton.mp hp]
      exact h
theorem made_leaf {g : LG} {es : List Ent} {cnt : Nat} (h1 : es ≠ []) (h9 : es.length ≤ 9) (hc : es.length ≤ cnt + 1) (hok : ∀ e ∈ es, EntOk e) (hz : g.end_ ≤ 1900000) (ha : Al g) : MadeC (g.put (wrAll 1 (partsOf es))) 0 (madeOf g.end_ (partsOf es)) es cnt := by
  obtain ⟨hg, hl⟩ := parts_good h1 h9 hok
  refine ⟨?_, made_ok (kd := 1) hg hl hz, ?_⟩
  · have hn := made_nodes 1 ⟨by decide, by decide⟩ (partsOf es) g ha (fun p _ => nk1 p) hg
    revert hn hg
    unfold partsOf
    rw [if_neg h1]
    split
    · intro hg hn
      obtain ⟨n1, k1⟩ := hn 0 _ _ rfl rfl
      obtain ⟨n2, k2⟩ := hn 1 _ _ rfl rfl
      refine ⟨es.take 5, es.drop 5, (List.take_append_drop 5 es).symm, n1, ?_, es.drop 5, [], (List.append_nil _).symm, n2, ?_, rfl⟩
      · exact headK_eq (hg _ List.mem_cons_self).1
      · exact headK_eq (hg _ (List.mem_cons_of_mem _ List.mem_cons_self)).1
    · intro hg hn
      obtain ⟨n1, k1⟩ := hn 0 _ _ rfl rfl
      exact ⟨es, [], (List.append_nil _).symm, n1, headK_eq (hg _ List.mem_cons_self).1, rfl⟩
  · have hn := made_nodes 1 ⟨by decide, by decide⟩ (partsOf es) g ha (fun p _ => nk1 p) hg
    revert hn
    unfold partsOf
    rw [if_neg h1]
    split
    · intro hn
      exact .inr ⟨rfl, by omega⟩
    · intro hn
      obtain ⟨n1, k1⟩ := hn 0 _ _ rfl rfl
      exact .inl ⟨_, es, rfl, ⟨n1, rfl⟩, hc⟩
theorem made_inner {g : LG} {d : Nat} {ks es : List Ent} {cnt : Nat} (h1 : ks ≠ []) (h9 : ks.length ≤ 9) (hc : ks.length ≤ cnt + 1) (hok : ∀ e ∈ ks, EntOk e) (hz : g.end_ ≤ 1900000) (hK : KidsR (IsT g d) ks es) (ha : Al g) (hnk : Nk 2 ks) : MadeC (g.put (wrAll 2 (partsOf ks))) (d + 1) (madeOf g.end_ (partsOf ks)) es cnt := by
  obtain ⟨hg, hl⟩ := parts_good h1 h9 hok
  have hK2 : KidsR (IsT (g.put (wrAll 2 (partsOf ks))) d) ks es := hK.imp fun _ _ r => IsT.put _ d r
  refine ⟨?_, made_ok (kd := 2) hg hl hz, ?_⟩
  · have hn := made_nodes 2 ⟨by decide, by decide⟩ (partsOf ks) g ha (nk_parts hnk) hg
    revert hn hg hK2
    unfold partsOf
    rw [if_neg h1]
    split
    · intro hg hK2 hn
      obtain ⟨n1, k1⟩ := hn 0 _ _ rfl rfl
      obtain ⟨n2, k2⟩ := hn 1 _ _ rfl rfl
      obtain ⟨a, b, rfl, q1, q2⟩ := hK2.cut 5
      refine ⟨a, b, rfl, ⟨ks.take 5, n1, q1⟩, ?_, b, [], (List.append_nil _).symm, ⟨ks.drop 5, n2, q2⟩, ?_, rfl⟩
      · have h0 := (hg _ List.mem_cons_self).1
        revert q1 h0
        show _ → _ → _ = some (headK (ks.take 5))
        generalize ks.take 5 = xs
        intro q1 h0
        cases xs with
        | nil => cases h0
        | cons x xs => exact q1.head
      · have h0 := (hg _ (List.mem_cons_of_mem _ List.mem_cons_self)).1
        revert q2 h0
        show _ → _ → _ = some (headK (ks.drop 5))
        generalize ks.drop 5 = xs
        intro q1 h0
        cases xs with
        | nil => cases h0
        | cons x xs => exact q1.head
    · intro hg hK2 hn
      obtain ⟨n1, k1⟩ := hn 0 _ _ rfl rfl
      refine ⟨es, [], (List.append_nil _).symm, ⟨ks, n1, hK2⟩, ?_, rfl⟩
      cases ks with
      | nil => exact absurd rfl h1
      | cons x xs => exact hK2.head
  · have hn := made_nodes 2 ⟨by decide, by decide⟩ (partsOf ks) g ha (nk_parts hnk) hg
    revert hn hK2
    unfold partsOf
    rw [if_neg h1]
    split
    · intro _ hn
      exact .inr ⟨rfl, by omega⟩
    · intro hK2 hn
      obtain ⟨n1, k1⟩ := hn 0 _ _ rfl rfl
      exact .inl ⟨_, ks, rfl, ⟨n1, hK2⟩, hc⟩
/-- the levels above, from below -/
def UpT (g : LG) : List (List Ent × Nat) → Nat → List Ent → List Ent → Prop
  | [], _, B, A => B = [] ∧ A = []
  | (kids, i) :: up, j, B, A => ∃ B0 b a A0, B = B0 ++ b ∧ A = a ++ A0 ∧ i < kids.length ∧ kids.length ≤ 8 ∧ (∀ e ∈ kids, EntOk e) ∧ Nk 2 kids ∧ KidsR (IsT g j) (kids.take i) b ∧ KidsR (IsT g j) (kids.drop (i + 1)) a ∧ UpT g up (j + 1) B0 A0
theorem WayT.up {g : LG} {d : Nat} {r : Ent} {w : List (List Ent × Nat)} {lf B A : List Ent} (h : WayT g d r w lf B A) : ∀ {up : List (List Ent × Nat)} {B0 A0 : List Ent}, UpT g up d B0 A0 → UpT g (w.reverse ++ up) 0 (B0 ++ B) (A ++ A0) := by
  induction h with
  | leaf h =>
    intro up B0 A0 hu
    rw [List.append_nil]
    exact hu
  | inner h hk hb ha _ ih =>
    intro up B0 A0 hu
    rw [List.reverse_cons, List.append_assoc, List.append_assoc, ← List.append_assoc B0]
    exact ih ⟨B0, _, _, A0, rfl, rfl, (List.getElem?_eq_some_iff.mp hk).1, h.le, h.ok, h.bd.nk, hb, ha, hu⟩
theorem UpT.put {g : LG} (bs : List Int) : ∀ {up : List (List Ent × Nat)} {j : Nat} {B A : List Ent}, UpT g up j B A → UpT (g.put bs) up j B A
  | [], _, _, _, h => h
  | (_, _) :: _, _, _, _, ⟨B0, b, a, A0, e1, e2, h1, h2, h3, hk, h4, h5, h6⟩ => ⟨B0, b, a, A0, e1, e2, h1, h2, h3, hk, h4.imp fun _ _ r => IsT.put bs _ r, h5.imp fun _ _ r => IsT.put bs _ r, h6.put bs⟩
theorem WayT.leafAt {g : LG} {d : Nat} {r : Ent} {w : List (List Ent × Nat)} {lf B A : List Ent} (h : WayT g d r w lf B A) : (∃ ad ln, NodeAt g 1 ad ln lf) ∧ w.length = d := by
  induction h with
  | leaf h => exact ⟨⟨_, _, h⟩, rfl⟩
  | inner _ _ _ _ _ ih => exact ⟨ih.1, by rw [List.length_cons, ih.2]⟩

theorem r_iRA {K : PySem.W.Frag} {te : TE} {σ : L2.St} {H : Hp} {R : It → Hp → Prop} (q : te σ H fun v H1 => ∃ (a : Addr) (xs : List V), v = .ref a ∧ ((SqL K H1 a xs ∧ R (Itv K a xs.length) H1) ∨ (SqT K H1 a xs ∧ R (RT.ItvT K a xs.length) H1))) : RT.iRevA K te σ H R := q
section
variable {P : Program} {w : World} {K : PySem.W.Frag} {mg : Str → Option Value} {base : Heap}
/-! ### put -/
/-- the tree at a pointer: nowhere, or a root; x bounds its height -/
def Rt (g : LG) (ra rl : Nat) (es : List Ent) (x : Nat) : Prop := (ra = 0 ∧ rl = 0 ∧ es = [] ∧ 7 ≤ x) ∨ (3 ≤ rl ∧ ∃ d nd, Cur g d ⟨[], ra, rl⟩ nd es ∧ Asc es ∧ 7 * (d + 1) + nd.length ≤ x)
def ptrT (K : PySem.W.Frag) (H : Hp) (t : Addr) (a l : Nat) : Prop := SqT K H t (([(a : Int), (l : Int)] : List Int).map V.int)
def sp_put (K : PySem.W.Frag) (CL CD : Addr) : Sp := fun vs H Q _ => ∃ (p t tk tp : Addr) (g : LG) (ra rl : Nat) (es : List Ent) (e : Ent) (x : Nat), vs = [.ref p, .ref t, .ref tk, .ref tp] ∧ LogAt CL CD H p g ∧ ptrT K H t ra rl ∧ SqT K H tk (e.k.map V.int) ∧ ptrT K H tp e.ad e.ln ∧ EntOk e ∧ Rt g ra rl es x ∧ x ≤ 200 ∧ Al g ∧
  g.fs.length ≤ 800000 ∧ g.ws.length ≤ 800000 ∧
  ∀ H' u bs ra' rl', (∀ b v, b ≠ g.l → H b = some v → H' b = some v) → H' g.l = some (.lst ((g.ws ++ bs).map V.int)) → bs.length ≤ 8000 → ptrH H' u ra' rl' → Rt (g.put bs) ra' rl' (insE e es) (x + 1) → Al (g.put bs) → Q (.ref u) H'
def cntOf (way : List (List Ent × Nat)) (lf : List Ent) : Nat → Nat
  | 0 => lf.length
  | k + 1 => ((way.reverse[k]?).map (·.1.length)).getD 0
theorem cntOf_end (way : List (List Ent × Nat)) (lf : List Ent) : cntOf way lf way.length = (firstOf way lf).length := by
  cases way with
  | nil => rfl
  | cons p ps =>
    show (((p :: ps).reverse[ps.length]?).map (·.1.length)).getD 0 = p.1.length
    rw [List.reverse_cons, List.getElem?_append_right (by rw [List.length_reverse]; exact Nat.le_refl _), List.length_reverse, Nat.sub_self]
    rfl
theorem Cur.key {g : LG} : ∀ {d : Nat} {p : Ent} {nd es : List Ent}, Cur g d p nd es → Cur g d ⟨[], p.ad, p.ln⟩ nd es
  | 0, _, _, _, h => h
  | _ + 1, _, _, _, h => h
theorem EntsV.app {H : Hp} {us ws : List V} {es fs : List Ent} (h : EntsV K H us es) (h2 : EntsV K H ws fs) : EntsV K H (us ++ ws) (es ++ fs) := by
  unfold EntsV
  rw [List.map_append]
  exact TpAll.app h h2
theorem EntsV.take {H : Hp} {us : List V} {es : List Ent} (n : Nat) (h : EntsV K H us es) : EntsV K H (us.take n) (es.take n) := by
  unfold EntsV
  rw [List.map_take]
  exact TpAll.take n h
theorem EntsV.drop {H : Hp} {us : List V} {es : List Ent} (n : Nat) (h : EntsV K H us es) : EntsV K H (us.drop n) (es.drop n) := by
  unfold EntsV
  rw [List.map_drop]
  exact TpAll.drop n h
theorem EntsV.up {H H' : Hp} {us : List V} {es : List Ent} (h : EntsV K H us es) (s : Stp H H') : EntsV K H' us es := TpAll.up h s
theorem d_put {CL CD : Addr} (T : Top K mg) (G_way_to : Def P w K mg base CX0 15 "way_to" ["log", "root", "key"] (sp_wayto K CL CD)) (C_Log : Cl_Log K mg CL) (C_Disk : Cl_Disk K mg CD) : Def P w K mg base CX0 17 "put" ["log", "root", "key", "pointer"] (sp_put K CL CD) := by
  have Z_way_to := G_way_to
  have G_with_pair : Def P w K mg base CX0 1 "with_pair" ["pairs", "key", "pointer"] (sp_withp K) := d_withp T
  have G_put_nodes : Def P w K mg base CX0 7 "put_nodes" ["log", "kind", "pairs"] (sp_pnodes K CL CD) := d_pnodes T C_Log C_Disk
  obtain ⟨a_NOWHERE, g_NOWHERE, h_NOWHERE⟩ := T.g_NOWHERE
  obtain ⟨t1, g_LEAF⟩ := T.g_LEAF
  obtain ⟨t2, g_INNER⟩ := T.g_INNER
  refine T.f_put.ok sc_put (by rintro vs H Q E ⟨p, t, tk, tp, g, ra, rl, es, e, x, rfl, _⟩; rfl) (fun f cdv A outer s H vs Q E hr h => ?_)
  obtain ⟨p, t, tk, tp, g, ra, rl, es, e, x, rfl, hL, hT, hK, hP, hok, hRt, hx, hal, hfz, hwz, q⟩ := h
  refine ⟨_, (pss_cons (ps_if (pt_cmpR (r := rEqD K) (op_eqD hr.units) (pv 1) (pe_glob (v := .ref a_NOWHERE) rfl g_NOWHERE rfl) (nomark _)) (pss_one (ps_ret (pe_ix (r := rIxT K) ix_tup (pe_ix (r := rIxL K) ix_list (pe_callD G_put_nodes (hr.mono (by decide)) (pa_cons (pv 0) (pa_cons (pe_glob (v := .int 1) rfl g_LEAF ⟨_, rfl⟩) (pa_cons (pe_lst (pa_cons (pe_tup (pa_cons (pv 2) (pa_cons (pv 3) pa_nil))) pa_nil)) pa_nil)))) pe_int (fun _ _ => rfl)) pe_int (fun _ _ => rfl)))) pss_nil)
      (pss_cons (ps_asg (pe_callD Z_way_to (hr.mono (by decide)) (pa_cons (pv 0) (pa_cons (pv 1) (pa_cons (pv 2) pa_nil)))) (pg_tup (n := 2) rfl (pgs_cons (pg_name (i := 4) sc_put.nd rfl (Or.inl rfl)) (pgs_cons (pg_name (i := 5) sc_put.nd rfl (Or.inl rfl)) pgs_nil))))
      (pss_cons (ps_set (i := 6) sc_put.nd rfl (Or.inl rfl) (pe_callD G_put_nodes (hr.mono (by decide)) (pa_cons (pv 0) (pa_cons (pe_glob (v := .int 1) rfl g_LEAF ⟨_, rfl⟩) (pa_cons (pe_callD G_with_pair (hr.mono (by decide)) (pa_cons (pv 5) (pa_cons (pv 2) (pa_cons (pv 3) pa_nil)))) pa_nil)))))
      (pss_cons (ps_for PassesOwn.never rfl (RT.pi_revA (by rfl) T.b_reversed (pv 4)) (pg_tup (n := 2) rfl (pgs_cons (pg_name (i := 7) sc_put.nd rfl (Or.inl rfl)) (pgs_cons (pg_name (i := 8) sc_put.nd rfl (Or.inl rfl)) pgs_nil))) (pss_one (ps_set (i := 6) sc_put.nd rfl (Or.inl rfl) (pe_callD G_put_nodes (hr.mono (by decide)) (pa_cons (pv 0) (pa_cons (pe_glob (v := .int 2) rfl g_INNER ⟨_, rfl⟩) (pa_cons (pe_op op_cat (pe_op op_cat (pe_slice (r := rSlL K) sl_list (pv 7) po_none (po_some (pv 8))) (pv 6)) (pe_slice (r := rSlL K) sl_list (pv 7) (po_some (pe_op op_add (pv 8) pe_int)) po_none)) pa_nil)))))))
      (Evl.pss_cut (ps_if (pt_cmpR op_gt (pe_callB (r := Evl.rLenS K) call_len_seq (by rfl) T.b_len (by decide +kernel) (pa_cons (pv 6) pa_nil)) pe_int (nomark _)) (pss_one (ps_set (i := 6) sc_put.nd rfl (Or.inl rfl) (pe_callD G_put_nodes (hr.mono (by decide)) (pa_cons (pv 0) (pa_cons (pe_glob (v := .int 2) rfl g_INNER ⟨_, rfl⟩) (pa_cons (pv 6) pa_nil)))))) pss_nil)
      (pss_one (ps_ret (pe_ix (r := rIxT K) ix_tup (pe_ix (r := rIxL K) ix_list (pv 6) pe_int (fun _ _ => rfl)) pe_int (fun _ _ => rfl))))))))), ?_⟩
  walk_at "rd"
  refine r_eqTT hT (show SqT K H a_NOWHERE (([0, 0] : List Int).map V.int) from h_NOWHERE H) ?_
  walk_at "rd"
  refine rif (fun h0 => ?_) fun h0 => ?_
  · have hra : ra = 0 := by have := List.cons.inj h0; omega
    have hes : es = [] := by
      rcases hRt with ⟨_, _, h, _⟩ | ⟨h3, _⟩
      · exact h
      · have := List.cons.inj (List.cons.inj h0).2
        omega
    subst hes
    walk_at "rd"
    refine r_newTp (K := K) (ds := [.tuple (e.k.map PyData.int), .tuple (([(e.ad : Int), (e.ln : Int)] : List Int).map PyData.int)]) (Own.nil H) (.cons (Tp.intsT hK) (.cons (Tp.intsT hP) .nil)) (Nat.le_of_ble_eq_true rfl) fun t1 H1 s1 o1 t1v => ?_
    walk_at "rd"
    refine r_newLs o1 (Nat.le_of_ble_eq_true rfl) fun l2 H2 s2 o2 => ?_
    have hL2 := LogAt.up hL o2.ex
    have hE2 : EntsV K H2 [.ref t1] [e] := .cons (t1v.up s2) .nil
    walk_at "rd"
    refine ⟨p, l2, g, 1, [.ref t1], [e], rfl, hL2, o2.at 0 rfl, hE2, (fun y hy => by rw [List.mem_singleton.mp hy]; exact hok), by show 1 ≤ 9; omega, by omega, by omega, fun H3 l3 zs hf hl3 hg3 h3l hZ => ?_⟩
    obtain ⟨hK0, hmok, hm⟩ := made_leaf (g := g) (es := [e]) (cnt := 0) (List.cons_ne_nil _ _) (by show 1 ≤ 9; omega) (by show 1 ≤ 0 + 1; omega) (fun y hy => by rw [List.mem_singleton.mp hy]; exact hok) (by unfold LG.end_; omega) hal
    obtain ⟨m, nd, hm1, hC, hnd⟩ : ∃ m nd, madeOf g.end_ (partsOf [e]) = [m] ∧ Cur (g.put (wrAll 1 (partsOf [e]))) 0 m nd [e] ∧ nd.length ≤ 0 + 1 := by
      rcases hm with h | ⟨_, h⟩
      · exact h
      · omega
    have hZ : RowsP K H3 zs (madeOf g.end_ (partsOf [e])) := hZ
    rw [hm1] at hZ
    obtain ⟨v0, hv0⟩ : ∃ v, zs[0]? = some v := ⟨_, List.getElem?_eq_getElem (by rw [hZ.len]; exact Nat.succ_pos _)⟩
    obtain ⟨e1, he1, tE⟩ := All2.get 0 hZ hv0
    cases he1
    obtain ⟨te, tk2, tp2, rfl, f1, f2, f3⟩ := tE
    walk_at "rd"
    refine r_ixL (SqL.of h3l) (atI_nat (j := 0) hv0) ?_
    walk_at "rd"
    refine r_ixT (SqT.of f1) (v := .ref tp2) rfl ?_
    walk_at "rd"
    have hwl := wrAll_len (kd := 1) (ps := partsOf [e]) fun q hq => ⟨((parts_good (es := [e]) (List.cons_ne_nil _ _) (by show 1 ≤ 9; omega) (fun y hy => by rw [List.mem_singleton.mp hy]; exact hok)).1 q hq).2.2, by have := ((parts_good (es := [e]) (List.cons_ne_nil _ _) (by show 1 ≤ 9; omega) (fun y hy => by rw [List.mem_singleton.mp hy]; exact hok)).1 q hq).2.1; omega⟩
    refine q H3 tp2 (wrAll 1 (partsOf [e])) m.ad m.ln (fun b u hb h => hf b u hb (o2.ex _ _ h)) hg3 (Nat.le_trans hwl (show 1 * 130 ≤ 8000 by omega)) f3 (.inr ⟨?_, 0, nd, hC.key, ⟨fun y hy => (by cases hy), trivial⟩, ?_⟩) (hal.wr 1 ⟨by decide, by decide⟩ _)
    · rw [hC.node.ln_]
      omega
    · rcases hRt with ⟨_, _, _, h7⟩ | ⟨h3, _⟩
      · omega
      · have := List.cons.inj (List.cons.inj h0).2
        omega
  obtain ⟨h3, d, nd, hC, hAs, hxx⟩ : 3 ≤ rl ∧ ∃ d nd, Cur g d ⟨[], ra, rl⟩ nd es ∧ Asc es ∧ 7 * (d + 1) + nd.length ≤ x := by
    rcases hRt with ⟨rfl, rfl, _, _⟩ | h
    · exact absurd rfl h0
    · exact h
  walk_at "rd"
  refine ⟨p, t, tk, g, d, ⟨[], ra, rl⟩, nd, es, e.k, rfl, hL, hT, hK, by omega, by omega, hC, hAs, by omega, fun H1 y wl pl vs us way lf B A s1 hy hwl h1y h1w hW h1p hE hWT hfo hes hB hA => ?_⟩
  have hwlg : wl ≠ g.l := fun e => by rw [e, hL.wt] at hwl; cases hwl
  have o1 := (Own.nil H).add s1 hy h1y
  walk_at "rd"
  obtain ⟨⟨la, ll, hlf⟩, hwn⟩ := hWT.leafAt
  have hlf0 : lf ≠ [] := fun e => by have := hlf.pos; rw [e] at this; cases this
  have sp1 := Stp.of s1
  refine ⟨pl, tk, tp, us, lf, e, rfl, SqL.of h1p, hE, sp1.sq hK, sp1.sq hP, by have := hlf.le; omega, fun H2 l2 ws2 s2 hl2 h2l hE2 => ?_⟩
  have hlen := ins_len (es := lf) e
  have hL2 := LogAt.up (LogAt.up hL s1) s2
  have hokI := ins_ok hlf.ok hok
  walk_at "rd"
  refine ⟨p, l2, g, 1, ws2, insE e lf, rfl, hL2, h2l, hE2, hokI, by have := hlf.le; omega, by omega, by omega, fun H3 l3 zs hf hl3 hg3 h3l hZ => ?_⟩
  have hZ : RowsP K H3 zs (madeOf g.end_ (partsOf (insE e lf))) := hZ
  have hM := made_leaf (g := g) (es := insE e lf) (cnt := lf.length) (ins_ne lf e) (by have := hlf.le; omega) hlen hokI (by unfold LG.end_; omega) hal
  have hL3 := LogAt.put hL2 hf hg3
  have hpg := parts_good (ins_ne lf e) (by have := hlf.le; omega) hokI
  have hwl3 := wrAll_len (kd := 1) (ps := partsOf (insE e lf)) fun q hq => ⟨(hpg.1 q hq).2.2, by have := (hpg.1 q hq).2.1; omega⟩
  have hU := (hWT.up (up := []) (B0 := []) (A0 := []) ⟨rfl, rfl⟩).put (wrAll 1 (partsOf (insE e lf)))
  rw [List.append_nil, List.nil_append, List.append_nil] at hU
  have hf1 : ∀ b u, b ≠ g.l → H1 b = some u → H3 b = some u := fun b u hb h => hf b u hb (s2 _ _ h)
  have st13 : Stp H1 H3 := (Stp.of s2).trans (stp_frameL (s2 _ _ (s1 _ _ hL.wt)) hf)
  have hvn := hW.len
  have hes2 : B ++ insE e lf ++ A = insE e es := by rw [hes]; exact (insE_mid hB hA).symm
  walk_at "rd"
  refine r_iRA ?_
  walk_at "rd"
  refine ⟨_, _, rfl, .inl ⟨SqL.of (hf1 _ _ hwlg h1w), RT.for_Itv (xs := vs) (fun i σ' H' => ∃ (ms : List Ent) (zs : List V) (mid B A : List Ent) (bs : List Int) (pm : Addr) (v7 v8 : Option V),
    σ' = [some (.ref p), some (.ref t), some (.ref tk), some (.ref tp), some (.ref wl), some (.ref pl), some (.ref pm), v7, v8] ∧ (∀ b u, b ≠ g.l → H1 b = some u → H' b = some u) ∧ LogAt CL CD H' p (g.put bs) ∧ bs.length ≤ 260 * (i + 1) ∧ Stp H1 H' ∧ H' pm = some (.lst zs) ∧ RowsP K H' zs ms ∧
    MadeC (g.put bs) i ms mid (cntOf way lf i) ∧ UpT (g.put bs) (way.reverse.drop i) i B A ∧ B ++ mid ++ A = insE e es ∧ i ≤ way.length ∧ Al (g.put bs))
    ⟨_, zs, insE e lf, B, A, wrAll 1 (partsOf (insE e lf)), l3, _, _, rfl, hf1, hL3, by have := hpg.2; omega, st13, h3l, hZ, hM, hU, hes2, Nat.zero_le _, hal.wr 1 ⟨by decide, by decide⟩ _⟩ (fun i σ' H' ⟨_, _, _, _, _, _, _, _, _, _, hf', _⟩ => SqL.of (hf' _ _ hwlg h1w)) ?_ ?_⟩⟩
  · rintro i v σ' H' hi hv ⟨ms, zs, mid, B, A, bs, pm, v7, v8, rfl, hf', hL', hbs, st', hpm, hZ, ⟨hMK, hMo, hMc⟩, hU, hmid, hiw, hal2⟩
    rw [hvn] at hi hv
    obtain ⟨⟨kids, at_⟩, hway⟩ : ∃ pr, way[way.length - 1 - i]? = some pr := ⟨_, List.getElem?_eq_getElem (by omega)⟩
    have hrev : way.reverse[i]? = some (kids, at_) := by rw [List.getElem?_reverse (by omega)]; exact hway
    rw [drop_cons hrev] at hU
    obtain ⟨B0, b, a, A0, rfl, rfl, hat, hk8, hkok, hnk, q1, q2, hU2⟩ := hU
    obtain ⟨tw, lk, usk, hv2, g1, g2, g3⟩ := hW.get hway
    rw [hv] at hv2
    cases hv2
    have hkn : kids ≠ [] := fun e => by rw [e] at hat; cases hat
    have hlkg := ents_ne g2 g3 hkn (s1 _ _ hL.wt)
    have hlk := hf' _ _ hlkg g2
    have hEk := EntsV.up g3 st'
    have hukl : usk.length = kids.length := hEk.len
    have hmsl : 1 ≤ ms.length ∧ ms.length ≤ 2 := by
      rcases hMc with ⟨m, _, rfl, _⟩ | ⟨h, _⟩
      · exact ⟨Nat.le_refl _, Nat.le_succ _⟩
      · omega
    have hzl := hZ.len
    refine r_gTup2 (st'.sq g1) ?_
    walk_at "rd"
    refine r_slLs (Own.nil H') (SqL.of hlk) fun c1 H4 s4 o4 => ?_
    rw [cut_hi] at o4
    walk_at "rd"
    refine r_cats o4 (o4.at 0 rfl) (o4.ex _ _ hpm) (by rw [List.length_take]; omega) fun c2 H5 s5 o5 => ?_
    walk_at "rd"
    refine r_slLs o5 (o5.old (SqL.of hlk)) fun c3 H6 s6 o6 => ?_
    rw [show ((at_ : Nat) : Int) + 1 = ((at_ + 1 : Nat) : Int) by omega, cut_lo] at o6
    walk_at "rd"
    refine r_cats o6 (o6.at 1 rfl) (o6.at 0 rfl) (by rw [List.length_append, List.length_take, List.length_drop]; omega) fun c4 H7 s7 o7 => ?_
    have st7 : Stp H' H7 := Stp.of o7.ex
    have hL7 := LogAt.up hL' o7.ex
    have hE7 : EntsV K H7 (usk.take at_ ++ zs ++ usk.drop (at_ + 1)) (kids.take at_ ++ ms ++ kids.drop (at_ + 1)) := (((hEk.take at_).app hZ.ents).app (hEk.drop (at_ + 1))).up st7
    have hll : (kids.take at_ ++ ms ++ kids.drop (at_ + 1)).length = kids.length - 1 + ms.length := by
      rw [List.length_append, List.length_append, List.length_take, List.length_drop]
      omega
    have hlok : ∀ y ∈ kids.take at_ ++ ms ++ kids.drop (at_ + 1), EntOk y := by
      intro y hy
      rcases List.mem_append.mp hy with hy | hy
      · rcases List.mem_append.mp hy with hy | hy
        · exact hkok y (List.mem_of_mem_take hy)
        · exact hMo y hy
      · exact hkok y (List.mem_of_mem_drop hy)
    have hKK := (q1.app hMK).app q2
    have hnk2 : Nk 2 (kids.take at_ ++ ms ++ kids.drop (at_ + 1)) := nk_le hnk (by omega)
    have hl0 : kids.take at_ ++ ms ++ kids.drop (at_ + 1) ≠ [] := fun e => by rw [e, List.length_nil] at hll; omega
    have hwsz : (g.put bs).ws.length = g.ws.length + bs.length := List.length_append
    generalize kids.take at_ ++ ms ++ kids.drop (at_ + 1) = ks2 at *
    walk_at "rd"
    refine ⟨p, c4, g.put bs, 2, _, ks2, rfl, hL7, o7.at 0 rfl, hE7, hlok, by omega, by show g.fs.length ≤ _; omega, by omega, fun H8 l8 zs8 hf8 hl8 hg8 h8l hZ8 => ?_⟩
    have hZ8 : RowsP K H8 zs8 (madeOf (g.put bs).end_ (partsOf ks2)) := hZ8
    have hM8 := made_inner (g := g.put bs) (cnt := kids.length) hl0 (by omega) (by omega) hlok (by unfold LG.end_; rw [hwsz]; show g.fs.length + _ ≤ _; omega) hKK hal2 hnk2
    have hL8 := LogAt.put hL7 hf8 hg8
    have hpg8 := parts_good hl0 (by omega) hlok
    have hw8 := wrAll_len (kd := 2) (ps := partsOf ks2) fun q hq => ⟨(hpg8.1 q hq).2.2, by have := (hpg8.1 q hq).2.1; omega⟩
    have hU8 := hU2.put (wrAll 2 (partsOf ks2))
    have hal8 := hal2.wr 2 ⟨by decide, by decide⟩ (partsOf ks2)
    rw [LG.put_put] at hM8 hL8 hU8 hal8
    have st8 : Stp H1 H8 := (st'.trans st7).trans (stp_frameL (o7.ex _ _ hL'.wt) hf8)
    walk_at "rd"
    refine ⟨_, zs8, b ++ mid ++ a, B0, A0, bs ++ wrAll 2 (partsOf ks2), l8, _, _, rfl, fun b u hb h => hf8 _ _ hb (o7.ex _ _ (hf' _ _ hb h)), hL8, by rw [List.length_append]; have := hpg8.2; omega, st8, h8l, hZ8, ?_, hU8, ?_, by omega, hal8⟩
    · have hc : cntOf way lf (i + 1) = kids.length := by
        show ((way.reverse[i]?).map (·.1.length)).getD 0 = _
        rw [hrev]
        rfl
      rw [hc]
      exact hM8
    · rw [← hmid]
      simp only [List.append_assoc]
  · rintro σ' H' ⟨ms, zs, mid, B, A, bs, pm, v7, v8, rfl, hf', hL', hbs, st', hpm, hZ, ⟨hMK, hMo, hMc⟩, hU, hmid, hiw, hal2⟩
    rw [hvn] at hbs hMK hMc hU
    rw [List.drop_eq_nil_of_le (by rw [List.length_reverse]; exact Nat.le_refl _)] at hU
    obtain ⟨rfl, rfl⟩ := hU
    rw [List.nil_append, List.append_nil] at hmid
    subst hmid
    rw [cntOf_end, hfo] at hMc
    walk_at "rd"
    refine ⟨fun σ' H' => ∃ (m : Ent) (zs : List V) (bs : List Int) (pm : Addr) (D : Nat) (nd2 : List Ent), σ' = [some (.ref p), some (.ref t), some (.ref tk), some (.ref tp), some (.ref wl), some (.ref pl), some (.ref pm), v7, v8] ∧ (∀ b u, b ≠ g.l → H1 b = some u → H' b = some u) ∧
      H' g.l = some (.lst ((g.ws ++ bs).map V.int)) ∧ bs.length ≤ 8000 ∧ H' pm = some (.lst zs) ∧ RowsP K H' zs [m] ∧ Cur (g.put bs) D m nd2 (insE e es) ∧ 7 * (D + 1) + nd2.length ≤ x + 1 ∧ Al (g.put bs), ?_, ?_⟩
    · walk_at "rd"
      have hzl := hZ.len
      refine r_len (SqL.of hpm) ?_
      walk_at "rd"
      have hwsz : (g.put bs).ws.length = g.ws.length + bs.length := List.length_append
      refine rif (fun h2 => ?_) fun h2 => ?_
      · obtain ⟨hm2, hc8⟩ : ms.length = 2 ∧ 8 ≤ nd.length := by
          rcases hMc with ⟨m, _, rfl, _⟩ | h
          · exact absurd h2 (by rw [hzl]; show ¬ ((1 : Nat) : Int) > 1; omega)
          · exact h
        have hl0 : ms ≠ [] := fun e => by rw [e] at hm2; cases hm2
        walk_at "rd"
        refine ⟨p, pm, g.put bs, 2, zs, ms, rfl, hL', hpm, hZ.ents, hMo, by omega, by show g.fs.length ≤ _; omega, by omega, fun H8 l8 zs8 hf8 hl8 hg8 h8l hZ8 => ?_⟩
        have hZ8 : RowsP K H8 zs8 (madeOf (g.put bs).end_ (partsOf ms)) := hZ8
        obtain ⟨_, _, hM8⟩ := made_inner (g := g.put bs) (cnt := 1) hl0 (by omega) (by omega) hMo (by unfold LG.end_; rw [hwsz]; show g.fs.length + _ ≤ _; omega) hMK hal2 (nk_of (by omega))
        obtain ⟨m, nd2, hm1, hC2, hnd2⟩ : ∃ m nd2, madeOf (g.put bs).end_ (partsOf ms) = [m] ∧ Cur ((g.put bs).put (wrAll 2 (partsOf ms))) (way.length + 1) m nd2 (insE e es) ∧ nd2.length ≤ 1 + 1 := by
          rcases hM8 with h | ⟨_, h⟩
          · exact h
          · omega
        rw [hm1] at hZ8
        have hal8 := hal2.wr 2 ⟨by decide, by decide⟩ (partsOf ms)
        rw [LG.put_put] at hC2 hal8
        have hpg8 := parts_good hl0 (by omega) hMo
        have hw8 := wrAll_len (kd := 2) (ps := partsOf ms) fun q hq => ⟨(hpg8.1 q hq).2.2, by have := (hpg8.1 q hq).2.1; omega⟩
        walk_at "rd"
        refine ⟨m, zs8, bs ++ wrAll 2 (partsOf ms), l8, way.length + 1, nd2, rfl, fun b u hb h => hf8 _ _ hb (hf' _ _ hb h), ?_, by rw [List.length_append]; have := hpg8.2; omega, h8l, hZ8, hC2, by omega, hal8⟩
        rw [← List.append_assoc]
        exact hg8
      · obtain ⟨m, nd2, rfl, hC2, hnd2⟩ : ∃ m nd2, ms = [m] ∧ Cur (g.put bs) way.length m nd2 (insE e es) ∧ nd2.length ≤ nd.length + 1 := by
          rcases hMc with h | ⟨h, _⟩
          · exact h
          · exact absurd (show ((zs.length : Nat) : Int) > 1 by omega) h2
        walk_at "rd"
        exact ⟨m, zs, bs, pm, way.length, nd2, rfl, hf', hL'.wt, by omega, hpm, hZ, hC2, by omega, hal2⟩
    · rintro σ' H9 ⟨m, zs, bs, pm, D, nd2, rfl, hf9, hg9, hb9, h9m, hZ9, hC9, hx9, hal9⟩
      obtain ⟨v0, hv0⟩ : ∃ v, zs[0]? = some v := ⟨_, List.getElem?_eq_getElem (by rw [hZ9.len]; exact Nat.succ_pos _)⟩
      obtain ⟨e1, he1, tE⟩ := All2.get 0 hZ9 hv0
      cases he1
      obtain ⟨te, tk2, tp2, rfl, f1, f2, f3⟩ := tE
      walk_at "rd"
      refine r_ixL (SqL.of h9m) (atI_nat (j := 0) hv0) ?_
      walk_at "rd"
      refine r_ixT (SqT.of f1) (v := .ref tp2) rfl ?_
      walk_at "rd"
      refine q H9 tp2 bs m.ad m.ln (fun b u hb h => hf9 b u hb (s1 _ _ h)) hg9 hb9 f3 (.inr ⟨?_, D, nd2, hC9.key, hAs.ins e, hx9⟩) hal9
      rw [hC9.node.ln_]
      omega
end

section
variable {P : Program} {w : World} {K : PySem.W.Frag} {mg : Str → Option Value} {base : Heap}
/-- a tuple of ints -/
def RetTi (K : PySem.W.Frag) (H : Hp) (Q : VK) (ns : List Int) : Prop := ∀ H' t, Same H H' → H t = none → H' t = some (.tup (ns.map V.int)) → Q (.ref t) H'
theorem r_retTi {ns : List Int} {H H0 : Hp} {Q : VK} {xs : List V} (e : xs = ns.map V.int) (q : RetTi K H0 Q ns) (s : Same H0 H) : ns.length ≤ 1000 → RNewT xs H Q := fun hz => by
  subst e
  exact ⟨sz100 (by rw [List.length_map]; omega), fun p hp => q _ p (s.trans (same_new hp)) (s.free hp) upd_same⟩
/-! ### nodes read by the law -/
def sp_lrdn (K : PySem.W.Frag) : Sp := fun vs H Q _ => ∃ (a : Addr) (ns : List Int) (i n : Nat) (bk : List Int), vs = [.ref a, .int i] ∧ SqL K H a (ns.map V.int) ∧ ns.length ≤ 1000000 ∧ ns.drop i = numB n ++ bk ∧ n < 125 ^ 20 ∧ RetO H Q (.tup [.int n, .int ((i + (numB n).length : Nat) : Int)])
theorem d_lrdn (T : Top K mg) : Def P w K mg base CX0 1 "_law_read_number" ["values", "at"] (sp_lrdn K) := by
  refine T.f__law_read_number.ok sc__law_read_number (by rintro vs H Q E ⟨a, ns, i, n, bk, rfl, _⟩; rfl) (fun f cdv A outer s H vs Q E hr h => ?_)
  obtain ⟨a, ns, i, n, bk, rfl, hS, hz, hd, hn, q⟩ := h
  have hnl := numB_len 19 n hn
  have hdl : (numB n).length + bk.length = ns.length - i := by rw [← List.length_append, ← hd, List.length_drop]
  refine ⟨_, (pss_cons (ps_set (i := 2) sc__law_read_number.nd rfl (Or.inl rfl) pe_int)
      (pss_cons (ps_set (i := 3) sc__law_read_number.nd rfl (Or.inl rfl) pe_int)
      (pss_cons (ps_for PassesOwn.never rfl (pi_range1 (by rfl) T.b_range (pa_cons pe_int pa_nil)) (pg_name (i := 4) sc__law_read_number.nd rfl (Or.inl rfl)) (pss_cons (ps_set (i := 5) sc__law_read_number.nd rfl (Or.inl rfl) (pe_ix (r := rIxL K) ix_list (pv 0) (pe_op op_add (pv 1) (pv 4)) (fun _ _ => rfl)))
      (pss_cons (ps_if (pt_cmpR op_lt (pv 5) pe_int (nomark _)) (pss_one (ps_ret (pe_tup (pa_cons (pe_op op_add (pv 2) (pe_op op_mul (pv 3) (pv 5))) (pa_cons (pe_op op_add (pe_op op_add (pv 1) (pv 4)) pe_int) pa_nil))))) pss_nil)
      (pss_cons (ps_set (i := 2) sc__law_read_number.nd rfl (Or.inl rfl) (pe_op op_add (pv 2) (pe_op op_mul (pv 3) (pe_op op_sub (pv 5) pe_int))))
      (pss_one (ps_set (i := 3) sc__law_read_number.nd rfl (Or.inl rfl) (pe_op op_mul (pv 3) pe_int)))))))
      (pss_one (ps_ret (pe_tup (pa_cons pe_int (pa_cons (pv 1) pa_nil)))))))), ?_⟩
  walk_at "rd"
  refine forR1 (n := 40) rfl (by decide) (fun k σ' H' => ∃ (m : Nat) (b : Int) (v4 v5 : Option V), σ' = [some (.ref a), some (.int (i : Int)), some (.int b), some (.int (125 ^ k)), v4, v5] ∧ H' = H ∧ (n : Int) = b + 125 ^ k * (m : Int) ∧ ns.drop (i + k) = numB m ++ bk ∧ k + (numB m).length = (numB n).length) ⟨n, 0, _, _, rfl, rfl, by simp, hd, Nat.zero_add _⟩ ?_ ?_
  · rintro k σ' H' hk ⟨m, b, v4, v5, rfl, hH, hb, hdk, hkl⟩
    subst hH
    have hp := numB_pos m
    obtain ⟨v, hv⟩ : ∃ v, ns[i + k]? = some v := ⟨_, List.getElem?_eq_getElem (by omega)⟩
    have hd2 := drop_cons hv
    rw [hdk] at hd2
    walk_at "rd"
    rw [show (i : Int) + (k : Int) = ((i + k : Nat) : Int) by omega, gi_get hv]
    by_cases hm : m < 125
    · rw [numB_lt hm] at hd2 hkl
      have hvm : (m : Int) = v := (List.cons.inj hd2).1
      refine rif (fun _ => ?_) fun h => by omega
      walk_at "rd"
      refine r_newT (Own.nil _) (Nat.le_of_ble_eq_true rfl) fun p1 H1 o1 => ?_
      refine q.mk o1 0 ?_
      show some (p1, _) = some (p1, _)
      rw [← hvm, ← hb, show ((i : Int) + (k : Int) + 1) = ((i + (numB n).length : Nat) : Int) by simp only [List.length_cons, List.length_nil] at hkl; omega]
    · rw [numB_ge hm] at hd2 hkl
      have hvm : ((m % 125 + 125 : Nat) : Int) = v := (List.cons.inj hd2).1
      refine rif (fun h => by omega) fun _ => ?_
      walk_at "rd"
      refine ⟨m / 125, b + 125 ^ k * (v - 125), _, _, by rw [Int.pow_succ]; rfl, rfl, ?_, (List.cons.inj hd2).2.symm, by rw [List.length_cons] at hkl; omega⟩
      rw [hb, ← hvm, Int.pow_succ, Int.mul_assoc, Int.add_assoc, ← Int.mul_add]
      congr 2
      omega
  · rintro σ' H' ⟨m, b, v4, v5, rfl, hH, hb, hdk, hkl⟩
    have := numB_pos m
    omega
def sp_lnode (K : PySem.W.Frag) : Sp := fun vs H Q _ => ∃ (a : Addr) (es : List Ent), vs = [.ref a] ∧ SqL K H a ((nodeB es).map V.int) ∧ (∀ e ∈ es, EntOk e) ∧ es.length ≤ 9 ∧
  ∀ H' x l us, Same H H' → H x = none → H l = none → x ≠ l → H' x = some (.lst [.ref l, .int ((nodeB es).length : Int)]) → H' l = some (.lst us) → EntsV K H' us es → Q (.ref x) H'
theorem zz_half {z : Int} (h : 0 ≤ z) : ((zz z : Nat) : Int) / 2 = z := by
  unfold zz
  rw [if_neg (by omega)]
  omega
theorem pow20 {n : Nat} (h : n < 5000000) : n < 125 ^ 20 := Nat.lt_of_lt_of_le h (by decide)
theorem d_lnode (T : Top K mg) : Def P w K mg base CX0 3 "_law_node" ["content"] (sp_lnode K) := by
  have G__law_read_number : Def P w K mg base CX0 1 "_law_read_number" ["values", "at"] (sp_lrdn K) := d_lrdn T
  refine T.f__law_node.ok sc__law_node (by rintro vs H Q E ⟨a, es, rfl, _⟩; rfl) (fun f cdv A outer s H vs Q E hr h => ?_)
  obtain ⟨a, es, rfl, hS, hok, hl9, q⟩ := h
  have hnl := node_len hok hl9
  refine ⟨_, (pss_cons (ps_asg (pe_callD G__law_read_number (hr.mono (by decide)) (pa_cons (pv 0) (pa_cons pe_int pa_nil))) (pg_tup (n := 2) rfl (pgs_cons (pg_name (i := 1) sc__law_node.nd rfl (Or.inl rfl)) (pgs_cons (pg_name (i := 2) sc__law_node.nd rfl (Or.inl rfl)) pgs_nil))))
      (pss_cons (ps_set (i := 3) sc__law_node.nd rfl (Or.inl rfl) (pe_lst pa_nil))
      (pss_cons (ps_for PassesOwn.never rfl (pi_range1 (by rfl) T.b_range (pa_cons (pv 1) pa_nil)) (pg_name (i := 4) sc__law_node.nd rfl (Or.inl rfl)) (pss_cons (ps_asg (pe_callD G__law_read_number (hr.mono (by decide)) (pa_cons (pv 0) (pa_cons (pv 2) pa_nil))) (pg_tup (n := 2) rfl (pgs_cons (pg_name (i := 5) sc__law_node.nd rfl (Or.inl rfl)) (pgs_cons (pg_name (i := 2) sc__law_node.nd rfl (Or.inl rfl)) pgs_nil))))
      (pss_cons (ps_set (i := 6) sc__law_node.nd rfl (Or.inl rfl) (pe_lst pa_nil))
      (pss_cons (ps_for PassesOwn.never rfl (pi_range1 (by rfl) T.b_range (pa_cons (pv 5) pa_nil)) (pg_name (i := 7) sc__law_node.nd rfl (Or.inl rfl)) (pss_cons (ps_asg (pe_callD G__law_read_number (hr.mono (by decide)) (pa_cons (pv 0) (pa_cons (pv 2) pa_nil))) (pg_tup (n := 2) rfl (pgs_cons (pg_name (i := 8) sc__law_node.nd rfl (Or.inl rfl)) (pgs_cons (pg_name (i := 2) sc__law_node.nd rfl (Or.inl rfl)) pgs_nil))))
      (pss_one (ps_expr (pe_bm PySem.F.plainAttrs_list PySem.F.slot_list_append PySem.F.type_list_append mt_append (pv 6) (pa_cons (pe_op op_fdiv (pv 8) pe_int) pa_nil))))))
      (pss_cons (ps_asg (pe_callD G__law_read_number (hr.mono (by decide)) (pa_cons (pv 0) (pa_cons (pv 2) pa_nil))) (pg_tup (n := 2) rfl (pgs_cons (pg_name (i := 9) sc__law_node.nd rfl (Or.inl rfl)) (pgs_cons (pg_name (i := 2) sc__law_node.nd rfl (Or.inl rfl)) pgs_nil))))
      (pss_cons (ps_asg (pe_callD G__law_read_number (hr.mono (by decide)) (pa_cons (pv 0) (pa_cons (pv 2) pa_nil))) (pg_tup (n := 2) rfl (pgs_cons (pg_name (i := 10) sc__law_node.nd rfl (Or.inl rfl)) (pgs_cons (pg_name (i := 2) sc__law_node.nd rfl (Or.inl rfl)) pgs_nil))))
      (pss_one (ps_expr (pe_bm PySem.F.plainAttrs_list PySem.F.slot_list_append PySem.F.type_list_append mt_append (pv 3) (pa_cons (pe_tup (pa_cons (pe_callTy (r := rTupS K) call_tuple_of (by rfl) T.b_tuple (by decide +kernel) (pa_cons (pv 6) pa_nil)) (pa_cons (pe_tup (pa_cons (pv 9) (pa_cons (pv 10) pa_nil))) pa_nil))) pa_nil))))))))))
      (pss_one (ps_ret (pe_lst (pa_cons (pv 3) (pa_cons (pv 2) pa_nil)))))))), ?_⟩
  walk_at "rd"
  refine ⟨a, nodeB es, 0, es.length, es.flatMap entB, rfl, hS, by omega, rfl, pow20 (by omega), r_ret1 (Own.nil H) fun p1 H1 o1 => ?_⟩
  walk_at "rd"
  refine r_newL o1 (Nat.zero_le _) fun pr H2 o2 => ?_
  walk_at "rd"
  have hdr : ∀ m, (nodeB es).drop ((numB es.length).length + ((es.take m).flatMap entB).length) = (es.drop m).flatMap entB := fun m => by
    unfold nodeB
    rw [← List.drop_drop, List.drop_left]
    conv => lhs; rw [← List.take_append_drop m es, List.flatMap_append]
    rw [List.take_append_drop]
    exact List.drop_left
  refine forR1 (n := es.length) rfl (by omega) (fun i σ' H' => ∃ (us : List V) (v4 v5 v6 v7 v8 v9 v10 : Option V) (L : List (Addr × HO)), σ' = [some (.ref a), some (.int (es.length : Int)), some (.int (((numB es.length).length + ((es.take i).flatMap entB).length : Nat) : Int)), some (.ref pr), v4, v5, v6, v7, v8, v9, v10] ∧ EntsV K H' us (es.take i) ∧ Own H H' ((pr, .lst us) :: L)) ?_ ?_ ?_
  · exact ⟨[], _, _, _, _, _, _, _, _, by rw [Nat.zero_add]; rfl, .nil, o2⟩
  · rintro i σ' H' hi ⟨us, v4, v5, v6, v7, v8, v9, v10, L, rfl, hE, o⟩
    obtain ⟨e, he⟩ : ∃ e, es[i]? = some e := ⟨_, List.getElem?_eq_getElem hi⟩
    have hoe := hok e (List.mem_of_getElem? he)
    have hfe := take_flatE he
    have hdi := hdr i
    rw [drop_cons he, List.flatMap_cons] at hdi
    have hqn : (numB es.length).length + ((es.take i).flatMap entB).length ≤ 127 := by
      have h1 := flatE_le (es.take i) fun z hz => hok z (List.mem_of_mem_take hz)
      have h2 : (es.take i).length ≤ es.length := by rw [List.length_take]; omega
      have h3 := numB_len 0 es.length (Nat.lt_of_le_of_lt hl9 (by decide))
      omega
    have hel : (entB e).length = (numB e.k.length).length + (e.k.flatMap intB).length + (numB e.ad).length + (numB e.ln).length := by
      unfold entB lsB
      simp only [List.length_append]
    rw [hfe, List.length_append, hel]
    generalize hq0 : (numB es.length).length + ((es.take i).flatMap entB).length = q0 at *
    generalize (es.drop (i + 1)).flatMap entB = rest at *
    have hd1 : (nodeB es).drop q0 = numB e.k.length ++ (e.k.flatMap intB ++ (numB e.ad ++ (numB e.ln ++ rest))) := by
      rw [hdi]
      unfold entB lsB
      simp only [List.append_assoc]
    have hd2 : ∀ j, (nodeB es).drop (q0 + (numB e.k.length).length + ((e.k.take j).flatMap intB).length) = (e.k.drop j).flatMap intB ++ (numB e.ad ++ (numB e.ln ++ rest)) := fun j => by
      rw [← List.drop_drop, ← List.drop_drop, hd1, List.drop_left]
      conv => lhs; rw [← List.take_append_drop j e.k, List.flatMap_append, List.append_assoc]
      rw [List.take_append_drop]
      exact List.drop_left
    have hd3 : (nodeB es).drop (q0 + (numB e.k.length).length + (e.k.flatMap intB).length) = numB e.ad ++ (numB e.ln ++ rest) := by
      have := hd2 e.k.length
      rw [List.take_length, List.drop_length] at this
      exact this
    have hd4 : (nodeB es).drop (q0 + (numB e.k.length).length + (e.k.flatMap intB).length + (numB e.ad).length) = numB e.ln ++ rest := by rw [← List.drop_drop, hd3, List.drop_left]
    have hel14 := ent_len hoe
    have hoad := hoe.ad
    have holn := hoe.ln
    have hok3 := hoe.k.1
    have hul := hE.len
    rw [List.length_take] at hul
    walk_at "rd"
    refine ⟨a, nodeB es, q0, e.k.length, _, rfl, o.old hS, by omega, hd1, pow20 (by omega), r_ret1s o fun p3 H3 s3 o3 => ?_⟩
    walk_at "rd"
    refine r_newLs o3 (Nat.zero_le _) fun pk H4 s4 o4 => ?_
    walk_at "rd"
    refine forR1 (n := e.k.length) rfl (by omega) (fun j σ' H5 => ∃ (v7 v8 : Option V) (L : List (Addr × HO)), σ' = [some (.ref a), some (.int (es.length : Int)), some (.int ((q0 + (numB e.k.length).length + ((e.k.take j).flatMap intB).length : Nat) : Int)), some (.ref pr), some (.int (i : Int)), some (.int (e.k.length : Int)), some (.ref pk), v7, v8, v9, v10] ∧ Own H H5 ((pk, .lst ((e.k.take j).map V.int)) :: (pr, .lst us) :: L) ∧ Stp H' H5) ?_ ?_ ?_
    · exact ⟨_, _, [], rfl, o4.pick [0, 2] (by decide), s3.trans s4⟩
    · rintro j σ' H5 hj ⟨v7, v8, L5, rfl, o5, s5⟩
      obtain ⟨z, hz⟩ : ∃ z, e.k[j]? = some z := ⟨_, List.getElem?_eq_getElem hj⟩
      have hzk := hoe.k.2 z (List.mem_of_getElem? hz)
      have hdj := hd2 j
      rw [drop_cons hz, List.flatMap_cons, List.append_assoc] at hdj
      have hfz := take_flat (f := intB) hz
      have hjl : q0 + (numB e.k.length).length + ((e.k.take j).flatMap intB).length ≤ 1000 := by
        have h1 := flat_le (wr := intB) (m := 2) (e.k.take j) fun y hy => int_len2 (hoe.k.2 y (List.mem_of_mem_take hy))
        have h2 : (e.k.take j).length ≤ e.k.length := by rw [List.length_take]; omega
        omega
      walk_at "rd"
      refine ⟨a, nodeB es, _, zz z, _, rfl, o5.old hS, by omega, hdj, pow20 (by unfold zz; split <;> omega), r_ret1s o5 fun p6 H6 s6 o6 => ?_⟩
      walk_at "rd"
      refine r_apps o6 1 rfl (by rw [List.length_map, List.length_take]; omega) fun H7 s7 o7 => ?_
      refine ⟨_, _, [], by rw [hfz, List.length_append, show q0 + (numB e.k.length).length + (((e.k.take j).flatMap intB).length + (intB z).length) = q0 + (numB e.k.length).length + ((e.k.take j).flatMap intB).length + (intB z).length by omega]; rfl, ?_, (s5.trans s6).trans s7⟩
      have o8 := o7.pick [1, 2] (by decide)
      rw [List.take_add_one, hz, List.map_append]
      rw [zz_half hzk.1] at o8
      exact o8
    · rintro σ' H5 ⟨v7, v8, L5, rfl, o5, s5⟩
      rw [List.take_length] at o5 ⊢
      walk_at "rd"
      refine ⟨a, nodeB es, _, e.ad, _, rfl, o5.old hS, by omega, hd3, pow20 (by omega), r_ret1s o5 fun p6 H6 s6 o6 => ?_⟩
      walk_at "rd"
      refine ⟨a, nodeB es, _, e.ln, _, rfl, o6.old hS, by omega, hd4, pow20 (by omega), r_ret1s o6 fun p7 H7 s7 o7 => ?_⟩
      walk_at "rd"
      refine r_tupLs o7 (o7.sqL 2 rfl) fun tk H8 s8 o8 h8 => ?_
      walk_at "rd"
      refine r_newTi (K := K) [(e.ad : Int), (e.ln : Int)] rfl o8 (Nat.le_of_ble_eq_true rfl) fun tp H9 s9 o9 h9 => ?_
      walk_at "rd"
      refine r_newTp (K := K) (ds := [.tuple (e.k.map PyData.int), .tuple (([(e.ad : Int), (e.ln : Int)] : List Int).map PyData.int)]) o9 (.cons (Tp.intsT (s9.sq h8)) (.cons (Tp.intsT h9) .nil)) (Nat.le_of_ble_eq_true rfl) fun t10 H10 s10 o10 t10v => ?_
      walk_at "rd"
      refine r_apps o10 3 rfl (by omega) fun H11 s11 o11 => ?_
      have o12 : Own H H11 [(pr, .lst (us ++ [.ref t10]))] := o11.pick [3] (by decide)
      refine ⟨us ++ [.ref t10], _, _, _, _, _, _, _, [], by rw [show (numB es.length).length + (((es.take i).flatMap entB).length + ((numB e.k.length).length + (e.k.flatMap intB).length + (numB e.ad).length + (numB e.ln).length)) = q0 + (numB e.k.length).length + (e.k.flatMap intB).length + (numB e.ad).length + (numB e.ln).length by omega]; rfl, ?_, o12⟩
      · rw [List.take_add_one, he]
        unfold EntsV
        rw [List.map_append]
        exact TpAll.snoc (TpAll.up hE (((((((s5.trans s6).trans s7).trans s8).trans s9).trans s10).trans s11))) (t10v.up s11)
  · rintro σ' H' ⟨us, v4, v5, v6, v7, v8, v9, v10, L, rfl, hE, o⟩
    rw [List.take_length] at hE ⊢
    walk_at "rd"
    refine r_newLs o (Nat.le_of_ble_eq_true rfl) fun x H1 s1 o1 => ?_
    refine q H1 x pr us o1.ex (o1.fresh 0 rfl) (o1.fresh 1 rfl) (o1.ne (i := 0) (j := 1) rfl rfl (by decide)) ?_ (o1.at 1 rfl) (EntsV.up hE s1)
    rw [o1.at 0 rfl]
    unfold nodeB
    rw [List.length_append]
end

section
variable {P : Program} {w : World} {K : PySem.W.Frag} {mg : Str → Option Value} {base : Heap}
theorem r_newLb {H0 H : Hp} {L : List (Addr × HO)} {xs : List V} {Q : VK} (o : Own H0 H L) (hz : xs.length ≤ 10000000) (k : ∀ p H', Same H H' → Own H0 H' ((p, .lst xs) :: L) → Q (.ref p) H') : RNewL xs H Q := ⟨sz100 hz, fun p hp => k p _ (same_new hp) (o.new hp)⟩
/-- the first objects of a list are frozen -/
theorem own_frzs {H : Hp} : ∀ {L L2 : List (Addr × HO)} {B : Hp}, Own B H (L ++ L2) → ∃ B', Same B B' ∧ (∀ x ∈ L, B' x.1 = some x.2) ∧ Own B' H L2
  | [], L2, B, o => ⟨B, .refl _, (fun x hx => by cases hx), o⟩
  | (a, u) :: L, L2, B, o => by
    obtain ⟨B', s, h, o'⟩ := own_frzs (L := L) (L2 := L2) (Own.frz o)
    refine ⟨B', (Own.same_frz o).trans s, fun x hx => ?_, o'⟩
    rcases List.mem_cons.mp hx with rfl | hx
    · exact s _ _ upd_same
    · exact h x hx
def sp_lnodeH (K : PySem.W.Frag) : Sp := fun vs H Q _ => ∃ (a : Addr) (es : List Ent), vs = [.ref a] ∧ SqL K H a ((nodeB es).map V.int) ∧ (∀ e ∈ es, EntOk e) ∧ es.length ≤ 9 ∧
  ∀ H' x l us, Same H H' → H x = none → H l = none → x ≠ l → H' x = some (.lst [.ref l, .int ((nodeB es).length : Int)]) → H' l = some (.lst us) → RowsH H' us es → Q (.ref x) H'
theorem d_lnodeH (T : Top K mg) : Def P w K mg base CX0 3 "_law_node" ["content"] (sp_lnodeH K) := by
  have G__law_read_number : Def P w K mg base CX0 1 "_law_read_number" ["values", "at"] (sp_lrdn K) := d_lrdn T
  refine T.f__law_node.ok sc__law_node (by rintro vs H Q E ⟨a, es, rfl, _⟩; rfl) (fun f cdv A outer s H vs Q E hr h => ?_)
  obtain ⟨a, es, rfl, hS, hok, hl9, q⟩ := h
  have hnl := node_len hok hl9
  refine ⟨_, (pss_cons (ps_asg (pe_callD G__law_read_number (hr.mono (by decide)) (pa_cons (pv 0) (pa_cons pe_int pa_nil))) (pg_tup (n := 2) rfl (pgs_cons (pg_name (i := 1) sc__law_node.nd rfl (Or.inl rfl)) (pgs_cons (pg_name (i := 2) sc__law_node.nd rfl (Or.inl rfl)) pgs_nil))))
      (pss_cons (ps_set (i := 3) sc__law_node.nd rfl (Or.inl rfl) (pe_lst pa_nil))
      (pss_cons (ps_for PassesOwn.never rfl (pi_range1 (by rfl) T.b_range (pa_cons (pv 1) pa_nil)) (pg_name (i := 4) sc__law_node.nd rfl (Or.inl rfl)) (pss_cons (ps_asg (pe_callD G__law_read_number (hr.mono (by decide)) (pa_cons (pv 0) (pa_cons (pv 2) pa_nil))) (pg_tup (n := 2) rfl (pgs_cons (pg_name (i := 5) sc__law_node.nd rfl (Or.inl rfl)) (pgs_cons (pg_name (i := 2) sc__law_node.nd rfl (Or.inl rfl)) pgs_nil))))
      (pss_cons (ps_set (i := 6) sc__law_node.nd rfl (Or.inl rfl) (pe_lst pa_nil))
      (pss_cons (ps_for PassesOwn.never rfl (pi_range1 (by rfl) T.b_range (pa_cons (pv 5) pa_nil)) (pg_name (i := 7) sc__law_node.nd rfl (Or.inl rfl)) (pss_cons (ps_asg (pe_callD G__law_read_number (hr.mono (by decide)) (pa_cons (pv 0) (pa_cons (pv 2) pa_nil))) (pg_tup (n := 2) rfl (pgs_cons (pg_name (i := 8) sc__law_node.nd rfl (Or.inl rfl)) (pgs_cons (pg_name (i := 2) sc__law_node.nd rfl (Or.inl rfl)) pgs_nil))))
      (pss_one (ps_expr (pe_bm PySem.F.plainAttrs_list PySem.F.slot_list_append PySem.F.type_list_append mt_append (pv 6) (pa_cons (pe_op op_fdiv (pv 8) pe_int) pa_nil))))))
      (pss_cons (ps_asg (pe_callD G__law_read_number (hr.mono (by decide)) (pa_cons (pv 0) (pa_cons (pv 2) pa_nil))) (pg_tup (n := 2) rfl (pgs_cons (pg_name (i := 9) sc__law_node.nd rfl (Or.inl rfl)) (pgs_cons (pg_name (i := 2) sc__law_node.nd rfl (Or.inl rfl)) pgs_nil))))
      (pss_cons (ps_asg (pe_callD G__law_read_number (hr.mono (by decide)) (pa_cons (pv 0) (pa_cons (pv 2) pa_nil))) (pg_tup (n := 2) rfl (pgs_cons (pg_name (i := 10) sc__law_node.nd rfl (Or.inl rfl)) (pgs_cons (pg_name (i := 2) sc__law_node.nd rfl (Or.inl rfl)) pgs_nil))))
      (pss_one (ps_expr (pe_bm PySem.F.plainAttrs_list PySem.F.slot_list_append PySem.F.type_list_append mt_append (pv 3) (pa_cons (pe_tup (pa_cons (pe_callTy (r := rTupS K) call_tuple_of (by rfl) T.b_tuple (by decide +kernel) (pa_cons (pv 6) pa_nil)) (pa_cons (pe_tup (pa_cons (pv 9) (pa_cons (pv 10) pa_nil))) pa_nil))) pa_nil))))))))))
      (pss_one (ps_ret (pe_lst (pa_cons (pv 3) (pa_cons (pv 2) pa_nil)))))))), ?_⟩
  walk_at "rd"
  refine ⟨a, nodeB es, 0, es.length, es.flatMap entB, rfl, hS, by omega, rfl, pow20 (by omega), r_ret1 (Own.nil H) fun p1 H1 o1 => ?_⟩
  walk_at "rd"
  refine r_newL o1 (Nat.zero_le _) fun pr H2 o2 => ?_
  walk_at "rd"
  have hdr : ∀ m, (nodeB es).drop ((numB es.length).length + ((es.take m).flatMap entB).length) = (es.drop m).flatMap entB := fun m => by
    unfold nodeB
    rw [← List.drop_drop, List.drop_left]
    conv => lhs; rw [← List.take_append_drop m es, List.flatMap_append]
    rw [List.take_append_drop]
    exact List.drop_left
  refine forR1 (n := es.length) rfl (by omega) (fun i σ' H' => ∃ (us : List V) (v4 v5 v6 v7 v8 v9 v10 : Option V) (Bs : Hp), σ' = [some (.ref a), some (.int (es.length : Int)), some (.int (((numB es.length).length + ((es.take i).flatMap entB).length : Nat) : Int)), some (.ref pr), v4, v5, v6, v7, v8, v9, v10] ∧ RowsH Bs us (es.take i) ∧ Own Bs H' [(pr, .lst us)] ∧ Same H Bs) ?_ ?_ ?_
  · exact ⟨[], _, _, _, _, _, _, _, H, by rw [Nat.zero_add]; rfl, .nil, o2.pick [0] (by decide), .refl _⟩
  · rintro i σ' H' hi ⟨us, v4, v5, v6, v7, v8, v9, v10, Bs, rfl, hE, o, sB⟩
    have hS := sB.seq hS
    obtain ⟨e, he⟩ : ∃ e, es[i]? = some e := ⟨_, List.getElem?_eq_getElem hi⟩
    have hoe := hok e (List.mem_of_getElem? he)
    have hfe := take_flatE he
    have hdi := hdr i
    rw [drop_cons he, List.flatMap_cons] at hdi
    have hqn : (numB es.length).length + ((es.take i).flatMap entB).length ≤ 127 := by
      have h1 := flatE_le (es.take i) fun z hz => hok z (List.mem_of_mem_take hz)
      have h2 : (es.take i).length ≤ es.length := by rw [List.length_take]; omega
      have h3 := numB_len 0 es.length (Nat.lt_of_le_of_lt hl9 (by decide))
      omega
    have hel : (entB e).length = (numB e.k.length).length + (e.k.flatMap intB).length + (numB e.ad).length + (numB e.ln).length := by
      unfold entB lsB
      simp only [List.length_append]
    rw [hfe, List.length_append, hel]
    generalize hq0 : (numB es.length).length + ((es.take i).flatMap entB).length = q0 at *
    generalize (es.drop (i + 1)).flatMap entB = rest at *
    have hd1 : (nodeB es).drop q0 = numB e.k.length ++ (e.k.flatMap intB ++ (numB e.ad ++ (numB e.ln ++ rest))) := by
      rw [hdi]
      unfold entB lsB
      simp only [List.append_assoc]
    have hd2 : ∀ j, (nodeB es).drop (q0 + (numB e.k.length).length + ((e.k.take j).flatMap intB).length) = (e.k.drop j).flatMap intB ++ (numB e.ad ++ (numB e.ln ++ rest)) := fun j => by
      rw [← List.drop_drop, ← List.drop_drop, hd1, List.drop_left]
      conv => lhs; rw [← List.take_append_drop j e.k, List.flatMap_append, List.append_assoc]
      rw [List.take_append_drop]
      exact List.drop_left
    have hd3 : (nodeB es).drop (q0 + (numB e.k.length).length + (e.k.flatMap intB).length) = numB e.ad ++ (numB e.ln ++ rest) := by
      have := hd2 e.k.length
      rw [List.take_length, List.drop_length] at this
      exact this
    have hd4 : (nodeB es).drop (q0 + (numB e.k.length).length + (e.k.flatMap intB).length + (numB e.ad).length) = numB e.ln ++ rest := by rw [← List.drop_drop, hd3, List.drop_left]
    have hel14 := ent_len hoe
    have hoad := hoe.ad
    have holn := hoe.ln
    have hok3 := hoe.k.1
    have hul := hE.len
    rw [List.length_take] at hul
    walk_at "rd"
    refine ⟨a, nodeB es, q0, e.k.length, _, rfl, o.old hS, by omega, hd1, pow20 (by omega), r_ret1s o fun p3 H3 s3 o3 => ?_⟩
    walk_at "rd"
    refine r_newLs o3 (Nat.zero_le _) fun pk H4 s4 o4 => ?_
    walk_at "rd"
    refine forR1 (n := e.k.length) rfl (by omega) (fun j σ' H5 => ∃ (v7 v8 : Option V) (L : List (Addr × HO)), σ' = [some (.ref a), some (.int (es.length : Int)), some (.int ((q0 + (numB e.k.length).length + ((e.k.take j).flatMap intB).length : Nat) : Int)), some (.ref pr), some (.int (i : Int)), some (.int (e.k.length : Int)), some (.ref pk), v7, v8, v9, v10] ∧ Own Bs H5 ((pk, .lst ((e.k.take j).map V.int)) :: (pr, .lst us) :: L) ∧ Stp H' H5) ?_ ?_ ?_
    · exact ⟨_, _, [], rfl, o4.pick [0, 2] (by decide), s3.trans s4⟩
    · rintro j σ' H5 hj ⟨v7, v8, L5, rfl, o5, s5⟩
      obtain ⟨z, hz⟩ : ∃ z, e.k[j]? = some z := ⟨_, List.getElem?_eq_getElem hj⟩
      have hzk := hoe.k.2 z (List.mem_of_getElem? hz)
      have hdj := hd2 j
      rw [drop_cons hz, List.flatMap_cons, List.append_assoc] at hdj
      have hfz := take_flat (f := intB) hz
      have hjl : q0 + (numB e.k.length).length + ((e.k.take j).flatMap intB).length ≤ 1000 := by
        have h1 := flat_le (wr := intB) (m := 2) (e.k.take j) fun y hy => int_len2 (hoe.k.2 y (List.mem_of_mem_take hy))
        have h2 : (e.k.take j).length ≤ e.k.length := by rw [List.length_take]; omega
        omega
      walk_at "rd"
      refine ⟨a, nodeB es, _, zz z, _, rfl, o5.old hS, by omega, hdj, pow20 (by unfold zz; split <;> omega), r_ret1s o5 fun p6 H6 s6 o6 => ?_⟩
      walk_at "rd"
      refine r_apps o6 1 rfl (by rw [List.length_map, List.length_take]; omega) fun H7 s7 o7 => ?_
      refine ⟨_, _, [], by rw [hfz, List.length_append, show q0 + (numB e.k.length).length + (((e.k.take j).flatMap intB).length + (intB z).length) = q0 + (numB e.k.length).length + ((e.k.take j).flatMap intB).length + (intB z).length by omega]; rfl, ?_, (s5.trans s6).trans s7⟩
      have o8 := o7.pick [1, 2] (by decide)
      rw [List.take_add_one, hz, List.map_append]
      rw [zz_half hzk.1] at o8
      exact o8
    · rintro σ' H5 ⟨v7, v8, L5, rfl, o5, s5⟩
      rw [List.take_length] at o5 ⊢
      walk_at "rd"
      refine ⟨a, nodeB es, _, e.ad, _, rfl, o5.old hS, by omega, hd3, pow20 (by omega), r_ret1s o5 fun p6 H6 s6 o6 => ?_⟩
      walk_at "rd"
      refine ⟨a, nodeB es, _, e.ln, _, rfl, o6.old hS, by omega, hd4, pow20 (by omega), r_ret1s o6 fun p7 H7 s7 o7 => ?_⟩
      walk_at "rd"
      refine r_tupL o7 (o7.sqL 2 rfl) fun tk H8 o8 => ?_
      walk_at "rd"
      refine r_newTb o8 (Nat.le_of_ble_eq_true rfl) fun tp H9 s9 o9 => ?_
      walk_at "rd"
      refine r_newTb o9 (Nat.le_of_ble_eq_true rfl) fun t10 H10 s10 o10 => ?_
      walk_at "rd"
      refine r_apps o10 6 rfl (by omega) fun H11 s11 o11 => ?_
      have o12 : Own Bs H11 ([(t10, .tup [.ref tk, .ref tp]), (tp, .tup [.int (e.ad : Int), .int (e.ln : Int)]), (tk, .tup (e.k.map V.int))] ++ [(pr, .lst (us ++ [.ref t10]))]) := o11.pick [0, 1, 2, 6] (by decide)
      obtain ⟨B3, s3B, h3, o13⟩ := own_frzs o12
      refine ⟨us ++ [.ref t10], _, _, _, _, _, _, _, B3, by rw [show (numB es.length).length + (((es.take i).flatMap entB).length + ((numB e.k.length).length + (e.k.flatMap intB).length + (numB e.ad).length + (numB e.ln).length)) = q0 + (numB e.k.length).length + (e.k.flatMap intB).length + (numB e.ad).length + (numB e.ln).length by omega]; rfl, ?_, o13, sB.trans s3B⟩
      rw [List.take_add_one, he]
      exact All2.snoc ⟨t10, tk, tp, rfl, h3 _ List.mem_cons_self, h3 _ (List.mem_cons_of_mem _ (List.mem_cons_of_mem _ List.mem_cons_self)), h3 _ (List.mem_cons_of_mem _ List.mem_cons_self)⟩ (RowsH.up hE (.of s3B))
  · rintro σ' H' ⟨us, v4, v5, v6, v7, v8, v9, v10, Bs, rfl, hE, o, sB⟩
    rw [List.take_length] at hE ⊢
    walk_at "rd"
    refine r_newLs o (Nat.le_of_ble_eq_true rfl) fun x H1 s1 o1 => ?_
    refine q H1 x pr us (sB.trans o1.ex) (sB.free (o1.fresh 0 rfl)) (sB.free (o1.fresh 1 rfl)) (o1.ne (i := 0) (j := 1) rfl rfl (by decide)) ?_ (o1.at 1 rfl) (RowsH.up hE (.of o1.ex))
    rw [o1.at 0 rfl]
    unfold nodeB
    rw [List.length_append]
end

section
variable {P : Program} {w : World} {K : PySem.W.Frag} {mg : Str → Option Value} {base : Heap}
theorem r_gLst2 {H : Hp} {σ : L2.St} {a : Addr} {x y : V} {i j : Nat} {R : L2.St → Hp → Prop} (h : SqL K H a [x, y]) (q : R ((σ.set i (some x)).set j (some y)) H) : gLst K 2 (gCons (gName i) (gCons (gName j) gNil)) (.ref a) σ H R :=
  ⟨a, [x, y], rfl, h, rfl, x, [y], rfl, y, [], rfl, rfl, q⟩
theorem def_none {x : Str} {st : Stmt} {ps : List Str} {k : Nat} (F : FunAt K mg x st ps) : Def P w K mg base CX0 k x ps (fun _ _ _ _ => False) := by
  obtain ⟨f, fd, F, hm, hbd⟩ := F.ex
  exact ⟨f, fd, ⟨fun vs H Q E h => h.elim, fun A outer s H args us vs Q E hr e0 hb hv hs => hs.elim⟩, hm, F.kp, hbd⟩
end

section
variable {P : Program} {w : World} {K : PySem.W.Frag} {mg : Str → Option Value} {base : Heap}
def sp_lnatH (K : PySem.W.Frag) (CL CD : Addr) : Sp := fun vs H Q _ => ∃ (p t : Addr) (g : LG) (leaf : Bool) (ad ln : Nat) (es : List Ent), vs = [.ref p, .ref t] ∧ LogAt CL CD H p g ∧ ptrT K H t ad ln ∧ g.fs.length ≤ 1000000 ∧ g.ws.length ≤ 1000000 ∧ NodeR g (kdI leaf) ad ln es ∧
  ∀ H' x l us, Same H H' → H x = none → H l = none → x ≠ l → H' x = some (.lst [.bl leaf, .ref l]) → H' l = some (.lst us) → RowsH H' us es → Q (.ref x) H'
theorem d_lnatH {C_TesseraError C_Unreadable C_Damaged CL CD : Addr} (T : Top K mg) (R : Errs K mg C_TesseraError C_Unreadable C_Damaged) (E_Damaged : EDef P w K mg base C_Damaged "Damaged" ["self", "address", "length"] (sp_i2 C_Damaged "address" "length")) (EH_Damaged : EDefH P w K mg base C_Damaged "Damaged" ["self", "address", "length"] (sp_i2 C_Damaged "address" "length")) (C_Log : Cl_Log K mg CL) (C_Disk : Cl_Disk K mg CD) : Def P w K mg base (L2.CX P w) 8 "_law_node_at" ["log", "pointer"] (sp_lnatH K CL CD) := by
  have M_Log_fetch : MDef P w K mg base (L2N.CX P w) 6 CL "fetch" ["self", "kind", "pointer"] (sp_lgfetch K CL CD C_Damaged) := d_lgfetch T E_Damaged C_Log C_Disk
  have MHX_Log_fetch : MDefH P w K mg base (L2.CX P w) 6 CL "fetch" ["self", "kind", "pointer"] (sp_lgfetch K CL CD C_Damaged) := hx_lgfetch T EH_Damaged C_Log C_Disk
  have G__law_node : Def P w K mg base CX0 3 "_law_node" ["content"] (sp_lnodeH K) := d_lnodeH T
  refine T.f__law_node_at.okX sc__law_node_at (by rintro vs H Q E ⟨p, t, g, leaf, ad, ln, es, rfl, _⟩; rfl) (fun f cdv A outer s H vs Q E hr h => ?_)
  obtain ⟨p, t, g, leaf, ad, ln, es, rfl, hL, hT, hfz, hwz, hN, q⟩ := h
  refine ⟨_, (pss_cons (ps_tryO (Wout := fun cls d _ H => E cls d H) rfl rfl ⟨rfl, by decide, Or.inl R.c_Damaged.at_⟩ (fun hd => L2H.passesAt_of rfl hd) (L2.takes_of rfl rfl rfl rfl) (fun W pn xe tk po => (pss_cons (ps_set (i := 2) sc__law_node_at.nd rfl (Or.inl rfl) (pe_methN (pv 0) C_Log.cl M_Log_fetch tk (hr.mono (by decide)) (pa_cons pe_int (pa_cons (pv 1) pa_nil))))
      (pss_one (ps_set (i := 3) sc__law_node_at.nd rfl (Or.inl rfl) pe_bl)))) (fun a oe cls d pn hz hf tkS hot => (pss_cons (ps_set (i := 2) sc__law_node_at.nd rfl (Or.inl rfl) (pe_methHX (pv 0) C_Log.cl MHX_Log_fetch tkS (L2H.roomH_mark (hr.mono (by decide)) _) hot (pa_cons pe_int (pa_cons (pv 1) pa_nil))))
      (pss_one (ps_set (i := 3) sc__law_node_at.nd rfl (Or.inl rfl) pe_bl)))))
      (pss_cons (ps_asg (pe_callD G__law_node (hr.mono (by decide)) (pa_cons (pv 2) pa_nil)) (pg_lst (n := 2) rfl (pgs_cons (pg_name (i := 4) sc__law_node_at.nd rfl (Or.inl rfl)) (pgs_cons (pg_name (i := 5) sc__law_node_at.nd rfl (Or.inl rfl)) pgs_nil))))
      (pss_cons (ps_if (PW.pt (pw_or (pt_cmpR op_ne (pv 5) (pe_callB (r := Evl.rLenS K) call_len_seq (by rfl) T.b_len (by decide +kernel) (pa_cons (pv 2) pa_nil)) (nomark _)) (pw_or (pt_cmpR op_lt (pe_callB (r := Evl.rLenS K) call_len_seq (by rfl) T.b_len (by decide +kernel) (pa_cons (pv 4) pa_nil)) pe_int (nomark _)) (pw_or1 (pt_cmpR op_gt (pe_callB (r := Evl.rLenS K) call_len_seq (by rfl) T.b_len (by decide +kernel) (pa_cons (pv 4) pa_nil)) pe_int (nomark _)))))) (pss_one (ps_ret (pe_lst (pa_cons (pv 3) (pa_cons pe_non pa_nil))))) pss_nil)
      (pss_one (ps_ret (pe_lst (pa_cons (pv 3) (pa_cons (pv 4) pa_nil)))))))), ?_⟩
  walk_at "rd"
  have hat := hN.at_
  have hln := hN.ln_
  have hrl := recD_len (kdI leaf) (nodeB es)
  have h1 := hN.pos
  have h8 := hN.le
  have hnl := node_len hN.ok (by omega)
  have hkd : 0 ≤ kdI leaf ∧ kdI leaf < 250 := by cases leaf <;> decide
  have hrok := rec_ok hkd (node_b es)
  have hend := hN.end_
  obtain ⟨e1, e2⟩ : ad < 1000000000 ∧ ln < 1000000000 := ⟨by omega, by omega⟩
  refine ⟨p, g.dx, _, rfl, hL.me, rfl, ?_⟩
  walk_at "rd"
  refine ⟨p, t, g, 1, ad, ln, rfl, hL, hT, hfz, hwz, tell_small ⟨by omega, by omega⟩, tell_small ⟨by omega, by omega⟩, fun h1' h2 => ?_, fun hno => ?_⟩
  · rw [hat] at h2
    have hk : leaf = true := by
      cases leaf with
      | true => rfl
      | false => exact absurd (show (2 : Int) = 1 from h2.2.1) (by decide)
    subst hk
    rw [hat, show kdI true = 1 from rfl, recC_d]
    refine r_ret1 (Own.nil H) fun c H1 o1 => ?_
    walk_at "rd"
    refine ⟨c, es, rfl, o1.sqL 0 rfl, hN.ok, by omega, fun H2 y l us s2 hy hl hne hy2 hl2 hE => ?_⟩
    have o2 := o1.add2 s2 hy hl hne hy2 hl2
    have hul := hE.len
    refine r_gLst2 (o2.sqL 0 rfl) ?_
    walk_at "rd"
    refine rif_n (fun h => absurd (show ((nodeB es).length : Int) = (((nodeB es).map V.int).length : Int) by rw [List.length_map]) h) fun _ => ?_
    walk_at "rd"
    refine rif (fun h => absurd h (by omega)) fun _ => ?_
    walk_at "rd"
    refine rif (fun h => absurd h (by omega)) fun _ => ?_
    walk_at "rd"
    refine r_newLb o2 (Nat.le_of_ble_eq_true rfl) fun z H3 s3 o3 => ?_
    exact q H3 z l us o3.ex (o3.fresh 0 rfl) (o3.fresh 2 rfl) (o3.ne (i := 0) (j := 2) rfl rfl (by decide)) (o3.at 0 rfl) (o3.at 2 rfl) (RowsH.up hE (.of s3))
  · have hk : leaf = false := by
      cases leaf with
      | false => rfl
      | true => exact absurd ⟨by rw [hat, hrl, hln]; exact Nat.le_refl _, by rw [hat]; exact hrok⟩ hno
    subst hk
    refine r_retE (Own.nil H) fun d H0 hd o0 => ?_
    refine wo_yes (R.c_Damaged.exm R.s_Damaged_Damaged) fun a0 na => ?_
    walk_at "rd"
    refine ⟨p, g.dx, _, rfl, (hL.up o0.ex).me, rfl, ?_⟩
    walk_at "rd"
    refine ⟨p, t, g, 2, ad, ln, rfl, hL.up o0.ex, o0.oldT hT, hfz, hwz, tell_small ⟨by omega, by omega⟩, tell_small ⟨by omega, by omega⟩, fun _ _ => ?_, fun hno => absurd ⟨by rw [hat, hrl, hln]; exact Nat.le_refl _, by rw [hat]; exact hrok⟩ hno⟩
    rw [hat, recC_d]
    refine r_ret1 o0 fun c H1 o1 => ?_
    walk_at "rd"
    refine ⟨c, es, rfl, o1.sqL 0 rfl, hN.ok, by omega, fun H2 y l us s2 hy hl hne hy2 hl2 hE => ?_⟩
    have o2 := o1.add2 s2 hy hl hne hy2 hl2
    have hul := hE.len
    refine r_gLst2 (o2.sqL 0 rfl) ?_
    walk_at "rd"
    refine rif_n (fun h => absurd (show ((nodeB es).length : Int) = (((nodeB es).map V.int).length : Int) by rw [List.length_map]) h) fun _ => ?_
    walk_at "rd"
    refine rif (fun h => absurd h (by omega)) fun _ => ?_
    walk_at "rd"
    refine rif (fun h => absurd h (by omega)) fun _ => ?_
    walk_at "rd"
    refine r_newLb o2 (Nat.le_of_ble_eq_true rfl) fun z H3 s3 o3 => ?_
    exact q H3 z l us o3.ex (o3.fresh 0 rfl) (o3.fresh 2 rfl) (o3.ne (i := 0) (j := 2) rfl rfl (by decide)) (o3.at 0 rfl) (o3.at 2 rfl) (RowsH.up hE (.of s3))
end

section
variable {P : Program} {w : World} {K : PySem.W.Frag} {mg : Str → Option Value} {base : Heap}
/-! ### find -/
def FoundV (K : PySem.W.Frag) (H : Hp) (v : V) (key : List Int) (lf : List Ent) : Prop := (v = .non ∧ ∀ e ∈ lf, e.k ≠ key) ∨ ∃ e ∈ lf, e.k = key ∧ ∃ tp, v = .ref tp ∧ ptrT K H tp e.ad e.ln
def sp_findX (K : PySem.W.Frag) (CL CD C : Addr) : Sp := fun vs H Q E => ∃ (p t tk : Addr) (g g' : LG) (bad : Option Nat) (d : Nat) (r : Ent) (nd es : List Ent) (key : List Int) (ps : List (Nat × Nat)) (lf : List Ent), vs = [.ref p, .ref t, .ref tk] ∧ 3 ≤ r.ln ∧ LogAt CL CD H p g' ∧ ptrT K H t r.ad r.ln ∧ SqT K H tk (key.map V.int) ∧
  g'.fs.length ≤ 1000000 ∧ g'.ws.length ≤ 1000000 ∧ Cur g d r nd es ∧ Asc es ∧ d ≤ 1000 ∧ Hurt g g' bad ∧ PathP g key d r ps lf ∧
  (∀ q ∈ ps, bad = some q.1 → RetE H E C [("length", .int q.2), ("address", .int q.1)]) ∧
  ((∀ q ∈ ps, bad ≠ some q.1) → ∀ H' v, Same H H' → FoundV K H' v key lf → Q v H')
theorem d_findX {C_TesseraError C_Unreadable C_Damaged CL CD : Addr} (T : Top K mg) (R : Errs K mg C_TesseraError C_Unreadable C_Damaged) (E_Unreadable : EDef P w K mg base C_Unreadable "Unreadable" ["self", "index"] (sp_i1 C_Unreadable "index")) (EH_Unreadable : EDefH P w K mg base C_Unreadable "Unreadable" ["self", "index"] (sp_i1 C_Unreadable "index"))
    (E_Damaged : EDef P w K mg base C_Damaged "Damaged" ["self", "address", "length"] (sp_i2 C_Damaged "address" "length")) (EH_Damaged : EDefH P w K mg base C_Damaged "Damaged" ["self", "address", "length"] (sp_i2 C_Damaged "address" "length")) (C_Log : Cl_Log K mg CL) (C_Disk : Cl_Disk K mg CD) : Def P w K mg base (L2.CX P w) 16 "find" ["log", "root", "key"] (sp_findX K CL CD C_Damaged) := by
  have G_way_to : Def P w K mg base (L2.CX P w) 15 "way_to" ["log", "root", "key"] (sp_waytoX K CL CD C_Damaged) := d_waytoX T R E_Unreadable EH_Unreadable E_Damaged EH_Damaged C_Log C_Disk
  obtain ⟨a_NOWHERE, g_NOWHERE, h_NOWHERE⟩ := T.g_NOWHERE
  refine T.f_find.okX sc_find (by rintro vs H Q E ⟨p, t, tk, g, g', bad, d, r, nd, es, key, ps, lf, rfl, _⟩; rfl) (fun f cdv A outer s H vs Q E hr h => ?_)
  obtain ⟨p, t, tk, g, g', bad, d, r, nd0, es, key, ps0, lf0, rfl, hln, hL, hT, hK, hfz, hwz, hcur0, hA, hd, hu, hp0, qe, q⟩ := h
  refine ⟨_, (pss_cons (ps_if (pt_cmpR (r := rEqD K) (op_eqD hr.units) (pv 1) (pe_glob (v := .ref a_NOWHERE) rfl g_NOWHERE rfl) (nomark _)) (pss_one (ps_ret pe_non)) pss_nil)
      (pss_cons (ps_asg (pe_callX G_way_to (L2.takes_of rfl rfl rfl rfl) (hr.mono (by decide)) (pa_cons (pv 0) (pa_cons (pv 1) (pa_cons (pv 2) pa_nil)))) (pg_tup (n := 2) rfl (pgs_cons (pg_name (i := 3) sc_find.nd rfl (Or.inl rfl)) (pgs_cons (pg_name (i := 4) sc_find.nd rfl (Or.inl rfl)) pgs_nil))))
      (pss_cons (ps_for (passes_of rfl) rfl (pi_list (pv 4)) (pg_tup (n := 2) rfl (pgs_cons (pg_name (i := 5) sc_find.nd rfl (Or.inl rfl)) (pgs_cons (pg_name (i := 6) sc_find.nd rfl (Or.inl rfl)) pgs_nil))) (pss_one (ps_if (pt_cmpR (r := rEqD K) (op_eqD hr.units) (pv 5) (pv 2) (nomark _)) (pss_one (ps_ret (pv 6))) pss_nil)))
      (pss_one (ps_ret pe_non))))), ?_⟩
  walk_at "rd"
  refine r_eqTT hT (show SqT K H a_NOWHERE (([0, 0] : List Int).map V.int) from h_NOWHERE H) ?_
  walk_at "rd"
  refine rif (fun h => absurd (List.cons.inj (List.cons.inj h).2).1 (by omega)) fun _ => ?_
  walk_at "rd"
  refine ⟨p, t, tk, g, g', bad, d, r, nd0, es, key, ps0, lf0, rfl, hL, hT, hK, hfz, hwz, hcur0, hA, hd, hu, hp0, qe, fun hnb H1 x wl pl vs us way B A s1 hx hwl hx1 hwl1 hW hpl1 hE hWT _ hes hB0 hA0 => ?_⟩
  have o1 := (Own.nil H).add s1 hx hx1
  refine r_gTup2 (o1.sqT 0 rfl) ?_
  walk_at "rd"
  have hS1 : SqL K H1 pl us := SqL.of hpl1
  refine forL hS1 (fun i σ' H' => ∃ (v5 v6 : Option V), σ' = [some (.ref p), some (.ref t), some (.ref tk), some (.ref wl), some (.ref pl), v5, v6] ∧ H' = H1 ∧ ∀ e ∈ lf0.take i, e.k ≠ key) ⟨_, _, rfl, rfl, fun e he => by cases he⟩ (fun i σ' H' _ ⟨_, _, _, hH, _⟩ => by rw [hH]; exact hS1) ?_ ?_
  · rintro i v σ' H' hv ⟨v5, v6, rfl, hH, hno⟩
    have hH2 : H1 = H' := hH.symm
    subst hH2
    obtain ⟨e, he, tE⟩ := hE.get hv
    obtain ⟨te, tk2, tp2, rfl, f1, f2, f3⟩ := entV tE
    refine r_gTup2 f1 ?_
    walk_at "rd"
    refine r_eqTT f2 ((Stp.of s1).sq hK) ?_
    walk_at "rd"
    refine rif (fun h => ?_) fun h => ?_
    · walk_at "rd"
      exact q hnb H1 _ s1 (.inr ⟨e, List.mem_of_getElem? he, h, tp2, rfl, f3⟩)
    · walk_at "rd"
      refine ⟨_, _, rfl, rfl, fun e2 he2 => ?_⟩
      rw [List.take_add_one, he] at he2
      rcases List.mem_append.mp he2 with he2 | he2
      · exact hno e2 he2
      · rw [List.mem_singleton.mp he2]
        exact h
  · rintro σ' H' ⟨v5, v6, rfl, hH, hno⟩
    have hH2 : H1 = H' := hH.symm
    subst hH2
    walk_at "rd"
    refine q hnb H1 _ s1 (.inl ⟨rfl, ?_⟩)
    rw [hE.len, List.take_length] at hno
    exact hno
/-! ### node_pointers -/
def KidsP (R : Ent → List (Nat × Nat) → Prop) : List Ent → List (Nat × Nat) → Prop
  | [], ps => ps = []
  | k :: ks, ps => ∃ a b, ps = a ++ b ∧ R k a ∧ KidsP R ks b
def PreT (g : LG) : Nat → Ent → List (Nat × Nat) → Prop
  | 0, p, ps => (∃ es, NodeAt g 1 p.ad p.ln es) ∧ ps = [(p.ad, p.ln)]
  | d + 1, p, ps => ∃ kids qs, NodeAt g 2 p.ad p.ln kids ∧ KidsP (PreT g d) kids qs ∧ ps = (p.ad, p.ln) :: qs
theorem KidsP.ex {R : Ent → List (Nat × Nat) → Prop} {R2 : Ent → List Ent → Prop} (h : ∀ k es, R2 k es → ∃ ps, R k ps ∧ ps.length + 1 ≤ 2 * es.length) : ∀ {ks es : List Ent}, KidsR R2 ks es → ∃ ps, KidsP R ks ps ∧ ps.length + ks.length ≤ 2 * es.length
  | [], es, e => by
    rw [show es = [] from e]
    exact ⟨[], rfl, Nat.le_refl _⟩
  | k :: ks, es, ⟨part, rest, e, r, _, q⟩ => by
    obtain ⟨a, ha, hl⟩ := h k part r
    obtain ⟨b, hb, hl2⟩ := KidsP.ex h q
    refine ⟨a ++ b, ⟨a, b, rfl, ha, hb⟩, ?_⟩
    rw [e, List.length_append, List.length_append, List.length_cons]
    omega
theorem PreT.ex {g : LG} : ∀ (d : Nat) {p : Ent} {es : List Ent}, IsT g d p es → ∃ ps, PreT g d p ps ∧ ps.length + 1 ≤ 2 * es.length
  | 0, p, es, h => ⟨_, ⟨⟨es, h⟩, rfl⟩, by have := NodeR.pos (NodeAt.toNodeR h); simp only [List.length_cons, List.length_nil]; omega⟩
  | d + 1, p, es, ⟨kids, h, q⟩ => by
    obtain ⟨ps, hp, hl⟩ := KidsP.ex (R := PreT g d) (fun k part r => PreT.ex d r) q
    have := h.bd.nk rfl
    exact ⟨_, ⟨kids, ps, h, hp, rfl⟩, by rw [List.length_cons]; omega⟩
theorem PreT.head {g : LG} {d : Nat} {p : Ent} {ps : List (Nat × Nat)} (h : PreT g d p ps) : ∃ qs, ps = (p.ad, p.ln) :: qs := by
  cases d with
  | zero => exact ⟨[], h.2⟩
  | succ d =>
    obtain ⟨kids, qs, _, _, e⟩ := h
    exact ⟨qs, e⟩
theorem PreT.node {g : LG} {d : Nat} {p : Ent} {ps : List (Nat × Nat)} (h : PreT g d p ps) : ∃ nd, NodeAt g (kdI (decide (d = 0))) p.ad p.ln nd := by
  cases d with
  | zero => exact h.1
  | succ d =>
    obtain ⟨kids, qs, h, _, e⟩ := h
    exact ⟨kids, h⟩
/-- values that are pointers -/
def PtrsV (K : PySem.W.Frag) (H : Hp) (vs : List V) (ps : List (Nat × Nat)) : Prop := TpAll K H vs (ps.map fun q => .tuple (([(q.1 : Int), (q.2 : Int)] : List Int).map PyData.int))
theorem PtrsV.len {H : Hp} {vs : List V} {ps : List (Nat × Nat)} (h : PtrsV K H vs ps) : vs.length = ps.length := by
  have := TpAll.len h
  rw [List.length_map] at this
  exact this
theorem ptr_tp {H : Hp} {t : Addr} {a l : Nat} (h : ptrT K H t a l) : Tp K H (.ref t) (.tuple (([(a : Int), (l : Int)] : List Int).map PyData.int)) := Tp.intsT h
theorem PtrsV.get {H : Hp} {vs : List V} {ps : List (Nat × Nat)} {i : Nat} {v : V} (h : PtrsV K H vs ps) (hv : vs[i]? = some v) : ∃ q t, ps[i]? = some q ∧ v = .ref t ∧ ptrT K H t q.1 q.2 := by
  obtain ⟨d, hd, t⟩ := TpAll.getV h hv
  rw [List.getElem?_map] at hd
  cases e : ps[i]? with
  | none => rw [e] at hd; cases hd
  | some q =>
    rw [e] at hd
    cases hd
    obtain ⟨a, rfl, h2⟩ := t.invI
    exact ⟨q, a, rfl, rfl, h2⟩
theorem PtrsV.up {H H' : Hp} {vs : List V} {ps : List (Nat × Nat)} (h : PtrsV K H vs ps) (s : Stp H H') : PtrsV K H' vs ps := TpAll.up h s
theorem PtrsV.app {H : Hp} {vs ws : List V} {ps qs : List (Nat × Nat)} (h : PtrsV K H vs ps) (h2 : PtrsV K H ws qs) : PtrsV K H (vs ++ ws) (ps ++ qs) := by
  unfold PtrsV
  rw [List.map_append]
  exact TpAll.app h h2
theorem PtrsV.one {H : Hp} {t : Addr} {a l : Nat} (h : ptrT K H t a l) : PtrsV K H [.ref t] [(a, l)] := .cons (ptr_tp h) .nil
def sp_np (K : PySem.W.Frag) (CL CD : Addr) (d : Nat) : Sp := fun vs H Q _ => ∃ (p t : Addr) (g : LG) (m : Ent) (ps : List (Nat × Nat)), vs = [.ref p, .ref t] ∧ 3 ≤ m.ln ∧ LogAt CL CD H p g ∧ ptrT K H t m.ad m.ln ∧ g.fs.length ≤ 1000000 ∧ g.ws.length ≤ 1000000 ∧
  PreT g d m ps ∧ ps.length ≤ 1000 ∧ ∀ H' l vs, Same H H' → H l = none → H' l = some (.lst vs) → PtrsV K H' vs ps → Q (.ref l) H'
def npN (K : PySem.W.Frag) (CL CD : Addr) (n : Nat) : Sp := fun vs H Q E => ∃ d, d < n ∧ sp_np K CL CD d vs H Q E
theorem KidsP.take {R : Ent → List (Nat × Nat) → Prop} : ∀ {ks : List Ent} {ps : List (Nat × Nat)} (i : Nat), KidsP R ks ps → ∃ a b, ps = a ++ b ∧ KidsP R (ks.take i) a ∧ KidsP R (ks.drop i) b
  | ks, ps, 0, h => ⟨[], ps, rfl, rfl, h⟩
  | [], ps, i + 1, h => ⟨[], ps, rfl, rfl, h⟩
  | k :: ks, ps, i + 1, ⟨a, b, e, r, q⟩ => by
    obtain ⟨c, d, e2, q1, q2⟩ := KidsP.take i q
    exact ⟨a ++ c, d, by rw [e, e2, List.append_assoc], ⟨a, c, rfl, r, q1⟩, q2⟩
theorem KidsP.snoc {R : Ent → List (Nat × Nat) → Prop} {k : Ent} {c : List (Nat × Nat)} (h : R k c) : ∀ {ks : List Ent} {ps : List (Nat × Nat)}, KidsP R ks ps → KidsP R (ks ++ [k]) (ps ++ c)
  | [], ps, e => by
    rw [show ps = [] from e]
    exact ⟨c, [], (List.append_nil _).symm, h, rfl⟩
  | k0 :: ks, ps, ⟨a, b, e, r, q⟩ => ⟨a, b ++ c, by rw [e, List.append_assoc], r, KidsP.snoc h q⟩
theorem d_np {C_TesseraError C_Unreadable C_Damaged CL CD : Addr} (T : Top K mg) (R : Errs K mg C_TesseraError C_Unreadable C_Damaged) (E_Unreadable : EDef P w K mg base C_Unreadable "Unreadable" ["self", "index"] (sp_i1 C_Unreadable "index")) (EH_Unreadable : EDefH P w K mg base C_Unreadable "Unreadable" ["self", "index"] (sp_i1 C_Unreadable "index"))
    (E_Damaged : EDef P w K mg base C_Damaged "Damaged" ["self", "address", "length"] (sp_i2 C_Damaged "address" "length")) (EH_Damaged : EDefH P w K mg base C_Damaged "Damaged" ["self", "address", "length"] (sp_i2 C_Damaged "address" "length")) (C_Log : Cl_Log K mg CL) (C_Disk : Cl_Disk K mg CD) : ∀ n : Nat, Def P w K mg base CX0 (14 + n) "node_pointers" ["log", "root"] (npN K CL CD n) := by
  intro n
  have Z_read_node : Def P w K mg base CX0 13 "read_node" ["log", "pointer"] (spZ (sp_rnodeX K CL CD C_Damaged)) := (d_rnodeX T R E_Unreadable EH_Unreadable E_Damaged EH_Damaged C_Log C_Disk).toZ
  obtain ⟨a_NOWHERE, g_NOWHERE, h_NOWHERE⟩ := T.g_NOWHERE
  obtain ⟨t2, g_INNER⟩ := T.g_INNER
  induction n with
  | zero =>
    obtain ⟨f, fd, F, r⟩ := (def_none (P := P) (w := w) (base := base) (k := 14 + 0) T.f_node_pointers).ex
    exact ⟨f, fd, F.imp fun vs H Q E ⟨d, h, _⟩ => absurd h (Nat.not_lt_zero _), r⟩
  | succ n ih =>
    have G_node_pointers := ih
    refine T.f_node_pointers.ok sc_node_pointers (by rintro vs H Q E ⟨d, hd, p, t, g, m, ps, rfl, _⟩; rfl) (fun f cdv A outer s H vs Q E hr h => ?_)
    obtain ⟨d, hdn, p, t, g, m, ps, rfl, hln, hL, hT, hfz, hwz, hP, hps, q⟩ := h
    have hr : Room (14 + n) (A.deeper (envOfC "node_pointers" (defScope s_node_pointers) s.heap.objs.size f cdv)) := hr
    obtain ⟨nd, hN⟩ := hP.node
    refine ⟨_, (pss_cons (ps_if (pt_cmpR (r := rEqD K) (op_eqD hr.units) (pv 1) (pe_glob (v := .ref a_NOWHERE) rfl g_NOWHERE rfl) (nomark _)) (pss_one (ps_ret (pe_lst pa_nil))) pss_nil)
      (pss_cons (ps_set (i := 2) sc_node_pointers.nd rfl (Or.inl rfl) (pe_lst (pa_cons (pv 1) pa_nil)))
      (pss_cons (ps_asg (pe_callD Z_read_node (hr.mono (by omega)) (pa_cons (pv 0) (pa_cons (pv 1) pa_nil))) (pg_tup (n := 2) rfl (pgs_cons (pg_name (i := 3) sc_node_pointers.nd rfl (Or.inl rfl)) (pgs_cons (pg_name (i := 4) sc_node_pointers.nd rfl (Or.inl rfl)) pgs_nil))))
      (Evl.pss_cut (ps_if (pt_cmpR op_eq (pv 3) (pe_glob (v := .int 2) rfl g_INNER ⟨_, rfl⟩) (nomark _)) (pss_one (ps_for PassesOwn.never rfl (pi_list (pv 4)) (pg_tup (n := 2) rfl (pgs_cons (pg_name (i := 5) sc_node_pointers.nd rfl (Or.inl rfl)) (pgs_cons (pg_name (i := 6) sc_node_pointers.nd rfl (Or.inl rfl)) pgs_nil))) (pss_one (ps_expr (pe_bm PySem.F.plainAttrs_list PySem.F.slot_list_extend PySem.F.type_list_extend mt_extend (pv 2) (pa_cons (pe_callD G_node_pointers (hr.mono (by omega)) (pa_cons (pv 0) (pa_cons (pv 6) pa_nil))) pa_nil)))))) pss_nil)
      (pss_one (ps_ret (pv 2))))))), ?_⟩
    walk_at "rd"
    refine r_eqTT hT (show SqT K H a_NOWHERE (([0, 0] : List Int).map V.int) from h_NOWHERE H) ?_
    walk_at "rd"
    refine rif (fun h => absurd (List.cons.inj (List.cons.inj h).2).1 (by omega)) fun _ => ?_
    walk_at "rd"
    refine r_newLs (Own.nil H) (Nat.le_of_ble_eq_true rfl) fun pf H1 s1 o1 => ?_
    walk_at "rd"
    refine ⟨p, t, g, m.ad, m.ln, rfl, LogAt.up hL o1.ex, s1.sq hT, hfz, hwz, .inl ⟨decide (d = 0), nd, hN.toNodeR, fun H2 x l us s2 hx hl hne hx2 hl2 hE => ?_⟩⟩
    have o2 := o1.add2 s2 hx hl hne hx2 hl2
    have hul := hE.len
    have h8 := hN.le
    walk_at "rd"
    refine ⟨fun σ' H' => ∃ (v3 v4 v5 v6 : Option V) (fs : List V), σ' = [some (.ref p), some (.ref t), some (.ref pf), v3, v4, v5, v6] ∧ Same H H' ∧ H' pf = some (.lst fs) ∧ PtrsV K H' fs ps, ?_, ?_⟩
    rotate_left
    · rintro σ' H' ⟨v3, v4, v5, v6, fs, rfl, s', h', hF⟩
      walk_at "rd"
      exact q H' pf fs s' (o1.fresh 0 rfl) h' hF
    walk_at "rd"
    cases d with
    | zero =>
      refine rif (fun h => absurd h (by decide)) fun _ => ?_
      walk_at "rd"
      refine ⟨_, _, _, _, [.ref t], rfl, o2.ex, o2.at 2 rfl, ?_⟩
      rw [hP.2]
      exact PtrsV.one ((Stp.of o2.ex).sq hT)
    | succ d =>
      obtain ⟨kids, qs, hN2, hK, rfl⟩ := hP
      have e := nodeAt_uniq hN2 hN
      subst e
      refine rif (fun _ => ?_) fun h => absurd rfl h
      walk_at "rd"
      have zf := o2.at 2 rfl
      have sBs := own_same (B := H) (H := H1) (w := pf) (u := .lst [.ref t]) ⟨o1.ex, o1.fr, o1.nd⟩ s2
      have hlB : delH H2 pf l = some (.lst us) := (delH_ne (Ne.symm (o2.ne (i := 2) (j := 1) rfl rfl (by decide)))).trans hl2
      have hEB : EntsV K (delH H2 pf) us kids := TpAll.up hE (stp_del zf)
      have hTB := (Stp.of sBs).sq hT
      refine forL (SqL.of hl2) (fun i σ' H' => ∃ (v5 v6 : Option V) (fs : List V) (a b : List (Nat × Nat)), σ' = [some (.ref p), some (.ref t), some (.ref pf), some (.int 2), some (.ref l), v5, v6] ∧ (∃ L, Own (delH H2 pf) H' ((pf, .lst fs) :: L)) ∧ qs = a ++ b ∧ KidsP (PreT g d) (kids.take i) a ∧ KidsP (PreT g d) (kids.drop i) b ∧ PtrsV K H' fs ((m.ad, m.ln) :: a)) ⟨_, _, _, [], qs, rfl, ⟨[], take_l zf⟩, rfl, rfl, hK, PtrsV.one ((Stp.of o2.ex).sq hT)⟩ (fun i σ' H' _ ⟨_, _, _, _, _, _, ⟨_, o⟩, _⟩ => o.old (SqL.of hlB)) ?_ ?_
      · rintro i v σ' H' hv ⟨v5, v6, fs, a, b, rfl, ⟨L, o⟩, e, k1, k2, hF⟩
        obtain ⟨ke, hke, tE⟩ := hEB.get hv
        obtain ⟨te, tk, tp, rfl, f1, f2, f3⟩ := entV tE
        rw [drop_cons hke] at k2
        obtain ⟨c, b2, rfl, r1, k3⟩ := k2
        obtain ⟨nd3, hN3⟩ := r1.node
        have hfl := hF.len
        have hql := congrArg List.length e
        rw [List.length_append, List.length_append] at hql
        rw [List.length_cons] at hps hfl
        refine r_gTup2 (o.oldT f1) ?_
        walk_at "rd"
        refine ⟨d, by omega, p, tp, g, ke, c, rfl, by rw [hN3.ln_]; omega, LogAt.up hL (sBs.trans o.ex), (Stp.of o.ex).sq f3, hfz, hwz, r1, by omega, fun H3 l3 vs3 s3 hl3 h3 hV => ?_⟩
        have o3 := o.add s3 hl3 h3
        have hvl := hV.len
        walk_at "rd"
        refine r_exts o3 1 0 rfl rfl (by omega) fun H4 s4 o4 => ?_
        have o5 : Own (delH H2 pf) H4 ((l3, .lst vs3) :: (pf, .lst (fs ++ vs3)) :: L) := o4
        refine ⟨_, _, fs ++ vs3, a ++ c, b2, rfl, ⟨[], o5.pick [1] (by decide)⟩, by rw [e, List.append_assoc], ?_, k3, ?_⟩
        · rw [List.take_add_one, hke]
          exact KidsP.snoc r1 k1
        · exact PtrsV.app ((hF.up (.of s3)).up s4) (hV.up s4)
      · rintro σ' H' ⟨v5, v6, fs, a, b, rfl, ⟨L, o⟩, e, k1, k2, hF⟩
        rw [hul, List.drop_length] at k2
        rw [show b = [] from k2, List.append_nil] at e
        subst e
        walk_at "rd"
        exact ⟨_, _, _, _, fs, rfl, sBs.trans o.ex, o.at 0 rfl, hF⟩
end

def tupI (p : List Int) : PyData := .tuple (p.map PyData.int)
/-! ### lists of tuples of ints compared -/
theorem shaped_tup (p : List Int) : PyData.canLay0 (tupI p) = true := canLay_ints p
theorem canLay_tups : ∀ ps : List (List Int), PyData.canLayAll0 (ps.map tupI) = true
  | [] => rfl
  | p :: ps => by
    show (PyData.canLay0 (tupI p) && PyData.canLayAll0 (ps.map tupI)) = true
    rw [canLay_tups ps, shaped_tup]
    rfl
theorem depth_tup (p : List Int) : PyData.depth (tupI p) ≤ 2 := by
  have h := depth_ints p
  show PyData.depthAll (p.map PyData.int) + 1 ≤ 2
  omega
theorem depth_tups : ∀ ps : List (List Int), PyData.depthAll (ps.map tupI) ≤ 2
  | [] => Nat.zero_le _
  | p :: ps => by
    have h := depth_tups ps
    show max (PyData.depth (tupI p)) (PyData.depthAll (ps.map tupI)) ≤ 2
    exact Nat.max_le.mpr ⟨depth_tup p, h⟩
theorem shaped_tups (ps : List (List Int)) : SeqAt.shaped (.list (ps.map tupI)) = true := by
  unfold SeqAt.shaped
  rw [Bool.and_eq_true]
  refine ⟨canLay_tups ps, decide_eq_true ?_⟩
  have h := depth_tups ps
  show PyData.depthAll (ps.map tupI) + 1 ≤ 64
  omega
theorem eqv_tup (p q : List Int) : PyData.eqv (tupI p) (tupI q) = decide (p = q) := by
  unfold tupI
  rw [PyData.eqv]
  exact eqvAll_ints p q
theorem eqvAll_tups : ∀ ps qs : List (List Int), PyData.eqvAll (ps.map tupI) (qs.map tupI) = decide (ps = qs)
  | [], [] => by simp [PyData.eqvAll]
  | [], _ :: _ => by simp [PyData.eqvAll]
  | _ :: _, [] => by simp [PyData.eqvAll]
  | p :: ps, q :: qs => by
    show (PyData.eqv (tupI p) (tupI q) && PyData.eqvAll (ps.map tupI) (qs.map tupI)) = _
    rw [eqvAll_tups ps qs, eqv_tup]
    simp
theorem _root_.RD.TpAll.dpA {K : PySem.W.Frag} {H : Hp} {vs : List V} {ds : List PyData} (h : TpAll K H vs ds) : DpAll K H vs ds := TpAll.dp ds vs h
section
variable {K : PySem.W.Frag} {H : Hp} {Q : VK} {a b : Addr} {vs us : List V} {ps qs : List (List Int)}
theorem r_eqLTu (h : SqL K H a vs) (t : TpAll K H vs (ps.map tupI)) (h2 : SqL K H b us) (t2 : TpAll K H us (qs.map tupI)) (q : Q (.bl (decide (ps = qs))) H) : rEqD K (.ref a) (.ref b) H Q :=
  ⟨_, _, .lst h t.dpA, .lst h2 t2.dpA, shaped_tups ps, shaped_tups qs, by
    have e : PyData.eqv (.list (ps.map tupI)) (.list (qs.map tupI)) = decide (ps = qs) := by rw [PyData.eqv]; exact eqvAll_tups ps qs
    rw [e]; exact q⟩
theorem r_neLTu (h : SqL K H a vs) (t : TpAll K H vs (ps.map tupI)) (h2 : SqL K H b us) (t2 : TpAll K H us (qs.map tupI)) (q : Q (.bl (!decide (ps = qs))) H) : rNeD K (.ref a) (.ref b) H Q :=
  ⟨_, _, .lst h t.dpA, .lst h2 t2.dpA, shaped_tups ps, shaped_tups qs, by
    have e : PyData.eqv (.list (ps.map tupI)) (.list (qs.map tupI)) = decide (ps = qs) := by rw [PyData.eqv]; exact eqvAll_tups ps qs
    rw [e]; exact q⟩
theorem r_neTTu {ns ms : List Int} (h : SqT K H a (ns.map V.int)) (h2 : SqT K H b (ms.map V.int)) (q : Q (.bl (!decide (ns = ms))) H) : rNeD K (.ref a) (.ref b) H Q :=
  ⟨_, _, dp_intsT h, dp_intsT h2, shaped_intsT ns, shaped_intsT ms, by
    have e : PyData.eqv (.tuple (ns.map PyData.int)) (.tuple (ms.map PyData.int)) = decide (ns = ms) := by rw [PyData.eqv]; exact eqvAll_ints ns ms
    rw [e]; exact q⟩
end

section
variable {P : Program} {w : World} {K : PySem.W.Frag} {mg : Str → Option Value} {base : Heap}
def ptrD (q : Nat × Nat) : PyData := .tuple (([(q.1 : Int), (q.2 : Int)] : List Int).map PyData.int)
def toldP (q : Nat × Nat) : PyData := .tuple [.str (PySem.Str.ofString "pointer"), ptrD q]
def toldD (q : Nat × Nat) : PyData := .tuple [.str (PySem.Str.ofString "Damaged"), ptrD q]
def sp_told42 (K : PySem.W.Frag) (CL CD : Addr) : Sp := fun vs H Q _ => ∃ (p t tk : Addr) (g g' : LG) (bad : Option Nat) (d : Nat) (r : Ent) (nd es : List Ent) (key : List Int) (ps : List (Nat × Nat)) (lf : List Ent), vs = [.ref p, .ref t, .ref tk] ∧ 3 ≤ r.ln ∧ LogAt CL CD H p g' ∧ ptrT K H t r.ad r.ln ∧ SqT K H tk (key.map V.int) ∧
  g'.fs.length ≤ 1000000 ∧ g'.ws.length ≤ 1000000 ∧ Cur g d r nd es ∧ Asc es ∧ d ≤ 1000 ∧ Hurt g g' bad ∧ PathP g key d r ps lf ∧ (∃ e ∈ lf, e.k = key) ∧
  (∀ q ∈ ps, bad = some q.1 → RetD K H Q (toldD q)) ∧
  ((∀ q ∈ ps, bad ≠ some q.1) → ∀ e ∈ lf, e.k = key → RetD K H Q (toldP (e.ad, e.ln)))
theorem d_told42 {C_TesseraError C_Unreadable C_Damaged CL CD : Addr} (T : Top K mg) (R : Errs K mg C_TesseraError C_Unreadable C_Damaged) (E_Unreadable : EDef P w K mg base C_Unreadable "Unreadable" ["self", "index"] (sp_i1 C_Unreadable "index")) (EH_Unreadable : EDefH P w K mg base C_Unreadable "Unreadable" ["self", "index"] (sp_i1 C_Unreadable "index"))
    (E_Damaged : EDef P w K mg base C_Damaged "Damaged" ["self", "address", "length"] (sp_i2 C_Damaged "address" "length")) (EH_Damaged : EDefH P w K mg base C_Damaged "Damaged" ["self", "address", "length"] (sp_i2 C_Damaged "address" "length")) (C_Log : Cl_Log K mg CL) (C_Disk : Cl_Disk K mg CD) : Def P w K mg base CX0 17 "_law_told" ["log", "root", "key"] (sp_told42 K CL CD) := by
  have G_find : Def P w K mg base (L2.CX P w) 16 "find" ["log", "root", "key"] (sp_findX K CL CD C_Damaged) := d_findX T R E_Unreadable EH_Unreadable E_Damaged EH_Damaged C_Log C_Disk
  refine T.f__law_told.ok sc__law_told (by rintro vs H Q E ⟨p, t, tk, g, g', bad, d, r, nd, es, key, ps, lf, rfl, _⟩; rfl) (fun f cdv A outer s H vs Q E hr h => ?_)
  obtain ⟨p, t, tk, g, g', bad, d, r, nd0, es, key, ps0, lf0, rfl, hln, hL, hT, hK, hfz, hwz, hcur0, hA, hd, hu, hp0, hex, qD, qP⟩ := h
  refine ⟨_, (pss_one (ps_tryA (i := 3) rfl rfl sc__law_told.nd rfl rfl ⟨rfl, by decide, Or.inl R.c_Damaged.at_⟩ (fun W pn xe tk po => (pss_one (ps_ret (pe_tup (pa_cons pe_str (pa_cons (pe_callX G_find tk (hr.mono (by decide)) (pa_cons (pv 0) (pa_cons (pv 1) (pa_cons (pv 2) pa_nil)))) pa_nil)))))) (fun a oe cls d pn hz hf => (pss_one (ps_ret (pe_tup (pa_cons pe_str (pa_cons (pe_tup (pa_cons (pe_xfD hz hf (pv 3)) (pa_cons (pe_xfD hz hf (pv 3)) pa_nil))) pa_nil)))))))), ?_⟩
  walk_at "rd"
  refine ⟨p, t, tk, g, g', bad, d, r, nd0, es, key, ps0, lf0, rfl, hln, hL, hT, hK, hfz, hwz, hcur0, hA, hd, hu, hp0, fun q hq hb => r_retE (Own.nil H) fun dx H1 hd1 o1 => ?_, fun hnb H1 v s1 hF => ?_⟩
  · refine w_yes (R.c_Damaged.exm R.s_Damaged_Damaged) fun a0 na0 => ?_
    walk_at "rd"
    refine ⟨rfl, C_Damaged, dx, _, _, rfl, R.c_Damaged.xf, R.i_Damaged.no _ List.mem_cons_self, rfl, o1.at 0 rfl, by rfl, ?_⟩
    walk_at "rd"
    refine ⟨rfl, C_Damaged, dx, _, _, rfl, R.c_Damaged.xf, R.i_Damaged.no _ (List.mem_cons_of_mem _ List.mem_cons_self), rfl, o1.at 0 rfl, by rfl, ?_⟩
    walk_at "rd"
    refine r_newTi (K := K) [(q.1 : Int), (q.2 : Int)] rfl o1 (Nat.le_of_ble_eq_true rfl) fun p4 H4 s4 o4 h4 => ?_
    walk_at "rd"
    refine r_newTp (K := K) (ds := [.str _, ptrD q]) o4 (.cons (.str _) (.cons (Tp.intsT h4) .nil)) (Nat.le_of_ble_eq_true rfl) fun p5 H5 s5 o5 t5 => ?_
    exact (qD q hq hb).mk o5 t5
  · have hF : ∃ e ∈ lf0, e.k = key ∧ ∃ tp, v = .ref tp ∧ ptrT K H1 tp e.ad e.ln := by
      rcases hF with ⟨_, hn⟩ | h
      · obtain ⟨e, he, hk⟩ := hex
        exact absurd hk (hn e he)
      · exact h
    obtain ⟨e, he, hk, tp, rfl, hp⟩ := hF
    have o1 := (Own.nil H).mono s1
    walk_at "rd"
    refine r_newTp (K := K) (ds := [.str _, ptrD (e.ad, e.ln)]) o1 (.cons (.str _) (.cons (Tp.intsT hp) .nil)) (Nat.le_of_ble_eq_true rfl) fun p5 H5 s5 o5 t5 => ?_
    exact (qP hnb e he hk).mk o5 t5
end

def kxx (ix : List Int) : List Key := ix.map Sum.inl
theorem kxx_v (ix : List Int) : (kxx ix).map kV = ix.map V.int := by
  unfold kxx
  rw [List.map_map]
  rfl

/-! ### sorted of tuples of ints of any lengths, and of dicts with such keys -/
section
open PyProof.Rows
/-- v is a tuple of these ints -/
def TI (h : Heap) (v : Value) (ns : List Int) : Prop := ∃ (a : Addr) (its : Array Value), v = .ref a ∧ IsTup h a its ∧ IntsAre its.toList ns
theorem TI.uniq {h : Heap} {v : Value} {ns ms : List Int} (x : TI h v ns) (y : TI h v ms) : ns = ms := by
  obtain ⟨a, its, rfl, ⟨o, ho, hc, n, hd⟩, hi⟩ := x
  obtain ⟨b, its2, e, ⟨o2, ho2, hc2, n2, hd2⟩, hi2⟩ := y
  cases e
  rw [ho] at ho2
  cases ho2
  rw [hd] at hd2
  cases hd2
  exact hi.numsOf.symm.trans hi2.numsOf
theorem TI.keep {h h' : Heap} {v : Value} {ns : List Int} (x : TI h v ns) (k : ∀ b o, h.get? b = some o → h'.get? b = some o) : TI h' v ns := by
  obtain ⟨a, its, e, ht, hi⟩ := x
  exact ⟨a, its, e, ht.keeps k, hi⟩
theorem ltK_neg (a b c : List Int) (h : ltK a c = true) : ltK a b = true ∨ ltK b c = true := by
  cases h1 : ltK a b with
  | true => exact .inl rfl
  | false =>
    refine .inr ?_
    cases h2 : ltK b c with
    | true => rfl
    | false =>
      cases h3 : ltK b a with
      | true => rw [ltK_trans h3 h] at h2; cases h2
      | false => rw [← ltK_tri h1 h3, h] at h2; cases h2
open Classical in
noncomputable def tKind (h : Heap) : PyProof.Rows.KeyKind where
  α := List Int
  blt := ltK
  irrefl := ltK_irr
  trans := fun _ _ _ => ltK_trans
  negTrans := ltK_neg
  total := fun _ _ => ltK_tri
  keyOf := fun v => if x : ∃ ns, TI h v ns then some x.choose else none
  dflt := []
open Classical in
theorem tKind_some {h : Heap} {v : Value} {ns : List Int} (x : TI h v ns) : (tKind h).keyOf v = some ns := by
  have e : ∃ ns, TI h v ns := ⟨ns, x⟩
  show (if x : ∃ ns, TI h v ns then some x.choose else none) = some ns
  rw [dif_pos e]
  exact congrArg some (e.choose_spec.uniq x)
open Classical in
theorem tKind_inv {h : Heap} {v : Value} {ns : List Int} (e : (tKind h).keyOf v = some ns) : TI h v ns := by
  have e2 : (if x : ∃ ns, TI h v ns then some x.choose else none) = some ns := e
  by_cases hx : ∃ ns, TI h v ns
  · rw [dif_pos hx] at e2
    rw [← Option.some.inj e2]
    exact hx.choose_spec
  · rw [dif_neg hx] at e2
    cases e2
theorem tupItems_ints {shape : Nat → Bool} (hs : ∀ i, shape i = false) : ∀ {its : List Value} {ns : List Int} (i : Nat), IntsAre its ns → tupItems shape i its = some (ns.map Sum.inl)
  | _, _, _, .nil => by simp [tupItems]
  | _, _, i, .cons n t h => by
    have ih := tupItems_ints hs (i + 1) h
    simp only [tupItems, hs i, ih]
    rfl
theorem lexLt_ints : ∀ a b : List Int, lexLt itemOrd (a.map Sum.inl) (b.map Sum.inl) = ltK a b
  | [], [] => rfl
  | [], y :: ys => by rw [ltK_cons0]; rfl
  | x :: xs, [] => by rw [ltK_nil]; rfl
  | x :: xs, y :: ys => by
    rw [ltK_cons, List.map_cons, List.map_cons]
    have ih := lexLt_ints xs ys
    unfold PyProof.Rows.lexLt
    rw [ih]
    have e1 : itemOrd.blt (Sum.inl x) (Sum.inl y) = decide (x < y) := rfl
    have e2 : itemOrd.blt (Sum.inl y) (Sum.inl x) = decide (y < x) := rfl
    rw [e1]
    try rw [e2]
    by_cases h : x = y
    · subst h
      simp
    · rw [if_neg h]
      by_cases h2 : x < y
      · simp [h2]
      · simp [h2]
        try omega
section
variable {prog : Program} {w : World} {A : Around} {E : Value → Shared → Prop} {s : Shared}
theorem tup_ltOp {h : Heap} {x y : Value} {ns ms : List Int} {Q : Value → Shared → Prop} (k : ∀ b o, h.get? b = some o → s.heap.get? b = some o) (hx : TI h x ns) (hy : TI h y ms) (hu : A.units < cLine) (q : ∀ b, b = ltK ns ms → Q (.bool b) s) : wpAny (model prog w) A (compareOp .Lt x y) Q E s := by
  obtain ⟨a, its, rfl, p1, i1⟩ := hx.keep k
  obtain ⟨b, its2, rfl, p2, i2⟩ := hy.keep k
  have e1 : its.size = ns.length := by rw [← Array.length_toList]; exact i1.length
  have e2 : its2.size = ms.length := by rw [← Array.length_toList]; exact i2.length
  have at1 : ∀ j (h1 : j < its.size), ∃ t, its[j] = .int (ns.getD j 0) t := fun j h1 => PyProof.Rows.IntsAre.int_at i1 _ _ (by simp [h1])
  have at2 : ∀ j (h1 : j < its2.size), ∃ t, its2[j] = .int (ms.getD j 0) t := fun j h1 => PyProof.Rows.IntsAre.int_at i2 _ _ (by simp [h1])
  have R := Ob.RcOp.tuples_lt (A := A) (s := s) (e := fun j => decide (ns.getD j 0 = ms.getD j 0)) (r := fun j => decide (ns.getD j 0 < ms.getD j 0)) p1 p2 hu (fun j h1 h2 => by
    obtain ⟨t, et⟩ := at1 j h1
    obtain ⟨t', et'⟩ := at2 j h2
    rw [et, et']
    rw [← beq_dec]
    exact SeqAt.EqAt.int_int _ _ _ _) (fun j h1 h2 _ => by
    obtain ⟨t, et⟩ := at1 j h1
    obtain ⟨t', et'⟩ := at2 j h2
    rw [et, et']
    exact Ob.RcOp.lt_int _ _ _ _)
  rw [e1, e2, lexAt_R (fun i j => decide (i < j)) _ ns ms 0 _ _ (fun j => by rw [Nat.zero_add]) (fun j => by rw [Nat.zero_add])] at R
  exact R prog w E Q (q _ rfl)
theorem ltAt_gen {h : Heap} (k : ∀ b o, h.get? b = some o → s.heap.get? b = some o) (hu : A.units < cLine) : PyProof.Rows.H.LtAt prog w A s (tKind h) general' := by
  intro E x y a b Q hx hy hq
  show wpAny (model prog w) A (oneLt' false x y) Q E s
  exact PySem.W.kat_one x y (tup_ltOp k (tKind_inv hx) (tKind_inv hy) hu fun c hc => (show Q c s by rw [hc]; exact hq))
theorem ltAt_one {h : Heap} (k : ∀ b o, h.get? b = some o → s.heap.get? b = some o) (hu : A.units < cLine) : PyProof.Rows.H.LtAt prog w A s (tKind h) oneType' := by
  intro E x y a b Q hx hy hq
  have hlt : HT.lexLt a b = ltK a b := by
    have go : ∀ xs ys : List Int, HT.lexLt xs ys = ltK xs ys := by
      intro xs
      induction xs with
      | nil => intro ys; cases ys <;> rfl
      | cons x xs ih =>
        intro ys
        cases ys with
        | nil => rw [ltK_nil]; rfl
        | cons y ys =>
          rw [ltK_cons]
          unfold HT.lexLt
          rw [ih ys]
    exact go a b
  obtain ⟨ad, its, rfl, ⟨o1, g1, c1, n1, d1⟩, i1⟩ := (tKind_inv hx).keep k
  obtain ⟨bd, its2, rfl, ⟨o2, g2, c2, n2, d2⟩, i2⟩ := (tKind_inv hy).keep k
  obtain ⟨cls1, dd1, data1, sl1⟩ := o1
  obtain ⟨cls2, dd2, data2, sl2⟩ := o2
  simp only at c1 d1 c2 d2
  subst c1 d1 c2 d2
  show wpAny (model prog w) A (oneLt' true (.ref ad) (.ref bd)) Q E s
  rw [oneLt'_eq]
  simp only [if_true]
  refine wpAny_bind (wpAny_cRoomFor hu ?_)
  have hcall : ∀ Q' : Value → Shared → Prop, Q' (.bool (ltK a b)) s → wpAny (model prog w) A (call (.builtin "tuple.__lt__") [.ref ad, .ref bd]) Q' E s := fun Q' hq' => by
    refine wpAny_call (codeAny_call_builtin PySem.F.slot_tuple_lt.plain PySem.F.entry_tuple_lt (PySem.F.slot_tuple_lt.check _ _ _ _ _ _ _ _ ⟨_, g1, rfl⟩ (PySem.F.args_tuple_lt_2 _ _) ?_))
    refine wpAny_mono (HT.tuple_lt_ints ad bd its its2 n1 n2 dd1 dd2 sl1 sl2 a b i1 i2 prog w _ (wants Q' E) s ⟨g1, g2, show Q' (.bool (HT.lexLt a b)) s by rw [hlt]; exact hq'⟩) (fun fin s' q => ?_) fun _ _ z => z
    cases fin with
    | done f => exact q
    | again c => exact q
  refine wpAny_bind (wpAny_callSpecialIfBound?_slot (name := Str.ofString "__lt__") (T := "tuple") ⟨_, g1, rfl⟩ PySem.F.slot_tuple_lt (hcall _ ?_))
  exact wpAny_truthy_bool hq
theorem firsts_of {h : Heap} : ∀ (vs : List Value) (ks : List (List Int)) {Q : List (Option Value) → Shared → Prop}, PySem.W.EachIs (TI h) vs ks → (∀ b o, h.get? b = some o → s.heap.get? b = some o) → (∀ fs : List (Option Value), fs.map Option.isSome = ks.map (fun k => decide (k ≠ [])) → (∀ v, some v ∈ fs → ∃ n t, v = Value.int n t) → Q fs s) → wpAny (model prog w) A (vs.mapM firstOfTuple') Q E s
  | _, _, Q, .nil, _, q => by
    rw [List.mapM_nil]
    exact wpAny_pure (q [] rfl fun v hv => by cases hv)
  | _, _, Q, .cons (a := v) (b := kx) (as := vs) (bs := ks) hx hr, k, q => by
    obtain ⟨a, its, rfl, ⟨o, ho, hc, n, hd⟩, hi⟩ := hx.keep k
    rw [List.mapM_cons]
    refine wpAny_bind ?_
    rw [PySem.W.kas_first_eq]
    refine wpAny_bind (PySem.W.Looks.here (show PySem.W.Looks (model prog w) s.heap (typeOf (.ref a)) o.cls from (PySem.W.Looks.ld ho).andThen .now) ?_)
    rw [hc, if_neg (by first | decide | simp)]
    refine wpAny_bind (listItems_at ho hd (wpAny_pure ?_))
    refine wpAny_bind (firsts_of vs ks (Q := fun bs s' => wpAny (model prog w) A (pure (its[0]? :: bs)) Q E s') hr k fun fs hf hv => wpAny_pure (q _ ?_ ?_))
    · rw [List.map_cons, List.map_cons, hf]
      congr 1
      have hl := hi.length
      rw [Array.length_toList] at hl
      cases kx with
      | nil => rw [Array.getElem?_eq_none (by rw [hl]; exact Nat.le_refl _)]; rfl
      | cons z zs => rw [Array.getElem?_eq_getElem (by rw [hl]; exact Nat.succ_pos _)]; rfl
    · intro v hv2
      rcases List.mem_cons.mp hv2 with e | hv2
      · have e1 : its.toList[0]? = some v := by rw [Array.getElem?_toList]; exact e.symm
        revert hi e1
        generalize its.toList = l
        intro hi e1
        cases hi with
        | nil => cases e1
        | cons m t r => cases e1; exact ⟨m, t, rfl⟩
      · exact hv v hv2
theorem katTups_ti {h : Heap} : ∀ (vs : List Value) (ks : List (List Int)), PySem.W.EachIs (TI h) vs ks → (∀ b o, h.get? b = some o → s.heap.get? b = some o) → (∀ x ∈ ks, x ≠ []) → ∃ fs, PySem.W.KatTups s.heap vs fs ∧ fs.length = vs.length ∧ ∀ v ∈ fs, ∃ n t, v = Value.int n t
  | _, _, .nil, _, _ => ⟨[], PySem.W.KatTups.nil, rfl, fun v hv => by cases hv⟩
  | _, _, .cons (a := v) (b := kx) (as := vs) (bs := ks) hx hr, k, hn => by
    obtain ⟨fs, h1, h2, h3⟩ := katTups_ti vs ks hr k fun x hx => hn x (List.mem_cons_of_mem _ hx)
    obtain ⟨a, its, rfl, ⟨o, ho, hc, n, hd⟩, hi⟩ := hx.keep k
    have hne := hn kx List.mem_cons_self
    have hf : ∃ m t, its[0]? = some (Value.int m t) := by
      rw [← Array.getElem?_toList]
      cases hl : its.toList with
      | nil => rw [hl] at hi; cases hi; exact absurd rfl hne
      | cons y ys => rw [hl] at hi; cases hi; exact ⟨_, _, rfl⟩
    obtain ⟨m, t, hf⟩ := hf
    refine ⟨Value.int m t :: fs, PySem.W.KatTups.cons ho hc hd hf h1, by rw [List.length_cons, List.length_cons, h2], fun v hv => ?_⟩
    rcases List.mem_cons.mp hv with rfl | hv
    · exact ⟨_, _, rfl⟩
    · exact h3 v hv
/-- such values may be sorted -/
theorem sortsAt_tups {h : Heap} {vs : List Value} {ks : List (List Int)} (e : PySem.W.EachIs (TI h) vs ks) (k : ∀ b o, h.get? b = some o → s.heap.get? b = some o) (hu : A.units < cLine) : PySem.W.SortsAt prog w A s (tKind h) vs := by
  refine ⟨fun v hv => ?_, ?_⟩
  · obtain ⟨ns, _, hx⟩ := e.left v hv
    exact ⟨ns, tKind_some hx⟩
  have hT : ∀ v ∈ vs, ∀ M : Model, PySem.W.Looks M s.heap (typeOf v) (.type "tuple") := fun v hv M => by
    obtain ⟨ns, _, hx⟩ := e.left v hv
    obtain ⟨a, its, rfl, ⟨o, ho, hc, n, hd⟩, hi⟩ := hx.keep k
    rw [← hc]
    exact (PySem.W.Looks.ld ho).andThen .now
  have hfs : ∀ {A' : Around} {E' : Value → Shared → Prop} {Q : List (Option Value) → Shared → Prop}, (∀ fs : List (Option Value), fs.map Option.isSome = ks.map (fun k => decide (k ≠ [])) → (∀ v, some v ∈ fs → ∃ n t, v = Value.int n t) → Q fs s) → wpAny (model prog w) A' (vs.mapM firstOfTuple') Q E' s := fun q => firsts_of vs ks e k q
  have hlen := e.length
  by_cases hall : ∀ x ∈ ks, x ≠ []
  · refine ⟨tuples' true, ?_, fun h2 E' Q hq => ?_⟩
    · intro E x y a b Q hx hy hq
      obtain ⟨ad, its, rfl, ⟨o1, g1, c1, n1, d1⟩, i1⟩ := (tKind_inv hx).keep k
      obtain ⟨bd, its2, rfl, ⟨o2, g2, c2, n2, d2⟩, i2⟩ := (tKind_inv hy).keep k
      refine PySem.W.kat_lt g1 d1 g2 d2 (tup_lex (shape := fun _ => false) its.toList its2.toList 0 _ _ (tupItems_ints (fun _ => rfl) 0 i1) (tupItems_ints (fun _ => rfl) 0 i2) (by rw [Array.length_toList, Array.length_toList]) ?_)
      exact (congrArg (fun z => Q z s) (lexLt_ints a b)).mpr hq
    · obtain ⟨fs, ht, hl, hi⟩ := katTups_ti vs ks e k hall
      refine PySem.W.kat_kind (T := Value.type "int") ht (by rw [hl, hlen]; rw [← hlen]; omega) (fun v hv => ?_) rfl ?_
      · obtain ⟨n, t, rfl⟩ := hi v hv
        exact PySem.W.Looks.of_pure rfl
      · have e1 : (Value.type "int" != Value.type "tuple") = true := by first | rfl | decide
        rw [e1]
        exact hq
  · have hex : ∃ x ∈ ks, x = [] := Classical.byContradiction fun h => hall fun x hx e0 => h ⟨x, hx, e0⟩
    have hno : ∀ fs : List (Option Value), fs.map Option.isSome = ks.map (fun k => decide (k ≠ [])) → ¬ (fs.toArray.all fun x => x.isSome) = true := by
      intro fs h1 ha
      rw [List.all_toArray, List.all_eq_true] at ha
      obtain ⟨x, hx, rfl⟩ := hex
      have : (false : Bool) ∈ ks.map (fun k => decide (k ≠ [])) := List.mem_map.mpr ⟨[], hx, rfl⟩
      rw [← h1] at this
      obtain ⟨z, hz, e2⟩ := List.mem_map.mp this
      rw [ha z hz] at e2
      cases e2
    have hfirst : ∀ fs : List (Option Value), fs.map Option.isSome = ks.map (fun k => decide (k ≠ [])) → ((fs.toArray[0]?).bind id).isSome = ((ks.head?.map fun k => decide (k ≠ [])).getD false) := by
      intro fs h1
      cases fs with
      | nil =>
        cases ks with
        | nil => rfl
        | cons k ks => cases h1
      | cons f fs =>
        cases ks with
        | nil => cases h1
        | cons k ks =>
          rw [List.map_cons, List.map_cons] at h1
          have h2 := (List.cons.inj h1).1
          show f.isSome = decide (k ≠ [])
          exact h2
    by_cases hh : ((ks.head?.map fun k => decide (k ≠ [])).getD false) = true
    · refine ⟨general', ltAt_gen k hu, fun h2 E' Q hq => ?_⟩
      rw [kat_kind_eq, List.mapM_toArray, map_eq_pure_bind]
      refine wpAny_bind (wpAny_bind (hfs fun fs h1 h2 => wpAny_pure ?_))
      rw [if_neg (hno fs h1), if_pos (by rw [hfirst fs h1]; exact hh)]
      exact wpAny_pure hq
    · refine ⟨oneType', ltAt_one k hu, fun h2 E' Q hq => ?_⟩
      rw [kat_kind_eq, List.mapM_toArray, map_eq_pure_bind]
      refine wpAny_bind (wpAny_bind (hfs fun fs h1 h2 => wpAny_pure ?_))
      rw [if_neg (hno fs h1), if_neg (by rw [hfirst fs h1]; exact hh)]
      rw [oneTypeOnly'_eq, List.mapM_toArray, map_eq_pure_bind]
      refine wpAny_bind (wpAny_bind (wpAny_bind (PySem.W.kas_mapM (r := Value.type "tuple") _ (fun v hv Q' hq => (hT v hv _).here hq) (wpAny_pure ?_))))
      obtain ⟨v0, vr, rfl⟩ : ∃ v0 vr, vs = v0 :: vr := by
        cases vs with
        | nil => simp at h2
        | cons v0 vr => exact ⟨v0, vr, rfl⟩
      have hall2 : ((List.map (fun _ => Value.type "tuple") (v0 :: vr)).toArray.all fun x => x == Value.type "tuple") = true := by
        simp only [List.all_toArray, List.all_map, List.all_eq_true]
        intro _ _
        rfl
      have h0 : (List.map (fun _ => Value.type "tuple") (v0 :: vr)).toArray[0]? = some (Value.type "tuple") := by simp
      rw [h0]
      simp only [hall2, if_true]
      exact wpAny_pure (wpAny_pure hq)
end
end
section
variable {X : Cx}
theorem each_paired {α β : Type} {R : α → β → Prop} : ∀ {as : List α} {bs : List β}, as.length = bs.length → (∀ (i : Nat) (a : α) (b : β), as[i]? = some a → bs[i]? = some b → R a b) → PySem.W.EachIs R as bs
  | [], [], _, _ => .nil
  | a :: as, b :: bs, hl, h => .cons (h 0 a b rfl rfl) (each_paired (Nat.succ.inj hl) fun i x y hx hy => h (i + 1) x y hx hy)
theorem each_get {α β : Type} {R : α → β → Prop} : ∀ {as : List α} {bs : List β} (i : Nat) {a : α} {b : β}, PySem.W.EachIs R as bs → as[i]? = some a → bs[i]? = some b → R a b
  | _, _, 0, _, _, .cons h _, ha, hb => by cases ha; cases hb; exact h
  | _, _, i + 1, _, _, .cons _ t, ha, hb => each_get i t ha hb
theorem paired_get {α β : Type} {R : α → β → Prop} : ∀ {as : List α} {bs : List β} (i : Nat) {a : α} {b : β}, Paired R as bs → as[i]? = some a → bs[i]? = some b → R a b
  | _, _, 0, _, _, .cons h _, ha, hb => by cases ha; cases hb; exact h
  | _, _, i + 1, _, _, .cons _ t, ha, hb => paired_get i t ha hb
/-- the tuples of these keys stand at these places -/
def KeysAt (H : Hp) (bs : List Addr) (ks : List (List Int)) : Prop := PySem.W.EachIs (fun b k => H b = some (.tup (k.map V.int))) bs ks
theorem KeysAt.len {H : Hp} {bs : List Addr} {ks : List (List Int)} (h : KeysAt H bs ks) : bs.length = ks.length := PySem.W.EachIs.length h
theorem KeysAt.get {H : Hp} {bs : List Addr} {ks : List (List Int)} {i : Nat} {k : List Int} (h : KeysAt H bs ks) (hk : ks[i]? = some k) : ∃ b, bs[i]? = some b ∧ H b = some (.tup (k.map V.int)) := by
  obtain ⟨b, hb⟩ : ∃ b, bs[i]? = some b := ⟨_, List.getElem?_eq_getElem (by rw [h.len]; exact (List.getElem?_eq_some_iff.mp hk).1)⟩
  unfold KeysAt at h
  exact ⟨b, hb, each_get (R := fun b k => H b = some (.tup (k.map V.int))) i h hb hk⟩
theorem refs_of {R : Addr → List Int → Prop} : ∀ {vs : List Value} {ks : List (List Int)}, PySem.W.EachIs (fun v k => ∃ b, v = Value.ref b ∧ R b k) vs ks → ∃ bs : List Addr, vs = bs.map Value.ref ∧ PySem.W.EachIs R bs ks
  | _, _, .nil => ⟨[], rfl, .nil⟩
  | _, _, .cons h t => by
    obtain ⟨b, rfl, hb⟩ := h
    obtain ⟨bs, rfl, h2⟩ := refs_of t
    exact ⟨b :: bs, rfl, .cons hb h2⟩
def rSortedDT : List V → Hp → VK → Prop := fun vs H Q => ∃ (a : Addr) (kvs : List (List Key × V)) (ks : List (List Int)), vs = [.ref a] ∧ H a = some (.dT kvs) ∧ kvs.map (·.1) = ks.map kxx ∧ ks.length ≤ 10000000 ∧
  ∀ (p : Addr) (bs : List Addr) (ks' : List (List Int)), H p = none → ks'.Perm ks → ks'.Pairwise (fun a b => ltK b a = false) → KeysAt H bs ks' → Q (.ref p) (upd H p (.lst (bs.map V.ref)))
theorem cr_sortedDT (hcalm : X.calm = true) (hu : X.A.units + 2 < cLine) : CallR X (.builtin "sorted") rSortedDT := by
  intro pins s σ H xs us Q I r q
  obtain ⟨a, kvs, ks, rfl, hd, hks, hz, q⟩ := q
  obtain ⟨u, rfl, rx⟩ := r.one
  cases rx
  obtain ⟨z, lo, xs, pr, o, es, ep, ho, hx, hdt, hes, hnd⟩ := (show ObjOk X.prog X.w H s.heap a (.dT kvs) from I.hok a _ hd)
  have hkl : kvs.length = ks.length := by
    have e := congrArg List.length hks
    rw [List.length_map, List.length_map] at e
    exact e
  have hxl : kvs.length = xs.length := pr.length
  have hel : es.size = xs.length := by rw [← Array.length_toList, hes, List.length_map]
  have h16 : es.size ≤ sizeLine := by rw [hel, ← hxl]; exact z
  refine Calls.call_function_entry PyProof.Rows.kind_sorted PyProof.Rows.plain_sorted PyProof.Rows.entry_sorted (PyProof.Rows.args_sorted1 _) ?_
  unfold Builtin.«sorted»
  refine wpAny_bind (m := checkCount "sorted" 1 1 _) (wpAny_pure ?_)
  refine wpAny_bind (PySem.W.kdu_collect (A := X.A.in1) (kdl_raw lo hx hdt) (I.ok.hd hcalm) ho h16 fun h' tk acc hk hacc => ?_)
  have hal : acc.toList.length = ks.length := by rw [Array.length_toList, hacc.1, hel, ← hxl, hkl]
  have hE : PySem.W.EachIs (fun v k => ∃ b, v = Value.ref b ∧ H b = some (.tup (k.map V.int))) acc.toList ks := by
    refine each_paired hal fun i v k hv hk2 => ?_
    obtain ⟨en, he, rfl⟩ := hacc.2 i v (by rw [← Array.getElem?_toList]; exact hv)
    have he2 : es.toList[i]? = some en := by rw [Array.getElem?_toList]; exact he
    rw [hes, List.getElem?_map] at he2
    cases hxi : xs[i]? with
    | none => rw [hxi] at he2; cases he2
    | some x =>
      rw [hxi] at he2
      cases he2
      obtain ⟨p, hp⟩ : ∃ p, kvs[i]? = some p := ⟨_, List.getElem?_eq_getElem (by rw [hxl]; exact (List.getElem?_eq_some_iff.mp hxi).1)⟩
      obtain ⟨e1, e2, _⟩ := paired_get i pr hp hxi
      have e3 : (kvs.map (·.1))[i]? = some p.1 := by rw [List.getElem?_map, hp]; rfl
      rw [hks, List.getElem?_map, hk2] at e3
      have e4 : kxx k = p.1 := Option.some.inj e3
      rw [← e4, kxx_v] at e2
      exact ⟨_, rfl, e2⟩
  have hTI : PySem.W.EachIs (TI s.heap) acc.toList ks := hE.mono fun v k ⟨b, e, hb⟩ => by
    obtain ⟨its, r1, p1, _⟩ := I.tuple (SqT.of hb)
    exact ⟨b, its.toArray, e, p1, Vals.ints r1⟩
  have I1 : Inv X pins σ H { s with heap := h', toks := tk } := I.kept hk
  have hoL : (h'.push (seqObj "list" acc.toList.toArray 0)).get? h'.objs.size = some (seqObj "list" acc.toList.toArray 0) := Heap.get?_push_size _ rfl
  have hL : acc.toList.length ≤ sizeLine := by rw [hal, ← hkl]; exact z
  refine wpAny_bind (wpAny_newList ?_ hL)
  show wpAny _ _ _ _ _ { s with heap := h'.push (seqObj "list" acc.toList.toArray 0), toks := tk }
  have hold : ∀ b ob, s.heap.get? b = some ob → (PySem.W.sortingHeap (h'.push (seqObj "list" acc.toList.toArray 0)) h'.objs.size acc.toList).get? b = some ob := fun b ob e =>
    PySem.W.sortingHeap_old (Nat.ne_of_lt (Heap.lt_size (hk b ob e))) (Heap.get?_push_of_some _ (hk b ob e))
  refine wpAny_bind (wpAny_holding (wpAny_call_entry PyProof.Rows.slot_list_sort ⟨_, hoL, rfl⟩ PyProof.Rows.entry_list_sort
    (PySem.W.list_sort_vals (s := { s with heap := h'.push (seqObj "list" acc.toList.toArray 0), toks := tk }) hoL (sortsAt_tups (s := { s with heap := PySem.W.sortingHeap (h'.push (seqObj "list" acc.toList.toArray 0)) h'.objs.size acc.toList, toks := tk }) hTI hold (by exact hu)) hL ⟨_, rfl, ?_⟩)
    (PyProof.Rows.args_list_sort _)))
  have hS := PySem.W.sortVals_each (κ := tKind s.heap) (rev := false) (ks := acc.toList) (fun k : List Int => k) hE (hTI.mono fun v k h => tKind_some h)
  obtain ⟨bs, ebs, hK⟩ := refs_of hS
  obtain ⟨e', he'⟩ := PyProof.Rows.sortedHeap_at (vs := acc.toList) (out := (PySem.W.sortVals (tKind s.heap) false acc.toList acc.toList).toArray) hoL
  have hpm : (ks.mergeSort (PySem.W.sortLe (tKind s.heap).toKeyOrd false fun k : List Int => k)).Perm ks := List.mergeSort_perm _ _
  have hpw := PySem.W.sort_pairwise (PySem.W.sortLe_total (tKind s.heap).toKeyOrd false fun k : List Int => k) ks
  have hbl : bs.length ≤ sizeLine := by rw [hK.length, hpm.length_eq, ← hkl]; exact z
  refine wpAny_pure ⟨_, rfl, .ref h'.objs.size, upd H h'.objs.size (.lst (bs.map V.ref)), I1.laid (t' := tk) (fun b u e => ?_) (Nat.le_refl _)
    (show ObjOk X.prog X.w _ _ _ (.lst (bs.map V.ref)) from ⟨by rw [List.length_map]; exact hbl, bs.map Value.ref, e', vals_refs bs, by rw [← ebs]; exact he'⟩), rfl, q _ bs _ (I1.hok.fresh (Nat.le_refl _)) hpm (hpw.imp fun {a b} hab => ?_) hK⟩
  · have hb : b < h'.objs.size := Heap.lt_size e
    rw [PyProof.Rows.sortedHeap_old (Nat.ne_of_lt hb) (by rw [size_push']; exact Nat.lt_succ_of_lt hb)]
    exact Heap.get?_push_of_some _ e
  · have hab : (!ltK b a) = true := hab
    cases h : ltK b a with
    | false => rfl
    | true => rw [h] at hab; cases hab
end

/-! ### {t: v}, t a tuple -/
def tDispT1 (tk tv : TE) : TE := fun σ H Q => ∀ p, H p = none → tk σ (upd H p (.dT [])) fun x H1 => tv σ H1 fun y H2 => H2 p = some (.dT []) ∧ ∃ (k : List Key) (b : Addr), x = .ref b ∧ H2 b = some (.tup (k.map kV)) ∧ Q (.ref p) (upd H2 p (.dT [(k, y)]))
theorem pe_dispT1 {X : Cx} {pos : Pos} {k v : Expr} {tk tv : TE} (hu : X.A.units + 1 < cLine) (hk : PE X k tk) (hv : PE X v tv) : PE X (.Dict [some k] [v] pos) (tDispT1 tk tv) := by
  refine ⟨fun pins s σ H Q I q => ?_⟩
  have hn := I.hok.fresh (Nat.le_refl s.heap.objs.size)
  have I1 := I.laid (a := s.heap.objs.size) (o := .dT []) (h' := s.heap.push { cls := .type "dict", data := .dict #[] }) (t' := s.toks) (fun _ _ q => Heap.get?_push_of_some _ q) (Nat.le_refl _) (dt_empty s.heap I.big)
  have hall : ([some k] : List (Option Expr)).all (·.isSome) = true := rfl
  have hl : ([some k] : List (Option Expr)).length = ([v] : List Expr).length := rfl
  have hpl := pairTrees_length [some k] [v] X.env pos hall hl
  rw [arm_eval_Dict, zip_pairTrees [some k] [v] X.env pos hall hl, dictDisplay_pairs (pairTrees [some k] [v] X.env pos) (fun e => by rw [e] at hpl; cases hpl) (by rw [hpl]; exact Nat.le_of_ble_eq_true rfl)]
  refine wpAny_bind (wpAny_standAt (wpAny_bind (wpAny_subDictH (knd := tupleKind (mixKind X.prog X.w)) (show (tupleKind (mixKind X.prog X.w)).room X.A from (show X.A.units < cLine from Nat.lt_of_succ_lt hu)) (by rw [hpl]; exact Nat.le_of_ble_eq_true rfl) ?_)))
  refine pairTrees_cons_walk (thn (hk.run pins _ σ _ _ I1 (q _ hn)) fun u s1 ⟨x, H1, I1', rx, q1⟩ => thn (hv.run pins s1 σ H1 _ I1' q1) fun w2 s2 ⟨y, H2, I2, ry, q2⟩ => pairTrees_nil_walk ?_)
  obtain ⟨hp, ks, b, rfl, hb, q3⟩ := q2
  cases rx
  obtain ⟨z, hd, xs, rel, dd⟩ := dt_of I2.hok hp
  cases rel
  refine ⟨[(ks, b, w2)], ⟨rfl, rfl, key_of I2.hok hb, trivial⟩, dd, fun h' tk dd' hs => wpAny_pure ⟨.ref s.heap.objs.size, _, ?_, rfl, q3⟩⟩
  have he : ∃ q, h'.get? s.heap.objs.size = some q := let ⟨q, _, _, hq, _⟩ := dd'; ⟨q, hq⟩
  have hbp : b ≠ s.heap.objs.size := fun e => by rw [e, hp] at hb; cases hb
  refine d_write I2 (by rw [hp]; exact True.intro) hs he ⟨Nat.le_of_ble_eq_true rfl, hd, [(ks, b, w2)], .cons ⟨rfl, (upd_ne hbp).trans hb, ry⟩ .nil, ?_⟩
  obtain ⟨o, es, ep, h1, h2, h3, h4, h5, h6⟩ := dd'
  exact ⟨o, es, ep, h1, h2, h3, h4, h6⟩
theorem r_disT1 {tk tv : TE} {σ : L2.St} {H0 H : Hp} {Q : VK} {L : List (Addr × HO)} (o : Own H0 H L) (q : ∀ p H', H p = none → Own H0 H' ((p, .dT []) :: L) → Stp H H' → tk σ H' fun x H1 => tv σ H1 fun y H2 => H2 p = some (.dT []) ∧ ∃ (k : List Key) (b : Addr), x = .ref b ∧ H2 b = some (.tup (k.map kV)) ∧ Q (.ref p) (upd H2 p (.dT [(k, y)]))) : tDispT1 tk tv σ H Q := fun p hp => q p _ hp (o.new hp) (.of (same_new hp))

section
variable {P : Program} {w : World} {K : PySem.W.Frag} {mg : Str → Option Value} {base : Heap}
def sp_dchange (K : PySem.W.Frag) (C : Addr) : Sp := fun vs H Q _ => ∃ (p l dx : Addr) (n : Nat) (v : Int) (ns : List Int), vs = [.ref p, .int (n : Int), .int v] ∧ H p = some (.ins C dx (dkF l)) ∧ H l = some (.lst (ns.map V.int)) ∧ n < ns.length ∧ Q .non (upd H l (.lst ((ns.set n v).map V.int)))
theorem d_dchange {C : Addr} (T : Top K mg) (D : Cl_Disk K mg C) : MDef P w K mg base CX0 1 C "change" ["self", "address", "value"] (sp_dchange K C) := by
  refine D.m_change.ok sc_Disk_change (by rintro vs H Q E ⟨p, l, dx, n, v, ns, rfl, _⟩; rfl) (fun f cdv A outer s H vs Q E hr h => ?_)
  obtain ⟨p, l, dx, n, v, ns, rfl, hp, hl, hn, q⟩ := h
  refine ⟨_, (pss_one (ps_asg (pv 2) (pg_sub (pe_fld (pv 0) rfl) (pv 1) set_list))), ?_⟩
  walk_at "rd"
  refine ⟨p, C, dx, dkF l, .ref l, rfl, hp, D.cl, D.a__file, rfl, ?_⟩
  walk_at "rd"
  refine ⟨l, _, _, n, rfl, rfl, hl, ?_, ?_⟩
  · unfold ixN
    rw [if_pos (by omega), if_pos (by rw [List.length_map]; omega)]
    rfl
  rw [List.map_set] at q
  exact q
end

section
theorem seal_form (b a l : Int) : sealL b a l = 255 :: (told b a l ++ (chk (told b a l) ++ [254])) := by simp [sealL]
theorem told_b (b a l : Int) : ∀ x ∈ told b a l, 0 ≤ x ∧ x < 250 := by
  intro x hx
  unfold told at hx
  rcases List.mem_append.mp hx with h | h
  · rcases List.mem_append.mp h with h | h <;> exact w8_b _ x h
  · exact w8_b _ x h
theorem chk_b (ns : List Int) : ∀ x ∈ chk ns, 0 ≤ x ∧ x < 250 := by
  intro x hx
  unfold chk at hx
  rcases List.mem_cons.mp hx with rfl | h
  · omega
  · rw [List.mem_singleton.mp h]; omega
theorem seal_b (b a l : Int) : ∀ x ∈ sealL b a l, 0 ≤ x ∧ x < 256 := by
  intro x hx
  rw [seal_form] at hx
  rcases List.mem_cons.mp hx with rfl | h
  · omega
  rcases List.mem_append.mp h with h | h
  · have := told_b b a l x h; omega
  rcases List.mem_append.mp h with h | h
  · have := chk_b _ x h; omega
  · rw [List.mem_singleton.mp h]; omega
end

/-! ### the table and the tree -/
structure TabE (K : PySem.W.Frag) (H : Hp) (kvs : List (List Key × V)) (es : List Ent) : Prop where
  nd : (kvs.map (·.1)).Nodup
  fw : ∀ e ∈ es, ∃ tp, valV kvs (kxx e.k) = some (.ref tp) ∧ ptrT K H tp e.ad e.ln
  bw : ∀ p ∈ kvs, ∃ e ∈ es, p.1 = kxx e.k
theorem kxx_inj {a b : List Int} (h : kxx a = kxx b) : a = b := by
  unfold kxx at h
  exact (List.map_inj_right fun x y e => Sum.inl.inj e).mp h
theorem putK_keys {κ : Type} [DecidableEq κ] (kvs : List (κ × V)) (k : κ) (v : V) : ((putK kvs k v).map (·.1)) = if k ∈ kvs.map (·.1) then kvs.map (·.1) else kvs.map (·.1) ++ [k] := by
  unfold putK
  split
  · rename_i h
    rw [if_pos (by
      rw [List.any_eq_true] at h
      obtain ⟨x, hx, e⟩ := h
      exact List.mem_map.mpr ⟨x, hx, of_decide_eq_true e⟩)]
    rw [List.map_map]
    refine List.map_congr_left fun x hx => ?_
    show (if x.1 = k then (x.1, v) else x).1 = x.1
    split <;> rfl
  · rename_i h
    rw [if_neg (by
      intro hm
      obtain ⟨x, hx, e⟩ := List.mem_map.mp hm
      exact h (List.any_eq_true.mpr ⟨x, hx, decide_eq_true e⟩))]
    rw [List.map_append]
    rfl
theorem mem_insE {e x : Ent} {es : List Ent} : x ∈ insE e es ↔ x = e ∨ (x ∈ es ∧ x.k ≠ e.k) := by
  unfold insE
  rw [List.mem_append, List.mem_append, List.mem_singleton, List.mem_filter, List.mem_filter]
  constructor
  · rintro ((⟨h1, h2⟩ | h) | ⟨h1, h2⟩)
    · exact .inr ⟨h1, fun e2 => by rw [e2, ltK_irr] at h2; cases h2⟩
    · exact .inl h
    · exact .inr ⟨h1, fun e2 => by rw [e2, ltK_irr] at h2; cases h2⟩
  · rintro (h | ⟨h1, h2⟩)
    · exact .inl (.inr h)
    · cases h3 : ltK x.k e.k with
      | true => exact .inl (.inl ⟨h1, rfl⟩)
      | false =>
        cases h4 : ltK e.k x.k with
        | true => exact .inr ⟨h1, rfl⟩
        | false => exact absurd (ltK_tri h3 h4) h2
section
variable {K : PySem.W.Frag} {H H' : Hp} {kvs : List (List Key × V)} {es : List Ent}
theorem TabE.nil : TabE K H [] [] := ⟨List.nodup_nil, (fun e he => by cases he), (fun p hp => by cases hp)⟩
theorem TabE.up (h : TabE K H kvs es) (s : Stp H H') : TabE K H' kvs es := ⟨h.nd, fun e he => by
  obtain ⟨tp, h1, h2⟩ := h.fw e he
  exact ⟨tp, h1, s.sq h2⟩, h.bw⟩
theorem TabE.put (h : TabE K H kvs es) {e : Ent} {tp : Addr} (ht : ptrT K H tp e.ad e.ln) : TabE K H (putK kvs (kxx e.k) (.ref tp)) (insE e es) := by
  refine ⟨?_, fun x hx => ?_, fun p hp => ?_⟩
  · rw [putK_keys]
    split
    · exact h.nd
    · rename_i hn
      rw [List.nodup_append]
      exact ⟨h.nd, by simp, fun a ha b hb e2 => by
        rw [List.mem_singleton.mp hb] at e2
        rw [e2] at ha
        exact hn ha⟩
  · rw [valV_put]
    rcases mem_insE.mp hx with rfl | ⟨h1, h2⟩
    · rw [if_pos rfl]
      exact ⟨tp, rfl, ht⟩
    · rw [if_neg fun e2 => h2 (kxx_inj e2)]
      exact h.fw x h1
  · have hk : p.1 ∈ (putK kvs (kxx e.k) (V.ref tp)).map (·.1) := List.mem_map_of_mem hp
    have hk2 : p.1 = kxx e.k ∨ p.1 ∈ kvs.map (·.1) := by
      rw [putK_keys] at hk
      split at hk
      · exact .inr hk
      · rcases List.mem_append.mp hk with hk | hk
        · exact .inr hk
        · exact .inl (List.mem_singleton.mp hk)
    by_cases he : p.1 = kxx e.k
    · exact ⟨e, mem_insE.mpr (.inl rfl), he⟩
    · rcases hk2 with hk2 | hk2
      · exact absurd hk2 he
      · obtain ⟨p2, hp2, e2⟩ := List.mem_map.mp hk2
        obtain ⟨x, hx, hx2⟩ := h.bw p2 hp2
        rw [← e2, hx2]
        exact ⟨x, mem_insE.mpr (.inr ⟨hx, fun e3 => he (by rw [← e2, hx2, e3])⟩), rfl⟩
theorem TabE.keys (h : TabE K H kvs es) : ∃ ks : List (List Int), kvs.map (·.1) = ks.map kxx ∧ ks.Nodup ∧ ∀ k, k ∈ ks ↔ ∃ e ∈ es, e.k = k := by
  have go : ∀ l : List (List Key × V), (∀ p ∈ l, ∃ e ∈ es, p.1 = kxx e.k) → ∃ ks : List (List Int), l.map (·.1) = ks.map kxx ∧ ∀ k ∈ ks, ∃ e ∈ es, e.k = k := by
    intro l
    induction l with
    | nil => intro _; exact ⟨[], rfl, fun k hk => by cases hk⟩
    | cons p l ih =>
      intro hl
      obtain ⟨ks, h1, h2⟩ := ih fun q hq => hl q (List.mem_cons_of_mem _ hq)
      obtain ⟨e, he, e1⟩ := hl p List.mem_cons_self
      refine ⟨e.k :: ks, by rw [List.map_cons, List.map_cons, h1, e1], fun k hk => ?_⟩
      rcases List.mem_cons.mp hk with rfl | hk
      · exact ⟨e, he, rfl⟩
      · exact h2 k hk
  obtain ⟨ks, h1, h2⟩ := go kvs h.bw
  refine ⟨ks, h1, ?_, fun k => ⟨h2 k, ?_⟩⟩
  · have := h.nd
    rw [h1] at this
    exact List.Pairwise.of_map kxx (fun a b hne e => hne (congrArg kxx e)) this
  · rintro ⟨e, he, rfl⟩
    obtain ⟨tp, hv, _⟩ := h.fw e he
    have hm := valV_in hv
    rw [h1] at hm
    obtain ⟨k2, hk2, e2⟩ := List.mem_map.mp hm
    rw [← kxx_inj e2]
    exact hk2
end
theorem asc_uniq : ∀ {xs ys : List (List Int)}, xs.Pairwise (fun a b => ltK a b = true) → ys.Pairwise (fun a b => ltK a b = true) → (∀ k, k ∈ xs ↔ k ∈ ys) → xs = ys
  | [], [], _, _, _ => rfl
  | [], y :: ys, _, _, h => absurd ((h y).mpr List.mem_cons_self) (by simp)
  | x :: xs, [], _, _, h => absurd ((h x).mp List.mem_cons_self) (by simp)
  | x :: xs, y :: ys, hx, hy, h => by
    rw [List.pairwise_cons] at hx hy
    have e : x = y := by
      rcases List.mem_cons.mp ((h x).mp List.mem_cons_self) with e | h1
      · exact e
      rcases List.mem_cons.mp ((h y).mpr List.mem_cons_self) with e | h2
      · exact e.symm
      have a := hx.1 y h2
      rw [ltK_asym (hy.1 x h1)] at a
      cases a
    subst e
    have e2 : xs = ys := asc_uniq hx.2 hy.2 fun k => by
      have h3 := h k
      rw [List.mem_cons, List.mem_cons] at h3
      constructor
      · intro hk
        rcases h3.mp (.inr hk) with e | hk2
        · have a := hx.1 k hk
          rw [e, ltK_irr] at a
          cases a
        · exact hk2
      · intro hk
        rcases h3.mpr (.inr hk) with e | hk2
        · have a := hy.1 k hk
          rw [e, ltK_irr] at a
          cases a
        · exact hk2
    rw [e2]
theorem asc_keys : ∀ {es : List Ent}, Asc es → (es.map (·.k)).Pairwise (fun a b => ltK a b = true)
  | [], _ => List.Pairwise.nil
  | e :: es, h => by
    rw [List.map_cons, List.pairwise_cons]
    refine ⟨fun k hk => ?_, asc_keys h.2⟩
    obtain ⟨x, hx, rfl⟩ := List.mem_map.mp hk
    exact h.1 x hx
theorem strict_of {xs : List (List Int)} (hn : xs.Nodup) (hp : xs.Pairwise (fun a b => ltK b a = false)) : xs.Pairwise (fun a b => ltK a b = true) := by
  have hn : xs.Pairwise (· ≠ ·) := hn
  refine (hn.and hp).imp fun {a b} ⟨h1, h2⟩ => ?_
  cases h3 : ltK a b with
  | true => rfl
  | false => exact absurd (ltK_tri h3 h2) h1
theorem sorted_keys {K : PySem.W.Frag} {H : Hp} {kvs : List (List Key × V)} {es : List Ent} (h : TabE K H kvs es) (hA : Asc es) : ∃ ks : List (List Int), kvs.map (·.1) = ks.map kxx ∧ ks.length = es.length ∧ ∀ ks' : List (List Int), ks'.Perm ks → ks'.Pairwise (fun a b => ltK b a = false) → ks' = es.map (·.k) := by
  obtain ⟨ks, h1, h2, h3⟩ := h.keys
  have hu : ∀ ks' : List (List Int), ks'.Perm ks → ks'.Pairwise (fun a b => ltK b a = false) → ks' = es.map (·.k) := fun ks' hp hs => by
    refine asc_uniq (strict_of (hp.nodup_iff.mpr h2) hs) (asc_keys hA) fun k => ?_
    rw [hp.mem_iff, h3 k]
    constructor
    · rintro ⟨e, he, rfl⟩
      exact List.mem_map_of_mem he
    · intro hk
      obtain ⟨e, he, rfl⟩ := List.mem_map.mp hk
      exact ⟨e, he, rfl⟩
  have hen : (es.map (·.k)).Nodup := (asc_keys hA).imp fun {a b} hab e => by rw [e, ltK_irr] at hab; cases hab
  have hpm : (es.map (·.k)).Perm ks := by
    rw [List.perm_ext_iff_of_nodup hen h2]
    intro k
    rw [h3 k]
    constructor
    · intro hk
      obtain ⟨e, he, rfl⟩ := List.mem_map.mp hk
      exact ⟨e, he, rfl⟩
    · rintro ⟨e, he, rfl⟩
      exact List.mem_map_of_mem he
  refine ⟨ks, h1, ?_, hu⟩
  rw [← hpm.length_eq, List.length_map]

section
variable {P : Program} {w : World} {K : PySem.W.Frag} {mg : Str → Option Value} {base : Heap}
theorem Stp.setD {H : Hp} {l : Addr} {kvs : List (List Key × V)} {u : HO} (h : H l = some (.dT kvs)) : Stp H (upd H l u) := fun a ys r => by
  have ne : a ≠ l := by
    rintro rfl
    rcases r with r | ⟨o, r⟩ <;> rw [h] at r <;> cases r
  rcases r with r | ⟨o, r⟩
  · exact .inl (by rw [upd_ne ne]; exact r)
  · exact .inr ⟨o, by rw [upd_ne ne]; exact r⟩
theorem Sth.setD {H : Hp} {l : Addr} {kvs : List (List Key × V)} {u : HO} (h : H l = some (.dT kvs)) : Sth H (upd H l u) := fun a ys r => by
  rw [upd_ne (fun e => by rw [e, h] at r; cases r)]
  exact r
/-- the log, the draws and the table between two turns -/
structure GT (CL CD : Addr) (H : Hp) (p pd pt tr : Addr) (dr : List Int) (g : LG) (kvs : List (List Key × V)) (ra rl : Nat) (es : List Ent) (n : Nat) : Prop where
  lg : LogAt CL CD H p g
  hpd : H pd = some (.lst (dr.map V.int))
  pdl : pd ≠ g.l
  pdf : pd ≠ g.fl
  hpt : H pt = some (.dT kvs)
  htr : ptrH H tr ra rl
  rt : Rt g ra rl es (7 + n)
  al : Al g
  fs0 : g.fs = []
  b1 : -1 ≤ g.b
  sz : g.ws.length ≤ 8000 * n
  el : es.length ≤ n
  e1 : 1 ≤ n → es ≠ []
variable {CL CD : Addr} {H H' : Hp} {p pd pt tr : Addr} {dr : List Int} {g : LG} {kvs : List (List Key × V)} {ra rl n : Nat} {es : List Ent}
theorem GT.same (h : GT CL CD H p pd pt tr dr g kvs ra rl es n) (s : Same H H') : GT CL CD H' p pd pt tr dr g kvs ra rl es n :=
  ⟨h.lg.up s, s _ _ h.hpd, h.pdl, h.pdf, s _ _ h.hpt, s _ _ h.htr, h.rt, h.al, h.fs0, h.b1, h.sz, h.el, h.e1⟩
theorem GT.wrote {tr' : Addr} {bs : List Int} {ra' rl' : Nat} {es' : List Ent} (h : GT CL CD H p pd pt tr dr g kvs ra rl es n) (hf : ∀ b v, b ≠ g.l → H b = some v → H' b = some v) (hl : H' g.l = some (.lst ((g.ws ++ bs).map V.int))) (hb : bs.length ≤ 8000) (ht : ptrH H' tr' ra' rl') (hr : Rt (g.put bs) ra' rl' es' (7 + (n + 1))) (ha : Al (g.put bs)) (he : es'.length ≤ es.length + 1) (he0 : es' ≠ []) :
    GT CL CD H' p pd pt tr' dr (g.put bs) kvs ra' rl' es' (n + 1) := by
  refine ⟨h.lg.put hf hl, hf _ _ h.pdl h.hpd, h.pdl, h.pdf, hf _ _ (fun e => by have := h.hpt; rw [e, h.lg.wt] at this; cases this) h.hpt, ht, hr, ha, h.fs0, h.b1, ?_, by have := h.el; omega, fun _ => he0⟩
  have h1 := h.sz
  show (g.ws ++ bs).length ≤ _
  rw [List.length_append]
  omega
theorem GT.tab {kvs' : List (List Key × V)} (h : GT CL CD H p pd pt tr dr g kvs ra rl es n) : GT CL CD (upd H pt (.dT kvs')) p pd pt tr dr g kvs' ra rl es n := by
  have up : ∀ {b : Addr} {u : HO}, H b = some u → (∀ k, u ≠ .dT k) → upd H pt (.dT kvs') b = some u := fun {b u} hb hu => (upd_ne (fun e => by
    rw [e, h.hpt] at hb
    cases hb
    exact hu _ rfl)).trans hb
  exact ⟨⟨up h.lg.me (by rintro k ⟨⟩), up h.lg.wt (by rintro k ⟨⟩), up h.lg.dk (by rintro k ⟨⟩), up h.lg.fl (by rintro k ⟨⟩), h.lg.ne⟩, up h.hpd (by rintro k ⟨⟩), h.pdl, h.pdf, upd_same, up h.htr (by rintro k ⟨⟩), h.rt, h.al, h.fs0, h.b1, h.sz, h.el, h.e1⟩
theorem LogAt.dne (h : LogAt CL CD H p g) : g.d ≠ p := by
  obtain ⟨dx, l, d, ddx, fl, b, ws, fs⟩ := g
  obtain ⟨hp, hl, hd, hfl, hne⟩ := h
  dsimp only at hp hd ⊢
  rintro rfl
  rw [hd] at hp
  cases hp
end
/-- all that stands beside the own objects goes into the base -/
theorem own_rebase {Bs H : Hp} {L : List (Addr × HO)} (o : Own Bs H L) : ∃ B2, Same Bs B2 ∧ Own B2 H L ∧ ∀ b w, b ∉ L.map (·.1) → H b = some w → B2 b = some w := by
  refine ⟨fun b => if b ∈ L.map (·.1) then none else H b, fun b w h => ?_, ⟨fun b w h => ?_, fun x hx => ⟨if_pos (List.mem_map_of_mem hx), (o.fr x hx).2⟩, o.nd⟩, fun b w hb h => ?_⟩
  · have hb : b ∉ L.map (·.1) := fun hm => by
      obtain ⟨x, hx, e⟩ := List.mem_map.mp hm
      have := (o.fr x hx).1
      rw [e, h] at this
      cases this
    show (if b ∈ L.map (·.1) then none else H b) = some w
    rw [if_neg hb]
    exact o.ex _ _ h
  · have h : (if b ∈ L.map (·.1) then none else H b) = some w := h
    split at h
    · cases h
    · exact h
  · show (if b ∈ L.map (·.1) then none else H b) = some w
    rw [if_neg hb]
    exact h
theorem not_own {Bs H : Hp} {L : List (Addr × HO)} {b : Addr} {w : HO} (o : Own Bs H L) (h : H b = some w) (hn : ∀ x ∈ L, x.2 ≠ w) : b ∉ L.map (·.1) := fun hm => by
  obtain ⟨x, hx, e⟩ := List.mem_map.mp hm
  have := (o.fr x hx).2
  rw [e, h] at this
  exact hn x hx (Option.some.inj this).symm
theorem forR1F {σ : L2.St} {H : Hp} {ts : TS} {D : Ends} {j : Int} {n : Nat} {s : Nat} {Fin : L2.St → Hp → Prop} (hn : j = (n : Int)) (hb : j < 2 ^ 62) (Pv : Nat → L2.St → Hp → Prop) (h0 : Pv 0 σ H)
    (hs : (∀ σ H, Fin σ H → D.nx σ H) → ∀ i σ H, i < n → Pv i σ H → ts { D with nx := Pv (i + 1), ct := Pv (i + 1), bk := D.nx } (σ.set s (some (.int (i : Int)))) H) (he : ∀ σ H, Pv n σ H → Fin σ H) (hd : ∀ σ H, Fin σ H → D.nx σ H) :
    ∃ k : Int, [V.int j] = [.int k] ∧ -(2 ^ 62) ≤ k ∧ k < 2 ^ 62 ∧ RFor (Itr 0 k.toNat) (gName s) ts D σ H := forR1 hn hb Pv h0 (hs hd) fun σ H p => hd _ _ (he _ _ p)
theorem Cur.sealed {g : LG} (l : Addr) (sl : List Int) : ∀ {d : Nat} {p : Ent} {nd es : List Ent}, Cur g d p nd es → Cur (g.sealed l sl) d p nd es
  | 0, _, _, _, ⟨h, e⟩ => ⟨h.sealed l sl, e⟩
  | d + 1, _, _, _, ⟨h, q⟩ => ⟨h.sealed l sl, q.imp fun _ _ r => IsT.sealed l sl d r⟩
/-- nodes that wait, and what they give -/
def PendT (g : LG) : List (Nat × Ent) → List (Nat × Nat) → Prop
  | [], ps => ps = []
  | p :: r, ps => ∃ a b, ps = a ++ b ∧ PreT g p.1 p.2 a ∧ PendT g r b
theorem PendT.app {g : LG} : ∀ {as bs : List (Nat × Ent)} {ps qs : List (Nat × Nat)}, PendT g as ps → PendT g bs qs → PendT g (as ++ bs) (ps ++ qs)
  | [], _, ps, _, h, h2 => by
    rw [show ps = [] from h]
    exact h2
  | p :: r, _, _, _, ⟨a, b, e, h1, h2⟩, h3 => ⟨a, b ++ _, by rw [e, List.append_assoc], h1, PendT.app h2 h3⟩
theorem PendT.kids {g : LG} {d : Nat} : ∀ {ks : List Ent} {ps : List (Nat × Nat)}, KidsP (PreT g d) ks ps → PendT g (ks.map fun e => (d, e)) ps
  | [], _, h => h
  | k :: ks, _, ⟨a, b, e, h1, h2⟩ => ⟨a, b, e, h1, PendT.kids h2⟩
theorem PendT.le {g : LG} : ∀ {as : List (Nat × Ent)} {ps : List (Nat × Nat)}, PendT g as ps → as.length ≤ ps.length
  | [], _, _ => Nat.zero_le _
  | p :: r, _, ⟨a, b, e, h1, h2⟩ => by
    obtain ⟨qs, rfl⟩ := h1.head
    have := PendT.le h2
    rw [e, List.length_append, List.length_cons, List.length_cons]
    omega
theorem KidsP.pend {g : LG} {d : Nat} {ks : List Ent} {ps : List (Nat × Nat)} (h : KidsP (PreT g d) ks ps) : PendT g (ks.map fun e => (d + 1 - 1, e)) ps := PendT.kids h
/-- the pointers of nodes that wait -/
def WaitV (H : Hp) (vs : List V) (wt : List (Nat × Ent)) : Prop := All2 (fun v p => ∃ t, v = .ref t ∧ ptrH H t p.2.ad p.2.ln) vs wt
theorem WaitV.up {H H' : Hp} {vs : List V} {wt : List (Nat × Ent)} (h : WaitV H vs wt) (s : Sth H H') : WaitV H' vs wt := All2.mono (fun _ _ ⟨t, e, h⟩ => ⟨t, e, s _ _ h⟩) h
theorem All2.app {α β : Type} {R : α → β → Prop} : ∀ {as cs : List α} {bs ds : List β}, All2 R as bs → All2 R cs ds → All2 R (as ++ cs) (bs ++ ds)
  | _, _, _, _, .nil, h => h
  | _, _, _, _, .cons h t, h2 => .cons h (All2.app t h2)
/-- the lists above -/
def AbvV (B : Hp) (kv : List (List Key × V)) (n : Nat) (ps : List (Nat × Nat)) : Prop := ∀ q ∈ ps, ∃ lu us, valV kv (kxx [(q.1 : Int), (q.2 : Int)]) = some (.ref lu) ∧ B lu = some (.lst us) ∧ us.length ≤ n
theorem AbvV.up {B B' : Hp} {kv : List (List Key × V)} {n m : Nat} {ps qs : List (Nat × Nat)} (h : AbvV B kv n ps) (s : Same B B') (hnm : n ≤ m) (hq : ∀ q ∈ qs, q ∈ ps) : AbvV B' kv m qs := fun q hm => by
  obtain ⟨lu, us, h1, h2, h3⟩ := h q (hq q hm)
  exact ⟨lu, us, h1, s _ _ h2, by omega⟩
theorem AbvV.put {B : Hp} {kv : List (List Key × V)} {n : Nat} {ps : List (Nat × Nat)} (h : AbvV B kv n ps) {q : Nat × Nat} {lu : Addr} {us : List V} (hl : B lu = some (.lst us)) (hz : us.length ≤ n) : AbvV B (putK kv (kxx [(q.1 : Int), (q.2 : Int)]) (.ref lu)) n (q :: ps) := fun q2 hm => by
  rw [valV_put]
  split
  · exact ⟨lu, us, rfl, hl, hz⟩
  · rename_i hne
    rcases List.mem_cons.mp hm with rfl | hm
    · exact absurd rfl hne
    · exact h q2 hm
/-- the pointers of rows -/
theorem RowsH.ptrs {H : Hp} : ∀ {us : List V} {es : List Ent}, RowsH H us es → ∃ ys : List V, ys.length = us.length ∧ (∀ (i : Nat) (u y : V), us[i]? = some u → ys[i]? = some y → ∃ te tk tp, u = .ref te ∧ y = .ref tp ∧ H te = some (.tup [.ref tk, .ref tp])) ∧ All2 (fun v (e : Ent) => ∃ t, v = .ref t ∧ ptrH H t e.ad e.ln) ys es
  | _, _, .nil => ⟨[], rfl, (fun i u y h => by cases h), .nil⟩
  | _, _, .cons ⟨te, tk, tp, e1, h1, h2, h3⟩ t => by
    obtain ⟨ys, a, b, c⟩ := RowsH.ptrs t
    refine ⟨.ref tp :: ys, congrArg (· + 1) a, fun i u y hu hy => ?_, .cons ⟨tp, rfl, h3⟩ c⟩
    cases i with
    | zero => cases hu; cases hy; exact ⟨te, tk, tp, e1, rfl, h1⟩
    | succ i => exact b i u y hu hy
theorem waitKids {H : Hp} (d : Nat) : ∀ {ys : List V} {es : List Ent}, All2 (fun v (e : Ent) => ∃ t, v = .ref t ∧ ptrH H t e.ad e.ln) ys es → WaitV H ys (es.map fun e => (d, e))
  | _, _, .nil => .nil
  | _, _, .cons h t => .cons h (waitKids d t)

theorem PtrsV.tupI {K : PySem.W.Frag} {H : Hp} {vs : List V} {ps : List (Nat × Nat)} (h : PtrsV K H vs ps) : TpAll K H vs ((ps.map fun q => [(q.1 : Int), (q.2 : Int)]).map tupI) := by
  rw [List.map_map]
  exact h
theorem KidsP.mem {R : Ent → List (Nat × Nat) → Prop} {P : Nat × Nat → Prop} (h : ∀ k ps, R k ps → ∀ q ∈ ps, P q) : ∀ {ks : List Ent} {ps : List (Nat × Nat)}, KidsP R ks ps → ∀ q ∈ ps, P q
  | [], _, e, q, hq => by
    rw [show _ = [] from e] at hq
    cases hq
  | k :: ks, _, ⟨a, b, e, h1, h2⟩, q, hq => by
    rw [e] at hq
    rcases List.mem_append.mp hq with hq | hq
    · exact h k a h1 q hq
    · exact KidsP.mem h h2 q hq
theorem PreT.mem {g : LG} : ∀ (d : Nat) {p : Ent} {ps : List (Nat × Nat)}, PreT g d p ps → ∀ q ∈ ps, ∃ kd es, NodeAt g kd q.1 q.2 es ∧ 0 ≤ kd ∧ kd < 250
  | 0, p, ps, ⟨⟨es, h⟩, e⟩, q, hq => by
    rw [e] at hq
    rw [List.mem_singleton.mp hq]
    exact ⟨1, es, h, by decide, by decide⟩
  | d + 1, p, ps, ⟨kids, qs, h, h2, e⟩, q, hq => by
    rw [e] at hq
    rcases List.mem_cons.mp hq with rfl | hq
    · exact ⟨2, kids, h, by decide, by decide⟩
    · exact KidsP.mem (fun k ps h => PreT.mem d h) h2 q hq
theorem NodeR.congr {g g2 : LG} {kd : Int} {ad ln : Nat} {es : List Ent} (h : NodeR g kd ad ln es) (hf : g2.fs = g.fs) (hw : g2.ws = g.ws) : NodeR g2 kd ad ln es := by
  obtain ⟨h1, h2, h3, h4, h5, h6⟩ := h
  refine ⟨?_, h2, ?_, h4, h5, h6⟩
  · rw [← h1]
    unfold LG.at_
    rw [hf, hw]
  · rw [hf, hw]
    exact h3
/-- a byte of one node is changed: this node is broken, no other -/
theorem hurt_of {g g2 : LG} {kd0 : Int} {ad0 ln0 at_ : Nat} {es0 : List Ent} {v : Int} (h0 : NodeAt g kd0 ad0 ln0 es0) (hk0 : 0 ≤ kd0 ∧ kd0 < 250) (hw : g.ws = []) (hw2 : g2.ws = []) (hf : g2.fs = g.fs.set at_ v) (ha : ad0 ≤ at_) (hb : at_ < ad0 + ln0) (hv : 0 ≤ v) (hne : g.fs[at_]? ≠ some v) (hz : g.fs.length ≤ 1000000) : Hurt g g2 (some ad0) := by
  have led : ∀ {kd : Int} {ad ln : Nat} {ns : List Ent}, NodeAt g kd ad ln ns → Led (g.fs.take ad) ∧ ad + ln ≤ g.fs.length ∧ (g.fs.drop ad).take ln = recD kd (nodeB ns) ∧ ln = (nodeB ns).length + 3 := fun {kd ad ln ns} h => by
    have h1 := h.bd.2.1
    rw [hw, List.append_nil] at h1
    have h2 := h.end_
    rw [hw, List.length_nil] at h2
    have h3 := h.ln_
    have h4 := h.at_
    unfold LG.at_ at h4
    rw [if_pos (by omega)] at h4
    exact ⟨h1, by omega, h4, h3⟩
  obtain ⟨l0, e0, r0, n0⟩ := led h0
  have hfl : g2.fs.length = g.fs.length := by rw [hf, List.length_set]
  intro kd ad ln ns h
  obtain ⟨l1, e1, r1, n1⟩ := led h
  have hrd := recD_len kd (nodeB ns)
  refine ⟨fun hb2 => ?_, fun hb2 => ?_⟩
  · have hne2 : ad ≠ ad0 := fun e => hb2 (by rw [e])
    have hout : at_ < ad ∨ ad + ln ≤ at_ := by
      rcases Nat.lt_or_gt_of_ne hne2 with hlt | hgt
      · have := Led.apart (D := g.fs) l1 l0 hlt (by omega) r1 n1
        omega
      · have := Led.apart (D := g.fs) l0 l1 hgt (by omega) r0 n0
        omega
    obtain ⟨h1, h2, h3, h4, h5, h6⟩ := h.toNodeR
    refine ⟨?_, h2, .inl (by rw [hfl]; omega), h4, h5, h6⟩
    unfold LG.at_
    rw [hfl, if_pos (by omega), hf, ← r1]
    rcases hout with hlt | hge
    · rw [List.drop_set_of_lt hlt]
    · rw [List.drop_set, if_neg (by omega), List.take_set_of_le (by omega)]
  · have e : ad = ad0 := (Option.some.inj hb2).symm
    subst e
    have hs : nrB (kd, ns) ++ g.fs.drop (ad + ln) = nrB (kd0, es0) ++ g.fs.drop (ad + ln0) := by
      show recD kd (nodeB ns) ++ _ = recD kd0 (nodeB es0) ++ _
      rw [← r1, ← r0, ← List.drop_drop, ← List.drop_drop, List.take_append_drop, List.take_append_drop]
    obtain ⟨e2, _⟩ := nrB_pre _ _ _ _ hs
    cases e2
    have hln : ln = ln0 := by rw [n1, n0]
    subst hln
    refine ⟨fun k hk hbad => ?_, by omega, by omega⟩
    obtain ⟨_, hrk⟩ := hbad
    unfold LG.at_ at hrk
    rw [hfl, if_pos (by omega), hf, List.drop_set, if_neg (by omega), List.take_set, r1] at hrk
    have hj : at_ - ad < (recD kd0 (nodeB es0)).length := by rw [hrd]; omega
    have hget : (recD kd0 (nodeB es0))[at_ - ad]? = g.fs[at_]? := by
      rw [← r1, List.getElem?_take_of_lt (by omega), List.getElem?_drop]
      congr 1
      omega
    refine rec_broken (rec_ok hk0 (node_b es0)) (fun z hz => (recD_b hk0 (node_b es0) z hz).1) hj hv (fun e => ?_) k hrk
    rw [List.getElem?_eq_getElem hj, ← e] at hget
    exact hne hget.symm

/-! ### the way as the law goes it -/
theorem ent_uniq : ∀ {es : List Ent} {a b : Ent}, Asc es → a ∈ es → b ∈ es → a.k = b.k → a = b
  | [], _, _, _, h, _, _ => by cases h
  | e :: es, a, b, h, ha, hb, hk => by
    rcases List.mem_cons.mp ha with e1 | ha2
    · rcases List.mem_cons.mp hb with e2 | hb2
      · rw [e1, e2]
      · have h1 := h.1 b hb2
        rw [← e1, hk, ltK_irr] at h1
        cases h1
    · rcases List.mem_cons.mp hb with e2 | hb2
      · have h1 := h.1 a ha2
        rw [← e2, hk, ltK_irr] at h1
        cases h1
      · exact ent_uniq h.2 ha2 hb2 hk
theorem below_filter {ks : List Ent} {key : List Int} {i : Nat} (hA : Asc ks) (hb : Below ks key i) (h0 : ∀ k, ks[0]? = some k → ltK key k.k = false) : ks.filter (fun k => !ltK key k.k) = ks.take (i + 1) := by
  conv => lhs; rw [← List.take_append_drop (i + 1) ks, List.filter_append]
  rw [List.filter_eq_self.mpr (fun x hx => ?_), List.filter_eq_nil_iff.mpr (fun x hx => ?_), List.append_nil]
  · obtain ⟨j, hj, rfl⟩ := List.getElem_of_mem hx
    rw [List.length_drop] at hj
    rw [List.getElem_drop]
    have h1 := hb.gt ks[i + 1] (List.getElem?_eq_getElem (by omega))
    cases j with
    | zero =>
      show ¬(!ltK key ks[i + 1].k) = true
      rw [h1]
      decide
    | succ j =>
      have h2 := asc_get hA (i := i + 1) (j := i + 1 + (j + 1)) (by omega) (List.getElem?_eq_getElem (by omega)) (List.getElem?_eq_getElem (by omega))
      rw [ltK_trans h1 h2]
      decide
  · obtain ⟨j, hj, rfl⟩ := List.getElem_of_mem hx
    rw [List.length_take] at hj
    rw [List.getElem_take]
    cases j with
    | zero =>
      rw [h0 _ (List.getElem?_eq_getElem (by omega))]
      rfl
    | succ j =>
      rw [hb.le (j + 1) _ (by omega) (by omega) (List.getElem?_eq_getElem (by omega))]
      rfl
theorem PathP.down {g : LG} {key : List Int} {m : Nat} {kk e : Ent} {ps : List (Nat × Nat)} {lf part : List Ent} (h : PathP g key (m + 1) kk ps lf) (hI : IsT g (m + 1) kk part) (hA : Asc part) (he : e ∈ part) (hk : e.k = key) :
    ∃ kids i k2 ps2 part2, NodeAt g 2 kk.ad kk.ln kids ∧ kids.filter (fun k => !ltK key k.k) = kids.take (i + 1) ∧ kids[i]? = some k2 ∧ ps = (kk.ad, kk.ln) :: ps2 ∧ PathP g key m k2 ps2 lf ∧ IsT g m k2 part2 ∧ Asc part2 ∧ e ∈ part2 := by
  cases h with
  | inner h hb hk2 r =>
    rename_i i k2 kids ps2
    obtain ⟨kids', h', hq⟩ := hI
    have e1 := nodeAt_uniq h' h
    subst e1
    have hAk := hq.asc hA
    have h0 : ∀ k, kids'[0]? = some k → ltK key k.k = false := fun k hk0 => by
      cases kids' with
      | nil => cases hk0
      | cons k1 ks =>
        cases hk0
        rw [← hk]
        exact hq.ge hA e he
    obtain ⟨k3, b, part2, a, hk3, e2, q1, q2, q3, q4, q5⟩ := step_down hq hA hb
    rw [hk2] at hk3
    cases hk3
    subst e2
    refine ⟨kids', i, k2, ps2, part2, h, below_filter hAk hb h0, hk2, rfl, r, q2, ?_, ?_⟩
    · rw [Asc.app, Asc.app] at hA
      exact hA.1.2.1
    · rcases List.mem_append.mp he with he | he
      · rcases List.mem_append.mp he with he | he
        · have := q4 e he
          rw [hk, ltK_irr] at this
          cases this
        · exact he
      · have := q5 e he
        rw [hk, ltK_irr] at this
        cases this
theorem PathP.mem {g : LG} {key : List Int} {e : Ent} : ∀ {m : Nat} {kk : Ent} {ps : List (Nat × Nat)} {lf part : List Ent}, PathP g key m kk ps lf → IsT g m kk part → Asc part → e ∈ part → e.k = key → e ∈ lf
  | 0, _, _, _, _, .leaf h, hI, _, he, _ => by
    have e1 := nodeAt_uniq hI h
    subst e1
    exact he
  | m + 1, _, _, _, _, h, hI, hA, he, hk => by
    obtain ⟨_, _, _, _, _, _, _, _, _, r, q1, q2, q3⟩ := PathP.down h hI hA he hk
    exact PathP.mem r q1 q2 q3 hk
theorem PathP.sub {g : LG} {key : List Int} : ∀ {m : Nat} {kk : Ent} {ps : List (Nat × Nat)} {lf part : List Ent}, PathP g key m kk ps lf → IsT g m kk part → ∀ x ∈ lf, x ∈ part
  | 0, _, _, _, _, .leaf h, hI, x, hx => by
    have e1 := nodeAt_uniq hI h
    subst e1
    exact hx
  | m + 1, _, _, _, _, .inner h hb hk2 r, ⟨kids', h', hq⟩, x, hx => by
    have e1 := nodeAt_uniq h' h
    subst e1
    obtain ⟨b, part2, a, e2, q1, q2, q3, q4⟩ := hq.split _ hk2
    subst e2
    exact List.mem_append_left _ (List.mem_append_right _ (PathP.sub r q2 x hx))
theorem ptr_mem {done : List (Nat × Nat)} {ad ln ad0 ln0 : Nat} (h : (ad0, ln0) ∉ done) : decide ([(ad : Int), (ln : Int)] = [(ad0 : Int), (ln0 : Int)]) = decide ((ad0, ln0) ∈ done ++ [(ad, ln)]) := by
  rw [decide_eq_decide]
  constructor
  · intro e
    have e1 := List.cons.inj e
    have e2 := (List.cons.inj e1.2).1
    have e1 := e1.1
    obtain rfl : ad = ad0 := by omega
    obtain rfl : ln = ln0 := by omega
    exact List.mem_append_right _ List.mem_cons_self
  · intro e
    rcases List.mem_append.mp e with e | e
    · exact absurd e h
    · cases List.mem_singleton.mp e
      rfl
theorem PathP.node {g : LG} {key : List Int} : ∀ {m : Nat} {kk : Ent} {ps : List (Nat × Nat)} {lf : List Ent}, PathP g key m kk ps lf → ∀ q ∈ ps, ∃ kd ns, NodeAt g kd q.1 q.2 ns
  | 0, _, _, _, .leaf h, q, hq => by
    rw [List.mem_singleton.mp hq]
    exact ⟨_, _, h⟩
  | m + 1, _, _, _, .inner h hb hk2 r, q, hq => by
    rcases List.mem_cons.mp hq with rfl | hq
    · exact ⟨_, _, h⟩
    · exact PathP.node r q hq
theorem PathP.head {g : LG} {key : List Int} {m : Nat} {kk : Ent} {ps : List (Nat × Nat)} {lf : List Ent} (h : PathP g key m kk ps lf) : ∃ ns, NodeAt g (kdI (decide (m = 0))) kk.ad kk.ln ns := by
  cases h with
  | leaf h => exact ⟨_, h⟩
  | inner h hb hk r => exact ⟨_, h⟩
theorem nodeAt_ln {g : LG} {kd kd0 : Int} {ad ln ln0 : Nat} {es es0 : List Ent} (hw : g.ws = []) (h : NodeAt g kd ad ln es) (h0 : NodeAt g kd0 ad ln0 es0) : ln = ln0 := by
  have led : ∀ {kd : Int} {ln : Nat} {ns : List Ent}, NodeAt g kd ad ln ns → (g.fs.drop ad).take ln = recD kd (nodeB ns) ∧ ln = (nodeB ns).length + 3 := fun {kd ln ns} h => by
    have h2 := h.end_
    rw [hw, List.length_nil] at h2
    have h3 := h.ln_
    have h4 := h.at_
    unfold LG.at_ at h4
    rw [if_pos (by omega)] at h4
    exact ⟨h4, h3⟩
  obtain ⟨r0, n0⟩ := led h0
  obtain ⟨r1, n1⟩ := led h
  have hs : nrB (kd, es) ++ g.fs.drop (ad + ln) = nrB (kd0, es0) ++ g.fs.drop (ad + ln0) := by
    show recD kd (nodeB es) ++ _ = recD kd0 (nodeB es0) ++ _
    rw [← r1, ← r0, ← List.drop_drop, ← List.drop_drop, List.take_append_drop, List.take_append_drop]
  obtain ⟨e2, _⟩ := nrB_pre _ _ _ _ hs
  cases e2
  rw [n1, n0]
section
variable {K : PySem.W.Frag} {H : Hp} {Q : VK}
theorem r_neSame42 {x y : V} {d : PyData} (hx : Tp K H x d) (hy : Tp K H y d) (hs : SeqAt.shaped d = true ∧ PyData.eqv d d = true) (q : Q (.bl false) H) : rNeD K x y H Q :=
  ⟨d, d, hx.dp, hy.dp, hs.1, hs.1, by rw [hs.2]; exact q⟩
theorem shaped_told (q : Nat × Nat) : SeqAt.shaped (toldP q) = true ∧ PyData.eqv (toldP q) (toldP q) = true := by
  have hs : PyData.canLay0 (.str (PySem.Str.ofString "pointer")) = true := by decide +kernel
  constructor
  · unfold SeqAt.shaped
    rw [Bool.and_eq_true]
    refine ⟨?_, rfl⟩
    show (PyData.canLay0 (.str (PySem.Str.ofString "pointer")) && (true && true)) = true
    rw [hs]
    rfl
  · simp [PyData.eqv, PyData.eqvAll, ptrD, toldP]
theorem shaped_toldD (q : Nat × Nat) : SeqAt.shaped (toldD q) = true ∧ PyData.eqv (toldD q) (toldD q) = true := by
  have hs : PyData.canLay0 (.str (PySem.Str.ofString "Damaged")) = true := by decide +kernel
  constructor
  · unfold SeqAt.shaped
    rw [Bool.and_eq_true]
    refine ⟨?_, rfl⟩
    show (PyData.canLay0 (.str (PySem.Str.ofString "Damaged")) && (true && true)) = true
    rw [hs]
    rfl
  · simp [PyData.eqv, PyData.eqvAll, ptrD, toldD]
theorem ptrD_inv {v : V} {q : Nat × Nat} (h : Tp K H v (ptrD q)) : ∃ t, v = .ref t ∧ ptrT K H t q.1 q.2 := by
  cases h with
  | tup h t =>
    rw [TpAll.ints_inv (ns := [(q.1 : Int), (q.2 : Int)]) t] at h
    exact ⟨_, rfl, h⟩
theorem last_tp {d : PyData} : ∀ {ds : List PyData} {vs : List V}, TpAll K H vs (ds ++ [d]) → ∃ us v, vs = us ++ [v] ∧ Tp K H v d
  | [], _, h => by
    cases h with
    | cons a t => cases t; exact ⟨[], _, rfl, a⟩
  | _ :: ds, _, h => by
    cases h with
    | cons a t =>
      obtain ⟨us, v, rfl, h2⟩ := last_tp (ds := ds) t
      exact ⟨_ :: us, v, rfl, h2⟩
def selP (key : List Int) (es : List Ent) : Nat → Option PyData := fun i => (es[i]?).bind fun x => if (!ltK key x.k) = true then some (ptrD (x.ad, x.ln)) else none
theorem selP_all (key : List Int) (es : List Ent) {n : Nat} (h : n = es.length) : (List.range n).filterMap (selP key es) = (es.filter fun x => !ltK key x.k).map fun x => ptrD (x.ad, x.ln) := by
  subst h
  exact (range_pickF es _).trans (fm_filter (fun x => !ltK key x.k) (fun x => ptrD (x.ad, x.ln)) es)
end

section
variable {P : Program} {w : World} {K : PySem.W.Frag} {mg : Str → Option Value} {base : Heap}
def lawK : Nat := 30
theorem ok_law {f : Addr} {fd : FuncData} (hP : PrOk P) (F : Fun K "law" "law" s_law f fd) (T : Top K mg) : FnOk P w K mg base CX0 lawK f fd ["script"] (spLaw K) := by
  obtain ⟨CD, C_Disk⟩ := T.c_Disk
  obtain ⟨CL, C_Log⟩ := T.c_Log
  obtain ⟨C_TesseraError, C_Unreadable, C_Damaged, R⟩ := T.errs
  have E_Damaged := ini_Damaged (P := P) (w := w) (base := base) hP T.b_super (d_told T) R.c_Damaged R.i_Damaged
  have EH_Damaged := inih_Damaged (P := P) (w := w) (base := base) hP T.b_super (w_told T) R.c_Damaged R.i_Damaged
  have E_Unreadable := ini_Unreadable (P := P) (w := w) (base := base) hP T.b_super (d_told T) R.c_Unreadable R.i_Unreadable
  have EH_Unreadable := inih_Unreadable (P := P) (w := w) (base := base) hP T.b_super (w_told T) R.c_Unreadable R.i_Unreadable
  have G__law_cell : Def P w K mg base CX0 1 "_law_cell" ["script", "k"] (sp_cell K) := d_cell T
  have G__law_draws : Def P w K mg base CX0 1 "_law_draws" ["cell", "count"] sp_draws := d_draws T
  have I_Disk : KDef P w K mg base CX0 1 CD ["self", "values"] (sp_dinit K CD) := d_dinit T C_Disk
  have I_Log : KDef P w K mg base CX0 4 CL ["self", "disk"] (sp_lginit K CL CD) := d_lginit T C_Log C_Disk
  have G_put : Def P w K mg base CX0 17 "put" ["log", "root", "key", "pointer"] (sp_put K CL CD) := d_put T (d_wayto T R E_Unreadable EH_Unreadable E_Damaged EH_Damaged C_Log C_Disk) C_Log C_Disk
  have M_Log_seal : MDef P w K mg base CX0 3 CL "seal" ["self", "root"] (sp_lgseal K CL CD) := d_lgseal T C_Log C_Disk
  have Z__law_node_at : Def P w K mg base CX0 8 "_law_node_at" ["log", "pointer"] (spZ (sp_lnatH K CL CD)) := (d_lnatH T R E_Damaged EH_Damaged C_Log C_Disk).toZ
  have G_node_pointers : Def P w K mg base CX0 (14 + 12) "node_pointers" ["log", "root"] (npN K CL CD 12) := d_np T R E_Unreadable EH_Unreadable E_Damaged EH_Damaged C_Log C_Disk 12
  have M_Disk_change : MDef P w K mg base CX0 1 CD "change" ["self", "address", "value"] (sp_dchange K CD) := d_dchange T C_Disk
  have M_Disk_part : MDef P w K mg base CX0 1 CD "part" ["self", "address", "count"] (sp_dpart K CD) := d_dpart T C_Disk
  have G__law_contents : Def P w K mg base CX0 3 "_law_contents" ["disk"] (sp_lcont K CD) := d_lcont T C_Disk
  have G__law_told : Def P w K mg base CX0 17 "_law_told" ["log", "root", "key"] (sp_told42 K CL CD) := d_told42 T R E_Unreadable EH_Unreadable E_Damaged EH_Damaged C_Log C_Disk
  refine F.ok sc_law (by rintro vs H Q E ⟨a, ss, rfl, _⟩; rfl) (fun cdv A outer s H vs Q E hr h => ?_)
  obtain ⟨a, ss, rfl, hS, hl, hb, q⟩ := h
  refine ⟨_, (pss_cons (ps_set (i := 1) sc_law.nd rfl (Or.inl rfl) (pe_callD G__law_draws (hr.mono (by decide)) (pa_cons (pe_callD G__law_cell (hr.mono (by decide)) (pa_cons (pv 0) (pa_cons pe_int pa_nil))) (pa_cons pe_int pa_nil))))
      (pss_cons (ps_set (i := 2) sc_law.nd rfl (Or.inl rfl) (pe_makeD I_Disk C_Disk.at_ (hr.mono (by decide)) (pa_cons (pe_lst pa_nil) pa_nil)))
      (pss_cons (ps_set (i := 3) sc_law.nd rfl (Or.inl rfl) (pe_makeD I_Log C_Log.at_ (hr.mono (by decide)) (pa_cons (pv 2) pa_nil)))
      (pss_cons (ps_set (i := 4) sc_law.nd rfl (Or.inl rfl) (pe_tup (pa_cons pe_int (pa_cons pe_int pa_nil))))
      (pss_cons (ps_set (i := 5) sc_law.nd rfl (Or.inl rfl) pe_dnewT)
      (pss_cons (ps_for PassesOwn.never rfl (pi_range1 (by rfl) T.b_range (pa_cons (pe_op op_add pe_int (pe_op op_mod (pe_ix (r := rIxL K) ix_list (pv 1) pe_int (fun _ _ => rfl)) pe_int)) pa_nil)) (pg_name (i := 6) sc_law.nd rfl (Or.inl rfl)) (pss_cons (ps_set (i := 7) sc_law.nd rfl (Or.inr rfl) (pe_tup (pa_cons (pe_op op_mod (pe_ix (r := rIxL K) ix_list (pv 1) (pv 6) (fun _ _ => rfl)) pe_int) pa_nil)))
      (pss_cons (ps_dput (Nat.lt_of_le_of_lt (Nat.add_le_add_left (by decide) _) hr.units) (pv 5) (pv 7) (pe_tup (pa_cons (pv 6) (pa_cons pe_int pa_nil))) rfl)
      (pss_one (ps_set (i := 4) sc_law.nd rfl (Or.inl rfl) (pe_callD G_put (hr.mono (by decide)) (pa_cons (pv 3) (pa_cons (pv 4) (pa_cons (pv 7) (pa_cons (pe_dget (Nat.lt_of_le_of_lt (Nat.add_le_add_left (by decide) _) hr.units) (pv 5) (pv 7) (fun _ _ => rfl)) pa_nil))))))))))
      (pss_cons (ps_expr (pe_methD (pv 3) C_Log.cl M_Log_seal (hr.mono (by decide)) (pa_cons (pv 4) pa_nil)))
      (pss_cons (ps_set (i := 8) sc_law.nd rfl (Or.inl rfl) (pe_dispT1 (Nat.lt_of_le_of_lt (Nat.add_le_add_left (by decide) _) hr.units) (pv 4) (pe_lst pa_nil)))
      (pss_cons (ps_set (i := 9) sc_law.nd rfl (Or.inl rfl) (pe_lst pa_nil))
      (pss_cons (ps_set (i := 10) sc_law.nd rfl (Or.inl rfl) (pe_lst (pa_cons (pv 4) pa_nil)))
      (pss_cons (ps_for PassesOwn.never rfl (pi_range1 (by rfl) T.b_range (pa_cons pe_int pa_nil)) (pg_name (i := 6) sc_law.nd rfl (Or.inl rfl)) (pss_cons (ps_if (pt_cmpR op_eq (pe_callB (r := Evl.rLenS K) call_len_seq (by rfl) T.b_len (by decide +kernel) (pa_cons (pv 10) pa_nil)) pe_int (nomark _)) (pss_one ps_break) pss_nil)
      (pss_cons (ps_set (i := 11) sc_law.nd rfl (Or.inl rfl) (pe_ix (r := rIxL K) ix_list (pv 10) pe_int (fun _ _ => rfl)))
      (pss_cons (ps_asg (pe_callD Z__law_node_at (hr.mono (by decide)) (pa_cons (pv 3) (pa_cons (pv 11) pa_nil))) (pg_lst (n := 2) rfl (pgs_cons (pg_name (i := 12) sc_law.nd rfl (Or.inl rfl)) (pgs_cons (pg_name (i := 13) sc_law.nd rfl (Or.inl rfl)) pgs_nil))))
      (pss_cons (ps_set (i := 14) sc_law.nd rfl (Or.inl rfl) (pe_lst pa_nil))
      (Evl.pss_cut (ps_if (pt_not (pt_val (pv 12))) (pss_one (ps_setLc (i := 14) (own := [("row", 15)]) (g := (gName 15)) (tt := tYes) rfl sc_law.nd rfl rfl (sw_true rfl rfl rfl (by decide +kernel)) (pi_list (pv 13)) (blkOk_by (N := N_law) (sc := defScope s_law) (by decide +kernel)) (fun _ _ _ _ _ => (pg_name (i := 15) sc_law.nd rfl (Or.inl rfl))) (fun _ _ _ _ _ => pts_nil) (fun _ _ _ _ _ => (pe_ix (r := rIxT K) ix_tup (pv 15) pe_int (fun _ _ => rfl))))) pss_nil)
      (pss_cons (ps_for PassesOwn.never rfl (pi_list (pv 14)) (pg_name (i := 16) sc_law.nd rfl (Or.inl rfl)) (pss_one (ps_dput (Nat.lt_of_le_of_lt (Nat.add_le_add_left (by decide) _) hr.units) (pv 8) (pv 16) (pe_op op_cat (pe_dget (Nat.lt_of_le_of_lt (Nat.add_le_add_left (by decide) _) hr.units) (pv 8) (pv 11) (fun _ _ => rfl)) (pe_lst (pa_cons (pv 11) pa_nil))) rfl)))
      (pss_cons (ps_expr (pe_bm PySem.F.plainAttrs_list PySem.F.slot_list_append PySem.F.type_list_append mt_append (pv 9) (pa_cons (pv 11) pa_nil)))
      (pss_one (ps_set (i := 10) sc_law.nd rfl (Or.inl rfl) (pe_op op_cat (pv 14) (pe_slice (r := rSlL K) sl_list (pv 10) (po_some pe_int) po_none))))))))))))
      (pss_cons (ps_if (pt_cmpR (r := rNeD K) (op_neD hr.units) (pe_callD G_node_pointers (hr.mono (by decide)) (pa_cons (pv 3) (pa_cons (pv 4) pa_nil))) (pv 9) (nomark _)) (pss_one (ps_ret pe_bl)) pss_nil)
      (pss_cons (ps_set (i := 17) sc_law.nd rfl (Or.inl rfl) (pe_ix (r := rIxL K) ix_list (pv 9) (pe_op op_mod (pe_ix (r := rIxL K) ix_list (pv 1) pe_int (fun _ _ => rfl)) (pe_callB (r := Evl.rLenS K) call_len_seq (by rfl) T.b_len (by decide +kernel) (pa_cons (pv 9) pa_nil))) (fun _ _ => rfl)))
      (pss_cons (ps_set (i := 18) sc_law.nd rfl (Or.inl rfl) (pe_op op_add (pe_ix (r := rIxT K) ix_tup (pv 17) pe_int (fun _ _ => rfl)) (pe_op op_mod (pe_ix (r := rIxL K) ix_list (pv 1) pe_int (fun _ _ => rfl)) (pe_ix (r := rIxT K) ix_tup (pv 17) pe_int (fun _ _ => rfl)))))
      (pss_cons (ps_expr (pe_methD (pv 2) C_Disk.cl M_Disk_change (hr.mono (by decide)) (pa_cons (pv 18) (pa_cons (pe_op op_mod (pe_callTy (r := rInt1) call_int1 (by rfl) T.b_int (by decide +kernel) (pa_cons (pe_op op_add (pe_op op_add (pe_ix (r := rIxL K) ix_list (pe_methD (pv 2) C_Disk.cl M_Disk_part (hr.mono (by decide)) (pa_cons (pv 18) (pa_cons pe_int pa_nil))) pe_int (fun _ _ => rfl)) pe_int) (pe_op op_mod (pe_ix (r := rIxL K) ix_list (pv 1) pe_int (fun _ _ => rfl)) pe_int)) pa_nil)) pe_int) pa_nil))))
      (pss_cons (ps_set (i := 19) sc_law.nd rfl (Or.inl rfl) (pe_makeD I_Disk C_Disk.at_ (hr.mono (by decide)) (pa_cons (pe_callD G__law_contents (hr.mono (by decide)) (pa_cons (pv 2) pa_nil)) pa_nil)))
      (pss_cons (ps_expr (pe_methD (pv 19) C_Disk.cl M_Disk_change (hr.mono (by decide)) (pa_cons (pv 18) (pa_cons (pe_op op_mod (pe_callTy (r := rInt1) call_int1 (by rfl) T.b_int (by decide +kernel) (pa_cons (pe_op op_sub (pe_op op_sub (pe_ix (r := rIxL K) ix_list (pe_methD (pv 19) C_Disk.cl M_Disk_part (hr.mono (by decide)) (pa_cons (pv 18) (pa_cons pe_int pa_nil))) pe_int (fun _ _ => rfl)) pe_int) (pe_op op_mod (pe_ix (r := rIxL K) ix_list (pv 1) pe_int (fun _ _ => rfl)) pe_int)) pa_nil)) pe_int) pa_nil))))
      (pss_cons (ps_set (i := 20) sc_law.nd rfl (Or.inl rfl) (pe_makeD I_Log C_Log.at_ (hr.mono (by decide)) (pa_cons (pv 19) pa_nil)))
      (pss_cons (ps_set (i := 3) sc_law.nd rfl (Or.inl rfl) (pe_makeD I_Log C_Log.at_ (hr.mono (by decide)) (pa_cons (pv 2) pa_nil)))
      (pss_cons (ps_for PassesOwn.never rfl (pi_list (pe_callB (r := rSortedDT) (cr_sortedDT rfl (Nat.lt_of_le_of_lt (Nat.add_le_add_left (by decide) _) hr.units)) (by rfl) T.b_sorted (by decide +kernel) (pa_cons (pv 5) pa_nil))) (pg_name (i := 7) sc_law.nd rfl (Or.inr rfl)) (pss_cons (ps_set (i := 21) sc_law.nd rfl (Or.inl rfl) (pv 4))
      (pss_cons (ps_set (i := 22) sc_law.nd rfl (Or.inl rfl) pe_bl)
      (pss_cons (ps_for PassesOwn.never rfl (pi_range1 (by rfl) T.b_range (pa_cons pe_int pa_nil)) (pg_name (i := 23) sc_law.nd rfl (Or.inl rfl)) (pss_cons (ps_set (i := 22) sc_law.nd rfl (Or.inl rfl) (pe_cutE (pe_or (pv 22) (pe_one (pe_cmpR (r := rEqD K) (op_eqD hr.units) (pv 21) (pv 17) (nomark _))))))
      (pss_cons (ps_asg (pe_callD Z__law_node_at (hr.mono (by decide)) (pa_cons (pv 20) (pa_cons (pv 21) pa_nil))) (pg_lst (n := 2) rfl (pgs_cons (pg_name (i := 12) sc_law.nd rfl (Or.inl rfl)) (pgs_cons (pg_name (i := 13) sc_law.nd rfl (Or.inl rfl)) pgs_nil))))
      (pss_cons (ps_if (pt_val (pv 12)) (pss_one ps_break) pss_nil)
      (pss_one (ps_set (i := 21) sc_law.nd rfl (Or.inl rfl) (pe_ix (r := rIxL K) ix_list (pe_lc (own := [("row", 15)]) (g := (gName 15)) rfl sc_law.nd (pi_list (pv 13)) (blkOk_by (N := N_law) (sc := defScope s_law) (by decide +kernel)) (fun _ _ _ _ _ => (pg_name (i := 15) sc_law.nd rfl (Or.inl rfl))) (fun _ _ _ _ _ => pts_one (pt_cmpR (r := rLeT K) (op_leT (Nat.lt_of_le_of_lt (Nat.le_add_right _ _) hr.units)) (pe_ix (r := rIxT K) ix_tup (pv 15) pe_int (fun _ _ => rfl)) (pv 7) (nomark _))) (fun _ _ _ _ _ => (pe_ix (r := rIxT K) ix_tup (pv 15) pe_int (fun _ _ => rfl)))) (pe_un un_neg pe_int) (fun _ _ => rfl))))))))
      (pss_cons (ps_set (i := 24) sc_law.nd rfl (Or.inl rfl) (pe_tup (pa_cons pe_str (pa_cons (pe_dget (Nat.lt_of_le_of_lt (Nat.add_le_add_left (by decide) _) hr.units) (pv 5) (pv 7) (fun _ _ => rfl)) pa_nil))))
      (Evl.pss_cut (ps_if (pt_val (pv 22)) (pss_one (ps_set (i := 24) sc_law.nd rfl (Or.inl rfl) (pe_tup (pa_cons pe_str (pa_cons (pv 17) pa_nil))))) pss_nil)
      (pss_one (ps_if (pt_cmpR (r := rNeD K) (op_neD hr.units) (pe_callD G__law_told (hr.mono (by decide)) (pa_cons (pv 3) (pa_cons (pv 4) (pa_cons (pv 7) pa_nil)))) (pv 24) (nomark _)) (pss_one (ps_ret pe_bl)) pss_nil))))))))
      (pss_one (ps_ret pe_bl)))))))))))))))))))))), ?_⟩
  walk_at "rd"
  refine ⟨_, _, _, rfl, hS, by omega, ?_⟩
  walk_at "rd"
  refine ⟨_, 64, rfl, by omega, fun dr hdl hdr => r_ret1 (Own.nil H) fun pd H1 o1 => ?_⟩
  walk_at "rd"
  refine r_newLs o1 (Nat.zero_le _) fun pv H2 s2 o2 => ?_
  walk_at "rd"
  intro x dx nx ndx nex
  have oa := o2.new (u := .own x) ndx
  have ob := oa.new (u := .ins CD dx []) (show upd H2 dx (.own x) x = none by rw [upd_ne (Ne.symm nex)]; exact nx)
  refine ⟨x, pv, dx, ([] : List Int).map V.int, rfl, ob.at 0 rfl, ob.sqL 2 rfl, fun fl hfl' => ⟨rfl, ?_⟩⟩
  have od := (ob.new (u := .lst (([] : List Int).map V.int)) hfl').set (v := .ins CD dx (dkF fl)) 1 rfl
  revert od
  generalize upd (upd (upd (upd H2 dx (.own x)) x (.ins CD dx [])) fl (.lst (([] : List Int).map V.int))) x (.ins CD dx (dkF fl)) = H4
  intro od
  walk_at "rd"
  intro y dy ny ndy ney
  have oe := od.new (u := .own y) ndy
  have og := oe.new (u := .ins CL dy []) (show upd H4 dy (.own y) y = none by rw [upd_ne (Ne.symm ney)]; exact ny)
  refine ⟨y, dy, x, dx, fl, [], rfl, og.at 0 rfl, og.at 3 rfl, og.at 2 rfl, (fun z hz => by cases hz), Nat.zero_le _, fun l H5 hf hln hy5 hl5 => ⟨rfl, ?_⟩⟩
  have oh := og.chg 0 rfl hf hy5
  have oi := Own.addF og oh rfl hln hl5
  have hLg : LogAt CL CD H5 y ⟨dy, l, x, dx, fl, lastB [], [], []⟩ := ⟨oi.at 1 rfl, oi.at 0 rfl, oi.at 4 rfl, oi.at 3 rfl, oi.ne (i := 0) (j := 3) rfl rfl (by decide)⟩
  walk_at "rd"
  refine r_newTb oi (Nat.le_of_ble_eq_true rfl) fun tr0 H6 s6 o6 => ?_
  walk_at "rd"
  intro pt hpt
  have o7 := o6.new (u := .dT []) hpt
  revert o7
  generalize upd H6 pt (.dT []) = H7
  intro o7
  have hG : GT CL CD H7 y pd pt tr0 dr ⟨dy, l, x, dx, fl, lastB [], [], []⟩ [] 0 0 [] 0 := by
    refine ⟨⟨o7.at 3 rfl, o7.at 2 rfl, o7.at 6 rfl, o7.at 5 rfl, o7.ne (i := 2) (j := 5) rfl rfl (by decide)⟩, o7.at 9 rfl, o7.ne (i := 9) (j := 2) rfl rfl (by decide), o7.ne (i := 9) (j := 5) rfl rfl (by decide), o7.at 0 rfl, o7.at 1 rfl, .inl ⟨rfl, rfl, rfl, Nat.le_refl _⟩, Led.nil, rfl, (by show (-1 : Int) ≤ lastB []; decide), Nat.zero_le _, Nat.le_refl _, fun h => absurd h (by omega)⟩
  have hD7 : SqL K H7 pd (dr.map V.int) := SqL.of hG.hpd
  clear oa ob od oe og oh oi o1 o2 o6 o7 hf hln hy5 hl5 ny ndy ney nx ndx nex hfl' hLg
  walk_at "rd"
  generalize hm1 : 10 + (_ : Int) % 51 = mm
  have hm0 := hdr.gi (i := 63) (by omega) (by omega)
  obtain ⟨m, rfl, hm10, hm60⟩ : ∃ m : Nat, mm = m ∧ 10 ≤ m ∧ m ≤ 60 := ⟨mm.toNat, by omega, by omega, by omega⟩
  clear hm1 hm0
  refine forR1 (n := m) rfl (by omega) (fun k σ' H' => ∃ (tr : Addr) (g : LG) (kvs : List (List Key × V)) (ra rl : Nat) (es : List Ent) (v6 v7 : Option V), σ' = [some (.ref a), some (.ref pd), some (.ref x), some (.ref y), some (.ref tr), some (.ref pt), v6, v7, none, none, none, none, none, none, none, none, none, none, none, none, none, none, none, none, none] ∧ GT CL CD H' y pd pt tr dr g kvs ra rl es k ∧ g.d = x ∧ kvs.length ≤ k ∧ TabE K H' kvs es) ⟨tr0, _, [], 0, 0, [], _, _, rfl, hG, rfl, Nat.le_refl _, TabE.nil⟩ ?_ ?_
  · rintro k σ' H' hk ⟨tr, g, kvs, ra, rl, es, v6, v7, rfl, hG, hgd, hkl, hT⟩
    have hD : SqL K H' pd (dr.map V.int) := SqL.of hG.hpd
    have hk0 := hdr.gi (i := (k : Int)) (by omega) (by omega)
    unfold sDPut tDGet
    walk_at "rd"
    generalize hz : gi dr (k : Int) % 500 = z
    have hz0 : 0 ≤ z ∧ z < 500 := by omega
    clear hk0 hz
    refine r_newTb (Own.nil H') (Nat.le_of_ble_eq_true rfl) fun tk H1 s1 o1 => ?_
    walk_at "rd"
    refine r_newTb o1 (Nat.le_of_ble_eq_true rfl) fun tp H2 s2 o2 => ?_
    have hG2 := hG.same o2.ex
    walk_at "rd"
    refine ⟨pt, _, rfl, DPut.t (k := kxx [z]) hG2.hpt (by rw [kxx_v]; exact o2.at 1 rfl) (by rw [sizeLine_eq]; omega), ?_⟩
    have hG3 := hG2.tab (kvs' := putK kvs (kxx [z]) (.ref tp))
    have th3 : Sth H2 (upd H2 pt (.dT (putK kvs (kxx [z]) (.ref tp)))) := Sth.setD hG2.hpt
    have st3 : Stp H2 (upd H2 pt (.dT (putK kvs (kxx [z]) (.ref tp)))) := Stp.setD hG2.hpt
    have hT3 := ((hT.up (.of o2.ex)).put (e := ⟨[z], k, 5⟩) (tp := tp) (SqT.of (o2.at 0 rfl))).up st3
    have htk3 := th3 _ _ (o2.at 1 rfl)
    have htp3 := th3 _ _ (o2.at 0 rfl)
    have hkl3 := length_putK kvs (kxx [z]) (.ref tp)
    revert hG3 hT3 htk3 htp3
    generalize upd H2 pt (.dT (putK kvs (kxx [z]) (.ref tp))) = H3
    intro hG3 hT3 htk3 htp3
    clear th3 st3 hG2 s1 s2 o1 o2
    walk_at "rd"
    refine ⟨pt, .ref tp, rfl, ?_, ?_⟩
    · have := DGet.t (k := kxx [z]) hG3.hpt (by rw [kxx_v]; exact htk3)
      rw [valV_put, if_pos rfl] at this
      exact this
    walk_at "rd"
    have hws := hG3.sz
    have hfs := hG3.fs0
    refine ⟨y, tr, tk, tp, g, ra, rl, es, ⟨[z], k, 5⟩, 7 + k, rfl, hG3.lg, SqT.of hG3.htr, SqT.of htk3, SqT.of htp3, ⟨⟨by simp, fun c hc => by rw [List.mem_singleton.mp hc]; omega⟩, by show k < _; omega, by show 5 < _; omega⟩, hG3.rt, by omega, hG3.al, by rw [hfs]; exact Nat.zero_le _, by omega, fun H4 u bs ra' rl' hf hl4 hb4 ht hr hal => ?_⟩
    have st4 : Stp H3 H4 := stp_frameL hG3.lg.wt hf
    walk_at "rd"
    exact ⟨u, g.put bs, putK kvs (kxx [z]) (.ref tp), ra', rl', insE ⟨[z], k, 5⟩ es, _, _, rfl, hG3.wrote hf hl4 hb4 ht hr hal (ins_len _) (ins_ne _ _), hgd, by omega, hT3.up st4⟩
  · rintro σ' H' ⟨tr, g, kvs, ra, rl, es, v6, v7, rfl, hG, hgd, hkl, hT⟩
    have hne := hG.e1 (by omega)
    obtain ⟨hrl, d, nd, hC, hA, hdx⟩ : 3 ≤ rl ∧ ∃ d nd, Cur g d ⟨[], ra, rl⟩ nd es ∧ Asc es ∧ 7 * (d + 1) + nd.length ≤ 7 + m := by
      rcases hG.rt with ⟨_, _, h, _⟩ | h
      · exact absurd h hne
      · exact h
    have hnp := hC.node.pos
    have hel := hG.el
    have hws := hG.sz
    have hfs0 := hG.fs0
    have hb1 := hG.b1
    walk_at "rd"
    refine ⟨y, g.dx, _, rfl, hG.lg.me, rfl, ?_⟩
    walk_at "rd"
    refine ⟨y, tr, g, ra, rl, rfl, hG.lg, SqT.of hG.htr, by omega, by omega, by omega, by rw [hfs0]; exact Nat.zero_le _, by omega, fun H5 l' hf5 hl'0 hme hl'1 hfl5 => ?_⟩
    rw [List.append_assoc g.ws] at hfl5
    generalize hsl : sealL (g.b + 1) (ra : Int) (rl : Int) ++ sealL (g.b + 1) (ra : Int) (rl : Int) = sl at hfl5
    have hsll : sl.length = 56 := by rw [← hsl, List.length_append, seal_len]
    have hslb : ∀ z ∈ sl, 0 ≤ z ∧ z < 256 := fun z hz => by
      rw [← hsl] at hz
      rcases List.mem_append.mp hz with hz | hz <;> exact seal_b _ _ _ z hz
    have dp := hG.lg.dne
    have up : ∀ {b : Addr} {u : HO}, H' b = some u → b ≠ y → b ≠ g.fl → H5 b = some u := fun hb h1 h2 => hf5 _ _ h1 h2 hb
    have hL1 : LogAt CL CD H5 y (g.sealed l' sl) := ⟨hme, hl'1, up hG.lg.dk dp (lst_ne hG.lg.fl hG.lg.dk), hfl5, fun e => by have e : l' = g.fl := e; have := hG.lg.fl; rw [← e, hl'0] at this; cases this⟩
    have st5 : Stp H' H5 := stp_frame2 (noTup_i hG.lg.me) (noTup_l hG.lg.fl) hf5
    have hpd5 := up hG.hpd (fun e => lst_ne hG.hpd hG.lg.me e.symm) hG.pdf
    have hpt5 := up hG.hpt (fun e => by have := hG.hpt; rw [e, hG.lg.me] at this; cases this) (fun e => by have := hG.hpt; rw [e, hG.lg.fl] at this; cases this)
    have htr5 : ptrH H5 tr ra rl := up hG.htr (fun e => by have := hG.htr; unfold ptrH at this; rw [e, hG.lg.me] at this; cases this) (fun e => by have := hG.htr; unfold ptrH at this; rw [e, hG.lg.fl] at this; cases this)
    have hT5 := hT.up st5
    have hC1 := hC.sealed l' sl
    have hbyt : ∀ z ∈ (g.sealed l' sl).fs, 0 ≤ z ∧ z < 256 := fun z hz => by
      have hz : z ∈ g.fs ++ (g.ws ++ sl) := hz
      rw [hfs0, List.nil_append] at hz
      rcases List.mem_append.mp hz with hz | hz
      · have ha : Led (g.fs ++ g.ws) := hG.al
        rw [hfs0, List.nil_append] at ha
        exact ha.b z hz
      · exact hslb z hz
    have hfsl : (g.sealed l' sl).fs.length ≤ 600000 := by
      show (g.fs ++ (g.ws ++ sl)).length ≤ _
      rw [hfs0, List.nil_append, List.length_append, hsll]
      omega
    have hws1 : (g.sealed l' sl).ws = [] := rfl
    have hgd1 : (g.sealed l' sl).d = x := hgd
    have hpdf1 : pd ≠ (g.sealed l' sl).fl := hG.pdf
    revert hL1 hC1 hbyt hfsl hws1 hgd1 hpdf1
    generalize g.sealed l' sl = g1
    intro hL1 hC1 hbyt hfsl hws1 hgd1 hpdf1
    clear hG hT hC hnp hws hfs0 hb1 hf5 hl'0 hme hl'1 hfl5 hsl hsll hslb dp up st5 hgd
    walk_at "rd"
    refine r_disT1 (Own.nil H5) fun pa H6 hpa o6 s6 => ?_
    walk_at "rd"
    refine r_newLs o6 (Nat.zero_le _) fun l0 H7 s7 o7 => ?_
    refine ⟨o7.at 1 rfl, kxx [(ra : Int), (rl : Int)], tr, rfl, by rw [kxx_v]; exact o7.ex _ _ htr5, ?_⟩
    have o8 := o7.set (v := .dT [(kxx [(ra : Int), (rl : Int)], .ref l0)]) 1 rfl
    revert o8
    generalize upd H7 pa (.dT [(kxx [(ra : Int), (rl : Int)], .ref l0)]) = H8
    intro o8
    have o8 : Own H5 H8 [(l0, .lst []), (pa, .dT [(kxx [(ra : Int), (rl : Int)], .ref l0)])] := o8
    walk_at "rd"
    refine r_newLs o8 (Nat.zero_le _) fun po H9 s9 o9 => ?_
    walk_at "rd"
    refine r_newLs o9 (Nat.le_of_ble_eq_true rfl) fun pw H10 s10 o10 => ?_
    have o11 : Own H5 H10 ([(pw, .lst [.ref tr]), (l0, .lst [])] ++ [(pa, .dT [(kxx [(ra : Int), (rl : Int)], .ref l0)]), (po, .lst [])]) := o10.pick [0, 2, 3, 1] (by decide)
    obtain ⟨B0, sB0, hB0, o12⟩ := own_frzs o11
    have hpw := hB0 _ List.mem_cons_self
    have hl0 := hB0 _ (List.mem_cons_of_mem _ List.mem_cons_self)
    dsimp only at hpw hl0
    obtain ⟨ps0, hP0, hpl⟩ := PreT.ex d hC1.isT
    clear o6 o7 o8 o9 o10 o11 s6 s7 s9 s10 hB0 hpa
    walk_at "rd"
    refine forR1F (Fin := fun σ' H' => ∃ (Bs : Hp) (kva : List (List Key × V)) (vso : List V) (v6 v10 v11 v12 v13 v14 v15 v16 : Option V), σ' = [some (.ref a), some (.ref pd), some (.ref x), some (.ref y), some (.ref tr), some (.ref pt), v6, v7, some (.ref pa), some (.ref po), v10, v11, v12, v13, v14, v15, v16, none, none, none, none, none, none, none, none] ∧ Own Bs H' [(pa, .dT kva), (po, .lst vso)] ∧ Same H5 Bs ∧ PtrsV K Bs vso ps0)
      (n := 200) rfl (by decide) (fun k σ' H' => ∃ (Bs : Hp) (kva : List (List Key × V)) (vso vsw : List V) (done rest : List (Nat × Nat)) (wt : List (Nat × Ent)) (pw : Addr) (v6 v11 v12 v13 v14 v15 v16 : Option V), σ' = [some (.ref a), some (.ref pd), some (.ref x), some (.ref y), some (.ref tr), some (.ref pt), v6, v7, some (.ref pa), some (.ref po), some (.ref pw), v11, v12, v13, v14, v15, v16, none, none, none, none, none, none, none, none] ∧ Own Bs H' [(pa, .dT kva), (po, .lst vso)] ∧ Same H5 Bs ∧ PtrsV K Bs vso done ∧ done.length = k ∧ ps0 = done ++ rest ∧ PendT g1 wt rest ∧ Bs pw = some (.lst vsw) ∧ WaitV Bs vsw wt ∧ AbvV Bs kva (9 * k) (wt.map fun p => (p.2.ad, p.2.ln)) ∧ kva.length ≤ 1 + 8 * k)
      ⟨B0, _, [], [.ref tr], [], ps0, [(d, ⟨[], ra, rl⟩)], pw, _, _, _, _, _, _, _, rfl, o12, sB0, .nil, rfl, rfl, ⟨ps0, [], (List.append_nil _).symm, hP0, rfl⟩, hpw, .cons ⟨tr, rfl, sB0 _ _ htr5⟩ .nil, ?_, Nat.le_refl _⟩ ?_ ?_ ?_
    · intro q hq
      rw [List.mem_singleton.mp hq]
      exact ⟨l0, [], valV_pos rfl, hl0, Nat.le_refl _⟩
    · rintro fin k σ' H' hk ⟨Bs, kva, vso, vsw, done, rest, wt, pw, v6, v11, v12, v13, v14, v15, v16, rfl, o, sB, hvo, hdn, hps, hpn, hpw, hwv, hab, hkl⟩
      have hwl := All2.len hwv
      walk_at "rd"
      refine r_len (o.old (SqL.of hpw)) ?_
      walk_at "rd"
      refine rif (fun h0 => ?_) fun h0 => ?_
      · refine r_break ?_
        obtain rfl : wt = [] := List.eq_nil_of_length_eq_zero (by omega)
        rw [show rest = [] from hpn, List.append_nil] at hps
        subst hps
        exact fin _ _ ⟨Bs, kva, vso, _, _, _, _, _, _, _, _, rfl, o, sB, hvo⟩
      cases hwv with
      | nil => exact absurd rfl h0
      | cons hv0 hwv =>
      rename_i v0 p0 vsw wt
      obtain ⟨dd, ee⟩ := p0
      obtain ⟨t0, rfl, ht0⟩ := hv0
      obtain ⟨qa, qr, rfl, hpre, hpn⟩ := hpn
      dsimp only at ht0 hpre
      walk_at "rd"
      refine r_ixL (o.old (SqL.of hpw)) (atI_nat (j := 0) rfl) ?_
      walk_at "rd"
      obtain ⟨nd0, hN⟩ := hpre.node
      have hH' : Same H5 H' := sB.trans o.ex
      refine ⟨y, t0, g1, decide (dd = 0), ee.ad, ee.ln, nd0, rfl, LogAt.up hL1 hH', SqT.of (o.ex _ _ ht0), by omega, by rw [hws1]; exact Nat.zero_le _, hN.toNodeR, fun H2 xx ll us s2 hxx hll hne2 hxx2 hll2 hR => ?_⟩
      have o2 := (Own.nil H').add2 s2 hxx hll hne2 hxx2 hll2
      refine r_gLst2 (o2.sqL 0 rfl) ?_
      walk_at "rd"
      refine r_newLb o2 (Nat.zero_le _) fun pb0 H3 s3 o3 => ?_
      walk_at "rd"
      have hl8 := hN.le
      have hul := All2.len hR
      refine ⟨fun σ2 H4 => ∃ (pb : Addr) (ys : List V) (kids : List Ent) (qs : List (Nat × Nat)) (v15 : Option V), σ2 = [some (.ref a), some (.ref pd), some (.ref x), some (.ref y), some (.ref tr), some (.ref pt), some (.int (k : Int)), v7, some (.ref pa), some (.ref po), some (.ref pw), some (.ref t0), some (.bl (decide (dd = 0))), some (.ref ll), some (.ref pb), v15, v16, none, none, none, none, none, none, none, none] ∧ Same H' H4 ∧ H4 pb = some (.lst ys) ∧ H' pb = none ∧ All2 (fun v (e : Ent) => ∃ t, v = .ref t ∧ ptrH H4 t e.ad e.ln) ys kids ∧ PendT g1 (kids.map fun e => (dd - 1, e)) qs ∧ qa = (ee.ad, ee.ln) :: qs ∧ kids.length ≤ 8, ?_, ?_⟩
      · walk_at "rd"
        refine rif_n (fun hd0 => ?_) fun hd0 => ?_
        · obtain ⟨dd, rfl⟩ : ∃ d2, dd = d2 + 1 := ⟨dd - 1, by omega⟩
          obtain ⟨kids, qs, hNk, hK, rfl⟩ := hpre
          have e := nodeAt_uniq hNk hN
          subst e
          obtain ⟨ys, hyl, hyg, hya⟩ := hR.ptrs
          walk_at "rd"
          refine lcL (K := K) ys hyl (Own.nil H3) (fun H' p zs o' => o'.old (o3.sqL 2 rfl)) (o3.sqL 2 rfl) (by omega) (fun _ => rfl) ?_ ?_
          · intro i u v p zs H4 Q' hu hv o4 q'
            obtain ⟨te, tk, tp, rfl, rfl, hte⟩ := hyg i u v hu hv
            have hte4 : H4 te = some (.tup [.ref tk, .ref tp]) := o4.ex _ _ (s3 _ _ hte)
            walk_at "rd"
            refine r_ixT (SqT.of hte4) (v := .ref tp) rfl ?_
            exact q' H4 (.refl _)
          · intro pb H4 o4
            walk_at "rd"
            exact ⟨pb, ys, kids, qs, _, rfl, o3.ex.trans o4.ex, o4.at 0 rfl, o3.ex.free (o4.fresh 0 rfl), All2.mono (fun _ _ ⟨t, e, h⟩ => ⟨t, e, o4.ex _ _ (s3 _ _ h)⟩) hya, hK.pend, rfl, hl8⟩
        · subst hd0
          walk_at "rd"
          exact ⟨pb0, [], [], [], _, rfl, o3.ex, o3.at 0 rfl, o3.fresh 0 rfl, .nil, rfl, hpre.2, Nat.zero_le _⟩
      · rintro σ2 H4 ⟨pb, ys, kids, qs, v15, rfl, s4, hpb, hpb0, hya, hpk, rfl, hk8⟩
        have oA := o.mono s4
        have hpbn : pb ∉ [(pa, HO.dT kva), (po, HO.lst vso)].map (·.1) := fun hm => by
          obtain ⟨z, hz, e⟩ := List.mem_map.mp hm
          have := (o.fr z hz).2
          rw [e, hpb0] at this
          cases this
        obtain ⟨B2, sB2, oB, hB2⟩ := own_rebase oA
        have thB : Sth H4 B2 := fun b xs hb => hB2 b _ (not_own oA hb fun z hz e => by
          rcases List.mem_cons.mp hz with rfl | hz
          · cases e
          · rw [List.mem_singleton.mp hz] at e; cases e) hb
        have hpbB := hB2 _ _ hpbn hpb
        have hyaB : All2 (fun v (e : Ent) => ∃ t, v = .ref t ∧ ptrH B2 t e.ad e.ln) ys kids := All2.mono (fun _ _ ⟨t, e, h⟩ => ⟨t, e, thB _ _ h⟩) hya
        have hyl := All2.len hyaB
        have ht0B : ptrH B2 t0 ee.ad ee.ln := sB2 _ _ ht0
        have habB : AbvV B2 kva (9 * k) ((ee.ad, ee.ln) :: wt.map fun p => (p.2.ad, p.2.ln)) := hab.up sB2 (Nat.le_refl _) fun q hq => hq
        walk_at "rd"
        refine forL (oB.old (SqL.of hpbB)) (fun j σ' H' => ∃ (Bj : Hp) (kvj : List (List Key × V)) (v16 : Option V), σ' = [some (.ref a), some (.ref pd), some (.ref x), some (.ref y), some (.ref tr), some (.ref pt), some (.int (k : Int)), v7, some (.ref pa), some (.ref po), some (.ref pw), some (.ref t0), some (.bl (decide (dd = 0))), some (.ref ll), some (.ref pb), v15, v16, none, none, none, none, none, none, none, none] ∧ Own Bj H' [(pa, .dT kvj), (po, .lst vso)] ∧ Same B2 Bj ∧ AbvV Bj kvj (9 * k + j) ((kids.take j).map (fun e => (e.ad, e.ln)) ++ wt.map fun p => (p.2.ad, p.2.ln)) ∧ (∃ lu us, valV kvj (kxx [(ee.ad : Int), (ee.ln : Int)]) = some (.ref lu) ∧ Bj lu = some (.lst us) ∧ us.length ≤ 9 * k + j) ∧ kvj.length ≤ 1 + 8 * k + j) ⟨B2, kva, _, rfl, oB, .refl _, ?_, ?_, hkl⟩ (fun j σ' H' _ ⟨_, _, _, _, o', s', _⟩ => o'.old (SqL.of (s' _ _ hpbB))) ?_ ?_
        · exact habB.up (.refl _) (Nat.le_refl _) fun q hq => List.mem_cons_of_mem _ hq
        · obtain ⟨lu, us, h1, h2, h3⟩ := habB _ List.mem_cons_self
          exact ⟨lu, us, h1, h2, h3⟩
        · rintro j v σ' H' hv ⟨Bj, kvj, v16, rfl, oj, sj, hbj, ⟨lu, us, hv1, hlu, hus⟩, hkj⟩
          obtain ⟨ke, hke, tj, rfl, htj⟩ := All2.get j hyaB hv
          have hjl := (List.getElem?_eq_some_iff.mp hke).1
          have ht0j := oj.ex _ _ (sj _ _ ht0B)
          have htjj := oj.ex _ _ (sj _ _ htj)
          unfold sDPut tDGet
          walk_at "rd"
          refine ⟨pa, .ref lu, rfl, ?_, ?_⟩
          · have := DGet.t (k := kxx [(ee.ad : Int), (ee.ln : Int)]) (oj.at 0 rfl) (by rw [kxx_v]; exact ht0j)
            rw [hv1] at this
            exact this
          walk_at "rd"
          refine r_newL oj (Nat.le_of_ble_eq_true rfl) fun l1 H6 o6 => ?_
          walk_at "rd"
          refine r_cat o6 (o6.ex _ _ hlu) (o6.at 0 rfl) (by simp only [List.length_cons, List.length_nil]; omega) fun l2 H7 o7 => ?_
          walk_at "rd"
          refine ⟨pa, _, rfl, DPut.t (k := kxx [(ke.ad : Int), (ke.ln : Int)]) (o7.at 2 rfl) (by rw [kxx_v]; exact o7.ex _ _ (sj _ _ htj)) (by rw [sizeLine_eq]; omega), ?_⟩
          have o8 := o7.set (v := .dT (putK kvj (kxx [(ke.ad : Int), (ke.ln : Int)]) (.ref l2))) 2 rfl
          revert o8
          generalize upd H7 pa (.dT (putK kvj (kxx [(ke.ad : Int), (ke.ln : Int)]) (.ref l2))) = H8
          intro o8
          have o9 : Own Bj H8 ([(l2, .lst (us ++ [.ref t0]))] ++ [(pa, .dT (putK kvj (kxx [(ke.ad : Int), (ke.ln : Int)]) (.ref l2))), (po, .lst vso)]) := o8.pick [0, 2, 3] (by decide)
          obtain ⟨Bk, sBk, hBk, o10⟩ := own_frzs o9
          have hl2 := hBk _ List.mem_cons_self
          dsimp only at hl2
          have hbk := (hbj.up sBk (Nat.le_succ _) fun q hq => hq).put (q := (ke.ad, ke.ln)) hl2 (by rw [List.length_append, List.length_singleton]; omega)
          have hkl2 := length_putK kvj (kxx [(ke.ad : Int), (ke.ln : Int)]) (.ref l2)
          refine ⟨Bk, _, _, rfl, o10, sj.trans sBk, ?_, ?_, by omega⟩
          · refine hbk.up (.refl _) (Nat.le_refl _) fun q hq => ?_
            rw [List.take_add_one, hke, List.map_append, List.append_assoc] at hq
            rcases List.mem_append.mp hq with hq | hq
            · exact List.mem_cons_of_mem _ (List.mem_append_left _ hq)
            · rcases List.mem_append.mp hq with hq | hq
              · rw [show q = (ke.ad, ke.ln) from List.mem_singleton.mp hq]
                exact List.mem_cons_self
              · exact List.mem_cons_of_mem _ (List.mem_append_right _ hq)
          · rw [valV_put]
            split
            · exact ⟨l2, _, rfl, hl2, by rw [List.length_append, List.length_singleton]; omega⟩
            · exact ⟨lu, us, hv1, sBk _ _ hlu, by omega⟩
        · rintro σ' H' ⟨Bj, kvj, v16, rfl, oj, sj, hbj, _, hkj⟩
          rw [hyl, List.take_length] at hbj
          have hvl := hvo.len
          have hdl := congrArg List.length hps
          rw [List.length_append, List.length_append, List.length_cons] at hdl
          have hwvl := All2.len hwv
          have hpel := hpn.le
          walk_at "rd"
          refine r_apps oj 1 rfl (by omega) fun H6 s6 o6 => ?_
          walk_at "rd"
          refine r_slL o6 (o6.old (SqL.of (sj _ _ (sB2 _ _ hpw)))) fun l1 H7 o7 => ?_
          rw [show (1 : Int) = ((1 : Nat) : Int) from rfl, cut_lo] at o7
          walk_at "rd"
          refine r_cat o7 (o7.ex _ _ (sj _ _ hpbB)) (o7.at 0 rfl) (by rw [List.drop_succ_cons, List.drop_zero]; omega) fun l2 H8 o8 => ?_
          walk_at "rd"
          have o9 : Own Bj H8 ([(l2, .lst (ys ++ vsw))] ++ [(pa, .dT kvj), (po, .lst (vso ++ [.ref t0]))]) := o8.pick [0, 2, 3] (by decide)
          obtain ⟨Bk, sBk, hBk, o10⟩ := own_frzs o9
          have hl2 := hBk _ List.mem_cons_self
          dsimp only at hl2
          have sAll := (sB2.trans sj).trans sBk
          refine ⟨Bk, kvj, _, ys ++ vsw, done ++ [(ee.ad, ee.ln)], qs ++ qr, kids.map (fun e => (dd - 1, e)) ++ wt, l2, _, _, _, _, _, _, _, rfl, o10, sB.trans sAll, (hvo.up (.of sAll)).app (PtrsV.one (SqT.of (sAll _ _ ht0))), by rw [List.length_append, List.length_singleton, hdn], by rw [hps]; simp only [List.append_assoc, List.cons_append, List.nil_append], hpk.app hpn, hl2, All2.app (waitKids (dd - 1) (All2.mono (fun _ _ ⟨t, e, h⟩ => ⟨t, e, sBk _ _ (sj _ _ h)⟩) hyaB)) (WaitV.up hwv (.of sAll)), ?_, by omega⟩
          refine hbj.up sBk (by omega) fun q hq => ?_
          rw [List.map_append, List.map_map] at hq
          exact hq
    · rintro σ' H' ⟨Bs, kva, vso, vsw, done, rest, wt, pw, v6, v11, v12, v13, v14, v15, v16, rfl, o, sB, hvo, hdn, hps, hpn, hpw, hwv, hab, hkl⟩
      have := congrArg List.length hps
      rw [List.length_append] at this
      omega
    · rintro σ' H' ⟨Bs, kva, vso, v6, v10, v11, v12, v13, v14, v15, v16, rfl, o, sB, hvo⟩
      walk_at "rd"
      have hH' : Same H5 H' := sB.trans o.ex
      have hws0 : g1.ws.length ≤ 1000000 := by rw [hws1]; exact Nat.zero_le _
      refine ⟨d, by omega, y, tr, g1, ⟨[], ra, rl⟩, ps0, rfl, hrl, LogAt.up hL1 hH', SqT.of (hH' _ _ htr5), by omega, hws0, hP0, by omega, fun H6 l6 vs6 s6 hl6 h6 hV6 => ?_⟩
      have o6 := o.mono s6
      walk_at "rd"
      refine r_neLTu (ps := ps0.map fun q => [(q.1 : Int), (q.2 : Int)]) (qs := ps0.map fun q => [(q.1 : Int), (q.2 : Int)]) (SqL.of h6) hV6.tupI (o6.sqL 1 rfl) (hvo.up (.of o6.ex)).tupI ?_
      rw [decide_eq_true rfl]
      walk_at "rd"
      clear hV6 h6 hl6 s6
      have hvl := hvo.len
      obtain ⟨pr0, hpr0⟩ := hP0.head
      have hpos : 0 < ps0.length := by rw [hpr0]; exact Nat.succ_pos _
      have hH6 : Same H5 H6 := sB.trans o6.ex
      have hD6 : SqL K H6 pd (dr.map V.int) := SqL.of (hH6 _ _ hpd5)
      have g60 := hdr.gi (i := 60) (by omega) (by omega)
      have g61 := hdr.gi (i := 61) (by omega) (by omega)
      have g62 := hdr.gi (i := 62) (by omega) (by omega)
      walk_at "rd"
      have hi1 := Int.emod_lt_of_pos (gi dr 62) (show (0 : Int) < vso.length by omega)
      have hi2 := Int.emod_nonneg (gi dr 62) (show (vso.length : Int) ≠ 0 by omega)
      obtain ⟨ib, hib⟩ := Int.eq_ofNat_of_zero_le hi2
      rw [hib] at hi1
      have hibl : ib < vso.length := by omega
      rw [hib]
      obtain ⟨vb, hvb⟩ : ∃ v, vso[ib]? = some v := ⟨_, List.getElem?_eq_getElem hibl⟩
      obtain ⟨⟨ad0, ln0⟩, tb, hq0, rfl, htb⟩ := PtrsV.get hvo hvb
      have hqm := List.mem_of_getElem? hq0
      obtain ⟨kd0, es0, hN0, hkd0⟩ := PreT.mem _ hP0 _ hqm
      dsimp only at htb hN0
      have hend0 := hN0.end_
      have hln0 := hN0.ln_
      rw [hws1, List.length_nil] at hend0
      have htb6 : SqT K H6 tb (([(ad0 : Int), (ln0 : Int)] : List Int).map V.int) := (Stp.of o6.ex).sq htb
      refine r_ixL (o6.sqL 1 rfl) (atI_nat hvb) ?_
      walk_at "rd"
      have e0 : gi [(ad0 : Int), (ln0 : Int)] 0 = ad0 := rfl
      have e1 : gi [(ad0 : Int), (ln0 : Int)] 1 = ln0 := rfl
      rw [e0, e1]
      refine r_I (show (0 : Int) < (ln0 : Int) by omega) ?_
      walk_at "rd"
      have ha1 := Int.emod_lt_of_pos (gi dr 61) (show (0 : Int) < (ln0 : Int) by omega)
      have ha2 := Int.emod_nonneg (gi dr 61) (show (ln0 : Int) ≠ 0 by omega)
      obtain ⟨at_, hat⟩ := Int.eq_ofNat_of_zero_le (show 0 ≤ (ad0 : Int) + gi dr 61 % (ln0 : Int) by omega)
      rw [hat]
      have hat1 : ad0 ≤ at_ ∧ at_ < ad0 + ln0 := by omega
      have hat2 : at_ < g1.fs.length := by omega
      clear hat ha1 ha2
      have hL6 := LogAt.up hL1 hH6
      have hdk6 := hL6.dk
      rw [hgd1] at hdk6
      refine ⟨x, g1.ddx, _, rfl, hdk6, rfl, ?_⟩
      walk_at "rd"
      refine ⟨x, g1.ddx, _, rfl, hdk6, rfl, ?_⟩
      walk_at "rd"
      refine ⟨x, g1.fl, g1.ddx, _, _, g1.fs, rfl, hdk6, SqL.of hL6.fl, r_ret1s o6 fun p7 H7 s7 o7 => ?_⟩
      rw [show (at_ : Int) + 1 = ((at_ + 1 : Nat) : Int) by omega, cut_both, ← List.map_drop, ← List.map_take] at o7
      have hb7 : (g1.fs.drop at_).take (at_ + 1 - at_) = [g1.fs[at_]] := by
        rw [Nat.add_sub_cancel_left, List.drop_eq_getElem_cons hat2]
        rfl
      rw [hb7] at o7
      generalize hbv : g1.fs[at_] = bv at o7
      have hbvr := hbyt bv (hbv ▸ List.getElem_mem hat2)
      have hP7 : SqL K H7 p7 (([bv] : List Int).map V.int) := o7.sqL 0 rfl
      have hH7 : Same H5 H7 := sB.trans o7.ex
      have hD7 : SqL K H7 pd (dr.map V.int) := SqL.of (hH7 _ _ hpd5)
      walk_at "rd"
      have eb : gi [bv] 0 = bv := rfl
      rw [eb]
      generalize hv : (bv + 1 + gi dr 60 % 255) % 256 = v
      have hv0 : 0 ≤ v ∧ v < 256 ∧ v ≠ bv ∧ (v - 1 - gi dr 60 % 255) % 256 = bv := by omega
      have hL7 := LogAt.up hL1 hH7
      have hdk7 := hL7.dk
      rw [hgd1] at hdk7
      refine ⟨x, g1.fl, g1.ddx, at_, v, g1.fs, rfl, hdk7, hL7.fl, hat2, ?_⟩
      have hf8 : ∀ b u, b ≠ g1.fl → H7 b = some u → upd H7 g1.fl (.lst ((g1.fs.set at_ v).map V.int)) b = some u := fun b u hb h => (upd_ne hb).trans h
      have hfl8 : upd H7 g1.fl (.lst ((g1.fs.set at_ v).map V.int)) g1.fl = some (.lst ((g1.fs.set at_ v).map V.int)) := upd_same
      have st8 : Stp H7 (upd H7 g1.fl (.lst ((g1.fs.set at_ v).map V.int))) := stp_frameL hL7.fl hf8
      revert hf8 hfl8 st8
      generalize upd H7 g1.fl (.lst ((g1.fs.set at_ v).map V.int)) = H8
      intro hf8 hfl8 st8
      have hpd8 := hf8 _ _ hpdf1 (hH7 _ _ hpd5)
      have hpt8 := hf8 _ _ (fun e => by have h1 := hH7 _ _ hpt5; rw [e, hL7.fl] at h1; cases h1) (hH7 _ _ hpt5)
      have htr8 : ptrT K H8 tr ra rl := st8.sq (SqT.of (hH7 _ _ htr5))
      have htb8 : ptrT K H8 tb ad0 ln0 := st8.sq ((Stp.of o7.ex).sq htb)
      have hT8 := hT5.up ((Stp.of hH7).trans st8)
      have hdk8 := hf8 _ _ (lst_ne hL7.fl hdk7) hdk7
      generalize hfs2 : g1.fs.set at_ v = fs2 at *
      have hfs2l : fs2.length = g1.fs.length := by rw [← hfs2, List.length_set]
      have hfs2b : ∀ z ∈ fs2, 0 ≤ z ∧ z < 256 := fun z hz => by
        rw [← hfs2] at hz
        rcases List.mem_or_eq_of_mem_set hz with hz | rfl
        · exact hbyt z hz
        · omega
      clear hH7 hD7 hL7 hdk7 hf8 st8 o6 o7 hH6 hD6 hL6 hdk6 s7 hP7 hb7 o hH'
      walk_at "rd"
      refine ⟨x, g1.fl, g1.ddx, fs2, rfl, hdk8, SqL.of hfl8, by omega, r_ret1 (Own.nil H8) fun pc H9 o9 => ?_⟩
      walk_at "rd"
      intro x2 dx2 nx2 ndx2 nex2
      have oa := o9.new (u := .own x2) ndx2
      have ob := oa.new (u := .ins CD dx2 []) (show upd H9 dx2 (.own x2) x2 = none by rw [upd_ne (Ne.symm nex2)]; exact nx2)
      refine ⟨x2, pc, dx2, fs2.map V.int, rfl, ob.at 0 rfl, ob.sqL 2 rfl, fun fl2 hfl2 => ⟨rfl, ?_⟩⟩
      have od := (ob.new (u := .lst (fs2.map V.int)) hfl2).set (v := .ins CD dx2 (dkF fl2)) 1 rfl
      revert od
      generalize upd (upd (upd (upd H9 dx2 (.own x2)) x2 (.ins CD dx2 [])) fl2 (.lst (fs2.map V.int))) x2 (.ins CD dx2 (dkF fl2)) = H10
      intro od
      have od : Own H8 H10 [(fl2, .lst (fs2.map V.int)), (x2, .ins CD dx2 (dkF fl2)), (dx2, .own x2), (pc, .lst (fs2.map V.int))] := od
      have hD10 : SqL K H10 pd (dr.map V.int) := od.old (SqL.of hpd8)
      clear oa ob o9 hfl2 nx2 ndx2 nex2
      walk_at "rd"
      refine ⟨x2, dx2, _, rfl, od.at 1 rfl, rfl, ?_⟩
      walk_at "rd"
      refine ⟨x2, dx2, _, rfl, od.at 1 rfl, rfl, ?_⟩
      walk_at "rd"
      refine ⟨x2, fl2, dx2, _, _, fs2, rfl, od.at 1 rfl, od.sqL 0 rfl, r_ret1s od fun p7 H11 s11 o11 => ?_⟩
      rw [show (at_ : Int) + 1 = ((at_ + 1 : Nat) : Int) by omega, cut_both, ← List.map_drop, ← List.map_take] at o11
      have hb11 : (fs2.drop at_).take (at_ + 1 - at_) = [v] := by
        have hlt : at_ < fs2.length := by omega
        rw [Nat.add_sub_cancel_left, List.drop_eq_getElem_cons hlt]
        show [fs2[at_]] = [v]
        congr 1
        have : fs2[at_]? = some v := by rw [← hfs2, List.getElem?_set_self hat2]
        rw [List.getElem?_eq_getElem hlt] at this
        exact Option.some.inj this
      rw [hb11] at o11
      have hP11 : SqL K H11 p7 (([v] : List Int).map V.int) := o11.sqL 0 rfl
      have hD11 : SqL K H11 pd (dr.map V.int) := o11.old (SqL.of hpd8)
      walk_at "rd"
      have ev : gi [v] 0 = v := rfl
      rw [ev, hv0.2.2.2]
      refine ⟨x2, fl2, dx2, at_, bv, fs2, rfl, o11.at 2 rfl, o11.at 1 rfl, by omega, ?_⟩
      have hback : fs2.set at_ bv = g1.fs := by
        rw [← hfs2, List.set_set, ← hbv, List.set_getElem_self]
      rw [hback]
      have o12 := o11.set (v := .lst (g1.fs.map V.int)) 1 rfl
      revert o12
      generalize upd H11 fl2 (.lst (g1.fs.map V.int)) = H12
      intro o12
      have o13 : Own H8 H12 [(fl2, .lst (g1.fs.map V.int)), (x2, .ins CD dx2 (dkF fl2)), (dx2, .own x2)] := o12.pick [1, 2, 3] (by decide)
      clear o12 o11 od hP11 hD11 hD10 s11 hb11
      walk_at "rd"
      intro y2 dy2 ny2 ndy2 ney2
      have oe := o13.new (u := .own y2) ndy2
      have og := oe.new (u := .ins CL dy2 []) (show upd H12 dy2 (.own y2) y2 = none by rw [upd_ne (Ne.symm ney2)]; exact ny2)
      refine ⟨y2, dy2, x2, dx2, fl2, g1.fs, rfl, og.at 0 rfl, og.at 3 rfl, og.at 2 rfl, hbyt, by omega, fun l2 H14 hf14 hln14 hy14 hl14 => ⟨rfl, ?_⟩⟩
      have oh := og.chg 0 rfl hf14 hy14
      have oi := Own.addF og oh rfl hln14 hl14
      have hLC : LogAt CL CD H14 y2 ⟨dy2, l2, x2, dx2, fl2, lastB g1.fs, [], g1.fs⟩ := ⟨oi.at 1 rfl, oi.at 0 rfl, oi.at 4 rfl, oi.at 3 rfl, oi.ne (i := 0) (j := 3) rfl rfl (by decide)⟩
      walk_at "rd"
      intro y3 dy3 ny3 ndy3 ney3
      have oe3 := oi.new (u := .own y3) ndy3
      have og3 := oe3.new (u := .ins CL dy3 []) (show upd H14 dy3 (.own y3) y3 = none by rw [upd_ne (Ne.symm ney3)]; exact ny3)
      refine ⟨y3, dy3, x, g1.ddx, g1.fl, fs2, rfl, og3.at 0 rfl, og3.ex _ _ hdk8, og3.ex _ _ hfl8, hfs2b, by omega, fun l3 H16 hf16 hln16 hy16 hl16 => ⟨rfl, ?_⟩⟩
      have oh3 := og3.chg 0 rfl hf16 hy16
      have oj := Own.addF og3 oh3 rfl hln16 hl16
      have hH16 : Same H8 H16 := oj.ex
      have hLB : LogAt CL CD H16 y3 ⟨dy3, l3, x, g1.ddx, g1.fl, lastB fs2, [], fs2⟩ := ⟨oj.at 1 rfl, oj.at 0 rfl, hH16 _ _ hdk8, hH16 _ _ hfl8, fun e => by
        have h1 := (oj.fr _ (List.mem_cons_self)).1
        rw [show l3 = g1.fl from e, hfl8] at h1
        cases h1⟩
      have hLC : LogAt CL CD H16 y2 ⟨dy2, l2, x2, dx2, fl2, lastB g1.fs, [], g1.fs⟩ := ⟨oj.at 4 rfl, oj.at 3 rfl, oj.at 7 rfl, oj.at 6 rfl, oj.ne (i := 3) (j := 6) rfl rfl (by decide)⟩
      generalize hgC : (⟨dy2, l2, x2, dx2, fl2, lastB g1.fs, [], g1.fs⟩ : LG) = gC at hLC
      generalize hgB : (⟨dy3, l3, x, g1.ddx, g1.fl, lastB fs2, [], fs2⟩ : LG) = gB at hLB
      have hfC : gC.fs = g1.fs := by rw [← hgC]
      have hwC : gC.ws = [] := by rw [← hgC]
      have hfB : gB.fs = fs2 := by rw [← hgB]
      have hwB : gB.ws = [] := by rw [← hgB]
      have hu : Hurt g1 gB (some ad0) := hurt_of (v := v) (at_ := at_) hN0 hkd0 hws1 hwB (hfB.trans hfs2.symm) hat1.1 hat1.2 hv0.1 (fun e => by
        rw [List.getElem?_eq_getElem hat2, hbv] at e
        exact hv0.2.2.1 (Option.some.inj e).symm) (by omega)
      have hpt16 := hH16 _ _ hpt8
      have htr16 : ptrT K H16 tr ra rl := (Stp.of hH16).sq htr8
      have htb16 : ptrT K H16 tb ad0 ln0 := (Stp.of hH16).sq htb8
      have hT16 := hT8.up (.of hH16)
      clear hgC hgB oj oh3 og3 oe3 ny3 ndy3 ney3 hf16 hln16 hy16 hl16 hf14 hln14 hy14 hl14 oi oh og oe ny2 ndy2 ney2 o13
      obtain ⟨ks, hks, hksl, hksu⟩ := sorted_keys hT16 hA
      walk_at "rd"
      refine ⟨pt, kvs, ks, rfl, hpt16, hks, by omega, fun p bs ks' hp hpm hpw hK => ?_⟩
      obtain rfl := hksu ks' hpm hpw
      have o17 := (Own.nil H16).new (u := .lst (bs.map V.ref)) hp
      revert o17
      generalize upd H16 p (.lst (bs.map V.ref)) = H17
      intro o17
      have hbl := hK.len
      rw [List.length_map] at hbl
      walk_at "rd"
      refine forL (o17.sqL 0 rfl) (fun i σ' H' => ∃ (v7 v12 v13 v15 v21 v22 v23 v24 : Option V), σ' = [some (.ref a), some (.ref pd), some (.ref x), some (.ref y3), some (.ref tr), some (.ref pt), v6, v7, some (.ref pa), some (.ref po), v10, v11, v12, v13, v14, v15, v16, some (.ref tb), some (.int at_), some (.ref x2), some (.ref y2), v21, v22, v23, v24] ∧ Same H17 H') ⟨_, _, _, _, _, _, _, _, rfl, .refl _⟩ (fun i σ' H' _ ⟨_, _, _, _, _, _, _, _, _, s'⟩ => SqL.of (s' _ _ (o17.at 0 rfl))) ?_ ?_
      · rintro i vk σ' H' hvk ⟨v7, v12, v13, v15, v21, v22, v23, v24, rfl, s17⟩
        have hi : i < es.length := by
          have := (List.getElem?_eq_some_iff.mp hvk).1
          rw [List.length_map] at this
          omega
        obtain ⟨e, he⟩ : ∃ e, es[i]? = some e := ⟨_, List.getElem?_eq_getElem hi⟩
        have hem := List.mem_of_getElem? he
        obtain ⟨b, hb, hbk⟩ := hK.get (i := i) (k := e.k) (by rw [List.getElem?_map, he]; rfl)
        rw [List.getElem?_map, hb] at hvk
        cases hvk
        have s16 : Same H16 H' := o17.ex.trans s17
        have hbk' : SqT K H' b (e.k.map V.int) := SqT.of (s16 _ _ hbk)
        obtain ⟨ps, lf, hpp⟩ := PathP.ex e.k hC1.isT hA
        walk_at "rd"
        have hLC' := hLC.up s16
        have hLB' := hLB.up s16
        refine forR1F (Fin := fun σ' H'' => ∃ (v12 v13 v15 v21 v23 : Option V), σ' = [some (.ref a), some (.ref pd), some (.ref x), some (.ref y3), some (.ref tr), some (.ref pt), v6, some (.ref b), some (.ref pa), some (.ref po), v10, v11, v12, v13, v14, v15, v16, some (.ref tb), some (.int at_), some (.ref x2), some (.ref y2), v21, some (.bl (decide ((ad0, ln0) ∈ ps))), v23, v24] ∧ Same H' H'')
          (n := 12) rfl (by decide) (fun j σ' H'' => ∃ (m : Nat) (kk : Ent) (part : List Ent) (done psr : List (Nat × Nat)) (tw : Addr) (v12 v13 v15 v23 : Option V), σ' = [some (.ref a), some (.ref pd), some (.ref x), some (.ref y3), some (.ref tr), some (.ref pt), v6, some (.ref b), some (.ref pa), some (.ref po), v10, v11, v12, v13, v14, v15, v16, some (.ref tb), some (.int at_), some (.ref x2), some (.ref y2), some (.ref tw), some (.bl (decide ((ad0, ln0) ∈ done))), v23, v24] ∧ Same H' H'' ∧ ps = done ++ psr ∧ PathP g1 e.k m kk psr lf ∧ IsT g1 m kk part ∧ Asc part ∧ e ∈ part ∧ m + j = d ∧ ptrT K H'' tw kk.ad kk.ln)
          ⟨d, ⟨[], ra, rl⟩, es, [], ps, tr, _, _, _, _, rfl, .refl _, rfl, hpp, hC1.isT, hA, hem, rfl, (Stp.of s16).sq htr16⟩ ?_ ?_ ?_
        · rintro fin j σ' H2 hj ⟨m, kk, part, done, psr, tw, v12, v13, v15, v23, rfl, s2, hps, hpr, hI, hAp, hep, hmj, htw⟩
          have s162 := s16.trans s2
          obtain ⟨nds, hNd⟩ := hpr.head
          walk_at "rd"
          refine r_cutE (fun vv H3 => vv = .bl (decide ((ad0, ln0) ∈ done ++ [(kk.ad, kk.ln)])) ∧ H3 = H2) ?_ ?_
          · walk_at "rd"
            refine rif (fun hm => ?_) fun hm => ?_
            · exact ⟨by rw [decide_eq_true (List.mem_append_left _ hm)], rfl⟩
            · walk_at "rd"
              refine r_eqTT htw ((Stp.of s162).sq htb16) ?_
              exact ⟨congrArg V.bl (ptr_mem hm), rfl⟩
          rintro vv H3 ⟨rfl, rfl⟩
          walk_at "rd"
          refine ⟨y2, tw, gC, decide (m = 0), kk.ad, kk.ln, nds, rfl, hLC'.up s2, htw, by rw [hfC]; omega, by rw [hwC]; exact Nat.zero_le _, hNd.toNodeR.congr hfC (hwC.trans hws1.symm), fun H4 xx ll us s4 hxx hll hne4 hxx4 hll4 hR => ?_⟩
          have o4 := (Own.nil H3).add2 s4 hxx hll hne4 hxx4 hll4
          refine r_gLst2 (o4.sqL 0 rfl) ?_
          walk_at "rd"
          refine rif (fun hm0 => ?_) fun hm0 => ?_
          · refine r_break ?_
            subst hm0
            have hpe : psr = [(kk.ad, kk.ln)] := by cases hpr; rfl
            subst hpe
            subst hps
            exact fin _ _ ⟨_, _, _, _, _, rfl, s2.trans s4⟩
          obtain ⟨m, rfl⟩ : ∃ m2, m = m2 + 1 := ⟨m - 1, by omega⟩
          obtain ⟨kids, i2, k2, ps2, part2, hNk, hfl2, hk2, rfl, hpr2, hI2, hA2, he2⟩ := hpr.down hI hAp hep rfl
          have ekids := nodeAt_uniq hNk hNd
          subst ekids
          have hul := All2.len hR
          have hkl8 := hNk.le
          walk_at "rd"
          refine lcjL (K := K) (selP e.k kids) (Own.nil H4) (fun H' p zs o' => o'.old (o4.sqL 1 rfl)) (o4.sqL 1 rfl) (by omega) ?_ ?_
          · intro i3 v3 p3 zs3 H5 R' hv3 o5 s5 r
            obtain ⟨kx, hkx, te, tk, tp, rfl, f1, f2, f3⟩ := All2.get i3 (RowsH.up hR (.of o5.ex)) hv3
            have hsel : selP e.k kids i3 = if (!ltK e.k kx.k) = true then some (ptrD (kx.ad, kx.ln)) else none := by
              unfold selP
              rw [hkx]
              rfl
            refine r_name (r _ rfl (fun Qb k => ?_) fun d' H6 hd' s6 Qv qv => ?_)
            · have k' := k H5 (.refl _)
              rw [hsel] at k'
              walk_at "rd"
              refine r_ixT (SqT.of f1) (v := .ref tk) rfl ?_
              walk_at "rd"
              refine r_leT (SqT.of f2) (SqT.of (((s162.trans s4).trans o5.ex) _ _ hbk)) ?_
              rw [lex_le]
              walk_at "rd"
              cases h : ltK e.k kx.k <;> (rw [h] at k'; exact k')
            · rw [hsel] at hd'
              walk_at "rd"
              split at hd'
              · cases hd'
                refine r_ixT (SqT.of (s6 _ _ f1)) (v := .ref tp) rfl ?_
                exact qv H6 (.ref tp) (.refl _) (Tp.intsT (SqT.of (s6 _ _ f3)))
              · cases hd'
          intro p5 H5 zs5 s5 o5 t5
          rw [selP_all _ _ hul, hfl2, List.take_add_one, hk2, List.map_append] at t5
          obtain ⟨zs6, v6', rfl, t6⟩ := last_tp t5
          obtain ⟨tw2, rfl, htw2⟩ := ptrD_inv t6
          walk_at "rd"
          refine r_ixL (o5.sqL 0 rfl) (atI_last _ _) ?_
          walk_at "rd"
          exact ⟨m, k2, part2, done ++ [(kk.ad, kk.ln)], ps2, tw2, _, _, _, _, rfl, s2.trans (s4.trans o5.ex), by rw [hps]; simp only [List.append_assoc, List.cons_append, List.nil_append], hpr2, hI2, hA2, he2, by omega, htw2⟩
        · rintro σ' H2 ⟨m, kk, part, done, psr, tw, v12, v13, v15, v23, rfl, s2, hps, hpr, hI, hAp, hep, hmj, htw⟩
          omega
        · rintro σ' H2 ⟨v12, v13, v15, v21, v23, rfl, s2⟩
          have s162 := s16.trans s2
          obtain ⟨tp, hval, htp⟩ := hT16.fw e hem
          unfold tDGet
          walk_at "rd"
          refine ⟨pt, .ref tp, rfl, ?_, ?_⟩
          · have hg := DGet.t (k := kxx e.k) (s162 _ _ hpt16) (by rw [kxx_v]; exact s162 _ _ hbk)
            rw [hval] at hg
            exact hg
          walk_at "rd"
          refine r_newTp (K := K) (ds := [.str _, ptrD (e.ad, e.ln)]) (Own.nil H2) (.cons (.str _) (.cons (Tp.intsT ((Stp.of s162).sq htp)) .nil)) (Nat.le_of_ble_eq_true rfl) fun p5 H5 s5 o5 t5 => ?_
          walk_at "rd"
          refine ⟨fun σ2 H6 => ∃ v24 : V, σ2 = [some (.ref a), some (.ref pd), some (.ref x), some (.ref y3), some (.ref tr), some (.ref pt), v6, some (.ref b), some (.ref pa), some (.ref po), v10, v11, v12, v13, v14, v15, v16, some (.ref tb), some (.int at_), some (.ref x2), some (.ref y2), v21, some (.bl (decide ((ad0, ln0) ∈ ps))), v23, some v24] ∧ Same H2 H6 ∧ Tp K H6 v24 (if (ad0, ln0) ∈ ps then toldD (ad0, ln0) else toldP (e.ad, e.ln)), ?_, ?_⟩
          · walk_at "rd"
            refine rif (fun hm => ?_) fun hm => ?_
            · walk_at "rd"
              refine r_newTp (K := K) (ds := [.str _, ptrD (ad0, ln0)]) o5 (.cons (.str _) (.cons (Tp.intsT ((Stp.of (s162.trans o5.ex)).sq htb16)) .nil)) (Nat.le_of_ble_eq_true rfl) fun p6 H6 s6 o6 t6 => ?_
              exact ⟨_, rfl, o6.ex, by rw [if_pos hm]; exact t6⟩
            · walk_at "rd"
              exact ⟨_, rfl, o5.ex, by rw [if_neg hm]; exact t5⟩
          · rintro σ2 H6 ⟨w24, rfl, s26, t24⟩
            have s166 := s162.trans s26
            walk_at "rd"
            refine ⟨y3, tr, b, g1, gB, some ad0, d, ⟨[], ra, rl⟩, nd, es, e.k, ps, lf, rfl, hrl, hLB.up s166, (Stp.of s166).sq htr16, SqT.of (s166 _ _ hbk), by rw [hfB]; omega, by rw [hwB]; exact Nat.zero_le _, hC1, hA, by omega, hu, hpp, ⟨e, hpp.mem hC1.isT hA hem rfl, rfl⟩, fun q2 hq2 hb2 => ?_, fun hnb e2 he2 hk2 => ?_⟩
            · obtain ⟨kdq, nsq, hNq⟩ := hpp.node q2 hq2
              obtain ⟨qa, ql⟩ := q2
              obtain rfl : ad0 = qa := Option.some.inj hb2
              have hl := nodeAt_ln hws1 hNq hN0
              dsimp only at hl
              subst hl
              rw [if_pos hq2] at t24
              refine r_retD (Own.nil H6) fun u H7 s7 o7 t7 => ?_
              walk_at "rd"
              refine r_neSame42 t7 (t24.up (.of s7)) (shaped_toldD _) ?_
              walk_at "rd"
              exact ⟨_, _, _, _, _, _, _, _, rfl, ((s17.trans s2).trans s26).trans s7⟩
            · have hno : (ad0, ln0) ∉ ps := fun hm => hnb _ hm rfl
              rw [if_neg hno] at t24
              obtain rfl : e2 = e := ent_uniq hA (hpp.sub hC1.isT e2 he2) hem hk2
              refine r_retD (Own.nil H6) fun u H7 s7 o7 t7 => ?_
              walk_at "rd"
              refine r_neSame42 t7 (t24.up (.of s7)) (shaped_told _) ?_
              walk_at "rd"
              exact ⟨_, _, _, _, _, _, _, _, rfl, ((s17.trans s2).trans s26).trans s7⟩
      · rintro σ' H' ⟨v7, v12, v13, v15, v21, v22, v23, v24, rfl, s17⟩
        walk_at "rd"
        exact q _
end

theorem top_mk {K : PySem.W.Frag} {h : Heap} {mg : Str → Option Value} (X : K.In h) (G : h.Ns mainGlobals mg)
    {f_told : Addr} {od_told an_told : Option Addr} {sl_told : Array (Option Value)} {oc_told kV_told dc_told pm_told cd_told ct_told : Value}
    {f_write_number : Addr} {od_write_number an_write_number : Option Addr} {sl_write_number : Array (Option Value)} {oc_write_number kV_write_number dc_write_number pm_write_number cd_write_number ct_write_number : Value}
    {f_write_integer : Addr} {od_write_integer an_write_integer : Option Addr} {sl_write_integer : Array (Option Value)} {oc_write_integer kV_write_integer dc_write_integer pm_write_integer cd_write_integer ct_write_integer : Value}
    {f_write_integers : Addr} {od_write_integers an_write_integers : Option Addr} {sl_write_integers : Array (Option Value)} {oc_write_integers kV_write_integers dc_write_integers pm_write_integers cd_write_integers ct_write_integers : Value}
    {f_read_number : Addr} {od_read_number an_read_number : Option Addr} {sl_read_number : Array (Option Value)} {oc_read_number kV_read_number dc_read_number pm_read_number cd_read_number ct_read_number : Value}
    {f_read_integer : Addr} {od_read_integer an_read_integer : Option Addr} {sl_read_integer : Array (Option Value)} {oc_read_integer kV_read_integer dc_read_integer pm_read_integer cd_read_integer ct_read_integer : Value}
    {f_read_list : Addr} {od_read_list an_read_list : Option Addr} {sl_read_list : Array (Option Value)} {oc_read_list kV_read_list dc_read_list pm_read_list cd_read_list ct_read_list : Value}
    {f_read_integers : Addr} {od_read_integers an_read_integers : Option Addr} {sl_read_integers : Array (Option Value)} {oc_read_integers kV_read_integers dc_read_integers pm_read_integers cd_read_integers ct_read_integers : Value}
    {f_check_of : Addr} {od_check_of an_check_of : Option Addr} {sl_check_of : Array (Option Value)} {oc_check_of kV_check_of dc_check_of pm_check_of cd_check_of ct_check_of : Value}
    {f_make_record : Addr} {od_make_record an_make_record : Option Addr} {sl_make_record : Array (Option Value)} {oc_make_record kV_make_record dc_make_record pm_make_record cd_make_record ct_make_record : Value}
    {f_is_whole : Addr} {od_is_whole an_is_whole : Option Addr} {sl_is_whole : Array (Option Value)} {oc_is_whole kV_is_whole dc_is_whole pm_is_whole cd_is_whole ct_is_whole : Value}
    {f_content_of : Addr} {od_content_of an_content_of : Option Addr} {sl_content_of : Array (Option Value)} {oc_content_of kV_content_of dc_content_of pm_content_of cd_content_of ct_content_of : Value}
    {f_find : Addr} {od_find an_find : Option Addr} {sl_find : Array (Option Value)} {oc_find kV_find dc_find pm_find cd_find ct_find : Value}
    {f_put : Addr} {od_put an_put : Option Addr} {sl_put : Array (Option Value)} {oc_put kV_put dc_put pm_put cd_put ct_put : Value}
    {f_node_pointers : Addr} {od_node_pointers an_node_pointers : Option Addr} {sl_node_pointers : Array (Option Value)} {oc_node_pointers kV_node_pointers dc_node_pointers pm_node_pointers cd_node_pointers ct_node_pointers : Value}
    {f_way_to : Addr} {od_way_to an_way_to : Option Addr} {sl_way_to : Array (Option Value)} {oc_way_to kV_way_to dc_way_to pm_way_to cd_way_to ct_way_to : Value}
    {f_place_below : Addr} {od_place_below an_place_below : Option Addr} {sl_place_below : Array (Option Value)} {oc_place_below kV_place_below dc_place_below pm_place_below cd_place_below ct_place_below : Value}
    {f_with_pair : Addr} {od_with_pair an_with_pair : Option Addr} {sl_with_pair : Array (Option Value)} {oc_with_pair kV_with_pair dc_with_pair pm_with_pair cd_with_pair ct_with_pair : Value}
    {f_put_nodes : Addr} {od_put_nodes an_put_nodes : Option Addr} {sl_put_nodes : Array (Option Value)} {oc_put_nodes kV_put_nodes dc_put_nodes pm_put_nodes cd_put_nodes ct_put_nodes : Value}
    {f_write_node : Addr} {od_write_node an_write_node : Option Addr} {sl_write_node : Array (Option Value)} {oc_write_node kV_write_node dc_write_node pm_write_node cd_write_node ct_write_node : Value}
    {f_read_node : Addr} {od_read_node an_read_node : Option Addr} {sl_read_node : Array (Option Value)} {oc_read_node kV_read_node dc_read_node pm_read_node cd_read_node ct_read_node : Value}
    {f_pairs_in : Addr} {od_pairs_in an_pairs_in : Option Addr} {sl_pairs_in : Array (Option Value)} {oc_pairs_in kV_pairs_in dc_pairs_in pm_pairs_in cd_pairs_in ct_pairs_in : Value}
    {f_read_pair : Addr} {od_read_pair an_read_pair : Option Addr} {sl_read_pair : Array (Option Value)} {oc_read_pair kV_read_pair dc_read_pair pm_read_pair cd_read_pair ct_read_pair : Value}
    {f_write_eight : Addr} {od_write_eight an_write_eight : Option Addr} {sl_write_eight : Array (Option Value)} {oc_write_eight kV_write_eight dc_write_eight pm_write_eight cd_write_eight ct_write_eight : Value}
    {f_read_eight : Addr} {od_read_eight an_read_eight : Option Addr} {sl_read_eight : Array (Option Value)} {oc_read_eight kV_read_eight dc_read_eight pm_read_eight cd_read_eight ct_read_eight : Value}
    {f_make_seal : Addr} {od_make_seal an_make_seal : Option Addr} {sl_make_seal : Array (Option Value)} {oc_make_seal kV_make_seal dc_make_seal pm_make_seal cd_make_seal ct_make_seal : Value}
    {f_is_whole_seal : Addr} {od_is_whole_seal an_is_whole_seal : Option Addr} {sl_is_whole_seal : Array (Option Value)} {oc_is_whole_seal kV_is_whole_seal dc_is_whole_seal pm_is_whole_seal cd_is_whole_seal ct_is_whole_seal : Value}
    {f_seal_at : Addr} {od_seal_at an_seal_at : Option Addr} {sl_seal_at : Array (Option Value)} {oc_seal_at kV_seal_at dc_seal_at pm_seal_at cd_seal_at ct_seal_at : Value}
    {f__law_cell : Addr} {od__law_cell an__law_cell : Option Addr} {sl__law_cell : Array (Option Value)} {oc__law_cell kV__law_cell dc__law_cell pm__law_cell cd__law_cell ct__law_cell : Value}
    {f__law_draws : Addr} {od__law_draws an__law_draws : Option Addr} {sl__law_draws : Array (Option Value)} {oc__law_draws kV__law_draws dc__law_draws pm__law_draws cd__law_draws ct__law_draws : Value}
    {f__law_contents : Addr} {od__law_contents an__law_contents : Option Addr} {sl__law_contents : Array (Option Value)} {oc__law_contents kV__law_contents dc__law_contents pm__law_contents cd__law_contents ct__law_contents : Value}
    {f__law_read_number : Addr} {od__law_read_number an__law_read_number : Option Addr} {sl__law_read_number : Array (Option Value)} {oc__law_read_number kV__law_read_number dc__law_read_number pm__law_read_number cd__law_read_number ct__law_read_number : Value}
    {f__law_node : Addr} {od__law_node an__law_node : Option Addr} {sl__law_node : Array (Option Value)} {oc__law_node kV__law_node dc__law_node pm__law_node cd__law_node ct__law_node : Value}
    {f__law_node_at : Addr} {od__law_node_at an__law_node_at : Option Addr} {sl__law_node_at : Array (Option Value)} {oc__law_node_at kV__law_node_at dc__law_node_at pm__law_node_at cd__law_node_at ct__law_node_at : Value}
    {f__law_told : Addr} {od__law_told an__law_told : Option Addr} {sl__law_told : Array (Option Value)} {oc__law_told kV__law_told dc__law_told pm__law_told cd__law_told ct__law_told : Value}
    {f_law : Addr} {od_law an_law : Option Addr} {sl_law : Array (Option Value)} {oc_law kV_law dc_law pm_law cd_law ct_law : Value}
    {K_Disk : Addr}
    {f_Disk___init__ : Addr} {od_Disk___init__ an_Disk___init__ : Option Addr} {sl_Disk___init__ : Array (Option Value)} {oc_Disk___init__ kV_Disk___init__ dc_Disk___init__ pm_Disk___init__ cd_Disk___init__ ct_Disk___init__ : Value}
    {f_Disk___len__ : Addr} {od_Disk___len__ an_Disk___len__ : Option Addr} {sl_Disk___len__ : Array (Option Value)} {oc_Disk___len__ kV_Disk___len__ dc_Disk___len__ pm_Disk___len__ cd_Disk___len__ ct_Disk___len__ : Value}
    {f_Disk_part : Addr} {od_Disk_part an_Disk_part : Option Addr} {sl_Disk_part : Array (Option Value)} {oc_Disk_part kV_Disk_part dc_Disk_part pm_Disk_part cd_Disk_part ct_Disk_part : Value}
    {f_Disk_append : Addr} {od_Disk_append an_Disk_append : Option Addr} {sl_Disk_append : Array (Option Value)} {oc_Disk_append kV_Disk_append dc_Disk_append pm_Disk_append cd_Disk_append ct_Disk_append : Value}
    {f_Disk_change : Addr} {od_Disk_change an_Disk_change : Option Addr} {sl_Disk_change : Array (Option Value)} {oc_Disk_change kV_Disk_change dc_Disk_change pm_Disk_change cd_Disk_change ct_Disk_change : Value}
    {K_Log : Addr}
    {f_Log___init__ : Addr} {od_Log___init__ an_Log___init__ : Option Addr} {sl_Log___init__ : Array (Option Value)} {oc_Log___init__ kV_Log___init__ dc_Log___init__ pm_Log___init__ cd_Log___init__ ct_Log___init__ : Value}
    {f_Log_batch : Addr} {od_Log_batch an_Log_batch : Option Addr} {sl_Log_batch : Array (Option Value)} {oc_Log_batch kV_Log_batch dc_Log_batch pm_Log_batch cd_Log_batch ct_Log_batch : Value}
    {pr_Log_batch : Addr} {rs_Log_batch : List Value}
    {f_Log_put : Addr} {od_Log_put an_Log_put : Option Addr} {sl_Log_put : Array (Option Value)} {oc_Log_put kV_Log_put dc_Log_put pm_Log_put cd_Log_put ct_Log_put : Value}
    {f_Log_fetch : Addr} {od_Log_fetch an_Log_fetch : Option Addr} {sl_Log_fetch : Array (Option Value)} {oc_Log_fetch kV_Log_fetch dc_Log_fetch pm_Log_fetch cd_Log_fetch ct_Log_fetch : Value}
    {f_Log_seal : Addr} {od_Log_seal an_Log_seal : Option Addr} {sl_Log_seal : Array (Option Value)} {oc_Log_seal kV_Log_seal dc_Log_seal pm_Log_seal cd_Log_seal ct_Log_seal : Value}
    {K_TesseraError : Addr}
    {K_Unreadable : Addr}
    {K_Damaged : Addr}
    {nm_Unreadable qn_Unreadable : Str} {nn_Unreadable : Addr} {bs_Unreadable bm_Unreadable : List Value} {sn_Unreadable : List Str} {sb_Unreadable : List Value} {ab_Unreadable : Bool} {co_Unreadable : Option Bool} {dd_Unreadable : Option Addr} {m0_Unreadable m1_Unreadable m2_Unreadable m3_Unreadable m5_Unreadable : Option Value}
    {if_Unreadable icc_Unreadable icd_Unreadable : Addr} {iod_Unreadable ian_Unreadable : Option Addr} {isl_Unreadable : Array (Option Value)} {ioc_Unreadable ikV_Unreadable idc_Unreadable ipm_Unreadable ict_Unreadable : Value}
    {jc_Unreadable kc_Unreadable : Value} {jd_Unreadable kd_Unreadable : Option Addr} {js_Unreadable ks_Unreadable : Array (Option Value)} {kf_Unreadable : Array Value} {kt_Unreadable : Tok}
    {nm_Damaged qn_Damaged : Str} {nn_Damaged : Addr} {bs_Damaged bm_Damaged : List Value} {sn_Damaged : List Str} {sb_Damaged : List Value} {ab_Damaged : Bool} {co_Damaged : Option Bool} {dd_Damaged : Option Addr} {m0_Damaged m1_Damaged m2_Damaged m3_Damaged m5_Damaged : Option Value}
    {if_Damaged icc_Damaged icd_Damaged : Addr} {iod_Damaged ian_Damaged : Option Addr} {isl_Damaged : Array (Option Value)} {ioc_Damaged ikV_Damaged idc_Damaged ipm_Damaged ict_Damaged : Value}
    {jc_Damaged kc_Damaged : Value} {jd_Damaged kd_Damaged : Option Addr} {js_Damaged ks_Damaged : Array (Option Value)} {kf_Damaged : Array Value} {kt_Damaged : Tok}
    {t_BASE : Tok}
    {t_BEYOND_TOLD : Tok}
    {t_CHECK_BASE : Tok}
    {t_CHECK_MODULUS : Tok}
    {t_FIRST_BYTE : Tok}
    {t_FIRST_OF_TWO : Tok}
    {t_HIGHEST_BYTE : Tok}
    {t_INNER : Tok}
    {t_LAST_BYTE : Tok}
    {t_LEAF : Tok}
    {t_MOST_PAIRS : Tok}
    {p_NOWHERE : Addr} {od_NOWHERE : Option Addr} {n_NOWHERE : Nat} {sl_NOWHERE : Array (Option Value)} {t_NOWHERE_0 t_NOWHERE_1 : Tok}
    {t_NUMBER_BASE : Tok}
    {t_NUMBER_LENGTH : Tok}
    {t_SEAL_LENGTH : Tok}
    {t_SHORTEST_RECORD : Tok}
    (a_told : PySem.W.nsIn K mainGlobals "told" = some (some (.ref f_told))) (l_told : K.lookup f_told = some ⟨oc_told, od_told, .func (PySem.W.fnOf "told" "told" (defArgs s_told) (defBody s_told) (defScope s_told) .none kV_told dc_told pm_told an_told cd_told ct_told), sl_told⟩) (c_told : PySem.W.codeIn K cd_told "told" = true) (k_told : PySem.W.keepIn K (.ref f_told) = true)
    (a_write_number : PySem.W.nsIn K mainGlobals "write_number" = some (some (.ref f_write_number))) (l_write_number : K.lookup f_write_number = some ⟨oc_write_number, od_write_number, .func (PySem.W.fnOf "write_number" "write_number" (defArgs s_write_number) (defBody s_write_number) (defScope s_write_number) .none kV_write_number dc_write_number pm_write_number an_write_number cd_write_number ct_write_number), sl_write_number⟩) (c_write_number : PySem.W.codeIn K cd_write_number "write_number" = true) (k_write_number : PySem.W.keepIn K (.ref f_write_number) = true)
    (a_write_integer : PySem.W.nsIn K mainGlobals "write_integer" = some (some (.ref f_write_integer))) (l_write_integer : K.lookup f_write_integer = some ⟨oc_write_integer, od_write_integer, .func (PySem.W.fnOf "write_integer" "write_integer" (defArgs s_write_integer) (defBody s_write_integer) (defScope s_write_integer) .none kV_write_integer dc_write_integer pm_write_integer an_write_integer cd_write_integer ct_write_integer), sl_write_integer⟩) (c_write_integer : PySem.W.codeIn K cd_write_integer "write_integer" = true) (k_write_integer : PySem.W.keepIn K (.ref f_write_integer) = true)
    (a_write_integers : PySem.W.nsIn K mainGlobals "write_integers" = some (some (.ref f_write_integers))) (l_write_integers : K.lookup f_write_integers = some ⟨oc_write_integers, od_write_integers, .func (PySem.W.fnOf "write_integers" "write_integers" (defArgs s_write_integers) (defBody s_write_integers) (defScope s_write_integers) .none kV_write_integers dc_write_integers pm_write_integers an_write_integers cd_write_integers ct_write_integers), sl_write_integers⟩) (c_write_integers : PySem.W.codeIn K cd_write_integers "write_integers" = true) (k_write_integers : PySem.W.keepIn K (.ref f_write_integers) = true)
    (a_read_number : PySem.W.nsIn K mainGlobals "read_number" = some (some (.ref f_read_number))) (l_read_number : K.lookup f_read_number = some ⟨oc_read_number, od_read_number, .func (PySem.W.fnOf "read_number" "read_number" (defArgs s_read_number) (defBody s_read_number) (defScope s_read_number) .none kV_read_number dc_read_number pm_read_number an_read_number cd_read_number ct_read_number), sl_read_number⟩) (c_read_number : PySem.W.codeIn K cd_read_number "read_number" = true) (k_read_number : PySem.W.keepIn K (.ref f_read_number) = true)
    (a_read_integer : PySem.W.nsIn K mainGlobals "read_integer" = some (some (.ref f_read_integer))) (l_read_integer : K.lookup f_read_integer = some ⟨oc_read_integer, od_read_integer, .func (PySem.W.fnOf "read_integer" "read_integer" (defArgs s_read_integer) (defBody s_read_integer) (defScope s_read_integer) .none kV_read_integer dc_read_integer pm_read_integer an_read_integer cd_read_integer ct_read_integer), sl_read_integer⟩) (c_read_integer : PySem.W.codeIn K cd_read_integer "read_integer" = true) (k_read_integer : PySem.W.keepIn K (.ref f_read_integer) = true)
    (a_read_list : PySem.W.nsIn K mainGlobals "read_list" = some (some (.ref f_read_list))) (l_read_list : K.lookup f_read_list = some ⟨oc_read_list, od_read_list, .func (PySem.W.fnOf "read_list" "read_list" (defArgs s_read_list) (defBody s_read_list) (defScope s_read_list) .none kV_read_list dc_read_list pm_read_list an_read_list cd_read_list ct_read_list), sl_read_list⟩) (c_read_list : PySem.W.codeIn K cd_read_list "read_list" = true) (k_read_list : PySem.W.keepIn K (.ref f_read_list) = true)
    (a_read_integers : PySem.W.nsIn K mainGlobals "read_integers" = some (some (.ref f_read_integers))) (l_read_integers : K.lookup f_read_integers = some ⟨oc_read_integers, od_read_integers, .func (PySem.W.fnOf "read_integers" "read_integers" (defArgs s_read_integers) (defBody s_read_integers) (defScope s_read_integers) .none kV_read_integers dc_read_integers pm_read_integers an_read_integers cd_read_integers ct_read_integers), sl_read_integers⟩) (c_read_integers : PySem.W.codeIn K cd_read_integers "read_integers" = true) (k_read_integers : PySem.W.keepIn K (.ref f_read_integers) = true)
    (a_check_of : PySem.W.nsIn K mainGlobals "check_of" = some (some (.ref f_check_of))) (l_check_of : K.lookup f_check_of = some ⟨oc_check_of, od_check_of, .func (PySem.W.fnOf "check_of" "check_of" (defArgs s_check_of) (defBody s_check_of) (defScope s_check_of) .none kV_check_of dc_check_of pm_check_of an_check_of cd_check_of ct_check_of), sl_check_of⟩) (c_check_of : PySem.W.codeIn K cd_check_of "check_of" = true) (k_check_of : PySem.W.keepIn K (.ref f_check_of) = true)
    (a_make_record : PySem.W.nsIn K mainGlobals "make_record" = some (some (.ref f_make_record))) (l_make_record : K.lookup f_make_record = some ⟨oc_make_record, od_make_record, .func (PySem.W.fnOf "make_record" "make_record" (defArgs s_make_record) (defBody s_make_record) (defScope s_make_record) .none kV_make_record dc_make_record pm_make_record an_make_record cd_make_record ct_make_record), sl_make_record⟩) (c_make_record : PySem.W.codeIn K cd_make_record "make_record" = true) (k_make_record : PySem.W.keepIn K (.ref f_make_record) = true)
    (a_is_whole : PySem.W.nsIn K mainGlobals "is_whole" = some (some (.ref f_is_whole))) (l_is_whole : K.lookup f_is_whole = some ⟨oc_is_whole, od_is_whole, .func (PySem.W.fnOf "is_whole" "is_whole" (defArgs s_is_whole) (defBody s_is_whole) (defScope s_is_whole) .none kV_is_whole dc_is_whole pm_is_whole an_is_whole cd_is_whole ct_is_whole), sl_is_whole⟩) (c_is_whole : PySem.W.codeIn K cd_is_whole "is_whole" = true) (k_is_whole : PySem.W.keepIn K (.ref f_is_whole) = true)
    (a_content_of : PySem.W.nsIn K mainGlobals "content_of" = some (some (.ref f_content_of))) (l_content_of : K.lookup f_content_of = some ⟨oc_content_of, od_content_of, .func (PySem.W.fnOf "content_of" "content_of" (defArgs s_content_of) (defBody s_content_of) (defScope s_content_of) .none kV_content_of dc_content_of pm_content_of an_content_of cd_content_of ct_content_of), sl_content_of⟩) (c_content_of : PySem.W.codeIn K cd_content_of "content_of" = true) (k_content_of : PySem.W.keepIn K (.ref f_content_of) = true)
    (a_find : PySem.W.nsIn K mainGlobals "find" = some (some (.ref f_find))) (l_find : K.lookup f_find = some ⟨oc_find, od_find, .func (PySem.W.fnOf "find" "find" (defArgs s_find) (defBody s_find) (defScope s_find) .none kV_find dc_find pm_find an_find cd_find ct_find), sl_find⟩) (c_find : PySem.W.codeIn K cd_find "find" = true) (k_find : PySem.W.keepIn K (.ref f_find) = true)
    (a_put : PySem.W.nsIn K mainGlobals "put" = some (some (.ref f_put))) (l_put : K.lookup f_put = some ⟨oc_put, od_put, .func (PySem.W.fnOf "put" "put" (defArgs s_put) (defBody s_put) (defScope s_put) .none kV_put dc_put pm_put an_put cd_put ct_put), sl_put⟩) (c_put : PySem.W.codeIn K cd_put "put" = true) (k_put : PySem.W.keepIn K (.ref f_put) = true)
    (a_node_pointers : PySem.W.nsIn K mainGlobals "node_pointers" = some (some (.ref f_node_pointers))) (l_node_pointers : K.lookup f_node_pointers = some ⟨oc_node_pointers, od_node_pointers, .func (PySem.W.fnOf "node_pointers" "node_pointers" (defArgs s_node_pointers) (defBody s_node_pointers) (defScope s_node_pointers) .none kV_node_pointers dc_node_pointers pm_node_pointers an_node_pointers cd_node_pointers ct_node_pointers), sl_node_pointers⟩) (c_node_pointers : PySem.W.codeIn K cd_node_pointers "node_pointers" = true) (k_node_pointers : PySem.W.keepIn K (.ref f_node_pointers) = true)
    (a_way_to : PySem.W.nsIn K mainGlobals "way_to" = some (some (.ref f_way_to))) (l_way_to : K.lookup f_way_to = some ⟨oc_way_to, od_way_to, .func (PySem.W.fnOf "way_to" "way_to" (defArgs s_way_to) (defBody s_way_to) (defScope s_way_to) .none kV_way_to dc_way_to pm_way_to an_way_to cd_way_to ct_way_to), sl_way_to⟩) (c_way_to : PySem.W.codeIn K cd_way_to "way_to" = true) (k_way_to : PySem.W.keepIn K (.ref f_way_to) = true)
    (a_place_below : PySem.W.nsIn K mainGlobals "place_below" = some (some (.ref f_place_below))) (l_place_below : K.lookup f_place_below = some ⟨oc_place_below, od_place_below, .func (PySem.W.fnOf "place_below" "place_below" (defArgs s_place_below) (defBody s_place_below) (defScope s_place_below) .none kV_place_below dc_place_below pm_place_below an_place_below cd_place_below ct_place_below), sl_place_below⟩) (c_place_below : PySem.W.codeIn K cd_place_below "place_below" = true) (k_place_below : PySem.W.keepIn K (.ref f_place_below) = true)
    (a_with_pair : PySem.W.nsIn K mainGlobals "with_pair" = some (some (.ref f_with_pair))) (l_with_pair : K.lookup f_with_pair = some ⟨oc_with_pair, od_with_pair, .func (PySem.W.fnOf "with_pair" "with_pair" (defArgs s_with_pair) (defBody s_with_pair) (defScope s_with_pair) .none kV_with_pair dc_with_pair pm_with_pair an_with_pair cd_with_pair ct_with_pair), sl_with_pair⟩) (c_with_pair : PySem.W.codeIn K cd_with_pair "with_pair" = true) (k_with_pair : PySem.W.keepIn K (.ref f_with_pair) = true)
    (a_put_nodes : PySem.W.nsIn K mainGlobals "put_nodes" = some (some (.ref f_put_nodes))) (l_put_nodes : K.lookup f_put_nodes = some ⟨oc_put_nodes, od_put_nodes, .func (PySem.W.fnOf "put_nodes" "put_nodes" (defArgs s_put_nodes) (defBody s_put_nodes) (defScope s_put_nodes) .none kV_put_nodes dc_put_nodes pm_put_nodes an_put_nodes cd_put_nodes ct_put_nodes), sl_put_nodes⟩) (c_put_nodes : PySem.W.codeIn K cd_put_nodes "put_nodes" = true) (k_put_nodes : PySem.W.keepIn K (.ref f_put_nodes) = true)
    (a_write_node : PySem.W.nsIn K mainGlobals "write_node" = some (some (.ref f_write_node))) (l_write_node : K.lookup f_write_node = some ⟨oc_write_node, od_write_node, .func (PySem.W.fnOf "write_node" "write_node" (defArgs s_write_node) (defBody s_write_node) (defScope s_write_node) .none kV_write_node dc_write_node pm_write_node an_write_node cd_write_node ct_write_node), sl_write_node⟩) (c_write_node : PySem.W.codeIn K cd_write_node "write_node" = true) (k_write_node : PySem.W.keepIn K (.ref f_write_node) = true)
    (a_read_node : PySem.W.nsIn K mainGlobals "read_node" = some (some (.ref f_read_node))) (l_read_node : K.lookup f_read_node = some ⟨oc_read_node, od_read_node, .func (PySem.W.fnOf "read_node" "read_node" (defArgs s_read_node) (defBody s_read_node) (defScope s_read_node) .none kV_read_node dc_read_node pm_read_node an_read_node cd_read_node ct_read_node), sl_read_node⟩) (c_read_node : PySem.W.codeIn K cd_read_node "read_node" = true) (k_read_node : PySem.W.keepIn K (.ref f_read_node) = true)
    (a_pairs_in : PySem.W.nsIn K mainGlobals "pairs_in" = some (some (.ref f_pairs_in))) (l_pairs_in : K.lookup f_pairs_in = some ⟨oc_pairs_in, od_pairs_in, .func (PySem.W.fnOf "pairs_in" "pairs_in" (defArgs s_pairs_in) (defBody s_pairs_in) (defScope s_pairs_in) .none kV_pairs_in dc_pairs_in pm_pairs_in an_pairs_in cd_pairs_in ct_pairs_in), sl_pairs_in⟩) (c_pairs_in : PySem.W.codeIn K cd_pairs_in "pairs_in" = true) (k_pairs_in : PySem.W.keepIn K (.ref f_pairs_in) = true)
    (a_read_pair : PySem.W.nsIn K mainGlobals "read_pair" = some (some (.ref f_read_pair))) (l_read_pair : K.lookup f_read_pair = some ⟨oc_read_pair, od_read_pair, .func (PySem.W.fnOf "read_pair" "read_pair" (defArgs s_read_pair) (defBody s_read_pair) (defScope s_read_pair) .none kV_read_pair dc_read_pair pm_read_pair an_read_pair cd_read_pair ct_read_pair), sl_read_pair⟩) (c_read_pair : PySem.W.codeIn K cd_read_pair "read_pair" = true) (k_read_pair : PySem.W.keepIn K (.ref f_read_pair) = true)
    (a_write_eight : PySem.W.nsIn K mainGlobals "write_eight" = some (some (.ref f_write_eight))) (l_write_eight : K.lookup f_write_eight = some ⟨oc_write_eight, od_write_eight, .func (PySem.W.fnOf "write_eight" "write_eight" (defArgs s_write_eight) (defBody s_write_eight) (defScope s_write_eight) .none kV_write_eight dc_write_eight pm_write_eight an_write_eight cd_write_eight ct_write_eight), sl_write_eight⟩) (c_write_eight : PySem.W.codeIn K cd_write_eight "write_eight" = true) (k_write_eight : PySem.W.keepIn K (.ref f_write_eight) = true)
    (a_read_eight : PySem.W.nsIn K mainGlobals "read_eight" = some (some (.ref f_read_eight))) (l_read_eight : K.lookup f_read_eight = some ⟨oc_read_eight, od_read_eight, .func (PySem.W.fnOf "read_eight" "read_eight" (defArgs s_read_eight) (defBody s_read_eight) (defScope s_read_eight) .none kV_read_eight dc_read_eight pm_read_eight an_read_eight cd_read_eight ct_read_eight), sl_read_eight⟩) (c_read_eight : PySem.W.codeIn K cd_read_eight "read_eight" = true) (k_read_eight : PySem.W.keepIn K (.ref f_read_eight) = true)
    (a_make_seal : PySem.W.nsIn K mainGlobals "make_seal" = some (some (.ref f_make_seal))) (l_make_seal : K.lookup f_make_seal = some ⟨oc_make_seal, od_make_seal, .func (PySem.W.fnOf "make_seal" "make_seal" (defArgs s_make_seal) (defBody s_make_seal) (defScope s_make_seal) .none kV_make_seal dc_make_seal pm_make_seal an_make_seal cd_make_seal ct_make_seal), sl_make_seal⟩) (c_make_seal : PySem.W.codeIn K cd_make_seal "make_seal" = true) (k_make_seal : PySem.W.keepIn K (.ref f_make_seal) = true)
    (a_is_whole_seal : PySem.W.nsIn K mainGlobals "is_whole_seal" = some (some (.ref f_is_whole_seal))) (l_is_whole_seal : K.lookup f_is_whole_seal = some ⟨oc_is_whole_seal, od_is_whole_seal, .func (PySem.W.fnOf "is_whole_seal" "is_whole_seal" (defArgs s_is_whole_seal) (defBody s_is_whole_seal) (defScope s_is_whole_seal) .none kV_is_whole_seal dc_is_whole_seal pm_is_whole_seal an_is_whole_seal cd_is_whole_seal ct_is_whole_seal), sl_is_whole_seal⟩) (c_is_whole_seal : PySem.W.codeIn K cd_is_whole_seal "is_whole_seal" = true) (k_is_whole_seal : PySem.W.keepIn K (.ref f_is_whole_seal) = true)
    (a_seal_at : PySem.W.nsIn K mainGlobals "seal_at" = some (some (.ref f_seal_at))) (l_seal_at : K.lookup f_seal_at = some ⟨oc_seal_at, od_seal_at, .func (PySem.W.fnOf "seal_at" "seal_at" (defArgs s_seal_at) (defBody s_seal_at) (defScope s_seal_at) .none kV_seal_at dc_seal_at pm_seal_at an_seal_at cd_seal_at ct_seal_at), sl_seal_at⟩) (c_seal_at : PySem.W.codeIn K cd_seal_at "seal_at" = true) (k_seal_at : PySem.W.keepIn K (.ref f_seal_at) = true)
    (a__law_cell : PySem.W.nsIn K mainGlobals "_law_cell" = some (some (.ref f__law_cell))) (l__law_cell : K.lookup f__law_cell = some ⟨oc__law_cell, od__law_cell, .func (PySem.W.fnOf "_law_cell" "_law_cell" (defArgs s__law_cell) (defBody s__law_cell) (defScope s__law_cell) .none kV__law_cell dc__law_cell pm__law_cell an__law_cell cd__law_cell ct__law_cell), sl__law_cell⟩) (c__law_cell : PySem.W.codeIn K cd__law_cell "_law_cell" = true) (k__law_cell : PySem.W.keepIn K (.ref f__law_cell) = true)
    (a__law_draws : PySem.W.nsIn K mainGlobals "_law_draws" = some (some (.ref f__law_draws))) (l__law_draws : K.lookup f__law_draws = some ⟨oc__law_draws, od__law_draws, .func (PySem.W.fnOf "_law_draws" "_law_draws" (defArgs s__law_draws) (defBody s__law_draws) (defScope s__law_draws) .none kV__law_draws dc__law_draws pm__law_draws an__law_draws cd__law_draws ct__law_draws), sl__law_draws⟩) (c__law_draws : PySem.W.codeIn K cd__law_draws "_law_draws" = true) (k__law_draws : PySem.W.keepIn K (.ref f__law_draws) = true)
    (a__law_contents : PySem.W.nsIn K mainGlobals "_law_contents" = some (some (.ref f__law_contents))) (l__law_contents : K.lookup f__law_contents = some ⟨oc__law_contents, od__law_contents, .func (PySem.W.fnOf "_law_contents" "_law_contents" (defArgs s__law_contents) (defBody s__law_contents) (defScope s__law_contents) .none kV__law_contents dc__law_contents pm__law_contents an__law_contents cd__law_contents ct__law_contents), sl__law_contents⟩) (c__law_contents : PySem.W.codeIn K cd__law_contents "_law_contents" = true) (k__law_contents : PySem.W.keepIn K (.ref f__law_contents) = true)
    (a__law_read_number : PySem.W.nsIn K mainGlobals "_law_read_number" = some (some (.ref f__law_read_number))) (l__law_read_number : K.lookup f__law_read_number = some ⟨oc__law_read_number, od__law_read_number, .func (PySem.W.fnOf "_law_read_number" "_law_read_number" (defArgs s__law_read_number) (defBody s__law_read_number) (defScope s__law_read_number) .none kV__law_read_number dc__law_read_number pm__law_read_number an__law_read_number cd__law_read_number ct__law_read_number), sl__law_read_number⟩) (c__law_read_number : PySem.W.codeIn K cd__law_read_number "_law_read_number" = true) (k__law_read_number : PySem.W.keepIn K (.ref f__law_read_number) = true)
    (a__law_node : PySem.W.nsIn K mainGlobals "_law_node" = some (some (.ref f__law_node))) (l__law_node : K.lookup f__law_node = some ⟨oc__law_node, od__law_node, .func (PySem.W.fnOf "_law_node" "_law_node" (defArgs s__law_node) (defBody s__law_node) (defScope s__law_node) .none kV__law_node dc__law_node pm__law_node an__law_node cd__law_node ct__law_node), sl__law_node⟩) (c__law_node : PySem.W.codeIn K cd__law_node "_law_node" = true) (k__law_node : PySem.W.keepIn K (.ref f__law_node) = true)
    (a__law_node_at : PySem.W.nsIn K mainGlobals "_law_node_at" = some (some (.ref f__law_node_at))) (l__law_node_at : K.lookup f__law_node_at = some ⟨oc__law_node_at, od__law_node_at, .func (PySem.W.fnOf "_law_node_at" "_law_node_at" (defArgs s__law_node_at) (defBody s__law_node_at) (defScope s__law_node_at) .none kV__law_node_at dc__law_node_at pm__law_node_at an__law_node_at cd__law_node_at ct__law_node_at), sl__law_node_at⟩) (c__law_node_at : PySem.W.codeIn K cd__law_node_at "_law_node_at" = true) (k__law_node_at : PySem.W.keepIn K (.ref f__law_node_at) = true)
    (a__law_told : PySem.W.nsIn K mainGlobals "_law_told" = some (some (.ref f__law_told))) (l__law_told : K.lookup f__law_told = some ⟨oc__law_told, od__law_told, .func (PySem.W.fnOf "_law_told" "_law_told" (defArgs s__law_told) (defBody s__law_told) (defScope s__law_told) .none kV__law_told dc__law_told pm__law_told an__law_told cd__law_told ct__law_told), sl__law_told⟩) (c__law_told : PySem.W.codeIn K cd__law_told "_law_told" = true) (k__law_told : PySem.W.keepIn K (.ref f__law_told) = true)
    (a_law : PySem.W.nsIn K mainGlobals "law" = some (some (.ref f_law))) (l_law : K.lookup f_law = some ⟨oc_law, od_law, .func (PySem.W.fnOf "law" "law" (defArgs s_law) (defBody s_law) (defScope s_law) .none kV_law dc_law pm_law an_law cd_law ct_law), sl_law⟩) (c_law : PySem.W.codeIn K cd_law "law" = true) (k_law : PySem.W.keepIn K (.ref f_law) = true)
    (a_K_Disk : PySem.W.nsIn K mainGlobals "Disk" = some (some (.ref K_Disk))) (pg_K_Disk : PySem.W.plainGet K K_Disk Str.empty = true) (hd_K_Disk : PySem.W.hasDictIn K K_Disk = true) (po_K_Disk : PySem.W.plainOver K K_Disk = true) (sa_K_Disk : PySem.W.findIn K (.ref K_Disk) "__setattr__" = some (some (.builtin "object.__setattr__")))
    (n_K_Disk__file : PySem.W.findIn K (.ref K_Disk) "_file" = some none)
    (a_Disk___init__ : PySem.W.findIn K (.ref K_Disk) "__init__" = some (some (.ref f_Disk___init__))) (i_Disk___init__ : PySem.W.isFn K (.ref f_Disk___init__) = true) (l_Disk___init__ : K.lookup f_Disk___init__ = some ⟨oc_Disk___init__, od_Disk___init__, .func (PySem.W.fnOf "__init__" "Disk.__init__" (defArgs s_Disk___init__) (defBody s_Disk___init__) (defScope s_Disk___init__) .none kV_Disk___init__ dc_Disk___init__ pm_Disk___init__ an_Disk___init__ cd_Disk___init__ ct_Disk___init__), sl_Disk___init__⟩) (c_Disk___init__ : PySem.W.codeIn K cd_Disk___init__ "Disk.__init__" = true) (k_Disk___init__ : PySem.W.keepIn K (.ref f_Disk___init__) = true)
    (mk_K_Disk : PySem.W.makesIn K K_Disk = true) (kc_K_Disk : PySem.W.keepIn K (.ref K_Disk) = true)
    (a_Disk___len__ : PySem.W.findIn K (.ref K_Disk) "__len__" = some (some (.ref f_Disk___len__))) (i_Disk___len__ : PySem.W.isFn K (.ref f_Disk___len__) = true) (l_Disk___len__ : K.lookup f_Disk___len__ = some ⟨oc_Disk___len__, od_Disk___len__, .func (PySem.W.fnOf "__len__" "Disk.__len__" (defArgs s_Disk___len__) (defBody s_Disk___len__) (defScope s_Disk___len__) .none kV_Disk___len__ dc_Disk___len__ pm_Disk___len__ an_Disk___len__ cd_Disk___len__ ct_Disk___len__), sl_Disk___len__⟩) (c_Disk___len__ : PySem.W.codeIn K cd_Disk___len__ "Disk.__len__" = true) (k_Disk___len__ : PySem.W.keepIn K (.ref f_Disk___len__) = true)
    (a_Disk_part : PySem.W.findIn K (.ref K_Disk) "part" = some (some (.ref f_Disk_part))) (i_Disk_part : PySem.W.isFn K (.ref f_Disk_part) = true) (l_Disk_part : K.lookup f_Disk_part = some ⟨oc_Disk_part, od_Disk_part, .func (PySem.W.fnOf "part" "Disk.part" (defArgs s_Disk_part) (defBody s_Disk_part) (defScope s_Disk_part) .none kV_Disk_part dc_Disk_part pm_Disk_part an_Disk_part cd_Disk_part ct_Disk_part), sl_Disk_part⟩) (c_Disk_part : PySem.W.codeIn K cd_Disk_part "Disk.part" = true) (k_Disk_part : PySem.W.keepIn K (.ref f_Disk_part) = true)
    (a_Disk_append : PySem.W.findIn K (.ref K_Disk) "append" = some (some (.ref f_Disk_append))) (i_Disk_append : PySem.W.isFn K (.ref f_Disk_append) = true) (l_Disk_append : K.lookup f_Disk_append = some ⟨oc_Disk_append, od_Disk_append, .func (PySem.W.fnOf "append" "Disk.append" (defArgs s_Disk_append) (defBody s_Disk_append) (defScope s_Disk_append) .none kV_Disk_append dc_Disk_append pm_Disk_append an_Disk_append cd_Disk_append ct_Disk_append), sl_Disk_append⟩) (c_Disk_append : PySem.W.codeIn K cd_Disk_append "Disk.append" = true) (k_Disk_append : PySem.W.keepIn K (.ref f_Disk_append) = true)
    (a_Disk_change : PySem.W.findIn K (.ref K_Disk) "change" = some (some (.ref f_Disk_change))) (i_Disk_change : PySem.W.isFn K (.ref f_Disk_change) = true) (l_Disk_change : K.lookup f_Disk_change = some ⟨oc_Disk_change, od_Disk_change, .func (PySem.W.fnOf "change" "Disk.change" (defArgs s_Disk_change) (defBody s_Disk_change) (defScope s_Disk_change) .none kV_Disk_change dc_Disk_change pm_Disk_change an_Disk_change cd_Disk_change ct_Disk_change), sl_Disk_change⟩) (c_Disk_change : PySem.W.codeIn K cd_Disk_change "Disk.change" = true) (k_Disk_change : PySem.W.keepIn K (.ref f_Disk_change) = true)
    (a_K_Log : PySem.W.nsIn K mainGlobals "Log" = some (some (.ref K_Log))) (pg_K_Log : PySem.W.plainGet K K_Log Str.empty = true) (hd_K_Log : PySem.W.hasDictIn K K_Log = true) (po_K_Log : PySem.W.plainOver K K_Log = true) (sa_K_Log : PySem.W.findIn K (.ref K_Log) "__setattr__" = some (some (.builtin "object.__setattr__")))
    (n_K_Log_disk : PySem.W.findIn K (.ref K_Log) "disk" = some none)
    (n_K_Log__waiting : PySem.W.findIn K (.ref K_Log) "_waiting" = some none)
    (n_K_Log__sealed : PySem.W.findIn K (.ref K_Log) "_sealed" = some none)
    (a_Log___init__ : PySem.W.findIn K (.ref K_Log) "__init__" = some (some (.ref f_Log___init__))) (i_Log___init__ : PySem.W.isFn K (.ref f_Log___init__) = true) (l_Log___init__ : K.lookup f_Log___init__ = some ⟨oc_Log___init__, od_Log___init__, .func (PySem.W.fnOf "__init__" "Log.__init__" (defArgs s_Log___init__) (defBody s_Log___init__) (defScope s_Log___init__) .none kV_Log___init__ dc_Log___init__ pm_Log___init__ an_Log___init__ cd_Log___init__ ct_Log___init__), sl_Log___init__⟩) (c_Log___init__ : PySem.W.codeIn K cd_Log___init__ "Log.__init__" = true) (k_Log___init__ : PySem.W.keepIn K (.ref f_Log___init__) = true)
    (mk_K_Log : PySem.W.makesIn K K_Log = true) (kc_K_Log : PySem.W.keepIn K (.ref K_Log) = true)
    (a_Log_batch : PySem.W.findIn K (.ref K_Log) "batch" = some (some (.ref pr_Log_batch))) (pg_Log_batch : PySem.W.specialIn K (.ref pr_Log_batch) "__get__" = some (some (.builtin "property.__get__"))) (pt_Log_batch : PySem.W.takesIn K (.ref pr_Log_batch) = some true) (pc_Log_batch : PySem.W.recIn K pr_Log_batch "property" = some (.ref f_Log_batch :: rs_Log_batch)) (l_Log_batch : K.lookup f_Log_batch = some ⟨oc_Log_batch, od_Log_batch, .func (PySem.W.fnOf "batch" "Log.batch" (defArgs s_Log_batch) (defBody s_Log_batch) (defScope s_Log_batch) .none kV_Log_batch dc_Log_batch pm_Log_batch an_Log_batch cd_Log_batch ct_Log_batch), sl_Log_batch⟩) (c_Log_batch : PySem.W.codeIn K cd_Log_batch "Log.batch" = true) (k_Log_batch : PySem.W.keepIn K (.ref f_Log_batch) = true)
    (a_Log_put : PySem.W.findIn K (.ref K_Log) "put" = some (some (.ref f_Log_put))) (i_Log_put : PySem.W.isFn K (.ref f_Log_put) = true) (l_Log_put : K.lookup f_Log_put = some ⟨oc_Log_put, od_Log_put, .func (PySem.W.fnOf "put" "Log.put" (defArgs s_Log_put) (defBody s_Log_put) (defScope s_Log_put) .none kV_Log_put dc_Log_put pm_Log_put an_Log_put cd_Log_put ct_Log_put), sl_Log_put⟩) (c_Log_put : PySem.W.codeIn K cd_Log_put "Log.put" = true) (k_Log_put : PySem.W.keepIn K (.ref f_Log_put) = true)
    (a_Log_fetch : PySem.W.findIn K (.ref K_Log) "fetch" = some (some (.ref f_Log_fetch))) (i_Log_fetch : PySem.W.isFn K (.ref f_Log_fetch) = true) (l_Log_fetch : K.lookup f_Log_fetch = some ⟨oc_Log_fetch, od_Log_fetch, .func (PySem.W.fnOf "fetch" "Log.fetch" (defArgs s_Log_fetch) (defBody s_Log_fetch) (defScope s_Log_fetch) .none kV_Log_fetch dc_Log_fetch pm_Log_fetch an_Log_fetch cd_Log_fetch ct_Log_fetch), sl_Log_fetch⟩) (c_Log_fetch : PySem.W.codeIn K cd_Log_fetch "Log.fetch" = true) (k_Log_fetch : PySem.W.keepIn K (.ref f_Log_fetch) = true)
    (a_Log_seal : PySem.W.findIn K (.ref K_Log) "seal" = some (some (.ref f_Log_seal))) (i_Log_seal : PySem.W.isFn K (.ref f_Log_seal) = true) (l_Log_seal : K.lookup f_Log_seal = some ⟨oc_Log_seal, od_Log_seal, .func (PySem.W.fnOf "seal" "Log.seal" (defArgs s_Log_seal) (defBody s_Log_seal) (defScope s_Log_seal) .none kV_Log_seal dc_Log_seal pm_Log_seal an_Log_seal cd_Log_seal ct_Log_seal), sl_Log_seal⟩) (c_Log_seal : PySem.W.codeIn K cd_Log_seal "Log.seal" = true) (k_Log_seal : PySem.W.keepIn K (.ref f_Log_seal) = true)
    (ea_TesseraError : PySem.W.nsIn K mainGlobals "TesseraError" = some (some (.ref K_TesseraError)))
    (ega_TesseraError : PySem.W.findIn K (.ref K_TesseraError) "__getattribute__" = some (some (.builtin "BaseException.__getattribute__")))
    (egg_TesseraError : PySem.W.findIn K (.ref K_TesseraError) "__getattr__" = some none)
    (eex_TesseraError : PySem.W.subIn K (.ref K_TesseraError) (.type "BaseException") = some true)
    (ehd_TesseraError : PySem.W.hasDictIn K K_TesseraError = true)
    (eha_TesseraError : PySem.W.findIn K (.ref K_TesseraError) "__class__" = some (some (.builtin "object.__class__")))
    (ehm_TesseraError : PySem.W.mroIn K K_TesseraError (.type "object") = some true)
    (ety_TesseraError : PySem.W.typeIn K (.ref K_TesseraError) = some (.type "type"))
    (ea_Unreadable : PySem.W.nsIn K mainGlobals "Unreadable" = some (some (.ref K_Unreadable)))
    (ega_Unreadable : PySem.W.findIn K (.ref K_Unreadable) "__getattribute__" = some (some (.builtin "BaseException.__getattribute__")))
    (egg_Unreadable : PySem.W.findIn K (.ref K_Unreadable) "__getattr__" = some none)
    (eex_Unreadable : PySem.W.subIn K (.ref K_Unreadable) (.type "BaseException") = some true)
    (ehd_Unreadable : PySem.W.hasDictIn K K_Unreadable = true)
    (eha_Unreadable : PySem.W.findIn K (.ref K_Unreadable) "__class__" = some (some (.builtin "object.__class__")))
    (ehm_Unreadable : PySem.W.mroIn K K_Unreadable (.type "object") = some true)
    (ety_Unreadable : PySem.W.typeIn K (.ref K_Unreadable) = some (.type "type"))
    (ea_Damaged : PySem.W.nsIn K mainGlobals "Damaged" = some (some (.ref K_Damaged)))
    (ega_Damaged : PySem.W.findIn K (.ref K_Damaged) "__getattribute__" = some (some (.builtin "BaseException.__getattribute__")))
    (egg_Damaged : PySem.W.findIn K (.ref K_Damaged) "__getattr__" = some none)
    (eex_Damaged : PySem.W.subIn K (.ref K_Damaged) (.type "BaseException") = some true)
    (ehd_Damaged : PySem.W.hasDictIn K K_Damaged = true)
    (eha_Damaged : PySem.W.findIn K (.ref K_Damaged) "__class__" = some (some (.builtin "object.__class__")))
    (ehm_Damaged : PySem.W.mroIn K K_Damaged (.type "object") = some true)
    (ety_Damaged : PySem.W.typeIn K (.ref K_Damaged) = some (.type "type"))
    (egn : PySem.W.specialIn K (.builtin "object.__class__") "__get__" = some (some (.builtin "getset_descriptor.__get__"))) (egt : PySem.W.takesIn K (.builtin "object.__class__") = some true)
    (est : PySem.W.nsIn K PySem.cStatics "thirdparty.any" = some none)
    (exl_Unreadable : K.lookup K_Unreadable = some (excClassObj nm_Unreadable qn_Unreadable K_Unreadable nn_Unreadable bs_Unreadable bm_Unreadable true sn_Unreadable sb_Unreadable ab_Unreadable co_Unreadable dd_Unreadable m0_Unreadable m1_Unreadable m2_Unreadable m3_Unreadable m5_Unreadable "ValueError.__new__"))
    (ebm_Unreadable : PySem.HandSPX.refsVE bm_Unreadable = true)
    (esa_Unreadable : PySem.W.findIn K (.ref K_Unreadable) "__setattr__" = some (some (.builtin "object.__setattr__")))
    (ekp_Unreadable : PySem.W.keepIn K (.ref K_Unreadable) = true)
    (esi_Unreadable : PySem.W.ks_superIn K K_Unreadable K_Unreadable "__init__" = some (some (.builtin "ValueError.__init__")))
    (esv_Unreadable : PySem.W.subIn K (.ref K_Unreadable) (.type "ValueError") = some true)
    (ese_Unreadable : PySem.W.mroIn K K_Unreadable (.ref K_Unreadable) = some true)
    (ein_Unreadable : PySem.W.findIn K (.ref K_Unreadable) "__init__" = some (some (.ref if_Unreadable)))
    (eit_Unreadable : PySem.W.typeIn K (.ref if_Unreadable) = some (.type "function"))
    (eil_Unreadable : K.lookup if_Unreadable = some ⟨ioc_Unreadable, iod_Unreadable, .func (PySem.W.fnX "__init__" "Unreadable.__init__" (defArgs s_Unreadable___init__) (defBody s_Unreadable___init__) (defScope s_Unreadable___init__) [("__class__", icc_Unreadable)] .none ikV_Unreadable idc_Unreadable ipm_Unreadable ian_Unreadable (.ref icd_Unreadable) ict_Unreadable), isl_Unreadable⟩)
    (eic_Unreadable : PySem.W.codeIn K (.ref icd_Unreadable) "Unreadable.__init__" = true)
    (ecc_Unreadable : K.lookup icc_Unreadable = some ⟨jc_Unreadable, jd_Unreadable, .cell (some (.ref K_Unreadable)), js_Unreadable⟩)
    (ecd_Unreadable : K.lookup icd_Unreadable = some ⟨kc_Unreadable, kd_Unreadable, .fields kf_Unreadable, ks_Unreadable⟩)
    (eft_Unreadable : kf_Unreadable[2]? = some (.str "/claim/cut.py" kt_Unreadable))
    (en_index_Unreadable : PySem.W.findIn K (.ref K_Unreadable) "index" = some none)
    (exl_Damaged : K.lookup K_Damaged = some (excClassObj nm_Damaged qn_Damaged K_Damaged nn_Damaged bs_Damaged bm_Damaged true sn_Damaged sb_Damaged ab_Damaged co_Damaged dd_Damaged m0_Damaged m1_Damaged m2_Damaged m3_Damaged m5_Damaged "ValueError.__new__"))
    (ebm_Damaged : PySem.HandSPX.refsVE bm_Damaged = true)
    (esa_Damaged : PySem.W.findIn K (.ref K_Damaged) "__setattr__" = some (some (.builtin "object.__setattr__")))
    (ekp_Damaged : PySem.W.keepIn K (.ref K_Damaged) = true)
    (esi_Damaged : PySem.W.ks_superIn K K_Damaged K_Damaged "__init__" = some (some (.builtin "ValueError.__init__")))
    (esv_Damaged : PySem.W.subIn K (.ref K_Damaged) (.type "ValueError") = some true)
    (ese_Damaged : PySem.W.mroIn K K_Damaged (.ref K_Damaged) = some true)
    (ein_Damaged : PySem.W.findIn K (.ref K_Damaged) "__init__" = some (some (.ref if_Damaged)))
    (eit_Damaged : PySem.W.typeIn K (.ref if_Damaged) = some (.type "function"))
    (eil_Damaged : K.lookup if_Damaged = some ⟨ioc_Damaged, iod_Damaged, .func (PySem.W.fnX "__init__" "Damaged.__init__" (defArgs s_Damaged___init__) (defBody s_Damaged___init__) (defScope s_Damaged___init__) [("__class__", icc_Damaged)] .none ikV_Damaged idc_Damaged ipm_Damaged ian_Damaged (.ref icd_Damaged) ict_Damaged), isl_Damaged⟩)
    (eic_Damaged : PySem.W.codeIn K (.ref icd_Damaged) "Damaged.__init__" = true)
    (ecc_Damaged : K.lookup icc_Damaged = some ⟨jc_Damaged, jd_Damaged, .cell (some (.ref K_Damaged)), js_Damaged⟩)
    (ecd_Damaged : K.lookup icd_Damaged = some ⟨kc_Damaged, kd_Damaged, .fields kf_Damaged, ks_Damaged⟩)
    (eft_Damaged : kf_Damaged[2]? = some (.str "/claim/cut.py" kt_Damaged))
    (en_address_Damaged : PySem.W.findIn K (.ref K_Damaged) "address" = some none)
    (en_length_Damaged : PySem.W.findIn K (.ref K_Damaged) "length" = some none)
    (es_TesseraError_TesseraError : PySem.W.subIn K (.ref K_TesseraError) (.ref K_TesseraError) = some true)
    (es_TesseraError_Unreadable : PySem.W.subIn K (.ref K_TesseraError) (.ref K_Unreadable) = some false)
    (es_TesseraError_Damaged : PySem.W.subIn K (.ref K_TesseraError) (.ref K_Damaged) = some false)
    (es_Unreadable_TesseraError : PySem.W.subIn K (.ref K_Unreadable) (.ref K_TesseraError) = some true)
    (es_Unreadable_Unreadable : PySem.W.subIn K (.ref K_Unreadable) (.ref K_Unreadable) = some true)
    (es_Unreadable_Damaged : PySem.W.subIn K (.ref K_Unreadable) (.ref K_Damaged) = some false)
    (es_Damaged_TesseraError : PySem.W.subIn K (.ref K_Damaged) (.ref K_TesseraError) = some true)
    (es_Damaged_Unreadable : PySem.W.subIn K (.ref K_Damaged) (.ref K_Unreadable) = some false)
    (es_Damaged_Damaged : PySem.W.subIn K (.ref K_Damaged) (.ref K_Damaged) = some true)
    (z_BASE : PySem.W.nsIn K mainGlobals "BASE" = some (some (.int 125 t_BASE)))
    (z_BEYOND_TOLD : PySem.W.nsIn K mainGlobals "BEYOND_TOLD" = some (some (.int 1000000000000000000000000000000 t_BEYOND_TOLD)))
    (z_CHECK_BASE : PySem.W.nsIn K mainGlobals "CHECK_BASE" = some (some (.int 250 t_CHECK_BASE)))
    (z_CHECK_MODULUS : PySem.W.nsIn K mainGlobals "CHECK_MODULUS" = some (some (.int 62500 t_CHECK_MODULUS)))
    (z_FIRST_BYTE : PySem.W.nsIn K mainGlobals "FIRST_BYTE" = some (some (.int 255 t_FIRST_BYTE)))
    (z_FIRST_OF_TWO : PySem.W.nsIn K mainGlobals "FIRST_OF_TWO" = some (some (.int 5 t_FIRST_OF_TWO)))
    (z_HIGHEST_BYTE : PySem.W.nsIn K mainGlobals "HIGHEST_BYTE" = some (some (.int 249 t_HIGHEST_BYTE)))
    (z_INNER : PySem.W.nsIn K mainGlobals "INNER" = some (some (.int 2 t_INNER)))
    (z_LAST_BYTE : PySem.W.nsIn K mainGlobals "LAST_BYTE" = some (some (.int 254 t_LAST_BYTE)))
    (z_LEAF : PySem.W.nsIn K mainGlobals "LEAF" = some (some (.int 1 t_LEAF)))
    (z_MOST_PAIRS : PySem.W.nsIn K mainGlobals "MOST_PAIRS" = some (some (.int 8 t_MOST_PAIRS)))
    (z_NOWHERE : PySem.W.nsIn K mainGlobals "NOWHERE" = some (some (.ref p_NOWHERE))) (l_NOWHERE : K.lookup p_NOWHERE = some ⟨.type "tuple", od_NOWHERE, .seq #[.int 0 t_NOWHERE_0, .int 0 t_NOWHERE_1] n_NOWHERE, sl_NOWHERE⟩)
    (z_NUMBER_BASE : PySem.W.nsIn K mainGlobals "NUMBER_BASE" = some (some (.int 250 t_NUMBER_BASE)))
    (z_NUMBER_LENGTH : PySem.W.nsIn K mainGlobals "NUMBER_LENGTH" = some (some (.int 8 t_NUMBER_LENGTH)))
    (z_SEAL_LENGTH : PySem.W.nsIn K mainGlobals "SEAL_LENGTH" = some (some (.int 28 t_SEAL_LENGTH)))
    (z_SHORTEST_RECORD : PySem.W.nsIn K mainGlobals "SHORTEST_RECORD" = some (some (.int 3 t_SHORTEST_RECORD)))
    (z_abs : PySem.W.nsIn K mainGlobals "abs" = some none)
    (z_int : PySem.W.nsIn K mainGlobals "int" = some none)
    (z_isinstance : PySem.W.nsIn K mainGlobals "isinstance" = some none)
    (z_len : PySem.W.nsIn K mainGlobals "len" = some none)
    (z_list : PySem.W.nsIn K mainGlobals "list" = some none)
    (z_max : PySem.W.nsIn K mainGlobals "max" = some none)
    (z_range : PySem.W.nsIn K mainGlobals "range" = some none)
    (z_reversed : PySem.W.nsIn K mainGlobals "reversed" = some none)
    (z_sorted : PySem.W.nsIn K mainGlobals "sorted" = some none)
    (z_str : PySem.W.nsIn K mainGlobals "str" = some none)
    (z_sum : PySem.W.nsIn K mainGlobals "sum" = some none)
    (z_super : PySem.W.nsIn K mainGlobals "super" = some none)
    (z_tuple : PySem.W.nsIn K mainGlobals "tuple" = some none) : Top K mg :=
  { f_told := ⟨_, _, fun_mk (st := s_told) l_told c_told k_told, PySem.W.mg_of X G a_told, (fun_mk (st := s_told) l_told c_told k_told).binds (ps := ["thing"]) fun _ _ _ _ _ _ us hl => match us, hl with | [_], _ => rfl⟩,
    f_write_number := ⟨_, _, fun_mk (st := s_write_number) l_write_number c_write_number k_write_number, PySem.W.mg_of X G a_write_number, (fun_mk (st := s_write_number) l_write_number c_write_number k_write_number).binds (ps := ["number"]) fun _ _ _ _ _ _ us hl => match us, hl with | [_], _ => rfl⟩,
    f_write_integer := ⟨_, _, fun_mk (st := s_write_integer) l_write_integer c_write_integer k_write_integer, PySem.W.mg_of X G a_write_integer, (fun_mk (st := s_write_integer) l_write_integer c_write_integer k_write_integer).binds (ps := ["number"]) fun _ _ _ _ _ _ us hl => match us, hl with | [_], _ => rfl⟩,
    f_write_integers := ⟨_, _, fun_mk (st := s_write_integers) l_write_integers c_write_integers k_write_integers, PySem.W.mg_of X G a_write_integers, (fun_mk (st := s_write_integers) l_write_integers c_write_integers k_write_integers).binds (ps := ["numbers"]) fun _ _ _ _ _ _ us hl => match us, hl with | [_], _ => rfl⟩,
    f_read_number := ⟨_, _, fun_mk (st := s_read_number) l_read_number c_read_number k_read_number, PySem.W.mg_of X G a_read_number, (fun_mk (st := s_read_number) l_read_number c_read_number k_read_number).binds (ps := ["values", "index"]) fun _ _ _ _ _ _ us hl => match us, hl with | [_, _], _ => rfl⟩,
    f_read_integer := ⟨_, _, fun_mk (st := s_read_integer) l_read_integer c_read_integer k_read_integer, PySem.W.mg_of X G a_read_integer, (fun_mk (st := s_read_integer) l_read_integer c_read_integer k_read_integer).binds (ps := ["values", "index"]) fun _ _ _ _ _ _ us hl => match us, hl with | [_, _], _ => rfl⟩,
    f_read_list := ⟨_, _, fun_mk (st := s_read_list) l_read_list c_read_list k_read_list, PySem.W.mg_of X G a_read_list, (fun_mk (st := s_read_list) l_read_list c_read_list k_read_list).binds (ps := ["values", "index", "read_one"]) fun _ _ _ _ _ _ us hl => match us, hl with | [_, _, _], _ => rfl⟩,
    f_read_integers := ⟨_, _, fun_mk (st := s_read_integers) l_read_integers c_read_integers k_read_integers, PySem.W.mg_of X G a_read_integers, (fun_mk (st := s_read_integers) l_read_integers c_read_integers k_read_integers).binds (ps := ["values", "index"]) fun _ _ _ _ _ _ us hl => match us, hl with | [_, _], _ => rfl⟩,
    f_check_of := ⟨_, _, fun_mk (st := s_check_of) l_check_of c_check_of k_check_of, PySem.W.mg_of X G a_check_of, (fun_mk (st := s_check_of) l_check_of c_check_of k_check_of).binds (ps := ["values"]) fun _ _ _ _ _ _ us hl => match us, hl with | [_], _ => rfl⟩,
    f_make_record := ⟨_, _, fun_mk (st := s_make_record) l_make_record c_make_record k_make_record, PySem.W.mg_of X G a_make_record, (fun_mk (st := s_make_record) l_make_record c_make_record k_make_record).binds (ps := ["kind", "content"]) fun _ _ _ _ _ _ us hl => match us, hl with | [_, _], _ => rfl⟩,
    f_is_whole := ⟨_, _, fun_mk (st := s_is_whole) l_is_whole c_is_whole k_is_whole, PySem.W.mg_of X G a_is_whole, (fun_mk (st := s_is_whole) l_is_whole c_is_whole k_is_whole).binds (ps := ["found", "kind"]) fun _ _ _ _ _ _ us hl => match us, hl with | [_, _], _ => rfl⟩,
    f_content_of := ⟨_, _, fun_mk (st := s_content_of) l_content_of c_content_of k_content_of, PySem.W.mg_of X G a_content_of, (fun_mk (st := s_content_of) l_content_of c_content_of k_content_of).binds (ps := ["found", "kind", "pointer"]) fun _ _ _ _ _ _ us hl => match us, hl with | [_, _, _], _ => rfl⟩,
    f_find := ⟨_, _, fun_mk (st := s_find) l_find c_find k_find, PySem.W.mg_of X G a_find, (fun_mk (st := s_find) l_find c_find k_find).binds (ps := ["log", "root", "key"]) fun _ _ _ _ _ _ us hl => match us, hl with | [_, _, _], _ => rfl⟩,
    f_put := ⟨_, _, fun_mk (st := s_put) l_put c_put k_put, PySem.W.mg_of X G a_put, (fun_mk (st := s_put) l_put c_put k_put).binds (ps := ["log", "root", "key", "pointer"]) fun _ _ _ _ _ _ us hl => match us, hl with | [_, _, _, _], _ => rfl⟩,
    f_node_pointers := ⟨_, _, fun_mk (st := s_node_pointers) l_node_pointers c_node_pointers k_node_pointers, PySem.W.mg_of X G a_node_pointers, (fun_mk (st := s_node_pointers) l_node_pointers c_node_pointers k_node_pointers).binds (ps := ["log", "root"]) fun _ _ _ _ _ _ us hl => match us, hl with | [_, _], _ => rfl⟩,
    f_way_to := ⟨_, _, fun_mk (st := s_way_to) l_way_to c_way_to k_way_to, PySem.W.mg_of X G a_way_to, (fun_mk (st := s_way_to) l_way_to c_way_to k_way_to).binds (ps := ["log", "root", "key"]) fun _ _ _ _ _ _ us hl => match us, hl with | [_, _, _], _ => rfl⟩,
    f_place_below := ⟨_, _, fun_mk (st := s_place_below) l_place_below c_place_below k_place_below, PySem.W.mg_of X G a_place_below, (fun_mk (st := s_place_below) l_place_below c_place_below k_place_below).binds (ps := ["pairs", "key"]) fun _ _ _ _ _ _ us hl => match us, hl with | [_, _], _ => rfl⟩,
    f_with_pair := ⟨_, _, fun_mk (st := s_with_pair) l_with_pair c_with_pair k_with_pair, PySem.W.mg_of X G a_with_pair, (fun_mk (st := s_with_pair) l_with_pair c_with_pair k_with_pair).binds (ps := ["pairs", "key", "pointer"]) fun _ _ _ _ _ _ us hl => match us, hl with | [_, _, _], _ => rfl⟩,
    f_put_nodes := ⟨_, _, fun_mk (st := s_put_nodes) l_put_nodes c_put_nodes k_put_nodes, PySem.W.mg_of X G a_put_nodes, (fun_mk (st := s_put_nodes) l_put_nodes c_put_nodes k_put_nodes).binds (ps := ["log", "kind", "pairs"]) fun _ _ _ _ _ _ us hl => match us, hl with | [_, _, _], _ => rfl⟩,
    f_write_node := ⟨_, _, fun_mk (st := s_write_node) l_write_node c_write_node k_write_node, PySem.W.mg_of X G a_write_node, (fun_mk (st := s_write_node) l_write_node c_write_node k_write_node).binds (ps := ["pairs"]) fun _ _ _ _ _ _ us hl => match us, hl with | [_], _ => rfl⟩,
    f_read_node := ⟨_, _, fun_mk (st := s_read_node) l_read_node c_read_node k_read_node, PySem.W.mg_of X G a_read_node, (fun_mk (st := s_read_node) l_read_node c_read_node k_read_node).binds (ps := ["log", "pointer"]) fun _ _ _ _ _ _ us hl => match us, hl with | [_, _], _ => rfl⟩,
    f_pairs_in := ⟨_, _, fun_mk (st := s_pairs_in) l_pairs_in c_pairs_in k_pairs_in, PySem.W.mg_of X G a_pairs_in, (fun_mk (st := s_pairs_in) l_pairs_in c_pairs_in k_pairs_in).binds (ps := ["content", "pointer"]) fun _ _ _ _ _ _ us hl => match us, hl with | [_, _], _ => rfl⟩,
    f_read_pair := ⟨_, _, fun_mk (st := s_read_pair) l_read_pair c_read_pair k_read_pair, PySem.W.mg_of X G a_read_pair, (fun_mk (st := s_read_pair) l_read_pair c_read_pair k_read_pair).binds (ps := ["content", "index"]) fun _ _ _ _ _ _ us hl => match us, hl with | [_, _], _ => rfl⟩,
    f_write_eight := ⟨_, _, fun_mk (st := s_write_eight) l_write_eight c_write_eight k_write_eight, PySem.W.mg_of X G a_write_eight, (fun_mk (st := s_write_eight) l_write_eight c_write_eight k_write_eight).binds (ps := ["number"]) fun _ _ _ _ _ _ us hl => match us, hl with | [_], _ => rfl⟩,
    f_read_eight := ⟨_, _, fun_mk (st := s_read_eight) l_read_eight c_read_eight k_read_eight, PySem.W.mg_of X G a_read_eight, (fun_mk (st := s_read_eight) l_read_eight c_read_eight k_read_eight).binds (ps := ["digits"]) fun _ _ _ _ _ _ us hl => match us, hl with | [_], _ => rfl⟩,
    f_make_seal := ⟨_, _, fun_mk (st := s_make_seal) l_make_seal c_make_seal k_make_seal, PySem.W.mg_of X G a_make_seal, (fun_mk (st := s_make_seal) l_make_seal c_make_seal k_make_seal).binds (ps := ["batch", "root"]) fun _ _ _ _ _ _ us hl => match us, hl with | [_, _], _ => rfl⟩,
    f_is_whole_seal := ⟨_, _, fun_mk (st := s_is_whole_seal) l_is_whole_seal c_is_whole_seal k_is_whole_seal, PySem.W.mg_of X G a_is_whole_seal, (fun_mk (st := s_is_whole_seal) l_is_whole_seal c_is_whole_seal k_is_whole_seal).binds (ps := ["found"]) fun _ _ _ _ _ _ us hl => match us, hl with | [_], _ => rfl⟩,
    f_seal_at := ⟨_, _, fun_mk (st := s_seal_at) l_seal_at c_seal_at k_seal_at, PySem.W.mg_of X G a_seal_at, (fun_mk (st := s_seal_at) l_seal_at c_seal_at k_seal_at).binds (ps := ["disk", "address"]) fun _ _ _ _ _ _ us hl => match us, hl with | [_, _], _ => rfl⟩,
    f__law_cell := ⟨_, _, fun_mk (st := s__law_cell) l__law_cell c__law_cell k__law_cell, PySem.W.mg_of X G a__law_cell, (fun_mk (st := s__law_cell) l__law_cell c__law_cell k__law_cell).binds (ps := ["script", "k"]) fun _ _ _ _ _ _ us hl => match us, hl with | [_, _], _ => rfl⟩,
    f__law_draws := ⟨_, _, fun_mk (st := s__law_draws) l__law_draws c__law_draws k__law_draws, PySem.W.mg_of X G a__law_draws, (fun_mk (st := s__law_draws) l__law_draws c__law_draws k__law_draws).binds (ps := ["cell", "count"]) fun _ _ _ _ _ _ us hl => match us, hl with | [_, _], _ => rfl⟩,
    f__law_contents := ⟨_, _, fun_mk (st := s__law_contents) l__law_contents c__law_contents k__law_contents, PySem.W.mg_of X G a__law_contents, (fun_mk (st := s__law_contents) l__law_contents c__law_contents k__law_contents).binds (ps := ["disk"]) fun _ _ _ _ _ _ us hl => match us, hl with | [_], _ => rfl⟩,
    f__law_read_number := ⟨_, _, fun_mk (st := s__law_read_number) l__law_read_number c__law_read_number k__law_read_number, PySem.W.mg_of X G a__law_read_number, (fun_mk (st := s__law_read_number) l__law_read_number c__law_read_number k__law_read_number).binds (ps := ["values", "at"]) fun _ _ _ _ _ _ us hl => match us, hl with | [_, _], _ => rfl⟩,
    f__law_node := ⟨_, _, fun_mk (st := s__law_node) l__law_node c__law_node k__law_node, PySem.W.mg_of X G a__law_node, (fun_mk (st := s__law_node) l__law_node c__law_node k__law_node).binds (ps := ["content"]) fun _ _ _ _ _ _ us hl => match us, hl with | [_], _ => rfl⟩,
    f__law_node_at := ⟨_, _, fun_mk (st := s__law_node_at) l__law_node_at c__law_node_at k__law_node_at, PySem.W.mg_of X G a__law_node_at, (fun_mk (st := s__law_node_at) l__law_node_at c__law_node_at k__law_node_at).binds (ps := ["log", "pointer"]) fun _ _ _ _ _ _ us hl => match us, hl with | [_, _], _ => rfl⟩,
    f__law_told := ⟨_, _, fun_mk (st := s__law_told) l__law_told c__law_told k__law_told, PySem.W.mg_of X G a__law_told, (fun_mk (st := s__law_told) l__law_told c__law_told k__law_told).binds (ps := ["log", "root", "key"]) fun _ _ _ _ _ _ us hl => match us, hl with | [_, _, _], _ => rfl⟩,
    f_law := ⟨_, _, fun_mk (st := s_law) l_law c_law k_law, PySem.W.mg_of X G a_law, (fun_mk (st := s_law) l_law c_law k_law).binds (ps := ["script"]) fun _ _ _ _ _ _ us hl => match us, hl with | [_], _ => rfl⟩,
    c_Disk := ⟨K_Disk, { cl := ⟨pg_K_Disk, hd_K_Disk, po_K_Disk, sa_K_Disk⟩, at_ := PySem.W.mg_of X G a_K_Disk, a__file := n_K_Disk__file, i_ := ⟨_, _, fun_mk (st := s_Disk___init__) l_Disk___init__ c_Disk___init__ k_Disk___init__, ⟨mk_K_Disk, a_Disk___init__, i_Disk___init__, kc_K_Disk⟩, (fun_mk (st := s_Disk___init__) l_Disk___init__ c_Disk___init__ k_Disk___init__).binds (ps := ["self", "values"]) fun _ _ _ _ _ _ us hl => match us, hl with | [_, _], _ => rfl⟩, m___len__ := ⟨_, _, fun_mk (st := s_Disk___len__) l_Disk___len__ c_Disk___len__ k_Disk___len__, ⟨a_Disk___len__, i_Disk___len__, k_Disk___len__⟩, (fun_mk (st := s_Disk___len__) l_Disk___len__ c_Disk___len__ k_Disk___len__).binds (ps := ["self"]) fun _ _ _ _ _ _ us hl => match us, hl with | [_], _ => rfl⟩, m_part := ⟨_, _, fun_mk (st := s_Disk_part) l_Disk_part c_Disk_part k_Disk_part, ⟨a_Disk_part, i_Disk_part, k_Disk_part⟩, (fun_mk (st := s_Disk_part) l_Disk_part c_Disk_part k_Disk_part).binds (ps := ["self", "address", "count"]) fun _ _ _ _ _ _ us hl => match us, hl with | [_, _, _], _ => rfl⟩, m_append := ⟨_, _, fun_mk (st := s_Disk_append) l_Disk_append c_Disk_append k_Disk_append, ⟨a_Disk_append, i_Disk_append, k_Disk_append⟩, (fun_mk (st := s_Disk_append) l_Disk_append c_Disk_append k_Disk_append).binds (ps := ["self", "values"]) fun _ _ _ _ _ _ us hl => match us, hl with | [_, _], _ => rfl⟩, m_change := ⟨_, _, fun_mk (st := s_Disk_change) l_Disk_change c_Disk_change k_Disk_change, ⟨a_Disk_change, i_Disk_change, k_Disk_change⟩, (fun_mk (st := s_Disk_change) l_Disk_change c_Disk_change k_Disk_change).binds (ps := ["self", "address", "value"]) fun _ _ _ _ _ _ us hl => match us, hl with | [_, _, _], _ => rfl⟩ }⟩,
    c_Log := ⟨K_Log, { cl := ⟨pg_K_Log, hd_K_Log, po_K_Log, sa_K_Log⟩, at_ := PySem.W.mg_of X G a_K_Log, a_disk := n_K_Log_disk, a__waiting := n_K_Log__waiting, a__sealed := n_K_Log__sealed, i_ := ⟨_, _, fun_mk (st := s_Log___init__) l_Log___init__ c_Log___init__ k_Log___init__, ⟨mk_K_Log, a_Log___init__, i_Log___init__, kc_K_Log⟩, (fun_mk (st := s_Log___init__) l_Log___init__ c_Log___init__ k_Log___init__).binds (ps := ["self", "disk"]) fun _ _ _ _ _ _ us hl => match us, hl with | [_, _], _ => rfl⟩, p_batch := ⟨_, _, _, fun_mk (st := s_Log_batch) l_Log_batch c_Log_batch k_Log_batch, ⟨a_Log_batch, pg_Log_batch, pt_Log_batch, ⟨_, pc_Log_batch⟩⟩, (fun_mk (st := s_Log_batch) l_Log_batch c_Log_batch k_Log_batch).binds (ps := ["self"]) fun _ _ _ _ _ _ us hl => match us, hl with | [_], _ => rfl⟩, m_put := ⟨_, _, fun_mk (st := s_Log_put) l_Log_put c_Log_put k_Log_put, ⟨a_Log_put, i_Log_put, k_Log_put⟩, (fun_mk (st := s_Log_put) l_Log_put c_Log_put k_Log_put).binds (ps := ["self", "kind", "content"]) fun _ _ _ _ _ _ us hl => match us, hl with | [_, _, _], _ => rfl⟩, m_fetch := ⟨_, _, fun_mk (st := s_Log_fetch) l_Log_fetch c_Log_fetch k_Log_fetch, ⟨a_Log_fetch, i_Log_fetch, k_Log_fetch⟩, (fun_mk (st := s_Log_fetch) l_Log_fetch c_Log_fetch k_Log_fetch).binds (ps := ["self", "kind", "pointer"]) fun _ _ _ _ _ _ us hl => match us, hl with | [_, _, _], _ => rfl⟩, m_seal := ⟨_, _, fun_mk (st := s_Log_seal) l_Log_seal c_Log_seal k_Log_seal, ⟨a_Log_seal, i_Log_seal, k_Log_seal⟩, (fun_mk (st := s_Log_seal) l_Log_seal c_Log_seal k_Log_seal).binds (ps := ["self", "root"]) fun _ _ _ _ _ _ us hl => match us, hl with | [_, _], _ => rfl⟩ }⟩,
    errs := ⟨K_TesseraError, K_Unreadable, K_Damaged, { c_TesseraError := ⟨PySem.W.mg_of X G ea_TesseraError, ⟨ega_TesseraError, egg_TesseraError, eex_TesseraError, ehd_TesseraError⟩, ⟨ega_TesseraError, egg_TesseraError, eex_TesseraError, ehd_TesseraError, eha_TesseraError, egn, egt, ehm_TesseraError⟩, ety_TesseraError⟩, c_Unreadable := ⟨PySem.W.mg_of X G ea_Unreadable, ⟨ega_Unreadable, egg_Unreadable, eex_Unreadable, ehd_Unreadable⟩, ⟨ega_Unreadable, egg_Unreadable, eex_Unreadable, ehd_Unreadable, eha_Unreadable, egn, egt, ehm_Unreadable⟩, ety_Unreadable⟩, c_Damaged := ⟨PySem.W.mg_of X G ea_Damaged, ⟨ega_Damaged, egg_Damaged, eex_Damaged, ehd_Damaged⟩, ⟨ega_Damaged, egg_Damaged, eex_Damaged, ehd_Damaged, eha_Damaged, egn, egt, ehm_Damaged⟩, ety_Damaged⟩, i_Unreadable := ⟨⟨⟨⟨_, _, _, _, _, _, _, _, _, _, _, _, _, _, _, exl_Unreadable, ebm_Unreadable⟩, esa_Unreadable, eex_Unreadable, ety_Unreadable, ekp_Unreadable⟩, esi_Unreadable, esv_Unreadable, ese_Unreadable, est⟩, ⟨_, _, ⟨_, _, _, _, _, _, _, _, _, _, rfl, eil_Unreadable, eic_Unreadable, ⟨_, _, _, ecc_Unreadable⟩, _, _, _, _, _, ecd_Unreadable, eft_Unreadable⟩, ein_Unreadable, eit_Unreadable, .all fun us hl => match us, hl with | [_, _], _ => rfl⟩, (fun f hf => by rw [List.mem_singleton.mp hf]; exact en_index_Unreadable)⟩, i_Damaged := ⟨⟨⟨⟨_, _, _, _, _, _, _, _, _, _, _, _, _, _, _, exl_Damaged, ebm_Damaged⟩, esa_Damaged, eex_Damaged, ety_Damaged, ekp_Damaged⟩, esi_Damaged, esv_Damaged, ese_Damaged, est⟩, ⟨_, _, ⟨_, _, _, _, _, _, _, _, _, _, rfl, eil_Damaged, eic_Damaged, ⟨_, _, _, ecc_Damaged⟩, _, _, _, _, _, ecd_Damaged, eft_Damaged⟩, ein_Damaged, eit_Damaged, .all fun us hl => match us, hl with | [_, _, _], _ => rfl⟩, (fun f hf => by simp only [List.mem_cons, List.not_mem_nil, or_false] at hf; rcases hf with rfl | rfl <;> assumption)⟩, s_TesseraError_TesseraError := es_TesseraError_TesseraError, s_TesseraError_Unreadable := es_TesseraError_Unreadable, s_TesseraError_Damaged := es_TesseraError_Damaged, s_Unreadable_TesseraError := es_Unreadable_TesseraError, s_Unreadable_Unreadable := es_Unreadable_Unreadable, s_Unreadable_Damaged := es_Unreadable_Damaged, s_Damaged_TesseraError := es_Damaged_TesseraError, s_Damaged_Unreadable := es_Damaged_Unreadable, s_Damaged_Damaged := es_Damaged_Damaged }⟩,
    g_BASE := ⟨_, PySem.W.mg_of X G z_BASE⟩,
    g_BEYOND_TOLD := ⟨_, PySem.W.mg_of X G z_BEYOND_TOLD⟩,
    g_CHECK_BASE := ⟨_, PySem.W.mg_of X G z_CHECK_BASE⟩,
    g_CHECK_MODULUS := ⟨_, PySem.W.mg_of X G z_CHECK_MODULUS⟩,
    g_FIRST_BYTE := ⟨_, PySem.W.mg_of X G z_FIRST_BYTE⟩,
    g_FIRST_OF_TWO := ⟨_, PySem.W.mg_of X G z_FIRST_OF_TWO⟩,
    g_HIGHEST_BYTE := ⟨_, PySem.W.mg_of X G z_HIGHEST_BYTE⟩,
    g_INNER := ⟨_, PySem.W.mg_of X G z_INNER⟩,
    g_LAST_BYTE := ⟨_, PySem.W.mg_of X G z_LAST_BYTE⟩,
    g_LEAF := ⟨_, PySem.W.mg_of X G z_LEAF⟩,
    g_MOST_PAIRS := ⟨_, PySem.W.mg_of X G z_MOST_PAIRS⟩,
    g_NOWHERE := ⟨_, PySem.W.mg_of X G z_NOWHERE, sqT_top l_NOWHERE (by show 2 ≤ sizeLine; decide) (.cons ⟨_, rfl⟩ (.cons ⟨_, rfl⟩ .nil))⟩,
    g_NUMBER_BASE := ⟨_, PySem.W.mg_of X G z_NUMBER_BASE⟩,
    g_NUMBER_LENGTH := ⟨_, PySem.W.mg_of X G z_NUMBER_LENGTH⟩,
    g_SEAL_LENGTH := ⟨_, PySem.W.mg_of X G z_SEAL_LENGTH⟩,
    g_SHORTEST_RECORD := ⟨_, PySem.W.mg_of X G z_SHORTEST_RECORD⟩,
    b_abs := PySem.W.mg_none_of X G z_abs,
    b_int := PySem.W.mg_none_of X G z_int,
    b_isinstance := PySem.W.mg_none_of X G z_isinstance,
    b_len := PySem.W.mg_none_of X G z_len,
    b_list := PySem.W.mg_none_of X G z_list,
    b_max := PySem.W.mg_none_of X G z_max,
    b_range := PySem.W.mg_none_of X G z_range,
    b_reversed := PySem.W.mg_none_of X G z_reversed,
    b_sorted := PySem.W.mg_none_of X G z_sorted,
    b_str := PySem.W.mg_none_of X G z_str,
    b_sum := PySem.W.mg_none_of X G z_sum,
    b_super := PySem.W.mg_none_of X G z_super,
    b_tuple := PySem.W.mg_none_of X G z_tuple }
theorem law_mk {l : PySem.W.OpenLaw} {w : World} {K : PySem.W.Frag} {mg : Str → Option Value} {fa : Addr} {k : Nat} {sp : Sp} (hfa : mg "law" = some (.ref fa)) (T : Top K mg)
    (F : ∀ (base : Heap) (f : Addr) (fd : FuncData), Fun K "law" "law" s_law f fd → FnOk l.prog w K mg base CX0 k f fd ["script"] sp) :
    ∃ fd : FuncData, (∀ (s : Shared) (v : Value), BindsTo s fd ⟨[v], []⟩ [("script", v)]) ∧ ∀ base : Heap, K.In base → base.Ns mainGlobals mg → FnOk l.prog w K mg base CX0 k fa fd ["script"] sp := by
  obtain ⟨f, fd, FF, hm, hb⟩ := T.f_law.ex
  have e : f = fa := by rw [hm] at hfa; exact Value.ref.inj (Option.some.inj hfa)
  subst e
  have FF2 := FF
  obtain ⟨oc, od, kV, doc, pm, an, cdv, ct, osl, rfl, lk, hcd⟩ := FF2.ex
  exact ⟨_, fun s v => .of_eq rfl, fun base _ _ => F base f _ FF⟩
theorem pr_ok : PrOk PySem.Challenge.rw_tessera_k42_nodes_that_are_needed.prog := ⟨rfl, rfl⟩
end My
open PySem PySem.W PyProof.Rows
set_option maxHeartbeats 0 in
theorem PySem.Challenge.cw_tessera_k42_nodes_that_are_needed_holds : PySem.Challenge.rw_tessera_k42_nodes_that_are_needed.Holds := by
  w_on; o_law; k_head; (case hw => w_witness2)
  k_fill
  refine L2.walk_ofB (l := PySem.Challenge.rw_tessera_k42_nodes_that_are_needed) (n := 63) (k := My.lawK) (x := "script") (CX := fun _ => L2.CX0) (sp := fun w => My.spLaw _) rfl (by decide) rfl ⟨rfl, by decide, by decide⟩ (fun w h Y => PySem.W.kIn_of Y) ?F (fun w H a ns hl hb _ hS => My.law_in hl hb hS) (fun _ _ _ _ _ h => h)
  case F =>
    intro w mg fa h KX G hmg
    refine' (fun T => My.law_mk hmg T (fun base f fd F => My.ok_law My.pr_ok F T)) ?T
    refine' My.top_mk KX G ?a_told ?l_told ?c_told ?k_told ?a_write_number ?l_write_number ?c_write_number ?k_write_number ?a_write_integer ?l_write_integer ?c_write_integer ?k_write_integer ?a_write_integers ?l_write_integers ?c_write_integers ?k_write_integers ?a_read_number ?l_read_number ?c_read_number ?k_read_number ?a_read_integer ?l_read_integer ?c_read_integer ?k_read_integer ?a_read_list ?l_read_list ?c_read_list ?k_read_list ?a_read_integers ?l_read_integers ?c_read_integers ?k_read_integers ?a_check_of ?l_check_of ?c_check_of ?k_check_of ?a_make_record ?l_make_record ?c_make_record ?k_make_record ?a_is_whole ?l_is_whole ?c_is_whole ?k_is_whole ?a_content_of ?l_content_of ?c_content_of ?k_content_of ?a_find ?l_find ?c_find ?k_find ?a_put ?l_put ?c_put ?k_put ?a_node_pointers ?l_node_pointers ?c_node_pointers ?k_node_pointers ?a_way_to ?l_way_to ?c_way_to ?k_way_to ?a_place_below ?l_place_below ?c_place_below ?k_place_below ?a_with_pair ?l_with_pair ?c_with_pair ?k_with_pair ?a_put_nodes ?l_put_nodes ?c_put_nodes ?k_put_nodes ?a_write_node ?l_write_node ?c_write_node ?k_write_node ?a_read_node ?l_read_node ?c_read_node ?k_read_node ?a_pairs_in ?l_pairs_in ?c_pairs_in ?k_pairs_in ?a_read_pair ?l_read_pair ?c_read_pair ?k_read_pair ?a_write_eight ?l_write_eight ?c_write_eight ?k_write_eight ?a_read_eight ?l_read_eight ?c_read_eight ?k_read_eight ?a_make_seal ?l_make_seal ?c_make_seal ?k_make_seal ?a_is_whole_seal ?l_is_whole_seal ?c_is_whole_seal ?k_is_whole_seal ?a_seal_at ?l_seal_at ?c_seal_at ?k_seal_at ?a__law_cell ?l__law_cell ?c__law_cell ?k__law_cell ?a__law_draws ?l__law_draws ?c__law_draws ?k__law_draws ?a__law_contents ?l__law_contents ?c__law_contents ?k__law_contents ?a__law_read_number ?l__law_read_number ?c__law_read_number ?k__law_read_number ?a__law_node ?l__law_node ?c__law_node ?k__law_node ?a__law_node_at ?l__law_node_at ?c__law_node_at ?k__law_node_at ?a__law_told ?l__law_told ?c__law_told ?k__law_told ?a_law ?l_law ?c_law ?k_law ?a_K_Disk ?pg_K_Disk ?hd_K_Disk ?po_K_Disk ?sa_K_Disk ?n_K_Disk__file ?a_Disk___init__ ?i_Disk___init__ ?l_Disk___init__ ?c_Disk___init__ ?k_Disk___init__ ?mk_K_Disk ?kc_K_Disk ?a_Disk___len__ ?i_Disk___len__ ?l_Disk___len__ ?c_Disk___len__ ?k_Disk___len__ ?a_Disk_part ?i_Disk_part ?l_Disk_part ?c_Disk_part ?k_Disk_part ?a_Disk_append ?i_Disk_append ?l_Disk_append ?c_Disk_append ?k_Disk_append ?a_Disk_change ?i_Disk_change ?l_Disk_change ?c_Disk_change ?k_Disk_change ?a_K_Log ?pg_K_Log ?hd_K_Log ?po_K_Log ?sa_K_Log ?n_K_Log_disk ?n_K_Log__waiting ?n_K_Log__sealed ?a_Log___init__ ?i_Log___init__ ?l_Log___init__ ?c_Log___init__ ?k_Log___init__ ?mk_K_Log ?kc_K_Log ?a_Log_batch ?pg_Log_batch ?pt_Log_batch ?pc_Log_batch ?l_Log_batch ?c_Log_batch ?k_Log_batch ?a_Log_put ?i_Log_put ?l_Log_put ?c_Log_put ?k_Log_put ?a_Log_fetch ?i_Log_fetch ?l_Log_fetch ?c_Log_fetch ?k_Log_fetch ?a_Log_seal ?i_Log_seal ?l_Log_seal ?c_Log_seal ?k_Log_seal ?ea_TesseraError ?ega_TesseraError ?egg_TesseraError ?eex_TesseraError ?ehd_TesseraError ?eha_TesseraError ?ehm_TesseraError ?ety_TesseraError ?ea_Unreadable ?ega_Unreadable ?egg_Unreadable ?eex_Unreadable ?ehd_Unreadable ?eha_Unreadable ?ehm_Unreadable ?ety_Unreadable ?ea_Damaged ?ega_Damaged ?egg_Damaged ?eex_Damaged ?ehd_Damaged ?eha_Damaged ?ehm_Damaged ?ety_Damaged ?egn ?egt ?est ?exl_Unreadable ?ebm_Unreadable ?esa_Unreadable ?ekp_Unreadable ?esi_Unreadable ?esv_Unreadable ?ese_Unreadable ?ein_Unreadable ?eit_Unreadable ?eil_Unreadable ?eic_Unreadable ?ecc_Unreadable ?ecd_Unreadable ?eft_Unreadable ?en_index_Unreadable ?exl_Damaged ?ebm_Damaged ?esa_Damaged ?ekp_Damaged ?esi_Damaged ?esv_Damaged ?ese_Damaged ?ein_Damaged ?eit_Damaged ?eil_Damaged ?eic_Damaged ?ecc_Damaged ?ecd_Damaged ?eft_Damaged ?en_address_Damaged ?en_length_Damaged ?es_TesseraError_TesseraError ?es_TesseraError_Unreadable ?es_TesseraError_Damaged ?es_Unreadable_TesseraError ?es_Unreadable_Unreadable ?es_Unreadable_Damaged ?es_Damaged_TesseraError ?es_Damaged_Unreadable ?es_Damaged_Damaged ?z_BASE ?z_BEYOND_TOLD ?z_CHECK_BASE ?z_CHECK_MODULUS ?z_FIRST_BYTE ?z_FIRST_OF_TWO ?z_HIGHEST_BYTE ?z_INNER ?z_LAST_BYTE ?z_LEAF ?z_MOST_PAIRS ?z_NOWHERE ?l_NOWHERE ?z_NUMBER_BASE ?z_NUMBER_LENGTH ?z_SEAL_LENGTH ?z_SHORTEST_RECORD ?z_abs ?z_int ?z_isinstance ?z_len ?z_list ?z_max ?z_range ?z_reversed ?z_sorted ?z_str ?z_sum ?z_super ?z_tuple
    (case a_told => k_is); (case l_told => k_is); (case c_told => k_is); (case k_told => k_is); (case a_write_number => k_is); (case l_write_number => k_is); (case c_write_number => k_is); (case k_write_number => k_is); (case a_write_integer => k_is); (case l_write_integer => k_is); (case c_write_integer => k_is); (case k_write_integer => k_is); (case a_write_integers => k_is); (case l_write_integers => k_is); (case c_write_integers => k_is); (case k_write_integers => k_is); (case a_read_number => k_is); (case l_read_number => k_is); (case c_read_number => k_is); (case k_read_number => k_is); (case a_read_integer => k_is); (case l_read_integer => k_is); (case c_read_integer => k_is); (case k_read_integer => k_is); (case a_read_list => k_is); (case l_read_list => k_is); (case c_read_list => k_is); (case k_read_list => k_is); (case a_read_integers => k_is); (case l_read_integers => k_is); (case c_read_integers => k_is); (case k_read_integers => k_is); (case a_check_of => k_is); (case l_check_of => k_is); (case c_check_of => k_is); (case k_check_of => k_is); (case a_make_record => k_is); (case l_make_record => k_is); (case c_make_record => k_is); (case k_make_record => k_is); (case a_is_whole => k_is); (case l_is_whole => k_is); (case c_is_whole => k_is); (case k_is_whole => k_is); (case a_content_of => k_is); (case l_content_of => k_is); (case c_content_of => k_is); (case k_content_of => k_is); (case a_find => k_is); (case l_find => k_is); (case c_find => k_is); (case k_find => k_is); (case a_put => k_is); (case l_put => k_is); (case c_put => k_is); (case k_put => k_is); (case a_node_pointers => k_is); (case l_node_pointers => k_is); (case c_node_pointers => k_is); (case k_node_pointers => k_is); (case a_way_to => k_is); (case l_way_to => k_is); (case c_way_to => k_is); (case k_way_to => k_is); (case a_place_below => k_is); (case l_place_below => k_is); (case c_place_below => k_is); (case k_place_below => k_is); (case a_with_pair => k_is); (case l_with_pair => k_is); (case c_with_pair => k_is); (case k_with_pair => k_is); (case a_put_nodes => k_is); (case l_put_nodes => k_is); (case c_put_nodes => k_is); (case k_put_nodes => k_is); (case a_write_node => k_is); (case l_write_node => k_is); (case c_write_node => k_is); (case k_write_node => k_is); (case a_read_node => k_is); (case l_read_node => k_is); (case c_read_node => k_is); (case k_read_node => k_is); (case a_pairs_in => k_is); (case l_pairs_in => k_is); (case c_pairs_in => k_is); (case k_pairs_in => k_is); (case a_read_pair => k_is); (case l_read_pair => k_is); (case c_read_pair => k_is); (case k_read_pair => k_is); (case a_write_eight => k_is); (case l_write_eight => k_is); (case c_write_eight => k_is); (case k_write_eight => k_is); (case a_read_eight => k_is); (case l_read_eight => k_is); (case c_read_eight => k_is); (case k_read_eight => k_is); (case a_make_seal => k_is); (case l_make_seal => k_is); (case c_make_seal => k_is); (case k_make_seal => k_is); (case a_is_whole_seal => k_is); (case l_is_whole_seal => k_is); (case c_is_whole_seal => k_is); (case k_is_whole_seal => k_is); (case a_seal_at => k_is); (case l_seal_at => k_is); (case c_seal_at => k_is); (case k_seal_at => k_is); (case a__law_cell => k_is); (case l__law_cell => k_is); (case c__law_cell => k_is); (case k__law_cell => k_is); (case a__law_draws => k_is); (case l__law_draws => k_is); (case c__law_draws => k_is); (case k__law_draws => k_is); (case a__law_contents => k_is); (case l__law_contents => k_is); (case c__law_contents => k_is); (case k__law_contents => k_is); (case a__law_read_number => k_is); (case l__law_read_number => k_is); (case c__law_read_number => k_is); (case k__law_read_number => k_is); (case a__law_node => k_is); (case l__law_node => k_is); (case c__law_node => k_is); (case k__law_node => k_is); (case a__law_node_at => k_is); (case l__law_node_at => k_is); (case c__law_node_at => k_is); (case k__law_node_at => k_is); (case a__law_told => k_is); (case l__law_told => k_is); (case c__law_told => k_is); (case k__law_told => k_is); (case a_law => k_is); (case l_law => k_is); (case c_law => k_is); (case k_law => k_is); (case a_K_Disk => k_is); (case pg_K_Disk => k_is); (case hd_K_Disk => k_is); (case po_K_Disk => k_is); (case sa_K_Disk => k_is); (case n_K_Disk__file => k_is); (case a_Disk___init__ => k_is); (case i_Disk___init__ => k_is); (case l_Disk___init__ => k_is); (case c_Disk___init__ => k_is); (case k_Disk___init__ => k_is); (case mk_K_Disk => k_is); (case kc_K_Disk => k_is); (case a_Disk___len__ => k_is); (case i_Disk___len__ => k_is); (case l_Disk___len__ => k_is); (case c_Disk___len__ => k_is); (case k_Disk___len__ => k_is); (case a_Disk_part => k_is); (case i_Disk_part => k_is); (case l_Disk_part => k_is); (case c_Disk_part => k_is); (case k_Disk_part => k_is); (case a_Disk_append => k_is); (case i_Disk_append => k_is); (case l_Disk_append => k_is); (case c_Disk_append => k_is); (case k_Disk_append => k_is); (case a_Disk_change => k_is); (case i_Disk_change => k_is); (case l_Disk_change => k_is); (case c_Disk_change => k_is); (case k_Disk_change => k_is); (case a_K_Log => k_is); (case pg_K_Log => k_is); (case hd_K_Log => k_is); (case po_K_Log => k_is); (case sa_K_Log => k_is); (case n_K_Log_disk => k_is); (case n_K_Log__waiting => k_is); (case n_K_Log__sealed => k_is); (case a_Log___init__ => k_is); (case i_Log___init__ => k_is); (case l_Log___init__ => k_is); (case c_Log___init__ => k_is); (case k_Log___init__ => k_is); (case mk_K_Log => k_is); (case kc_K_Log => k_is); (case a_Log_batch => k_is); (case pg_Log_batch => k_is); (case pt_Log_batch => k_is); (case pc_Log_batch => k_is); (case l_Log_batch => k_is); (case c_Log_batch => k_is); (case k_Log_batch => k_is); (case a_Log_put => k_is); (case i_Log_put => k_is); (case l_Log_put => k_is); (case c_Log_put => k_is); (case k_Log_put => k_is); (case a_Log_fetch => k_is); (case i_Log_fetch => k_is); (case l_Log_fetch => k_is); (case c_Log_fetch => k_is); (case k_Log_fetch => k_is); (case a_Log_seal => k_is); (case i_Log_seal => k_is); (case l_Log_seal => k_is); (case c_Log_seal => k_is); (case k_Log_seal => k_is); (case ea_TesseraError => k_is); (case ega_TesseraError => k_is); (case egg_TesseraError => k_is); (case eex_TesseraError => k_is); (case ehd_TesseraError => k_is); (case eha_TesseraError => k_is); (case ehm_TesseraError => k_is); (case ety_TesseraError => k_is); (case ea_Unreadable => k_is); (case ega_Unreadable => k_is); (case egg_Unreadable => k_is); (case eex_Unreadable => k_is); (case ehd_Unreadable => k_is); (case eha_Unreadable => k_is); (case ehm_Unreadable => k_is); (case ety_Unreadable => k_is); (case ea_Damaged => k_is); (case ega_Damaged => k_is); (case egg_Damaged => k_is); (case eex_Damaged => k_is); (case ehd_Damaged => k_is); (case eha_Damaged => k_is); (case ehm_Damaged => k_is); (case ety_Damaged => k_is); (case egn => k_is); (case egt => k_is); (case est => k_is); (case exl_Unreadable => k_is); (case ebm_Unreadable => decide +kernel); (case esa_Unreadable => k_is); (case ekp_Unreadable => k_is); (case esi_Unreadable => ks_is); (case esv_Unreadable => k_is); (case ese_Unreadable => k_is); (case ein_Unreadable => k_is); (case eit_Unreadable => k_is); (case eil_Unreadable => k_is); (case eic_Unreadable => k_is); (case ecc_Unreadable => k_is); (case ecd_Unreadable => k_is); (case eft_Unreadable => rfl); (case en_index_Unreadable => k_is); (case exl_Damaged => k_is); (case ebm_Damaged => decide +kernel); (case esa_Damaged => k_is); (case ekp_Damaged => k_is); (case esi_Damaged => ks_is); (case esv_Damaged => k_is); (case ese_Damaged => k_is); (case ein_Damaged => k_is); (case eit_Damaged => k_is); (case eil_Damaged => k_is); (case eic_Damaged => k_is); (case ecc_Damaged => k_is); (case ecd_Damaged => k_is); (case eft_Damaged => rfl); (case en_address_Damaged => k_is); (case en_length_Damaged => k_is); (case es_TesseraError_TesseraError => k_is); (case es_TesseraError_Unreadable => k_is); (case es_TesseraError_Damaged => k_is); (case es_Unreadable_TesseraError => k_is); (case es_Unreadable_Unreadable => k_is); (case es_Unreadable_Damaged => k_is); (case es_Damaged_TesseraError => k_is); (case es_Damaged_Unreadable => k_is); (case es_Damaged_Damaged => k_is); (case z_BASE => k_is); (case z_BEYOND_TOLD => k_is); (case z_CHECK_BASE => k_is); (case z_CHECK_MODULUS => k_is); (case z_FIRST_BYTE => k_is); (case z_FIRST_OF_TWO => k_is); (case z_HIGHEST_BYTE => k_is); (case z_INNER => k_is); (case z_LAST_BYTE => k_is); (case z_LEAF => k_is); (case z_MOST_PAIRS => k_is); (case z_NOWHERE => k_is); (case l_NOWHERE => k_is); (case z_NUMBER_BASE => k_is); (case z_NUMBER_LENGTH => k_is); (case z_SEAL_LENGTH => k_is); (case z_SHORTEST_RECORD => k_is); (case z_abs => k_is); (case z_int => k_is); (case z_isinstance => k_is); (case z_len => k_is); (case z_list => k_is); (case z_max => k_is); (case z_range => k_is); (case z_reversed => k_is); (case z_sorted => k_is); (case z_str => k_is); (case z_sum => k_is); (case z_super => k_is); (case z_tuple => k_is)


