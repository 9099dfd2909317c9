import PyProof.Rows.All
import Wide.All
import OpenK.AllK
import Wide.FinOn
import HandS.ForMost
import HandS.IsInst
import HandS.Evl
import HandS.Style
import HandS.Zip
import KE.GoesZip
import HandS.TupMul
import HandS.TupAny
import HandS.EndBits
import HandS.Rev
import HandS.Dict
import HandS.More
import HandS.Lambda
import HandS.SortKw
import HandS.EndTab
import KE.KSortKeyAny
import KE.SortKeyHeap
import KE.RegKIsAll
import HandS.ForExc
import HandS.ExcInit
import HandS.NestedK
import HandS.FStr
import KE.KExcSuper
import KE.RegKSuper
import HandS.ExcInitHot
import HandS.RaiseFrom
import HandS.TryMany
import HandS.SuiteRaise
import HandS.ExcIs
import HandS.ExcField
import KE.KExcIs
import HandS.NestedHot
import HandS.CallLocal
import HandS.StrMore
import HandS.Text
import PyProof.StrLawsLast
import PyProof.StrLawsTight
import PyProof.MeetsStr3
import PySem.Challenge.RW_tessera_k56_objects_written
set_option Elab.async false
set_option linter.all false
set_option maxRecDepth 100000
set_option maxHeartbeats 4000000
/-! Readings stepped forward over an abstract heap that a list of owned objects describes. -/
namespace RD
open PySem PySem.Spec PyProof.Rows L2

/-! ### the heap: H extends H0; the objects of L are new since H0 and stand apart -/
structure Own (H0 H : Hp) (L : List (Addr × HO)) : Prop where
  ex : Same H0 H
  fr : ∀ x ∈ L, H0 x.1 = none ∧ H x.1 = some x.2
  nd : (L.map (·.1)).Nodup
theorem Own.nil (H : Hp) : Own H H [] := ⟨Same.refl H, fun _ h => absurd h (by simp), List.nodup_nil⟩
theorem same_new {H : Hp} {p : Addr} {u : HO} (h : H p = none) : Same H (upd H p u) := fun b x e => by
  rw [upd_ne (ne_of_none e h)]
  exact e
section
variable {H0 H H' : Hp} {L : List (Addr × HO)} {p l : Addr} {u v : HO} {K : PySem.W.Frag}
theorem Own.mono (o : Own H0 H L) (e : Same H H') : Own H0 H' L := ⟨o.ex.trans e, fun x hx => ⟨(o.fr x hx).1, e _ _ (o.fr x hx).2⟩, o.nd⟩
theorem Own.add (o : Own H0 H L) (e : Same H H') (hp : H p = none) (hv : H' p = some u) : Own H0 H' ((p, u) :: L) := by
  refine ⟨o.ex.trans e, fun x hx => ?_, ?_⟩
  · rcases List.mem_cons.mp hx with rfl | hx
    · exact ⟨o.ex.free hp, hv⟩
    · exact ⟨(o.fr x hx).1, e _ _ (o.fr x hx).2⟩
  · rw [List.map_cons, List.nodup_cons]
    refine ⟨fun hm => ?_, o.nd⟩
    obtain ⟨x, hx, e1⟩ := List.mem_map.mp hm
    have := (o.fr x hx).2
    rw [e1] at this
    show False
    rw [hp] at this
    cases this
theorem Own.new (o : Own H0 H L) (hp : H p = none) : Own H0 (upd H p u) ((p, u) :: L) := o.add (same_new hp) hp upd_same
theorem Own.at (o : Own H0 H L) (i : Nat) (h : L[i]? = some (l, u)) : H l = some u := (o.fr _ (List.mem_of_getElem? h)).2
theorem Own.fresh (o : Own H0 H L) (i : Nat) (h : L[i]? = some (l, u)) : H0 l = none := (o.fr _ (List.mem_of_getElem? h)).1
theorem map_set_fst {α β : Type} : ∀ {L : List (α × β)} {i : Nat} {l : α} {u v : β}, L[i]? = some (l, u) → (L.set i (l, v)).map (·.1) = L.map (·.1)
  | [], _, _, _, _, h => by simp at h
  | x :: L, 0, l, u, v, h => by
    have e : x = (l, u) := Option.some.inj h
    subst e
    rfl
  | x :: L, i + 1, l, u, v, h => by
    show x.1 :: (L.set i (l, v)).map (·.1) = x.1 :: L.map (·.1)
    rw [map_set_fst (L := L) (i := i) (l := l) (u := u) (v := v) h]
theorem nodup_fst {α β : Type} : ∀ {L : List (α × β)} {i j : Nat} {l : α} {u v : β}, (L.map (·.1)).Nodup → L[i]? = some (l, u) → L[j]? = some (l, v) → i = j
  | L, i, j, l, u, v, hN, hi, hj => by
    refine nd_ix (l := L.map (·.1)) hN (x := l) ?_ ?_
    · rw [List.getElem?_map, hi]; rfl
    · rw [List.getElem?_map, hj]; rfl
/-- the object at l is changed; nothing else -/
theorem Own.chg (o : Own H0 H L) (i : Nat) (h : L[i]? = some (l, u)) (e : ∀ b x, b ≠ l → H b = some x → H' b = some x) (hv : H' l = some v) : Own H0 H' (L.set i (l, v)) := by
  refine ⟨fun b x hb => ?_, fun x hx => ?_, ?_⟩
  · exact e b x (ne_of_none hb (o.fresh i h)) (o.ex b x hb)
  · obtain ⟨j, hj⟩ := List.mem_iff_getElem?.mp hx
    by_cases hij : i = j
    · subst hij
      have hlt : i < L.length := (List.getElem?_eq_some_iff.mp h).1
      rw [List.getElem?_set_self hlt] at hj
      cases hj
      exact ⟨o.fresh i h, hv⟩
    · rw [List.getElem?_set_ne hij] at hj
      have hm := List.mem_of_getElem? hj
      have hne : x.1 ≠ l := fun z => hij (by
        have : L[j]? = some (l, x.2) := by rw [hj, ← z]
        exact nodup_fst o.nd h this)
      exact ⟨(o.fr x hm).1, e _ _ hne (o.fr x hm).2⟩
  · rw [map_set_fst h]
    exact o.nd
theorem Own.set (o : Own H0 H L) (i : Nat) (h : L[i]? = some (l, u)) : Own H0 (upd H l v) (L.set i (l, v)) :=
  o.chg i h (fun b x hb e => by rw [upd_ne hb]; exact e) upd_same
theorem Own.sub {L' : List (Addr × HO)} (o : Own H0 H L) (h : L'.Sublist L) : Own H0 H L' :=
  ⟨o.ex, fun x hx => o.fr x (h.subset hx), List.Sublist.nodup (h.map _) o.nd⟩
theorem Own.tl {x : Addr × HO} (o : Own H0 H (x :: L)) : Own H0 H L := o.sub (List.sublist_cons_self x L)
theorem Own.ne (o : Own H0 H L) {q : Addr} {i j : Nat} (hi : L[i]? = some (l, u)) (hj : L[j]? = some (q, v)) (h : i ≠ j) : l ≠ q := fun e => by
  subst e
  exact h (nodup_fst o.nd hi hj)
theorem Own.sqL (o : Own H0 H L) {xs : List V} (i : Nat) (h : L[i]? = some (l, .lst xs)) : SqL K H l xs := .inl (.inl (o.at i h))
theorem Own.sqT (o : Own H0 H L) {xs : List V} (i : Nat) (h : L[i]? = some (l, .tup xs)) : SqT K H l xs := .inl (.inl (o.at i h))
theorem Own.old (o : Own H0 H L) {xs : List V} (h : SqL K H0 l xs) : SqL K H l xs := o.ex.seq h
theorem same_seqT {xs : List V} (e : Same H H') (h : SqT K H l xs) : SqT K H' l xs := by
  rcases h with (h | ⟨o, h⟩) | h
  · exact .inl (.inl (e _ _ h))
  · exact .inl (.inr ⟨o, e _ _ h⟩)
  · exact .inr h
theorem Own.oldT (o : Own H0 H L) {xs : List V} (h : SqT K H0 l xs) : SqT K H l xs := same_seqT o.ex h
/-- start a new frame of ownership at H, giving up L -/
theorem Own.trans {H1 : Hp} {L1 : List (Addr × HO)} (o : Own H0 H L) (o1 : Own H H1 L1) : Own H0 H1 (L1 ++ L) := by
  refine ⟨o.ex.trans o1.ex, fun x hx => ?_, ?_⟩
  · rcases List.mem_append.mp hx with h | h
    · exact ⟨o.ex.free (o1.fr x h).1, (o1.fr x h).2⟩
    · exact ⟨(o.fr x h).1, o1.ex _ _ (o.fr x h).2⟩
  · rw [List.map_append, List.nodup_append]
    refine ⟨o1.nd, o.nd, fun a ha b hb e => ?_⟩
    subst e
    obtain ⟨x, hx, rfl⟩ := List.mem_map.mp ha
    obtain ⟨y, hy, e⟩ := List.mem_map.mp hb
    have h1 := (o1.fr x hx).1
    have h2 := (o.fr y hy).2
    rw [e, h1] at h2
    cases h2
end

/-! ### what an answer is -/
/-- a value that is no new object -/
def RetV (H : Hp) (Q : VK) (v : V) : Prop := ∀ H', Same H H' → Q v H'
/-- a new object -/
def RetO (H : Hp) (Q : VK) (u : HO) : Prop := ∀ H' p, Same H H' → H p = none → H' p = some u → Q (.ref p) H'
theorem RetO.mk {H0 H : Hp} {Q : VK} {u : HO} {L : List (Addr × HO)} {p : Addr} (q : RetO H0 Q u) (o : Own H0 H L) (i : Nat) (h : L[i]? = some (p, u)) : Q (.ref p) H := q H p o.ex (o.fresh i h) (o.at i h)
theorem RetV.mk {H0 H : Hp} {Q : VK} {v : V} {L : List (Addr × HO)} (q : RetV H0 Q v) (o : Own H0 H L) : Q v H := q H o.ex

/-! ### readings -/
def RBl (x : V) (H : Hp) (Q : Bool → Hp → Prop) : Prop := ∃ k, x = .bl k ∧ Q k H
def RPt (x : V) (H : Hp) (R : Option Int → Hp → Prop) : Prop := ∃ i, x = .int i ∧ R (some i) H
def RIf (c : Bool) (A B : Prop) : Prop := if c = true then A else B
def RNewL (xs : List V) (H : Hp) (Q : VK) : Prop := xs.length ≤ sizeLine ∧ ∀ p, H p = none → Q (.ref p) (upd H p (.lst xs))
def RNewT (xs : List V) (H : Hp) (Q : VK) : Prop := xs.length ≤ sizeLine ∧ ∀ p, H p = none → Q (.ref p) (upd H p (.tup xs))
section
variable {σ : L2.St} {H H0 : Hp} {Q : VK} {v x y : V} {ta tb te : TE} {t u : TT} {r : R2} {i j : Int} {D : Ends} {ts tz : TS} {g : TG} {K : PySem.W.Frag} {L : List (Addr × HO)}
theorem r_var {n : Nat} (h : σ[n]? = some (some v)) (q : Q v H) : tVar n σ H Q := ⟨v, h, q⟩
theorem r_c (q : Q v H) : tC v σ H Q := q
theorem r_op (q : ta σ H fun x H1 => tb σ H1 fun y H2 => r x y H2 Q) : tOp r ta tb σ H Q := q
theorem r_I0 {f : Int → Int → V} (q : Q (f i j) H) : rI0 f (.int i) (.int j) H Q := ⟨i, j, rfl, rfl, q⟩
theorem r_I {C : Int → Int → Prop} {f : Int → Int → V} (c : C i j) (q : Q (f i j) H) : rI C f (.int i) (.int j) H Q := ⟨i, j, rfl, rfl, c, q⟩
theorem r_un {f : V → Hp → VK → Prop} (q : ta σ H fun x H1 => f x H1 Q) : tUn f ta σ H Q := q
theorem r_U {f : Int → V} (q : Q (f i) H) : rU f (.int i) H Q := ⟨i, rfl, q⟩
theorem r_eqI (q : Q (.bl (decide (i = j))) H) : rEq (.int i) (.int j) H Q := ⟨rfl, by
  have e : decide ((V.int i) = .int j) = decide (i = j) := by simp
  rw [e]; exact q⟩
theorem r_neI (q : Q (.bl (!decide (i = j))) H) : rNe (.int i) (.int j) H Q := ⟨rfl, by
  have e : decide ((V.int i) = .int j) = decide (i = j) := by simp
  rw [e]; exact q⟩
theorem r_eqS {a b : Str} (q : Q (.bl (decide (a = b))) H) : rEq (.str a) (.str b) H Q := ⟨rfl, by
  have e : decide ((V.str a) = .str b) = decide (a = b) := by simp
  rw [e]; exact q⟩
theorem r_neS {a b : Str} (q : Q (.bl (!decide (a = b))) H) : rNe (.str a) (.str b) H Q := ⟨rfl, by
  have e : decide ((V.str a) = .str b) = decide (a = b) := by simp
  rw [e]; exact q⟩
theorem r_test {Q : Bool → Hp → Prop} (q : ta σ H fun x H' => RBl x H' Q) : tTest ta σ H Q := q
theorem r_tB {Q : Bool → Hp → Prop} (q : ta σ H fun x H' => RBl x H' Q) : tB ta σ H Q := q
theorem r_bl {Q : Bool → Hp → Prop} {b : Bool} (q : Q b H) : RBl (.bl b) H Q := ⟨b, rfl, q⟩
theorem r_and {Q : Bool → Hp → Prop} (q : t σ H fun c H1 => RIf c (u σ H1 Q) (Q false H1)) : tAnd t u σ H Q := q
theorem r_or {Q : Bool → Hp → Prop} (q : t σ H fun c H1 => RIf c (Q true H1) (u σ H1 Q)) : tOr t u σ H Q := q
theorem r_not {Q : Bool → Hp → Prop} (q : t σ H fun c H1 => Q (!c) H1) : tNot t σ H Q := q
theorem r_andV (q : ta σ H fun x H1 => RBl x H1 fun c H1 => RIf c (tb σ H1 Q) (Q (.bl false) H1)) : tAndV ta tb σ H Q := q
theorem r_orV (q : ta σ H fun x H1 => RBl x H1 fun c H1 => RIf c (Q (.bl true) H1) (tb σ H1 Q)) : tOrV ta tb σ H Q := q
theorem r_notV (q : ta σ H fun x H1 => RBl x H1 fun c H1 => Q (.bl (!c)) H1) : tNotV ta σ H Q := q
theorem r_ifE (q : t σ H fun c H1 => RIf c (ta σ H1 Q) (tb σ H1 Q)) : tIf t ta tb σ H Q := q
theorem r_seq (q : ts { D with nx := tz D } σ H) : tSeq ts tz D σ H := q
theorem r_asg (q : te σ H fun x H1 => g x σ H1 D.nx) : tAsg te g D σ H := q
theorem r_name {n : Nat} {R : L2.St → Hp → Prop} (q : R (σ.set n (some v)) H) : gName n v σ H R := q
theorem r_ifS (q : t σ H fun b H1 => RIf b (ts D σ H1) (tz D σ H1)) : tIfS t ts tz D σ H := q
theorem r_ret (q : te σ H D.rt) : tRet te D σ H := q
theorem r_retN (q : D.rt .non H) : tRetN D σ H := q
theorem r_drop (q : te σ H fun _ H1 => D.nx σ H1) : tDrop te D σ H := q
theorem r_next (q : D.nx σ H) : tNext D σ H := q
theorem r_break (q : D.bk σ H) : tBreak D σ H := q
theorem r_cont (q : D.ct σ H) : tCont D σ H := q
theorem r_nil {R : List V → Hp → Prop} (q : R [] H) : tNil σ H R := q
theorem r_cons {tr : TA} {R : List V → Hp → Prop} (q : te σ H fun x H1 => tr σ H1 fun xs H2 => R (x :: xs) H2) : tCons te tr σ H R := q
theorem r_tup {tr : TA} (q : tr σ H fun xs H1 => RNewT xs H1 Q) : tTup tr σ H Q := q
theorem r_lst {tr : TA} (q : tr σ H fun xs H1 => RNewL xs H1 Q) : tLst tr σ H Q := q
theorem r_CB {f : List V → Hp → VK → Prop} {tr : TA} (q : tr σ H fun vs H1 => f vs H1 Q) : tCB f tr σ H Q := q
theorem r_call {sp : Sp} {E : XK} {tr : TA} (q : tr σ H fun vs H1 => sp (vs ++ []) H1 Q E) : tCall sp [] E tr σ H Q := q
theorem r_sl {f : V → Option Int → Option Int → Hp → VK → Prop} {tl th : TO} (q : te σ H fun x H1 => tl σ H1 fun l H2 => th σ H2 fun u H3 => f x l u H3 Q) : tSl f te tl th σ H Q := q
theorem r_par {i j : Nat} {ta : TA} {D : Ends} (q : ta σ H fun vs H1 => ∃ v w, vs = [v, w] ∧ D.nx ((σ.set i (some v)).set j (some w)) H1) : tPar i j ta D σ H := q
theorem r_nopart {R : Option Int → Hp → Prop} (q : R none H) : tNoPart σ H R := q
theorem r_part {R : Option Int → Hp → Prop} (q : te σ H fun x H1 => RPt x H1 R) : tPart te σ H R := q
theorem r_pt {R : Option Int → Hp → Prop} (q : R (some i) H) : RPt (.int i) H R := ⟨i, rfl, q⟩
theorem r_aug {n : Nat} {ti : TIp} (h : σ[n]? = some (some x)) (q : te σ H fun y H1 => ti x y H1 fun z H2 => D.nx (σ.set n (some z)) H2) : tAug n te ti D σ H := ⟨x, h, q⟩
theorem r_ipI {f : Int → Int → Int} (q : Q (.int (f i j)) H) : ipI f (.int i) (.int j) H Q := ⟨i, j, rfl, rfl, q⟩
theorem r_set {to ti : TE} {s : TSet} {R : L2.St → Hp → Prop} (q : to σ H fun o H1 => ti σ H1 fun i H2 => s o i v H2 fun H3 => R σ H3) : gSub to ti s v σ H R := q

/-! ### branches -/
theorem rif {p : Prop} [Decidable p] {A B : Prop} (h1 : p → A) (h2 : ¬ p → B) : RIf (decide p) A B := by
  unfold RIf
  by_cases h : p
  · rw [if_pos (decide_eq_true h)]; exact h1 h
  · rw [if_neg (by simpa using h)]; exact h2 h
theorem rif_n {p : Prop} [Decidable p] {A B : Prop} (h1 : ¬ p → A) (h2 : p → B) : RIf (!decide p) A B := by
  unfold RIf
  by_cases h : p
  · rw [if_neg (by simpa using h)]; exact h2 h
  · rw [if_pos (by simpa using h)]; exact h1 h
theorem rif_t {A B : Prop} (h : A) : RIf true A B := by unfold RIf; rw [if_pos rfl]; exact h
theorem rif_f {A B : Prop} (h : B) : RIf false A B := by unfold RIf; rw [if_neg Bool.false_ne_true]; exact h
theorem rif_nt {A B : Prop} (h : B) : RIf (!true) A B := rif_f h
theorem rif_nf {A B : Prop} (h : A) : RIf (!false) A B := rif_t h
theorem rif_yes {p : Prop} [Decidable p] {A B : Prop} (hp : p) (h1 : A) : RIf (decide p) A B := rif (fun _ => h1) fun h => absurd hp h
theorem rif_no {p : Prop} [Decidable p] {A B : Prop} (hp : ¬ p) (h1 : B) : RIf (decide p) A B := rif (fun h => absurd h hp) fun _ => h1
theorem rif_nyes {p : Prop} [Decidable p] {A B : Prop} (hp : p) (h1 : B) : RIf (!decide p) A B := rif_n (fun h => absurd hp h) fun _ => h1
theorem rif_nno {p : Prop} [Decidable p] {A B : Prop} (hp : ¬ p) (h1 : A) : RIf (!decide p) A B := rif_n (fun _ => h1) fun h => absurd h hp
theorem rif_b {b : Bool} {A B : Prop} (h1 : b = true → A) (h2 : b = false → B) : RIf b A B := by
  cases b
  · exact rif_f (h2 rfl)
  · exact rif_t (h1 rfl)

/-! ### new objects -/
theorem sz100 {n : Nat} (h : n ≤ 10000000) : n ≤ sizeLine := Nat.le_trans h (by decide)
theorem sz_lt {n : Nat} (h : n < 10000000) : n < sizeLine := Nat.lt_of_lt_of_le h (by decide)
theorem r_newL {xs : List V} (o : Own H0 H L) (hz : xs.length ≤ 10000000) (k : ∀ p H', Own H0 H' ((p, .lst xs) :: L) → Q (.ref p) H') : RNewL xs H Q := ⟨sz100 hz, fun p hp => k p _ (o.new hp)⟩
theorem r_newT {xs : List V} (o : Own H0 H L) (hz : xs.length ≤ 10000000) (k : ∀ p H', Own H0 H' ((p, .tup xs) :: L) → Q (.ref p) H') : RNewT xs H Q := ⟨sz100 hz, fun p hp => k p _ (o.new hp)⟩

/-! ### lists -/
theorem r_ixL {p : Addr} {xs : List V} (h : SqL K H p xs) (ha : atI xs i = some v) (q : Q v H) : rIxL K (.ref p) (.int i) H Q := ⟨p, xs, i, v, rfl, rfl, h, ha, q⟩
theorem r_ixT {p : Addr} {xs : List V} (h : SqT K H p xs) (ha : atI xs i = some v) (q : Q v H) : rIxT K (.ref p) (.int i) H Q := ⟨p, xs, i, v, rfl, rfl, h, ha, q⟩
theorem r_slL {a : Addr} {xs : List V} {lo hi : Option Int} (o : Own H0 H L) (h : SqL K H a xs) (k : ∀ p H', Own H0 H' ((p, .lst (cutV xs lo hi)) :: L) → Q (.ref p) H') : rSlL K (.ref a) lo hi H Q := ⟨a, xs, rfl, h, fun p hp => k p _ (o.new hp)⟩
theorem r_cat {a b : Addr} {xs ys : List V} (o : Own H0 H L) (ha : H a = some (.lst xs)) (hb : H b = some (.lst ys)) (hz : xs.length + ys.length ≤ 10000000) (k : ∀ p H', Own H0 H' ((p, .lst (xs ++ ys)) :: L) → Q (.ref p) H') : rCat (.ref a) (.ref b) H Q :=
  ⟨a, b, xs, ys, rfl, rfl, ha, hb, sz100 hz, fun p hp => k p _ (o.new hp)⟩
theorem r_app {l : Addr} {xs : List V} (o : Own H0 H L) (n : Nat) (h : L[n]? = some (l, .lst xs)) (hz : xs.length < 10000000) (k : ∀ H', Own H0 H' (L.set n (l, .lst (xs ++ [y]))) → Q .non H') : rAppend (.ref l) [y] H Q :=
  ⟨l, xs, y, rfl, rfl, o.at n h, sz_lt hz, k _ (o.set n h)⟩
/-- l.append(e) as a statement's expression: the receiver's slot, the argument -/
theorem r_bm {T : String} {f : V → List V → Hp → VK → Prop} {tr : TA} {n : Nat} {l : Addr} (h : σ[n]? = some (some (.ref l))) (ht : tyV K T (.ref l) H) (q : tr σ H fun vs H2 => f (.ref l) vs H2 Q) : tBM K T f (tVar n) tr σ H Q := ⟨_, h, ht, q⟩
theorem ty_lst {l : Addr} {xs : List V} (h : H l = some (.lst xs)) : tyV K "list" (.ref l) H := .inl ⟨rfl, _, SqL.of h⟩
theorem r_setL {l : Addr} {xs : List V} {k : Nat} {R : Hp → Prop} (o : Own H0 H L) (n : Nat) (h : L[n]? = some (l, .lst xs)) (hj : ixN xs.length i = some k) (q : ∀ H', Own H0 H' (L.set n (l, .lst (xs.set k v))) → R H') : rSetL (.ref l) (.int i) v H R :=
  ⟨l, xs, i, k, rfl, rfl, o.at n h, hj, q _ (o.set n h)⟩
end

/-! ### isinstance, sums, == of lists -/
section
variable {σ : L2.St} {H H0 : Hp} {Q : VK} {v x y : V} {i j : Int} {K : PySem.W.Frag} {L : List (Addr × HO)}
theorem r_isi {T S : String} {b : Bool} (ht : TyX K H x (.type T)) (hk : kitB T S = some b) (q : Q (.bl b) H) : rIsi K [x, .ty S] H Q := ⟨x, .ty S, .type T, .type S, b, rfl, .ty S, ht, kit_ty hk, q⟩
theorem ty_int {i : Int} : TyX K H (.int i) (.type "int") := .base (.int i)
theorem ty_str {z : Str} : TyX K H (.str z) (.type "str") := .base (.str z)
theorem ty_non : TyX K H .non (.type "NoneType") := .base .non
theorem ty_list {l : Addr} {xs : List V} (h : H l = some (.lst xs)) : TyX K H (.ref l) (.type "list") := .base (.lst h)
theorem ty_tup {l : Addr} {xs : List V} (h : H l = some (.tup xs)) : TyX K H (.ref l) (.type "tuple") := .base (.tup h)
theorem r_sum {a : Addr} {ns : List Int} (h : SqL K H a (ns.map V.int)) (q : Q (.int ns.sum) H) : rSum K [.ref a] H Q := ⟨a, ns, rfl, h, q⟩
theorem dpAll_ints : ∀ ns : List Int, DpAll K H (ns.map V.int) (ns.map PyData.int)
  | [] => .nil
  | n :: ns => .cons (.int n) (dpAll_ints ns)
theorem dp_ints {a : Addr} {ns : List Int} (h : SqL K H a (ns.map V.int)) : Dp K H (.ref a) (.list (ns.map PyData.int)) := .lst h (dpAll_ints ns)
theorem dp_intsT {a : Addr} {ns : List Int} (h : SqT K H a (ns.map V.int)) : Dp K H (.ref a) (.tuple (ns.map PyData.int)) := .tup h (dpAll_ints ns)
end
/-! ### items -/
/-- the i-th of a list of ints -/
def gi (ns : List Int) (i : Int) : Int := ns.getD i.toNat 0
theorem at_map {α : Type} {f : α → V} {ns : List α} {i : Int} {x : α} (h0 : 0 ≤ i) (h : ns[i.toNat]? = some x) : atI (ns.map f) i = some (f x) := by
  obtain ⟨n, rfl⟩ := Int.eq_ofNat_of_zero_le h0
  refine atI_nat ?_
  have e : (Int.toNat (n : Int)) = n := rfl
  rw [e] at h
  rw [List.getElem?_map, h]
  rfl
theorem at_ints {ns : List Int} {i : Int} (h0 : 0 ≤ i) (h1 : i < ns.length) : atI (ns.map V.int) i = some (.int (gi ns i)) := by
  refine at_map h0 ?_
  unfold gi
  have : i.toNat < ns.length := by omega
  rw [List.getD_eq_getElem?_getD, List.getElem?_eq_getElem this]
  rfl
theorem gi_mem {ns : List Int} {i : Int} (h0 : 0 ≤ i) (h1 : i < ns.length) : gi ns i ∈ ns := by
  unfold gi
  have h2 : i.toNat < ns.length := by omega
  rw [List.getD_eq_getElem?_getD, List.getElem?_eq_getElem h2]
  exact List.getElem_mem h2

/-! ### equal lists of ints -/
theorem canLay_ints : ∀ ns : List Int, PyData.canLayAll0 (ns.map PyData.int) = true
  | [] => rfl
  | n :: ns => by
    show (PyData.canLay0 (.int n) && PyData.canLayAll0 (ns.map PyData.int)) = true
    rw [canLay_ints ns]
    rfl
theorem depth_ints : ∀ ns : List Int, PyData.depthAll (ns.map PyData.int) ≤ 1
  | [] => by decide
  | n :: ns => by
    have h := depth_ints ns
    show max (PyData.depth (.int n)) (PyData.depthAll (ns.map PyData.int)) ≤ 1
    exact Nat.max_le.mpr ⟨Nat.zero_le 1, h⟩
theorem shaped_ints (ns : List Int) : SeqAt.shaped (.list (ns.map PyData.int)) = true := by
  unfold SeqAt.shaped
  rw [Bool.and_eq_true]
  refine ⟨canLay_ints ns, decide_eq_true ?_⟩
  have h := depth_ints ns
  show PyData.depthAll (ns.map PyData.int) + 1 ≤ 64
  omega
theorem shaped_intsT (ns : List Int) : SeqAt.shaped (.tuple (ns.map PyData.int)) = true := by
  unfold SeqAt.shaped
  rw [Bool.and_eq_true]
  refine ⟨canLay_ints ns, decide_eq_true ?_⟩
  have h := depth_ints ns
  show PyData.depthAll (ns.map PyData.int) + 1 ≤ 64
  omega
theorem eqvAll_ints : ∀ ns ms : List Int, PyData.eqvAll (ns.map PyData.int) (ms.map PyData.int) = decide (ns = ms)
  | [], [] => by simp [PyData.eqvAll]
  | [], _ :: _ => by simp [PyData.eqvAll]
  | _ :: _, [] => by simp [PyData.eqvAll]
  | n :: ns, m :: ms => by
    show (PyData.eqv (.int n) (.int m) && PyData.eqvAll (ns.map PyData.int) (ms.map PyData.int)) = _
    rw [eqvAll_ints ns ms]
    simp [PyData.eqv, Bool.beq_eq_decide_eq]
section
variable {H : Hp} {Q : VK} {K : PySem.W.Frag} {a b : Addr} {ns ms : List Int}
theorem r_eqLL (h : SqL K H a (ns.map V.int)) (h2 : SqL K H b (ms.map V.int)) (q : Q (.bl (decide (ns = ms))) H) : rEqD K (.ref a) (.ref b) H Q :=
  ⟨_, _, dp_ints h, dp_ints h2, shaped_ints ns, shaped_ints ms, by
    have e : PyData.eqv (.list (ns.map PyData.int)) (.list (ms.map PyData.int)) = decide (ns = ms) := by rw [PyData.eqv]; exact eqvAll_ints ns ms
    rw [e]; exact q⟩
theorem r_neLL (h : SqL K H a (ns.map V.int)) (h2 : SqL K H b (ms.map V.int)) (q : Q (.bl (!decide (ns = ms))) H) : rNeD K (.ref a) (.ref b) H Q :=
  ⟨_, _, dp_ints h, dp_ints h2, shaped_ints ns, shaped_ints ms, by
    have e : PyData.eqv (.list (ns.map PyData.int)) (.list (ms.map PyData.int)) = decide (ns = ms) := by rw [PyData.eqv]; exact eqvAll_ints ns ms
    rw [e]; exact q⟩
theorem r_eqTT (h : SqT K H a (ns.map V.int)) (h2 : SqT K H b (ms.map V.int)) (q : Q (.bl (decide (ns = ms))) H) : rEqD K (.ref a) (.ref b) H Q :=
  ⟨_, _, dp_intsT h, dp_intsT h2, shaped_intsT ns, shaped_intsT ms, by
    have e : PyData.eqv (.tuple (ns.map PyData.int)) (.tuple (ms.map PyData.int)) = decide (ns = ms) := by rw [PyData.eqv]; exact eqvAll_ints ns ms
    rw [e]; exact q⟩
theorem r_eqSame (h : SqL K H a (ns.map V.int)) (h2 : SqL K H b (ns.map V.int)) (q : Q (.bl true) H) : rEqD K (.ref a) (.ref b) H Q := r_eqLL h h2 (by rw [decide_eq_true rfl]; exact q)
theorem r_neSame (h : SqL K H a (ns.map V.int)) (h2 : SqL K H b (ns.map V.int)) (q : Q (.bl false) H) : rNeD K (.ref a) (.ref b) H Q := r_neLL h h2 (by rw [decide_eq_true rfl]; exact q)
theorem r_ixI {i : Int} {p : Addr} (h : SqL K H p (ns.map V.int)) (h0 : 0 ≤ i) (h1 : i < ns.length) (q : Q (.int (gi ns i)) H) : rIxL K (.ref p) (.int i) H Q := r_ixL h (at_ints h0 h1) q
theorem r_ixqL {i : Int} {p : Addr} (h : SqL K H p (ns.map V.int)) (h0 : 0 ≤ i) (h1 : i < ns.length) (q : Q (.int (gi ns i)) H) : rIx K (.ref p) (.int i) H Q := .inl (r_ixL h (at_ints h0 h1) q)
theorem r_ixqT {i : Int} {p : Addr} (h : SqT K H p (ns.map V.int)) (h0 : 0 ≤ i) (h1 : i < ns.length) (q : Q (.int (gi ns i)) H) : rIx K (.ref p) (.int i) H Q := .inr (.inl (r_ixT h (at_ints h0 h1) q))
theorem r_ixIT {i : Int} {p : Addr} (h : SqT K H p (ns.map V.int)) (h0 : 0 ≤ i) (h1 : i < ns.length) (q : Q (.int (gi ns i)) H) : rIxT K (.ref p) (.int i) H Q := r_ixT h (at_ints h0 h1) q
/-- a written list (or one of unknown form) at a place in it -/
theorem r_ixM {i : Int} {p : Addr} {vs : List V} (h : SqL K H p vs) (h0 : 0 ≤ i) (h1 : i < vs.length) (q : ∀ v, v ∈ vs → atI vs i = some v → Q v H) : rIxL K (.ref p) (.int i) H Q := by
  obtain ⟨n, rfl⟩ := Int.eq_ofNat_of_zero_le h0
  have hn : n < vs.length := by omega
  have e : atI vs (n : Int) = some vs[n] := atI_nat (List.getElem?_eq_getElem hn)
  exact r_ixL h e (q _ (List.getElem_mem hn) e)
theorem r_ret1 {H0 : Hp} {L : List (Addr × HO)} {u : HO} (o : Own H0 H L) (k : ∀ p H', Own H0 H' ((p, u) :: L) → Q (.ref p) H') : RetO H Q u := fun H' p e f h => k p H' (o.add e f h)
theorem r_retvs {H0 : Hp} {L : List (Addr × HO)} {v : V} (o : Own H0 H L) (k : ∀ H', Same H H' → Own H0 H' L → Q v H') : RetV H Q v := fun H' e => k H' e (o.mono e)
theorem r_retv {H0 : Hp} {L : List (Addr × HO)} {v : V} (o : Own H0 H L) (k : ∀ H', Own H0 H' L → Q v H') : RetV H Q v := fun H' e => k H' (o.mono e)
end

/-! ### named relations -/
def rTupS (K : PySem.W.Frag) : List V → Hp → VK → Prop := fun xs H Q => ∃ p ys, xs = [.ref p] ∧ ((SqL K H p ys ∧ ∀ l, H l = none → Q (.ref l) (upd H l (.tup ys))) ∨ (SqT K H p ys ∧ Q (.ref p) H))
def rInt1 : List V → Hp → VK → Prop := fun xs H Q => (∃ i, xs = [.int i] ∧ Q (.int i) H) ∨ ∃ k, xs = [.bl k] ∧ Q (.int (if k then 1 else 0)) H
section
variable {H H0 : Hp} {Q : VK} {K : PySem.W.Frag} {L : List (Addr × HO)} {p : Addr} {xs : List V}
theorem r_len (h : SqL K H p xs) (q : Q (.int xs.length) H) : Evl.rLenS K [.ref p] H Q := ⟨p, xs, rfl, .inl h, q⟩
theorem r_lenT (h : SqT K H p xs) (q : Q (.int xs.length) H) : Evl.rLenS K [.ref p] H Q := ⟨p, xs, rfl, .inr h, q⟩
theorem r_list (o : Own H0 H L) (h : SqL K H p xs) (k : ∀ l H', Own H0 H' ((l, .lst xs) :: L) → Q (.ref l) H') : Evl.rListS K [.ref p] H Q := ⟨p, xs, rfl, .inl h, fun l hl => k l _ (o.new hl)⟩
theorem r_listT (o : Own H0 H L) (h : SqT K H p xs) (k : ∀ l H', Own H0 H' ((l, .lst xs) :: L) → Q (.ref l) H') : Evl.rListS K [.ref p] H Q := ⟨p, xs, rfl, .inr h, fun l hl => k l _ (o.new hl)⟩
theorem r_tupL (o : Own H0 H L) (h : SqL K H p xs) (k : ∀ l H', Own H0 H' ((l, .tup xs) :: L) → Q (.ref l) H') : rTupS K [.ref p] H Q := ⟨p, xs, rfl, .inl ⟨h, fun l hl => k l _ (o.new hl)⟩⟩
theorem r_int {i : Int} (q : Q (.int i) H) : rInt1 [.int i] H Q := .inl ⟨i, rfl, q⟩
theorem r_intB {b : Bool} (q : Q (.int (if b then 1 else 0)) H) : rInt1 [.bl b] H Q := .inr ⟨b, rfl, q⟩
end

/-! ### slices -/
theorem cut_hi (xs : List V) (n : Nat) : cutV xs none (some (n : Int)) = xs.take n := by
  unfold cutV
  rw [HT.sIx_none, HT.sIx_nat, List.drop_zero, Nat.sub_zero]
  rcases Nat.le_total n xs.length with h | h
  · rw [Nat.min_eq_left h]
  · rw [Nat.min_eq_right h, List.take_of_length_le (Nat.le_refl _), List.take_of_length_le h]
theorem cut_lo (xs : List V) (n : Nat) : cutV xs (some (n : Int)) none = xs.drop n := by
  unfold cutV
  rw [HT.sIx_none, HT.sIx_nat]
  rcases Nat.le_total n xs.length with h | h
  · rw [Nat.min_eq_left h]
    exact List.take_of_length_le (by rw [List.length_drop]; omega)
  · rw [Nat.min_eq_right h, List.drop_of_length_le h, List.drop_of_length_le (Nat.le_refl _)]
    simp
theorem cut_both (xs : List V) (a b : Nat) : cutV xs (some (a : Int)) (some (b : Int)) = (xs.drop a).take (b - a) := by
  unfold cutV
  rw [HT.sIx_nat, HT.sIx_nat]
  rcases Nat.le_total a xs.length with h | h
  · rw [Nat.min_eq_left h]
    rcases Nat.le_total b xs.length with h2 | h2
    · rw [Nat.min_eq_left h2]
    · rw [Nat.min_eq_right h2, List.take_of_length_le (by rw [List.length_drop]; omega), List.take_of_length_le (by rw [List.length_drop]; omega)]
  · rw [Nat.min_eq_right h, List.drop_of_length_le h, List.drop_of_length_le (Nat.le_refl _)]
    simp
theorem cut_all (xs : List V) : cutV xs none none = xs := by
  unfold cutV
  rw [HT.sIx_none, HT.sIx_none]
  simp

/-! ### loops -/
def RFor (J : It) (g : TG) (tb : TS) (D : Ends) (σ : L2.St) (H : Hp) : Prop := ∃ W : Nat → Nat → L2.St → Hp → Prop, (∃ m, W 0 m σ H) ∧ ∀ i m σ H, W i m σ H →
    (J.stop i H ∧ D.nx σ H) ∨ (J.go i H ∧ ∃ N : L2.St → Hp → Prop, (∀ σ' H', N σ' H' → ∃ m', m' < m ∧ W (i + 1) m' σ' H') ∧ ∀ x H', J.yld i H x H' → g x σ H' fun σ2 H2 => tb { D with nx := N, ct := N, bk := D.nx } σ2 H2)
section
variable {σ : L2.St} {H H0 : Hp} {Q : VK} {v x y : V} {ta tb te tl : TE} {t u : TT} {i j : Int} {D : Ends} {ts tz : TS} {g : TG} {K : PySem.W.Frag} {L : List (Addr × HO)} {tr : TA} {wi : TI}
theorem r_for (q : wi σ H fun J H1 => RFor J g ts D σ H1) : tFor wi g ts D σ H := q
theorem r_rng1 {R : It → Hp → Prop} (q : tr σ H fun vs H1 => ∃ j : Int, vs = [.int j] ∧ -(2 ^ 62) ≤ j ∧ j < 2 ^ 62 ∧ R (Itr 0 j.toNat) H1) : iRng1 tr σ H R := q
theorem r_rng2 {R : It → Hp → Prop} (q : tr σ H fun vs H1 => ∃ i j : Int, vs = [.int i, .int j] ∧ (-(2 ^ 62) ≤ i ∧ i < 2 ^ 62 ∧ -(2 ^ 62) ≤ j ∧ j < 2 ^ 62) ∧ R (Itr i (j - i).toNat) H1) : iRng2 tr σ H R := q
theorem r_rng3 {R : It → Hp → Prop} (q : tr σ H fun vs H1 => ∃ (i j c : Int) (n : Nat), vs = [.int i, .int j, .int c] ∧ RgC i j c n ∧ R (Itc i c n) H1) : iRng3 tr σ H R := q
theorem r_iL {R : It → Hp → Prop} (q : tl σ H fun x H1 => ∃ a, x = .ref a ∧ (∃ xs, SqL K H1 a xs) ∧ R (Itl K a) H1) : iList K tl σ H R := q
theorem r_iT {R : It → Hp → Prop} (q : tl σ H fun x H1 => ∃ a, x = .ref a ∧ (∃ xs, SqT K H1 a xs) ∧ R (Itt K a) H1) : iTup K tl σ H R := q
/-- for k in range(j): behind the argument's reading -/
theorem forR1 {n : Nat} {s : Nat} (hn : j = (n : Int)) (hb : j < 2 ^ 62) (Pv : Nat → L2.St → Hp → Prop) (h0 : Pv 0 σ H)
    (hs : ∀ i σ H, i < n → Pv i σ H → ts { D with nx := Pv (i + 1), ct := Pv (i + 1), bk := D.nx } (σ.set s (some (.int (i : Int)))) H) (hd : ∀ σ H, Pv n σ H → D.nx σ H) :
    ∃ k : Int, [V.int j] = [.int k] ∧ -(2 ^ 62) ≤ k ∧ k < 2 ^ 62 ∧ RFor (Itr 0 k.toNat) (gName s) ts D σ H := by
  refine ⟨j, rfl, by omega, hb, ?_⟩
  have e : j.toNat = n := by omega
  rw [e]
  refine for_range (lo := 0) (n := n) Pv h0 (fun i σ H hi p => ?_) hd
  have e0 : (0 : Int) + (i : Int) = (i : Int) := Int.zero_add _
  show gName s (.int ((0 : Int) + (i : Int))) σ H _
  rw [e0]
  exact hs i σ H hi p
/-- for k in range(i, j) -/
theorem forR2 {n s : Nat} (hn : (j - i).toNat = n) (hb : -(2 ^ 62) ≤ i ∧ i < 2 ^ 62 ∧ -(2 ^ 62) ≤ j ∧ j < 2 ^ 62) (Pv : Nat → L2.St → Hp → Prop) (h0 : Pv 0 σ H)
    (hs : ∀ k σ H, k < n → Pv k σ H → ts { D with nx := Pv (k + 1), ct := Pv (k + 1), bk := D.nx } (σ.set s (some (.int (i + (k : Int))))) H) (hd : ∀ σ H, Pv n σ H → D.nx σ H) :
    ∃ i' j' : Int, [V.int i, V.int j] = [.int i', .int j'] ∧ (-(2 ^ 62) ≤ i' ∧ i' < 2 ^ 62 ∧ -(2 ^ 62) ≤ j' ∧ j' < 2 ^ 62) ∧ RFor (Itr i' (j' - i').toNat) (gName s) ts D σ H := by
  refine ⟨i, j, rfl, hb, ?_⟩
  rw [hn]
  exact for_range (lo := i) (n := n) Pv h0 (fun k σ H hi p => hs k σ H hi p) hd
theorem forR3 {c : Int} {n s : Nat} (hc : RgC i j c n) (Pv : Nat → L2.St → Hp → Prop) (h0 : Pv 0 σ H)
    (hs : ∀ k σ H, k < n → Pv k σ H → ts { D with nx := Pv (k + 1), ct := Pv (k + 1), bk := D.nx } (σ.set s (some (.int (i + (k : Nat) * c)))) H) (hd : ∀ σ H, Pv n σ H → D.nx σ H) :
    ∃ (i' j' c' : Int) (n' : Nat), [V.int i, V.int j, V.int c] = [.int i', .int j', .int c'] ∧ RgC i' j' c' n' ∧ RFor (Itc i' c' n') (gName s) ts D σ H :=
  ⟨i, j, c, n, rfl, hc, for_rangeC (lo := i) (c := c) (n := n) Pv h0 (fun k σ H hi p => hs k σ H hi p) hd⟩
/-- for x in l: behind the reading of l -/
theorem forL {a : Addr} {xs : List V} (h : SqL K H a xs) (Pv : Nat → L2.St → Hp → Prop) (h0 : Pv 0 σ H) (hl : ∀ i σ H, i ≤ xs.length → Pv i σ H → SqL K H a xs)
    (hs : ∀ i x σ H, xs[i]? = some x → Pv i σ H → g x σ H fun σ2 H2 => ts { D with nx := Pv (i + 1), ct := Pv (i + 1), bk := D.nx } σ2 H2) (hd : ∀ σ H, Pv xs.length σ H → D.nx σ H) :
    ∃ a', V.ref a = .ref a' ∧ (∃ xs, SqL K H a' xs) ∧ RFor (Itl K a') g ts D σ H := ⟨a, rfl, ⟨xs, h⟩, for_list (K := K) (a := a) (xs := xs) Pv h0 hl hs hd⟩
theorem forT {a : Addr} {xs : List V} (h : SqT K H a xs) (Pv : Nat → L2.St → Hp → Prop) (h0 : Pv 0 σ H) (hl : ∀ i σ H, i ≤ xs.length → Pv i σ H → SqT K H a xs)
    (hs : ∀ i x σ H, xs[i]? = some x → Pv i σ H → g x σ H fun σ2 H2 => ts { D with nx := Pv (i + 1), ct := Pv (i + 1), bk := D.nx } σ2 H2) (hd : ∀ σ H, Pv xs.length σ H → D.nx σ H) :
    ∃ a', V.ref a = .ref a' ∧ (∃ xs, SqT K H a' xs) ∧ RFor (Itt K a') g ts D σ H := ⟨a, rfl, ⟨xs, h⟩, for_tup (K := K) (a := a) (xs := xs) Pv h0 hl hs hd⟩
/-- while -/
def RWh (c : TT) (tb : TS) (D : Ends) (σ : L2.St) (H : Hp) : Prop := tWhile c tb D σ H
theorem whileB {c : TT} (Pv : Nat → L2.St → Hp → Prop) (m : Nat) (h0 : Pv m σ H)
    (hs : ∀ m σ H, Pv m σ H → c σ H fun b H1 => RIf b (∃ N : L2.St → Hp → Prop, (∀ σ' H', N σ' H' → ∃ m', m' < m ∧ Pv m' σ' H') ∧ ts { D with nx := N, ct := N, bk := D.nx } σ H1) (D.nx σ H1)) : tWhile c ts D σ H :=
  ⟨Pv, ⟨m, h0⟩, hs⟩
/-- the body's end in such a loop: a smaller number and the word again -/
theorem wh_turn {Pv : Nat → L2.St → Hp → Prop} {m : Nat} (h : ts { D with nx := fun σ' H' => ∃ m', m' < m ∧ Pv m' σ' H', ct := fun σ' H' => ∃ m', m' < m ∧ Pv m' σ' H', bk := D.nx } σ H) :
    ∃ N : L2.St → Hp → Prop, (∀ σ' H', N σ' H' → ∃ m', m' < m ∧ Pv m' σ' H') ∧ ts { D with nx := N, ct := N, bk := D.nx } σ H := ⟨_, fun _ _ h => h, h⟩

/-! ### comprehensions -/
def RLc (J : It) (g : TG) (tt : TT) (te : TE) (vs : List Nat) (σ : L2.St) (H1 : Hp) (Q : VK) : Prop := ∀ D, H1 D = none → ∃ W : Nat → Nat → Hp → Prop, (∃ m, W 0 m (upd H1 D (.lst []))) ∧ ∀ i m H, W i m H →
  (J.stop i H ∧ Q (.ref D) H) ∨ (J.go i H ∧ ∃ Nx : Hp → Prop, (∀ H', Nx H' → ∃ m', m' < m ∧ W (i + 1) m' H') ∧ ∀ x H', J.yld i H x H' → g x (wipe σ vs) H' fun σ2 H2 => wipe σ2 vs = wipe σ vs ∧ tt σ2 H2 fun b H3 =>
    if b = true then te σ2 H3 fun y H4 => ∃ acc, H4 D = some (.lst acc) ∧ acc.length < sizeLine ∧ Nx (upd H4 D (.lst (acc ++ [y]))) else Nx H3)
theorem r_lc {tt : TT} {vs : List Nat} (q : wi σ H fun J H1 => RLc J g tt te vs σ H1 Q) : tLc wi g tt te vs σ H Q := q
/-- what a turn of a comprehension without an if is to reach -/
theorem lc_turn {H' : Hp} {zs ys : List V} {P : Addr} {k : Nat} {y : V} {σ2 : L2.St} (o : Own H0 H' ((P, .lst (ys.take k)) :: L)) (hy : ys[k]? = some y) (hz : ys.length ≤ 10000000)
    (he : ∀ Q : VK, RetV H' Q y → te σ2 H' Q) :
    tYes σ2 H' fun b H3 => if b = true then te σ2 H3 fun y H4 => ∃ acc, H4 P = some (.lst acc) ∧ acc.length < sizeLine ∧ Own H0 (upd H4 P (.lst (acc ++ [y]))) ((P, .lst (ys.take (k + 1))) :: L) else Own H0 H3 ((P, .lst (ys.take (k + 1))) :: L) := by
  refine iteT (B := Own H0 H' ((P, .lst (ys.take (k + 1))) :: L)) (he _ fun H4 s4 => ?_)
  have o4 := o.mono s4
  have hk := (List.getElem?_eq_some_iff.mp hy).1
  refine ⟨ys.take k, o4.at 0 rfl, sz_lt (by rw [List.length_take]; omega), ?_⟩
  have o5 := o4.set (v := .lst (ys.take k ++ [y])) 0 rfl
  have e : ys.take (k + 1) = ys.take k ++ [y] := by rw [List.take_add_one, hy]; rfl
  rw [e]
  exact o5
/-- [e for x in range(n)], e no new object -/
theorem lcR1 {n s : Nat} {vs : List Nat} (ys : List V) (hy : ys.length = n) (o : Own H0 H L) (hn : j = (n : Int)) (hz : n ≤ 10000000) (hw : ∀ x, wipe ((wipe σ vs).set s (some x)) vs = wipe σ vs)
    (he : ∀ (i : Nat) (y : V) (p : Addr) (zs : List V) (H' : Hp) (Q : VK), i < n → ys[i]? = some y → Own H0 H' ((p, .lst zs) :: L) → RetV H' Q y → te ((wipe σ vs).set s (some (.int (i : Int)))) H' Q)
    (k : ∀ p H', Own H0 H' ((p, .lst ys) :: L) → Q (.ref p) H') :
    ∃ k : Int, [V.int j] = [.int k] ∧ -(2 ^ 62) ≤ k ∧ k < 2 ^ 62 ∧ RLc (Itr 0 k.toNat) (gName s) tYes te vs σ H Q := by
  refine ⟨j, rfl, by omega, by omega, fun P hP => ?_⟩
  have e : j.toNat = n := by omega
  rw [e]
  refine lc_range (lo := 0) (n := n) (fun i H' => Own H0 H' ((P, .lst (ys.take i)) :: L)) (o.new hP) (fun i H' hi p => ?_) (fun H' p => k P H' (by rw [List.take_of_length_le (by omega)] at p; exact p))
  have e0 : (0 : Int) + (i : Int) = (i : Int) := Int.zero_add _
  rw [e0]
  have hlt : i < ys.length := by omega
  refine ⟨hw _, ?_⟩
  exact lc_turn (zs := []) p (List.getElem?_eq_getElem hlt) (by omega) fun Q q => he i _ P _ H' Q hi (List.getElem?_eq_getElem hlt) p q
/-- [e for x in xs], e no new object -/
theorem lcL {a : Addr} {xs : List V} {s : Nat} {vs : List Nat} (ys : List V) (hy : ys.length = xs.length) (o : Own H0 H L) (h : ∀ H' p zs, Own H0 H' ((p, .lst zs) :: L) → SqL K H' a xs) (h1 : SqL K H a xs) (hz : xs.length ≤ 10000000) (hw : ∀ x, wipe ((wipe σ vs).set s (some x)) vs = wipe σ vs)
    (he : ∀ (i : Nat) (x y : V) (p : Addr) (zs : List V) (H' : Hp) (Q : VK), xs[i]? = some x → ys[i]? = some y → Own H0 H' ((p, .lst zs) :: L) → RetV H' Q y → te ((wipe σ vs).set s (some x)) H' Q)
    (k : ∀ p H', Own H0 H' ((p, .lst ys) :: L) → Q (.ref p) H') :
    ∃ a', V.ref a = .ref a' ∧ (∃ xs, SqL K H a' xs) ∧ RLc (Itl K a') (gName s) tYes te vs σ H Q := by
  refine ⟨a, rfl, ⟨xs, h1⟩, fun P hP => ?_⟩
  refine lc_list (K := K) (a := a) (xs := xs) (fun i H' => Own H0 H' ((P, .lst (ys.take i)) :: L)) (o.new hP) (fun i H' _ p => h H' _ _ p) (fun i x H' hi p => ?_) (fun H' p => k P H' (by rw [List.take_of_length_le (by omega)] at p; exact p))
  have hlt : i < ys.length := by have := (List.getElem?_eq_some_iff.mp hi).1; omega
  refine ⟨hw _, ?_⟩
  exact lc_turn (zs := []) p (List.getElem?_eq_getElem hlt) (by omega) fun Q q => he i x _ P _ H' Q hi (List.getElem?_eq_getElem hlt) p q
end
/-! ### comprehensions of ints -/
def mapR (n : Nat) (f : Nat → Int) : List Int := (List.range n).map f
theorem mapR_len (n : Nat) (f : Nat → Int) : (mapR n f).length = n := by unfold mapR; rw [List.length_map, List.length_range]
theorem mapR_mem {n : Nat} {f : Nat → Int} {x : Int} (h : x ∈ mapR n f) : ∃ k, k < n ∧ x = f k := by
  obtain ⟨k, hk, e⟩ := List.mem_map.mp h
  exact ⟨k, List.mem_range.mp hk, e.symm⟩
theorem mapR_get {n k : Nat} {f : Nat → Int} (h : k < n) : (mapR n f)[k]? = some (f k) := by
  unfold mapR
  rw [List.getElem?_map, List.getElem?_range h]
  rfl
theorem mapR_ext {n : Nat} {f g : Nat → Int} (h : ∀ k, k < n → f k = g k) : mapR n f = mapR n g := by
  unfold mapR
  exact List.map_congr_left fun k hk => h k (List.mem_range.mp hk)
theorem RetV.here {H : Hp} {Q : VK} {v : V} (q : RetV H Q v) : Q v H := q H (Same.refl H)
section
variable {σ : L2.St} {H H0 : Hp} {Q : VK} {te : TE} {j : Int} {K : PySem.W.Frag} {L : List (Addr × HO)}
theorem lcR1I {n s : Nat} {vs : List Nat} (f : Nat → Int) (o : Own H0 H L) (hn : j = (n : Int)) (hz : n ≤ 10000000) (hw : ∀ x, wipe ((wipe σ vs).set s (some x)) vs = wipe σ vs)
    (he : ∀ (i : Nat) (p : Addr) (zs : List V) (H' : Hp) (Q : VK), i < n → Own H0 H' ((p, .lst zs) :: L) → RetV H' Q (.int (f i)) → te ((wipe σ vs).set s (some (.int (i : Int)))) H' Q)
    (k : ∀ p H', Own H0 H' ((p, .lst ((mapR n f).map V.int)) :: L) → Q (.ref p) H') :
    ∃ k : Int, [V.int j] = [.int k] ∧ -(2 ^ 62) ≤ k ∧ k < 2 ^ 62 ∧ RLc (Itr 0 k.toNat) (gName s) tYes te vs σ H Q := by
  refine lcR1 ((mapR n f).map V.int) (by rw [List.length_map, mapR_len]) o hn hz hw (fun i y p zs H' Q hi hy o' q => ?_) k
  rw [List.getElem?_map, mapR_get hi] at hy
  cases hy
  exact he i p zs H' Q hi o' q
theorem lcLI {a : Addr} {ns : List Int} {s : Nat} {vs : List Nat} (f : Int → Int) (o : Own H0 H L) (h : ∀ H' p zs, Own H0 H' ((p, .lst zs) :: L) → SqL K H' a (ns.map V.int)) (h1 : SqL K H a (ns.map V.int)) (hz : ns.length ≤ 10000000) (hw : ∀ x, wipe ((wipe σ vs).set s (some x)) vs = wipe σ vs)
    (he : ∀ (i : Nat) (x : Int) (p : Addr) (zs : List V) (H' : Hp) (Q : VK), x ∈ ns → Own H0 H' ((p, .lst zs) :: L) → RetV H' Q (.int (f x)) → te ((wipe σ vs).set s (some (.int x))) H' Q)
    (k : ∀ p H', Own H0 H' ((p, .lst ((ns.map f).map V.int)) :: L) → Q (.ref p) H') :
    ∃ a', V.ref a = .ref a' ∧ (∃ xs, SqL K H a' xs) ∧ RLc (Itl K a') (gName s) tYes te vs σ H Q := by
  refine lcL ((ns.map f).map V.int) (by rw [List.length_map, List.length_map, List.length_map]) o h h1 (by rw [List.length_map]; exact hz) hw (fun i x y p zs H' Q hx hy o' q => ?_) k
  rw [List.getElem?_map] at hx
  rw [List.getElem?_map, List.getElem?_map] at hy
  cases e : ns[i]? with
  | none => rw [e] at hx; cases hx
  | some z =>
    rw [e] at hx hy
    cases hx
    cases hy
    exact he i z p zs H' Q (List.mem_of_getElem? e) o' q
end
section
variable {H0 H : Hp} {L : List (Addr × HO)} {x y z u v : Addr × HO}
theorem Own.pick1 (o : Own H0 H L) (i : Nat) (hi : L[i]? = some x) : Own H0 H [x] := ⟨o.ex, fun q hq => by rw [List.mem_singleton.mp hq]; exact o.fr _ (List.mem_of_getElem? hi), by simp⟩
theorem Own.cons_of (o : Own H0 H L) {L' : List (Addr × HO)} (o' : Own H0 H L') (hx : x ∈ L) (hn : ∀ q ∈ L', q.1 ≠ x.1) : Own H0 H (x :: L') :=
  ⟨o.ex, fun q hq => by
    rcases List.mem_cons.mp hq with rfl | hq
    · exact o.fr _ hx
    · exact o'.fr _ hq, by
    rw [List.map_cons, List.nodup_cons]
    refine ⟨fun hm => ?_, o'.nd⟩
    obtain ⟨q, hq, e⟩ := List.mem_map.mp hm
    exact hn q hq e⟩
theorem Own.nei (o : Own H0 H L) {i j : Nat} (hi : L[i]? = some x) (hj : L[j]? = some y) (h : i ≠ j) : x.1 ≠ y.1 := fun e => h (nodup_fst (l := x.1) (u := x.2) (v := y.2) o.nd hi (by rw [hj, e]))
theorem Own.pick2 (o : Own H0 H L) (i j : Nat) (hij : i ≠ j) (hi : L[i]? = some x) (hj : L[j]? = some y) : Own H0 H [x, y] :=
  o.cons_of (o.pick1 j hj) (List.mem_of_getElem? hi) fun q hq => by rw [List.mem_singleton.mp hq]; exact (o.nei hi hj hij).symm
theorem Own.pick3 (o : Own H0 H L) (i j k : Nat) (h : i ≠ j ∧ i ≠ k ∧ j ≠ k) (hi : L[i]? = some x) (hj : L[j]? = some y) (hk : L[k]? = some z) : Own H0 H [x, y, z] :=
  o.cons_of (o.pick2 j k h.2.2 hj hk) (List.mem_of_getElem? hi) fun q hq => by
    rcases List.mem_cons.mp hq with rfl | hq
    · exact (o.nei hi hj h.1).symm
    · rw [List.mem_singleton.mp hq]; exact (o.nei hi hk h.2.1).symm
theorem Own.pick4 (o : Own H0 H L) (i j k l : Nat) (h : i ≠ j ∧ i ≠ k ∧ i ≠ l ∧ j ≠ k ∧ j ≠ l ∧ k ≠ l) (hi : L[i]? = some x) (hj : L[j]? = some y) (hk : L[k]? = some z) (hl : L[l]? = some u) : Own H0 H [x, y, z, u] :=
  o.cons_of (o.pick3 j k l h.2.2.2 hj hk hl) (List.mem_of_getElem? hi) fun q hq => by
    rcases List.mem_cons.mp hq with rfl | hq
    · exact (o.nei hi hj h.1).symm
    · rcases List.mem_cons.mp hq with rfl | hq
      · exact (o.nei hi hk h.2.1).symm
      · rw [List.mem_singleton.mp hq]; exact (o.nei hi hl h.2.2.1).symm
end

/-! ### tuples stand -/
def Stp (H H' : Hp) : Prop := ∀ a xs, Rd H a (.tup xs) → Rd H' a (.tup xs)
theorem Stp.refl (H : Hp) : Stp H H := fun _ _ h => h
theorem Stp.trans {H H1 H2 : Hp} (a : Stp H H1) (b : Stp H1 H2) : Stp H H2 := fun x xs h => b x xs (a x xs h)
theorem Stp.of {H H' : Hp} (e : Same H H') : Stp H H' := fun a xs h => by
  rcases h with h | ⟨o, h⟩
  · exact .inl (e _ _ h)
  · exact .inr ⟨o, e _ _ h⟩
theorem Stp.set {H : Hp} {l : Addr} {xs : List V} {u : HO} (h : H l = some (.lst xs)) : Stp H (upd H l u) := fun a ys r => by
  have hne : a ≠ l := by
    rintro rfl
    rcases r with r | ⟨o, r⟩ <;> rw [h] at r <;> cases r
  rcases r with r | ⟨o, r⟩
  · exact .inl (by rw [upd_ne hne]; exact r)
  · exact .inr ⟨o, by rw [upd_ne hne]; exact r⟩
theorem Stp.sq {K : PySem.W.Frag} {H H' : Hp} {a : Addr} {xs : List V} (e : Stp H H') (h : SqT K H a xs) : SqT K H' a xs := by
  rcases h with h | h
  · exact .inl (e _ _ h)
  · exact .inr h
/-! ### comprehensions with a test -/
theorem lc_turnF {H0 H H' : Hp} {L : List (Addr × HO)} {te : TE} {tt : TT} {zs : List V} {P : Addr} {o1 : Option V} {σ2 : L2.St} (o : Own H0 H' ((P, .lst zs) :: L)) (s : Stp H H') (hz : zs.length < 10000000)
    (ht : ∀ Q : Bool → Hp → Prop, (∀ H2, Same H' H2 → Q o1.isSome H2) → tt σ2 H' Q) (he : ∀ y H2, o1 = some y → Same H' H2 → ∀ Q : VK, RetV H2 Q y → te σ2 H2 Q) :
    tt σ2 H' fun b H3 => if b = true then te σ2 H3 fun y H4 => ∃ acc, H4 P = some (.lst acc) ∧ acc.length < sizeLine ∧ (Own H0 (upd H4 P (.lst (acc ++ [y]))) ((P, .lst (zs ++ o1.toList)) :: L) ∧ Stp H (upd H4 P (.lst (acc ++ [y])))) else (Own H0 H3 ((P, .lst (zs ++ o1.toList)) :: L) ∧ Stp H H3) := by
  refine ht _ fun H2 s2 => ?_
  have o2 := o.mono s2
  cases e : o1 with
  | none =>
    show Own H0 H2 ((P, .lst (zs ++ [])) :: L) ∧ Stp H H2
    rw [List.append_nil]
    exact ⟨o2, s.trans (.of s2)⟩
  | some y =>
    refine iteT (B := Own H0 H2 ((P, .lst (zs ++ [y])) :: L) ∧ Stp H H2) (he y H2 e s2 _ fun H4 s4 => ?_)
    have o4 := o2.mono s4
    exact ⟨zs, o4.at 0 rfl, sz_lt hz, o4.set (v := .lst (zs ++ [y])) 0 rfl, (s.trans ((Stp.of s2).trans (.of s4))).trans (Stp.set (o4.at 0 rfl))⟩
theorem fm_take {α β : Type} {xs : List α} {sel : α → Option β} {i : Nat} {x : α} (h : xs[i]? = some x) : (xs.take (i + 1)).filterMap sel = (xs.take i).filterMap sel ++ (sel x).toList := by
  rw [List.take_add_one, h, List.filterMap_append]
  congr 1
theorem fm_le {α β : Type} (xs : List α) (sel : α → Option β) : (xs.filterMap sel).length ≤ xs.length := List.length_filterMap_le sel xs
section
variable {σ : L2.St} {H H0 : Hp} {Q : VK} {te : TE} {tt : TT} {j : Int} {K : PySem.W.Frag} {L : List (Addr × HO)}
/-- [e for x in xs if t], what it gives by the item alone -/
theorem lcGL {a : Addr} {xs : List V} {g : TG} {vs : List Nat} (sel : V → Option V) (o : Own H0 H L) (h : ∀ H' p zs, Own H0 H' ((p, .lst zs) :: L) → SqL K H' a xs) (h1 : SqL K H a xs) (hz : xs.length < 10000000)
    (he : ∀ (i : Nat) (x : V) (p : Addr) (zs : List V) (H' : Hp) (R : L2.St → Hp → Prop), xs[i]? = some x → Own H0 H' ((p, .lst zs) :: L) → Stp H H' →
      (∀ σ2, (∀ H2, Same H' H2 → wipe σ2 vs = wipe σ vs) → (∀ Q : Bool → Hp → Prop, (∀ H2, Same H' H2 → Q (sel x).isSome H2) → tt σ2 H' Q) → (∀ y H2, sel x = some y → Same H' H2 → ∀ Q : VK, RetV H2 Q y → te σ2 H2 Q) → R σ2 H') → g x (wipe σ vs) H' R)
    (k : ∀ p H', Stp H H' → Own H0 H' ((p, .lst (xs.filterMap sel)) :: L) → Q (.ref p) H') :
    ∃ a', V.ref a = .ref a' ∧ (∃ xs, SqL K H a' xs) ∧ RLc (Itl K a') g tt te vs σ H Q := by
  refine ⟨a, rfl, ⟨xs, h1⟩, fun P hP => ?_⟩
  refine lc_list (K := K) (a := a) (xs := xs) (fun i H' => Own H0 H' ((P, .lst ((xs.take i).filterMap sel)) :: L) ∧ Stp H H') ⟨o.new hP, .of (same_new hP)⟩ (fun i H' _ p => h H' _ _ p.1) (fun i x H' hi p => ?_) (fun H' p => k P H' p.2 (by have p := p.1; rw [List.take_of_length_le (Nat.le_refl _)] at p; exact p))
  refine he i x P _ H' _ hi p.1 p.2 fun σ2 hw ht hv => ⟨hw H' (Same.refl _), ?_⟩
  rw [fm_take hi]
  refine lc_turnF p.1 p.2 ?_ ht hv
  have h2 := fm_le (xs.take i) sel
  rw [List.length_take] at h2
  omega
theorem lcGT {a : Addr} {xs : List V} {g : TG} {vs : List Nat} (sel : V → Option V) (o : Own H0 H L) (h : ∀ H' p zs, Own H0 H' ((p, .lst zs) :: L) → SqT K H' a xs) (h1 : SqT K H a xs) (hz : xs.length < 10000000)
    (he : ∀ (i : Nat) (x : V) (p : Addr) (zs : List V) (H' : Hp) (R : L2.St → Hp → Prop), xs[i]? = some x → Own H0 H' ((p, .lst zs) :: L) → Stp H H' →
      (∀ σ2, (∀ H2, Same H' H2 → wipe σ2 vs = wipe σ vs) → (∀ Q : Bool → Hp → Prop, (∀ H2, Same H' H2 → Q (sel x).isSome H2) → tt σ2 H' Q) → (∀ y H2, sel x = some y → Same H' H2 → ∀ Q : VK, RetV H2 Q y → te σ2 H2 Q) → R σ2 H') → g x (wipe σ vs) H' R)
    (k : ∀ p H', Stp H H' → Own H0 H' ((p, .lst (xs.filterMap sel)) :: L) → Q (.ref p) H') :
    ∃ a', V.ref a = .ref a' ∧ (∃ xs, SqT K H a' xs) ∧ RLc (Itt K a') g tt te vs σ H Q := by
  refine ⟨a, rfl, ⟨xs, h1⟩, fun P hP => ?_⟩
  refine lc_tup (K := K) (a := a) (xs := xs) (fun i H' => Own H0 H' ((P, .lst ((xs.take i).filterMap sel)) :: L) ∧ Stp H H') ⟨o.new hP, .of (same_new hP)⟩ (fun i H' _ p => h H' _ _ p.1) (fun i x H' hi p => ?_) (fun H' p => k P H' p.2 (by have p := p.1; rw [List.take_of_length_le (Nat.le_refl _)] at p; exact p))
  refine he i x P _ H' _ hi p.1 p.2 fun σ2 hw ht hv => ⟨hw H' (Same.refl _), ?_⟩
  rw [fm_take hi]
  refine lc_turnF p.1 p.2 ?_ ht hv
  have h2 := fm_le (xs.take i) sel
  rw [List.length_take] at h2
  omega
/-- .. over range(n) -/
theorem lcGR {n s : Nat} {vs : List Nat} (sel : Nat → Option V) (o : Own H0 H L) (hn : j = (n : Int)) (hz : n < 10000000) (hw : ∀ x, wipe ((wipe σ vs).set s (some x)) vs = wipe σ vs)
    (ht : ∀ (i : Nat) (p : Addr) (zs : List V) (H' : Hp) (Q : Bool → Hp → Prop), i < n → Own H0 H' ((p, .lst zs) :: L) → Stp H H' → (∀ H2, Same H' H2 → Q (sel i).isSome H2) → tt ((wipe σ vs).set s (some (.int (i : Int)))) H' Q)
    (he : ∀ (i : Nat) (y : V) (p : Addr) (zs : List V) (H' : Hp) (Q : VK), i < n → sel i = some y → Own H0 H' ((p, .lst zs) :: L) → Stp H H' → RetV H' Q y → te ((wipe σ vs).set s (some (.int (i : Int)))) H' Q)
    (k : ∀ p H', Stp H H' → Own H0 H' ((p, .lst ((List.range n).filterMap sel)) :: L) → Q (.ref p) H') :
    ∃ k : Int, [V.int j] = [.int k] ∧ -(2 ^ 62) ≤ k ∧ k < 2 ^ 62 ∧ RLc (Itr 0 k.toNat) (gName s) tt te vs σ H Q := by
  refine ⟨j, rfl, by omega, by omega, fun P hP => ?_⟩
  have e : j.toNat = n := by omega
  rw [e]
  refine lc_range (lo := 0) (n := n) (fun i H' => Own H0 H' ((P, .lst ((List.range i).filterMap sel)) :: L) ∧ Stp H H') ⟨o.new hP, .of (same_new hP)⟩ (fun i H' hi p => ?_) (fun H' p => k P H' p.2 p.1)
  have e0 : (0 : Int) + (i : Int) = (i : Int) := Int.zero_add _
  rw [e0]
  refine ⟨hw _, ?_⟩
  have e1 : (List.range (i + 1)).filterMap sel = (List.range i).filterMap sel ++ (sel i).toList := by
    rw [List.range_succ, List.filterMap_append]
    congr 1
  rw [e1]
  refine lc_turnF p.1 p.2 ?_ (fun Q q => ht i P _ H' Q hi p.1 p.2 q) (fun y H2 hy s2 Q q => he i y P _ H2 Q hi hy (p.1.mono s2) (p.2.trans (.of s2)) q)
  have h2 := fm_le (List.range i) sel
  rw [List.length_range] at h2
  omega
end
/-- ints chosen and mapped -/
def selI (p : Int → Bool) (f : Int → V) : V → Option V
  | .int x => if p x then some (f x) else none
  | _ => none
theorem fm_ints (p : Int → Bool) (f : Int → V) : ∀ ns : List Int, (ns.map V.int).filterMap (selI p f) = (ns.filter p).map f
  | [] => rfl
  | n :: ns => by
    show List.filterMap (selI p f) (V.int n :: ns.map V.int) = _
    have e : selI p f (V.int n) = if p n then some (f n) else none := rfl
    rw [List.filterMap_cons, List.filter_cons, fm_ints p f ns, e]
    cases p n <;> rfl
section
variable {σ : L2.St} {H H0 : Hp} {Q : VK} {te : TE} {tt : TT} {K : PySem.W.Frag} {L : List (Addr × HO)}
theorem lcLIF {a : Addr} {ns : List Int} {s : Nat} {vs : List Nat} (p : Int → Bool) (f : Int → V) (o : Own H0 H L) (h : ∀ H' p zs, Own H0 H' ((p, .lst zs) :: L) → SqL K H' a (ns.map V.int)) (h1 : SqL K H a (ns.map V.int)) (hz : ns.length < 10000000) (hw : ∀ x, wipe ((wipe σ vs).set s (some x)) vs = wipe σ vs)
    (ht : ∀ (x : Int) (q : Addr) (zs : List V) (H' : Hp) (Q : Bool → Hp → Prop), x ∈ ns → Own H0 H' ((q, .lst zs) :: L) → (∀ H2, Same H' H2 → Q (p x) H2) → tt ((wipe σ vs).set s (some (.int x))) H' Q)
    (he : ∀ (x : Int) (q : Addr) (zs : List V) (H' : Hp) (Q : VK), x ∈ ns → p x = true → Own H0 H' ((q, .lst zs) :: L) → RetV H' Q (f x) → te ((wipe σ vs).set s (some (.int x))) H' Q)
    (k : ∀ q H', Own H0 H' ((q, .lst ((ns.filter p).map f)) :: L) → Q (.ref q) H') :
    ∃ a', V.ref a = .ref a' ∧ (∃ xs, SqL K H a' xs) ∧ RLc (Itl K a') (gName s) tt te vs σ H Q := by
  refine lcGL (selI p f) o h h1 (by rw [List.length_map]; exact hz) (fun i v q zs H' R hi o' _ r => ?_) (fun q H' _ o' => k q H' (by rw [fm_ints] at o'; exact o'))
  rw [List.getElem?_map] at hi
  cases e : ns[i]? with
  | none => rw [e] at hi; cases hi
  | some x =>
    rw [e] at hi
    cases hi
    have hx := List.mem_of_getElem? e
    refine r _ (fun _ _ => hw _) (fun Q qq => ht x q zs H' Q hx o' fun H2 s2 => ?_) fun y H2 hy s2 Q qq => ?_
    · have z := qq H2 s2
      have e2 : (selI p f (V.int x)).isSome = p x := by show (if p x then some (f x) else none).isSome = p x; cases p x <;> rfl
      rw [e2] at z
      exact z
    · have hy2 : (if p x then some (f x) else none) = some y := hy
      cases hp : p x with
      | false => rw [hp] at hy2; cases hy2
      | true =>
        rw [hp] at hy2
        cases hy2
        exact he x q zs H2 Q hx hp (o'.mono s2) qq
theorem lcTIF {a : Addr} {ns : List Int} {s : Nat} {vs : List Nat} (p : Int → Bool) (f : Int → V) (o : Own H0 H L) (h : ∀ H' p zs, Own H0 H' ((p, .lst zs) :: L) → SqT K H' a (ns.map V.int)) (h1 : SqT K H a (ns.map V.int)) (hz : ns.length < 10000000) (hw : ∀ x, wipe ((wipe σ vs).set s (some x)) vs = wipe σ vs)
    (ht : ∀ (x : Int) (q : Addr) (zs : List V) (H' : Hp) (Q : Bool → Hp → Prop), x ∈ ns → Own H0 H' ((q, .lst zs) :: L) → (∀ H2, Same H' H2 → Q (p x) H2) → tt ((wipe σ vs).set s (some (.int x))) H' Q)
    (he : ∀ (x : Int) (q : Addr) (zs : List V) (H' : Hp) (Q : VK), x ∈ ns → p x = true → Own H0 H' ((q, .lst zs) :: L) → RetV H' Q (f x) → te ((wipe σ vs).set s (some (.int x))) H' Q)
    (k : ∀ q H', Own H0 H' ((q, .lst ((ns.filter p).map f)) :: L) → Q (.ref q) H') :
    ∃ a', V.ref a = .ref a' ∧ (∃ xs, SqT K H a' xs) ∧ RLc (Itt K a') (gName s) tt te vs σ H Q := by
  refine lcGT (selI p f) o h h1 (by rw [List.length_map]; exact hz) (fun i v q zs H' R hi o' _ r => ?_) (fun q H' _ o' => k q H' (by rw [fm_ints] at o'; exact o'))
  rw [List.getElem?_map] at hi
  cases e : ns[i]? with
  | none => rw [e] at hi; cases hi
  | some x =>
    rw [e] at hi
    cases hi
    have hx := List.mem_of_getElem? e
    refine r _ (fun _ _ => hw _) (fun Q qq => ht x q zs H' Q hx o' fun H2 s2 => ?_) fun y H2 hy s2 Q qq => ?_
    · have z := qq H2 s2
      have e2 : (selI p f (V.int x)).isSome = p x := by show (if p x then some (f x) else none).isSome = p x; cases p x <;> rfl
      rw [e2] at z
      exact z
    · have hy2 : (if p x then some (f x) else none) = some y := hy
      cases hp : p x with
      | false => rw [hp] at hy2; cases hy2
      | true =>
        rw [hp] at hy2
        cases hy2
        exact he x q zs H2 Q hx hp (o'.mono s2) qq
/-- without a test -/
theorem lcTIV {a : Addr} {ns : List Int} {s : Nat} {vs : List Nat} (f : Int → V) (o : Own H0 H L) (h : ∀ H' p zs, Own H0 H' ((p, .lst zs) :: L) → SqT K H' a (ns.map V.int)) (h1 : SqT K H a (ns.map V.int)) (hz : ns.length < 10000000) (hw : ∀ x, wipe ((wipe σ vs).set s (some x)) vs = wipe σ vs)
    (he : ∀ (x : Int) (q : Addr) (zs : List V) (H' : Hp) (Q : VK), x ∈ ns → Own H0 H' ((q, .lst zs) :: L) → RetV H' Q (f x) → te ((wipe σ vs).set s (some (.int x))) H' Q)
    (k : ∀ q H', Own H0 H' ((q, .lst (ns.map f)) :: L) → Q (.ref q) H') :
    ∃ a', V.ref a = .ref a' ∧ (∃ xs, SqT K H a' xs) ∧ RLc (Itt K a') (gName s) tYes te vs σ H Q :=
  lcTIF (fun _ => true) f o h h1 hz hw (fun x q zs H' Q _ _ r => r H' (Same.refl _)) (fun x q zs H' Q hx _ o' r => he x q zs H' Q hx o' r) (fun q H' o' => k q H' (by rw [List.filter_eq_self.mpr (fun _ _ => rfl)] at o'; exact o'))
end

/-! ### constants reckoned, chains, all, any, bools -/
theorem pe_powC {X : Cx} {a b c : Int} {j1 j2 : Nat} {p1 p2 pos : Pos} (hc : CPow a b) (h : a ^ b.toNat = c) : PE X (.BinOp (.Constant (.int a) j1 p1) .Pow (.Constant (.int b) j2 p2) pos) (tC (.int c)) :=
  ⟨fun pins s σ H Q I h0 => (pe_op op_pow pe_int pe_int).run pins s σ H Q I (show rI CPow (fun i j => .int (i ^ j.toNat)) (.int a) (.int b) H Q from ⟨a, b, rfl, rfl, hc, by show Q (.int (a ^ b.toNat)) H; rw [h]; exact h0⟩)⟩
section
variable {σ : L2.St} {H : Hp} {Q : VK} {ta tb tc : TE} {K : PySem.W.Frag} {i j k : Int}
theorem r_chain {r r' : R2} (q : ta σ H fun x H1 => tb σ H1 fun y H2 => r x y H2 fun z H3 => RBl z H3 fun k H3 => RIf k (tc σ H3 fun w' H4 => r' y w' H4 Q) (Q (.bl false) H3)) : tChain r r' ta tb tc σ H Q := q
theorem r_all {a : Addr} {bs : List Bool} (h : SqL K H a (bs.map V.bl)) (q : Q (.bl (bs.all id)) H) : rAll K [.ref a] H Q := ⟨a, bs, rfl, h, q⟩
theorem r_any {a : Addr} {bs : List Bool} (h : SqL K H a (bs.map V.bl)) (q : Q (.bl (bs.any id)) H) : rAny K [.ref a] H Q := ⟨a, bs, rfl, h, q⟩
theorem r_isB {a b : Bool} (q : Q (.bl (decide (a = b))) H) : rIsB (.bl a) (.bl b) H Q := ⟨a, b, rfl, rfl, q⟩
end

/-! ### items from the end -/
theorem at_neg {ns : List Int} {d : Nat} (h0 : 0 < d) (h1 : d ≤ ns.length) : atI (ns.map V.int) (-(d : Int)) = some (.int (gi ns ((ns.length : Int) - (d : Int)))) := by
  unfold atI ixN
  rw [List.length_map, if_neg (by omega), if_pos (by omega)]
  show (ns.map V.int)[(-(d : Int) + (ns.length : Int)).toNat]? = _
  rw [show (-(d : Int) + (ns.length : Int)).toNat = ns.length - d by omega, List.getElem?_map, List.getElem?_eq_getElem (show ns.length - d < ns.length by omega)]
  unfold gi
  rw [show ((ns.length : Int) - (d : Int)).toNat = ns.length - d by omega, List.getD_eq_getElem?_getD, List.getElem?_eq_getElem (show ns.length - d < ns.length by omega)]
  rfl
theorem ix_neg {n d : Nat} (h0 : 0 < d) (h1 : d ≤ n) : ixN n (-(d : Int)) = some (n - d) := by
  unfold ixN
  rw [if_neg (by omega), if_pos (by omega)]
  congr 1
  omega
theorem fm_filter {α β : Type} (p : α → Bool) (f : α → β) : ∀ l : List α, l.filterMap (fun k => if p k then some (f k) else none) = (l.filter p).map f
  | [] => rfl
  | x :: l => by
    rw [List.filterMap_cons, List.filter_cons, fm_filter p f l]
    cases p x <;> rfl
/-! ### lists of ints cut and glued -/
theorem gi_nat {ns : List Int} {k : Nat} (h : k < ns.length) : gi ns (k : Int) = ns[k] := by
  unfold gi
  rw [List.getD_eq_getElem?_getD, show ((k : Int)).toNat = k from rfl, List.getElem?_eq_getElem h]
  rfl
theorem take_drop_sum {ns : List Int} {k : Nat} {z : Int} (h : k < ns.length) : (ns.take k ++ [z] ++ ns.drop (k + 1)).sum = ns.sum - gi ns k + z := by
  have e : ns.sum = (ns.take k ++ [ns[k]] ++ ns.drop (k + 1)).sum := by
    congr 1
    rw [List.append_assoc, List.singleton_append, List.getElem_cons_drop, List.take_append_drop]
  rw [e, gi_nat h]
  simp only [List.sum_append, List.sum_cons, List.sum_nil]
  omega
theorem map_cut3 {ns : List Int} {k : Nat} {z : Int} : ((ns.map V.int).take k ++ [V.int z]) ++ (ns.map V.int).drop (k + 1) = (ns.take k ++ [z] ++ ns.drop (k + 1)).map V.int := by
  rw [List.map_append, List.map_append, List.map_take, List.map_drop]
  rfl
theorem len_cut3 {ns : List Int} {k : Nat} {z : Int} (h : k < ns.length) : (ns.take k ++ [z] ++ ns.drop (k + 1)).length = ns.length := by
  rw [List.length_append, List.length_append, List.length_take, List.length_drop]
  simp
  omega

/-! ### a value or an answer known by a word only -/
def tCutE (t : TE) : TE := fun σ H Q => ∃ R : VK, t σ H R ∧ ∀ v H', R v H' → Q v H'
def tCutT (t : TT) : TT := fun σ H Q => ∃ R : Bool → Hp → Prop, t σ H R ∧ ∀ b H', R b H' → Q b H'
theorem pe_cutE {X : Cx} {e : Expr} {t : TE} (he : PE X e t) : PE X e (tCutE t) := ⟨fun pins s σ H Q I ⟨R, h, k⟩ => thn (he.run pins s σ H R I h) fun _ _ ⟨v, H', I', r, q⟩ => ⟨v, H', I', r, k v H' q⟩⟩
theorem pt_cutT {X : Cx} {e : Expr} {t : TT} (he : PT X e t) : PT X e (tCutT t) := ⟨fun pins s σ H Q I ⟨R, h, k⟩ => thn (he.run pins s σ H R I h) fun b _ ⟨H', I', q⟩ => ⟨H', I', k b H' q⟩⟩
theorem r_cutE {σ : L2.St} {H : Hp} {Q : VK} {t : TE} (R : VK) (h : t σ H R) (k : ∀ v H', R v H' → Q v H') : tCutE t σ H Q := ⟨R, h, k⟩
theorem r_cutT {σ : L2.St} {H : Hp} {Q : Bool → Hp → Prop} {t : TT} (R : Bool → Hp → Prop) (h : t σ H R) (k : ∀ b H', R b H' → Q b H') : tCutT t σ H Q := ⟨R, h, k⟩
/-- the value is an int of which P holds; the heap stands -/
def IntR (H : Hp) (P : Int → Prop) : VK := fun v H' => H' = H ∧ ∃ m, v = .int m ∧ P m
theorem r_cutI {σ : L2.St} {H : Hp} {Q : VK} {t : TE} (P : Int → Prop) (h : t σ H (IntR H P)) (k : ∀ m, P m → Q (.int m) H) : tCutE t σ H Q := ⟨_, h, fun v H' ⟨e, m, e2, p⟩ => by subst e; subst e2; exact k m p⟩
/-- the answer is that of p; the heap stands -/
theorem r_cutB {σ : L2.St} {H : Hp} {Q : Bool → Hp → Prop} {t : TT} (c : Bool) (h : t σ H fun b H' => b = c ∧ H' = H) (k : Q c H) : tCutT t σ H Q := ⟨_, h, fun v H' ⟨e, e2⟩ => by subst e; subst e2; exact k⟩
/-- the value is v; the heap may have grown -/
theorem r_cutO {H0 : Hp} {σ : L2.St} {H : Hp} {Q : VK} {t : TE} (v : V) (L : List (Addr × HO)) (h : t σ H fun v' H' => v' = v ∧ Own H0 H' L) (k : ∀ H', Own H0 H' L → Q v H') : tCutE t σ H Q := ⟨_, h, fun v' H' ⟨e, o⟩ => by subst e; exact k H' o⟩
theorem rif_p {p : Prop} [Decidable p] {A B : Prop} (h1 : p → A) (h2 : ¬ p → B) : RIf (decide p) A B := rif h1 h2

/-! ### data of tuples: it stands while lists change -/
mutual
inductive Tp (K : PySem.W.Frag) (H : Hp) : V → PyData → Prop
  | non : Tp K H .non .none
  | bl (b : Bool) : Tp K H (.bl b) (.bool b)
  | int (i : Int) : Tp K H (.int i) (.int i)
  | str (x : Str) : Tp K H (.str x) (.str x)
  | tup {a : Addr} {xs : List V} {ds : List PyData} : SqT K H a xs → TpAll K H xs ds → Tp K H (.ref a) (.tuple ds)
inductive TpAll (K : PySem.W.Frag) (H : Hp) : List V → List PyData → Prop
  | nil : TpAll K H [] []
  | cons {v : V} {vs : List V} {d : PyData} {ds : List PyData} : Tp K H v d → TpAll K H vs ds → TpAll K H (v :: vs) (d :: ds)
end
section
variable {K : PySem.W.Frag} {H H' H0 : Hp} {Q : VK} {L : List (Addr × HO)}
mutual
theorem Tp.stp (e : Stp H H') : ∀ (d : PyData) (v : V), Tp K H v d → Tp K H' v d
  | .none, _, h => by cases h; exact .non
  | .bool b, _, h => by cases h; exact .bl b
  | .int i, _, h => by cases h; exact .int i
  | .str x, _, h => by cases h; exact .str x
  | .tuple ds, _, h => by
    cases h with
    | tup hs ha => exact .tup (e.sq hs) (TpAll.stp e ds _ ha)
  | .list _, _, h => by cases h
  | .dict _, _, h => by cases h
theorem TpAll.stp (e : Stp H H') : ∀ (ds : List PyData) (vs : List V), TpAll K H vs ds → TpAll K H' vs ds
  | [], _, h => by cases h; exact .nil
  | d :: ds, _, h => by
    cases h with
    | cons h1 h2 => exact .cons (Tp.stp e d _ h1) (TpAll.stp e ds _ h2)
end
mutual
theorem Tp.dp : ∀ (d : PyData) (v : V), Tp K H v d → Dp K H v d
  | .none, _, h => by cases h; exact .non
  | .bool b, _, h => by cases h; exact .bl b
  | .int i, _, h => by cases h; exact .int i
  | .str x, _, h => by cases h; exact .str x
  | .tuple ds, _, h => by
    cases h with
    | tup hs ha => exact .tup hs (TpAll.dp ds _ ha)
  | .list _, _, h => by cases h
  | .dict _, _, h => by cases h
theorem TpAll.dp : ∀ (ds : List PyData) (vs : List V), TpAll K H vs ds → DpAll K H vs ds
  | [], _, h => by cases h; exact .nil
  | d :: ds, _, h => by
    cases h with
    | cons h1 h2 => exact .cons (Tp.dp d _ h1) (TpAll.dp ds _ h2)
end
theorem Tp.up {v : V} {d : PyData} (h : Tp K H v d) (e : Stp H H') : Tp K H' v d := Tp.stp e d v h
theorem TpAll.up {vs : List V} {ds : List PyData} (h : TpAll K H vs ds) (e : Stp H H') : TpAll K H' vs ds := TpAll.stp e ds vs h
theorem TpAll.len : ∀ {vs : List V} {ds : List PyData}, TpAll K H vs ds → vs.length = ds.length
  | _, _, .nil => rfl
  | _, _, .cons _ h => by rw [List.length_cons, List.length_cons, TpAll.len h]
theorem TpAll.get : ∀ {vs : List V} {ds : List PyData} {i : Nat} {d : PyData}, TpAll K H vs ds → ds[i]? = some d → ∃ v, vs[i]? = some v ∧ Tp K H v d
  | _, _, _, _, .nil, h => by simp at h
  | _, _, 0, _, .cons a _, h => by simp at h; subst h; exact ⟨_, rfl, a⟩
  | _, _, i + 1, _, .cons _ t, h => by
    obtain ⟨v, h1, h2⟩ := TpAll.get (i := i) t (by simpa using h)
    exact ⟨v, by simpa using h1, h2⟩
theorem TpAll.getV : ∀ {vs : List V} {ds : List PyData} {i : Nat} {v : V}, TpAll K H vs ds → vs[i]? = some v → ∃ d, ds[i]? = some d ∧ Tp K H v d
  | _, _, _, _, .nil, h => by simp at h
  | _, _, 0, _, .cons a _, h => by simp at h; subst h; exact ⟨_, rfl, a⟩
  | _, _, i + 1, _, .cons _ t, h => by
    obtain ⟨v, h1, h2⟩ := TpAll.getV (i := i) t (by simpa using h)
    exact ⟨v, by simpa using h1, h2⟩
theorem TpAll.app : ∀ {vs ws : List V} {ds es : List PyData}, TpAll K H vs ds → TpAll K H ws es → TpAll K H (vs ++ ws) (ds ++ es)
  | _, _, _, _, .nil, h => h
  | _, _, _, _, .cons a t, h => .cons a (TpAll.app t h)
theorem TpAll.snoc {vs : List V} {ds : List PyData} {v : V} {d : PyData} (h : TpAll K H vs ds) (t : Tp K H v d) : TpAll K H (vs ++ [v]) (ds ++ [d]) := h.app (.cons t .nil)
theorem TpAll.take : ∀ {vs : List V} {ds : List PyData} (n : Nat), TpAll K H vs ds → TpAll K H (vs.take n) (ds.take n)
  | _, _, _, .nil => by simp; exact .nil
  | _, _, 0, .cons _ _ => .nil
  | _, _, n + 1, .cons a t => .cons a (TpAll.take n t)
theorem TpAll.drop : ∀ {vs : List V} {ds : List PyData} (n : Nat), TpAll K H vs ds → TpAll K H (vs.drop n) (ds.drop n)
  | _, _, _, .nil => by simp; exact .nil
  | _, _, 0, .cons a t => .cons a t
  | _, _, n + 1, .cons _ t => TpAll.drop n t
theorem TpAll.ints : ∀ ns : List Int, TpAll K H (ns.map V.int) (ns.map PyData.int)
  | [] => .nil
  | n :: ns => .cons (.int n) (TpAll.ints ns)
theorem TpAll.ints_inv : ∀ {vs : List V} {ns : List Int}, TpAll K H vs (ns.map PyData.int) → vs = ns.map V.int
  | _, [], h => by cases h; rfl
  | _, n :: ns, h => by
    cases h with
    | cons a t => cases a; rw [TpAll.ints_inv t]; rfl
theorem Tp.inv {v : V} {ds : List PyData} (h : Tp K H v (.tuple ds)) : ∃ a xs, v = .ref a ∧ SqT K H a xs ∧ TpAll K H xs ds := by
  cases h with
  | tup hs ha => exact ⟨_, _, rfl, hs, ha⟩
theorem Tp.invI {v : V} {ns : List Int} (h : Tp K H v (.tuple (ns.map PyData.int))) : ∃ a, v = .ref a ∧ SqT K H a (ns.map V.int) := by
  obtain ⟨a, xs, rfl, hs, ha⟩ := h.inv
  rw [TpAll.ints_inv ha] at hs
  exact ⟨a, rfl, hs⟩
theorem Tp.intsT {a : Addr} {ns : List Int} (h : SqT K H a (ns.map V.int)) : Tp K H (.ref a) (.tuple (ns.map PyData.int)) := .tup h (TpAll.ints ns)
theorem Tp.int_inv {v : V} {n : Int} (h : Tp K H v (.int n)) : v = .int n := by cases h; rfl
theorem Tp.str_inv {v : V} {n : Str} (h : Tp K H v (.str n)) : v = .str n := by cases h; rfl
/-- t[i] of such a tuple -/
theorem r_ixTp {v : V} {ds : List PyData} {i : Nat} {d : PyData} (h : Tp K H v (.tuple ds)) (hd : ds[i]? = some d) (k : ∀ u, Tp K H u d → Q u H) : rIxT K v (.int (i : Int)) H Q := by
  obtain ⟨a, xs, rfl, hs, ha⟩ := h.inv
  obtain ⟨u, hu, t⟩ := ha.get hd
  exact r_ixT hs (atI_nat hu) (k u t)
theorem r_ixTpI {v : V} {ds : List PyData} {i : Nat} {n : Int} (h : Tp K H v (.tuple ds)) (hd : ds[i]? = some (.int n)) (q : Q (.int n) H) : rIxT K v (.int (i : Int)) H Q := r_ixTp h hd fun u t => by cases t; exact q
/-- a value of such data that a call hands back -/
def RetD (K : PySem.W.Frag) (H : Hp) (Q : VK) (d : PyData) : Prop := ∀ H' v, Same H H' → Tp K H' v d → Q v H'
theorem r_retD {v : PyData} (o : Own H0 H L) (k : ∀ u H', Same H H' → Own H0 H' L → Tp K H' u v → Q u H') : RetD K H Q v := fun H' u e t => k u H' e (o.mono e) t
theorem RetD.mk {v : V} {d : PyData} (q : RetD K H0 Q d) (o : Own H0 H L) (t : Tp K H v d) : Q v H := q H v o.ex t
/-! the rules that tell that tuples stand -/
theorem r_newLs {xs : List V} (o : Own H0 H L) (hz : xs.length ≤ 10000000) (k : ∀ p H', Stp H H' → Own H0 H' ((p, .lst xs) :: L) → Q (.ref p) H') : RNewL xs H Q := ⟨sz100 hz, fun p hp => k p _ (.of (same_new hp)) (o.new hp)⟩
theorem r_newTs {xs : List V} (o : Own H0 H L) (hz : xs.length ≤ 10000000) (k : ∀ p H', Stp H H' → Own H0 H' L → SqT K H' p xs → Q (.ref p) H') : RNewT xs H Q := ⟨sz100 hz, fun p hp => k p _ (.of (same_new hp)) (o.mono (same_new hp)) (SqT.of upd_same)⟩
theorem r_newTi {xs : List V} (ns : List Int) (e : xs = ns.map V.int) (o : Own H0 H L) (hz : ns.length ≤ 10000000) (k : ∀ p H', Stp H H' → Own H0 H' L → SqT K H' p (ns.map V.int) → Q (.ref p) H') : RNewT xs H Q := by
  subst e
  exact r_newTs o (by rw [List.length_map]; exact hz) k
theorem r_newTp {xs : List V} {ds : List PyData} (o : Own H0 H L) (ha : TpAll K H xs ds) (hz : xs.length ≤ 10000000) (k : ∀ p H', Stp H H' → Own H0 H' L → Tp K H' (.ref p) (.tuple ds) → Q (.ref p) H') : RNewT xs H Q :=
  r_newTs o hz fun p H' s o' h => k p H' s o' (.tup h (ha.up s))
theorem r_apps {l : Addr} {xs : List V} {y : V} (o : Own H0 H L) (n : Nat) (h : L[n]? = some (l, .lst xs)) (hz : xs.length < 10000000) (k : ∀ H', Stp H H' → Own H0 H' (L.set n (l, .lst (xs ++ [y]))) → Q .non H') : rAppend (.ref l) [y] H Q :=
  ⟨l, xs, y, rfl, rfl, o.at n h, sz_lt hz, k _ (Stp.set (o.at n h)) (o.set n h)⟩
theorem r_setLs {l : Addr} {xs : List V} {k : Nat} {i : Int} {v : V} {R : Hp → Prop} (o : Own H0 H L) (n : Nat) (h : L[n]? = some (l, .lst xs)) (hj : ixN xs.length i = some k) (q : ∀ H', Stp H H' → Own H0 H' (L.set n (l, .lst (xs.set k v))) → R H') : rSetL (.ref l) (.int i) v H R :=
  ⟨l, xs, i, k, rfl, rfl, o.at n h, hj, q _ (Stp.set (o.at n h)) (o.set n h)⟩
theorem r_tupLs {p : Addr} {xs : List V} (o : Own H0 H L) (h : SqL K H p xs) (k : ∀ l H', Stp H H' → Own H0 H' L → SqT K H' l xs → Q (.ref l) H') : rTupS K [.ref p] H Q :=
  ⟨p, xs, rfl, .inl ⟨h, fun l hl => k l _ (.of (same_new hl)) (o.mono (same_new hl)) (SqT.of upd_same)⟩⟩
theorem r_ret1s {u : HO} (o : Own H0 H L) (k : ∀ p H', Stp H H' → Own H0 H' ((p, u) :: L) → Q (.ref p) H') : RetO H Q u := fun H' p e f h => k p H' (.of e) (o.add e f h)
theorem r_slLs {a : Addr} {xs : List V} {lo hi : Option Int} (o : Own H0 H L) (h : SqL K H a xs) (k : ∀ p H', Stp H H' → Own H0 H' ((p, .lst (cutV xs lo hi)) :: L) → Q (.ref p) H') : rSlL K (.ref a) lo hi H Q := ⟨a, xs, rfl, h, fun p hp => k p _ (.of (same_new hp)) (o.new hp)⟩
theorem r_cats {a b : Addr} {xs ys : List V} (o : Own H0 H L) (ha : H a = some (.lst xs)) (hb : H b = some (.lst ys)) (hz : xs.length + ys.length ≤ 10000000) (k : ∀ p H', Stp H H' → Own H0 H' ((p, .lst (xs ++ ys)) :: L) → Q (.ref p) H') : rCat (.ref a) (.ref b) H Q :=
  ⟨a, b, xs, ys, rfl, rfl, ha, hb, sz100 hz, fun p hp => k p _ (.of (same_new hp)) (o.new hp)⟩
theorem r_lists {p : Addr} {xs : List V} (o : Own H0 H L) (h : SqL K H p xs) (k : ∀ l H', Stp H H' → Own H0 H' ((l, .lst xs) :: L) → Q (.ref l) H') : Evl.rListS K [.ref p] H Q := ⟨p, xs, rfl, .inl h, fun l hl => k l _ (.of (same_new hl)) (o.new hl)⟩
theorem r_listTs {p : Addr} {xs : List V} (o : Own H0 H L) (h : SqT K H p xs) (k : ∀ l H', Stp H H' → Own H0 H' ((l, .lst xs) :: L) → Q (.ref l) H') : Evl.rListS K [.ref p] H Q := ⟨p, xs, rfl, .inr h, fun l hl => k l _ (.of (same_new hl)) (o.new hl)⟩
theorem r_eqTp {v u : V} {d e : PyData} (h : Tp K H v d) (h2 : Tp K H u e) (s1 : SeqAt.shaped d = true) (s2 : SeqAt.shaped e = true) (q : Q (.bl (PyData.eqv d e)) H) : rEqD K v u H Q := ⟨d, e, h.dp, h2.dp, s1, s2, q⟩
end

theorem ty_sqT {K : PySem.W.Frag} {H : Hp} {a : Addr} {xs : List V} (h : SqT K H a xs) : TyX K H (.ref a) (.type "tuple") := by
  rcases h with (h | ⟨o, h⟩) | ⟨o, its, n, h1, h2, _⟩
  · exact .base (.tup h)
  · exact .fTuple h
  · exact .kTuple h1 h2
theorem ty_sqL {K : PySem.W.Frag} {H : Hp} {a : Addr} {xs : List V} (h : SqL K H a xs) : TyX K H (.ref a) (.type "list") := by
  rcases h with (h | ⟨o, h⟩) | ⟨o, its, n, h1, h2, _⟩
  · exact .base (.lst h)
  · exact .base (.frz h)
  · exact .kList h1 h2
/-! ### zip -/
section
variable {σ : L2.St} {H : Hp} {K : PySem.W.Frag} {tr : TA} {D : Ends} {ts : TS} {g : TG}
def RZipA (K : PySem.W.Frag) (vs : List V) (H1 : Hp) (R : It → Hp → Prop) : Prop := ∃ a b xs ys, vs = [.ref a, .ref b] ∧ ((SqL K H1 a xs ∧ SqL K H1 b ys ∧ R (Itz K a b) H1) ∨ (SqT K H1 a xs ∧ SqT K H1 b ys ∧ R (RZ.ItzT K a b) H1))
theorem r_zipA {R : It → Hp → Prop} (q : tr σ H fun vs H1 => RZipA K vs H1 R) : RZ.iZipA K tr σ H R := q
theorem forZT {a b : Addr} {xs ys : List V} (ha : SqT K H a xs) (hb : SqT K H b ys) (hl : xs.length = ys.length) (Pv : Nat → L2.St → Hp → Prop) (h0 : Pv 0 σ H) (hq : ∀ i σ H, Pv i σ H → SqT K H a xs ∧ SqT K H b ys)
    (hs : ∀ (i : Nat) (x y : V) (T : Addr) (σ : L2.St) (H : Hp), xs[i]? = some x → ys[i]? = some y → Pv i σ H → H T = none → g (.ref T) σ (upd H T (.tup [x, y])) fun σ2 H2 => ts { D with nx := Pv (i + 1), ct := Pv (i + 1), bk := D.nx } σ2 H2) (hd : ∀ σ H, Pv xs.length σ H → D.nx σ H) :
    RZipA K [.ref a, .ref b] H fun J H1 => RFor J g ts D σ H1 := ⟨a, b, xs, ys, rfl, .inr ⟨ha, hb, RZ.for_zipT hl Pv h0 hq hs hd⟩⟩
theorem forZL {a b : Addr} {xs ys : List V} (ha : SqL K H a xs) (hb : SqL K H b ys) (hl : xs.length = ys.length) (Pv : Nat → L2.St → Hp → Prop) (h0 : Pv 0 σ H) (hq : ∀ i σ H, Pv i σ H → SqL K H a xs ∧ SqL K H b ys)
    (hs : ∀ (i : Nat) (x y : V) (T : Addr) (σ : L2.St) (H : Hp), xs[i]? = some x → ys[i]? = some y → Pv i σ H → H T = none → g (.ref T) σ (upd H T (.tup [x, y])) fun σ2 H2 => ts { D with nx := Pv (i + 1), ct := Pv (i + 1), bk := D.nx } σ2 H2) (hd : ∀ σ H, Pv xs.length σ H → D.nx σ H) :
    RZipA K [.ref a, .ref b] H fun J H1 => RFor J g ts D σ H1 := ⟨a, b, xs, ys, rfl, .inl ⟨ha, hb, RZ.for_zipL hl Pv h0 hq hs hd⟩⟩
/-- x, y = t: the target of a walk over pairs -/
theorem r_gTup2 {a : Addr} {x y : V} {i j : Nat} {R : L2.St → Hp → Prop} (h : SqT K H a [x, y]) (q : R ((σ.set i (some x)).set j (some y)) H) : gTup K 2 (gCons (gName i) (gCons (gName j) gNil)) (.ref a) σ H R :=
  ⟨a, [x, y], rfl, h, rfl, x, [y], rfl, y, [], rfl, rfl, q⟩
theorem r_gTup3 {a : Addr} {x y z : V} {i j k : Nat} {R : L2.St → Hp → Prop} (h : SqT K H a [x, y, z]) (q : R (((σ.set i (some x)).set j (some y)).set k (some z)) H) : gTup K 3 (gCons (gName i) (gCons (gName j) (gCons (gName k) gNil))) (.ref a) σ H R :=
  ⟨a, [x, y, z], rfl, h, rfl, x, [y, z], rfl, y, [z], rfl, z, [], rfl, rfl, q⟩
def rMax2 : List V → Hp → VK → Prop := fun xs H Q => ∃ i j, xs = [.int i, .int j] ∧ Q (.int (if j > i then j else i)) H
def rMin2 : List V → Hp → VK → Prop := fun xs H Q => ∃ i j, xs = [.int i, .int j] ∧ Q (.int (if j < i then j else i)) H
theorem r_max2 {i j : Int} {Q : VK} (q : Q (.int (if j > i then j else i)) H) : rMax2 [.int i, .int j] H Q := ⟨i, j, rfl, q⟩
theorem r_min2 {i j : Int} {Q : VK} (q : Q (.int (if j < i then j else i)) H) : rMin2 [.int i, .int j] H Q := ⟨i, j, rfl, q⟩
def rIsNon : R2 := fun x y H Q => y = .non ∧ Q (.bl (decide (x = .non))) H
def rNotNon : R2 := fun x y H Q => y = .non ∧ Q (.bl (!decide (x = .non))) H
theorem r_isNonN {Q : VK} (q : Q (.bl true) H) : rIsNon .non .non H Q := ⟨rfl, by rw [decide_eq_true rfl]; exact q⟩
theorem r_isNonR {a : Addr} {Q : VK} (q : Q (.bl false) H) : rIsNon (.ref a) .non H Q := ⟨rfl, by rw [decide_eq_false (by simp)]; exact q⟩
theorem r_isNonI {a : Int} {Q : VK} (q : Q (.bl false) H) : rIsNon (.int a) .non H Q := ⟨rfl, by rw [decide_eq_false (by simp)]; exact q⟩
theorem r_notNonN {Q : VK} (q : Q (.bl false) H) : rNotNon .non .non H Q := ⟨rfl, by rw [decide_eq_true rfl]; exact q⟩
theorem r_notNonR {a : Addr} {Q : VK} (q : Q (.bl true) H) : rNotNon (.ref a) .non H Q := ⟨rfl, by rw [decide_eq_false (by simp)]; exact q⟩
theorem r_notNonI {a : Int} {Q : VK} (q : Q (.bl true) H) : rNotNon (.int a) .non H Q := ⟨rfl, by rw [decide_eq_false (by simp)]; exact q⟩
end

/-! ### texts -/
def rAddStr : R2 := fun x y H Q => ∃ i j, x = .str i ∧ y = .str j ∧ i.length + j.length ≤ sizeLine ∧ Q (.str (i ++ j)) H
def rIntS : List V → Hp → VK → Prop := fun xs H Q => ∃ a n, xs = [.str a] ∧ PySem.intText? a = some n ∧ a.length ≤ 640 ∧ Q (.int n) H
def rLenStr : List V → Hp → VK → Prop := fun xs H Q => ∃ z, xs = [.str z] ∧ z.length ≤ sizeLine ∧ Q (.int z.length) H
section
variable {σ : L2.St} {H H0 : Hp} {Q : VK} {K : PySem.W.Frag} {L : List (Addr × HO)} {te : TE} {tt : TT}
theorem r_addS {a b : Str} (hz : a.length + b.length ≤ 10000000) (q : Q (.str (a ++ b)) H) : rAddStr (.str a) (.str b) H Q := ⟨a, b, rfl, rfl, sz100 hz, q⟩
theorem r_lenS {a : Str} (hz : a.length ≤ 10000000) (q : Q (.int a.length) H) : rLenStr [.str a] H Q := ⟨a, rfl, sz100 hz, q⟩
theorem r_slS {a : Str} {lo hi : Option Int} (hz : a.length ≤ 10000000) (q : Q (.str (cutS a lo hi)) H) : rSlS (.str a) lo hi H Q := ⟨a, rfl, sz100 hz, q⟩
theorem cutS_len (a : Str) (lo hi : Option Int) : (cutS a lo hi).length ≤ a.length := by
  unfold cutS
  show (List.toArray _).size ≤ a.cps.size
  rw [List.size_toArray, List.length_take, List.length_drop, Array.length_toList]
  omega
theorem addS_len (a b : Str) : (a ++ b).length = a.length + b.length := by
  show (a.cps ++ b.cps).size = a.cps.size + b.cps.size
  exact Array.size_append
theorem r_in {neg : Bool} {x : V} {p : Addr} {xs : List V} (h : SqL K H p xs ∨ SqT K H p xs) (hx : flatV x = true) (ha : xs.all flatV = true) (q : Q (.bl (if neg then !inV x xs else inV x xs)) H) : rIn K neg x (.ref p) H Q := ⟨p, xs, rfl, h, hx, ha, q⟩
theorem r_inY {x : V} {p : Addr} {xs : List V} (h : SqL K H p xs ∨ SqT K H p xs) (hx : flatV x = true) (ha : xs.all flatV = true) (q : Q (.bl (inV x xs)) H) : rIn K false x (.ref p) H Q := r_in h hx ha q
theorem r_inN {x : V} {p : Addr} {xs : List V} (h : SqL K H p xs ∨ SqT K H p xs) (hx : flatV x = true) (ha : xs.all flatV = true) (q : Q (.bl (!inV x xs)) H) : rIn K true x (.ref p) H Q := r_in h hx ha q
theorem r_ixS {p : Addr} {zs : List Str} {i : Int} (h : SqL K H p (zs.map V.str)) (h0 : 0 ≤ i) (h1 : i < zs.length) (q : ∀ z, z ∈ zs → zs[i.toNat]? = some z → Q (.str z) H) : rIxL K (.ref p) (.int i) H Q := by
  have h2 : i.toNat < zs.length := by omega
  have e := List.getElem?_eq_getElem h2
  exact r_ixL h (at_map h0 e) (q _ (List.getElem_mem h2) e)
theorem flat_strs (zs : List Str) : (zs.map V.str).all flatV = true := by
  rw [List.all_map, List.all_eq_true]
  intro _ _
  rfl
/-- [e for x in t], over a tuple, by the item -/
theorem lcTV {a : Addr} {xs : List V} {s : Nat} {vs : List Nat} (f : V → V) (o : Own H0 H L) (h : ∀ H' p zs, Own H0 H' ((p, .lst zs) :: L) → SqT K H' a xs) (h1 : SqT K H a xs) (hz : xs.length < 10000000) (hw : ∀ x, wipe ((wipe σ vs).set s (some x)) vs = wipe σ vs)
    (he : ∀ (i : Nat) (x : V) (q : Addr) (zs : List V) (H' : Hp) (Q : VK), xs[i]? = some x → Own H0 H' ((q, .lst zs) :: L) → Stp H H' → RetV H' Q (f x) → te ((wipe σ vs).set s (some x)) H' Q)
    (k : ∀ q H', Stp H H' → Own H0 H' ((q, .lst (xs.map f)) :: L) → Q (.ref q) H') :
    ∃ a', V.ref a = .ref a' ∧ (∃ xs, SqT K H a' xs) ∧ RLc (Itt K a') (gName s) tYes te vs σ H Q :=
  lcGT (fun v => some (f v)) o h h1 hz (fun i x p zs H' R hi o' s' r => r _ (fun _ _ => hw _) (fun Q q => q H' (Same.refl _)) fun y H2 hy s2 Q q => by
    cases hy
    exact he i x p zs H2 Q hi (o'.mono s2) (s'.trans (.of s2)) q) (fun q H' s' o' => k q H' s' (by rw [show (fun v => some (f v)) = some ∘ f from rfl, List.filterMap_eq_map] at o'; exact o'))
theorem lcLV {a : Addr} {xs : List V} {s : Nat} {vs : List Nat} (f : V → V) (o : Own H0 H L) (h : ∀ H' p zs, Own H0 H' ((p, .lst zs) :: L) → SqL K H' a xs) (h1 : SqL K H a xs) (hz : xs.length < 10000000) (hw : ∀ x, wipe ((wipe σ vs).set s (some x)) vs = wipe σ vs)
    (he : ∀ (i : Nat) (x : V) (q : Addr) (zs : List V) (H' : Hp) (Q : VK), xs[i]? = some x → Own H0 H' ((q, .lst zs) :: L) → Stp H H' → RetV H' Q (f x) → te ((wipe σ vs).set s (some x)) H' Q)
    (k : ∀ q H', Stp H H' → Own H0 H' ((q, .lst (xs.map f)) :: L) → Q (.ref q) H') :
    ∃ a', V.ref a = .ref a' ∧ (∃ xs, SqL K H a' xs) ∧ RLc (Itl K a') (gName s) tYes te vs σ H Q :=
  lcGL (fun v => some (f v)) o h h1 hz (fun i x p zs H' R hi o' s' r => r _ (fun _ _ => hw _) (fun Q q => q H' (Same.refl _)) fun y H2 hy s2 Q q => by
    cases hy
    exact he i x p zs H2 Q hi (o'.mono s2) (s'.trans (.of s2)) q) (fun q H' s' o' => k q H' s' (by rw [show (fun v => some (f v)) = some ∘ f from rfl, List.filterMap_eq_map] at o'; exact o'))
/-- .. with a test, over a list -/
theorem lcLVF {a : Addr} {xs : List V} {s : Nat} {vs : List Nat} (sel : V → Option V) (o : Own H0 H L) (h : ∀ H' p zs, Own H0 H' ((p, .lst zs) :: L) → SqL K H' a xs) (h1 : SqL K H a xs) (hz : xs.length < 10000000) (hw : ∀ x, wipe ((wipe σ vs).set s (some x)) vs = wipe σ vs)
    (ht : ∀ (i : Nat) (x : V) (q : Addr) (zs : List V) (H' : Hp) (Q : Bool → Hp → Prop), xs[i]? = some x → Own H0 H' ((q, .lst zs) :: L) → Stp H H' → (∀ H2, Same H' H2 → Q (sel x).isSome H2) → tt ((wipe σ vs).set s (some x)) H' Q)
    (he : ∀ (i : Nat) (x y : V) (q : Addr) (zs : List V) (H' : Hp) (Q : VK), xs[i]? = some x → sel x = some y → Own H0 H' ((q, .lst zs) :: L) → Stp H H' → RetV H' Q y → te ((wipe σ vs).set s (some x)) H' Q)
    (k : ∀ q H', Stp H H' → Own H0 H' ((q, .lst (xs.filterMap sel)) :: L) → Q (.ref q) H') :
    ∃ a', V.ref a = .ref a' ∧ (∃ xs, SqL K H a' xs) ∧ RLc (Itl K a') (gName s) tt te vs σ H Q :=
  lcGL sel o h h1 hz (fun i x p zs H' R hi o' s' r => r _ (fun _ _ => hw _) (fun Q q => ht i x p zs H' Q hi o' s' q) fun y H2 hy s2 Q q => he i x y p zs H2 Q hi hy (o'.mono s2) (s'.trans (.of s2)) q) k
end
/-- a written tuple of the module -/
theorem sqT_top {K : PySem.W.Frag} {p : Addr} {od : Option Addr} {its : Array Value} {n : Nat} {sl : Array (Option Value)} {xs : List V} (l : K.lookup p = some ⟨.type "tuple", od, .seq its n, sl⟩) (hz : its.size ≤ sizeLine) (hv : Vals xs its.toList) : ∀ H : Hp, SqT K H p xs :=
  fun _ => .inr ⟨_, its, n, l, rfl, rfl, hz, hv⟩

/-! ### [e for p in range(n) for q in range(lo, hi, c)] -/
def RLc2 (J : It) (g : TG) (tt : TT) (wi1 : TI) (g1 : TG) (tt1 : TT) (te : TE) (vs vs1 : List Nat) (σ : L2.St) (H1 : Hp) (Q : VK) : Prop := ∀ D, H1 D = none → ∃ W : Nat → Nat → Hp → Prop, (∃ m, W 0 m (upd H1 D (.lst []))) ∧ ∀ i m H, W i m H →
  (J.stop i H ∧ Q (.ref D) H) ∨ (J.go i H ∧ ∃ Nx : Hp → Prop, (∀ H', Nx H' → ∃ m', m' < m ∧ W (i + 1) m' H') ∧ ∀ x H', J.yld i H x H' → g x (wipe σ vs) H' fun σ2 H2 => wipe σ2 vs = wipe σ vs ∧ tt σ2 H2 fun b H3 =>
    if b = true then wi1 σ2 H3 fun J1 H4 => ∃ W1 : Nat → Nat → Hp → Prop, (∃ m, W1 0 m H4) ∧ ∀ j k H, W1 j k H →
      (J1.stop j H ∧ Nx H) ∨ (J1.go j H ∧ ∃ Nx1 : Hp → Prop, (∀ H', Nx1 H' → ∃ k', k' < k ∧ W1 (j + 1) k' H') ∧ ∀ x H', J1.yld j H x H' → g1 x (wipe σ2 vs1) H' fun σ3 H5 => wipe σ3 vs1 = wipe σ2 vs1 ∧ tt1 σ3 H5 fun b H6 =>
        if b = true then te σ3 H6 fun y H7 => ∃ acc, H7 D = some (.lst acc) ∧ acc.length < sizeLine ∧ Nx1 (upd H7 D (.lst (acc ++ [y]))) else Nx1 H6)
    else Nx H3)
theorem r_lc2 {σ : L2.St} {H : Hp} {Q : VK} {wi wi1 : TI} {g g1 : TG} {tt tt1 : TT} {te : TE} {vs vs1 : List Nat} (q : wi σ H fun J H1 => RLc2 J g tt wi1 g1 tt1 te vs vs1 σ H1 Q) : tLc2 wi g tt wi1 g1 tt1 te vs vs1 σ H Q := q
theorem lc2R3 {σ : L2.St} {H H0 : Hp} {Q : VK} {L : List (Addr × HO)} {te : TE} {wi1 : TI} {j c : Int} {n s s1 : Nat} {vs vs1 : List Nat} (lo : Nat → Int) (m : Nat → Nat) (o : Own H0 H L) (hn : j = (n : Int)) (hz : n ≤ 10000000)
    (hzz : ((List.range n).flatMap fun p => (List.range (m p)).map fun (k : Nat) => V.int (lo p + (k : Int) * c)).length < 10000000)
    (hw : ∀ x, wipe ((wipe σ vs).set s (some x)) vs = wipe σ vs) (hw1 : ∀ x y, wipe ((wipe ((wipe σ vs).set s (some x)) vs1).set s1 (some y)) vs1 = wipe ((wipe σ vs).set s (some x)) vs1)
    (hin : ∀ (p : Nat) (H' : Hp) (R : It → Hp → Prop), p < n → R (Itc (lo p) c (m p)) H' → wi1 ((wipe σ vs).set s (some (.int (p : Int)))) H' R)
    (he : ∀ (x : V) (z : Int) (H' : Hp) (Q : VK), Q (.int z) H' → te ((wipe ((wipe σ vs).set s (some x)) vs1).set s1 (some (.int z))) H' Q)
    (k : ∀ p H', Own H0 H' ((p, .lst ((List.range n).flatMap fun p => (List.range (m p)).map fun (k : Nat) => V.int (lo p + (k : Int) * c))) :: L) → Q (.ref p) H') :
    ∃ k : Int, [V.int j] = [.int k] ∧ -(2 ^ 62) ≤ k ∧ k < 2 ^ 62 ∧ RLc2 (Itr 0 k.toNat) (gName s) tYes wi1 (gName s1) tYes te vs vs1 σ H Q := by
  have hout : ∀ i, i ≤ n → ((List.range i).flatMap fun p => (List.range (m p)).map fun (k : Nat) => V.int (lo p + (k : Int) * c)).length ≤ ((List.range n).flatMap fun p => (List.range (m p)).map fun (k : Nat) => V.int (lo p + (k : Int) * c)).length := fun i hi => by
    have e : List.range n = List.range i ++ (List.range (n - i)).map (i + ·) := by
      rw [← List.range_add]
      congr 1
      omega
    rw [e, List.flatMap_append, List.length_append]
    omega
  refine ⟨j, rfl, by omega, by omega, fun D hD => ?_⟩
  have e : j.toNat = n := by omega
  rw [e]
  refine ⟨fun i mm H' => mm = n - i ∧ i ≤ n ∧ Own H0 H' ((D, .lst ((List.range i).flatMap fun p => (List.range (m p)).map fun (k : Nat) => V.int (lo p + (k : Int) * c))) :: L), ⟨n, rfl, Nat.zero_le _, o.new hD⟩, ?_⟩
  rintro i mm H' ⟨rfl, hi, o'⟩
  by_cases hlt : i < n
  · refine .inr ⟨hlt, fun H2 => Own H0 H2 ((D, .lst ((List.range (i + 1)).flatMap fun p => (List.range (m p)).map fun (k : Nat) => V.int (lo p + (k : Int) * c))) :: L), fun H2 p2 => ⟨n - (i + 1), by omega, rfl, hlt, p2⟩, ?_⟩
    rintro x H2 ⟨rfl, rfl⟩
    have e0 : (0 : Int) + (i : Int) = (i : Int) := Int.zero_add _
    rw [e0]
    refine ⟨hw _, ?_⟩
    refine iteT (B := Own H0 H2 ((D, .lst ((List.range (i + 1)).flatMap fun p => (List.range (m p)).map fun (k : Nat) => V.int (lo p + (k : Int) * c))) :: L)) (hin i H2 _ hlt ?_)
    have hs : (List.range (i + 1)).flatMap (fun p => (List.range (m p)).map fun (k : Nat) => V.int (lo p + (k : Int) * c)) = (List.range i).flatMap (fun p => (List.range (m p)).map fun (k : Nat) => V.int (lo p + (k : Int) * c)) ++ (List.range (m i)).map fun (k : Nat) => V.int (lo i + (k : Int) * c) := by
      rw [List.range_succ, List.flatMap_append]
      simp
    rw [hs]
    have hl2 := hout (i + 1) hlt
    rw [hs, List.length_append, List.length_map, List.length_range] at hl2
    refine ⟨fun j2 k2 H3 => k2 = m i - j2 ∧ j2 ≤ m i ∧ Own H0 H3 ((D, .lst ((List.range i).flatMap (fun p => (List.range (m p)).map fun (k : Nat) => V.int (lo p + (k : Int) * c)) ++ (List.range j2).map fun (k : Nat) => V.int (lo i + (k : Int) * c))) :: L), ⟨m i, rfl, Nat.zero_le _, by rw [show ((List.range 0).map fun (k : Nat) => V.int (lo i + ((k : Nat) : Int) * c)) = [] from rfl, List.append_nil]; exact o'⟩, ?_⟩
    rintro j2 k2 H3 ⟨rfl, hj, o3⟩
    by_cases hlt2 : j2 < m i
    · refine .inr ⟨hlt2, fun H4 => Own H0 H4 ((D, .lst ((List.range i).flatMap (fun p => (List.range (m p)).map fun (k : Nat) => V.int (lo p + (k : Int) * c)) ++ (List.range (j2 + 1)).map fun (k : Nat) => V.int (lo i + (k : Int) * c))) :: L), fun H4 p4 => ⟨m i - (j2 + 1), by omega, rfl, hlt2, p4⟩, ?_⟩
      rintro x H4 ⟨rfl, rfl⟩
      refine ⟨hw1 _ _, ?_⟩
      refine iteT (B := Own H0 H4 ((D, .lst ((List.range i).flatMap (fun p => (List.range (m p)).map fun (k : Nat) => V.int (lo p + (k : Int) * c)) ++ (List.range (j2 + 1)).map fun (k : Nat) => V.int (lo i + (k : Int) * c))) :: L)) (he _ _ H4 _ ⟨_, o3.at 0 rfl, sz_lt ?_, ?_⟩)
      · rw [List.length_append, List.length_map, List.length_range]
        omega
      · have o5 := o3.set (v := .lst (((List.range i).flatMap (fun p => (List.range (m p)).map fun (k : Nat) => V.int (lo p + (k : Int) * c)) ++ (List.range j2).map fun (k : Nat) => V.int (lo i + (k : Int) * c)) ++ [V.int (lo i + (j2 : Int) * c)])) 0 rfl
        rw [List.range_succ, List.map_append, ← List.append_assoc]
        exact o5
    · refine .inl ⟨show m i ≤ j2 by omega, ?_⟩
      have ej : j2 = m i := by omega
      rw [ej] at o3
      exact o3
  · refine .inl ⟨show n ≤ i by omega, ?_⟩
    have ei : i = n := by omega
    rw [ei] at o'
    exact k D _ o'

theorem fm_some {α β : Type} (f : α → Option β) (g : α → β) : ∀ (l : List α), (∀ k ∈ l, f k = some (g k)) → l.filterMap f = l.map g
  | [], _ => rfl
  | x :: l, h => by
    rw [List.filterMap_cons, h x List.mem_cons_self, List.map_cons, fm_some f g l fun k hk => h k (List.mem_cons_of_mem _ hk)]
/-! ### xs[lo:hi:c] -/
def stpV (xs : List V) (lo hi : Option Int) (c : Int) : List V := (sliceRange (sliceBounds lo hi (some c) xs.length).1 (sliceBounds lo hi (some c) xs.length).2.1 (sliceBounds lo hi (some c) xs.length).2.2).filterMap (xs[·]?)
theorem vals_pick {xs : List V} {us : List Value} (r : Vals xs us) : ∀ is : List Nat, Vals (is.filterMap (xs[·]?)) (is.filterMap (us[·]?))
  | [] => .nil
  | i :: is => by
    rw [List.filterMap_cons, List.filterMap_cons]
    cases h : xs[i]? with
    | none =>
      rw [r.none_of h]
      exact vals_pick r is
    | some x =>
      obtain ⟨u, hu, ru⟩ := r.get h
      rw [hu]
      exact .cons ru (vals_pick r is)
def tSl3 (K : PySem.W.Frag) (te : TE) (tl th ts : TO) : TE := fun σ H Q => te σ H fun x H1 => tl σ H1 fun l H2 => th σ H2 fun u H3 => ts σ H3 fun c H4 => ∃ a xs i, x = .ref a ∧ c = some i ∧ i ≠ 0 ∧ SqL K H4 a xs ∧ (stpV xs l u i).length ≤ sizeLine ∧ ∀ p, H4 p = none → Q (.ref p) (upd H4 p (.lst (stpV xs l u i)))
theorem pe_sl3 {X : Cx} {e : Expr} {lo hi : Option Expr} {st : Expr} {te : TE} {tl th ts : TO} {p2 pos : Pos} (he : PE X e te) (hl : PO X lo tl) (hu : PO X hi th) (hst : PO X (some st) ts) : PE X (.Subscript e (.Slice lo hi (some st) p2) pos) (tSl3 X.K te tl th ts) := by
  refine ⟨fun pins s σ H Q I h => ?_⟩
  refine Subscript_ (thn (he.run pins s σ H _ I h) fun v s1 ⟨x, H1, I1, r1, q1⟩ => ?_)
  refine wpAny_Slice (thn (hl.run pins s1 σ H1 _ I1 q1) fun vl s2 ⟨l, H2, I2, pl, q2⟩ => ?_)
  refine thn (hu.run pins s2 σ H2 _ I2 q2) fun vu s3 ⟨u, H3, I3, pu, q3⟩ => ?_
  refine thn (hst.run pins s3 σ H3 _ I3 q3) fun vs s4 ⟨c, H4, I4, ps, q4⟩ => ?_
  obtain ⟨a, xs, i, ex, ec, h0, hx, hzz, q⟩ := q4
  subst ex
  subst ec
  cases r1
  have I5 : Inv X pins σ H4 { s4 with heap := s4.heap.push { cls := .type "slice", data := .fields #[vl, vu, vs] } } := I4.kept (t' := s4.toks) fun b ob q => Heap.get?_push_of_some _ q
  obtain ⟨its, r, ht, hz⟩ := I5.list hx
  have hlen := r.length
  show wpAny (model X.prog X.w) X.A (subscriptTail e (.Slice lo hi (some st) p2) (.ref a) (.ref s4.heap.objs.size)) (EP X pins σ Q) X.xe { s4 with heap := s4.heap.push { cls := .type "slice", data := .fields #[vl, vu, vs] } }
  refine tail_any (ops := [.ref a, .ref s4.heap.objs.size]) ht.isList.typeIs (PySem.slot_list_getitem.lookup) ?_ (by with_unfolding_all rfl)
  refine wpAny_getItem_list_slice ht.isList (Heap.IsSliceOf.new _ vl vu vs) pl pu ps (fun z => h0 (Option.some.inj z)) ?_ (by rw [List.size_toArray]; omega)
  have ep : slicePick its.toArray l u (some i) = ((sliceRange (sliceBounds l u (some i) xs.length).1 (sliceBounds l u (some i) xs.length).2.1 (sliceBounds l u (some i) xs.length).2.2).filterMap (its[·]?)).toArray := by
    unfold slicePick
    rw [List.size_toArray, ← hlen]
    simp only [List.getElem?_toArray]
  rw [ep]
  refine ⟨.ref _, _, I5.laid (t' := s4.toks) (o := .lst (stpV xs l u i)) (fun b ob q => Heap.get?_push_of_some _ q) (Nat.le_refl _) ?_, rfl, q _ (I5.hok.fresh (Nat.le_refl _))⟩
  exact ⟨hzz, _, 0, vals_pick r _, Heap.get?_push_size _ rfl⟩
def RSl3 (K : PySem.W.Frag) (x : V) (l u c : Option Int) (H : Hp) (Q : VK) : Prop := ∃ a xs i, x = .ref a ∧ c = some i ∧ i ≠ 0 ∧ SqL K H a xs ∧ (stpV xs l u i).length ≤ sizeLine ∧ ∀ p, H p = none → Q (.ref p) (upd H p (.lst (stpV xs l u i)))
theorem r_sl3 {K : PySem.W.Frag} {σ : L2.St} {H : Hp} {Q : VK} {te : TE} {tl th ts : TO} (q : te σ H fun x H1 => tl σ H1 fun l H2 => th σ H2 fun u H3 => ts σ H3 fun c H4 => RSl3 K x l u c H4 Q) : tSl3 K te tl th ts σ H Q := q
theorem r_slc {K : PySem.W.Frag} {H H0 : Hp} {Q : VK} {L : List (Addr × HO)} {a : Addr} {xs : List V} {l u : Option Int} {i : Int} (o : Own H0 H L) (h : SqL K H a xs) (h0 : i ≠ 0) (hz : (stpV xs l u i).length ≤ 10000000) (k : ∀ p H', Stp H H' → Own H0 H' ((p, .lst (stpV xs l u i)) :: L) → Q (.ref p) H') : RSl3 K (.ref a) l u (some i) H Q :=
  ⟨a, xs, i, rfl, rfl, h0, h, sz100 hz, fun p hp => k p _ (.of (same_new hp)) (o.new hp)⟩
theorem flat_rep {α : Type} : ∀ (n : Nat) (x : α), (List.replicate n [x]).flatten = List.replicate n x
  | 0, _ => rfl
  | n + 1, x => by rw [List.replicate_succ, List.flatten_cons, flat_rep n x]; rfl
/-- a list times an int -/
theorem r_rep {H H0 : Hp} {Q : VK} {L : List (Addr × HO)} {a : Addr} {x : V} {i : Int} {n : Nat} (o : Own H0 H L) (ha : H a = some (.lst [x])) (hi : i.toNat = n) (hk : -(2 ^ 63) ≤ i ∧ i < 2 ^ 63) (hz : n ≤ 10000000) (k : ∀ p H', Stp H H' → Own H0 H' ((p, .lst (List.replicate n x)) :: L) → Q (.ref p) H') : rRep (.ref a) (.int i) H Q := by
  refine ⟨a, i, [x], rfl, rfl, ha, hk.1, hk.2, sz100 (by rw [hi]; simp; exact hz), fun p hp => ?_⟩
  have e : (List.replicate i.toNat [x]).flatten = List.replicate n x := by
    rw [hi]
    exact flat_rep n x
  rw [e]
  exact k p _ (.of (same_new hp)) (o.new hp)

/-! ### defs -/
/-- the def x of the text stands at its name -/
structure FunAt (K : PySem.W.Frag) (mg : Str → Option Value) (x : Str) (st : Stmt) (ps : List Str) : Prop where
  ex : ∃ f fd, Fun K x x st f fd ∧ mg x = some (.ref f) ∧ Binds K fd ps []
/-- .. and keeps a promise -/
structure Def (P : Program) (w : World) (K : PySem.W.Frag) (mg : Str → Option Value) (base : Heap) (CX : CXT) (k : Nat) (x : Str) (ps : List Str) (sp : Sp) : Prop where
  ex : ∃ f fd, FnOk P w K mg base CX k f fd ps sp ∧ mg x = some (.ref f) ∧ PySem.W.keepIn K (.ref f) = true ∧ Binds K fd ps []
section
variable {P : Program} {w : World} {K : PySem.W.Frag} {mg : Str → Option Value} {base : Heap}
theorem FunAt.ok {x : Str} {st : Stmt} {N ps : List Str} {k : Nat} {sp : Sp} (F : FunAt K mg x st ps) (S : FnScope N ps (defScope st)) (len : ∀ vs H Q E, sp vs H Q E → vs.length = ps.length)
    (hbody : ∀ (f : Addr) (cdv : Value) (A : Around) (outer : List Env) (s : Shared) (H : Hp) (vs : List V) (Q : VK) (E : XK), Room k (A.deeper (envOfC x (defScope st) s.heap.objs.size f cdv)) → sp vs H Q E →
      ∃ t, PSs (cxOf CX0 P w K mg base N x (defScope st) f cdv A outer s H E).nox (defBody st) t ∧ t { nx := fun _ H' => Q .non H', rt := Q } (start N vs) H) : Def P w K mg base CX0 (k + 1) x ps sp := by
  obtain ⟨f, fd, F, hm, hb⟩ := F.ex
  exact ⟨f, fd, F.ok S len (hbody f), hm, F.kp, hb⟩
theorem Def.imp {CX : CXT} {k : Nat} {x : Str} {ps : List Str} {sp sp' : Sp} (F : Def P w K mg base CX k x ps sp) (h : ∀ vs H Q E, sp' vs H Q E → sp vs H Q E) : Def P w K mg base CX k x ps sp' := by
  obtain ⟨f, fd, F, r⟩ := F.ex
  exact ⟨f, fd, F.imp h, r⟩
theorem Def.mono {CX : CXT} {k j : Nat} {x : Str} {ps : List Str} {sp : Sp} (F : Def P w K mg base CX k x ps sp) (h : k ≤ j) : Def P w K mg base CX j x ps sp := by
  obtain ⟨f, fd, F, r⟩ := F.ex
  exact ⟨f, fd, F.mono h, r⟩
end
theorem pe_callD {X : Cx} {k : Nat} {ps : List Str} {sp : Sp} {x : Str} {p pos : Pos} {e : Expr} {es : List Expr} {t : TA} (G : Def X.prog X.w X.K X.mg X.base CX0 k x ps sp) (hr : Room k X.A) (ha : PA X (e :: es) t) (hg : Gl X x := by rfl)
    (hdb : (x == ("__debug__" : Str)) = false := by decide) (he : starEach (e :: es) X.env = (false, eval e X.env) :: starEach es X.env := by rfl) (hpl : (backTo pos (starEach es X.env)).any (·.1) = false := by rfl) : PE X (.Call (.Name x p) (e :: es) [] pos) (tCall sp [] E0 t) := by
  obtain ⟨f, fd, F, hm, hk, hb⟩ := G.ex
  exact pe_call F hr hg hm hk hb .nil pass0 ha hdb he hpl
/-! ### own classes -/
structure MethAt (K : PySem.W.Frag) (C : Addr) (m qn : Str) (st : Stmt) (ps : List Str) : Prop where
  ex : ∃ f fd, Fun K m qn st f fd ∧ Meth K C m f ∧ Binds K fd ps []
structure MkAt (K : PySem.W.Frag) (C : Addr) (qn : Str) (st : Stmt) (ps : List Str) : Prop where
  ex : ∃ f fd, Fun K "__init__" qn st f fd ∧ Mk K C f ∧ Binds K fd ps []
structure MDef (P : Program) (w : World) (K : PySem.W.Frag) (mg : Str → Option Value) (base : Heap) (CX : CXT) (k : Nat) (C : Addr) (m : Str) (ps : List Str) (sp : Sp) : Prop where
  ex : ∃ f fd, FnOk P w K mg base CX k f fd ps sp ∧ Meth K C m f ∧ Binds K fd ps []
structure KDef (P : Program) (w : World) (K : PySem.W.Frag) (mg : Str → Option Value) (base : Heap) (CX : CXT) (k : Nat) (C : Addr) (ps : List Str) (sp : Sp) : Prop where
  ex : ∃ f fd, FnOk P w K mg base CX k f fd ps sp ∧ Mk K C f ∧ Binds K fd ps []
section
variable {P : Program} {w : World} {K : PySem.W.Frag} {mg : Str → Option Value} {base : Heap}
theorem MethAt.ok {C : Addr} {m qn : Str} {st : Stmt} {N ps : List Str} {k : Nat} {sp : Sp} (F : MethAt K C m qn st ps) (S : FnScope N ps (defScope st)) (len : ∀ vs H Q E, sp vs H Q E → vs.length = ps.length)
    (hbody : ∀ (f : Addr) (cdv : Value) (A : Around) (outer : List Env) (s : Shared) (H : Hp) (vs : List V) (Q : VK) (E : XK), Room k (A.deeper (envOfC qn (defScope st) s.heap.objs.size f cdv)) → sp vs H Q E →
      ∃ t, PSs (cxOf CX0 P w K mg base N qn (defScope st) f cdv A outer s H E).nox (defBody st) t ∧ t { nx := fun _ H' => Q .non H', rt := Q } (start N vs) H) : MDef P w K mg base CX0 (k + 1) C m ps sp := by
  obtain ⟨f, fd, F, hm, hb⟩ := F.ex
  exact ⟨f, fd, F.ok S len (hbody f), hm, hb⟩
theorem MkAt.ok {C : Addr} {qn : Str} {st : Stmt} {N ps : List Str} {k : Nat} {sp : Sp} (F : MkAt K C qn st ps) (S : FnScope N ps (defScope st)) (len : ∀ vs H Q E, sp vs H Q E → vs.length = ps.length)
    (hbody : ∀ (f : Addr) (cdv : Value) (A : Around) (outer : List Env) (s : Shared) (H : Hp) (vs : List V) (Q : VK) (E : XK), Room k (A.deeper (envOfC qn (defScope st) s.heap.objs.size f cdv)) → sp vs H Q E →
      ∃ t, PSs (cxOf CX0 P w K mg base N qn (defScope st) f cdv A outer s H E).nox (defBody st) t ∧ t { nx := fun _ H' => Q .non H', rt := Q } (start N vs) H) : KDef P w K mg base CX0 (k + 1) C ps sp := by
  obtain ⟨f, fd, F, hm, hb⟩ := F.ex
  exact ⟨f, fd, F.ok S len (hbody f), hm, hb⟩
end
theorem pe_makeD {X : Cx} {k : Nat} {ps : List Str} {sp : Sp} {C : Addr} {x : Str} {p pos : Pos} {e : Expr} {es : List Expr} {t : TA} (G : KDef X.prog X.w X.K X.mg X.base CX0 k C ps sp) (hm : X.mg x = some (.ref C)) (hr : Room (k + 1) X.A) (ha : PA X (e :: es) t) (hg : Gl X x := by rfl)
    (hdb : (x == ("__debug__" : Str)) = false := by decide) (he : starEach (e :: es) X.env = (false, eval e X.env) :: starEach es X.env := by rfl) (hpl : (backTo pos (starEach es X.env)).any (·.1) = false := by rfl) : PE X (.Call (.Name x p) (e :: es) [] pos) (tMake C sp [] E0 t) := by
  obtain ⟨f, fd, F, M, hb⟩ := G.ex
  exact pe_make M F hr hg hm hb .nil pass0 ha hdb he hpl
theorem pe_methD {X : Cx} {k : Nat} {ps : List Str} {sp : Sp} {C : Addr} {m : Str} {o e : Expr} {es : List Expr} {apos pos : Pos} {ta : TE} {t : TA} {pl : Sem Bool} (he : PE X o ta) (c : Cls X.K C) (G : MDef X.prog X.w X.K X.mg X.base CX0 k C m ps sp) (hr : Room k X.A) (ha : PA X (e :: es) t)
    (hst : starEach (e :: es) X.env = (false, eval e X.env) :: starEach es X.env := by rfl) (hpl : (backTo pos (starEach es X.env)).any (·.1) = false := by rfl)
    (ht : eval (.Call (.Attribute o m apos) (e :: es) [] pos) X.env = (do
      let ov ← eval o X.env
      standAt apos.atName
      let (f, first) ← holding [ov] (getMethod ov m pl)
      callWith pos f first (backTo pos (starEach (e :: es) X.env)) (backToKw pos (keywordEach [] X.env))) := by rfl) :
    PE X (.Call (.Attribute o m apos) (e :: es) [] pos) (tMeth C m sp [] E0 ta t) := by
  obtain ⟨f, fd, F, M, hb⟩ := G.ex
  exact pe_meth he c M F hr hb .nil pass0 ha hst hpl ht
theorem r_make {C : Addr} {sp : Sp} {E : XK} {t : TA} {σ : L2.St} {H : Hp} {Q : VK} (q : t σ H fun vs H1 => ∀ x dx, H1 x = none → H1 dx = none → dx ≠ x → sp (.ref x :: (vs ++ [])) (upd (upd H1 dx (.own x)) x (.ins C dx [])) (fun v H2 => v = .non ∧ Q (.ref x) H2) E) : tMake C sp [] E t σ H Q := q
theorem r_meth {C : Addr} {m : Str} {sp : Sp} {E : XK} {ta : TE} {t : TA} {σ : L2.St} {H : Hp} {Q : VK} (q : ta σ H fun x H1 => ∃ a dx fs, x = .ref a ∧ H1 a = some (.ins C dx fs) ∧ fs.lookup m = none ∧ t σ H1 fun vs H2 => sp (x :: (vs ++ [])) H2 Q E) : tMeth C m sp [] E ta t σ H Q := q
theorem r_fldq {K : PySem.W.Frag} {ta : TE} {f : Str} {σ : L2.St} {H : Hp} {Q : VK} (q : ta σ H fun x H1 => ∃ a C dx fs v, x = .ref a ∧ H1 a = some (.ins C dx fs) ∧ Cls K C ∧ NoAttr K C f ∧ fs.lookup f = some v ∧ Q v H1) : tFld K ta f σ H Q := q
theorem r_sfld {K : PySem.W.Frag} {ta tv : TE} {f : Str} {D : Ends} {σ : L2.St} {H : Hp} (q : tv σ H fun y H1 => ta σ H1 fun x H2 => ∃ a C dx fs, x = .ref a ∧ H2 a = some (.ins C dx fs) ∧ Cls K C ∧ NoAttr K C f ∧ fs.length < 1000 ∧ D.nx σ (upd H2 a (.ins C dx (putF f y fs)))) : sFld K ta tv f D σ H := q
/-! ### the same rules, K told -/
theorem pg_tupK {X : Cx} {K : PySem.W.Frag} {es : List Expr} {k : Nat} {t : TGs} {n : Nat} {pos : Pos} (hK : X.K = K) (hc : X.calm = true) (h : PGs X es t)
    (hn : (assignEach es X.env).length = n := by rfl) (hst : (assignEach es X.env).findIdx? (·.1) = none := by rfl) : PG X (.Tuple es k pos) (gTup K n t) := by
  subst hK
  exact pg_tup hc h hn hst
theorem pe_bmK {X : Cx} {K : PySem.W.Frag} {o e : Expr} {es : List Expr} {to : TE} {t : TA} {name : Str} {apos cpos : Pos} {T id : String} {r : V → List V → Hp → VK → Prop} (hK : X.K = K) (pa : PlainAttrs T) (slot : Slot T name id) (hty : typeOf (.builtin id) = pure (.type "method_descriptor")) (hm : MtR X id r) (ho : PE X o to) (ha : PA X (e :: es) t)
    (hbase : attributeBase o name X.env (eval o X.env) = eval o X.env := by rfl) (hfew : ((backTo cpos (starEach (e :: es) X.env)).all (fun x => !x.1) && (backToKw cpos (keywordEach [] X.env)).all (fun x => x.1.isSome) && decide ((e :: es).length + ([] : List Keyword).length + (if ([] : List Keyword).isEmpty then 0 else 1) < 30)) = true := by rfl)
    (hline : (apos.endLine == cpos.line) = true := by rfl) (hst : starEach (e :: es) X.env = (false, eval e X.env) :: starEach es X.env := by rfl) (hpl : (backTo cpos (starEach es X.env)).any (·.1) = false := by rfl) : PE X (.Call (.Attribute o name apos) (e :: es) [] cpos) (tBM K T r to t) := by
  subst hK
  exact pe_bm pa slot hty hm ho ha hbase hfew hline hst hpl
theorem r_ext {H H0 : Hp} {Q : VK} {L : List (Addr × HO)} {l b : Addr} {xs zs : List V} (o : Own H0 H L) (n m : Nat) (h : L[n]? = some (l, .lst xs)) (h2 : L[m]? = some (b, .lst zs)) (hz : xs.length + zs.length ≤ 10000000) (k : ∀ H', Own H0 H' (L.set n (l, .lst (xs ++ zs))) → Q .non H') : rExtend (.ref l) [.ref b] H Q :=
  ⟨l, b, xs, zs, rfl, rfl, o.at n h, o.at m h2, sz100 hz, k _ (o.set n h)⟩
theorem take_flat {α β : Type} {f : α → List β} {zs : List α} {i : Nat} {z : α} (h : zs[i]? = some z) : (zs.take (i + 1)).flatMap f = (zs.take i).flatMap f ++ f z := by
  rw [List.take_add_one, h, List.flatMap_append]
  simp
theorem get_ints {ns : List Int} {i : Nat} {x : V} (h : (ns.map V.int)[i]? = some x) : ∃ z, ns[i]? = some z ∧ x = .int z := by
  rw [List.getElem?_map] at h
  cases h2 : ns[i]? with
  | none => rw [h2] at h; cases h
  | some v => rw [h2] at h; cases h; exact ⟨v, rfl, rfl⟩
theorem r_bmE {K : PySem.W.Frag} {T : String} {f : V → List V → Hp → VK → Prop} {te : TE} {tr : TA} {σ : L2.St} {H : Hp} {Q : VK} (q : te σ H fun x H1 => tyV K T x H1 ∧ tr σ H1 fun vs H2 => f x vs H2 Q) : tBM K T f te tr σ H Q := q
theorem pe_callD0 {X : Cx} {k : Nat} {sp : Sp} {x : Str} {p pos : Pos} (G : Def X.prog X.w X.K X.mg X.base CX0 k x [] sp) (hr : Room k X.A) (hg : Gl X x := by rfl) (hdb : (x == ("__debug__" : Str)) = false := by decide) : PE X (.Call (.Name x p) [] [] pos) (tCall sp [] E0 tNil) := by
  obtain ⟨f, fd, F, hm, hk, hb⟩ := G.ex
  exact pe_call0 F hr hg hm hk hb .nil pass0 hdb
theorem pe_methD0 {X : Cx} {k : Nat} {ps : List Str} {sp : Sp} {C : Addr} {m : Str} {o : Expr} {apos pos : Pos} {ta : TE} {pl : Sem Bool} (he : PE X o ta) (c : Cls X.K C) (G : MDef X.prog X.w X.K X.mg X.base CX0 k C m ps sp) (hr : Room k X.A)
    (ht : eval (.Call (.Attribute o m apos) [] [] pos) X.env = (do
      let ov ← eval o X.env
      standAt apos.atName
      let (f, first) ← holding [ov] (getMethod ov m pl)
      callWith pos f first (backTo pos (starEach [] X.env)) (backToKw pos (keywordEach [] X.env))) := by rfl) :
    PE X (.Call (.Attribute o m apos) [] [] pos) (tMeth C m sp [] E0 ta tNil) := by
  obtain ⟨f, fd, F, M, hb⟩ := G.ex
  exact pe_meth0 he c M F hr hb .nil pass0 ht
end RD
namespace My
open PySem PySem.Spec PyProof.Rows L2 RD
local macro_rules | `(tactic| walk_at "sq") => `(tactic| (first
  | assumption
  | exact Own.sqL (by assumption) 0 (by exact rfl)
  | exact Own.sqL (by assumption) 1 (by exact rfl)
  | exact Own.sqL (by assumption) 2 (by exact rfl)
  | exact Own.sqL (by assumption) 3 (by exact rfl)
  | exact Own.sqL (by assumption) 4 (by exact rfl)
  | exact Own.sqL (by assumption) 5 (by exact rfl)
  | exact Own.sqL (by assumption) 6 (by exact rfl)
  | exact Own.sqL (by assumption) 7 (by exact rfl)
  | exact Own.sqL (by assumption) 8 (by exact rfl)
  | exact Own.sqL (by assumption) 9 (by exact rfl)
  | exact Own.sqL (by assumption) 10 (by exact rfl)
  | exact Own.sqL (by assumption) 11 (by exact rfl)
  | exact Own.sqL (by assumption) 12 (by exact rfl)
  | exact Own.sqL (by assumption) 13 (by exact rfl)
  | exact Own.sqL (by assumption) 14 (by exact rfl)
  | exact Own.sqL (by assumption) 15 (by exact rfl)
  | exact Own.sqL (by assumption) 16 (by exact rfl)
  | exact Own.old (by assumption) (by assumption)))
local macro_rules | `(tactic| walk_at "sqT") => `(tactic| (first
  | assumption
  | exact Own.sqT (by assumption) 0 (by exact rfl)
  | exact Own.sqT (by assumption) 1 (by exact rfl)
  | exact Own.sqT (by assumption) 2 (by exact rfl)
  | exact Own.sqT (by assumption) 3 (by exact rfl)
  | exact Own.sqT (by assumption) 4 (by exact rfl)
  | exact Own.sqT (by assumption) 5 (by exact rfl)
  | exact Own.sqT (by assumption) 6 (by exact rfl)
  | exact Own.sqT (by assumption) 7 (by exact rfl)
  | exact Own.sqT (by assumption) 8 (by exact rfl)
  | exact Own.sqT (by assumption) 9 (by exact rfl)
  | exact Own.sqT (by assumption) 10 (by exact rfl)
  | exact Own.sqT (by assumption) 11 (by exact rfl)
  | exact Own.sqT (by assumption) 12 (by exact rfl)
  | exact Own.sqT (by assumption) 13 (by exact rfl)
  | exact Own.sqT (by assumption) 14 (by exact rfl)
  | exact Own.sqT (by assumption) 15 (by exact rfl)
  | exact Own.sqT (by assumption) 16 (by exact rfl)
  | exact Own.oldT (by assumption) (by assumption)))
local macro_rules | `(tactic| walk_at "at") => `(tactic| (first
  | assumption
  | exact Own.at (by assumption) 0 (by exact rfl)
  | exact Own.at (by assumption) 1 (by exact rfl)
  | exact Own.at (by assumption) 2 (by exact rfl)
  | exact Own.at (by assumption) 3 (by exact rfl)
  | exact Own.at (by assumption) 4 (by exact rfl)
  | exact Own.at (by assumption) 5 (by exact rfl)
  | exact Own.at (by assumption) 6 (by exact rfl)
  | exact Own.at (by assumption) 7 (by exact rfl)
  | exact Own.at (by assumption) 8 (by exact rfl)
  | exact Own.at (by assumption) 9 (by exact rfl)
  | exact Own.at (by assumption) 10 (by exact rfl)
  | exact Own.at (by assumption) 11 (by exact rfl)
  | exact Own.at (by assumption) 12 (by exact rfl)
  | exact Own.at (by assumption) 13 (by exact rfl)
  | exact Own.at (by assumption) 14 (by exact rfl)
  | exact Own.at (by assumption) 15 (by exact rfl)
  | exact Own.at (by assumption) 16 (by exact rfl)))
/-! ### the words -/
local macro_rules | `(tactic| walk_at "rd1") => `(tactic| (first
  | with_reducible refine r_seq ?_
  | with_reducible refine r_asg ?_
  | with_reducible refine r_name ?_
  | ((with_reducible refine r_var (v := ?_) ?h ?_); (case h => exact rfl))
  | with_reducible refine r_c ?_
  | with_reducible refine r_op ?_
  | with_reducible refine r_I0 ?_
  | with_reducible refine r_un ?_
  | with_reducible refine r_U ?_
  | with_reducible refine r_eqI ?_
  | with_reducible refine r_neI ?_
  | with_reducible refine r_eqS ?_
  | with_reducible refine r_neS ?_
  | with_reducible refine r_test ?_
  | with_reducible refine r_tB ?_
  | with_reducible refine r_bl ?_
  | with_reducible refine r_and ?_
  | with_reducible refine r_or ?_
  | with_reducible refine r_not ?_
  | with_reducible refine r_andV ?_
  | with_reducible refine r_orV ?_
  | with_reducible refine r_notV ?_
  | with_reducible refine r_ifE ?_
  | with_reducible refine r_ifS ?_
  | with_reducible refine r_ret ?_
  | with_reducible refine r_retN ?_
  | with_reducible refine r_drop ?_
  | with_reducible refine r_next ?_
  | with_reducible refine r_break ?_
  | with_reducible refine r_cont ?_
  | with_reducible refine r_nil ?_
  | with_reducible refine r_cons ?_
  | with_reducible refine r_tup ?_
  | with_reducible refine r_lst ?_
  | with_reducible refine r_CB ?_
  | with_reducible refine r_call ?_
  | with_reducible refine r_sl ?_
  | with_reducible refine r_par ?_
  | with_reducible refine r_make ?_
  | with_reducible refine r_meth ?_
  | with_reducible refine r_fldq ?_
  | with_reducible refine r_sfld ?_
  | with_reducible refine r_nopart ?_
  | with_reducible refine r_part ?_
  | with_reducible refine r_pt ?_
  | ((with_reducible refine r_aug (x := ?_) ?h ?_); (case h => exact rfl))
  | with_reducible refine r_ipI ?_
  | ((with_reducible refine r_isi (T := ?_) (b := true) ?t ?k ?_); (case t => first | exact ty_int | exact ty_str | exact ty_non | exact ty_list (by walk_at "at") | exact ty_tup (by walk_at "at") | exact ty_sqT (by assumption) | exact ty_sqL (by assumption)); (case k => decide +kernel))
  | ((with_reducible refine r_isi (T := ?_) (b := false) ?t ?k ?_); (case t => first | exact ty_int | exact ty_str | exact ty_non | exact ty_list (by walk_at "at") | exact ty_tup (by walk_at "at") | exact ty_sqT (by assumption) | exact ty_sqL (by assumption)); (case k => decide +kernel))
  | with_reducible refine rif_t ?_
  | with_reducible refine rif_f ?_
  | with_reducible refine rif_nt ?_
  | with_reducible refine rif_nf ?_
  | with_reducible refine r_for ?_
  | with_reducible refine r_rng1 ?_
  | with_reducible refine r_rng2 ?_
  | with_reducible refine r_rng3 ?_
  | with_reducible refine r_iL ?_
  | with_reducible refine r_iT ?_
  | with_reducible refine r_lc ?_
  | with_reducible refine r_lc2 ?_
  | with_reducible refine r_sl3 ?_
  | ((with_reducible refine r_I ?c ?_); (case c => first | exact ⟨by decide, by decide⟩ | exact ⟨by decide, by decide, by decide⟩ | exact ⟨by decide, by decide, by omega⟩ | (show (0 : Int) < _; decide) | exact .inr ⟨by decide, by decide⟩ | exact .inl ⟨by decide, by decide⟩ | assumption | exact .inl ⟨by omega, by omega⟩ | exact .inr ⟨by omega, by omega⟩ | (show (0 : Int) < _; omega) | exact ⟨by omega, by omega⟩))
  | ((with_reducible refine r_bm (l := ?_) ?h ?t ?_); (case h => exact rfl); (case t => exact ty_lst (by walk_at "at")))
  | with_reducible refine r_int ?_
  | ((with_reducible refine r_lenS ?z ?_); (case z => first | omega | (simp; done)))
  | ((with_reducible refine r_slS ?z ?_); (case z => omega))
  | ((with_reducible refine r_addS ?z ?_); (case z => omega))
  | with_reducible refine r_zipA ?_
  | with_reducible refine r_max2 ?_
  | with_reducible refine r_min2 ?_
  | with_reducible refine r_isNonN ?_
  | with_reducible refine r_isNonR ?_
  | with_reducible refine r_isNonI ?_
  | with_reducible refine r_notNonN ?_
  | with_reducible refine r_notNonR ?_
  | with_reducible refine r_notNonI ?_
  | with_reducible refine r_chain ?_
  | with_reducible refine r_isB ?_
  | ((with_reducible refine r_ixI (ns := ?_) ?h ?b0 ?b1 ?_); (case h => walk_at "sq"); (case b0 => omega); (case b1 => first | omega | (simp; done) | (simp; omega)))
  | ((with_reducible refine r_ixIT (ns := ?_) ?h ?b0 ?b1 ?_); (case h => walk_at "sqT"); (case b0 => omega); (case b1 => first | omega | (simp; done) | (simp; omega)))
  | ((with_reducible refine r_ixqL (ns := ?_) ?h ?b0 ?b1 ?_); (case h => walk_at "sq"); (case b0 => omega); (case b1 => first | omega | (simp; done) | (simp; omega)))
  | ((with_reducible refine r_ixqT (ns := ?_) ?h ?b0 ?b1 ?_); (case h => walk_at "sqT"); (case b0 => omega); (case b1 => first | omega | (simp; done) | (simp; omega)))
  | ((with_reducible refine r_sum (ns := ?_) ?h ?_); (case h => walk_at "sq"))
  | ((with_reducible refine r_eqSame (ns := ?_) ?h ?h2 ?_); (case h => walk_at "sq"); (case h2 => walk_at "sq"))
  | ((with_reducible refine r_neSame (ns := ?_) ?h ?h2 ?_); (case h => walk_at "sq"); (case h2 => walk_at "sq"))
  | with_reducible refine r_intB ?_
  | ((with_reducible refine r_len (xs := ?_) ?h ?_); (case h => walk_at "sq"))
  | ((with_reducible refine r_lenT (xs := ?_) ?h ?_); (case h => walk_at "sqT"))
  | ((with_reducible refine r_gTup2 (x := ?_) (y := ?_) ?h ?_); (case h => walk_at "sqT"))
  | with_reducible refine r_bmE ?_
  | with_reducible refine r_set ?_))
local macro_rules | `(tactic| walk_at "rd") => `(tactic| (repeat' (walk_at "rd1")))
/-! ### zip of two or three sequences, each a list (false) or a tuple (true) -/
section
variable {prog : Program} {w : World} {A : Around} {E : Value → Shared → Prop} {s : Shared}
def HIt (k : Bool) (h : Heap) (it l : Addr) (i : Nat) : Prop := match k with | true => h.IsTupleIter it l i | false => h.IsListIter it l i
def HSq (k : Bool) (h : Heap) (l : Addr) (xs : Array Value) : Prop := match k with | true => h.IsTuple l xs | false => h.IsList l xs
def itTy (k : Bool) : String := match k with | true => "tuple_iterator" | false => "list_iterator"
def SqK (K : PySem.W.Frag) (k : Bool) (H : Hp) (a : Addr) (xs : List V) : Prop := match k with | true => SqT K H a xs | false => SqL K H a xs
theorem HIt.at {k : Bool} {h h' : Heap} {it l : Addr} {i : Nat} (x : HIt k h it l i) (e : ∀ o, h.get? it = some o → h'.get? it = some o) : HIt k h' it l i := by
  cases k
  · exact Heap.IsListIter.at x e
  · exact Heap.IsTupleIter.at x e
theorem HIt.obj {k : Bool} {h : Heap} {it l : Addr} {i : Nat} (x : HIt k h it l i) : ∃ o, h.get? it = some o ∧ ∀ v, o.data ≠ .cell v := by
  cases k
  · obtain ⟨o, e, _, d⟩ := (show h.IsListIter it l i from x)
    exact ⟨o, e, fun v z => by rw [d] at z; cases z⟩
  · obtain ⟨o, e, _, d⟩ := (show h.IsTupleIter it l i from x)
    exact ⟨o, e, fun v z => by rw [d] at z; cases z⟩
theorem HIt.lt {k : Bool} {h : Heap} {it l : Addr} {i : Nat} (x : HIt k h it l i) : it < h.objs.size := by
  obtain ⟨o, e, _⟩ := x.obj
  exact Heap.lt_size e
theorem HSq.lt {k : Bool} {h : Heap} {l : Addr} {xs : Array Value} (x : HSq k h l xs) : l < h.objs.size := by
  cases k
  · obtain ⟨o, e, _⟩ := (show h.IsList l xs from x)
    exact Heap.lt_size e
  · obtain ⟨o, e, _⟩ := (show h.IsTuple l xs from x)
    exact Heap.lt_size e
theorem drawsK (k : Bool) (hh : A.handled = none) {it l : Addr} (hne : l ≠ it) (items : Array Value) :
    Draws prog w A it [it, l] items.size (fun i v => items[i]? = some v) (fun i h => HIt k h it l i ∧ HSq k h l items) := by
  cases k
  · exact Draws.list hh it l hne items
  · refine ⟨fun i h st => ?_, fun i h h' st hk => ?_, fun i s Q E hi st hQ => ?_, fun s Q E st hE => ?_⟩
    · obtain ⟨o, ho, _⟩ := HIt.obj st.1
      exact ⟨o, ho⟩
    · exact ⟨st.1.at fun o e => hk it (by simp) o e, Heap.IsTuple.at st.2 fun o e => hk l (by simp) o e⟩
    · have st2 := (show s.heap.IsTuple l items from st.2)
      refine RZ.nextOf_tuple_item st.1 st2 (x := items[i]) (by simp [hi]) fun h1 it1 sb => ?_
      exact hQ _ h1 s.toks (by simp [hi]) ⟨it1, Heap.IsTuple.extBut st2 sb.extBut hne⟩ sb
    · exact RZ.nextOf_tuple_end hh st.1 st.2 (by simp) hE
def itO (k : Bool) (l : Addr) : Obj := { cls := .type (itTy k), data := .fields #[.ref l, .int 0 0] }
theorem iterK {k : Bool} {l : Addr} {items : Array Value} {Q : Value → Shared → Prop} (hl : HSq k s.heap l items) (h : Q (.ref s.heap.objs.size) { s with heap := s.heap.push (itO k l) }) : wpAny (model prog w) A (pyIter (.ref l)) Q E s := by
  cases k
  · exact wpAny_pyIter_list hl h
  · exact wpAny_pyIter_tuple hl h
theorem HSq.push {k : Bool} {h : Heap} {l : Addr} {xs : Array Value} (x : HSq k h l xs) (o : Obj) : HSq k (h.push o) l xs := by
  cases k
  · exact Heap.IsList.push x o
  · exact Heap.IsTuple.push x o
theorem HIt.mk0 {k : Bool} {h : Heap} {it l : Addr} (e : h.get? it = some (itO k l)) : HIt k h it l 0 := by
  cases k
  · exact ⟨_, e, rfl, rfl⟩
  · exact ⟨_, e, rfl, rfl⟩
def zA (h : Heap) (k1 : Bool) (l1 : Addr) : Heap := h.push (itO k1 l1)
def zB (h : Heap) (k1 k2 : Bool) (l1 l2 : Addr) : Heap := (zA h k1 l1).push (itO k2 l2)
def zC (h : Heap) (k1 k2 : Bool) (l1 l2 : Addr) : Heap := (zB h k1 k2 l1 l2).push { cls := .type "tuple", data := .seq #[.ref h.objs.size, .ref (zA h k1 l1).objs.size] }
def zD (h : Heap) (k1 k2 : Bool) (l1 l2 : Addr) : Heap := (zC h k1 k2 l1 l2).push { cls := .type "tuple", data := .seq #[.none, .none] }
def zE (h : Heap) (k1 k2 : Bool) (l1 l2 : Addr) : Heap := (zD h k1 k2 l1 l2).push { cls := .type "zip", data := .fields #[.none, .bool false, .bool false, .ref (zB h k1 k2 l1 l2).objs.size, .ref (zC h k1 k2 l1 l2).objs.size] }
theorem zip_new2 (k1 k2 : Bool) (l1 l2 : Addr) (xs ys : Array Value) :
    Meets (Builtin.«zip.__new__» ⟨[.type "zip", .ref l1, .ref l2], []⟩) (fun _ R s => HSq k1 s.heap l1 xs ∧ HSq k2 s.heap l2 ys ∧
      R (.ok (.ret (.ref (zD s.heap k1 k2 l1 l2).objs.size))) { s with heap := zE s.heap k1 k2 l1 l2 }) :=
  .of_wp fun prog w A R s h => by
    obtain ⟨hp, g, d, tk, os⟩ := s
    obtain ⟨q1, q2, h⟩ := h
    have hsub := sub_zip
    have p1 : HSq k1 (Shared.heap ⟨hp, g, d, tk, os⟩) l1 xs := q1
    have p2 : HSq k2 (Shared.heap ⟨hp.push (itO k1 l1), g, d, tk, os⟩) l2 ys := HSq.push q2 _
    wp_walk using iterK p1, iterK p2
    exact ⟨_, rfl, h⟩
theorem zip_call2 {k1 k2 : Bool} {l1 l2 : Addr} {xs ys : Array Value} {Q : Value → Shared → Prop} (q1 : HSq k1 s.heap l1 xs) (q2 : HSq k2 s.heap l2 ys)
    (h : ∀ h' n, n = s.heap.objs.size → IsZip h' (n + 4) (n + 2) (n + 3) .none → IsTupOf2 h' (n + 2) (.ref n) (.ref (n + 1)) → IsTupOf2 h' (n + 3) .none .none → HIt k1 h' n l1 0 → HIt k2 h' (n + 1) l2 0 →
      (∀ c o, s.heap.get? c = some o → h'.get? c = some o) → Q (.ref (n + 4)) { s with heap := h' }) :
    wpAny (model prog w) A (call (.type "zip") [.ref l1, .ref l2]) Q E s := by
  refine callType_new F.called_zip (by decide) (F.typeCall_zip_2 _ _) (F.newCall_zip_2 _ _) (fun obj => F.args_object_init_3 obj _ _) F.entry_zip_new (zip_new2 k1 k2 l1 l2 xs ys) ⟨q1, q2, ?_⟩
  have eA : (zA s.heap k1 l1).objs.size = s.heap.objs.size + 1 := Heap.size_push ..
  have eB : (zB s.heap k1 k2 l1 l2).objs.size = s.heap.objs.size + 2 := by unfold zB; rw [Heap.size_push, eA]
  have eC : (zC s.heap k1 k2 l1 l2).objs.size = s.heap.objs.size + 3 := by unfold zC; rw [Heap.size_push, eB]
  have eD : (zD s.heap k1 k2 l1 l2).objs.size = s.heap.objs.size + 4 := by unfold zD; rw [Heap.size_push, eC]
  have uE : ∀ c o, (zD s.heap k1 k2 l1 l2).get? c = some o → (zE s.heap k1 k2 l1 l2).get? c = some o := fun c o e => Heap.get?_push_of_some _ e
  have uD : ∀ c o, (zC s.heap k1 k2 l1 l2).get? c = some o → (zE s.heap k1 k2 l1 l2).get? c = some o := fun c o e => uE c o (Heap.get?_push_of_some _ e)
  have uC : ∀ c o, (zB s.heap k1 k2 l1 l2).get? c = some o → (zE s.heap k1 k2 l1 l2).get? c = some o := fun c o e => uD c o (Heap.get?_push_of_some _ e)
  have uB : ∀ c o, (zA s.heap k1 l1).get? c = some o → (zE s.heap k1 k2 l1 l2).get? c = some o := fun c o e => uC c o (Heap.get?_push_of_some _ e)
  have uA : ∀ c o, s.heap.get? c = some o → (zE s.heap k1 k2 l1 l2).get? c = some o := fun c o e => uB c o (Heap.get?_push_of_some _ e)
  have gE : (zE s.heap k1 k2 l1 l2).get? (zD s.heap k1 k2 l1 l2).objs.size = some _ := Heap.get?_push_size _ rfl
  have gD : (zE s.heap k1 k2 l1 l2).get? (zC s.heap k1 k2 l1 l2).objs.size = some _ := uE _ _ (Heap.get?_push_size _ rfl)
  have gC : (zE s.heap k1 k2 l1 l2).get? (zB s.heap k1 k2 l1 l2).objs.size = some _ := uD _ _ (Heap.get?_push_size _ rfl)
  have gB : (zE s.heap k1 k2 l1 l2).get? (zA s.heap k1 l1).objs.size = some _ := uC _ _ (Heap.get?_push_size _ rfl)
  have gA : (zE s.heap k1 k2 l1 l2).get? s.heap.objs.size = some _ := uB _ _ (Heap.get?_push_size _ rfl)
  rw [eD, eB, eC] at gE
  rw [eB, eA] at gC
  rw [eC] at gD
  rw [eA] at gB
  show _ ∧ _
  rw [eD]
  exact ⟨⟨_, gE, rfl⟩, h _ _ rfl gE gC gD (HIt.mk0 gA) (HIt.mk0 gB) uA⟩
theorem typeCall_zip3 (a b c : Value) : checkTypeCall "zip" ⟨[a, b, c], []⟩ = pure () := by kernel_rfl
theorem newCall_zip3 (a b c : Value) : checkBuiltinCall "zip.__new__" ⟨[.type "zip", a, b, c], []⟩ = pure () := by kernel_rfl
theorem args_object_init4 (a b c d : Value) : argsOk "object.__init__" ⟨[a, b, c, d], []⟩ := by
  unfold argsOk
  rw [signature?_of (id := "object.__init__") (n := ['_', '_', 't', 'i', 'n', 'i', '_', '_']) (o := ['t', 'c', 'e', 'j', 'b', 'o']) (by kernel_rfl) F.owner_object]
  kernel_rfl
def yB (h : Heap) (k1 k2 k3 : Bool) (l1 l2 l3 : Addr) : Heap := (zB h k1 k2 l1 l2).push (itO k3 l3)
def yC (h : Heap) (k1 k2 k3 : Bool) (l1 l2 l3 : Addr) : Heap := (yB h k1 k2 k3 l1 l2 l3).push { cls := .type "tuple", data := .seq #[.ref h.objs.size, .ref (zA h k1 l1).objs.size, .ref (zB h k1 k2 l1 l2).objs.size] }
def yD (h : Heap) (k1 k2 k3 : Bool) (l1 l2 l3 : Addr) : Heap := (yC h k1 k2 k3 l1 l2 l3).push { cls := .type "tuple", data := .seq #[.none, .none, .none] }
def yE (h : Heap) (k1 k2 k3 : Bool) (l1 l2 l3 : Addr) : Heap := (yD h k1 k2 k3 l1 l2 l3).push { cls := .type "zip", data := .fields #[.none, .bool false, .bool false, .ref (yB h k1 k2 k3 l1 l2 l3).objs.size, .ref (yC h k1 k2 k3 l1 l2 l3).objs.size] }
theorem zip_new3 (k1 k2 k3 : Bool) (l1 l2 l3 : Addr) (xs ys zs : Array Value) :
    Meets (Builtin.«zip.__new__» ⟨[.type "zip", .ref l1, .ref l2, .ref l3], []⟩) (fun _ R s => HSq k1 s.heap l1 xs ∧ HSq k2 s.heap l2 ys ∧ HSq k3 s.heap l3 zs ∧
      R (.ok (.ret (.ref (yD s.heap k1 k2 k3 l1 l2 l3).objs.size))) { s with heap := yE s.heap k1 k2 k3 l1 l2 l3 }) :=
  .of_wp fun prog w A R s h => by
    obtain ⟨hp, g, d, tk, os⟩ := s
    obtain ⟨q1, q2, q3, h⟩ := h
    have hsub := sub_zip
    have p1 : HSq k1 (Shared.heap ⟨hp, g, d, tk, os⟩) l1 xs := q1
    have p2 : HSq k2 (Shared.heap ⟨hp.push (itO k1 l1), g, d, tk, os⟩) l2 ys := HSq.push q2 _
    have p3 : HSq k3 (Shared.heap ⟨(hp.push (itO k1 l1)).push (itO k2 l2), g, d, tk, os⟩) l3 zs := HSq.push (HSq.push q3 _) _
    wp_walk using iterK p1, iterK p2, iterK p3
    exact ⟨_, rfl, h⟩
theorem zip_call3 {k1 k2 k3 : Bool} {l1 l2 l3 : Addr} {xs ys zs : Array Value} {Q : Value → Shared → Prop} (q1 : HSq k1 s.heap l1 xs) (q2 : HSq k2 s.heap l2 ys) (q3 : HSq k3 s.heap l3 zs)
    (h : ∀ h' n, n = s.heap.objs.size → IsZip h' (n + 5) (n + 3) (n + 4) .none → IsTupOf3 h' (n + 3) (.ref n) (.ref (n + 1)) (.ref (n + 2)) → IsTupOf3 h' (n + 4) .none .none .none → HIt k1 h' n l1 0 → HIt k2 h' (n + 1) l2 0 → HIt k3 h' (n + 2) l3 0 →
      (∀ c o, s.heap.get? c = some o → h'.get? c = some o) → Q (.ref (n + 5)) { s with heap := h' }) :
    wpAny (model prog w) A (call (.type "zip") [.ref l1, .ref l2, .ref l3]) Q E s := by
  refine callType_new F.called_zip (by decide) (typeCall_zip3 _ _ _) (newCall_zip3 _ _ _) (fun obj => args_object_init4 obj _ _ _) F.entry_zip_new (zip_new3 k1 k2 k3 l1 l2 l3 xs ys zs) ⟨q1, q2, q3, ?_⟩
  have eA : (zA s.heap k1 l1).objs.size = s.heap.objs.size + 1 := Heap.size_push ..
  have eB : (zB s.heap k1 k2 l1 l2).objs.size = s.heap.objs.size + 2 := by unfold zB; rw [Heap.size_push, eA]
  have eF : (yB s.heap k1 k2 k3 l1 l2 l3).objs.size = s.heap.objs.size + 3 := by unfold yB; rw [Heap.size_push, eB]
  have eC : (yC s.heap k1 k2 k3 l1 l2 l3).objs.size = s.heap.objs.size + 4 := by unfold yC; rw [Heap.size_push, eF]
  have eD : (yD s.heap k1 k2 k3 l1 l2 l3).objs.size = s.heap.objs.size + 5 := by unfold yD; rw [Heap.size_push, eC]
  have uE : ∀ c o, (yD s.heap k1 k2 k3 l1 l2 l3).get? c = some o → (yE s.heap k1 k2 k3 l1 l2 l3).get? c = some o := fun c o e => Heap.get?_push_of_some _ e
  have uD : ∀ c o, (yC s.heap k1 k2 k3 l1 l2 l3).get? c = some o → (yE s.heap k1 k2 k3 l1 l2 l3).get? c = some o := fun c o e => uE c o (Heap.get?_push_of_some _ e)
  have uF : ∀ c o, (yB s.heap k1 k2 k3 l1 l2 l3).get? c = some o → (yE s.heap k1 k2 k3 l1 l2 l3).get? c = some o := fun c o e => uD c o (Heap.get?_push_of_some _ e)
  have uC : ∀ c o, (zB s.heap k1 k2 l1 l2).get? c = some o → (yE s.heap k1 k2 k3 l1 l2 l3).get? c = some o := fun c o e => uF c o (Heap.get?_push_of_some _ e)
  have uB : ∀ c o, (zA s.heap k1 l1).get? c = some o → (yE s.heap k1 k2 k3 l1 l2 l3).get? c = some o := fun c o e => uC c o (Heap.get?_push_of_some _ e)
  have uA : ∀ c o, s.heap.get? c = some o → (yE s.heap k1 k2 k3 l1 l2 l3).get? c = some o := fun c o e => uB c o (Heap.get?_push_of_some _ e)
  have gE : (yE s.heap k1 k2 k3 l1 l2 l3).get? (yD s.heap k1 k2 k3 l1 l2 l3).objs.size = some _ := Heap.get?_push_size _ rfl
  have gD : (yE s.heap k1 k2 k3 l1 l2 l3).get? (yC s.heap k1 k2 k3 l1 l2 l3).objs.size = some _ := uE _ _ (Heap.get?_push_size _ rfl)
  have gC : (yE s.heap k1 k2 k3 l1 l2 l3).get? (yB s.heap k1 k2 k3 l1 l2 l3).objs.size = some _ := uD _ _ (Heap.get?_push_size _ rfl)
  have gF : (yE s.heap k1 k2 k3 l1 l2 l3).get? (zB s.heap k1 k2 l1 l2).objs.size = some _ := uF _ _ (Heap.get?_push_size _ rfl)
  have gB : (yE s.heap k1 k2 k3 l1 l2 l3).get? (zA s.heap k1 l1).objs.size = some _ := uC _ _ (Heap.get?_push_size _ rfl)
  have gA : (yE s.heap k1 k2 k3 l1 l2 l3).get? s.heap.objs.size = some _ := uB _ _ (Heap.get?_push_size _ rfl)
  rw [eD, eF, eC] at gE
  rw [eF, eA, eB] at gC
  rw [eC] at gD
  rw [eB] at gF
  rw [eA] at gB
  show _ ∧ _
  rw [eD]
  exact ⟨⟨_, gE, rfl⟩, h _ _ rfl gE gC gD (HIt.mk0 gA) (HIt.mk0 gB) (HIt.mk0 gF) uA⟩
end
section
variable {X : Cx} {pins : List (Addr × Obj)} {σ : L2.St} {H : Hp} {s : Shared}
theorem seqK {k : Bool} {a : Addr} {xs : List V} (I : Inv X pins σ H s) (h : SqK X.K k H a xs) : ∃ its : List Value, Vals xs its ∧ HSq k s.heap a its.toArray := by
  cases k
  · obtain ⟨its, r, p, _⟩ := I.list (show SqL X.K H a xs from h)
    exact ⟨its, r, p.isList⟩
  · obtain ⟨its, r, p, _⟩ := I.tuple (show SqT X.K H a xs from h)
    exact ⟨its, r, p⟩
theorem seqK_inj {k : Bool} {a : Addr} {xs ys : List V} (I : Inv X pins σ H s) (h : SqK X.K k H a xs) (h' : SqK X.K k H a ys) : xs = ys := by
  cases k
  · exact I.list_inj (show SqL X.K H a xs from h) h'
  · exact I.tuple_inj (show SqT X.K H a xs from h) h'
theorem hd_in1 {A : Around} (h : A.handled = none) : A.in1.handled = none := h
end
/-- two sequences as they stand at each turn, the items in new pairs -/
def It2 (K : PySem.W.Frag) (k1 k2 : Bool) (a b : Addr) : It :=
  ⟨fun i H => ∃ (xs ys : List V), SqK K k1 H a xs ∧ SqK K k2 H b ys ∧ i < xs.length ∧ i < ys.length,
    fun i H v H' => ∃ T x y, v = .ref T ∧ H T = none ∧ H' = upd H T (.tup [x, y]) ∧ (∀ xs, SqK K k1 H a xs → xs[i]? = some x) ∧ (∀ ys, SqK K k2 H b ys → ys[i]? = some y),
    fun i H => ∃ xs ys : List V, SqK K k1 H a xs ∧ SqK K k2 H b ys ∧ i ≤ xs.length ∧ i ≤ ys.length ∧ (i = xs.length ∨ i = ys.length)⟩
structure Ap2 (n z TI TO i1 i2 a b : Addr) : Prop where
  e0 : i1 = n
  e1 : i2 = n + 1
  e2 : TI = n + 2
  e3 : TO = n + 3
  e4 : z = n + 4
  la : a < n
  lb : b < n
theorem nin2 {z i a : Nat} (h : z ≠ i ∧ z ≠ a) : z ∉ [i, a] := by
  intro h2
  rcases List.mem_cons.mp h2 with e | h2
  · exact h.1 e
  · exact h.2 (List.mem_singleton.mp h2)
theorem sepN (n a b : Nat) (la : a < n) (lb : b < n) : ZipSep2 (n + 4) (n + 2) (n + 3) n (n + 1) [n, a] [n + 1, b] where
  TIz := show @Ne Nat _ _ by omega
  TOz := show @Ne Nat _ _ by omega
  TITO := show @Ne Nat _ _ by omega
  TIi1 := show @Ne Nat _ _ by omega
  mem1 := List.mem_cons_self
  zf1 := nin2 (by omega)
  Tf1 := nin2 (by omega)
  TIi2 := show @Ne Nat _ _ by omega
  mem2 := List.mem_cons_self
  zf2 := nin2 (by omega)
  Tf2 := nin2 (by omega)
  sep1_2 := nin2 (by omega)
  sep2_1 := nin2 (by omega)
theorem Ap2.sep {n z TI TO i1 i2 a b : Addr} (D : Ap2 n z TI TO i1 i2 a b) : ZipSep2 z TI TO i1 i2 [i1, a] [i2, b] := by
  obtain ⟨rfl, rfl, rfl, rfl, rfl, la, lb⟩ := D
  exact sepN _ a b la lb
theorem Ap2.na {n z TI TO i1 i2 a b : Addr} (D : Ap2 n z TI TO i1 i2 a b) : a ≠ i1 := by
  rw [D.e0]
  exact Nat.ne_of_lt D.la
theorem Ap2.nb {n z TI TO i1 i2 a b : Addr} (D : Ap2 n z TI TO i1 i2 a b) : b ≠ i2 := by
  rw [D.e1]
  exact Nat.ne_of_lt (Nat.lt_succ_of_lt D.lb)
theorem vals_of : ∀ {xs : List V} {us : List Value} {i : Nat} {u : Value}, Vals xs us → us[i]? = some u → ∃ x, xs[i]? = some x ∧ RelV x u
  | _, _, _, _, .nil, e => by simp at e
  | _, _, 0, _, .cons r _, e => by
    have e' := Option.some.inj e
    subst e'
    exact ⟨_, rfl, r⟩
  | _, _, i + 1, u, .cons _ t, e => by
    obtain ⟨x, h1, h2⟩ := vals_of (i := i) (u := u) t e
    exact ⟨x, h1, h2⟩
theorem turn2 {P : Program} {w : World} {K : PySem.W.Frag} {k1 k2 : Bool} {elts : List Expr} {kk : Nat} {tpos : Pos} {n a b z TI TO i1 i2 : Addr} (D : Ap2 n z TI TO i1 i2 a b) :
    Turn P w K (.Tuple elts kk tpos) (It2 K k1 k2 a b) [z, TI, TO, i1, i2] z (fun i h => IsZip h z TI TO .none ∧ IsTupOf2 h TI (.ref i1) (.ref i2) ∧ (∃ x y, IsTupOf2 h TO x y) ∧ HIt k1 h i1 a i ∧ HIt k2 h i2 b i) := by
  have S := D.sep
  have na := D.na
  have nb := D.nb
  refine ⟨by simp, fun i h st c hc => ?_, fun i h h' st k => ?_, ?_, ?_, fun A i s Q E st h => wpAny_pyIter_zip st.1 h⟩
  · obtain ⟨z1, z2, ⟨x, y, z3⟩, z4, z5⟩ := st
    simp only [List.mem_cons, List.not_mem_nil, or_false] at hc
    rcases hc with q | q | q | q | q <;> rw [q]
    · exact ⟨_, z1, fun v q => nomatch q⟩
    · exact ⟨_, z2, fun v q => nomatch q⟩
    · exact ⟨_, z3, fun v q => nomatch q⟩
    · exact z4.obj
    · exact z5.obj
  · obtain ⟨z1, z2, ⟨x, y, z3⟩, z4, z5⟩ := st
    exact ⟨k z (by simp) _ z1, k TI (by simp) _ z2, ⟨x, y, k TO (by simp) _ z3⟩, z4.at fun o q => k i1 (by simp) o q, z5.at fun o q => k i2 (by simp) o q⟩
  · intro X hP hw hK hc i pins s σ H E I hf st hg
    subst hP hw hK
    obtain ⟨z1, z2, ⟨x0, y0, z3⟩, z4, z5⟩ := st
    obtain ⟨xs, ys, sx, sy, hx, hy⟩ := hg
    obtain ⟨its, rv, p⟩ := seqK I sx
    obtain ⟨its2, rv2, p2⟩ := seqK I sy
    have hh := hd_in1 (I.ok.hd hc)
    have l1 := rv.length
    have l2 := rv2.length
    have zlt : z < s.heap.objs.size := Heap.lt_size z1
    have lti : ∀ c ∈ [z, TI, TO, i1, i2], c < s.heap.objs.size := fun c hcm => by
      simp only [List.mem_cons, List.not_mem_nil, or_false] at hcm
      rcases hcm with q | q | q | q | q <;> rw [q]
      · exact zlt
      · exact Heap.lt_size z2
      · exact Heap.lt_size z3
      · exact z4.lt
      · exact z5.lt
    refine wpAny_pyNext_zipD2_item S (drawsK k1 hh na its.toArray) (drawsK k2 hh nb its2.toArray) z1 z2 z3 ⟨z4, p⟩ ⟨z5, p2⟩ (by simp; omega) (by simp; omega) fun u1 u2 h' tk hu1 hu2 g1 g2 g3 g4 g5 g6 g7 => ?_
    refine ⟨_, rfl, wpAny_letOwnedTupleGo_zip (s := { s with heap := h', toks := tk }) g1 fun h2 y1 sb => ?_⟩
    have hu1' : its[i]? = some u1 := by simpa using hu1
    have hu2' : its2[i]? = some u2 := by simpa using hu2
    obtain ⟨x, hx1, r1⟩ := vals_of rv hu1'
    obtain ⟨y, hy1, r2⟩ := vals_of rv2 hu2'
    have eT : h2.get? s.heap.objs.size = some { cls := .type "tuple", data := .seq #[u1, u2] } := (sb.2 _ (Nat.ne_of_gt zlt)).trans g5
    have new : ObjOk X.prog X.w (upd H s.heap.objs.size (.tup [x, y])) h2 s.heap.objs.size (.tup [x, y]) :=
      ⟨by show 2 ≤ sizeLine; decide, [u1, u2], .cons r1 (.cons r2 .nil), ⟨_, eT, rfl, _, rfl⟩⟩
    have kept : ∀ c o, c ∉ [z, TI, TO, i1, i2] → s.heap.get? c = some o → h2.get? c = some o := fun c o hb q => by
      simp only [List.mem_cons, List.not_mem_nil, or_false, not_or] at hb
      exact (sb.2 c hb.1).trans (g7 c o hb.1 hb.2.2.1 hb.2.2.2.1 hb.2.2.2.2 q)
    have I1 : Inv X pins σ (upd H s.heap.objs.size (.tup [x, y])) { s with heap := h2, toks := tk } := I.turnedNew (t' := tk) kept hf (Nat.le_refl _) new
    refine ⟨.ref s.heap.objs.size, _, I1, rfl, ⟨_, x, y, rfl, I.hok.fresh (Nat.le_refl _), rfl, fun l hl => by rw [seqK_inj I hl sx]; exact hx1, fun l hl => by rw [seqK_inj I hl sy]; exact hy1⟩, ⟨y1, ?_, ⟨u1, u2, ?_⟩, ?_, ?_⟩, fun c hcm => ?_⟩
    · exact (sb.2 _ S.TIz).trans (g7 _ _ S.TIz S.TITO S.TIi1 S.TIi2 z2)
    · exact (sb.2 _ S.TOz).trans g2
    · exact g3.1.at fun o q => (sb.2 _ S.zi1.symm).trans q
    · exact g4.1.at fun o q => (sb.2 _ S.zi2.symm).trans q
    · rw [upd_ne (Nat.ne_of_lt (lti c hcm))]
      exact (hf c hcm).1
  · intro X hP hw hK hc i pins s σ H E I hf st hg
    subst hP hw hK
    obtain ⟨z1, z2, ⟨x0, y0, z3⟩, z4, z5⟩ := st
    obtain ⟨xs, ys, sx, sy, hx, hy, he⟩ := hg
    obtain ⟨its, rv, p⟩ := seqK I sx
    obtain ⟨its2, rv2, p2⟩ := seqK I sy
    have hh := hd_in1 (I.ok.hd hc)
    have l1 := rv.length
    have l2 := rv2.length
    refine wpAny_pyNext_zipD2_end S (drawsK k1 hh na its.toArray) (drawsK k2 hh nb its2.toArray) z1 z2 z3 ⟨z4, p⟩ ⟨z5, p2⟩ (by simp; omega) (by simp; omega) (by simp; omega) fun h' tk g7 => ⟨rfl, ?_⟩
    refine I.turnedL (t' := tk) (ch := [z, TI, TO, i1, i2]) (fun c o hb q => ?_) hf
    simp only [List.mem_cons, List.not_mem_nil, or_false, not_or] at hb
    exact g7 c o hb.1 hb.2.2.1 hb.2.2.2.1 hb.2.2.2.2 q
def iZip2 (K : PySem.W.Frag) (k1 k2 : Bool) (ta : TA) : TI := fun σ H R => ta σ H fun vs H1 => ∃ a b xs ys, vs = [.ref a, .ref b] ∧ SqK K k1 H1 a xs ∧ SqK K k2 H1 b ys ∧ R (It2 K k1 k2 a b) H1
theorem pi_zip2 {X : Cx} {k1 k2 : Bool} {e e2 : Expr} {ta : TA} {p pos tpos : Pos} {elts : List Expr} {kk : Nat} (hg : Gl X "zip") (hm : X.mg "zip" = none) (ha : PA X [e, e2] ta)
    (hst : starEach [e, e2] X.env = (false, eval e X.env) :: starEach [e2] X.env := by rfl) (hpl : (backTo pos (starEach [e2] X.env)).any (·.1) = false := by rfl) :
    PI X (.Tuple elts kk tpos) (.Call (.Name "zip" p) [e, e2] [] pos) (iZip2 X.K k1 k2 ta) := by
  refine ⟨fun pins s σ H R I h => ?_⟩
  refine Call_ (ld_blt I hg hm PyProof.Rows.boot_zip (PyProof.Rows.callWith_type1 (thn (ha.run pos pins s σ H _ I h) fun us s1 ⟨vs, H1, I1, r1, q1⟩ => ?_) hst hpl))
  obtain ⟨a, b, xs, ys, ex, qx, qy, q⟩ := q1
  subst ex
  obtain ⟨its, rv, p1⟩ := seqK I1 qx
  obtain ⟨its2, rv2, p2⟩ := seqK I1 qy
  cases r1 with
  | cons r rr =>
    cases rr with
    | cons r' rr =>
      cases rr
      cases r
      cases r'
      refine zip_call2 p1 p2 fun h' n en g1 g2 g3 g4 g5 hk => wpAny_pyIter_zip g1 ?_
      have I2 : Inv X pins σ H1 { s1 with heap := h' } := I1.kept (t' := s1.toks) hk
      refine ⟨n + 4, [n + 4, n + 2, n + 3, n, n + 1], _, _, H1, rfl, I2, turn2 (n := n) ⟨rfl, rfl, rfl, rfl, rfl, by rw [en]; exact p1.lt, by rw [en]; exact p2.lt⟩, ⟨g1, g2, ⟨_, _, g3⟩, g4, g5⟩, fun c hcm => ?_, q⟩
      have hle : s1.heap.objs.size ≤ c := by
        simp only [List.mem_cons, List.not_mem_nil, or_false] at hcm
        have en' : (n : Nat) = s1.heap.objs.size := en
        rcases hcm with z | z | z | z | z <;> rw [z] <;> omega
      exact I1.fpOk hle (I1.hok.fresh hle)
/-! ### comprehensions whose items are data of tuples -/
theorem bools_inv {K : PySem.W.Frag} {H : Hp} : ∀ {vs : List V} {bs : List Bool}, TpAll K H vs (bs.map PyData.bool) → vs = bs.map V.bl
  | _, [], h => by cases h; rfl
  | _, b :: bs, h => by
    cases h with
    | cons a t => cases a; rw [bools_inv t]; rfl
theorem strs_inv {K : PySem.W.Frag} {H : Hp} : ∀ {vs : List V} {bs : List Str}, TpAll K H vs (bs.map PyData.str) → vs = bs.map V.str
  | _, [], h => by cases h; rfl
  | _, b :: bs, h => by
    cases h with
    | cons a t => cases a; rw [strs_inv t]; rfl
theorem bools_invF {K : PySem.W.Frag} {H : Hp} {α : Type} {vs : List V} {l : List α} {f : α → Bool} (h : TpAll K H vs (l.map fun x => PyData.bool (f x))) : vs = (l.map f).map V.bl := by
  refine bools_inv (K := K) (H := H) (bs := l.map f) ?_
  rw [List.map_map]
  exact h
theorem ints_invF {K : PySem.W.Frag} {H : Hp} {α : Type} {vs : List V} {l : List α} {f : α → Int} (h : TpAll K H vs (l.map fun x => PyData.int (f x))) : vs = (l.map f).map V.int := by
  refine TpAll.ints_inv (K := K) (H := H) (ns := l.map f) ?_
  rw [List.map_map]
  exact h
theorem TpAll.bools {K : PySem.W.Frag} {H : Hp} : ∀ bs : List Bool, TpAll K H (bs.map V.bl) (bs.map PyData.bool)
  | [] => .nil
  | b :: bs => .cons (.bl b) (TpAll.bools bs)
theorem TpAll.strs {K : PySem.W.Frag} {H : Hp} : ∀ bs : List Str, TpAll K H (bs.map V.str) (bs.map PyData.str)
  | [] => .nil
  | b :: bs => .cons (.str b) (TpAll.strs bs)
theorem rfm_all {α : Type} (n : Nat) (f : Nat → α) : (List.range n).filterMap (fun i => some (f i)) = (List.range n).map f := congrFun List.filterMap_eq_map _
theorem rfm_succ {α : Type} (n : Nat) (f : Nat → Option α) : (List.range (n + 1)).filterMap f = (List.range n).filterMap f ++ (f n).toList := by
  rw [List.range_succ, List.filterMap_append]
  congr 1
theorem range_map_get {α β : Type} (xs : List α) (f : α → β) (g : Nat → β) (h : ∀ i x, xs[i]? = some x → g i = f x) : (List.range xs.length).map g = xs.map f := by
  apply List.ext_getElem?
  intro i
  rw [List.getElem?_map, List.getElem?_map]
  by_cases hi : i < xs.length
  · rw [List.getElem?_range hi, List.getElem?_eq_getElem hi]
    exact congrArg some (h i _ (List.getElem?_eq_getElem hi))
  · rw [List.getElem?_eq_none (by rw [List.length_range]; omega), List.getElem?_eq_none (by omega)]
    rfl
theorem range_pick1 {α β : Type} (xs : List α) (f : α → β) : ∀ n, n ≤ xs.length → (List.range n).filterMap (fun i => (xs[i]?).map f) = (xs.take n).map f
  | 0, _ => rfl
  | n + 1, h => by
    rw [rfm_succ, range_pick1 xs f n (by omega), List.take_add_one, List.map_append, List.getElem?_eq_getElem (show n < xs.length by omega)]
    rfl
theorem range_pick {α β : Type} (xs : List α) (f : α → β) : (List.range xs.length).filterMap (fun i => (xs[i]?).map f) = xs.map f := by
  rw [range_pick1 xs f _ (Nat.le_refl _), List.take_length]
theorem gi_get {ns : List Int} {i : Nat} {x : Int} (h : ns[i]? = some x) : gi ns (i : Int) = x := by
  obtain ⟨h1, h2⟩ := List.getElem?_eq_some_iff.mp h
  rw [gi_nat h1]
  exact h2
section
variable {σ : L2.St} {H H0 : Hp} {Q : VK} {te : TE} {tt : TT} {g : TG} {j : Int} {K : PySem.W.Frag} {L : List (Addr × HO)} {J : It} {vs : List Nat}
/-- what a turn's target is to reach: the test and the item there -/
def CGo (K : PySem.W.Frag) (tt : TT) (te : TE) (vs : List Nat) (σ : L2.St) (od : Option PyData) (H' : Hp) (R : L2.St → Hp → Prop) : Prop :=
  ∀ σ2, wipe σ2 vs = wipe σ vs → (∀ Qb : Bool → Hp → Prop, (∀ H2, Same H' H2 → Qb od.isSome H2) → tt σ2 H' Qb) → (∀ d H2, od = some d → Same H' H2 → ∀ Qv : VK, RetD K H2 Qv d → te σ2 H2 Qv) → R σ2 H'
theorem lcJ (n : Nat) (sel : Nat → Option PyData) (o : Own H0 H L) (hz : n < 10000000)
    (hst : ∀ H' p zs, Own H0 H' ((p, .lst zs) :: L) → Stp H H' → J.stop n H')
    (hgo : ∀ i H' p zs, i < n → Own H0 H' ((p, .lst zs) :: L) → Stp H H' → J.go i H')
    (he : ∀ (i : Nat) (x : V) (p : Addr) (zs : List V) (H' H1 : Hp) (R : L2.St → Hp → Prop), i < n → Own H0 H' ((p, .lst zs) :: L) → Stp H H' → J.yld i H' x H1 → (Same H' H1 → CGo K tt te vs σ (sel i) H1 R) → g x (wipe σ vs) H1 R)
    (hs : ∀ i H' x H1, J.yld i H' x H1 → Same H' H1)
    (k : ∀ p H' zs, Stp H H' → Own H0 H' ((p, .lst zs) :: L) → TpAll K H' zs ((List.range n).filterMap sel) → Q (.ref p) H') : RLc J g tt te vs σ H Q := by
  intro P hP
  refine ⟨fun i m H' => m = n - i ∧ i ≤ n ∧ ∃ zs, Own H0 H' ((P, .lst zs) :: L) ∧ Stp H H' ∧ TpAll K H' zs ((List.range i).filterMap sel), ⟨n, rfl, Nat.zero_le _, [], o.new hP, .of (same_new hP), .nil⟩, ?_⟩
  rintro i m H' ⟨rfl, hi, zs, o', s', t'⟩
  by_cases hlt : i < n
  · refine .inr ⟨hgo i H' P zs hlt o' s', fun H2 => ∃ zs, Own H0 H2 ((P, .lst zs) :: L) ∧ Stp H H2 ∧ TpAll K H2 zs ((List.range (i + 1)).filterMap sel), fun H2 p2 => ⟨n - (i + 1), by omega, rfl, hlt, p2⟩, fun x H1 hy => ?_⟩
    have s1 := hs i H' x H1 hy
    refine he i x P zs H' H1 _ hlt o' s' hy fun _ σ2 hw ht hv => ⟨hw, ?_⟩
    have o1 := o'.mono s1
    refine ht _ fun H2 s2 => ?_
    have o2 := o1.mono s2
    have t2 := (t'.up (.of s1)).up (Stp.of s2)
    have hl := t2.len
    have hl2 := fm_le (List.range i) sel
    rw [List.length_range] at hl2
    cases e : sel i with
    | none =>
      show ∃ zs, _
      rw [rfm_succ, e]
      exact ⟨zs, o2, (s'.trans (.of s1)).trans (.of s2), by rw [Option.toList_none, List.append_nil]; exact t2⟩
    | some d =>
      refine iteT (B := ∃ zs, Own H0 H2 ((P, .lst zs) :: L) ∧ Stp H H2 ∧ TpAll K H2 zs ((List.range (i + 1)).filterMap sel)) (hv d H2 e s2 _ fun H4 v s4 tv => ?_)
      have o4 := o2.mono s4
      have s5 := Stp.set (u := .lst (zs ++ [v])) (o4.at 0 rfl)
      refine ⟨zs, o4.at 0 rfl, sz_lt (by omega), zs ++ [v], o4.set (v := .lst (zs ++ [v])) 0 rfl, (((s'.trans (.of s1)).trans (.of s2)).trans (.of s4)).trans s5, ?_⟩
      rw [rfm_succ, e]
      exact (((t2.up (.of s4)).snoc tv).up s5)
  · refine .inl ⟨?_, ?_⟩
    · have e : i = n := by omega
      subst e
      exact hst H' P zs o' s'
    · have e : i = n := by omega
      subst e
      exact k P H' zs s' o' t'
/-- over a tuple -/
theorem lcjT {a : Addr} {xs : List V} (sel : Nat → Option PyData) (o : Own H0 H L) (h1 : SqT K H a xs) (hz : xs.length < 10000000)
    (he : ∀ (i : Nat) (x : V) (p : Addr) (zs : List V) (H' : Hp) (R : L2.St → Hp → Prop), xs[i]? = some x → Own H0 H' ((p, .lst zs) :: L) → Stp H H' → CGo K tt te vs σ (sel i) H' R → g x (wipe σ vs) H' R)
    (k : ∀ p H' zs, Stp H H' → Own H0 H' ((p, .lst zs) :: L) → TpAll K H' zs ((List.range xs.length).filterMap sel) → Q (.ref p) H') :
    ∃ a', V.ref a = .ref a' ∧ (∃ xs, SqT K H a' xs) ∧ RLc (Itt K a') g tt te vs σ H Q := by
  refine ⟨a, rfl, ⟨xs, h1⟩, lcJ xs.length sel o hz (fun H' p zs _ s' => ⟨xs, s'.sq h1, Nat.le_refl _⟩) (fun i H' p zs hi _ s' => ⟨xs, _, s'.sq h1, List.getElem?_eq_getElem hi⟩) (fun i x p zs H' H1 R hi o' s' hy r => ?_) (fun i H' x H1 hy => by rw [hy.1]; exact Same.refl _) k⟩
  obtain ⟨e, hx⟩ := hy
  subst e
  exact he i x p zs H1 R (hx xs (s'.sq h1)) o' s' (r (Same.refl _))
/-- over a list -/
theorem lcjL {a : Addr} {xs : List V} (sel : Nat → Option PyData) (o : Own H0 H L) (h : ∀ H' p zs, Own H0 H' ((p, .lst zs) :: L) → SqL K H' a xs) (h1 : SqL K H a xs) (hz : xs.length < 10000000)
    (he : ∀ (i : Nat) (x : V) (p : Addr) (zs : List V) (H' : Hp) (R : L2.St → Hp → Prop), xs[i]? = some x → Own H0 H' ((p, .lst zs) :: L) → Stp H H' → CGo K tt te vs σ (sel i) H' R → g x (wipe σ vs) H' R)
    (k : ∀ p H' zs, Stp H H' → Own H0 H' ((p, .lst zs) :: L) → TpAll K H' zs ((List.range xs.length).filterMap sel) → Q (.ref p) H') :
    ∃ a', V.ref a = .ref a' ∧ (∃ xs, SqL K H a' xs) ∧ RLc (Itl K a') g tt te vs σ H Q := by
  refine ⟨a, rfl, ⟨xs, h1⟩, lcJ xs.length sel o hz (fun H' p zs o' _ => ⟨xs, h H' p zs o', Nat.le_refl _⟩) (fun i H' p zs hi o' s' => ⟨xs, _, h H' p zs o', List.getElem?_eq_getElem hi⟩) (fun i x p zs H' H1 R hi o' s' hy r => ?_) (fun i H' x H1 hy => by rw [hy.1]; exact Same.refl _) k⟩
  obtain ⟨e, hx⟩ := hy
  subst e
  exact he i x p zs H1 R (hx xs (h H1 p zs o')) o' s' (r (Same.refl _))
/-- over range(n) -/
theorem lcjR {n : Nat} (sel : Nat → Option PyData) (o : Own H0 H L) (hn : j = (n : Int)) (hz : n < 10000000)
    (he : ∀ (i : Nat) (p : Addr) (zs : List V) (H' : Hp) (R : L2.St → Hp → Prop), i < n → Own H0 H' ((p, .lst zs) :: L) → Stp H H' → CGo K tt te vs σ (sel i) H' R → g (.int (i : Int)) (wipe σ vs) H' R)
    (k : ∀ p H' zs, Stp H H' → Own H0 H' ((p, .lst zs) :: L) → TpAll K H' zs ((List.range n).filterMap sel) → Q (.ref p) H') :
    ∃ k : Int, [V.int j] = [.int k] ∧ -(2 ^ 62) ≤ k ∧ k < 2 ^ 62 ∧ RLc (Itr 0 k.toNat) g tt te vs σ H Q := by
  refine ⟨j, rfl, by omega, by omega, ?_⟩
  have e : j.toNat = n := by omega
  rw [e]
  refine lcJ n sel o hz (fun H' p zs _ _ => Nat.le_refl _) (fun i H' p zs hi _ _ => hi) (fun i x p zs H' H1 R hi o' s' hy r => ?_) (fun i H' x H1 hy => by rw [hy.1]; exact Same.refl _) k
  obtain ⟨e, rfl⟩ := hy
  subst e
  have e0 : (0 : Int) + (i : Int) = (i : Int) := Int.zero_add _
  rw [e0]
  exact he i p zs H1 R hi o' s' (r (Same.refl _))
/-- over zip of two tuples, the shorter one ends it -/
theorem lcjZ {a b : Addr} {xs ys : List V} {n : Nat} (sel : Nat → Option PyData) (o : Own H0 H L) (h1 : SqT K H a xs) (h2 : SqT K H b ys) (hn : n = min xs.length ys.length) (hz : n < 10000000)
    (he : ∀ (i : Nat) (x y : V) (T : Addr) (p : Addr) (zs : List V) (H' : Hp) (R : L2.St → Hp → Prop), xs[i]? = some x → ys[i]? = some y → SqT K H' T [x, y] → Own H0 H' ((p, .lst zs) :: L) → Stp H H' → CGo K tt te vs σ (sel i) H' R → g (.ref T) (wipe σ vs) H' R)
    (k : ∀ p H' zs, Stp H H' → Own H0 H' ((p, .lst zs) :: L) → TpAll K H' zs ((List.range n).filterMap sel) → Q (.ref p) H') :
    RZipA K [.ref a, .ref b] H fun J H1 => RLc J g tt te vs σ H1 Q := by
  refine ⟨a, b, xs, ys, rfl, .inr ⟨h1, h2, lcJ n sel o hz (fun H' p zs _ s' => ⟨xs, ys, s'.sq h1, s'.sq h2, by omega⟩) (fun i H' p zs hi _ s' => ⟨xs, ys, _, _, s'.sq h1, s'.sq h2, List.getElem?_eq_getElem (by omega), List.getElem?_eq_getElem (by omega)⟩) (fun i x p zs H' H1 R hi o' s' hy r => ?_) (fun i H' x H1 hy => ?_) k⟩⟩
  · obtain ⟨T, u, v, rfl, hT, rfl, f1, f2⟩ := hy
    have s1 : Same H' (upd H' T (.tup [u, v])) := same_new hT
    exact he i u v T p zs _ R (f1 xs (s'.sq h1)) (f2 ys (s'.sq h2)) (SqT.of upd_same) (o'.mono s1) (s'.trans (.of s1)) (r s1)
  · obtain ⟨T, u, v, rfl, hT, rfl, f1, f2⟩ := hy
    exact same_new hT
/-- over zip of two lists -/
theorem lcjZL {a b : Addr} {xs ys : List V} {n : Nat} (sel : Nat → Option PyData) (o : Own H0 H L) (h : ∀ H' p zs, Own H0 H' ((p, .lst zs) :: L) → SqL K H' a xs ∧ SqL K H' b ys) (h1 : SqL K H a xs) (h2 : SqL K H b ys) (hn : n = min xs.length ys.length) (hz : n < 10000000)
    (he : ∀ (i : Nat) (x y : V) (T : Addr) (p : Addr) (zs : List V) (H' : Hp) (R : L2.St → Hp → Prop), xs[i]? = some x → ys[i]? = some y → SqT K H' T [x, y] → Own H0 H' ((p, .lst zs) :: L) → Stp H H' → CGo K tt te vs σ (sel i) H' R → g (.ref T) (wipe σ vs) H' R)
    (k : ∀ p H' zs, Stp H H' → Own H0 H' ((p, .lst zs) :: L) → TpAll K H' zs ((List.range n).filterMap sel) → Q (.ref p) H') :
    RZipA K [.ref a, .ref b] H fun J H1 => RLc J g tt te vs σ H1 Q := by
  refine ⟨a, b, xs, ys, rfl, .inl ⟨h1, h2, lcJ n sel o hz (fun H' p zs o' s' => ⟨xs, ys, (h H' p zs o').1, (h H' p zs o').2, by omega⟩) (fun i H' p zs hi o' s' => ⟨xs, ys, _, _, (h H' p zs o').1, (h H' p zs o').2, List.getElem?_eq_getElem (by omega), List.getElem?_eq_getElem (by omega)⟩) (fun i x p zs H' H1 R hi o' s' hy r => ?_) (fun i H' x H1 hy => ?_) k⟩⟩
  · obtain ⟨T, u, v, rfl, hT, rfl, f1, f2⟩ := hy
    have s1 : Same H' (upd H' T (.tup [u, v])) := same_new hT
    exact he i u v T p zs _ R (f1 xs (h H' p zs o').1) (f2 ys (h H' p zs o').2) (SqT.of upd_same) (o'.mono s1) (s'.trans (.of s1)) (r s1)
  · obtain ⟨T, u, v, rfl, hT, rfl, f1, f2⟩ := hy
    exact same_new hT
/-- enumerate(list) -/
theorem lcjE {a : Addr} {xs : List V} (sel : Nat → Option PyData) (o : Own H0 H L) (h : ∀ H' p zs, Own H0 H' ((p, .lst zs) :: L) → SqL K H' a xs) (h1 : SqL K H a xs) (hz : xs.length < 10000000)
    (he : ∀ (i : Nat) (x : V) (T : Addr) (p : Addr) (zs : List V) (H' : Hp) (R : L2.St → Hp → Prop), xs[i]? = some x → SqT K H' T [.int (i : Int), x] → Own H0 H' ((p, .lst zs) :: L) → Stp H H' → CGo K tt te vs σ (sel i) H' R → g (.ref T) (wipe σ vs) H' R)
    (k : ∀ p H' zs, Stp H H' → Own H0 H' ((p, .lst zs) :: L) → TpAll K H' zs ((List.range xs.length).filterMap sel) → Q (.ref p) H') :
    ∃ a' xs', [V.ref a] = [.ref a'] ∧ SqL K H a' xs' ∧ RLc (Ite K a') g tt te vs σ H Q := by
  refine ⟨a, xs, rfl, h1, lcJ xs.length sel o hz (fun H' p zs o' _ => ⟨xs, h H' p zs o', Nat.le_refl _⟩) (fun i H' p zs hi o' s' => ⟨xs, _, h H' p zs o', List.getElem?_eq_getElem hi⟩) (fun i x p zs H' H1 R hi o' s' hy r => ?_) (fun i H' x H1 hy => ?_) k⟩
  · obtain ⟨T, u, rfl, hT, rfl, f1⟩ := hy
    have s1 : Same H' (upd H' T (.tup [.int (i : Nat), u])) := same_new hT
    exact he i u T p zs _ R (f1 xs (h H' p zs o')) (SqT.of upd_same) (o'.mono s1) (s'.trans (.of s1)) (r s1)
  · obtain ⟨T, u, rfl, hT, rfl, f1⟩ := hy
    exact same_new hT
end
/-- three sequences as they stand at each turn, the items in new triples -/
def It3 (K : PySem.W.Frag) (k1 k2 k3 : Bool) (a b d : Addr) : It :=
  ⟨fun i H => ∃ (xs ys zs : List V), SqK K k1 H a xs ∧ SqK K k2 H b ys ∧ SqK K k3 H d zs ∧ i < xs.length ∧ i < ys.length ∧ i < zs.length,
    fun i H v H' => ∃ T x y u, v = .ref T ∧ H T = none ∧ H' = upd H T (.tup [x, y, u]) ∧ (∀ xs, SqK K k1 H a xs → xs[i]? = some x) ∧ (∀ ys, SqK K k2 H b ys → ys[i]? = some y) ∧ (∀ zs, SqK K k3 H d zs → zs[i]? = some u),
    fun i H => ∃ xs ys zs : List V, SqK K k1 H a xs ∧ SqK K k2 H b ys ∧ SqK K k3 H d zs ∧ i ≤ xs.length ∧ i ≤ ys.length ∧ i ≤ zs.length ∧ (i = xs.length ∨ i = ys.length ∨ i = zs.length)⟩
structure Ap3 (n z TI TO i1 i2 i3 a b d : Addr) : Prop where
  e0 : i1 = n
  e1 : i2 = n + 1
  e5 : i3 = n + 2
  e2 : TI = n + 3
  e3 : TO = n + 4
  e4 : z = n + 5
  la : a < n
  lb : b < n
  ld : d < n
theorem sepN3 (n a b d : Nat) (la : a < n) (lb : b < n) (ld : d < n) : ZipSep3 (n + 5) (n + 3) (n + 4) n (n + 1) (n + 2) [n, a] [n + 1, b] [n + 2, d] where
  TIz := show @Ne Nat _ _ by omega
  TOz := show @Ne Nat _ _ by omega
  TITO := show @Ne Nat _ _ by omega
  TIi1 := show @Ne Nat _ _ by omega
  mem1 := List.mem_cons_self
  zf1 := nin2 (by omega)
  Tf1 := nin2 (by omega)
  TIi2 := show @Ne Nat _ _ by omega
  mem2 := List.mem_cons_self
  zf2 := nin2 (by omega)
  Tf2 := nin2 (by omega)
  TIi3 := show @Ne Nat _ _ by omega
  mem3 := List.mem_cons_self
  zf3 := nin2 (by omega)
  Tf3 := nin2 (by omega)
  sep1_2 := nin2 (by omega)
  sep1_3 := nin2 (by omega)
  sep2_1 := nin2 (by omega)
  sep2_3 := nin2 (by omega)
  sep3_1 := nin2 (by omega)
  sep3_2 := nin2 (by omega)
theorem Ap3.sep {n z TI TO i1 i2 i3 a b d : Addr} (D : Ap3 n z TI TO i1 i2 i3 a b d) : ZipSep3 z TI TO i1 i2 i3 [i1, a] [i2, b] [i3, d] := by
  obtain ⟨rfl, rfl, rfl, rfl, rfl, rfl, la, lb, ld⟩ := D
  exact sepN3 _ a b d la lb ld
theorem Ap3.na {n z TI TO i1 i2 i3 a b d : Addr} (D : Ap3 n z TI TO i1 i2 i3 a b d) : a ≠ i1 := by
  rw [D.e0]
  exact Nat.ne_of_lt D.la
theorem Ap3.nb {n z TI TO i1 i2 i3 a b d : Addr} (D : Ap3 n z TI TO i1 i2 i3 a b d) : b ≠ i2 := by
  rw [D.e1]
  exact Nat.ne_of_lt (Nat.lt_succ_of_lt D.lb)
theorem Ap3.nd {n z TI TO i1 i2 i3 a b d : Addr} (D : Ap3 n z TI TO i1 i2 i3 a b d) : d ≠ i3 := by
  rw [D.e5]
  exact Nat.ne_of_lt (Nat.lt_succ_of_lt (Nat.lt_succ_of_lt D.ld))
theorem turn3 {P : Program} {w : World} {K : PySem.W.Frag} {k1 k2 k3 : Bool} {elts : List Expr} {kk : Nat} {tpos : Pos} {n a b d z TI TO i1 i2 i3 : Addr} (D : Ap3 n z TI TO i1 i2 i3 a b d) :
    Turn P w K (.Tuple elts kk tpos) (It3 K k1 k2 k3 a b d) [z, TI, TO, i1, i2, i3] z (fun i h => IsZip h z TI TO .none ∧ IsTupOf3 h TI (.ref i1) (.ref i2) (.ref i3) ∧ (∃ x y u, IsTupOf3 h TO x y u) ∧ HIt k1 h i1 a i ∧ HIt k2 h i2 b i ∧ HIt k3 h i3 d i) := by
  have S := D.sep
  have na := D.na
  have nb := D.nb
  have nd := D.nd
  refine ⟨by simp, fun i h st c hc => ?_, fun i h h' st k => ?_, ?_, ?_, fun A i s Q E st h => wpAny_pyIter_zip st.1 h⟩
  · obtain ⟨z1, z2, ⟨x, y, u, z3⟩, z4, z5, z6⟩ := st
    simp only [List.mem_cons, List.not_mem_nil, or_false] at hc
    rcases hc with q | q | q | q | q | q <;> rw [q]
    · exact ⟨_, z1, fun v q => nomatch q⟩
    · exact ⟨_, z2, fun v q => nomatch q⟩
    · exact ⟨_, z3, fun v q => nomatch q⟩
    · exact z4.obj
    · exact z5.obj
    · exact z6.obj
  · obtain ⟨z1, z2, ⟨x, y, u, z3⟩, z4, z5, z6⟩ := st
    exact ⟨k z (by simp) _ z1, k TI (by simp) _ z2, ⟨x, y, u, k TO (by simp) _ z3⟩, z4.at fun o q => k i1 (by simp) o q, z5.at fun o q => k i2 (by simp) o q, z6.at fun o q => k i3 (by simp) o q⟩
  · intro X hP hw hK hc i pins s σ H E I hf st hg
    subst hP hw hK
    obtain ⟨z1, z2, ⟨x0, y0, u0, z3⟩, z4, z5, z6⟩ := st
    obtain ⟨xs, ys, zs, sx, sy, sz, hx, hy, hz⟩ := hg
    obtain ⟨its, rv, p⟩ := seqK I sx
    obtain ⟨its2, rv2, p2⟩ := seqK I sy
    obtain ⟨its3, rv3, p3⟩ := seqK I sz
    have hh := hd_in1 (I.ok.hd hc)
    have l1 := rv.length
    have l2 := rv2.length
    have l3 := rv3.length
    have zlt : z < s.heap.objs.size := Heap.lt_size z1
    have lti : ∀ c ∈ [z, TI, TO, i1, i2, i3], c < s.heap.objs.size := fun c hcm => by
      simp only [List.mem_cons, List.not_mem_nil, or_false] at hcm
      rcases hcm with q | q | q | q | q | q <;> rw [q]
      · exact zlt
      · exact Heap.lt_size z2
      · exact Heap.lt_size z3
      · exact z4.lt
      · exact z5.lt
      · exact z6.lt
    refine wpAny_pyNext_zipD3_item S (drawsK k1 hh na its.toArray) (drawsK k2 hh nb its2.toArray) (drawsK k3 hh nd its3.toArray) z1 z2 z3 ⟨z4, p⟩ ⟨z5, p2⟩ ⟨z6, p3⟩ (by simp; omega) (by simp; omega) (by simp; omega) fun u1 u2 u3 h' tk hu1 hu2 hu3 g1 g2 g3 g4 g8 g5 g6 g7 => ?_
    refine ⟨_, rfl, wpAny_letOwnedTupleGo_zip (s := { s with heap := h', toks := tk }) g1 fun h2 y1 sb => ?_⟩
    have hu1' : its[i]? = some u1 := by simpa using hu1
    have hu2' : its2[i]? = some u2 := by simpa using hu2
    have hu3' : its3[i]? = some u3 := by simpa using hu3
    obtain ⟨x, hx1, r1⟩ := vals_of rv hu1'
    obtain ⟨y, hy1, r2⟩ := vals_of rv2 hu2'
    obtain ⟨u, hz1, r3⟩ := vals_of rv3 hu3'
    have eT : h2.get? s.heap.objs.size = some { cls := .type "tuple", data := .seq #[u1, u2, u3] } := (sb.2 _ (Nat.ne_of_gt zlt)).trans g5
    have new : ObjOk X.prog X.w (upd H s.heap.objs.size (.tup [x, y, u])) h2 s.heap.objs.size (.tup [x, y, u]) :=
      ⟨by show 3 ≤ sizeLine; decide, [u1, u2, u3], .cons r1 (.cons r2 (.cons r3 .nil)), ⟨_, eT, rfl, _, rfl⟩⟩
    have kept : ∀ c o, c ∉ [z, TI, TO, i1, i2, i3] → s.heap.get? c = some o → h2.get? c = some o := fun c o hb q => by
      simp only [List.mem_cons, List.not_mem_nil, or_false, not_or] at hb
      exact (sb.2 c hb.1).trans (g7 c o hb.1 hb.2.2.1 hb.2.2.2.1 hb.2.2.2.2.1 hb.2.2.2.2.2 q)
    have I1 : Inv X pins σ (upd H s.heap.objs.size (.tup [x, y, u])) { s with heap := h2, toks := tk } := I.turnedNew (t' := tk) kept hf (Nat.le_refl _) new
    refine ⟨.ref s.heap.objs.size, _, I1, rfl, ⟨_, x, y, u, rfl, I.hok.fresh (Nat.le_refl _), rfl, fun l hl => by rw [seqK_inj I hl sx]; exact hx1, fun l hl => by rw [seqK_inj I hl sy]; exact hy1, fun l hl => by rw [seqK_inj I hl sz]; exact hz1⟩, ⟨y1, ?_, ⟨u1, u2, u3, ?_⟩, ?_, ?_, ?_⟩, fun c hcm => ?_⟩
    · exact (sb.2 _ S.TIz).trans (g7 _ _ S.TIz S.TITO S.TIi1 S.TIi2 S.TIi3 z2)
    · exact (sb.2 _ S.TOz).trans g2
    · exact g3.1.at fun o q => (sb.2 _ S.zi1.symm).trans q
    · exact g4.1.at fun o q => (sb.2 _ S.zi2.symm).trans q
    · exact g8.1.at fun o q => (sb.2 _ S.zi3.symm).trans q
    · rw [upd_ne (Nat.ne_of_lt (lti c hcm))]
      exact (hf c hcm).1
  · intro X hP hw hK hc i pins s σ H E I hf st hg
    subst hP hw hK
    obtain ⟨z1, z2, ⟨x0, y0, u0, z3⟩, z4, z5, z6⟩ := st
    obtain ⟨xs, ys, zs, sx, sy, sz, hx, hy, hz, he⟩ := hg
    obtain ⟨its, rv, p⟩ := seqK I sx
    obtain ⟨its2, rv2, p2⟩ := seqK I sy
    obtain ⟨its3, rv3, p3⟩ := seqK I sz
    have hh := hd_in1 (I.ok.hd hc)
    have l1 := rv.length
    have l2 := rv2.length
    have l3 := rv3.length
    refine wpAny_pyNext_zipD3_end S (drawsK k1 hh na its.toArray) (drawsK k2 hh nb its2.toArray) (drawsK k3 hh nd its3.toArray) z1 z2 z3 ⟨z4, p⟩ ⟨z5, p2⟩ ⟨z6, p3⟩ (by simp; omega) (by simp; omega) (by simp; omega) (by simp; omega) fun h' tk g7 => ⟨rfl, ?_⟩
    refine I.turnedL (t' := tk) (ch := [z, TI, TO, i1, i2, i3]) (fun c o hb q => ?_) hf
    simp only [List.mem_cons, List.not_mem_nil, or_false, not_or] at hb
    exact g7 c o hb.1 hb.2.2.1 hb.2.2.2.1 hb.2.2.2.2.1 hb.2.2.2.2.2 q
def iZip3 (K : PySem.W.Frag) (k1 k2 k3 : Bool) (ta : TA) : TI := fun σ H R => ta σ H fun vs H1 => ∃ a b d xs ys zs, vs = [.ref a, .ref b, .ref d] ∧ SqK K k1 H1 a xs ∧ SqK K k2 H1 b ys ∧ SqK K k3 H1 d zs ∧ R (It3 K k1 k2 k3 a b d) H1
theorem pi_zip3 {X : Cx} {k1 k2 k3 : Bool} {e e2 e3 : Expr} {ta : TA} {p pos tpos : Pos} {elts : List Expr} {kk : Nat} (hg : Gl X "zip") (hm : X.mg "zip" = none) (ha : PA X [e, e2, e3] ta)
    (hst : starEach [e, e2, e3] X.env = (false, eval e X.env) :: starEach [e2, e3] X.env := by rfl) (hpl : (backTo pos (starEach [e2, e3] X.env)).any (·.1) = false := by rfl) :
    PI X (.Tuple elts kk tpos) (.Call (.Name "zip" p) [e, e2, e3] [] pos) (iZip3 X.K k1 k2 k3 ta) := by
  refine ⟨fun pins s σ H R I h => ?_⟩
  refine Call_ (ld_blt I hg hm PyProof.Rows.boot_zip (PyProof.Rows.callWith_type1 (thn (ha.run pos pins s σ H _ I h) fun us s1 ⟨vs, H1, I1, r1, q1⟩ => ?_) hst hpl))
  obtain ⟨a, b, d, xs, ys, zs, ex, qx, qy, qz, q⟩ := q1
  subst ex
  obtain ⟨its, rv, p1⟩ := seqK I1 qx
  obtain ⟨its2, rv2, p2⟩ := seqK I1 qy
  obtain ⟨its3, rv3, p3⟩ := seqK I1 qz
  cases r1 with
  | cons r rr =>
    cases rr with
    | cons r' rr =>
      cases rr with
      | cons r'' rr =>
        cases rr
        cases r
        cases r'
        cases r''
        refine zip_call3 p1 p2 p3 fun h' n en g1 g2 g3 g4 g5 g6 hk => wpAny_pyIter_zip g1 ?_
        have I2 : Inv X pins σ H1 { s1 with heap := h' } := I1.kept (t' := s1.toks) hk
        refine ⟨n + 5, [n + 5, n + 3, n + 4, n, n + 1, n + 2], _, _, H1, rfl, I2, turn3 (n := n) ⟨rfl, rfl, rfl, rfl, rfl, rfl, by rw [en]; exact p1.lt, by rw [en]; exact p2.lt, by rw [en]; exact p3.lt⟩, ⟨g1, g2, ⟨_, _, _, g3⟩, g4, g5, g6⟩, fun c hcm => ?_, q⟩
        have hle : s1.heap.objs.size ≤ c := by
          simp only [List.mem_cons, List.not_mem_nil, or_false] at hcm
          have en' : (n : Nat) = s1.heap.objs.size := en
          rcases hcm with z | z | z | z | z | z <;> rw [z] <;> omega
        exact I1.fpOk hle (I1.hok.fresh hle)
section
variable {σ : L2.St} {H H0 : Hp} {Q : VK} {te : TE} {tt : TT} {g : TG} {K : PySem.W.Frag} {L : List (Addr × HO)} {vs : List Nat} {tr : TA}
def RZ2 (K : PySem.W.Frag) (k1 k2 : Bool) (vs : List V) (H1 : Hp) (R : It → Hp → Prop) : Prop := ∃ a b xs ys, vs = [.ref a, .ref b] ∧ SqK K k1 H1 a xs ∧ SqK K k2 H1 b ys ∧ R (It2 K k1 k2 a b) H1
def RZ3 (K : PySem.W.Frag) (k1 k2 k3 : Bool) (vs : List V) (H1 : Hp) (R : It → Hp → Prop) : Prop := ∃ a b d xs ys zs, vs = [.ref a, .ref b, .ref d] ∧ SqK K k1 H1 a xs ∧ SqK K k2 H1 b ys ∧ SqK K k3 H1 d zs ∧ R (It3 K k1 k2 k3 a b d) H1
theorem r_z2 {k1 k2 : Bool} {R : It → Hp → Prop} (q : tr σ H fun vs H1 => RZ2 K k1 k2 vs H1 R) : iZip2 K k1 k2 tr σ H R := q
theorem r_z3 {k1 k2 k3 : Bool} {R : It → Hp → Prop} (q : tr σ H fun vs H1 => RZ3 K k1 k2 k3 vs H1 R) : iZip3 K k1 k2 k3 tr σ H R := q
/-- a comprehension over zip of two; sa, sb: that they stand -/
theorem lcj2 {k1 k2 : Bool} {a b : Addr} {xs ys : List V} {n : Nat} (sel : Nat → Option PyData) (o : Own H0 H L) (hq : ∀ H' p zs, Own H0 H' ((p, .lst zs) :: L) → Stp H H' → SqK K k1 H' a xs ∧ SqK K k2 H' b ys) (h1 : SqK K k1 H a xs) (h2 : SqK K k2 H b ys) (hn : n = min xs.length ys.length) (hz : n < 10000000)
    (he : ∀ (i : Nat) (x y : V) (T : Addr) (p : Addr) (zs : List V) (H' : Hp) (R : L2.St → Hp → Prop), xs[i]? = some x → ys[i]? = some y → SqT K H' T [x, y] → Own H0 H' ((p, .lst zs) :: L) → Stp H H' → CGo K tt te vs σ (sel i) H' R → g (.ref T) (wipe σ vs) H' R)
    (k : ∀ p H' zs, Stp H H' → Own H0 H' ((p, .lst zs) :: L) → TpAll K H' zs ((List.range n).filterMap sel) → Q (.ref p) H') :
    RZ2 K k1 k2 [.ref a, .ref b] H fun J H1 => RLc J g tt te vs σ H1 Q := by
  refine ⟨a, b, xs, ys, rfl, h1, h2, lcJ n sel o hz (fun H' p zs o' s' => ⟨xs, ys, (hq H' p zs o' s').1, (hq H' p zs o' s').2, by omega, by omega, by omega⟩) (fun i H' p zs hi o' s' => ⟨xs, ys, (hq H' p zs o' s').1, (hq H' p zs o' s').2, by omega, by omega⟩) (fun i x p zs H' H1 R hi o' s' hy r => ?_) (fun i H' x H1 hy => ?_) k⟩
  · obtain ⟨T, u, v, rfl, hT, rfl, f1, f2⟩ := hy
    have s1 : Same H' (upd H' T (.tup [u, v])) := same_new hT
    exact he i u v T p zs _ R (f1 xs (hq H' p zs o' s').1) (f2 ys (hq H' p zs o' s').2) (SqT.of upd_same) (o'.mono s1) (s'.trans (.of s1)) (r s1)
  · obtain ⟨T, u, v, rfl, hT, rfl, f1, f2⟩ := hy
    exact same_new hT
theorem lcj3 {k1 k2 k3 : Bool} {a b d : Addr} {xs ys us : List V} {n : Nat} (sel : Nat → Option PyData) (o : Own H0 H L) (hq : ∀ H' p zs, Own H0 H' ((p, .lst zs) :: L) → Stp H H' → SqK K k1 H' a xs ∧ SqK K k2 H' b ys ∧ SqK K k3 H' d us) (h1 : SqK K k1 H a xs) (h2 : SqK K k2 H b ys) (h3 : SqK K k3 H d us) (hn : n = min (min xs.length ys.length) us.length) (hz : n < 10000000)
    (he : ∀ (i : Nat) (x y u : V) (T : Addr) (p : Addr) (zs : List V) (H' : Hp) (R : L2.St → Hp → Prop), xs[i]? = some x → ys[i]? = some y → us[i]? = some u → SqT K H' T [x, y, u] → Own H0 H' ((p, .lst zs) :: L) → Stp H H' → CGo K tt te vs σ (sel i) H' R → g (.ref T) (wipe σ vs) H' R)
    (k : ∀ p H' zs, Stp H H' → Own H0 H' ((p, .lst zs) :: L) → TpAll K H' zs ((List.range n).filterMap sel) → Q (.ref p) H') :
    RZ3 K k1 k2 k3 [.ref a, .ref b, .ref d] H fun J H1 => RLc J g tt te vs σ H1 Q := by
  refine ⟨a, b, d, xs, ys, us, rfl, h1, h2, h3, lcJ n sel o hz (fun H' p zs o' s' => ?_) (fun i H' p zs hi o' s' => ?_) (fun i x p zs H' H1 R hi o' s' hy r => ?_) (fun i H' x H1 hy => ?_) k⟩
  · obtain ⟨q1, q2, q3⟩ := hq H' p zs o' s'
    exact ⟨xs, ys, us, q1, q2, q3, by omega, by omega, by omega, by omega⟩
  · obtain ⟨q1, q2, q3⟩ := hq H' p zs o' s'
    exact ⟨xs, ys, us, q1, q2, q3, by omega, by omega, by omega⟩
  · obtain ⟨q1, q2, q3⟩ := hq H' p zs o' s'
    obtain ⟨T, u, v, w, rfl, hT, rfl, f1, f2, f3⟩ := hy
    have s1 : Same H' (upd H' T (.tup [u, v, w])) := same_new hT
    exact he i u v w T p zs _ R (f1 xs q1) (f2 ys q2) (f3 us q3) (SqT.of upd_same) (o'.mono s1) (s'.trans (.of s1)) (r s1)
  · obtain ⟨T, u, v, w, rfl, hT, rfl, f1, f2, f3⟩ := hy
    exact same_new hT
end
/-! ### enumerate of any sequence -/
def eA (h : Heap) (k : Bool) (l : Addr) : Heap := h.push (itO k l)
def eB (h : Heap) (k : Bool) (l : Addr) : Heap := (eA h k l).push { cls := .type "enumerate", data := .fields #[.none, .bool false, .ref h.objs.size, rawInt 0, .none, .none] }
theorem enum_newK (k : Bool) (l : Addr) (items : Array Value) :
    Meets (Builtin.«enumerate.__new__» ⟨[.type "enumerate", .ref l], []⟩) (fun _ R s => HSq k s.heap l items ∧ (∃ o : Obj, s.heap.get? l = some o ∧ o.cls = .type (if k then "tuple" else "list") ∧ ∃ n, o.data = .seq items n) ∧
      R (.ok (.ret (.ref (eA s.heap k l).objs.size))) { s with heap := eB s.heap k l }) :=
  .of_wp fun prog w A R s h => by
    obtain ⟨hp, g, d, tk, os⟩ := s
    obtain ⟨q1, ⟨⟨c, dct, dt, sl⟩, hl, hc, n, hd⟩, h⟩ := h
    have hsub := sub_enumerate
    have p1 : HSq k (Shared.heap ⟨hp, g, d, tk, os⟩) l items := q1
    cases hc
    cases hd
    cases k
    all_goals
      wp_walk
      refine wpAny_stack_any fun st => wpAny_pure ?_
      split
      · rename_i c _ _ _ _ _
        cases (c == Value.type "enumerate")
        · wp_walk using wpAny_loadPart' hl, iterK p1
          exact ⟨_, rfl, h⟩
        · wp_walk using wpAny_loadPart' hl, iterK p1
          exact ⟨_, rfl, h⟩
      · wp_walk using wpAny_loadPart' hl, iterK p1
        exact ⟨_, rfl, h⟩
theorem HSq.obj {k : Bool} {h : Heap} {l : Addr} {xs : Array Value} (x : HSq k h l xs) : ∃ o : Obj, h.get? l = some o ∧ o.cls = .type (if k then "tuple" else "list") ∧ ∃ n, o.data = .seq xs n := by
  cases k
  · exact (show h.IsList l xs from x)
  · exact (show h.IsTuple l xs from x)
section
variable {prog : Program} {w : World} {A : Around} {E : Value → Shared → Prop} {s : Shared}
theorem enum_callK {k : Bool} {l : Addr} {items : Array Value} {Q : Value → Shared → Prop} (q1 : HSq k s.heap l items)
    (h : ∀ h' n, n = s.heap.objs.size → IsEnum h' (n + 1) n 0 .none → HIt k h' n l 0 → (∀ b o, s.heap.get? b = some o → h'.get? b = some o) → Q (.ref (n + 1)) { s with heap := h' }) :
    wpAny (model prog w) A (call (.type "enumerate") [.ref l]) Q E s := by
  refine callType_new F.called_enumerate (by decide) (F.typeCall_enumerate_1 _) (F.newCall_enumerate_1 _) (fun obj => F.args_object_init_2 obj _) F.entry_enumerate_new (enum_newK k l items) ⟨q1, q1.obj, ?_⟩
  have e1 : (eA s.heap k l).objs.size = s.heap.objs.size + 1 := Heap.size_push ..
  have uB : ∀ c o, (eA s.heap k l).get? c = some o → (eB s.heap k l).get? c = some o := fun c o e => Heap.get?_push_of_some _ e
  have g1 : (eB s.heap k l).get? (eA s.heap k l).objs.size = some _ := Heap.get?_push_size _ rfl
  rw [e1] at g1
  show _ ∧ _
  rw [e1]
  exact ⟨⟨_, g1, rfl⟩, h _ _ rfl g1 (HIt.mk0 (uB _ _ (Heap.get?_push_size _ rfl))) fun c o e => uB c o (Heap.get?_push_of_some _ e)⟩
end
/-- the sequence at a, each item in a new pair with its place -/
def ItE (K : PySem.W.Frag) (k : Bool) (a : Addr) : It :=
  ⟨fun i H => ∃ (xs : List V), SqK K k H a xs ∧ i < xs.length, fun i H v H' => ∃ T x, v = .ref T ∧ H T = none ∧ H' = upd H T (.tup [.int (i : Nat), x]) ∧ ∀ xs, SqK K k H a xs → xs[i]? = some x, fun i H => ∃ xs : List V, SqK K k H a xs ∧ i = xs.length⟩
theorem turnE {P : Program} {w : World} {K : PySem.W.Frag} {k : Bool} {elts : List Expr} {kk : Nat} {tpos : Pos} {a e it : Addr} (na : a ≠ it) (ne : e ≠ it) (nea : e ≠ a) :
    Turn P w K (.Tuple elts kk tpos) (ItE K k a) [e, it] e (fun i h => (∃ old, IsEnum h e it ((i : Nat) : Int) old) ∧ HIt k h it a i) := by
  refine ⟨by simp, fun i h st b hb => ?_, fun i h h' st kp => ?_, ?_, ?_, fun A i s Q E st h => by obtain ⟨⟨_, he⟩, _⟩ := st; exact wpAny_pyIter_enum he h⟩
  · obtain ⟨⟨old, he⟩, hi⟩ := st
    rcases List.mem_cons.mp hb with q | q
    · rw [q]; exact ⟨_, he, fun v q => nomatch q⟩
    · rw [List.mem_singleton.mp q]; exact hi.obj
  · obtain ⟨⟨old, he⟩, hi⟩ := st
    exact ⟨⟨old, kp e (by simp) _ he⟩, hi.at fun o q => kp it (by simp) o q⟩
  · intro X hP hw hK hc i pins s σ H E I hf st hg
    subst hP hw hK
    obtain ⟨⟨old, he⟩, hi⟩ := st
    obtain ⟨xs, sx, hx⟩ := hg
    obtain ⟨its, rv, p⟩ := seqK I sx
    have hh := hd_in1 (I.ok.hd hc)
    have l1 := rv.length
    have elt : e < s.heap.objs.size := Heap.lt_size he
    have ilt : it < s.heap.objs.size := hi.lt
    refine wpAny_pyNext_enum_itemD (drawsK k hh na its.toArray) he ⟨hi, p⟩ (by simp; omega) ne (nin2 ⟨ne, nea⟩) fun u h' tk hu ho st' hT hsz hk => ?_
    refine ⟨_, rfl, wpAny_letOwnedTupleGo_enum (s := { s with heap := h', toks := tk + 1 }) ho fun h2 he2 sb => ?_⟩
    have hu' : its[i]? = some u := by simpa using hu
    obtain ⟨x, hx1, r1⟩ := vals_of rv hu'
    have eT : h2.get? s.heap.objs.size = some { cls := .type "tuple", data := .seq #[.int i tk, u] } := (sb.2 _ (Nat.ne_of_gt elt)).trans hT
    have new : ObjOk X.prog X.w (upd H s.heap.objs.size (.tup [.int (i : Nat), x])) h2 s.heap.objs.size (.tup [.int (i : Nat), x]) :=
      ⟨by show 2 ≤ sizeLine; decide, [.int i tk, u], .cons ⟨_, rfl⟩ (.cons r1 .nil), ⟨_, eT, rfl, _, rfl⟩⟩
    have kept : ∀ c o, c ∉ [e, it] → s.heap.get? c = some o → h2.get? c = some o := fun c o hb q => by
      simp only [List.mem_cons, List.not_mem_nil, or_false, not_or] at hb
      exact (sb.2 c hb.1).trans (hk c o hb.1 hb.2 q)
    have I1 : Inv X pins σ (upd H s.heap.objs.size (.tup [.int (i : Nat), x])) { s with heap := h2, toks := tk + 1 } := I.turnedNew (t' := tk + 1) kept hf (Nat.le_refl _) new
    refine ⟨.ref s.heap.objs.size, _, I1, rfl, ⟨_, x, rfl, I.hok.fresh (Nat.le_refl _), rfl, fun l hl => by rw [seqK_inj I hl sx]; exact hx1⟩, ⟨⟨u, ?_⟩, st'.1.at fun o q => (sb.2 it (Ne.symm ne)).trans q⟩, fun c hcm => ?_⟩
    · have e1 : ((i + 1 : Nat) : Int) = (i : Int) + 1 := by omega
      rw [e1]
      exact he2
    · have clt : c < s.heap.objs.size := by
        rcases List.mem_cons.mp hcm with q | q
        · rw [q]; exact elt
        · rw [List.mem_singleton.mp q]; exact ilt
      rw [upd_ne (Nat.ne_of_lt clt)]
      exact (hf c hcm).1
  · intro X hP hw hK hc i pins s σ H E I hf st hg
    subst hP hw hK
    obtain ⟨⟨old, he⟩, hi⟩ := st
    obtain ⟨xs, sx, hx⟩ := hg
    obtain ⟨its, rv, p⟩ := seqK I sx
    have hh := hd_in1 (I.ok.hd hc)
    have l1 := rv.length
    have ei : i = its.toArray.size := by simp; omega
    refine wpAny_pyNext_enum_endD (drawsK k hh na its.toArray) he ⟨by rw [← ei]; exact hi, p⟩ fun h' eb => ⟨rfl, ?_⟩
    refine I.turnedL (t' := s.toks) (ch := [e, it]) (fun c o hb q => ?_) hf
    simp only [List.mem_cons, List.not_mem_nil, or_false, not_or] at hb
    exact eb c o hb.2 q
def iEnumK (K : PySem.W.Frag) (k : Bool) (ta : TA) : TI := fun σ H R => ta σ H fun vs H1 => ∃ a xs, vs = [.ref a] ∧ SqK K k H1 a xs ∧ R (ItE K k a) H1
theorem pi_enumK {X : Cx} {k : Bool} {e : Expr} {ta : TA} {p pos tpos : Pos} {elts : List Expr} {kk : Nat} (hg : Gl X "enumerate") (hm : X.mg "enumerate" = none) (ha : PA X [e] ta) (hst : starEach [e] X.env = [(false, eval e X.env)] := by rfl) :
    PI X (.Tuple elts kk tpos) (.Call (.Name "enumerate" p) [e] [] pos) (iEnumK X.K k ta) := by
  refine ⟨fun pins s σ H R I h => ?_⟩
  refine Call_ (ld_blt I hg hm boot_enumerate (PyProof.Rows.callWith_type1 (thn (ha.run pos pins s σ H _ I h) fun us s1 ⟨vs, H1, I1, r1, q1⟩ => ?_) hst rfl))
  obtain ⟨a, xs, ex, hq, q⟩ := q1
  subst ex
  obtain ⟨its, rv, p1⟩ := seqK I1 hq
  cases r1 with
  | cons r rr =>
    cases rr
    cases r
    refine enum_callK p1 fun h' n en g1 g2 hk => wpAny_pyIter_enum g1 ?_
    have I2 : Inv X pins σ H1 { s1 with heap := h' } := I1.kept (t' := s1.toks) hk
    have al : a < n := by rw [en]; exact p1.lt
    refine ⟨n + 1, [n + 1, n], _, _, H1, rfl, I2, turnE (Nat.ne_of_lt al) (Nat.succ_ne_self _) (Nat.ne_of_gt (Nat.lt_succ_of_lt al)), ⟨⟨.none, g1⟩, g2⟩, fun c hcm => ?_, q⟩
    have hle : s1.heap.objs.size ≤ c := by
      rcases List.mem_cons.mp hcm with z | z
      · rw [z, en]; exact Nat.le_succ _
      · rw [List.mem_singleton.mp z, en]; exact Nat.le_refl _
    exact I1.fpOk hle (I1.hok.fresh hle)
section
variable {σ : L2.St} {H H0 : Hp} {Q : VK} {te : TE} {tt : TT} {g : TG} {K : PySem.W.Frag} {L : List (Addr × HO)} {vs : List Nat} {tr : TA}
def REn (K : PySem.W.Frag) (k : Bool) (vs : List V) (H1 : Hp) (R : It → Hp → Prop) : Prop := ∃ a xs, vs = [.ref a] ∧ SqK K k H1 a xs ∧ R (ItE K k a) H1
theorem r_en {k : Bool} {R : It → Hp → Prop} (q : tr σ H fun vs H1 => REn K k vs H1 R) : iEnumK K k tr σ H R := q
theorem lcjEn {k : Bool} {a : Addr} {xs : List V} (sel : Nat → Option PyData) (o : Own H0 H L) (hq : ∀ H' p zs, Own H0 H' ((p, .lst zs) :: L) → Stp H H' → SqK K k H' a xs) (h1 : SqK K k H a xs) (hz : xs.length < 10000000)
    (he : ∀ (i : Nat) (x : V) (T : Addr) (p : Addr) (zs : List V) (H' : Hp) (R : L2.St → Hp → Prop), xs[i]? = some x → SqT K H' T [.int (i : Int), x] → Own H0 H' ((p, .lst zs) :: L) → Stp H H' → CGo K tt te vs σ (sel i) H' R → g (.ref T) (wipe σ vs) H' R)
    (kd : ∀ p H' zs, Stp H H' → Own H0 H' ((p, .lst zs) :: L) → TpAll K H' zs ((List.range xs.length).filterMap sel) → Q (.ref p) H') :
    REn K k [.ref a] H fun J H1 => RLc J g tt te vs σ H1 Q := by
  refine ⟨a, xs, rfl, h1, lcJ xs.length sel o hz (fun H' p zs o' s' => ⟨xs, hq H' p zs o' s', rfl⟩) (fun i H' p zs hi o' s' => ⟨xs, hq H' p zs o' s', hi⟩) (fun i x p zs H' H1 R hi o' s' hy r => ?_) (fun i H' x H1 hy => ?_) kd⟩
  · obtain ⟨T, u, rfl, hT, rfl, f1⟩ := hy
    have s1 : Same H' (upd H' T (.tup [.int (i : Nat), u])) := same_new hT
    exact he i u T p zs _ R (f1 xs (hq H' p zs o' s')) (SqT.of upd_same) (o'.mono s1) (s'.trans (.of s1)) (r s1)
  · obtain ⟨T, u, rfl, hT, rfl, f1⟩ := hy
    exact same_new hT
end
/-! ### a tuple times an int: once is the tuple itself, not at all the empty one -/
theorem tup_mul1 (l : Addr) (items : Array Value) (n : Nat) (dd : Option Addr) (sl : Array (Option Value)) (u : Tok) :
    Meets (Builtin.«tuple.__mul__» ⟨[.ref l, .int 1 u], []⟩) (fun _ R s => s.heap.get? l = some { cls := .type "tuple", dict := dd, data := .seq items n, slots := sl } ∧ R (.ok (.ret (.ref l))) s) :=
  .of_wp fun prog w A R s h => by
    obtain ⟨hp, g, d, tk, os⟩ := s
    obtain ⟨hl, h⟩ := h
    have f1 := AutoSeq1.idx_int
    have c1 : (items.isEmpty || (1 : Int) == 1) = true := by simp
    wp_walk using wpAny_loadPart' hl
    exact ⟨_, rfl, h⟩
theorem tup_mul0 (l : Addr) (items : Array Value) (n : Nat) (dd : Option Addr) (sl : Array (Option Value)) (u : Tok) (c1 : items.isEmpty = false) :
    Meets (Builtin.«tuple.__mul__» ⟨[.ref l, .int 0 u], []⟩) (fun _ R s => s.heap.get? l = some { cls := .type "tuple", dict := dd, data := .seq items n, slots := sl } ∧
      R (.ok (.ret (.ref s.heap.objs.size))) { s with heap := s.heap.push { cls := .type "tuple", data := .seq #[] } }) :=
  .of_wp fun prog w A R s h => by
    obtain ⟨hp, g, d, tk, os⟩ := s
    obtain ⟨hl, h⟩ := h
    have f1 := AutoSeq1.idx_int
    have c2 : (items.isEmpty || (0 : Int) == 1) = false := by rw [c1]; rfl
    wp_walk using wpAny_loadPart' hl
    repeat (first
      | (refine wpAny_ite_false (decide_eq_false (by rw [c2]; exact Bool.false_ne_true)) ?_; wp_walk using wpAny_loadPart' hl))
    exact ⟨_, rfl, h⟩
def rRepA (K : PySem.W.Frag) : R2 := fun x y H Q => ∃ l k xs, x = .ref l ∧ y = .int k ∧ SqT K H l xs ∧ xs ≠ [] ∧ 0 ≤ k ∧ k ≤ 1000 ∧ xs.length ≤ 1000 ∧ (k = 1 → Q (.ref l) H) ∧ (k ≠ 1 → ∀ p, H p = none → Q (.ref p) (upd H p (.tup (List.replicate k.toNat xs).flatten)))
theorem op_repA {X : Cx} : OpR X (binaryOp .Mult) (rRepA X.K) := by
  intro pins s σ H x y v u Q I rx ry h
  obtain ⟨l, k, xs, rfl, rfl, hT, hne, h1, h2, hz, q1, q⟩ := h
  by_cases hk1 : k = 1
  · subst hk1
    cases rx
    obtain ⟨t, rfl⟩ := ry
    obtain ⟨its, r, ⟨⟨cls, dd, data, sl⟩, ho, hc, n, hd⟩, hs⟩ := I.tuple hT
    simp only at hc hd
    subst hc hd
    refine wpAny_binaryOp_repeat_ref (T := "tuple") (U := "int") (by decide) ⟨_, ho, rfl⟩ (fun s' => typeIs_int s' 1 t) noFill_tuple_mul F.fills_int_mul F.slot_int_rmul repeat_tuple F.slot_int_index.lookup
      (call_meets F.slot_int_rmul (typeIs_int s 1 t) F.entry_int_rmul (F.args_int_rmul_2 _ _) (int_rmul_tuple 1 t l its.toArray n dd sl)
        ⟨ho, rfl, ⟨_, ho, rfl⟩, call_meets F.slot_tuple_mul ⟨_, ho, rfl⟩ F.entry_tuple_mul (F.args_tuple_mul_2 _ _) (tup_mul1 l its.toArray n dd sl t) ⟨ho, ?_⟩⟩)
    exact ⟨.ref l, H, I, rfl, q1 rfl⟩
  by_cases hk0 : k = 0
  · subst hk0
    cases rx
    obtain ⟨t, rfl⟩ := ry
    obtain ⟨its, r, ⟨⟨cls, dd, data, sl⟩, ho, hc, n, hd⟩, hs⟩ := I.tuple hT
    simp only at hc hd
    subst hc hd
    have hi : its.toArray.isEmpty = false := by
      have hl := r.length
      cases its with
      | nil => exact absurd (List.eq_nil_of_length_eq_zero hl) hne
      | cons a b => rfl
    refine wpAny_binaryOp_repeat_ref (T := "tuple") (U := "int") (by decide) ⟨_, ho, rfl⟩ (fun s' => typeIs_int s' 0 t) noFill_tuple_mul F.fills_int_mul F.slot_int_rmul repeat_tuple F.slot_int_index.lookup
      (call_meets F.slot_int_rmul (typeIs_int s 0 t) F.entry_int_rmul (F.args_int_rmul_2 _ _) (int_rmul_tuple 0 t l its.toArray n dd sl)
        ⟨ho, rfl, ⟨_, ho, rfl⟩, call_meets F.slot_tuple_mul ⟨_, ho, rfl⟩ F.entry_tuple_mul (F.args_tuple_mul_2 _ _) (tup_mul0 l its.toArray n dd sl t hi) ⟨ho, ?_⟩⟩)
    refine ⟨.ref s.heap.objs.size, _, I.laid (t' := s.toks) (o := .tup []) (fun b ob q => Heap.get?_push_of_some _ q) (Nat.le_refl _) ?_, rfl, q hk1 _ (I.hok.fresh (Nat.le_refl _))⟩
    exact ⟨Nat.zero_le _, _, .nil, IsTup.new _ _⟩
  · exact op_repT pins s σ H _ _ v u Q I rx ry ⟨l, k, xs, rfl, rfl, hT, hne, by omega, h2, hz, q hk1⟩
section
variable {H0 H : Hp} {Q : VK} {K : PySem.W.Frag} {L : List (Addr × HO)}
/-- (x,) * n -/
theorem r_repA {a : Addr} {x : V} {i : Int} {n : Nat} (o : Own H0 H L) (ha : SqT K H a [x]) (hi : i = (n : Int)) (hn : n ≤ 1000) (k : ∀ p H', Stp H H' → Own H0 H' L → SqT K H' p (List.replicate n x) → Q (.ref p) H') : rRepA K (.ref a) (.int i) H Q := by
  subst hi
  refine ⟨a, _, [x], rfl, rfl, ha, by simp, by omega, by omega, by simp, fun e => ?_, fun e p hp => ?_⟩
  · have en : n = 1 := by omega
    subst en
    exact k a H (.refl _) o ha
  · have e2 : (List.replicate (n : Int).toNat [x]).flatten = List.replicate n x := by
      rw [show (n : Int).toNat = n from rfl]
      exact flat_rep n x
    rw [e2]
    exact k p _ (.of (same_new hp)) (o.mono (same_new hp)) (SqT.of upd_same)
/-- t[lo:hi] -/
theorem r_slA {a : Addr} {xs : List V} {lo hi : Option Int} (o : Own H0 H L) (ha : SqT K H a xs) (k : ∀ p H', Stp H H' → Own H0 H' L → SqT K H' p (cutV xs lo hi) → Q (.ref p) H') : rSlA K (.ref a) lo hi H Q := by
  refine ⟨a, xs, rfl, ha, fun e => ?_, fun _ p hp => k p _ (.of (same_new hp)) (o.mono (same_new hp)) (SqT.of upd_same)⟩
  refine k a H (.refl _) o ?_
  have e2 : cutV xs lo hi = xs := by
    unfold cutV
    rw [e.1, e.2]
    simp
  rw [e2]
  exact ha
/-- t + u -/
theorem r_catA {a b : Addr} {xs ys : List V} (o : Own H0 H L) (ha : SqT K H a xs) (hb : SqT K H b ys) (hz : xs.length + ys.length ≤ 10000000) (k : ∀ p H', Stp H H' → Own H0 H' L → SqT K H' p (xs ++ ys) → Q (.ref p) H') : rCatA K (.ref a) (.ref b) H Q := by
  refine ⟨a, b, xs, ys, rfl, rfl, ha, hb, sz100 hz, fun e => ?_, fun _ e => ?_, fun _ _ p hp => k p _ (.of (same_new hp)) (o.mono (same_new hp)) (SqT.of upd_same)⟩
  · subst e
    exact k b H (.refl _) o hb
  · subst e
    exact k a H (.refl _) o (by rw [List.append_nil]; exact ha)
end
/-! ### walks with K told (within comprehensions) -/
theorem pi_listK {X : Cx} {K : PySem.W.Frag} {tg e : Expr} {te : TE} (hK : X.K = K) (he : PE X e te) : PI X tg e (iList K te) := by
  subst hK
  exact pi_list he
theorem pi_tupK {X : Cx} {K : PySem.W.Frag} {tg e : Expr} {te : TE} (hK : X.K = K) (he : PE X e te) : PI X tg e (iTup K te) := by
  subst hK
  exact pi_tup he
theorem pi_zip2K {X : Cx} {K : PySem.W.Frag} {k1 k2 : Bool} {e e2 : Expr} {ta : TA} {p pos tpos : Pos} {elts : List Expr} {kk : Nat} (hK : X.K = K) (hg : Gl X "zip") (hm : X.mg "zip" = none) (ha : PA X [e, e2] ta)
    (hst : starEach [e, e2] X.env = (false, eval e X.env) :: starEach [e2] X.env := by rfl) (hpl : (backTo pos (starEach [e2] X.env)).any (·.1) = false := by rfl) :
    PI X (.Tuple elts kk tpos) (.Call (.Name "zip" p) [e, e2] [] pos) (iZip2 K k1 k2 ta) := by
  subst hK
  exact pi_zip2 hg hm ha hst hpl
theorem pi_zip3K {X : Cx} {K : PySem.W.Frag} {k1 k2 k3 : Bool} {e e2 e3 : Expr} {ta : TA} {p pos tpos : Pos} {elts : List Expr} {kk : Nat} (hK : X.K = K) (hg : Gl X "zip") (hm : X.mg "zip" = none) (ha : PA X [e, e2, e3] ta)
    (hst : starEach [e, e2, e3] X.env = (false, eval e X.env) :: starEach [e2, e3] X.env := by rfl) (hpl : (backTo pos (starEach [e2, e3] X.env)).any (·.1) = false := by rfl) :
    PI X (.Tuple elts kk tpos) (.Call (.Name "zip" p) [e, e2, e3] [] pos) (iZip3 K k1 k2 k3 ta) := by
  subst hK
  exact pi_zip3 hg hm ha hst hpl
theorem pi_enumKK {X : Cx} {K : PySem.W.Frag} {k : Bool} {e : Expr} {ta : TA} {p pos tpos : Pos} {elts : List Expr} {kk : Nat} (hK : X.K = K) (hg : Gl X "enumerate") (hm : X.mg "enumerate" = none) (ha : PA X [e] ta) (hst : starEach [e] X.env = [(false, eval e X.env)] := by rfl) :
    PI X (.Tuple elts kk tpos) (.Call (.Name "enumerate" p) [e] [] pos) (iEnumK K k ta) := by
  subst hK
  exact pi_enumK hg hm ha hst
/-! ### own errors whose __init__ calls super().__init__ -/
/-- what is asked of the program as a whole -/
structure PrOk (P : Program) : Prop where
  file : P.main.file = "/claim/cut.py"
  top : (P.main.scope.names.lookup ("super" : Str)).isSome = false
/-- the def at fI is the __init__ of the class at C and closes over it -/
structure SupAt (K : PySem.W.Frag) (C : Addr) (qn : Str) (st : Stmt) (fI : Addr) (fd : FuncData) : Prop where
  ex : ∃ (oc : Value) (od : Option Addr) (kV doc pm : Value) (an : Option Addr) (cda cc : Addr) (ct : Value) (osl : Array (Option Value)),
    fd = PySem.W.fnX "__init__" qn (defArgs st) (defBody st) (defScope st) [("__class__", cc)] .none kV doc pm an (.ref cda) ct ∧ K.lookup fI = some ⟨oc, od, .func fd, osl⟩ ∧ PySem.W.codeIn K (.ref cda) qn = true ∧
    (∃ (cl : Value) (cld : Option Addr) (csl : Array (Option Value)), K.lookup cc = some ⟨cl, cld, .cell (some (.ref C)), csl⟩) ∧
    ∃ (cl : Value) (cld : Option Addr) (csl : Array (Option Value)) (fs : Array Value) (tf : Tok), K.lookup cda = some ⟨cl, cld, .fields fs, csl⟩ ∧ fs[2]? = some (.str "/claim/cut.py" tf)
/-- what else the written part says of the class -/
structure SupC (K : PySem.W.Frag) (C : Addr) : Prop where
  oex : OexC K C
  ini : PySem.W.ks_superIn K C C "__init__" = some (some (.builtin "ValueError.__init__"))
  sub : PySem.W.subIn K (.ref C) (.type "ValueError") = some true
  self : PySem.W.mroIn K C (.ref C) = some true
  stat : PySem.W.nsIn K PySem.cStatics "thirdparty.any" = some none
theorem mw_call1 {M : Model} {A : Around} {E : Value → Shared → Prop} {s : Shared} {u x : Addr} {i : String} {pos : Pos} {env : Env} {e : Expr} {Q : Value → Shared → Prop} (hst : starEach [e] env = [(false, eval e env)])
    (h : wpAny M A (spliced (backTo pos (starEach [e] env))) (fun vs s₁ => PySem.W.KxsAt i u x s₁.heap ∧ wpAny M A (call (.ref u) vs) Q E s₁) E s) : wpAny M A (callWith pos (.ref u) [] (backTo pos (starEach [e] env)) []) Q E s := by
  rw [hst] at h ⊢
  exact PySem.W.kxs_callWith (i := i) (x := x) rfl (Calls.evalArgs_plain h)
theorem cls_obj {K : PySem.W.Frag} {C : Addr} {cd : ClassData} (h : PySem.W.clsIn K C = some cd) : ∃ o, K.lookup C = some o ∧ o.data = .cls cd := by
  unfold PySem.W.clsIn at h
  split at h
  · rename_i c d cd' sl ho
    cases h
    exact ⟨_, ho, rfl⟩
  · cases h
section
variable {P : Program} {w : World} {K : PySem.W.Frag} {mg : Str → Option Value} {base : Heap}
abbrev supF (qn : Str) (st : Stmt) (cda cc : Addr) : NdefX.NF := ⟨"__init__", qn, defArgs st, [], defScope st, [("__class__", cc)], cda⟩
theorem SupAt.ok {C fI : Addr} {qn : Str} {st : Stmt} {N ps : List Str} {k : Nat} {sp : Sp} {fd : FuncData} {p0 p1 p2 p3 p4 : Pos} {msg : Expr} {pl : Env → Sem Bool} {rest : List Stmt} {ar : Arg} (S : SupAt K C qn st fI fd) (hP : PrOk P) (U : SupC K C) (Z : NdefX.NScope N ps ["__class__"] (defScope st))
    (hsup : mg "super" = none) (har : ((defArgs st).posonlyargs ++ (defArgs st).args).head? = some ar) (han : ps.head? = some ar.arg)
    (hks : (defScope st).names.lookup ("super" : Str) = some .globalImplicit)
    (hB : defBody st = .Expr (.Call (.Attribute (.Call (.Name "super" p0) [] [] p1) "__init__" p2) [msg] [] p3) p4 :: rest)
    (hst : ∀ env : Env, starEach [msg] env = [(false, eval msg env)]) (hsw : ∀ env : Env, swapsWith (.Call (.Attribute (.Call (.Name "super" p0) [] [] p1) "__init__" p2) [msg] [] p3) none p4.line env = pure false)
    (hev : ∀ env : Env, eval (.Call (.Attribute (.Call (.Name "super" p0) [] [] p1) "__init__" p2) [msg] [] p3) env = (do
      let ov ← attributeBase (.Call (.Name "super" p0) [] [] p1) "__init__" env (eval (.Call (.Name "super" p0) [] [] p1) env)
      standAt p2.atName
      let (f, first) ← holding [ov] (getMethod ov "__init__" (pl env))
      callWith p3 f first (backTo p3 (starEach [msg] env)) []))
    (len : ∀ vs H Q E, sp vs H Q E → vs.length = ps.length)
    (hbody : ∀ (cda cc : Addr) (A : Around) (outer : List Env) (s : Shared) (H : Hp) (vs : List V) (Q : VK) (E : XK), Room k (A.deeper (NdefX.envF (supF qn st cda cc) fI s.heap.objs.size)) → sp vs H Q E →
      ∃ (a : Addr) (vs2 : List V) (tm : TE) (tr : TS), vs = .ref a :: vs2 ∧ H a = some (exo a C none) ∧ PE (NdefX.ncx CX0 P w K mg base N (supF qn st cda cc) fI A outer s H E) msg tm ∧ PSs (NdefX.ncx CX0 P w K mg base N (supF qn st cda cc) fI A outer s H E) rest tr ∧
        tm (NdefX.startF N vs [none]) H fun x H1 => (∃ v, [x] = [v]) ∧ H1 a = some (exo a C none) ∧ tr { nx := fun _ H' => Q .non H', rt := Q } (NdefX.startF N vs [none]) H1) :
    FnOk P w K mg base CX0 (k + 1) fI fd ps sp := by
  obtain ⟨oc, od, kV, doc, pm, an, cda, cc, ct, osl, rfl, lk, hcd, ⟨cl1, cld1, csl1, hcc⟩, cl2, cld2, csl2, fs, tf, hcda, hfs⟩ := S.ex
  refine ⟨len, fun A outer s H args us vs Q E hr e0 hb r hsp => ?_⟩
  have KX : K.In s.heap := e0.mod.kin.keeps fun b o e => (e0.bs b o e).1
  have lim : s.heap.NoLimit := e0.mod.nolimit.keeps fun b o e => (e0.bs b o e).1
  have hl := len _ _ _ _ hsp
  have ccH : H cc = none := (e0.bs cc _ (e0.mod.kin _ _ hcc)).2
  have CA : NdefX.CellsAt [("__class__", cc)] ["__class__"] [none] s.heap H := by
    have look : ∀ y c, List.lookup y [(("__class__" : Str), cc)] = some c → y = "__class__" ∧ c = cc := fun y c h => by
      by_cases e : y = "__class__"
      · subst e
        simp [List.lookup] at h
        exact ⟨rfl, h.symm⟩
      · have e2 : (y == ("__class__" : Str)) = false := by simpa using e
        simp [List.lookup, e2] at h
    refine ⟨rfl, fun y c h => ?_, fun x y c h1 h2 => ?_, fun i y h => ?_⟩
    · obtain ⟨rfl, rfl⟩ := look y c h
      exact ⟨ccH, _, _, KX _ _ hcc, rfl⟩
    · rw [(look x c h1).1, (look y c h2).1]
    · match i, h with
      | 0, h =>
        have e : y = "__class__" := (Option.some.inj h).symm
        subst e
        exact ⟨cc, by simp [List.lookup], fun v z => by cases z⟩
  obtain ⟨a, vs2, tm, tr, hvs, ha, hm, htr, hq⟩ := hbody cda cc A outer s H vs Q E (hr.deeper _) hsp
  refine PySem.ks_codeAny_call_defAt (binds := ps.zip us) hr.depth (KX _ _ lk) rfl lim (PySem.W.codeRec_of KX hcd) rfl hb Z.nocell (fun ⟨n, _⟩ hy => Z.par n (List.of_mem_zip hy).1) (fun h₀ hns kp => ?_) Z.co Z.gen Z.kind
  have I := NdefX.inv_startN (f := fI) (F := supF qn st cda cc) (CX := CX0) (E := E) (tk := s.toks + (ps.zip us).length) Z hr.hd e0 hl r CA hns kp
  have q0 : ∃ us2, us = .ref a :: us2 := by
    subst hvs
    cases r with
    | @cons _ u0 _ ur r0 r1 =>
      obtain rfl : u0 = Value.ref a := r0
      exact ⟨ur, rfl⟩
  obtain ⟨us2, hus⟩ := q0
  obtain ⟨p', ps2, hps⟩ : ∃ p' ps2, ps = p' :: ps2 := by
    cases ps with
    | nil => cases han
    | cons p' ps2 => exact ⟨p', ps2, rfl⟩
  have hp' : p' = ar.arg := by
    rw [hps] at han
    exact Option.some.inj han
  have ndP : ps.Nodup := by
    have q := Z.nd.sublist (List.take_sublist (ps.length + 1) N)
    rw [show N.take (ps.length + 1) = ps ++ [("__class__" : Str)] from Z.pre] at q
    exact (List.nodup_append.mp q).1
  have hself : (ps.zip us).reverse.lookup ar.arg = some (.ref a) := by
    refine NdefX.zip_look (i := 0) ndP ?_ ?_
    · rw [hps, hp']; rfl
    · rw [hus]; rfl
  have hself2 : (defScope st).names.lookup ar.arg = some .local := by
    rw [← hp']
    exact Z.par p' (by rw [hps]; exact List.mem_cons_self ..)
  refine PySem.ks_wpAt_mono (Q := SP (NdefX.ncx CX0 P w K mg base N (supF qn st cda cc) fI A outer s H E) [] { nx := fun _ H' => Q .non H', rt := Q }) (E := (NdefX.ncx CX0 P w K mg base N (supF qn st cda cc) fI A outer s H E).xe) ?_ (fun fl s' hs => ?_) fun _ _ z => z
  · show PySem.wpAt _ _ _ (execs (defBody st) _) _ _ _
    obtain ⟨oD, hD0, hD2⟩ : ∃ o, K.lookup C = some o ∧ ∃ cd, o.data = .cls cd ∧ PySem.W.clsIn K C = some cd := by
      have q := U.self
      unfold PySem.W.mroIn at q
      cases z : PySem.W.clsIn K C with
      | none => rw [z] at q; cases q
      | some cd =>
        obtain ⟨o, h1, h2⟩ := cls_obj z
        exact ⟨o, h1, cd, h2, rfl⟩
    obtain ⟨cd, hD3, hD4⟩ := hD2
    have K1 := I.kIn
    obtain ⟨t1, ho⟩ := exo_at I.hok ha
    have gN := I.mod.glob.keeps I.bk
    obtain ⟨mb, hmb1, hmb2⟩ := I.mod.blt
    have bN := hmb1.keeps I.bk
    rw [hB]
    refine PySem.ks_wpAt_execs_cons ?_
    refine PySem.ks_wpAt_Expr_any ?_ (by show ((defScope st).kind == .module && _) = false; rw [Z.kind]; rfl) (hsw _)
    refine PySem.ks_wpAt_MethodCall ?_ (hev _)
    refine PySem.ks_wpAt_super_base hks (Z.frk _ (List.mem_singleton.mpr rfl)) (by decide) rfl (K1 _ _ lk) rfl har rfl (K1 _ _ hcda) rfl hfs (by rw [hP.file]; exact beq_self_eq_true _) hP.top ?_
    refine PySem.W.ks_loadName_global Z.kind hks (Calls.loadGlobal_builtin gN hsup bN ((hmb2 _ (by decide)).trans (by kernel_rfl)) ⟨rfl, ?_⟩)
    refine wpAny_loadName_free Z.kind (Z.frk _ (List.mem_singleton.mpr rfl)) (show List.lookup ("__class__" : Str) [(("__class__" : Str), cc)] = some cc by simp [List.lookup]) ⟨_, K1 _ _ hcc, rfl⟩ ?_
    refine wpAny_loadName_local Z.kind hself2 hns hself ?_
    refine PySem.ks_wpAny_isType_cls (K1 _ _ hD0) hD3 ⟨rfl, ?_⟩
    refine PySem.ks_wpAny_call_super (K1 _ _ hD0) hD3 ho rfl (fun c z => by cases z) (PySem.W.looks_mroIn K1 U.self) (fun h1 e1 k1 => ?_)
    have I1 := I.kept (t' := s.toks + (ps.zip us).length) k1
    have J1 : PySem.W.InstAt h1 a _ C none := ⟨k1 _ _ ho, rfl, rfl, trivial⟩
    have hf : PySem.W.alongIn K "__init__" ((cd.mro.dropWhile (· != .ref C)).drop 1) = some (some (.builtin "ValueError.__init__")) := by
      have q := U.ini
      unfold PySem.W.ks_superIn at q
      rw [hD4] at q
      exact q
    refine PySem.W.kxs_getMethod PySem.W.kxs_ValueError e1 (PySem.W.looks_opaque I1.kIn U.stat) (l₀ := cd.mro) (fun A Q E s k q => wpAny_bind ((PySem.W.looks_clsIn I1.kIn hD4) A _ E s k (wpAny_pure q))) rfl I1.kIn hf (J1.type.andThen (PySem.W.looks_subIn I1.kIn U.sub)) (PySem.W.ks_ne I1.kIn J1 hD4) (by decide) ?_
    have I2 := I1.kept (t' := s.toks + (ps.zip us).length + 1) (h' := h1.push (PySem.W.kxs_mw "ValueError.__init__" a)) (fun b o q => Heap.get?_push_of_some _ q)
    have I3 := I2.pins_of (pins' := [(h1.objs.size, PySem.W.kxs_mw "ValueError.__init__" a)]) (fun p hp => by
      rw [List.mem_singleton.mp hp]
      exact ⟨Heap.get?_push_size _ rfl, I1.hok.fresh (Nat.le_refl _), Nat.ne_of_gt I1.lt, I1.nofs (Nat.le_refl _), fun v z => by cases z⟩)
    refine mw_call1 (i := "ValueError.__init__") (x := a) (hst _) ?_
    have hst0 := hst (NdefX.ncx CX0 P w K mg base N (supF qn st cda cc) fI A outer s H E).env
    refine thn ((pa_cons hm pa_nil hst0).run p3 _ _ _ H (fun us2 H1 => (∃ v, us2 = [v]) ∧ H1 a = some (exo a C none) ∧ tr { nx := fun _ H' => Q .non H', rt := Q } (NdefX.startF N vs [none]) H1) I3 ?_) fun us3 s3 hh => ?_
    · exact hq
    obtain ⟨vs3, H1, I4, r4, ⟨v3, hv3⟩, ha1, hq1⟩ := hh
    subst hv3
    have hlen : us3.length ≤ sizeLine := by
      rw [← Paired.length r4]
      exact (by decide : 1 ≤ sizeLine)
    have hu : s3.heap.get? h1.objs.size = some (PySem.W.kxs_mw "ValueError.__init__" a) := (I4.pin _ (List.mem_append_right _ (List.mem_singleton.mpr rfl))).1
    refine ⟨hu, ?_⟩
    obtain ⟨t3, ho3⟩ := exo_at I4.hok ha1
    obtain ⟨nm, qq, nn, bs, bm, sn, sub, ab, col, dd, z0, z1, z2, z3, z5, hC, hbm⟩ := U.oex.cls
    obtain ⟨hp3, g3, d3, tk3, os3⟩ := s3
    have fin : ∀ h', (∀ b o, b ≠ a → hp3.get? b = some o → h'.get? b = some o) → h'.get? a = some (PySem.W.excObj C hp3.objs.size none .none) →
        PySem.wpAt (model P w) (A.deeper (NdefX.envF (supF qn st cda cc) fI s.heap.objs.size)) (.func (.Expr (.Call (.Attribute (.Call (.Name "super" p0) [] [] p1) "__init__" p2) [msg] [] p3) p4 :: rest) (NdefX.envF (supF qn st cda cc) fI s.heap.objs.size))
          (execs rest (NdefX.envF (supF qn st cda cc) fI s.heap.objs.size)) (SP (NdefX.ncx CX0 P w K mg base N (supF qn st cda cc) fI A outer s H E) [] { nx := fun _ H' => Q .non H', rt := Q }) (NdefX.ncx CX0 P w K mg base N (supF qn st cda cc) fI A outer s H E).xe ⟨h', g3, d3, tk3, os3⟩ := fun h' k hx => by
      have J := I4.write (t' := tk3) (x := a) (e := a) (o := exo a C none) (by rw [ha1]; exact True.intro) (.inl rfl) k ⟨_, hx⟩ (exo_ok hx)
      have eu : upd H1 a (exo a C none) = H1 := funext fun b => by
        by_cases hb : b = a
        · rw [hb, upd_same, ha1]
        · exact upd_ne hb
      rw [eu] at J
      exact PySem.wpAt_of_wpAny (htr.run [] _ _ H1 _ (J.pins_of (pins' := []) fun p hp => absurd hp (by simp)) hq1)
    refine wpAny_call (codeAny_of_tree (show wpAny _ _ (callAny (.ref h1.objs.size) ⟨us3, []⟩) _ _ _ from ?_))
    simp only [callAny]
    refine wpAny_bind (wpAny_load hu ?_)
    simp only [PySem.W.kxs_mw, show (Value.type "method-wrapper" == Value.type "method" || Value.type "method-wrapper" == Value.type "builtin_function_or_method" || Value.type "method-wrapper" == Value.type "method-wrapper") = true by decide, if_true]
    refine PySem.W.KFB.if_so (by decide) (wpAny_bind (PySem.W.check_bound_init F.excBase_ValueError.toExcCallFacts (I4.kIn _ _ hC) ho3 rfl (wpAny_bind (wpAny_pure (wpAny_pure ?_)))))
    refine ⟨plainId_quiet F.excBase_ValueError.init.plain _, codeAny_builtin F.excBase_ValueError.initEntry (PySem.W.exc_init_tree (cls := .ref C) (t0 := t3) (dv := none) (c2 := .none) (c3 := .none) (b4 := .bool false) ho3 hlen fun h' k hx _ => ?_)⟩
    exact fin h' k hx
  · have fin : ∀ {σ' : L2.St} {H' : Hp} {v : V} {u : Value}, Inv (NdefX.ncx CX0 P w K mg base N (supF qn st cda cc) fI A outer s H E) [] σ' H' s' → L2.RelV v u → Q v H' → CE outer P w H s Q u s' :=
      fun {σ' H' v u} J rv q => ⟨v, H', J.os, J.bare, J.base, J.hok, rv, q⟩
    cases fl with
    | ret u =>
      obtain ⟨v, σ', H', J, rv, q⟩ := hs
      exact fin J rv q
    | next =>
      obtain ⟨σ', H', J, q⟩ := hs
      exact fin (v := V.non) (u := Value.none) J rfl q
    | brk =>
      obtain ⟨_, _, _, q⟩ := hs
      exact False.elim q
    | cont =>
      obtain ⟨_, _, _, q⟩ := hs
      exact False.elim q
end

/-! ### messages -/
/-- what a message may show -/
def Tell (v : V) : Prop := (∃ i : Int, v = .int i ∧ i.natAbs.log2 < 1920) ∨ ∃ y : Str, v = .str y ∧ y.length ≤ 1000000
theorem tell_small {i : Int} (h : -(2 ^ 64) < i ∧ i < 2 ^ 64) : Tell (.int i) := .inl ⟨i, rfl, by
  have h1 : i.natAbs < 2 ^ 64 := by omega
  by_cases h0 : i.natAbs = 0
  · rw [h0]; decide
  · exact Nat.lt_trans ((Nat.log2_lt h0).mpr h1) (by decide)⟩
/-- a part: a text, or what a slot holds -/
inductive Mp where
  | c (x : Str) | v (i : Nat) | t (sp : Sp) (E : XK) (i : Nat)
def Mp.te : Mp → TE
  | .c x => tC (.str x)
  | .v i => tFmt (tVar i)
  | .t sp E i => tFmt (tCall sp [] E (tCons (tVar i) tNil))
def Mp.Ok (σ : L2.St) : Mp → Prop
  | .c x => x.length ≤ 1000
  | .v i => ∃ v, σ[i]? = some (some v) ∧ Tell v
  | .t sp E i => ∃ v, σ[i]? = some (some v) ∧ ∀ (H : Hp) (Q : VK), (∀ y : Str, y.length ≤ 1000000 → Q (.str y) H) → sp [v] H Q E
theorem str_cat (a b : Str) : (a ++ b).length = a.length + b.length := by
  show (a.cps ++ b.cps).size = _
  rw [Array.size_append]
  rfl
theorem js_ok {σ : L2.St} {H : Hp} {Q : Str → Hp → Prop} (q : ∀ y, Q y H) : ∀ (ps : List Mp) (acc : Str), (∀ p ∈ ps, p.Ok σ) → acc.length + ps.length * 1001000 ≤ 10000000 → tJs (ps.map Mp.te) acc σ H Q
  | [], acc, _, _ => q acc
  | .c x :: ps, acc, h, hz => by
    have hx : x.length ≤ 1000 := h _ List.mem_cons_self
    rw [List.length_cons] at hz
    have e := str_cat acc x
    exact ⟨x, rfl, sz100 (by omega), js_ok q ps _ (fun p hp => h p (List.mem_cons_of_mem _ hp)) (by omega)⟩
  | .v i :: ps, acc, h, hz => by
    obtain ⟨v, hv, ht⟩ := h _ List.mem_cons_self
    rw [List.length_cons] at hz
    have hr : ∀ p ∈ ps, p.Ok σ := fun p hp => h p (List.mem_cons_of_mem _ hp)
    rcases ht with ⟨j, rfl, hj⟩ | ⟨y, rfl, hy⟩
    · have e := str_cat acc (Str.ofString (toString j))
      have el : (Str.ofString (toString j)).length ≤ 1921 := by
        rw [PySem.ofString_length]
        exact int_text_length_le (by decide) hj
      exact ⟨.int j, hv, .inr ⟨j, rfl, hj, _, rfl, sz100 (by omega), js_ok q ps _ hr (by omega)⟩⟩
    · have e := str_cat acc y
      exact ⟨.str y, hv, .inl ⟨y, rfl, sz100 (by omega), y, rfl, sz100 (by omega), js_ok q ps _ hr (by omega)⟩⟩
  | .t sp E i :: ps, acc, h, hz => by
    obtain ⟨v, hv, ht⟩ := h _ List.mem_cons_self
    rw [List.length_cons] at hz
    have hr : ∀ p ∈ ps, p.Ok σ := fun p hp => h p (List.mem_cons_of_mem _ hp)
    refine ⟨v, hv, ht _ _ fun y hy => ?_⟩
    have e := str_cat acc y
    exact .inl ⟨y, rfl, sz100 (by omega), y, rfl, sz100 (by omega), js_ok q ps _ hr (by omega)⟩
/-! ### one field, two fields -/
def sp_i1 (C : Addr) (f : Str) : Sp := fun vs H Q _ => ∃ (a : Addr) (v : V), vs = [.ref a, v] ∧ Tell v ∧ H a = some (exo a C none) ∧ ∀ dx, H dx = none → dx ≠ a → Q .non (upd (upd H dx (exd dx [(f, v)])) a (exo a C (some dx)))
def sp_i2 (C : Addr) (f g : Str) : Sp := fun vs H Q _ => ∃ (a : Addr) (v u : V), vs = [.ref a, v, u] ∧ Tell v ∧ Tell u ∧ H a = some (exo a C none) ∧
  ∀ dx, H dx = none → dx ≠ a → Q .non (upd (upd (upd H dx (exd dx [(f, v)])) a (exo a C (some dx))) dx (exd dx [(g, u), (f, v)]))
/-- such an error made -/
def tErr (C : Addr) (fs : List Str) (ta : TA) : L2.St → Hp → XK → Prop := fun σ H Q => ta σ H fun vs H1 => vs.length = fs.length ∧ (∀ v ∈ vs, Tell v) ∧ ∀ d, H1 d = none → Q (.ref C) (some d) (upd H1 d (.xd (fs.zip vs).reverse))
theorem err_heap {H : Hp} {a d : Addr} {fs : List (Str × V)} (ha : H a = none) (hd : d ≠ a) {H2 : Hp} (e1 : ∀ b, b ≠ a → b ≠ d → H2 b = H b) : upd (del H2 a) d (.xd fs) = upd H d (.xd fs) := by
  funext b
  by_cases hb : b = d
  · rw [hb, upd_same, upd_same]
  · rw [upd_ne hb, upd_ne hb]
    by_cases hc : b = a
    · rw [hc, del_same, ha]
    · rw [del_ne hc, e1 b hc hb]
theorem upd_two {H : Hp} {a d b : Addr} {o u : HO} (h1 : b ≠ a) (h2 : b ≠ d) : upd (upd H d u) a o b = H b := by rw [upd_ne h1, upd_ne h2]
section
variable {X : Cx} {C fI : Addr} {x f g : Str} {k : Nat} {fd : FuncData} {e : Expr} {es : List Expr} {ta : TA} {p pos : Pos}
/-- C(e, ..) where nothing is handled -/
theorem pmk_oexN {ps : List Str} {sp : Sp} {R : XK → List V → Hp → Prop} (hR : ∀ Q vs H1, R Q vs H1 → vs.length ≤ 1000 ∧ ∀ a, H1 a = none → sp (.ref a :: vs) (upd H1 a (exo a C none))
      (fun v H2 => v = .non ∧ ∃ (d : Addr) (fs : List (Str × V)), H2 a = some (exo a C (some d)) ∧ H2 d = some (exd d fs) ∧ H1 d = none ∧ Q (.ref C) (some d) (upd (del H2 a) d (.xd fs))) (fun _ _ _ => False)) (T : OexC X.K C) (iC : PySem.W.findIn X.K (.ref C) "__init__" = some (some (.ref fI))) (tI : PySem.W.typeIn X.K (.ref fI) = some (.type "function"))
    (F1 : FnOk X.prog X.w X.K X.mg X.base CX0 k fI fd ps sp) (hr : Room (k + 1) X.A) (hb : Binds X.K fd ps []) (hg : Gl X x) (hm : X.mg x = some (.ref C)) (ha : PA X (e :: es) ta)
    (hdb : (x == ("__debug__" : Str)) = false) (he : starEach (e :: es) X.env = (false, eval e X.env) :: starEach es X.env) (hpl : (backTo pos (starEach es X.env)).any (·.1) = false) :
    L2N.PMk X (.Call (.Name x p) (e :: es) [] pos) (fun σ H Q => ta σ H fun vs H1 => R Q vs H1) := by
  intro pins s σ H Q I h
  obtain ⟨nm, q, N, bs, bm, sn, sub, ab, col, dd, z0, z1, z2, z3, z5, hC, hbm⟩ := T.cls
  refine wpAny_Call_Name_kw (ld_glob I hg hm (PySem.W.callWith_K (h₀ := X.base) I.ok.mod.kin T.kC (thn (ha.run pos pins s σ H _ I h) fun us s1 hh => ?_) he hpl) hdb)
  obtain ⟨vs, H1, I1, r1, hh⟩ := hh
  obtain ⟨hz, q1⟩ := hR _ _ _ hh
  refine ⟨I1.kIn, show wpAny _ _ (call (.ref C) us) _ _ _ from ?_⟩
  obtain ⟨hp, g, dr, tk, os⟩ := s1
  have hsz : hp.objs.size ≤ hp.objs.size + 1 := Nat.le_add_right _ 1
  have hq := q1 (hp.objs.size + 1) (I1.hok.fresh hsz)
  have kk : ∀ b o, hp.get? b = some o → ((hp.push (PySem.W.kdv_tup us)).push (PySem.HandSPX.excO C hp.objs.size)).get? b = some o := fun b o z => Heap.get?_push_of_some _ (Heap.get?_push_of_some _ z)
  have hget : ((hp.push (PySem.W.kdv_tup us)).push (PySem.HandSPX.excO C hp.objs.size)).get? (hp.objs.size + 1) = some (PySem.HandSPX.excO C hp.objs.size) := by heap_get
  have I2 := I1.laid (t' := tk) (a := hp.objs.size + 1) (o := exo (hp.objs.size + 1) C none) (h' := (hp.push (PySem.W.kdv_tup us)).push (PySem.HandSPX.excO C hp.objs.size)) kk hsz (exo_ok hget)
  have r2 : Vals (V.ref (hp.objs.size + 1) :: vs) (Value.ref (hp.objs.size + 1) :: us) := .cons rfl r1
  have hl : (Value.ref (hp.objs.size + 1) :: us).length = ps.length := by
    rw [← r2.length]
    exact F1.len _ _ _ _ hq
  have hus : us.length ≤ sizeLine := by
    have e3 := Paired.length r1
    exact sz100 (by omega)
  have b2 := hb _ (Value.ref (hp.objs.size + 1) :: us) I2.kIn (by rw [List.append_nil]; exact hl)
  rw [List.append_nil] at b2
  refine wpAny_call (PySem.HandSPX.call_own F.excBase_ValueError (fun Y => PySem.HandSPX.refsVE_contains Y bm hbm) (I1.kIn _ _ hC) (PySem.W.looks_findIn I1.kIn iC) (fun self => PySem.W.bind_fn I1.kIn self tI) hus
    (codeAny_mono (F1.run _ X.stack _ _ ⟨Value.ref (hp.objs.size + 1) :: us, []⟩ (Value.ref (hp.objs.size + 1) :: us) _ _ (fun _ _ _ => False) (hr.make C us []) (I2.env0.make C us []) b2 r2 hq) fun r s2 hq2 => ?_))
  cases r with
  | error er => exact absurd hq2 (fun z => z)
  | ok fl =>
    cases fl with
    | ret u =>
      obtain ⟨v, H2, os2, bare2, un2, hok2, rv, ev, d, fs, ea, ed, hd1, q2⟩ := hq2
      subst ev
      obtain ⟨h2, g2, d2, t2, os3⟩ := s2
      obtain ⟨t0, G, J, kG, ge, hoe, na⟩ := mk_end0 (d2 := d2) (t2 := t2) I1 hsz kk un2 hok2 os2 bare2 ea ed hd1
      exact ⟨rv, hp.objs.size + 1, _, _, ⟨G, g2, d2, t2, os3⟩, _, .ref C, some d, rfl, J, kG, ge, hoe, ⟨rfl, rfl, fun vs hv => by cases hv; rfl⟩, rfl, rfl, na, rfl, bare2, raises_own T.exC T.tyC, q2⟩
    | next => exact hq2.elim
    | brk => exact hq2.elim
    | cont => exact hq2.elim
end

/-! ### what the top says of error classes -/
structure ErrCls (K : PySem.W.Frag) (mg : Str → Option Value) (C : Addr) (x : Str) : Prop where
  at_ : mg x = some (.ref C)
  xf : XfC K C
  ex : ExcC K C
  ty : PySem.W.typeIn K (.ref C) = some (.type "type")
structure ErrIni (K : PySem.W.Frag) (C : Addr) (qn : Str) (st : Stmt) (ps fs : List Str) : Prop where
  sup : SupC K C
  ini : ∃ fI fd, SupAt K C qn st fI fd ∧ PySem.W.findIn K (.ref C) "__init__" = some (some (.ref fI)) ∧ PySem.W.typeIn K (.ref fI) = some (.type "function") ∧ Binds K fd ps []
  no : ∀ f ∈ fs, PySem.W.findIn K (.ref C) f = some none
/-- C's __init__ keeps sp -/
structure EDef (P : Program) (w : World) (K : PySem.W.Frag) (mg : Str → Option Value) (base : Heap) (C : Addr) (x : Str) (ps : List Str) (sp : Sp) : Prop where
  at_ : mg x = some (.ref C)
  oex : OexC K C
  ini : ∃ fI fd, FnOk P w K mg base CX0 2 fI fd ps sp ∧ PySem.W.findIn K (.ref C) "__init__" = some (some (.ref fI)) ∧ PySem.W.typeIn K (.ref fI) = some (.type "function") ∧ Binds K fd ps []
theorem _root_.L2H.RoomH.units {k : Nat} {A : Around} (r : L2H.RoomH k A) : A.units + 64 < cLine := by
  have := r.un
  omega
theorem ErrCls.exm {K : PySem.W.Frag} {mg : Str → Option Value} {C : Addr} {x : Str} {cls : Value} {b : Bool} (E : ErrCls K mg C x) (h : PySem.W.subIn K cls (.ref C) = some b) : PySem.W.exmOne K cls (.ref C) = some b := PySem.W.exm_ref E.ex.hs E.ex.hd E.ty h
theorem ErrCls.kit {K : PySem.W.Frag} {mg : Str → Option Value} {C D : Addr} {x : Str} {b : Bool} (E : ErrCls K mg C x) (h : PySem.W.subIn K (.ref D) (.ref C) = some b) (hb : D = C → b = true) : PySem.W.kitOne K (.ref D) (.ref C) = some b := by
  unfold PySem.W.kitOne
  by_cases e : D = C
  · rw [if_pos (by rw [e]; exact beq_self_eq_true _), hb e]
  · rw [if_neg (by simpa using e)]
    show (if ((PySem.W.clsIn K C).isSome && PySem.W.typeIn K (.ref C) == some (.type "type")) = true then PySem.W.subIn K (.ref D) (.ref C) else none) = some b
    obtain ⟨cd, hc, _⟩ := PySem.W.any_some E.ex.hd
    rw [hc, E.ty, h]
    rfl
theorem ErrCls.kitF {K : PySem.W.Frag} {mg : Str → Option Value} {C D : Addr} {x : Str} (E : ErrCls K mg C x) (h : PySem.W.subIn K (.ref D) (.ref C) = some false) (hs : PySem.W.subIn K (.ref D) (.ref D) = some true) : PySem.W.kitOne K (.ref D) (.ref C) = some false := E.kit h fun e => by
  rw [e] at h hs
  rw [hs] at h
  cases h
theorem ErrCls.kitT {K : PySem.W.Frag} {mg : Str → Option Value} {C D : Addr} {x : Str} (E : ErrCls K mg C x) (h : PySem.W.subIn K (.ref D) (.ref C) = some true) : PySem.W.kitOne K (.ref D) (.ref C) = some true := E.kit h fun _ => rfl
theorem sz2 (vs : List V) (h : vs.length ≤ 2) : vs.length ≤ 1000 := by omega
section
variable {X : Cx} {C : Addr} {x f g : Str} {e : Expr} {es : List Expr} {ta : TA} {p pos : Pos}
theorem pmk_e1 {n : Str} (G : EDef X.prog X.w X.K X.mg X.base C x ["self", n] (sp_i1 C f)) (hr : Room 3 X.A) (ha : PA X (e :: es) ta) (hg : Gl X x := by rfl) (hdb : (x == ("__debug__" : Str)) = false := by decide)
    (he : starEach (e :: es) X.env = (false, eval e X.env) :: starEach es X.env := by rfl) (hpl : (backTo pos (starEach es X.env)).any (·.1) = false := by rfl) : L2N.PMk X (.Call (.Name x p) (e :: es) [] pos) (tErr C [f] ta) := by
  obtain ⟨fI, fd, F1, iC, tI, hb⟩ := G.ini
  refine pmk_oexN (R := fun Q vs H1 => vs.length = 1 ∧ (∀ v ∈ vs, Tell v) ∧ ∀ d, H1 d = none → Q (.ref C) (some d) (upd H1 d (.xd (([f] : List Str).zip vs).reverse))) (fun Q vs H1 hh => ?_) G.oex iC tI F1 hr hb hg G.at_ ha hdb he hpl
  obtain ⟨hl, ht, q⟩ := hh
  match vs, hl with
  | [v], _ =>
    refine ⟨sz2 _ (Nat.le_of_ble_eq_true rfl), fun a na => ⟨a, v, rfl, ht v List.mem_cons_self, upd_same, fun dx h1 h2 => ⟨rfl, dx, [(f, v)], upd_same, by rw [upd_ne h2, upd_same], ?_, ?_⟩⟩⟩
    · rw [upd_ne h2] at h1
      exact h1
    · rw [upd_ne h2] at h1
      rw [err_heap na h2 (H := H1) (fun b b1 b2 => by rw [upd_ne b1, upd_ne b2, upd_ne b1])]
      exact q dx h1
theorem pmk_e2 {n m : Str} (G : EDef X.prog X.w X.K X.mg X.base C x ["self", n, m] (sp_i2 C f g)) (hr : Room 3 X.A) (ha : PA X (e :: es) ta) (hg : Gl X x := by rfl) (hdb : (x == ("__debug__" : Str)) = false := by decide)
    (he : starEach (e :: es) X.env = (false, eval e X.env) :: starEach es X.env := by rfl) (hpl : (backTo pos (starEach es X.env)).any (·.1) = false := by rfl) : L2N.PMk X (.Call (.Name x p) (e :: es) [] pos) (tErr C [f, g] ta) := by
  obtain ⟨fI, fd, F1, iC, tI, hb⟩ := G.ini
  refine pmk_oexN (R := fun Q vs H1 => vs.length = 2 ∧ (∀ v ∈ vs, Tell v) ∧ ∀ d, H1 d = none → Q (.ref C) (some d) (upd H1 d (.xd (([f, g] : List Str).zip vs).reverse))) (fun Q vs H1 hh => ?_) G.oex iC tI F1 hr hb hg G.at_ ha hdb he hpl
  obtain ⟨hl, ht, q⟩ := hh
  match vs, hl with
  | [v, u], _ =>
    refine ⟨sz2 _ (Nat.le_of_ble_eq_true rfl), fun a na => ⟨a, v, u, rfl, ht v List.mem_cons_self, ht u (List.mem_cons_of_mem _ List.mem_cons_self), upd_same, fun dx h1 h2 => ⟨rfl, dx, [(g, u), (f, v)], ?_, upd_same, ?_, ?_⟩⟩⟩
    · rw [upd_ne (Ne.symm h2), upd_same]
    · rw [upd_ne h2] at h1
      exact h1
    · rw [upd_ne h2] at h1
      rw [err_heap na h2 (H := H1) (fun b b1 b2 => by rw [upd_ne b2, upd_ne b1, upd_ne b2, upd_ne b1])]
      exact q dx h1
end
/-! ### defs that raise -/
section
variable {P : Program} {w : World} {K : PySem.W.Frag} {mg : Str → Option Value} {base : Heap}
theorem _root_.RD.FunAt.okN {x : Str} {st : Stmt} {N ps : List Str} {k : Nat} {sp : Sp} (F : FunAt K mg x st ps) (S : FnScope N ps (defScope st)) (len : ∀ vs H Q E, sp vs H Q E → vs.length = ps.length)
    (hbody : ∀ (f : Addr) (cdv : Value) (A : Around) (outer : List Env) (s : Shared) (H : Hp) (vs : List V) (Q : VK) (E : XK), Room k (A.deeper (envOfC x (defScope st) s.heap.objs.size f cdv)) → sp vs H Q E →
      ∃ t, PSs (cxOf (L2N.CX P w) P w K mg base N x (defScope st) f cdv A outer s H E) (defBody st) t ∧ t { nx := fun _ H' => Q .non H', rt := Q } (start N vs) H) : Def P w K mg base (L2N.CX P w) (k + 1) x ps sp := by
  obtain ⟨f, fd, F, hm, hb⟩ := F.ex
  have kp := F.kp
  obtain ⟨oc, od, kV, doc, pm, an, cdv, ct, osl, rfl, lk, hcd⟩ := F.ex
  exact ⟨f, _, fn_of lk hcd S len fun A outer s H vs Q E hr hsp => hbody f cdv A outer s H vs Q E hr hsp, hm, kp, hb⟩
theorem cx_of_cxn {outer : List Env} {H : Hp} {s : Shared} {E : XK} {u : Value} {s2 : Shared} (h : L2N.CX P w outer H s E u s2) : L2.CX P w outer H s E u s2 := by
  obtain ⟨a, B, H2, cls, d, e1, fl, r⟩ := h
  exact ⟨a, B, H2, cls, d, e1, L2H.flyingZ_imp (fun _ z => z.zc) fl, r⟩
theorem _root_.RD.Def.toX {x : Str} {ps : List Str} {k : Nat} {sp : Sp} (G : Def P w K mg base (L2N.CX P w) k x ps sp) : Def P w K mg base (L2.CX P w) k x ps sp := by
  obtain ⟨f, fd, F, r⟩ := G.ex
  refine ⟨f, fd, ⟨F.len, fun A outer s H args us vs Q E hr e0 hb hv hs => codeAny_mono (F.run A outer s H args us vs Q E hr e0 hb hv hs) fun r s2 hq => ?_⟩, r⟩
  cases r with
  | error e => exact cx_of_cxn hq
  | ok fl => cases fl <;> exact hq
end
section
variable {X : Cx} {k : Nat} {ps : List Str} {sp : Sp} {x : Str} {p pos : Pos} {e : Expr} {es : List Expr} {t : TA} {W : WX}
/-- a call that may raise -/
theorem pe_callX (G : Def X.prog X.w X.K X.mg X.base (L2.CX X.prog X.w) k x ps sp) (tk : L2.Takes X W) (hr : Room k X.A) (ha : PA X (e :: es) t) (hg : Gl X x := by rfl)
    (hdb : (x == ("__debug__" : Str)) = false := by decide) (he : starEach (e :: es) X.env = (false, eval e X.env) :: starEach es X.env := by rfl) (hpl : (backTo pos (starEach es X.env)).any (·.1) = false := by rfl) : PE X (.Call (.Name x p) (e :: es) [] pos) (tCallS sp (WE W) t) := by
  obtain ⟨f, fd, F, hm, hk, hb⟩ := G.ex
  exact pe_callS F hr hg hm hk hb (fun σ => L2.passAt tk σ) ha hdb he hpl
theorem pe_callN (G : Def X.prog X.w X.K X.mg X.base (L2N.CX X.prog X.w) k x ps sp) (tk : L2N.Takes X W) (hr : Room k X.A) (ha : PA X (e :: es) t) (hg : Gl X x := by rfl)
    (hdb : (x == ("__debug__" : Str)) = false := by decide) (he : starEach (e :: es) X.env = (false, eval e X.env) :: starEach es X.env := by rfl) (hpl : (backTo pos (starEach es X.env)).any (·.1) = false := by rfl) : PE X (.Call (.Name x p) (e :: es) [] pos) (tCallS sp (WE W) t) := by
  obtain ⟨f, fd, F, hm, hk, hb⟩ := G.ex
  exact pe_callS F hr hg hm hk hb (fun σ => L2N.passAt tk σ) ha hdb he hpl
end
/-! ### in an except suite -/
/-- what a def promises wherever it is called: nothing in it asks what is handled -/
structure FnW (P : Program) (w : World) (K : PySem.W.Frag) (mg : Str → Option Value) (base : Heap) (k : Nat) (f : Addr) (fd : FuncData) (ps : List Str) (sp : Sp) : Prop where
  len : ∀ vs H Q E, sp vs H Q E → vs.length = ps.length
  run : ∀ (A : Around) (outer : List Env) (s : Shared) (H : Hp) (args : Args) (us : List Value) (vs : List V) (Q : VK) (E : XK), L2H.RoomH k A → Env0 P w K mg base A outer s H → BindsTo s fd args (ps.zip us) → Vals vs us → sp vs H Q E →
    codeAny (model P w) A (.call (.ref f) args) (CR CX0 outer P w H s Q E) s
structure DefW (P : Program) (w : World) (K : PySem.W.Frag) (mg : Str → Option Value) (base : Heap) (k : Nat) (x : Str) (ps : List Str) (sp : Sp) : Prop where
  ex : ∃ f fd, FnW P w K mg base k f fd ps sp ∧ mg x = some (.ref f) ∧ PySem.W.keepIn K (.ref f) = true ∧ Binds K fd ps []
def cxW (P : Program) (w : World) (K : PySem.W.Frag) (mg : Str → Option Value) (base : Heap) (N : List Str) (qual : Str) (scope : Scope) (f : Addr) (cd : Value) (A : Around) (outer : List Env) (s : Shared) (H : Hp) (E : XK) : Cx :=
  { cxOf CX0 P w K mg base N qual scope f cd A outer s H E with calm := false, xe := fun _ _ => False }
theorem env0_mark {P : Program} {w : World} {K : PySem.W.Frag} {mg : Str → Option Value} {base : Heap} {A : Around} {outer : List Env} {s : Shared} {H : Hp} (e : Env0 P w K mg base A outer s H) : Env0 P w K mg base { A with handled := none } outer s H :=
  ⟨e.frames, e.mod, e.bs, e.bsz, e.funs, e.frf, e.hok, e.bare⟩
theorem _root_.RD.FunAt.okW {P : Program} {w : World} {K : PySem.W.Frag} {mg : Str → Option Value} {base : Heap} {x : Str} {st : Stmt} {N ps : List Str} {k : Nat} {sp : Sp} (F : FunAt K mg x st ps) (S : FnScope N ps (defScope st)) (len : ∀ vs H Q E, sp vs H Q E → vs.length = ps.length)
    (hbody : ∀ (f : Addr) (cdv : Value) (A : Around) (outer : List Env) (s : Shared) (H : Hp) (vs : List V) (Q : VK) (E : XK), L2H.RoomH k (A.deeper (envOfC x (defScope st) s.heap.objs.size f cdv)) → sp vs H Q E →
      ∃ t, PSs (cxW P w K mg base N x (defScope st) f cdv A outer s H E) (defBody st) t ∧ t { nx := fun _ H' => Q .non H', rt := Q } (start N vs) H) : DefW P w K mg base (k + 1) x ps sp := by
  obtain ⟨f, fd, F, hm, hbd⟩ := F.ex
  have kp := F.kp
  obtain ⟨oc, od, kV, doc, pm, an, cdv, ct, osl, rfl, lk, hcd⟩ := F.ex
  refine ⟨f, _, ⟨len, fun A outer s H args us vs Q E hr e0 hb r hsp => ?_⟩, hm, kp, hbd⟩
  have hl := len _ _ _ _ hsp
  have inS := e0.mod.kin.keeps fun b o e => (e0.bs b o e).1
  have lim := e0.mod.nolimit.keeps fun b o e => (e0.bs b o e).1
  have hkind : ∀ y ∈ ps.zip us, (defScope st).names.lookup y.1 = some .local ∨ ((defScope st).names.lookup y.1 = some .cell ∧ ((cellsFrom (s.heap.objs.size + 1) (defScope st).names []).lookup y.1).isSome = true) := fun ⟨n, v⟩ hy => (S.par n (List.of_mem_zip hy).1).imp id fun q => ⟨q, PySem.W.cellsFrom_some _ _ _ (.inl q)⟩
  refine codeAny_call_function hr.depth (inS _ _ lk) rfl S.co S.gen rfl (PySem.W.codeRec_of inS hcd) (hb _ _ _ _ (wpAny_newFunctionEnv_cells S.kind hkind fun env he s1 ic => ?_))
  subst he
  refine ⟨lim.keeps ic.toInCall.keep, codeAny_func ?_⟩
  obtain ⟨t, ht, hq⟩ := hbody f cdv A outer s H vs Q E (hr.deeper _) hsp
  have J : Inv (cxOf CX0 P w K mg base N x (defScope st) f cdv { A with handled := none } outer s H E) [] (start N vs) H s1 := inv_start S rfl (env0_mark e0) hl r ic
  have I : Inv (cxW P w K mg base N x (defScope st) f cdv A outer s H E) [] (start N vs) H s1 :=
    ⟨⟨J.ok.mod, J.ok.kind, J.ok.glob, J.ok.blt, J.ok.above, J.ok.inj, J.ok.has, J.ok.cab, fun z => (by cases z), Around.frames_deeper e0.frames, J.ok.stk, J.ok.exf, J.ok.bs, J.ok.bsz, J.ok.noex, J.ok.exfs, J.ok.funs, J.ok.frf⟩, J.os, J.bare, J.base, J.loc, J.cell, J.free, J.freeC, J.pin, J.hok, J.len⟩
  refine wpAny_mono (ht.run [] s1 (start N vs) H _ I hq) (fun fl s2 hs => ?_) fun e s2 hs => False.elim hs
  have fin : ∀ {σ2 : L2.St} {H2 : Hp} {v : V} {u : Value}, Inv (cxW P w K mg base N x (defScope st) f cdv A outer s H E) [] σ2 H2 s2 → RelV v u → Q v H2 → CE outer P w H s Q u s2 := fun {σ2 H2 v u} J2 rv q => ⟨v, H2, J2.os, J2.bare, J2.base, J2.hok, rv, q⟩
  cases fl with
  | ret u =>
    obtain ⟨v, σ2, H2, J2, rv, q⟩ := hs
    exact fin J2 rv q
  | next =>
    obtain ⟨σ2, H2, J2, q⟩ := hs
    exact fin (v := V.non) (u := Value.none) J2 rfl q
  | brk => exact hs.elim fun _ h => h.elim fun _ h => h.2.elim
  | cont => exact hs.elim fun _ h => h.elim fun _ h => h.2.elim
section
variable {X : Cx} {k : Nat} {ps : List Str} {sp : Sp} {x : Str} {p pos : Pos} {e : Expr} {es : List Expr} {t : TA}
theorem pe_callW (G : DefW X.prog X.w X.K X.mg X.base k x ps sp) (hr : L2H.RoomH k X.A) (ha : PA X (e :: es) t) (hg : Gl X x := by rfl)
    (hdb : (x == ("__debug__" : Str)) = false := by decide) (he : starEach (e :: es) X.env = (false, eval e X.env) :: starEach es X.env := by rfl) (hpl : (backTo pos (starEach es X.env)).any (·.1) = false := by rfl) : PE X (.Call (.Name x p) (e :: es) [] pos) (tCall sp [] E0 t) := by
  obtain ⟨f, fd, F, hm, hk, hb⟩ := G.ex
  refine ⟨fun pins s σ H Q I h => ?_⟩
  refine wpAny_Call_Name_kw (ld_glob I hg hm (PySem.W.callWith_K (h₀ := X.base) I.ok.mod.kin hk (thn (ha.run pos pins s σ H _ I h) fun us s1 hh => ?_) he hpl) hdb)
  obtain ⟨vs, H1, I1, r, q⟩ := hh
  rw [List.append_nil] at q
  have b := hb s1 us I1.kIn (by rw [List.append_nil, ← r.length]; exact F.len _ _ _ _ q)
  rw [List.append_nil] at b
  refine ⟨I1.kIn, wpAny_call (codeAny_mono (F.run X.A X.stack s1 H1 ⟨us, []⟩ us vs Q E0 hr I1.env0 b r q) fun r s2 hq => ?_)⟩
  cases r with
  | error e => exact hq.elim
  | ok fl =>
    cases fl with
    | ret u => exact I1.after hq
    | next => exact hq.elim
    | brk => exact hq.elim
    | cont => exact hq.elim
end
/-- isinstance(e, c), e the caught error (at a; its class cls, its dict d) -/
def rIsED (K : PySem.W.Frag) (a : Addr) (cls : Value) (d : Option Addr) : List V → Hp → VK → Prop := fun xs H Q => ∃ (D : Addr) (c : V) (cv : Value) (b : Bool) (dd : Addr) (fs : List (Str × V)), xs = [.ref a, c] ∧ cls = .ref D ∧ ExcC K D ∧ d = some dd ∧ H dd = some (.xd fs) ∧
  (∀ u, RelV c u → u = cv) ∧ PySem.W.kitOne K (.ref D) cv = some b ∧ Q (.bl b) H
theorem call_isED {X : Cx} {a : Addr} {cls : Value} {d : Option Addr} {oe : Obj} {pn : List (Addr × Obj)} (hz : Zc cls d oe) (hf : ∃ vs, oe.data = .fields vs) : CallR (X.suite a ((a, oe) :: pn)) (.builtin "isinstance") (rIsED X.K a cls d) := by
  intro pins s σ H xs us Q I r h
  obtain ⟨D, c, cv, b, dd, fs, rfl, hcl, T, hdd, hxd, hcv, e, q⟩ := h
  cases r with
  | cons rx rr =>
    cases rr with
    | cons rt rr =>
      cases rr
      cases rx
      have ec := hcv _ rt
      subst ec
      subst hcl
      subst hdd
      obtain ⟨hget, _⟩ := I.pin (a, oe) (List.mem_append.mpr (.inl List.mem_cons_self))
      obtain ⟨vs, hv⟩ := hf
      have hx : ObjOk X.prog X.w H s.heap dd (.xd fs) := I.hok dd _ hxd
      obtain ⟨mA, hns, _⟩ := hx
      obtain ⟨od, ho, _⟩ := lookIn_ns hns
      have J : PySem.W.InstAt s.heap a oe D (some od) := ⟨hget, hz.1, by unfold PySem.W.notCls; rw [hv], by rw [hz.2]; exact ho⟩
      obtain ⟨cd, hcc, _⟩ := PySem.W.any_some T.hd
      exact PySem.W.kia_one (PySem.W.kitx_exc (by rw [hcc]; rfl) T.hg T.hk T.hs T.ha T.hn T.ht T.hm) I.kIn J e (fun z => nomatch z) fun tk => ⟨.bl b, H, I.kept (t' := tk) fun _ _ z => z, rfl, q⟩
/-- e.f of the caught error -/
def tXfD (K : PySem.W.Frag) (a : Addr) (cls : Value) (d : Option Addr) (f : Str) (te : TE) : TE := fun σ H Q => te σ H fun x H1 => x = .ref a ∧ ∃ (D dd : Addr) (fs : List (Str × V)) (v : V), cls = .ref D ∧ XfC K D ∧ PySem.W.findIn K (.ref D) f = some none ∧ d = some dd ∧ H1 dd = some (.xd fs) ∧ fs.lookup f = some v ∧ Q v H1
theorem pe_xfD {X : Cx} {a : Addr} {oe : Obj} {cls : Value} {d : Option Addr} {pn : List (Addr × Obj)} {e : Expr} {te : TE} {pos : Pos} {n : Str}
    (hz : Zc cls d oe) (hf : ∃ vs, oe.data = .fields vs) (he : PE (X.suite a ((a, oe) :: pn)) e te) (hb : attributeBase e n X.env (eval e X.env) = eval e X.env := by rfl) :
    PE (X.suite a ((a, oe) :: pn)) (.Attribute e n pos) (tXfD X.K a cls d n te) := by
  refine ⟨fun pins s σ H Q I h => attr_of hb (thn (he.run pins s σ H _ I h) fun u s1 hh => ?_)⟩
  obtain ⟨x, H1, I1, rx, ex, D, dd, fs, v, ec, T, hno, ed, ea, l, q⟩ := hh
  subst ex
  obtain rfl : u = Value.ref a := rx
  subst ec
  subst ed
  obtain ⟨ha, _⟩ := I1.pin (a, oe) (List.mem_append_left _ List.mem_cons_self)
  obtain ⟨vs, hd⟩ := hf
  have hx : ObjOk X.prog X.w H1 s1.heap dd (.xd fs) := I1.hok dd _ ea
  obtain ⟨mA, hns, hr⟩ := hx
  obtain ⟨od, ho, hl⟩ := lookIn_ns hns
  obtain ⟨u, hu, ru⟩ := RelO.some_of (v := v) (o := mA n) (by rw [← l]; exact hr n)
  have J : PySem.W.InstAt s1.heap a oe D (some od) := ⟨ha, hz.1, by unfold PySem.W.notCls; rw [hd], by rw [hz.2]; exact ho⟩
  exact HandSPX.exc_get I1.kIn J T.ga T.gg T.exC (PySem.W.findObj_own T.hdC hno rfl (by rw [hl, hu])) (handed_of ru) ⟨v, H1, I1.tok _, ru, q⟩

/-! ### named readings -/
def tRaise (t : L2.St → Hp → XK → Prop) (W : WX) : TS := fun _ σ H => t σ H fun cls d H' => W cls d σ H'
theorem ps_raiseE {X : Cx} {W : WX} {e : Expr} {t : L2.St → Hp → XK → Prop} {pos : Pos} (hc : X.calm = true) (tk : L2N.Takes X W) (he : L2N.PMk X e t) : PS X (.Raise (some e) none pos) (tRaise t W) := L2N.ps_raise hc tk he
def tTryA (K : PySem.W.Frag) (c : Value) (i : Nat) (ts : Addr → Value → Option Addr → TS) (tb : WX → TS) : TS := fun D σ H => tb (wAs K c i ts (fun _ _ _ _ => False) D) D σ H
theorem ps_tryA {X : Cx} {x n : Str} {c : Value} {i : Nat} {body suite : List Stmt} {b₀ : Stmt} {np pos pos' : Pos} {tb : WX → TS} {ts : Addr → Value → Option Addr → TS} (hs : X.stack = X.env :: X.outer) (hf : X.env.frame = some X.env.locals) (hN : X.N.Nodup) (hi : X.N[i]? = some n) (hln : X.env.kindOf n = some .local) (hc : Names X x c)
    (hb : ∀ (W : WX) (pn : List (Addr × Obj)) (xe : Value → Shared → Prop), L2.Takes (X.tr pn xe) W → PassesOwn (model X.prog X.w) X.A X.env xe → PSs (X.tr pn xe) body (tb W))
    (hsu : ∀ (a : Addr) (oe : Obj) (cls : Value) (d : Option Addr) (pn : List (Addr × Obj)), Zc cls d oe → (∃ vs, oe.data = .fields vs) → PSs (X.suite a ((a, oe) :: pn)) (b₀ :: suite) (ts a cls d)) :
    PS X (.Try body [.ExceptHandler (some (.Name x np)) (some n) (b₀ :: suite) pos'] [] [] pos) (tTryA X.K c i ts tb) := L2.ps_try_as hs hf hN hi hln hc L2.takes0 hb hsu
theorem r_tryA {K : PySem.W.Frag} {c : Value} {i : Nat} {ts : Addr → Value → Option Addr → TS} {tb : WX → TS} {D : Ends} {σ : L2.St} {H : Hp} (q : tb (wAs K c i ts (fun _ _ _ _ => False) D) D σ H) : tTryA K c i ts tb D σ H := q
theorem r_callS {sp : Sp} {E : L2.St → XK} {t : TA} {σ : L2.St} {H : Hp} {Q : VK} (q : t σ H fun vs H1 => sp vs H1 Q (E σ)) : tCallS sp E t σ H Q := q
theorem r_raise {C : Addr} {fs : List Str} {ta : TA} {W : WX} {D : Ends} {σ : L2.St} {H : Hp} (q : ta σ H fun vs H1 => vs.length = fs.length ∧ (∀ v ∈ vs, Tell v) ∧ ∀ d, H1 d = none → W (.ref C) (some d) σ (upd H1 d (.xd (fs.zip vs).reverse))) : tRaise (tErr C fs ta) W D σ H := q
/-- the clause takes it -/
theorem w_yes {K : PySem.W.Frag} {cls c : Value} {d : Option Addr} {i : Nat} {ts : Addr → Value → Option Addr → TS} {Wout : WX} {D : Ends} {σ : L2.St} {H : Hp} (hb : PySem.W.exmOne K cls c = some true)
    (q : ∀ a, H a = none → ts a cls d { nx := fun σ' H' => D.nx (σ'.set i none) H', rt := D.rt, bk := fun σ' H' => D.bk (σ'.set i none) H', ct := fun σ' H' => D.ct (σ'.set i none) H' } (σ.set i (some (.ref a))) H) : wAs K c i ts Wout D cls d σ H := ⟨true, hb, fun _ => q, fun z => by cases z⟩
theorem r_isED {K : PySem.W.Frag} {a D C dd : Addr} {b : Bool} {fs : List (Str × V)} {H : Hp} {Q : VK} (T : ExcC K D) (hx : H dd = some (.xd fs)) (hk : PySem.W.kitOne K (.ref D) (.ref C) = some b) (q : Q (.bl b) H) : rIsED K a (.ref D) (some dd) [.ref a, .ref C] H Q :=
  ⟨D, .ref C, .ref C, b, dd, fs, rfl, rfl, T, rfl, hx, fun u h => h, hk, q⟩
theorem r_xfD {K : PySem.W.Frag} {a : Addr} {cls : Value} {d : Option Addr} {f : Str} {te : TE} {σ : L2.St} {H : Hp} {Q : VK} (q : te σ H fun x H1 => x = .ref a ∧ ∃ (D dd : Addr) (fs : List (Str × V)) (v : V), cls = .ref D ∧ XfC K D ∧ PySem.W.findIn K (.ref D) f = some none ∧ d = some dd ∧ H1 dd = some (.xd fs) ∧ fs.lookup f = some v ∧ Q v H1) : tXfD K a cls d f te σ H Q := q
/-- an error's dict beside the tracked heap -/
theorem _root_.RD.Own.xd {H0 H : Hp} {L : List (Addr × HO)} {d : Addr} {fs : List (Str × V)} (o : Own H0 H L) (hd : H d = none) : Own H0 (upd H d (.xd fs)) ((d, .xd fs) :: L) := o.new hd

/-! ### a def that may raise, called where it does not -/
def spZ (sp : Sp) : Sp := fun vs H Q _ => sp vs H Q (fun _ _ _ => False)
section
variable {P : Program} {w : World} {K : PySem.W.Frag} {mg : Str → Option Value} {base : Heap}
theorem _root_.RD.Def.toZ {x : Str} {ps : List Str} {k : Nat} {sp : Sp} (G : Def P w K mg base (L2.CX P w) k x ps sp) : Def P w K mg base CX0 k x ps (spZ sp) := by
  obtain ⟨f, fd, F, r⟩ := G.ex
  refine ⟨f, fd, ⟨fun vs H Q E h => F.len vs H Q _ h, fun A outer s H args us vs Q E hr e0 hb hv hs => codeAny_mono (F.run A outer s H args us vs Q (fun _ _ _ => False) hr e0 hb hv hs) fun r s2 hq => ?_⟩, r⟩
  cases r with
  | error e =>
    obtain ⟨a, B, H2, cls, d, e1, fl, h1, h2, h3, h4, h5, h6⟩ := hq
    exact h6
  | ok fl => cases fl <;> exact hq
end

/-! ### own errors raised in an except suite -/
section
variable {P : Program} {w : World} {K : PySem.W.Frag} {mg : Str → Option Value} {base : Heap}
theorem SupAt.okH {C fI : Addr} {qn : Str} {st : Stmt} {N ps : List Str} {k : Nat} {sp : Sp} {fd : FuncData} {p0 p1 p2 p3 p4 : Pos} {msg : Expr} {pl : Env → Sem Bool} {rest : List Stmt} {ar : Arg} (S : SupAt K C qn st fI fd) (hP : PrOk P) (U : SupC K C) (Z : NdefX.NScope N ps ["__class__"] (defScope st))
    (hsup : mg "super" = none) (har : ((defArgs st).posonlyargs ++ (defArgs st).args).head? = some ar) (han : ps.head? = some ar.arg)
    (hks : (defScope st).names.lookup ("super" : Str) = some .globalImplicit)
    (hB : defBody st = .Expr (.Call (.Attribute (.Call (.Name "super" p0) [] [] p1) "__init__" p2) [msg] [] p3) p4 :: rest)
    (hst : ∀ env : Env, starEach [msg] env = [(false, eval msg env)]) (hsw : ∀ env : Env, swapsWith (.Call (.Attribute (.Call (.Name "super" p0) [] [] p1) "__init__" p2) [msg] [] p3) none p4.line env = pure false)
    (hev : ∀ env : Env, eval (.Call (.Attribute (.Call (.Name "super" p0) [] [] p1) "__init__" p2) [msg] [] p3) env = (do
      let ov ← attributeBase (.Call (.Name "super" p0) [] [] p1) "__init__" env (eval (.Call (.Name "super" p0) [] [] p1) env)
      standAt p2.atName
      let (f, first) ← holding [ov] (getMethod ov "__init__" (pl env))
      callWith p3 f first (backTo p3 (starEach [msg] env)) []))
    (len : ∀ vs H Q E, sp vs H Q E → vs.length = ps.length)
    (hbody : ∀ (cda cc : Addr) (A : Around) (outer : List Env) (s : Shared) (H : Hp) (vs : List V) (Q : VK) (E : XK) (pp : Addr × Obj), L2H.RoomH k (A.deeper (NdefX.envF (supF qn st cda cc) fI s.heap.objs.size)) → sp vs H Q E →
      ∃ (a : Addr) (vs2 : List V) (tm : TE) (tr : TS), vs = .ref a :: vs2 ∧ H a = some (exo a C none) ∧ PE (NdefX.ncxH CX0 P w K mg base N (supF qn st cda cc) fI A outer s H E pp) msg tm ∧ PSs (NdefX.ncxH CX0 P w K mg base N (supF qn st cda cc) fI A outer s H E pp) rest tr ∧
        tm (NdefX.startF N vs [none]) H fun x H1 => (∃ v, [x] = [v]) ∧ H1 a = some (exo a C none) ∧ tr { nx := fun _ H' => Q .non H', rt := Q } (NdefX.startF N vs [none]) H1) :
    L2H.FnH P w K mg base CX0 (k + 1) fI fd ps sp := by
  obtain ⟨oc, od, kV, doc, pm, an, cda, cc, ct, osl, rfl, lk, hcd, ⟨cl1, cld1, csl1, hcc⟩, cl2, cld2, csl2, fs, tf, hcda, hfs⟩ := S.ex
  refine ⟨len, fun A outer s H args us vs Q E pp hr hhot hpin e0 hb r hsp => ?_⟩
  have KX : K.In s.heap := e0.mod.kin.keeps fun b o e => (e0.bs b o e).1
  have lim : s.heap.NoLimit := e0.mod.nolimit.keeps fun b o e => (e0.bs b o e).1
  have hl := len _ _ _ _ hsp
  have ccH : H cc = none := (e0.bs cc _ (e0.mod.kin _ _ hcc)).2
  have CA : NdefX.CellsAt [("__class__", cc)] ["__class__"] [none] s.heap H := by
    have look : ∀ y c, List.lookup y [(("__class__" : Str), cc)] = some c → y = "__class__" ∧ c = cc := fun y c h => by
      by_cases e : y = "__class__"
      · subst e
        simp [List.lookup] at h
        exact ⟨rfl, h.symm⟩
      · have e2 : (y == ("__class__" : Str)) = false := by simpa using e
        simp [List.lookup, e2] at h
    refine ⟨rfl, fun y c h => ?_, fun x y c h1 h2 => ?_, fun i y h => ?_⟩
    · obtain ⟨rfl, rfl⟩ := look y c h
      exact ⟨ccH, _, _, KX _ _ hcc, rfl⟩
    · rw [(look x c h1).1, (look y c h2).1]
    · match i, h with
      | 0, h =>
        have e : y = "__class__" := (Option.some.inj h).symm
        subst e
        exact ⟨cc, by simp [List.lookup], fun v z => by cases z⟩
  obtain ⟨a, vs2, tm, tr, hvs, ha, hm, htr, hq⟩ := hbody cda cc A outer s H vs Q E pp (hr.deeper _) hsp
  refine PySem.ks_codeAny_call_defAt (binds := ps.zip us) hr.depth (KX _ _ lk) rfl lim (PySem.W.codeRec_of KX hcd) rfl hb Z.nocell (fun ⟨n, _⟩ hy => Z.par n (List.of_mem_zip hy).1) (fun h₀ hns kp => ?_) Z.co Z.gen Z.kind
  have I := NdefX.inv_startNH (f := fI) (F := supF qn st cda cc) (CX := CX0) (E := E) (tk := s.toks + (ps.zip us).length) Z hpin e0 hl r CA hns kp
  have q0 : ∃ us2, us = .ref a :: us2 := by
    subst hvs
    cases r with
    | @cons _ u0 _ ur r0 r1 =>
      obtain rfl : u0 = Value.ref a := r0
      exact ⟨ur, rfl⟩
  obtain ⟨us2, hus⟩ := q0
  obtain ⟨p', ps2, hps⟩ : ∃ p' ps2, ps = p' :: ps2 := by
    cases ps with
    | nil => cases han
    | cons p' ps2 => exact ⟨p', ps2, rfl⟩
  have hp' : p' = ar.arg := by
    rw [hps] at han
    exact Option.some.inj han
  have ndP : ps.Nodup := by
    have q := Z.nd.sublist (List.take_sublist (ps.length + 1) N)
    rw [show N.take (ps.length + 1) = ps ++ [("__class__" : Str)] from Z.pre] at q
    exact (List.nodup_append.mp q).1
  have hself : (ps.zip us).reverse.lookup ar.arg = some (.ref a) := by
    refine NdefX.zip_look (i := 0) ndP ?_ ?_
    · rw [hps, hp']; rfl
    · rw [hus]; rfl
  have hself2 : (defScope st).names.lookup ar.arg = some .local := by
    rw [← hp']
    exact Z.par p' (by rw [hps]; exact List.mem_cons_self ..)
  refine PySem.ks_wpAt_mono (Q := SP (NdefX.ncxH CX0 P w K mg base N (supF qn st cda cc) fI A outer s H E pp) [] { nx := fun _ H' => Q .non H', rt := Q }) (E := (NdefX.ncxH CX0 P w K mg base N (supF qn st cda cc) fI A outer s H E pp).xe) ?_ (fun fl s' hs => ?_) fun _ _ z => z
  · show PySem.wpAt _ _ _ (execs (defBody st) _) _ _ _
    obtain ⟨oD, hD0, hD2⟩ : ∃ o, K.lookup C = some o ∧ ∃ cd, o.data = .cls cd ∧ PySem.W.clsIn K C = some cd := by
      have q := U.self
      unfold PySem.W.mroIn at q
      cases z : PySem.W.clsIn K C with
      | none => rw [z] at q; cases q
      | some cd =>
        obtain ⟨o, h1, h2⟩ := cls_obj z
        exact ⟨o, h1, cd, h2, rfl⟩
    obtain ⟨cd, hD3, hD4⟩ := hD2
    have K1 := I.kIn
    obtain ⟨t1, ho⟩ := exo_at I.hok ha
    have gN := I.mod.glob.keeps I.bk
    obtain ⟨mb, hmb1, hmb2⟩ := I.mod.blt
    have bN := hmb1.keeps I.bk
    rw [hB]
    refine PySem.ks_wpAt_execs_cons ?_
    refine PySem.ks_wpAt_Expr_any ?_ (by show ((defScope st).kind == .module && _) = false; rw [Z.kind]; rfl) (hsw _)
    refine PySem.ks_wpAt_MethodCall ?_ (hev _)
    refine PySem.ks_wpAt_super_base hks (Z.frk _ (List.mem_singleton.mpr rfl)) (by decide) rfl (K1 _ _ lk) rfl har rfl (K1 _ _ hcda) rfl hfs (by rw [hP.file]; exact beq_self_eq_true _) hP.top ?_
    refine PySem.W.ks_loadName_global Z.kind hks (Calls.loadGlobal_builtin gN hsup bN ((hmb2 _ (by decide)).trans (by kernel_rfl)) ⟨rfl, ?_⟩)
    refine wpAny_loadName_free Z.kind (Z.frk _ (List.mem_singleton.mpr rfl)) (show List.lookup ("__class__" : Str) [(("__class__" : Str), cc)] = some cc by simp [List.lookup]) ⟨_, K1 _ _ hcc, rfl⟩ ?_
    refine wpAny_loadName_local Z.kind hself2 hns hself ?_
    refine PySem.ks_wpAny_isType_cls (K1 _ _ hD0) hD3 ⟨rfl, ?_⟩
    refine PySem.ks_wpAny_call_super (K1 _ _ hD0) hD3 ho rfl (fun c z => by cases z) (PySem.W.looks_mroIn K1 U.self) (fun h1 e1 k1 => ?_)
    have I1 := I.kept (t' := s.toks + (ps.zip us).length) k1
    have J1 : PySem.W.InstAt h1 a _ C none := ⟨k1 _ _ ho, rfl, rfl, trivial⟩
    have hf : PySem.W.alongIn K "__init__" ((cd.mro.dropWhile (· != .ref C)).drop 1) = some (some (.builtin "ValueError.__init__")) := by
      have q := U.ini
      unfold PySem.W.ks_superIn at q
      rw [hD4] at q
      exact q
    refine PySem.W.kxs_getMethod PySem.W.kxs_ValueError e1 (PySem.W.looks_opaque I1.kIn U.stat) (l₀ := cd.mro) (fun A Q E s k q => wpAny_bind ((PySem.W.looks_clsIn I1.kIn hD4) A _ E s k (wpAny_pure q))) rfl I1.kIn hf (J1.type.andThen (PySem.W.looks_subIn I1.kIn U.sub)) (PySem.W.ks_ne I1.kIn J1 hD4) (by decide) ?_
    have I2 := I1.kept (t' := s.toks + (ps.zip us).length + 1) (h' := h1.push (PySem.W.kxs_mw "ValueError.__init__" a)) (fun b o q => Heap.get?_push_of_some _ q)
    have I3 := I2.pins_of (pins' := [(h1.objs.size, PySem.W.kxs_mw "ValueError.__init__" a)]) (fun p hp => by
      rw [List.mem_singleton.mp hp]
      exact ⟨Heap.get?_push_size _ rfl, I1.hok.fresh (Nat.le_refl _), Nat.ne_of_gt I1.lt, I1.nofs (Nat.le_refl _), fun v z => by cases z⟩)
    refine mw_call1 (i := "ValueError.__init__") (x := a) (hst _) ?_
    have hst0 := hst (NdefX.ncxH CX0 P w K mg base N (supF qn st cda cc) fI A outer s H E pp).env
    refine thn ((pa_cons hm pa_nil hst0).run p3 _ _ _ H (fun us2 H1 => (∃ v, us2 = [v]) ∧ H1 a = some (exo a C none) ∧ tr { nx := fun _ H' => Q .non H', rt := Q } (NdefX.startF N vs [none]) H1) I3 ?_) fun us3 s3 hh => ?_
    · exact hq
    obtain ⟨vs3, H1, I4, r4, ⟨v3, hv3⟩, ha1, hq1⟩ := hh
    subst hv3
    have hlen : us3.length ≤ sizeLine := by
      rw [← Paired.length r4]
      exact (by decide : 1 ≤ sizeLine)
    have hu : s3.heap.get? h1.objs.size = some (PySem.W.kxs_mw "ValueError.__init__" a) := (I4.pin _ (List.mem_append_right _ (List.mem_singleton.mpr rfl))).1
    refine ⟨hu, ?_⟩
    obtain ⟨t3, ho3⟩ := exo_at I4.hok ha1
    obtain ⟨nm, qq, nn, bs, bm, sn, sub, ab, col, dd, z0, z1, z2, z3, z5, hC, hbm⟩ := U.oex.cls
    obtain ⟨hp3, g3, d3, tk3, os3⟩ := s3
    have fin : ∀ h', (∀ b o, b ≠ a → hp3.get? b = some o → h'.get? b = some o) → h'.get? a = some (PySem.W.excObj C hp3.objs.size none .none) →
        PySem.wpAt (model P w) (A.deeper (NdefX.envF (supF qn st cda cc) fI s.heap.objs.size)) (.func (.Expr (.Call (.Attribute (.Call (.Name "super" p0) [] [] p1) "__init__" p2) [msg] [] p3) p4 :: rest) (NdefX.envF (supF qn st cda cc) fI s.heap.objs.size))
          (execs rest (NdefX.envF (supF qn st cda cc) fI s.heap.objs.size)) (SP (NdefX.ncxH CX0 P w K mg base N (supF qn st cda cc) fI A outer s H E pp) [] { nx := fun _ H' => Q .non H', rt := Q }) (NdefX.ncxH CX0 P w K mg base N (supF qn st cda cc) fI A outer s H E pp).xe ⟨h', g3, d3, tk3, os3⟩ := fun h' k hx => by
      have J := I4.write (t' := tk3) (x := a) (e := a) (o := exo a C none) (by rw [ha1]; exact True.intro) (.inl rfl) k ⟨_, hx⟩ (exo_ok hx)
      have eu : upd H1 a (exo a C none) = H1 := funext fun b => by
        by_cases hb : b = a
        · rw [hb, upd_same, ha1]
        · exact upd_ne hb
      rw [eu] at J
      exact PySem.wpAt_of_wpAny (htr.run [] _ _ H1 _ (J.pins_of (pins' := []) fun p hp => absurd hp (by simp)) hq1)
    refine wpAny_call (codeAny_of_tree (show wpAny _ _ (callAny (.ref h1.objs.size) ⟨us3, []⟩) _ _ _ from ?_))
    simp only [callAny]
    refine wpAny_bind (wpAny_load hu ?_)
    simp only [PySem.W.kxs_mw, show (Value.type "method-wrapper" == Value.type "method" || Value.type "method-wrapper" == Value.type "builtin_function_or_method" || Value.type "method-wrapper" == Value.type "method-wrapper") = true by decide, if_true]
    refine PySem.W.KFB.if_so (by decide) (wpAny_bind (PySem.W.check_bound_init F.excBase_ValueError.toExcCallFacts (I4.kIn _ _ hC) ho3 rfl (wpAny_bind (wpAny_pure (wpAny_pure ?_)))))
    refine ⟨plainId_quiet F.excBase_ValueError.init.plain _, codeAny_builtin F.excBase_ValueError.initEntry (PySem.W.exc_init_tree (cls := .ref C) (t0 := t3) (dv := none) (c2 := .none) (c3 := .none) (b4 := .bool false) ho3 hlen fun h' k hx _ => ?_)⟩
    exact fin h' k hx
  · have fin : ∀ {σ' : L2.St} {H' : Hp} {v : V} {u : Value}, Inv (NdefX.ncxH CX0 P w K mg base N (supF qn st cda cc) fI A outer s H E pp) [] σ' H' s' → L2.RelV v u → Q v H' → CE outer P w H s Q u s' :=
      fun {σ' H' v u} J rv q => ⟨v, H', J.os, J.bare, J.base, J.hok, rv, q⟩
    cases fl with
    | ret u =>
      obtain ⟨v, σ', H', J, rv, q⟩ := hs
      exact fin J rv q
    | next =>
      obtain ⟨σ', H', J, q⟩ := hs
      exact fin (v := V.non) (u := Value.none) J rfl q
    | brk =>
      obtain ⟨_, _, _, q⟩ := hs
      exact False.elim q
    | cont =>
      obtain ⟨_, _, _, q⟩ := hs
      exact False.elim q
end
/-- C's __init__ keeps sp where something is handled, too -/
structure EDefH (P : Program) (w : World) (K : PySem.W.Frag) (mg : Str → Option Value) (base : Heap) (C : Addr) (x : Str) (ps : List Str) (sp : Sp) : Prop where
  at_ : mg x = some (.ref C)
  oex : OexC K C
  ini : ∃ fI fd, L2H.FnH P w K mg base CX0 2 fI fd ps sp ∧ PySem.W.findIn K (.ref C) "__init__" = some (some (.ref fI)) ∧ PySem.W.typeIn K (.ref fI) = some (.type "function") ∧ Binds K fd ps []
theorem pmk_zc {X : Cx} {e : Expr} {t : L2.St → Hp → XK → Prop} (h : L2N.PMk X e t) : L2.PMk X e t := fun pins s σ H Q I q => thn (h pins s σ H Q I q) fun _ _ ⟨a, oe, vs, sI, H', cls, d, e1, J, k, hne, ha, hz, r⟩ => ⟨a, oe, vs, sI, H', cls, d, e1, J, k, hne, ha, hz.zc, r⟩
theorem ps_raiseX {X : Cx} {W : WX} {e : Expr} {t : L2.St → Hp → XK → Prop} {pos : Pos} (hc : X.calm = true) (tk : L2.Takes X W) (he : L2N.PMk X e t) : PS X (.Raise (some e) none pos) (tRaise t W) := L2.ps_raise hc tk (pmk_zc he)
theorem ps_raiseF {X : Cx} {W : WX} {e : Expr} {t : L2.St → Hp → XK → Prop} {j : Nat} {cpos pos : Pos} (hc : L2H.HotC X) (tk : L2.Takes X W) (he : L2H.PMk5 X e t) : PS X (.Raise (some e) (some (.Constant .none j cpos)) pos) (tRaise t W) := L2H.ps_raiseHN hc tk he
/-- arguments known by a word only -/
def tCutA (t : TA) : TA := fun σ H R => ∃ S : List V → Hp → Prop, t σ H S ∧ ∀ vs H1, S vs H1 → R vs H1
theorem pa_cut {X : Cx} {es : List Expr} {t : TA} (h : PA X es t) : PA X es (tCutA t) := ⟨fun pos pins s σ H R I ⟨S, h1, k⟩ => thn (h.run pos pins s σ H S I h1) fun us s1 ⟨vs, H1, I1, r, q⟩ => ⟨vs, H1, I1, r, k vs H1 q⟩⟩
section
variable {X : Cx} {C : Addr} {x f g : Str} {e : Expr} {es : List Expr} {ta : TA} {p pos : Pos}
theorem pmk5_e1 {n : Str} (G : EDefH X.prog X.w X.K X.mg X.base C x ["self", n] (sp_i1 C f)) (hr : L2H.RoomH 3 X.A) (hc : L2H.HotC X) (ha : PA X (e :: es) ta) (hg : Gl X x := by rfl) (hdb : (x == ("__debug__" : Str)) = false := by decide)
    (he : starEach (e :: es) X.env = (false, eval e X.env) :: starEach es X.env := by rfl) (hpl : (backTo pos (starEach es X.env)).any (·.1) = false := by rfl) : L2H.PMk5 X (.Call (.Name x p) (e :: es) [] pos) (tErr C [f] ta) := by
  obtain ⟨fI, fd, F1, iC, tI, hb⟩ := G.ini
  intro pins s σ H Q I h
  refine L2H.pmk5_oexH G.oex iC tI F1 hr hc hb pass0 hg G.at_ (pa_cut ha) hdb he hpl pins s σ H Q I ⟨_, h, fun vs H1 hh => ?_⟩
  obtain ⟨hl, ht, q⟩ := hh
  match vs, hl with
  | [v], _ =>
    refine ⟨sz2 _ (Nat.le_of_ble_eq_true rfl), fun a na => ⟨a, v, rfl, ht v List.mem_cons_self, upd_same, fun dx h1 h2 => ⟨rfl, dx, [(f, v)], upd_same, by rw [upd_ne h2, upd_same], ?_, ?_⟩⟩⟩
    · rw [upd_ne h2] at h1
      exact h1
    · rw [upd_ne h2] at h1
      rw [err_heap na h2 (H := H1) (fun b b1 b2 => by rw [upd_ne b1, upd_ne b2, upd_ne b1])]
      exact q dx h1
end
section
variable {P : Program} {w : World} {K : PySem.W.Frag} {mg : Str → Option Value} {base : Heap}
theorem _root_.RD.FunAt.okX {x : Str} {st : Stmt} {N ps : List Str} {k : Nat} {sp : Sp} (F : FunAt K mg x st ps) (S : FnScope N ps (defScope st)) (len : ∀ vs H Q E, sp vs H Q E → vs.length = ps.length)
    (hbody : ∀ (f : Addr) (cdv : Value) (A : Around) (outer : List Env) (s : Shared) (H : Hp) (vs : List V) (Q : VK) (E : XK), Room k (A.deeper (envOfC x (defScope st) s.heap.objs.size f cdv)) → sp vs H Q E →
      ∃ t, PSs (cxOf (L2.CX P w) P w K mg base N x (defScope st) f cdv A outer s H E) (defBody st) t ∧ t { nx := fun _ H' => Q .non H', rt := Q } (start N vs) H) : Def P w K mg base (L2.CX P w) (k + 1) x ps sp := by
  obtain ⟨f, fd, F, hm, hb⟩ := F.ex
  have kp := F.kp
  obtain ⟨oc, od, kV, doc, pm, an, cdv, ct, osl, rfl, lk, hcd⟩ := F.ex
  exact ⟨f, _, fn_of lk hcd S len fun A outer s H vs Q E hr hsp => hbody f cdv A outer s H vs Q E hr hsp, hm, kp, hb⟩
end
/-! a try whose suite raises -/
def tTryO (K : PySem.W.Frag) (c : Value) (ts : Addr → Value → Option Addr → TS) (Wout : WX) (tb : WX → TS) : TS := fun D σ H => tb (wOnly K c ts Wout D) D σ H
theorem ps_tryO {X : Cx} {x : Str} {c : Value} {body suite : List Stmt} {b₀ : Stmt} {np pos pos' : Pos} {tb : WX → TS} {ts : Addr → Value → Option Addr → TS} {Wout : WX} (hs : X.stack = X.env :: X.outer) (hf : X.env.frame = some X.env.locals) (hc : Names X x c) (hpa : ∀ hd : Option Value, PassesOwnAt (model X.prog X.w) (X.A.mark hd) X.A X.env X.xe) (tk : L2.Takes X Wout)
    (hb : ∀ (W : WX) (pn : List (Addr × Obj)) (xe : Value → Shared → Prop), L2N.Takes (X.tr pn xe) W → PassesOwn (model X.prog X.w) X.A X.env xe → PSs (X.tr pn xe) body (tb W))
    (hsu : ∀ (a : Addr) (oe : Obj) (cls : Value) (d : Option Addr) (pn : List (Addr × Obj)), L2N.Zn cls d oe → (∃ vs, oe.data = .fields vs) → L2.Takes (L2H.suiteX X a ((a, oe) :: pn)) Wout → L2H.HotC (L2H.suiteX X a ((a, oe) :: pn)) →
      PSs (L2H.suiteX X a ((a, oe) :: pn)) (b₀ :: suite) (ts a cls d)) :
    PS X (.Try body [.ExceptHandler (some (.Name x np)) none (b₀ :: suite) pos'] [] [] pos) (tTryO X.K c ts Wout tb) := L2H.ps_try_onlyX hs hf hc hpa tk (fun W pn xe t1 _ po => hb W pn xe t1 po) hsu
theorem r_tryO {K : PySem.W.Frag} {c : Value} {ts : Addr → Value → Option Addr → TS} {Wout : WX} {tb : WX → TS} {D : Ends} {σ : L2.St} {H : Hp} (q : tb (wOnly K c ts Wout D) D σ H) : tTryO K c ts Wout tb D σ H := q
theorem wo_yes {K : PySem.W.Frag} {cls c : Value} {d : Option Addr} {ts : Addr → Value → Option Addr → TS} {Wout : WX} {D : Ends} {σ : L2.St} {H : Hp} (hb : PySem.W.exmOne K cls c = some true) (q : ∀ a, H a = none → ts a cls d D σ H) : wOnly K c ts Wout D cls d σ H := ⟨true, hb, fun _ => q, fun z => by cases z⟩
/-! a call of a def that a local name holds, which may raise -/
structure HeldX (P : Program) (w : World) (K : PySem.W.Frag) (mg : Str → Option Value) (base : Heap) (CX : CXT) (k : Nat) (f : Addr) (sp : Sp) : Prop where
  ex : ∃ (fd : FuncData) (ps : List Str), FnOk P w K mg base CX k f fd ps sp ∧ PySem.W.keepIn K (.ref f) = true ∧ Binds K fd ps []
def tCallLS (i : Nat) (f : Addr) (sp : Sp) (E : L2.St → XK) (t : TA) : TE := fun σ H Q => σ[i]? = some (some (.ref f)) ∧ t σ H fun vs H1 => sp vs H1 Q (E σ)
theorem r_callLS {i : Nat} {f : Addr} {sp : Sp} {E : L2.St → XK} {t : TA} {σ : L2.St} {H : Hp} {Q : VK} (h : σ[i]? = some (some (.ref f))) (q : t σ H fun vs H1 => sp vs H1 Q (E σ)) : tCallLS i f sp E t σ H Q := ⟨h, q⟩
section
variable {X : Cx} {k i : Nat} {f : Addr} {sp : Sp} {x : Str} {p pos : Pos} {e : Expr} {es : List Expr} {t : TA} {W : WX}
theorem pe_callLN (G : HeldX X.prog X.w X.K X.mg X.base (L2N.CX X.prog X.w) k f sp) (tk : L2N.Takes X W) (hr : Room k X.A) (hN : X.N[i]? = some x) (hv : Vis X.env.scope x) (ha : PA X (e :: es) t)
    (hdb : (x == ("__debug__" : Str)) = false := by decide) (hcd : (x == ("__classdict__" : Str)) = false := by decide)
    (he : starEach (e :: es) X.env = (false, eval e X.env) :: starEach es X.env := by rfl) (hpl : (backTo pos (starEach es X.env)).any (·.1) = false := by rfl) : PE X (.Call (.Name x p) (e :: es) [] pos) (tCallLS i f sp (WE W) t) := by
  obtain ⟨fd, ps, F, hk, hb⟩ := G.ex
  refine ⟨fun pins s σ H Q I h => ?_⟩
  obtain ⟨hs, ht⟩ := h
  refine wpAny_Call_Name_kw (thn ((pe_var (pos := p) hN hv hdb hcd).run pins s σ H (fun v H1 => v = .ref f ∧ H1 = H) I ⟨.ref f, hs, rfl, rfl⟩) fun u s1 ⟨v, H1, I1, r1, q1⟩ => ?_)
  obtain ⟨rfl, rfl⟩ := q1
  cases r1
  refine PySem.W.callWith_K (h₀ := X.base) I.ok.mod.kin hk (thn (ha.run pos pins s1 σ _ _ I1 ht) fun us s2 ⟨vs, H2, I2, r, q⟩ => ⟨I2.kIn, ?_⟩) he hpl
  exact run_fnS F hr hb (L2N.passAt tk σ) I2 r q
end
/-! ### what a raised error is told by -/
/-- an error of the class at C with these fields, where the heap was H -/
def RetE (H : Hp) (E : XK) (C : Addr) (fs : List (Str × V)) : Prop := ∀ H' d, Same H H' → H d = none → H' d = some (.xd fs) → E (.ref C) (some d) H'
section
variable {H H0 H' : Hp} {E : XK} {C d : Addr} {fs : List (Str × V)} {L : List (Addr × HO)}
theorem RetE.mk (q : RetE H0 E C fs) (o : Own H0 H L) (hd : H d = none) : E (.ref C) (some d) (upd H d (.xd fs)) := q _ d (o.new (u := .xd fs) hd).ex (o.ex.free hd) upd_same
theorem r_retE (o : Own H0 H L) (k : ∀ d H', H d = none → Own H0 H' ((d, .xd fs) :: L) → E (.ref C) (some d) H') : RetE H E C fs := fun H' d s hd hx => k d H' hd (o.add s hd hx)
end
theorem ps_whileT {X : Cx} {pn : List (Addr × Obj)} {xe : Value → Shared → Prop} {c : Expr} {body : List Stmt} {tc : TT} {tb : TS} {pos : Pos} (hp : PassesOwn (model X.prog X.w) X.A X.env xe) (hc : PT (X.tr pn xe) c tc) (hb : PSs (X.tr pn xe) body tb) : PS (X.tr pn xe) (.While c body [] pos) (tWhile tc tb) := ps_while hp hc hb

local macro_rules | `(tactic| walk_at "rd1") => `(tactic| (first
  | with_reducible refine r_tryA ?_
  | with_reducible refine r_tryO ?_
  | with_reducible refine r_callS ?_
  | with_reducible refine r_xfD ?_
  | ((with_reducible refine r_callLS ?h ?_); (case h => exact rfl))))
local macro_rules | `(tactic| walk_at "rd1") => `(tactic| (first
  | with_reducible refine r_z2 ?_
  | with_reducible refine r_z3 ?_
  | with_reducible refine r_en ?_
  | ((with_reducible refine r_gTup3 (x := ?_) (y := ?_) (z := ?_) ?h ?_); (case h => walk_at "sqT"))))
/-! ### texts by their codes -/
def tx (cs : List Nat) : Str := ⟨cs.toArray⟩
theorem tx_len (cs : List Nat) : (tx cs).length = cs.length := by
  show cs.toArray.size = _
  simp
theorem tx_cat (a b : List Nat) : tx a ++ tx b = tx (a ++ b) := by
  show (⟨a.toArray ++ b.toArray⟩ : Str) = ⟨(a ++ b).toArray⟩
  rw [List.append_toArray]
theorem tx_inj {a b : List Nat} : tx a = tx b ↔ a = b := ⟨fun h => by
  have h2 := congrArg (fun x : Str => x.cps.toList) h
  exact h2, fun h => by rw [h]⟩
theorem tx_of (x : Str) : tx x.cps.toList = x := by
  cases x
  simp [tx]
theorem tx_nil : PySem.Str.ofString "" = tx [] := by decide
theorem join_tx : ∀ cs : List Nat, Str.join (tx []) (cs.map fun c => tx [c]) = tx cs
  | [] => rfl
  | [c] => rfl
  | c :: d :: cs => by
    show tx [c] ++ tx [] ++ Str.join (tx []) ((d :: cs).map fun c => tx [c]) = _
    rw [join_tx (d :: cs), tx_cat, tx_cat]
    rfl
theorem join_ones (cs : List Nat) : Txt.join (PySem.Str.ofString "") (cs.map fun c => tx [c]) = tx cs := by
  rw [tx_nil, show Txt.join (tx []) (cs.map fun c => tx [c]) = Str.join (tx []) (cs.map fun c => tx [c]) from TL.join_eq _ _, join_tx]
section
variable {σ : L2.St} {H H0 : Hp} {Q : VK} {K : PySem.W.Frag} {L : List (Addr × HO)} {te : TE} {tt : TT} {g : TG} {ts : TS} {D : Ends}
theorem r_iS {R : It → Hp → Prop} (q : te σ H fun v H1 => ∃ x, v = .str x ∧ R (Its x) H1) : iStr te σ H R := q
/-- for c in text -/
theorem forS {cs : List Nat} (Pv : Nat → L2.St → Hp → Prop) (h0 : Pv 0 σ H) (hs : ∀ i c σ H, cs[i]? = some c → Pv i σ H → g (.str (tx [c])) σ H fun σ2 H2 => ts { D with nx := Pv (i + 1), ct := Pv (i + 1), bk := D.nx } σ2 H2) (hd : ∀ σ H, Pv cs.length σ H → D.nx σ H) :
    ∃ x, V.str (tx cs) = .str x ∧ RFor (Its x) g ts D σ H := by
  have hsz : (tx cs).cps.size = cs.length := tx_len cs
  refine ⟨_, rfl, fun i m σ H => m = cs.length - i ∧ i ≤ cs.length ∧ Pv i σ H, ⟨cs.length, rfl, Nat.zero_le _, h0⟩, ?_⟩
  rintro i m σ H ⟨rfl, hi, p⟩
  by_cases h : i < cs.length
  · refine .inr ⟨show i < (tx cs).cps.size by omega, Pv (i + 1), fun σ' H' p' => ⟨cs.length - (i + 1), by omega, rfl, h, p'⟩, ?_⟩
    rintro x H' ⟨rfl, c, hc, rfl⟩
    refine hs i c σ H' ?_ p
    have h2 : cs.toArray[i]? = some c := hc
    rw [List.getElem?_toArray] at h2
    exact h2
  · refine .inl ⟨show (tx cs).cps.size ≤ i by omega, ?_⟩
    have e : i = cs.length := by omega
    rw [e] at p
    exact hd σ H p
/-- [e for c in text if t] -/
theorem lcSF {cs : List Nat} {s : Nat} {vs : List Nat} (sel : Nat → Option V) (o : Own H0 H L) (hz : cs.length < 10000000) (hw : ∀ x, wipe ((wipe σ vs).set s (some x)) vs = wipe σ vs)
    (ht : ∀ (c : Nat) (q : Addr) (zs : List V) (H' : Hp) (Q : Bool → Hp → Prop), c ∈ cs → Own H0 H' ((q, .lst zs) :: L) → (∀ H2, Same H' H2 → Q (sel c).isSome H2) → tt ((wipe σ vs).set s (some (.str (tx [c])))) H' Q)
    (he : ∀ (c : Nat) (y : V) (q : Addr) (zs : List V) (H' : Hp) (Q : VK), c ∈ cs → sel c = some y → Own H0 H' ((q, .lst zs) :: L) → RetV H' Q y → te ((wipe σ vs).set s (some (.str (tx [c])))) H' Q)
    (k : ∀ q H', Stp H H' → Own H0 H' ((q, .lst (cs.filterMap sel)) :: L) → Q (.ref q) H') :
    ∃ x, V.str (tx cs) = .str x ∧ RLc (Its x) (gName s) tt te vs σ H Q := by
  have hsz : (tx cs).cps.size = cs.length := tx_len cs
  refine ⟨_, rfl, fun P hP => ?_⟩
  refine ⟨fun i m H' => m = cs.length - i ∧ i ≤ cs.length ∧ Own H0 H' ((P, .lst ((cs.take i).filterMap sel)) :: L) ∧ Stp H H', ⟨cs.length, rfl, Nat.zero_le _, o.new hP, .of (same_new hP)⟩, ?_⟩
  rintro i m H' ⟨rfl, hi, o', s'⟩
  by_cases h : i < cs.length
  · refine .inr ⟨show i < (tx cs).cps.size by omega, fun H2 => Own H0 H2 ((P, .lst ((cs.take (i + 1)).filterMap sel)) :: L) ∧ Stp H H2, fun H2 p2 => ⟨cs.length - (i + 1), by omega, rfl, h, p2⟩, ?_⟩
    rintro x H2 ⟨rfl, c, hc, rfl⟩
    have h2 : cs.toArray[i]? = some c := hc
    rw [List.getElem?_toArray] at h2
    refine ⟨hw _, ?_⟩
    have hfm := fm_le (cs.take i) sel
    rw [List.length_take] at hfm
    have e1 : (cs.take (i + 1)).filterMap sel = (cs.take i).filterMap sel ++ (sel c).toList := by
      rw [List.take_add_one, h2, List.filterMap_append]
      congr 1
    rw [e1]
    exact lc_turnF o' s' (by omega) (fun Q q => ht c P _ H2 Q (List.mem_of_getElem? h2) o' q) fun y H3 hy s3 Q q => he c y P _ H3 Q (List.mem_of_getElem? h2) hy (o'.mono s3) q
  · refine .inl ⟨show (tx cs).cps.size ≤ i by omega, ?_⟩
    have e : i = cs.length := by omega
    rw [e, List.take_length] at o'
    exact k P H' s' o'
theorem lcS {cs : List Nat} {s : Nat} {vs : List Nat} (f : Nat → V) (o : Own H0 H L) (hz : cs.length < 10000000) (hw : ∀ x, wipe ((wipe σ vs).set s (some x)) vs = wipe σ vs)
    (he : ∀ (c : Nat) (q : Addr) (zs : List V) (H' : Hp) (Q : VK), c ∈ cs → Own H0 H' ((q, .lst zs) :: L) → RetV H' Q (f c) → te ((wipe σ vs).set s (some (.str (tx [c])))) H' Q)
    (k : ∀ q H', Stp H H' → Own H0 H' ((q, .lst (cs.map f)) :: L) → Q (.ref q) H') :
    ∃ x, V.str (tx cs) = .str x ∧ RLc (Its x) (gName s) tYes te vs σ H Q :=
  lcSF (fun c => some (f c)) o hz hw (fun c q zs H' Q _ _ r => r H' (Same.refl _)) (fun c y q zs H' Q hc hy o' r => he c q zs H' Q hc o' (by cases hy; exact r)) (fun q H' s' o' => k q H' s' (by rw [show cs.filterMap (fun c => some (f c)) = cs.map f from congrFun List.filterMap_eq_map cs] at o'; exact o'))
/-- [e for x in ints], e no new object -/
theorem lcLIV {a : Addr} {ns : List Int} {s : Nat} {vs : List Nat} (f : Int → V) (o : Own H0 H L) (h : ∀ H' p zs, Own H0 H' ((p, .lst zs) :: L) → SqL K H' a (ns.map V.int)) (h1 : SqL K H a (ns.map V.int)) (hz : ns.length < 10000000) (hw : ∀ x, wipe ((wipe σ vs).set s (some x)) vs = wipe σ vs)
    (he : ∀ (x : Int) (q : Addr) (zs : List V) (H' : Hp) (Q : VK), x ∈ ns → Own H0 H' ((q, .lst zs) :: L) → RetV H' Q (f x) → te ((wipe σ vs).set s (some (.int x))) H' Q)
    (k : ∀ q H', Own H0 H' ((q, .lst (ns.map f)) :: L) → Q (.ref q) H') :
    ∃ a', V.ref a = .ref a' ∧ (∃ xs, SqL K H a' xs) ∧ RLc (Itl K a') (gName s) tYes te vs σ H Q :=
  lcLIF (fun _ => true) f o h h1 hz hw (fun x q zs H' Q _ _ r => r H' (Same.refl _)) (fun x q zs H' Q hx _ o' r => he x q zs H' Q hx o' r) (fun q H' o' => k q H' (by rw [List.filter_eq_self.mpr (fun _ _ => rfl)] at o'; exact o'))
/-- text[i] -/
theorem r_ixStr {cs : List Nat} {i : Int} {c : Nat} (h0 : 0 ≤ i) (hc : cs[i.toNat]? = some c) (hz : cs.length ≤ 10000000) (q : Q (.str (tx [c])) H) : rIxS (.str (tx cs)) (.int i) H Q := by
  obtain ⟨n, rfl⟩ := Int.eq_ofNat_of_zero_le h0
  exact ⟨_, _, c, rfl, rfl, sz100 (by rw [tx_len]; exact hz), atI_nat hc, q⟩
theorem r_joinE {f : V → List V → Hp → VK → Prop} {to : TE} (q : to σ H fun x H1 => (∃ a, x = .str a) ∧ te σ H1 fun y H2 => f x [y] H2 Q) : tM1 f to te σ H Q := q
theorem r_bmS {T : String} {f : L2.St → V → List V → Hp → VK → Prop} {to : TE} {tr : TA} (q : to σ H fun x H1 => tyV K T x H1 ∧ tr σ H1 fun vs H2 => f σ x vs H2 Q) : tBMS K T f to tr σ H Q := q
theorem ty_strV {z : Str} : tyV K "str" (.str z) H := (rfl : "str" = "str")
theorem sum_ones : ∀ cs : List Nat, ((cs.map fun c => tx [c]).map (·.length)).sum = cs.length
  | [] => rfl
  | c :: cs => by
    rw [List.map_cons, List.map_cons, List.sum_cons, sum_ones cs, tx_len]
    show 1 + cs.length = cs.length + 1
    omega
end

def topS (i : Nat) : Stmt := PySem.Challenge.pw_tessera_k56_objects_written.main.body.getD i (.Pass ⟨0, 0, 0, 0⟩)
abbrev s_write_number : Stmt := topS 5
abbrev N_write_number : List Str := ["number", "written", "rest"]
theorem sc_write_number : FnScope N_write_number ["number"] (defScope s_write_number) := ⟨rfl, rfl, rfl, by decide +kernel, rfl, by decide +kernel, by decide +kernel⟩
abbrev s_write_integer : Stmt := topS 6
abbrev N_write_integer : List Str := ["number"]
theorem sc_write_integer : FnScope N_write_integer ["number"] (defScope s_write_integer) := ⟨rfl, rfl, rfl, by decide +kernel, rfl, by decide +kernel, by decide +kernel⟩
abbrev s_write_integers : Stmt := topS 7
abbrev N_write_integers : List Str := ["numbers", "written", "number"]
theorem sc_write_integers : FnScope N_write_integers ["numbers"] (defScope s_write_integers) := ⟨rfl, rfl, rfl, by decide +kernel, rfl, by decide +kernel, by decide +kernel⟩
abbrev s_write_bytes : Stmt := topS 8
abbrev N_write_bytes : List Str := ["values", "written", "value"]
theorem sc_write_bytes : FnScope N_write_bytes ["values"] (defScope s_write_bytes) := ⟨rfl, rfl, rfl, by decide +kernel, rfl, by decide +kernel, by decide +kernel⟩
abbrev s_write_text : Stmt := topS 9
abbrev N_write_text : List Str := ["text", "character"]
theorem sc_write_text : FnScope N_write_text ["text"] (defScope s_write_text) := ⟨rfl, rfl, rfl, by decide +kernel, rfl, by decide +kernel, by decide +kernel⟩
abbrev s_in_order : Stmt := topS 19
abbrev N_in_order : List Str := ["attributes"]
theorem sc_in_order : FnScope N_in_order ["attributes"] (defScope s_in_order) := ⟨rfl, rfl, rfl, by decide +kernel, rfl, by decide +kernel, by decide +kernel⟩
abbrev s_write_object : Stmt := topS 20
abbrev N_write_object : List Str := ["thing"]
theorem sc_write_object : FnScope N_write_object ["thing"] (defScope s_write_object) := ⟨rfl, rfl, rfl, by decide +kernel, rfl, by decide +kernel, by decide +kernel⟩
abbrev s_write_attributes : Stmt := topS 21
abbrev N_write_attributes : List Str := ["attributes", "content", "name", "value"]
theorem sc_write_attributes : FnScope N_write_attributes ["attributes"] (defScope s_write_attributes) := ⟨rfl, rfl, rfl, by decide +kernel, rfl, by decide +kernel, by decide +kernel⟩
abbrev s_write_array : Stmt := topS 22
abbrev N_write_array : List Str := ["thing", "layout", "content", "name", "address", "length"]
theorem sc_write_array : FnScope N_write_array ["thing"] (defScope s_write_array) := ⟨rfl, rfl, rfl, by decide +kernel, rfl, by decide +kernel, by decide +kernel⟩
abbrev s_write_view : Stmt := topS 23
abbrev N_write_view : List Str := ["thing", "content", "path", "source", "target", "counts"]
theorem sc_write_view : FnScope N_write_view ["thing"] (defScope s_write_view) := ⟨rfl, rfl, rfl, by decide +kernel, rfl, by decide +kernel, by decide +kernel⟩
abbrev s__law_cell : Stmt := topS 25
abbrev N__law_cell : List Str := ["script", "k"]
theorem sc__law_cell : FnScope N__law_cell ["script", "k"] (defScope s__law_cell) := ⟨rfl, rfl, rfl, by decide +kernel, rfl, by decide +kernel, by decide +kernel⟩
abbrev s__law_draws : Stmt := topS 26
abbrev N__law_draws : List Str := ["cell", "count", "rows", "left", "k", "mixed"]
theorem sc__law_draws : FnScope N__law_draws ["cell", "count"] (defScope s__law_draws) := ⟨rfl, rfl, rfl, by decide +kernel, rfl, by decide +kernel, by decide +kernel⟩
abbrev s__law_is_int : Stmt := topS 27
abbrev N__law_is_int : List Str := ["x"]
theorem sc__law_is_int : FnScope N__law_is_int ["x"] (defScope s__law_is_int) := ⟨rfl, rfl, rfl, by decide +kernel, rfl, by decide +kernel, by decide +kernel⟩
abbrev s__law_is_number : Stmt := topS 28
abbrev N__law_is_number : List Str := ["x", "due"]
theorem sc__law_is_number : FnScope N__law_is_number ["x", "due"] (defScope s__law_is_number) := ⟨rfl, rfl, rfl, by decide +kernel, rfl, by decide +kernel, by decide +kernel⟩
abbrev s__law_low : Stmt := topS 29
abbrev N__law_low : List Str := ["kind"]
theorem sc__law_low : FnScope N__law_low ["kind"] (defScope s__law_low) := ⟨rfl, rfl, rfl, by decide +kernel, rfl, by decide +kernel, by decide +kernel⟩
abbrev s__law_high : Stmt := topS 30
abbrev N__law_high : List Str := ["kind"]
theorem sc__law_high : FnScope N__law_high ["kind"] (defScope s__law_high) := ⟨rfl, rfl, rfl, by decide +kernel, rfl, by decide +kernel, by decide +kernel⟩
abbrev s__law_value : Stmt := topS 31
abbrev N__law_value : List Str := ["kind", "draw", "low", "high", "way"]
theorem sc__law_value : FnScope N__law_value ["kind", "draw"] (defScope s__law_value) := ⟨rfl, rfl, rfl, by decide +kernel, rfl, by decide +kernel, by decide +kernel⟩
abbrev s__law_kind : Stmt := topS 32
abbrev N__law_kind : List Str := ["draw"]
theorem sc__law_kind : FnScope N__law_kind ["draw"] (defScope s__law_kind) := ⟨rfl, rfl, rfl, by decide +kernel, rfl, by decide +kernel, by decide +kernel⟩
abbrev s__law_shape : Stmt := topS 33
abbrev N__law_shape : List Str := ["draws", "at", "most", "k"]
theorem sc__law_shape : FnScope N__law_shape ["draws", "at", "most"] (defScope s__law_shape) := ⟨rfl, rfl, rfl, by decide +kernel, rfl, by decide +kernel, by decide +kernel⟩
abbrev s__law_same_ints : Stmt := topS 34
abbrev N__law_same_ints : List Str := ["x", "due", "k"]
theorem sc__law_same_ints : FnScope N__law_same_ints ["x", "due"] (defScope s__law_same_ints) := ⟨rfl, rfl, rfl, by decide +kernel, rfl, by decide +kernel, by decide +kernel⟩
abbrev s__law_stream : Stmt := topS 35
abbrev N__law_stream : List Str := ["script", "count", "rows", "k"]
theorem sc__law_stream : FnScope N__law_stream ["script", "count"] (defScope s__law_stream) := ⟨rfl, rfl, rfl, by decide +kernel, rfl, by decide +kernel, by decide +kernel⟩
abbrev s__law_great : Stmt := topS 36
abbrev N__law_great : List Str := ["draws", "at", "number", "k"]
theorem sc__law_great : FnScope N__law_great ["draws", "at"] (defScope s__law_great) := ⟨rfl, rfl, rfl, by decide +kernel, rfl, by decide +kernel, by decide +kernel⟩
abbrev s__law_signed : Stmt := topS 37
abbrev N__law_signed : List Str := ["draws", "at", "number"]
theorem sc__law_signed : FnScope N__law_signed ["draws", "at"] (defScope s__law_signed) := ⟨rfl, rfl, rfl, by decide +kernel, rfl, by decide +kernel, by decide +kernel⟩
abbrev s__law_number_bytes : Stmt := topS 38
abbrev N__law_number_bytes : List Str := ["number", "rows", "k"]
theorem sc__law_number_bytes : FnScope N__law_number_bytes ["number"] (defScope s__law_number_bytes) := ⟨rfl, rfl, rfl, by decide +kernel, rfl, by decide +kernel, by decide +kernel⟩
abbrev s__law_integer_bytes : Stmt := topS 39
abbrev N__law_integer_bytes : List Str := ["number"]
theorem sc__law_integer_bytes : FnScope N__law_integer_bytes ["number"] (defScope s__law_integer_bytes) := ⟨rfl, rfl, rfl, by decide +kernel, rfl, by decide +kernel, by decide +kernel⟩
abbrev s__law_integers_bytes : Stmt := topS 40
abbrev N__law_integers_bytes : List Str := ["numbers", "rows", "number"]
theorem sc__law_integers_bytes : FnScope N__law_integers_bytes ["numbers"] (defScope s__law_integers_bytes) := ⟨rfl, rfl, rfl, by decide +kernel, rfl, by decide +kernel, by decide +kernel⟩
abbrev s__law_bytes_bytes : Stmt := topS 41
abbrev N__law_bytes_bytes : List Str := ["values", "rows", "value"]
theorem sc__law_bytes_bytes : FnScope N__law_bytes_bytes ["values"] (defScope s__law_bytes_bytes) := ⟨rfl, rfl, rfl, by decide +kernel, rfl, by decide +kernel, by decide +kernel⟩
abbrev s__law_signs : Stmt := topS 42
abbrev N__law_signs : List Str := []
theorem sc__law_signs : FnScope N__law_signs [] (defScope s__law_signs) := ⟨rfl, rfl, rfl, by decide +kernel, rfl, by decide +kernel, by decide +kernel⟩
abbrev s__law_text_of : Stmt := topS 43
abbrev N__law_text_of : List Str := ["draws", "at", "most", "signs", "k"]
theorem sc__law_text_of : FnScope N__law_text_of ["draws", "at", "most"] (defScope s__law_text_of) := ⟨rfl, rfl, rfl, by decide +kernel, rfl, by decide +kernel, by decide +kernel⟩
abbrev s__law_codes : Stmt := topS 44
abbrev N__law_codes : List Str := ["text", "signs", "rows", "sign", "at"]
theorem sc__law_codes : FnScope N__law_codes ["text"] (defScope s__law_codes) := ⟨rfl, rfl, rfl, by decide +kernel, rfl, by decide +kernel, by decide +kernel⟩
abbrev s__law_text_bytes : Stmt := topS 45
abbrev N__law_text_bytes : List Str := ["text"]
theorem sc__law_text_bytes : FnScope N__law_text_bytes ["text"] (defScope s__law_text_bytes) := ⟨rfl, rfl, rfl, by decide +kernel, rfl, by decide +kernel, by decide +kernel⟩
abbrev s__law_chunk_shape : Stmt := topS 46
abbrev N__law_chunk_shape : List Str := ["draws", "at", "dimensions", "k"]
theorem sc__law_chunk_shape : FnScope N__law_chunk_shape ["draws", "at", "dimensions"] (defScope s__law_chunk_shape) := ⟨rfl, rfl, rfl, by decide +kernel, rfl, by decide +kernel, by decide +kernel⟩
abbrev s__law_letters : Stmt := topS 47
abbrev N__law_letters : List Str := []
theorem sc__law_letters : FnScope N__law_letters [] (defScope s__law_letters) := ⟨rfl, rfl, rfl, by decide +kernel, rfl, by decide +kernel, by decide +kernel⟩
abbrev s__law_name : Stmt := topS 48
abbrev N__law_name : List Str := ["draws", "at", "letters", "k"]
theorem sc__law_name : FnScope N__law_name ["draws", "at"] (defScope s__law_name) := ⟨rfl, rfl, rfl, by decide +kernel, rfl, by decide +kernel, by decide +kernel⟩
abbrev s__law_attribute : Stmt := topS 49
abbrev N__law_attribute : List Str := ["draws", "at", "name", "way", "k"]
theorem sc__law_attribute : FnScope N__law_attribute ["draws", "at"] (defScope s__law_attribute) := ⟨rfl, rfl, rfl, by decide +kernel, rfl, by decide +kernel, by decide +kernel⟩
abbrev s__law_marks_bytes : Stmt := topS 50
abbrev N__law_marks_bytes : List Str := ["marks", "rows", "name", "value"]
theorem sc__law_marks_bytes : FnScope N__law_marks_bytes ["marks"] (defScope s__law_marks_bytes) := ⟨rfl, rfl, rfl, by decide +kernel, rfl, by decide +kernel, by decide +kernel⟩
abbrev s__law_array_bytes : Stmt := topS 51
abbrev N__law_array_bytes : List Str := ["thing", "rows", "name"]
theorem sc__law_array_bytes : FnScope N__law_array_bytes ["thing"] (defScope s__law_array_bytes) := ⟨rfl, rfl, rfl, by decide +kernel, rfl, by decide +kernel, by decide +kernel⟩
abbrev s__law_view_bytes : Stmt := topS 52
abbrev N__law_view_bytes : List Str := ["thing", "rows", "piece", "numbers"]
theorem sc__law_view_bytes : FnScope N__law_view_bytes ["thing"] (defScope s__law_view_bytes) := ⟨rfl, rfl, rfl, by decide +kernel, rfl, by decide +kernel, by decide +kernel⟩
abbrev s__law_object_bytes : Stmt := topS 53
abbrev N__law_object_bytes : List Str := ["thing", "rows"]
theorem sc__law_object_bytes : FnScope N__law_object_bytes ["thing"] (defScope s__law_object_bytes) := ⟨rfl, rfl, rfl, by decide +kernel, rfl, by decide +kernel, by decide +kernel⟩
abbrev s__law_drawn_thing : Stmt := topS 54
abbrev N__law_drawn_thing : List Str := ["draws", "form", "marks", "k", "name", "value", "kind", "shape", "thing", "pieces", "source", "j", "target", "counts"]
theorem sc__law_drawn_thing : FnScope N__law_drawn_thing ["draws"] (defScope s__law_drawn_thing) := ⟨rfl, rfl, rfl, by decide +kernel, rfl, by decide +kernel, by decide +kernel⟩
abbrev s__law_object_of : Stmt := topS 55
abbrev N__law_object_of : List Str := ["thing", "marks", "layout"]
theorem sc__law_object_of : FnScope N__law_object_of ["thing"] (defScope s__law_object_of) := ⟨rfl, rfl, rfl, by decide +kernel, rfl, by decide +kernel, by decide +kernel⟩
abbrev s_law : Stmt := topS 56
abbrev N_law : List Str := ["script", "draws", "thing", "made"]
theorem sc_law : FnScope N_law ["script"] (defScope s_law) := ⟨rfl, rfl, rfl, by decide +kernel, rfl, by decide +kernel, by decide +kernel⟩
abbrev s_Layout___init__ : Stmt := inClass (topS 1) 0
abbrev N_Layout___init__ : List Str := ["self", "kind", "chunk_shape", "fill", "filters"]
theorem sc_Layout___init__ : FnScope N_Layout___init__ ["self", "kind", "chunk_shape", "fill", "filters"] (defScope s_Layout___init__) := ⟨rfl, rfl, rfl, by decide +kernel, rfl, by decide +kernel, by decide +kernel⟩
abbrev s_Group___init__ : Stmt := inClass (topS 16) 0
abbrev N_Group___init__ : List Str := ["self", "attributes"]
theorem sc_Group___init__ : FnScope N_Group___init__ ["self", "attributes"] (defScope s_Group___init__) := ⟨rfl, rfl, rfl, by decide +kernel, rfl, by decide +kernel, by decide +kernel⟩
abbrev s_ArrayObject___init__ : Stmt := inClass (topS 17) 0
abbrev N_ArrayObject___init__ : List Str := ["self", "attributes", "shape", "layout", "root"]
theorem sc_ArrayObject___init__ : FnScope N_ArrayObject___init__ ["self", "attributes", "shape", "layout", "root"] (defScope s_ArrayObject___init__) := ⟨rfl, rfl, rfl, by decide +kernel, rfl, by decide +kernel, by decide +kernel⟩
abbrev s_View___init__ : Stmt := inClass (topS 18) 0
abbrev N_View___init__ : List Str := ["self", "attributes", "kind", "shape", "fill", "pieces"]
theorem sc_View___init__ : FnScope N_View___init__ ["self", "attributes", "kind", "shape", "fill", "pieces"] (defScope s_View___init__) := ⟨rfl, rfl, rfl, by decide +kernel, rfl, by decide +kernel, by decide +kernel⟩
structure Cl_Layout (K : PySem.W.Frag) (mg : Str → Option Value) (C : Addr) : Prop where
  cl : Cls K C
  at_ : mg "Layout" = some (.ref C)
  a_kind : NoAttr K C "kind"
  a_chunk_shape : NoAttr K C "chunk_shape"
  a_fill : NoAttr K C "fill"
  a_filters : NoAttr K C "filters"
  i_ : MkAt K C "Layout.__init__" s_Layout___init__ ["self", "kind", "chunk_shape", "fill", "filters"]
structure Cl_Group (K : PySem.W.Frag) (mg : Str → Option Value) (C : Addr) : Prop where
  cl : Cls K C
  at_ : mg "Group" = some (.ref C)
  a_attributes : NoAttr K C "attributes"
  i_ : MkAt K C "Group.__init__" s_Group___init__ ["self", "attributes"]
structure Cl_ArrayObject (K : PySem.W.Frag) (mg : Str → Option Value) (C : Addr) : Prop where
  cl : Cls K C
  at_ : mg "ArrayObject" = some (.ref C)
  a_attributes : NoAttr K C "attributes"
  a_shape : NoAttr K C "shape"
  a_layout : NoAttr K C "layout"
  a_root : NoAttr K C "root"
  i_ : MkAt K C "ArrayObject.__init__" s_ArrayObject___init__ ["self", "attributes", "shape", "layout", "root"]
structure Cl_View (K : PySem.W.Frag) (mg : Str → Option Value) (C : Addr) : Prop where
  cl : Cls K C
  at_ : mg "View" = some (.ref C)
  a_attributes : NoAttr K C "attributes"
  a_kind : NoAttr K C "kind"
  a_shape : NoAttr K C "shape"
  a_fill : NoAttr K C "fill"
  a_pieces : NoAttr K C "pieces"
  i_ : MkAt K C "View.__init__" s_View___init__ ["self", "attributes", "kind", "shape", "fill", "pieces"]
structure Top (K : PySem.W.Frag) (mg : Str → Option Value) : Prop where
  f_write_number : FunAt K mg "write_number" s_write_number ["number"]
  f_write_integer : FunAt K mg "write_integer" s_write_integer ["number"]
  f_write_integers : FunAt K mg "write_integers" s_write_integers ["numbers"]
  f_write_bytes : FunAt K mg "write_bytes" s_write_bytes ["values"]
  f_write_text : FunAt K mg "write_text" s_write_text ["text"]
  f_in_order : FunAt K mg "in_order" s_in_order ["attributes"]
  f_write_object : FunAt K mg "write_object" s_write_object ["thing"]
  f_write_attributes : FunAt K mg "write_attributes" s_write_attributes ["attributes"]
  f_write_array : FunAt K mg "write_array" s_write_array ["thing"]
  f_write_view : FunAt K mg "write_view" s_write_view ["thing"]
  f__law_cell : FunAt K mg "_law_cell" s__law_cell ["script", "k"]
  f__law_draws : FunAt K mg "_law_draws" s__law_draws ["cell", "count"]
  f__law_is_int : FunAt K mg "_law_is_int" s__law_is_int ["x"]
  f__law_is_number : FunAt K mg "_law_is_number" s__law_is_number ["x", "due"]
  f__law_low : FunAt K mg "_law_low" s__law_low ["kind"]
  f__law_high : FunAt K mg "_law_high" s__law_high ["kind"]
  f__law_value : FunAt K mg "_law_value" s__law_value ["kind", "draw"]
  f__law_kind : FunAt K mg "_law_kind" s__law_kind ["draw"]
  f__law_shape : FunAt K mg "_law_shape" s__law_shape ["draws", "at", "most"]
  f__law_same_ints : FunAt K mg "_law_same_ints" s__law_same_ints ["x", "due"]
  f__law_stream : FunAt K mg "_law_stream" s__law_stream ["script", "count"]
  f__law_great : FunAt K mg "_law_great" s__law_great ["draws", "at"]
  f__law_signed : FunAt K mg "_law_signed" s__law_signed ["draws", "at"]
  f__law_number_bytes : FunAt K mg "_law_number_bytes" s__law_number_bytes ["number"]
  f__law_integer_bytes : FunAt K mg "_law_integer_bytes" s__law_integer_bytes ["number"]
  f__law_integers_bytes : FunAt K mg "_law_integers_bytes" s__law_integers_bytes ["numbers"]
  f__law_bytes_bytes : FunAt K mg "_law_bytes_bytes" s__law_bytes_bytes ["values"]
  f__law_signs : FunAt K mg "_law_signs" s__law_signs []
  f__law_text_of : FunAt K mg "_law_text_of" s__law_text_of ["draws", "at", "most"]
  f__law_codes : FunAt K mg "_law_codes" s__law_codes ["text"]
  f__law_text_bytes : FunAt K mg "_law_text_bytes" s__law_text_bytes ["text"]
  f__law_chunk_shape : FunAt K mg "_law_chunk_shape" s__law_chunk_shape ["draws", "at", "dimensions"]
  f__law_letters : FunAt K mg "_law_letters" s__law_letters []
  f__law_name : FunAt K mg "_law_name" s__law_name ["draws", "at"]
  f__law_attribute : FunAt K mg "_law_attribute" s__law_attribute ["draws", "at"]
  f__law_marks_bytes : FunAt K mg "_law_marks_bytes" s__law_marks_bytes ["marks"]
  f__law_array_bytes : FunAt K mg "_law_array_bytes" s__law_array_bytes ["thing"]
  f__law_view_bytes : FunAt K mg "_law_view_bytes" s__law_view_bytes ["thing"]
  f__law_object_bytes : FunAt K mg "_law_object_bytes" s__law_object_bytes ["thing"]
  f__law_drawn_thing : FunAt K mg "_law_drawn_thing" s__law_drawn_thing ["draws"]
  f__law_object_of : FunAt K mg "_law_object_of" s__law_object_of ["thing"]
  f_law : FunAt K mg "law" s_law ["script"]
  c_Layout : ∃ C, Cl_Layout K mg C
  c_Group : ∃ C, Cl_Group K mg C
  c_ArrayObject : ∃ C, Cl_ArrayObject K mg C
  c_View : ∃ C, Cl_View K mg C
  iso_g : PySem.W.specialIn K (.builtin "object.__class__") "__get__" = some (some (.builtin "getset_descriptor.__get__"))
  iso_t : PySem.W.takesIn K (.builtin "object.__class__") = some true
  iso_Group : ∀ A, mg "Group" = some (.ref A) → PySem.W.findIn K (.ref A) "__class__" = some (some (.builtin "object.__class__")) ∧ PySem.W.mroIn K A (.type "object") = some true
  iso_Group_ArrayObject : ∀ A B, mg "Group" = some (.ref A) → mg "ArrayObject" = some (.ref B) → PySem.W.kitOne K (.ref A) (.ref B) = some false
  iso_Group_View : ∀ A B, mg "Group" = some (.ref A) → mg "View" = some (.ref B) → PySem.W.kitOne K (.ref A) (.ref B) = some false
  iso_ArrayObject : ∀ A, mg "ArrayObject" = some (.ref A) → PySem.W.findIn K (.ref A) "__class__" = some (some (.builtin "object.__class__")) ∧ PySem.W.mroIn K A (.type "object") = some true
  iso_ArrayObject_Group : ∀ A B, mg "ArrayObject" = some (.ref A) → mg "Group" = some (.ref B) → PySem.W.kitOne K (.ref A) (.ref B) = some false
  iso_ArrayObject_View : ∀ A B, mg "ArrayObject" = some (.ref A) → mg "View" = some (.ref B) → PySem.W.kitOne K (.ref A) (.ref B) = some false
  iso_View : ∀ A, mg "View" = some (.ref A) → PySem.W.findIn K (.ref A) "__class__" = some (some (.builtin "object.__class__")) ∧ PySem.W.mroIn K A (.type "object") = some true
  iso_View_Group : ∀ A B, mg "View" = some (.ref A) → mg "Group" = some (.ref B) → PySem.W.kitOne K (.ref A) (.ref B) = some false
  iso_View_ArrayObject : ∀ A B, mg "View" = some (.ref A) → mg "ArrayObject" = some (.ref B) → PySem.W.kitOne K (.ref A) (.ref B) = some false
  g_ARRAY_SORT : ∃ t, mg "ARRAY_SORT" = some (.int 2 t)
  g_BASE : ∃ t, mg "BASE" = some (.int 125 t)
  g_ESCAPE : ∃ t, mg "ESCAPE" = some (.int 249 t)
  g_GROUP_SORT : ∃ t, mg "GROUP_SORT" = some (.int 1 t)
  g_LIST_VALUE : ∃ t, mg "LIST_VALUE" = some (.int 1 t)
  g_TEXT_VALUE : ∃ t, mg "TEXT_VALUE" = some (.int 0 t)
  g_VIEW_SORT : ∃ t, mg "VIEW_SORT" = some (.int 3 t)
  b_bool : mg "bool" = none
  b_int : mg "int" = none
  b_isinstance : mg "isinstance" = none
  b_len : mg "len" = none
  b_list : mg "list" = none
  b_max : mg "max" = none
  b_min : mg "min" = none
  b_ord : mg "ord" = none
  b_range : mg "range" = none
  b_sorted : mg "sorted" = none
  b_str : mg "str" = none
  b_tuple : mg "tuple" = none
/-! ### the law's helpers -/
def Dr (ns : List Int) : Prop := ∀ x ∈ ns, 0 ≤ x ∧ x < 4096
theorem Dr.gi {ns : List Int} (d : Dr ns) {i : Int} (h0 : 0 ≤ i) (h1 : i < ns.length) : 0 ≤ gi ns i ∧ gi ns i < 4096 := d _ (gi_mem h0 h1)
theorem Dr.app {ns : List Int} (d : Dr ns) {x : Int} (h0 : 0 ≤ x) (h1 : x < 4096) : Dr (ns ++ [x]) := fun y hy => by
  rcases List.mem_append.mp hy with h | h
  · exact d y h
  · rw [List.mem_singleton.mp h]; exact ⟨h0, h1⟩
theorem Dr.app2 {ns ms : List Int} (d : Dr ns) (e : Dr ms) : Dr (ns ++ ms) := fun y hy => by
  rcases List.mem_append.mp hy with h | h
  · exact d y h
  · exact e y h
theorem Dr.take {ns : List Int} (d : Dr ns) (n : Nat) : Dr (ns.take n) := fun y hy => d y (List.mem_of_mem_take hy)
section
variable {P : Program} {w : World} {K : PySem.W.Frag} {mg : Str → Option Value} {base : Heap}
def sp_cell (K : PySem.W.Frag) : Sp := fun vs H Q _ => ∃ (a : Addr) (ns : List Int) (i : Int), vs = [.ref a, .int i] ∧ SqL K H a (ns.map V.int) ∧ 0 ≤ i ∧ Q (.int (gi ns i)) H
theorem d_cell (T : Top K mg) : Def P w K mg base CX0 1 "_law_cell" ["script", "k"] (sp_cell K) := by
  refine T.f__law_cell.ok sc__law_cell (by rintro vs H Q E ⟨a, ns, i, rfl, _⟩; rfl) (fun f cdv A outer s H vs Q E hr h => ?_)
  obtain ⟨a, ns, i, rfl, hS, h0, q⟩ := h
  refine ⟨_, (pss_cons (ps_if (pt_cmpR op_lt (pv 1) (pe_callB (r := Evl.rLenS K) call_len_seq (by rfl) T.b_len (by decide +kernel) (pa_cons (pv 0) pa_nil)) (nomark _)) (pss_one (ps_ret (pe_ix (r := rIxL K) ix_list (pv 0) (pv 1) (fun _ _ => rfl)))) pss_nil)
      (pss_one (ps_ret pe_int))), ?_⟩
  walk_at "rd"
  refine rif (fun h => ?_) fun h => ?_
  · walk_at "rd"
    rw [List.length_map] at h
    exact r_ixL hS (at_ints h0 h) q
  · walk_at "rd"
    rw [List.length_map] at h
    have e : gi ns i = 0 := by
      unfold gi
      rw [List.getD_eq_getElem?_getD, List.getElem?_eq_none (by omega)]
      rfl
    rw [e] at q
    exact q
def sp_draws : Sp := fun vs H Q _ => ∃ (c : Int) (n : Nat), vs = [.int c, .int n] ∧ n ≤ 1000 ∧ ∀ ns : List Int, ns.length = n → Dr ns → RetO H Q (.lst (ns.map V.int))
theorem d_draws (T : Top K mg) : Def P w K mg base CX0 1 "_law_draws" ["cell", "count"] sp_draws := by
  refine T.f__law_draws.ok sc__law_draws (by rintro vs H Q E ⟨c, n, rfl, _⟩; rfl) (fun f cdv A outer s H vs Q E hr h => ?_)
  obtain ⟨c, n, rfl, hn, q⟩ := h
  refine ⟨_, (pss_cons (ps_set (i := 2) sc__law_draws.nd rfl (Or.inl rfl) (pe_lst pa_nil))
      (pss_cons (ps_set (i := 3) sc__law_draws.nd rfl (Or.inl rfl) (pv 0))
      (pss_cons (ps_for PassesOwn.never rfl (pi_range1 (by rfl) T.b_range (pa_cons (pv 1) pa_nil)) (pg_name (i := 4) sc__law_draws.nd rfl (Or.inl rfl)) (pss_one (ps_if (pt_cutT (PW.pt (pw_and (pt_cmpR op_ge (pv 0) (pe_powC (c := 1000000000000000000) ⟨by decide, by decide, by decide⟩ (by decide +kernel)) (nomark _)) (pw_and1 (pt_cmpR op_gt (pv 3) pe_int (nomark _)))))) (pss_cons (ps_expr (pe_bm PySem.F.plainAttrs_list PySem.F.slot_list_append PySem.F.type_list_append mt_append (pv 2) (pa_cons (pe_op op_mod (pe_callTy (r := rInt1) call_int1 (by rfl) T.b_int (by decide +kernel) (pa_cons (pv 3) pa_nil)) pe_int) pa_nil)))
      (pss_one (ps_set (i := 3) sc__law_draws.nd rfl (Or.inl rfl) (pe_op op_fdiv (pv 3) pe_int)))) (pss_cons (ps_set (i := 5) sc__law_draws.nd rfl (Or.inl rfl) (pe_op op_mod (pe_callTy (r := rInt1) call_int1 (by rfl) T.b_int (by decide +kernel) (pa_cons (pe_op op_add (pe_op op_mul (pv 0) pe_int) (pe_op op_mul (pe_op op_add (pv 4) pe_int) pe_int)) pa_nil)) pe_int))
      (pss_cons (ps_set (i := 5) sc__law_draws.nd rfl (Or.inl rfl) (pe_op op_mod (pe_callTy (r := rInt1) call_int1 (by rfl) T.b_int (by decide +kernel) (pa_cons (pe_op op_add (pe_op op_add (pe_op op_mul (pv 5) (pv 5)) (pe_op op_mul (pv 5) pe_int)) (pe_op op_mul (pv 4) pe_int)) pa_nil)) pe_int))
      (pss_cons (ps_set (i := 5) sc__law_draws.nd rfl (Or.inl rfl) (pe_op op_mod (pe_callTy (r := rInt1) call_int1 (by rfl) T.b_int (by decide +kernel) (pa_cons (pe_op op_add (pe_op op_add (pe_op op_mul (pv 5) (pv 5)) (pv 0)) (pe_op op_mul pe_int (pv 4))) pa_nil)) pe_int))
      (pss_one (ps_expr (pe_bm PySem.F.plainAttrs_list PySem.F.slot_list_append PySem.F.type_list_append mt_append (pv 2) (pa_cons (pe_op op_mod (pe_op op_fdiv (pv 5) pe_int) pe_int) pa_nil))))))))))
      (pss_one (ps_ret (pv 2)))))), ?_⟩
  walk_at "rd"
  refine r_newL (Own.nil H) (Nat.zero_le _) fun l H1 o1 => ?_
  walk_at "rd"
  refine forR1 (n := n) rfl (by omega) (fun i σ H' => ∃ (left : Int) (v1 v2 : Option V) (ns : List Int), σ = [some (.int c), some (.int n), some (.ref l), some (.int left), v1, v2] ∧ ns.length = i ∧ Dr ns ∧ Own H H' [(l, .lst (ns.map V.int))])
    ⟨c, none, none, [], rfl, rfl, fun _ h => absurd h (by simp), o1⟩ ?_ ?_
  · rintro i σ H' hi ⟨left, v1, v2, ns, rfl, hl, hd, o⟩
    have hz : (ns.map V.int).length < 10000000 := by rw [List.length_map]; omega
    walk_at "rd"
    refine r_cutT (fun _ H2 => H2 = H') ?_ ?_
    · walk_at "rd"
      refine rif (fun h1 => ?_) fun h1 => ?_ <;> walk_at "rd" <;> rfl
    rintro b _ rfl
    refine rif_b (fun _ => ?_) fun _ => ?_ <;> walk_at "rd"
    · refine r_app o 0 rfl hz fun H2 o2 => ?_
      walk_at "rd"
      refine ⟨_, _, _, ns ++ [_], rfl, ?_, ?_, (by rw [List.map_append]; exact o2)⟩
      · rw [List.length_append]; simp [hl]
      · exact hd.app (by omega) (by omega)
    · refine r_app o 0 rfl hz fun H2 o2 => ?_
      refine ⟨_, _, _, ns ++ [_], rfl, ?_, ?_, (by rw [List.map_append]; exact o2)⟩
      · rw [List.length_append]; simp [hl]
      · exact hd.app (by omega) (by omega)
  · rintro σ H' ⟨left, v1, v2, ns, rfl, hl, hd, o⟩
    walk_at "rd"
    exact (q ns hl hd).mk o 0 rfl
def sp_is_int : Sp := fun vs H Q _ => ∃ (i : Int), vs = [.int i] ∧ Q (.bl true) H
theorem d_is_int (T : Top K mg) : Def P w K mg base CX0 1 "_law_is_int" ["x"] sp_is_int := by
  refine T.f__law_is_int.ok sc__law_is_int (by rintro vs H Q E ⟨i, rfl, _⟩; rfl) (fun f cdv A outer s H vs Q E hr h => ?_)
  obtain ⟨i, rfl, q⟩ := h
  refine ⟨_, (pss_one (ps_ret (pe_and (pe_callB (r := rIsi K) call_isi (by rfl) T.b_isinstance (by decide +kernel) (pa_cons (pv 0) (pa_cons (pe_bltn (v := .ty "int") (by rfl) T.b_int (by decide +kernel) rfl) pa_nil))) (pe_one (pe_not (pe_callB (r := rIsi K) call_isi (by rfl) T.b_isinstance (by decide +kernel) (pa_cons (pv 0) (pa_cons (pe_bltn (v := .ty "bool") (by rfl) T.b_bool (by decide +kernel) rfl) pa_nil)))))))), ?_⟩
  walk_at "rd"
  exact q
def sp_is_number : Sp := fun vs H Q _ => ∃ (i j : Int), vs = [.int i, .int j] ∧ Q (.bl (decide (i = j))) H
theorem d_is_number (T : Top K mg) : Def P w K mg base CX0 2 "_law_is_number" ["x", "due"] sp_is_number := by
  have G__law_is_int : Def P w K mg base CX0 1 "_law_is_int" ["x"] sp_is_int := d_is_int T
  refine T.f__law_is_number.ok sc__law_is_number (by rintro vs H Q E ⟨i, j, rfl, _⟩; rfl) (fun f cdv A outer s H vs Q E hr h => ?_)
  obtain ⟨i, j, rfl, q⟩ := h
  refine ⟨_, (pss_one (ps_ret (pe_and (pe_callD G__law_is_int (hr.mono (by decide)) (pa_cons (pv 0) pa_nil)) (pe_one (pe_cmpR op_eq (pv 0) (pv 1) (nomark _)))))), ?_⟩
  walk_at "rd"
  refine ⟨i, rfl, ?_⟩
  walk_at "rd"
  exact q
def sp_same_ints (K : PySem.W.Frag) : Sp := fun vs H Q _ => ∃ (a b : Addr) (ns : List Int), vs = [.ref a, .ref b] ∧ H a = some (.lst (ns.map V.int)) ∧ SqL K H b (ns.map V.int) ∧ ns.length ≤ 10000000 ∧ Q (.bl true) H
theorem d_same_ints (T : Top K mg) : Def P w K mg base CX0 3 "_law_same_ints" ["x", "due"] (sp_same_ints K) := by
  have G__law_is_number : Def P w K mg base CX0 2 "_law_is_number" ["x", "due"] sp_is_number := d_is_number T
  refine T.f__law_same_ints.ok sc__law_same_ints (by rintro vs H Q E ⟨a, b, ns, rfl, _⟩; rfl) (fun f cdv A outer s H vs Q E hr h => ?_)
  obtain ⟨a, b, ns, rfl, hA, hB, hz, q⟩ := h
  have hA2 : SqL K H a (ns.map V.int) := SqL.of hA
  refine ⟨_, (pss_cons (ps_if (PW.pt (pw_or (pt_not (pt_val (pe_callB (r := rIsi K) call_isi (by rfl) T.b_isinstance (by decide +kernel) (pa_cons (pv 0) (pa_cons (pe_bltn (v := .ty "list") (by rfl) T.b_list (by decide +kernel) rfl) pa_nil))))) (pw_or1 (pt_cmpR op_ne (pe_callB (r := Evl.rLenS K) call_len_seq (by rfl) T.b_len (by decide +kernel) (pa_cons (pv 0) pa_nil)) (pe_callB (r := Evl.rLenS K) call_len_seq (by rfl) T.b_len (by decide +kernel) (pa_cons (pv 1) pa_nil)) (nomark _))))) (pss_one (ps_ret pe_bl)) pss_nil)
      (pss_cons (ps_for PassesOwn.never rfl (pi_range1 (by rfl) T.b_range (pa_cons (pe_callB (r := Evl.rLenS K) call_len_seq (by rfl) T.b_len (by decide +kernel) (pa_cons (pv 1) pa_nil)) pa_nil)) (pg_name (i := 2) sc__law_same_ints.nd rfl (Or.inl rfl)) (pss_one (ps_if (pt_not (pt_val (pe_callD G__law_is_number (hr.mono (by decide)) (pa_cons (pe_ix (r := rIxL K) ix_list (pv 0) (pv 2) (fun _ _ => rfl)) (pa_cons (pe_ix (r := rIxL K) ix_list (pv 1) (pv 2) (fun _ _ => rfl)) pa_nil))))) (pss_one (ps_ret pe_bl)) pss_nil)))
      (pss_one (ps_ret pe_bl)))), ?_⟩
  walk_at "rd"
  refine rif_nyes (by exact rfl) ?_
  walk_at "rd"
  refine forR1 (n := ns.length) (by rw [List.length_map]) (by rw [List.length_map]; omega) (fun i σ H' => H' = H ∧ ∃ v, σ = [some (.ref a), some (.ref b), v]) ⟨rfl, _, rfl⟩ ?_ ?_
  · rintro i σ H' hi ⟨rfl, v, rfl⟩
    walk_at "rd"
    refine ⟨_, _, rfl, ?_⟩
    walk_at "rd"
    rw [decide_eq_true rfl]
    walk_at "rd"
    exact ⟨rfl, _, rfl⟩
  · rintro σ H' ⟨rfl, v, rfl⟩
    walk_at "rd"
    exact q
def sp_stream (K : PySem.W.Frag) : Sp := fun vs H Q _ => ∃ (a : Addr) (ss : List Int) (n : Nat), vs = [.ref a, .int n] ∧ SqL K H a (ss.map V.int) ∧ n ≤ 1000 ∧ ∀ ns : List Int, ns.length = n → Dr ns → RetO H Q (.lst (ns.map V.int))
theorem d_stream (T : Top K mg) : Def P w K mg base CX0 2 "_law_stream" ["script", "count"] (sp_stream K) := by
  have G__law_cell : Def P w K mg base CX0 1 "_law_cell" ["script", "k"] (sp_cell K) := d_cell T
  have G__law_draws : Def P w K mg base CX0 1 "_law_draws" ["cell", "count"] sp_draws := d_draws T
  refine T.f__law_stream.ok sc__law_stream (by rintro vs H Q E ⟨a, ss, n, rfl, _⟩; rfl) (fun f cdv A outer s H vs Q E hr h => ?_)
  obtain ⟨a, ss, n, rfl, hS, hn, q⟩ := h
  refine ⟨_, (pss_cons (ps_set (i := 2) sc__law_stream.nd rfl (Or.inl rfl) (pe_lst pa_nil))
      (pss_cons (ps_for PassesOwn.never rfl (pi_range1 (by rfl) T.b_range (pa_cons (pe_op op_add pe_int (pe_op op_fdiv (pv 1) pe_int)) pa_nil)) (pg_name (i := 3) sc__law_stream.nd rfl (Or.inl rfl)) (pss_one (ps_set (i := 2) sc__law_stream.nd rfl (Or.inl rfl) (pe_op op_cat (pv 2) (pe_callD G__law_draws (hr.mono (by decide)) (pa_cons (pe_op op_add (pe_callD G__law_cell (hr.mono (by decide)) (pa_cons (pv 0) (pa_cons (pv 3) pa_nil))) (pe_op op_mul pe_int (pv 3))) (pa_cons pe_int pa_nil)))))))
      (pss_one (ps_ret (pe_slice (r := rSlL K) sl_list (pv 2) po_none (po_some (pv 1))))))), ?_⟩
  walk_at "rd"
  refine r_newL (Own.nil H) (Nat.zero_le _) fun l H1 o1 => ?_
  walk_at "rd"
  refine forR1 (n := 1 + n / 16) (by omega) (by omega) (fun i σ H' => ∃ (p : Addr) (v : Option V) (ns : List Int) (L : List (Addr × HO)), σ = [some (.ref a), some (.int n), some (.ref p), v] ∧ ns.length = 16 * i ∧ Dr ns ∧ Own H H' ((p, .lst (ns.map V.int)) :: L))
    ⟨l, none, [], [], rfl, rfl, fun _ h => absurd h (by simp), o1⟩ ?_ ?_
  · rintro i σ H' hi ⟨p, v, ns, L, rfl, hl, hd, o⟩
    walk_at "rd"
    refine ⟨_, _, _, rfl, o.old hS, by omega, ?_⟩
    walk_at "rd"
    refine ⟨_, 16, rfl, by omega, fun ms hm hdm H2 p2 s2 f2 e2 => ?_⟩
    have o2 := o.add s2 f2 e2
    refine r_cat o2 (o2.at 1 rfl) (o2.at 0 rfl) (by rw [List.length_map, List.length_map]; omega) fun p3 H3 o3 => ?_
    walk_at "rd"
    rw [← List.map_append] at o3
    refine ⟨p3, _, _, _, rfl, ?_, hd.app2 hdm, o3⟩
    rw [List.length_append]
    omega
  · rintro σ H' ⟨p, v, ns, L, rfl, hl, hd, o⟩
    walk_at "rd"
    refine r_slL o (o.sqL 0 rfl) fun p3 H3 o3 => ?_
    rw [cut_hi, ← List.map_take] at o3
    refine (q _ ?_ (hd.take n)).mk o3 0 rfl
    rw [List.length_take]
    omega
def spLaw (K : PySem.W.Frag) : Sp := fun vs H Q _ => ∃ (a : Addr) (ss : List Int), vs = [.ref a] ∧ SqL K H a (ss.map V.int) ∧ ss.length ≤ 63 ∧ (∀ z ∈ ss, PySem.Builtin.Int.intBits z ≤ 1048576) ∧ ∀ H', Q (.bl true) H'
theorem law_in {a : Addr} {ss : List Int} {H : Hp} (hl : ss.length ≤ 63) (hb : ∀ z ∈ ss, PySem.Builtin.Int.intBits z ≤ 1048576) (hS : SqL K H a (ss.map V.int)) : spLaw K [.ref a] H (fun v _ => v = .bl true) fun _ _ _ => False :=
  ⟨a, ss, rfl, hS, hl, hb, fun _ => rfl⟩
end

section
variable {P : Program} {w : World} {K : PySem.W.Frag} {mg : Str → Option Value} {base : Heap}
/-- the def x has its code object at c -/
def CodeAt (K : PySem.W.Frag) (mg : Str → Option Value) (x : Str) (c : Addr) : Prop := ∀ (f : Addr) (o : Obj) (fd : FuncData), mg x = some (.ref f) → K.lookup f = some o → o.data = .func fd → fd.code = .ref c
theorem FunAt.okC {x : Str} {st : Stmt} {N ps : List Str} {k : Nat} {sp : Sp} {c : Addr} (F : FunAt K mg x st ps) (hc : CodeAt K mg x c) (S : FnScope N ps (defScope st)) (len : ∀ vs H Q E, sp vs H Q E → vs.length = ps.length)
    (hbody : ∀ (f : Addr) (A : Around) (outer : List Env) (s : Shared) (H : Hp) (vs : List V) (Q : VK) (E : XK), Room k (A.deeper (envOfC x (defScope st) s.heap.objs.size f (.ref c))) → sp vs H Q E →
      ∃ t, PSs (cxOf CX0 P w K mg base N x (defScope st) f (.ref c) A outer s H E).nox (defBody st) t ∧ t { nx := fun _ H' => Q .non H', rt := Q } (start N vs) H) : Def P w K mg base CX0 (k + 1) x ps sp := by
  obtain ⟨f, fd, F, hm, hb⟩ := F.ex
  obtain ⟨oc, od, kV, doc, pm, an, cdv, ct, osl, rfl, lk, hcd⟩ := F.ex
  obtain rfl : cdv = .ref c := hc f _ _ hm lk rfl
  refine ⟨f, _, fn_of lk hcd S len fun A outer s H vs Q E hr hsp => ?_, hm, F.kp, hb⟩
  obtain ⟨t, h, q⟩ := hbody f A outer s H vs Q E hr hsp
  exact ⟨t, h.nox, q⟩
def spLawT (K : PySem.W.Frag) (PT : Addr) : Sp := fun vs H Q _ => ∃ (a : Addr) (ss : List Int), vs = [.ref a] ∧ SqL K H a (ss.map V.int) ∧ ss.length ≤ 63 ∧ (∀ z ∈ ss, PySem.Builtin.Int.intBits z ≤ 1048576) ∧ H PT = some (.tbl #[]) ∧ ∀ H', Q (.bl true) H'
end

theorem cutS_to (cs : List Nat) (n : Nat) : cutS (tx cs) none (some (n : Int)) = tx (cs.take n) := by
  unfold cutS
  rw [HT.sIx_nat, HT.sIx_none, Nat.sub_zero, tx_len]
  show tx ((cs.drop 0).take (min n cs.length)) = _
  rw [List.drop_zero, tx_inj]
  by_cases h : n ≤ cs.length
  · rw [Nat.min_eq_left h]
  · rw [Nat.min_eq_right (by omega), List.take_of_length_le (Nat.le_refl _), List.take_of_length_le (by omega)]
/-- the codes of names, and of paths -/
def NmC (c : Nat) : Prop := (48 ≤ c ∧ c ≤ 57) ∨ (97 ≤ c ∧ c ≤ 122)
def PtC (c : Nat) : Prop := c = 47 ∨ NmC c
instance (c : Nat) : Decidable (NmC c) := by unfold NmC; infer_instance
instance (c : Nat) : Decidable (PtC c) := by unfold PtC; infer_instance
def PathOk (p : List Nat) : Prop := (∀ c ∈ p, PtC c) ∧ p.length ≤ 40 ∧ (p = [] ∨ ∃ x t, p = x :: t ∧ 48 ≤ x)
def keyI (p : List Nat) : List Int := p.map fun (c : Nat) => (c : Int)
theorem keyI_inj {p q : List Nat} : keyI p = keyI q ↔ p = q := by
  constructor
  · intro h
    have h2 := congrArg (List.map Int.toNat) h
    unfold keyI at h2
    rw [List.map_map, List.map_map] at h2
    have e : (Int.toNat ∘ fun (c : Nat) => (c : Int)) = id := rfl
    rw [e, List.map_id, List.map_id] at h2
    exact h2
  · rintro rfl; rfl
theorem key_take (p : List Nat) (n : Nat) : (keyI p).take n = keyI (p.take n) := (List.map_take ..).symm
theorem key_app (p q : List Nat) : keyI (p ++ q) = keyI p ++ keyI q := List.map_append
theorem key_len (p : List Nat) : (keyI p).length = p.length := List.length_map _
theorem NmOk {p : List Nat} (h : ∀ c ∈ p, NmC c) : ∀ c ∈ p, PtC c := fun c hc => .inr (h c hc)
theorem ok_cat {p q : List Nat} (hp : ∀ c ∈ p, PtC c) (hq : ∀ c ∈ q, PtC c) : ∀ c ∈ p ++ q, PtC c := fun c hc => by
  rcases List.mem_append.mp hc with h | h
  · exact hp c h
  · exact hq c h
theorem nm_head {p : List Nat} (h : ∀ c ∈ p, NmC c) (hl : 1 ≤ p.length) (q : List Nat) : p ++ q = [] ∨ ∃ x t, p ++ q = x :: t ∧ 48 ≤ x := by
  cases p with
  | nil => simp at hl
  | cons x t =>
    refine .inr ⟨x, t ++ q, rfl, ?_⟩
    have := h x List.mem_cons_self
    unfold NmC at this
    omega
def LTS : Str := PySem.Str.ofString "abcdefghijklmnopqrstuvwxyz0123456789"
theorem lts_len : LTS.length = 36 := by decide +kernel
theorem lts_at : ∀ j, j < 36 → NmC (LTS.cps.toList.getD j 0) := by decide +kernel
theorem lts_get {j : Nat} (h : j < 36) : ∃ c, LTS.cps.toList[j]? = some c ∧ LTS.cps.toList.getD j 0 = c ∧ NmC c := by
  have h1 := lts_at j h
  have h2 : j < LTS.cps.toList.length := by rw [show LTS.cps.toList.length = 36 by decide +kernel]; exact h
  rw [List.getD_eq_getElem?_getD, List.getElem?_eq_getElem h2] at h1
  exact ⟨_, List.getElem?_eq_getElem h2, by rw [List.getD_eq_getElem?_getD, List.getElem?_eq_getElem h2]; rfl, h1⟩
theorem lts_idx0 : ∀ c, c < 123 → NmC c → Txt.index0 LTS (tx [c]) = some (if c < 58 then c - 48 + 26 else c - 97) := by decide +kernel
theorem lts_idx {c : Nat} (h : NmC c) : Txt.index0 LTS (tx [c]) = some (if c < 58 then c - 48 + 26 else c - 97) := lts_idx0 c (by have := h; unfold NmC at this; omega) h
theorem digs_in : ∀ c, c < 123 → decide (c ∈ (PySem.Str.ofString "0123456789").cps.toList) = decide (48 ≤ c ∧ c ≤ 57) := by decide +kernel
theorem dec_tx (a b : List Nat) : decide (tx a = tx b) = decide (a = b) := decide_eq_decide.mpr tx_inj

/-! ### sorted by a lambda that takes a name off a tuple -/
def leN (a b : Str × V) : Bool := decide (a.1.cps.toList ≤ b.1.cps.toList)
def sortN (bs : List (Str × V)) : List (Str × V) := bs.mergeSort leN
theorem leN_data : PySem.W.dataLe false (fun b : Str × V => PyData.str b.1) = leN := PySem.W.dataLe_str fun b : Str × V => b.1
theorem leN_total : PySem.W.TotalLe leN := by
  rw [← leN_data]
  exact PySem.W.sortLe_total _ _ _
/-- names in ascending order, each once -/
def AscN (bs : List (Str × V)) : Prop := bs.Pairwise fun a b => a.1.cps.toList < b.1.cps.toList
theorem sortN_eq {bs cs : List (Str × V)} (h : AscN bs) (hp : cs = bs ∨ cs = bs.reverse) : sortN cs = bs := by
  unfold sortN
  refine (PySem.W.sort_unique leN_total (List.Pairwise.imp (fun {a b} q => ?_) h) fun c => ?_).symm
  · show decide (a.1.cps.toList ≤ b.1.cps.toList) = true
    exact decide_eq_true (List.le_of_lt q)
  · rcases hp with rfl | rfl
    · rfl
    · rw [List.filter_reverse]
      have hf : (bs.filter (PySem.W.sameRank leN c)).Pairwise fun a b => a.1.cps.toList < b.1.cps.toList := h.filter _
      have hm : ∀ x ∈ bs.filter (PySem.W.sameRank leN c), c.1.cps.toList ≤ x.1.cps.toList ∧ x.1.cps.toList ≤ c.1.cps.toList := fun x hx => by
        have h1 := (List.mem_filter.mp hx).2
        unfold PySem.W.sameRank leN at h1
        rw [Bool.and_eq_true, decide_eq_true_eq, decide_eq_true_eq] at h1
        exact h1
      cases e : bs.filter (PySem.W.sameRank leN c) with
      | nil => rfl
      | cons x r =>
        cases r with
        | nil => rfl
        | cons y r =>
          rw [e] at hf hm
          have hxy := (List.pairwise_cons.mp hf).1 y List.mem_cons_self
          have hx := hm x List.mem_cons_self
          have hy := hm y (List.mem_cons_of_mem _ List.mem_cons_self)
          exact absurd hxy (List.not_lt.mpr (List.le_trans hy.2 hx.1))
theorem sortN_rev {bs : List (Str × V)} (h : AscN bs) : sortN bs.reverse = bs := sortN_eq h (.inr rfl)
theorem sortN_same {bs : List (Str × V)} (h : AscN bs) : sortN bs = bs := sortN_eq h (.inl rfl)
theorem sqL_extN' {K : PySem.W.Frag} {H H' : Hp} {a : Addr} {xs : List V} (h : SqL K H a xs) (e : LamX.ExtN H H') : SqL K H' a xs := by
  rcases h with (h | ⟨o, h⟩) | h
  · exact .inl (.inl (e _ _ h fun ps z => nomatch z))
  · exact .inl (.inr ⟨o, e _ _ h fun ps z => nomatch z⟩)
  · exact .inr h
theorem sqT_extN {K : PySem.W.Frag} {H H' : Hp} {a : Addr} {xs : List V} (h : SqT K H a xs) (e : LamX.ExtN H H') : SqT K H' a xs := by
  rcases h with (h | ⟨o, h⟩) | h
  · exact .inl (.inl (e _ _ h fun ps z => nomatch z))
  · exact .inl (.inr ⟨o, e _ _ h fun ps z => nomatch z⟩)
  · exact .inr h
section
open LamX PySem.Calls
variable {P : Program} {w : World} {A : Around} {s : Shared}
/-- the lambda called: what stands first in the tuple -/
theorem lam_first {f c' t : Addr} {q : Str} {params : Arguments} {scope : Scope} {pm ctv : Value} {z : Str} {j : Nat} {p1 p2 p3 : Pos} {its : Array Value} {tk : Tok}
    (hf : s.heap.get? f = some (PySem.W.kla_obj "<lambda>" q params (.Subscript (.Name "pair" p1) (.Constant (.int 0) j p2) p3) scope [] pm c' ctv)) (hcr : s.heap.CodeRec (.ref c') q) (hroom : A.depth < recursionLimit) (hlim : s.heap.NoLimit)
    (hbind : bindArgs (PySem.W.kla_fn "<lambda>" q params (.Subscript (.Name "pair" p1) (.Constant (.int 0) j p2) p3) scope [] pm (.ref c') ctv) ⟨[.ref t], []⟩ = pure [(("pair" : Str), Value.ref t)])
    (hk : scope.kind = .function) (hco : scope.isCoroutine = false) (hgen : scope.isGenerator = false) (hl : scope.names.lookup ("pair" : Str) = some NameKind.local) (hcell : ∀ x ∈ scope.names, x.2 ≠ .cell)
    (ht : IsTup s.heap t its) (h0 : its[0]? = some (.str z tk)) : wpAny (model P w) A (call (.ref f) [.ref t]) (PySem.W.KeyPure (.str z) s) (fun _ _ => False) s := by
  refine wpAny_call (PySem.W.kla_callFunE hroom hf rfl hco hgen rfl hcr ?_)
  rw [hbind]
  refine wpAny_pure (wpAny_newFunctionEnv hcell (fun y hy => by rw [List.mem_singleton.mp hy]; exact hl) (fun h₁ hns hsb => ⟨hlim.fresh _ hsb, ?_⟩) hk)
  have kp : ∀ b o, s.heap.get? b = some o → h₁.get? b = some o := fun b o e => hsb.extBut b o (Nat.ne_of_lt (Heap.lt_size e)) (Heap.get?_push_of_some _ e)
  have ht1 : IsTup h₁ t its := ht.keeps kp
  refine PySem.W.kla_codeExpr (Subscript_ (wpAny_Name (wpAny_loadName_local hk hl hns (v := .ref t) (by rfl) ?_) (by decide)))
  refine wpAny_Constant_int ?_
  refine subscriptTail_builtinR (x := .str z tk) (T := "tuple") (IsTup.typeIs ht1) slot_tuple_getitem.lookup
    (getItem_tuple (j := 0) ht1 (by decide) (by decide) (seqIndex_of (by decide) (by have := (Array.getElem?_eq_some_iff.mp h0).1; omega)) h0 ⟨rfl, ⟨h₁, _, rfl, kp, .str z tk⟩⟩) (by rfl)
end
section
open LamX PySem.Calls
variable {X : Cx} {pins : List (Addr × Obj)} {σ : L2.St} {H : Hp} {s : Shared} {Q : VK}
/-- a value that is a tuple which starts with the name -/
def FirstIs (s : Shared) (v : Value) (b : Str × V) : Prop := L2.RelV b.2 v ∧ ∃ (t : Addr) (its : Array Value) (tk : Tok), v = .ref t ∧ IsTup s.heap t its ∧ its[0]? = some (.str b.1 tk)
theorem each_first (I : Inv X pins σ H s) : ∀ {bs : List (Str × V)} {its : List Value}, Vals (bs.map (·.2)) its → (∀ b ∈ bs, ∃ t ys, b.2 = V.ref t ∧ SqT X.K H t (.str b.1 :: ys)) → PySem.W.EachIs (FirstIs s) its bs
  | [], its, r, _ => by cases r; exact .nil
  | b :: bs, its, r, h => by
    cases r with
    | cons r1 r2 =>
      obtain ⟨t, ys, e, hs⟩ := h b List.mem_cons_self
      obtain ⟨its', rv, hT, _⟩ := I.tuple hs
      refine .cons ⟨r1, t, its'.toArray, ?_⟩ (each_first I r2 fun c hc => h c (List.mem_cons_of_mem _ hc))
      have r1 : L2.RelV b.2 _ := r1
      rw [e] at r1
      cases rv with
      | cons r3 r4 =>
        obtain ⟨tk, r3⟩ := r3
        exact ⟨tk, r1, hT, by rw [r3]; rfl⟩
theorem vals_each : ∀ {bs : List (Str × V)} {its : List Value}, PySem.W.EachIs (FirstIs s) its bs → Vals (bs.map (·.2)) its
  | _, _, .nil => .nil
  | _, _, .cons h t => .cons h.1 (vals_each t)
theorem alike_strs (bs : List (Str × V)) : PySem.W.AllAlike (bs.map fun b => PyData.str b.1) := fun d hd d' hd' => by
  obtain ⟨b, _, rfl⟩ := List.mem_map.mp hd
  obtain ⟨b', _, rfl⟩ := List.mem_map.mp hd'
  rfl
theorem sorted_lam {a f : Addr} {bs : List (Str × V)} (I : Inv X pins σ H s) (hr : X.A.units + 200 < cLine) (hs : SqL X.K H a (bs.map (·.2))) (hb : ∀ b ∈ bs, ∃ t ys, b.2 = V.ref t ∧ SqT X.K H t (.str b.1 :: ys)) (hl : bs.length ≤ 1000)
    (hturn : ∀ (t : Addr) (its : Array Value) (z : Str) (tk : Tok) (h : Heap) (tks : Nat), (∀ b o, s.heap.get? b = some o → h.get? b = some o) → IsTup h t its → its[0]? = some (.str z tk) →
      wpAny (model X.prog X.w) X.A.in1.in1 (call (.ref f) [.ref t]) (PySem.W.KeyPure (.str z) { s with heap := h, toks := tks }) (fun _ _ => False) { s with heap := h, toks := tks })
    (q : ∀ p, H p = none → Q (.ref p) (upd H p (.lst ((sortN bs).map (·.2))))) : wpAny (model X.prog X.w) X.A (call (.builtin "sorted") [.ref a] [(Str.ofString "key", .ref f)]) (EP X pins σ Q) X.xe s := by
  obtain ⟨its, rv, hp, hz⟩ := I.list hs
  have e := each_first I rv hb
  refine PySem.W.sorted_key_data (b := false) (fun b : Str × V => PyData.str b.1) hp.isList e (alike_strs bs) (.inr fun d hd => ?_) (sz100 (by omega)) (fun x _ => ?_) (PyProof.Rows.ksk_s1 _ _) (fun x => PyProof.Rows.ksk_l1 _ _) (fun x => PyProof.Rows.ksk_t1 _ _) (fun v x hv hx h tk kp => ?_) fun out c h' tk kp hn hD hlo eo => ?_
  · obtain ⟨b, _, rfl⟩ := List.mem_map.mp hd
    exact ⟨(fun z => by cases z), (fun xs z => by cases z)⟩
  · show X.A.units + 2 + PyData.depth (.str x.1) < cLine
    have : PyData.depth (.str x.1) = 0 := by rfl
    omega
  · obtain ⟨_, t, its2, tk2, rfl, h1, h2⟩ := hv
    exact hturn t its2 x.1 tk2 h tk kp (h1.keeps kp) h2
  · have eo' : PySem.W.EachIs (FirstIs s) out (sortN bs) := by
      unfold sortN
      rw [← leN_data]
      exact eo
    have hlen : ((sortN bs).map (·.2)).length ≤ sizeLine := by
      rw [List.length_map]
      unfold sortN
      rw [List.length_mergeSort]
      exact sz100 (by omega)
    exact ⟨.ref _, upd H (s.heap.objs.size + 1) (.lst ((sortN bs).map (·.2))), I.laid (t' := tk) kp (Nat.le_succ _) ⟨hlen, _, c, vals_each eo', hD⟩, rfl, q _ (I.hok.fresh (Nat.le_succ _))⟩
/-- behind the arguments -/
def RSortLam (K : PySem.W.Frag) (P : Addr) (q : Str) (x : V) (H1 : Hp) (Q : VK) : Prop := TabS H1 P q ∧ ∃ (a : Addr) (bs : List (Str × V)), x = .ref a ∧ SqL K H1 a (bs.map (·.2)) ∧ (∀ b ∈ bs, ∃ t ys, b.2 = V.ref t ∧ SqT K H1 t (.str b.1 :: ys)) ∧ bs.length ≤ 1000 ∧
  ∀ (H2 : Hp) (p : Addr), ExtN H1 H2 → TabS H2 P q → H2 p = none → Q (.ref p) (upd H2 p (.lst ((sortN bs).map (·.2))))
/-- sorted(e, key=lambda pair: pair[0]) -/
def tSortLam (K : PySem.W.Frag) (P : Addr) (q : Str) (te : TE) : TE := fun σ H Q => te σ H fun x H1 => RSortLam K P q x H1 Q
theorem pe_sortLam {k : Nat} {c P : Addr} {e : Expr} {te : TE} {params : Arguments} {scope : Scope} {j : Nat} {p p1 p2 p3 pos lpos kpos : Pos} (hr : Room k X.A) (hg : Gl X "sorted") (hm : X.mg "sorted" = none) (ha : PA X [e] (tCons te tNil)) (TB : TabB X.base X.mg c P) (hcode : X.env.code = .ref c)
    (hdef : defaultsOf params X.env = ([], []))
    (hbind : ∀ (q : Str) (pm cv ctv v : Value), bindArgs (PySem.W.kla_fn "<lambda>" q params (.Subscript (.Name "pair" p1) (.Constant (.int 0) j p2) p3) scope [] pm cv ctv) ⟨[v], []⟩ = pure [(("pair" : Str), v)])
    (hk : scope.kind = .function) (hco : scope.isCoroutine = false) (hgen : scope.isGenerator = false) (hn : scope.names = [(("pair" : Str), NameKind.local)])
    (he : backTo pos (starEach [e] X.env) = (false, eval e X.env) :: backTo pos (starEach [] X.env) := by rfl) (hpl : (backTo pos (starEach [e] X.env)).any (·.1) = false := by rfl) :
    PE X (.Call (.Name "sorted" p) [e] [⟨some "key", .Lambda params (.Subscript (.Name "pair" p1) (.Constant (.int 0) j p2) p3) scope lpos, kpos⟩] pos) (tSortLam X.K P (X.env.qual ++ "<lambda>") te) := by
  refine ⟨fun pins s σ H Q I h => ?_⟩
  refine wpAny_Call_Name_kw (ld_blt I hg hm (by decide +kernel : bootBuiltins "sorted" = some (.builtin "sorted")) ?_ (by decide) (by decide))
  refine PyProof.Rows.callWith_kw (thn (ha.run pos pins s σ H (fun vs H1 => match vs with | [x] => RSortLam X.K P (X.env.qual ++ "<lambda>") x H1 Q | _ => False) I h) fun us s1 ⟨vs, H1, I1, r1, q1⟩ => ?_) he hpl (by rfl) (by rfl)
  obtain ⟨x, rfl, hT, a, bs, rfl, hs, hb, hl, q⟩ : ∃ x, vs = [x] ∧ RSortLam X.K P (X.env.qual ++ "<lambda>") x H1 Q := by
    match vs, q1 with
    | [x], q1 => exact ⟨x, rfl, q1⟩
  obtain rfl := Vals.ref1 r1
  show wpAny _ _ (evalAll [do let v ← eval (.Lambda params (.Subscript (.Name "pair" p1) (.Constant (.int 0) j p2) p3) scope lpos) X.env; standAt pos; pure v]) _ _ s1
  refine wpAny_evalAll_cons (wpAny_bind (lam_make2 (T := [(P, X.env.qual ++ "<lambda>")]) I1 TB hcode (List.mem_singleton.mpr rfl) (fun p hp _ => by rw [List.mem_singleton.mp hp]) (fun p hp => by rw [List.mem_singleton.mp hp]; exact hT) hdef (fun y hy e => by rw [hn] at hy; rw [List.mem_singleton.mp hy] at e; cases e) fun f c' pm ctv H2 s2 I2 eN T2 hf hfn hfr hcd => wpAny_bind (wpAny_standAt (wpAny_pure ?_))))
  refine wpAny_evalAll_nil ?_
  obtain ⟨⟨oc, vs, t, hoc, hdc, hvc⟩, _, _⟩ := I2.hok c' _ hcd
  have ecl : cloFrom X.env.cells scope.names [] = [] := by rw [hn]; rfl
  rw [ecl] at hf
  refine sorted_lam I2 (by have := hr.un; omega) (sqL_extN' hs eN) (fun b hm => ?_) hl (fun t2 its z tk h tks kp ht h0 => ?_) fun p hp => q H2 p eN (T2 _ (List.mem_singleton.mpr rfl)) hp
  · obtain ⟨t, ys, e, h⟩ := hb b hm
    exact ⟨t, ys, e, sqT_extN h eN⟩
  · refine lam_first (s := { s2 with heap := h, toks := tks }) (q := X.env.qual ++ "<lambda>") (params := params) (scope := scope) (pm := pm) (ctv := ctv) (c' := c') (kp _ _ hf) ⟨c', oc, vs, t, rfl, kp _ _ hoc, hdc, hvc⟩ ?_ (I2.nolimit.keeps kp) (hbind _ _ _ _ _) hk hco hgen (by rw [hn]; rfl) (fun y hy => by rw [hn] at hy; rw [List.mem_singleton.mp hy]; exact fun z => by cases z) ht h0
    have := hr.depth
    exact this
end

section
variable {P : Program} {w : World} {K : PySem.W.Frag} {mg : Str → Option Value} {base : Heap}
def sp_letters : Sp := fun vs H Q _ => vs = [] ∧ Q (.str LTS) H
theorem d_letters (T : Top K mg) : Def P w K mg base CX0 1 "_law_letters" [] sp_letters := by
  refine T.f__law_letters.ok sc__law_letters (by rintro vs H Q E ⟨rfl, _⟩; rfl) (fun f cdv A outer s H vs Q E hr h => ?_)
  obtain ⟨rfl, q⟩ := h
  refine ⟨_, (pss_one (ps_ret pe_str)), ?_⟩
  walk_at "rd"
  exact q
def sp_law_name (K : PySem.W.Frag) : Sp := fun vs H Q _ => ∃ (a : Addr) (dr : List Int) (i : Nat), vs = [.ref a, .int (i : Int)] ∧ SqL K H a (dr.map V.int) ∧ Dr dr ∧ 0 < dr.length ∧ dr.length ≤ 1000 ∧ i ≤ 1000 ∧ ∀ cs : List Nat, (∀ c ∈ cs, NmC c) → 1 ≤ cs.length → cs.length ≤ 12 → RetV H Q (.str (tx cs))
theorem d_law_name (T : Top K mg) : Def P w K mg base CX0 2 "_law_name" ["draws", "at"] (sp_law_name K) := by
  have G__law_letters : Def P w K mg base CX0 1 "_law_letters" [] sp_letters := d_letters T
  refine T.f__law_name.ok sc__law_name (by rintro vs H Q E ⟨a, dr, i, rfl, _⟩; rfl) (fun f cdv A outer s H vs Q E hr h => ?_)
  obtain ⟨a, dr, i, rfl, hS, hd, hn, hl, hi, q⟩ := h
  refine ⟨_, (pss_cons (ps_set (i := 2) sc__law_name.nd rfl (Or.inr rfl) (pe_callD0 G__law_letters (hr.mono (by decide))))
      (pss_one (ps_ret (pe_join pe_str (pe_lc (own := [("k", 3)]) (g := (gName 3)) (tt := tYes) rfl sc__law_name.nd (pi_range1 (by rfl) T.b_range (pa_cons (pe_op op_add pe_int (pe_op op_mod (pe_ix (r := rIxL K) ix_list (pv 0) (pe_op op_mod (pv 1) (pe_callB (r := Evl.rLenS K) call_len_seq (by rfl) T.b_len (by decide +kernel) (pa_cons (pv 0) pa_nil))) (fun _ _ => rfl)) pe_int)) pa_nil)) (blkOk_by (N := N__law_name) (sc := defScope s__law_name) (by decide +kernel)) (fun _ _ _ _ _ => (pg_name (i := 3) sc__law_name.nd rfl (Or.inl rfl))) (fun _ _ _ _ _ => pts_nil) (fun _ _ _ _ _ => (pe_ix ix_str (pv 2) (pe_op op_mod (pe_ix (r := rIxL K) ix_list (pv 0) (pe_op op_mod (pe_op op_add (pe_op op_add (pv 1) pe_int) (pv 3)) (pe_callB (r := Evl.rLenS K) call_len_seq (by rfl) T.b_len (by decide +kernel) (pa_cons (pv 0) pa_nil))) (fun _ _ => rfl)) pe_int) (fun _ _ => rfl)))))))), ?_⟩
  walk_at "rd"
  refine ⟨rfl, ?_⟩
  have hN : (0 : Int) < (dr.length : Int) := by omega
  have m1 := Int.emod_nonneg (i : Int) (show (dr.length : Int) ≠ 0 by omega)
  have m2 := Int.emod_lt_of_pos (i : Int) hN
  have g0 := hd.gi m1 m2
  walk_at "rd"
  refine r_joinE ?_
  walk_at "rd"
  refine ⟨⟨_, rfl⟩, ?_⟩
  walk_at "rd"
  rw [List.length_map]
  refine r_I hN ?_
  walk_at "rd"
  have hm1 := Int.emod_nonneg (gi dr ((i : Int) % (dr.length : Int))) (show (12 : Int) ≠ 0 by decide)
  have hm2 := Int.emod_lt_of_pos (gi dr ((i : Int) % (dr.length : Int))) (show (0 : Int) < 12 by decide)
  obtain ⟨n, hn2⟩ : ∃ n : Nat, 1 + gi dr ((i : Int) % (dr.length : Int)) % 12 = n := ⟨(1 + gi dr ((i : Int) % (dr.length : Int)) % 12).toNat, by omega⟩
  rw [hn2]
  let ix : Nat → Nat := fun k => (gi dr (((i : Int) + 1 + (k : Int)) % (dr.length : Int)) % 36).toNat
  let cd : Nat → Nat := fun k => LTS.cps.toList.getD (ix k) 0
  refine lcR1 (n := n) (((List.range n).map fun k => tx [cd k]).map V.str) (by simp) (Own.nil H) rfl (by omega) (fun x => rfl) ?_ fun p1 H1 o1 => ?_
  · intro k y p zs H' Q' hk hy o' q'
    rw [List.getElem?_map, List.getElem?_map, List.getElem?_range hk] at hy
    cases hy
    have e1 := Int.emod_nonneg ((i : Int) + 1 + (k : Int)) (show (dr.length : Int) ≠ 0 by omega)
    have e2 := Int.emod_lt_of_pos ((i : Int) + 1 + (k : Int)) hN
    have gk := hd.gi (i := ((i : Int) + 1 + (k : Int)) % (dr.length : Int)) e1 e2
    have hS' := o'.old hS
    walk_at "rd"
    rw [List.length_map]
    refine r_I hN ?_
    walk_at "rd"
    obtain ⟨c, hc, hcd, _⟩ := lts_get (j := ix k) (by show Int.toNat _ < 36; omega)
    have q' : RetV H' Q' (V.str (tx [cd k])) := q'
    rw [show cd k = c from hcd] at q'
    refine ⟨LTS, _, c, rfl, rfl, by rw [lts_len]; decide, ?_, q'.here⟩
    rw [show gi dr (((i : Int) + 1 + (k : Int)) % (dr.length : Int)) % 36 = ((ix k : Nat) : Int) by show _ = ((Int.toNat _ : Nat) : Int); omega]
    exact atI_nat hc
  rw [show (List.range n).map (fun k => tx [cd k]) = ((List.range n).map cd).map fun c => tx [c] by rw [List.map_map]; rfl] at o1
  walk_at "rd"
  refine ⟨_, p1, ((List.range n).map cd).map fun c => tx [c], rfl, rfl, .inl (o1.sqL 0 rfl), ?_, ?_⟩
  · rw [sum_ones, List.length_map, List.length_map, List.length_range]
    show n + _ * 0 ≤ _
    omega
  rw [join_ones]
  refine q _ ?_ (by rw [List.length_map, List.length_range]; omega) (by rw [List.length_map, List.length_range]; omega) _ o1.ex
  intro c hc
  obtain ⟨k, _, rfl⟩ := List.mem_map.mp hc
  have e1 := Int.emod_nonneg ((i : Int) + 1 + (k : Int)) (show (dr.length : Int) ≠ 0 by omega)
  exact lts_at (ix k) (by show Int.toNat _ < 36; omega)
end

/-! ### a list or a tuple, walked -/
def iSeq (K : PySem.W.Frag) (tl : TE) : TI := fun σ H R => tl σ H fun x H1 => ∃ a, x = .ref a ∧ (((∃ xs, SqL K H1 a xs) ∧ R (Itl K a) H1) ∨ ((∃ xs, SqT K H1 a xs) ∧ R (Itt K a) H1))
theorem pi_seq {X : Cx} {tg l : Expr} {tl : TE} (hl : PE X l tl) : PI X tg l (iSeq X.K tl) := by
  refine ⟨fun pins s σ H R I h => ?_⟩
  refine thn (hl.run pins s σ H _ I h) fun v s1 ⟨x, H1, I1, r1, q1⟩ => ?_
  obtain ⟨a, e, ⟨⟨xs, hq⟩, q⟩ | ⟨⟨xs, hq⟩, q⟩⟩ := q1
  · subst e
    cases r1
    obtain ⟨its, rv, p, hz⟩ := I1.list hq
    refine wpAny_pyIter_list p.isList ?_
    refine ⟨s1.heap.objs.size, [s1.heap.objs.size], _, _, H1, rfl, I1.kept (t' := s1.toks) fun b o e => Heap.get?_push_of_some _ e, turn_list a _, ⟨_, Heap.get?_push_size _ rfl, rfl, rfl⟩, fun b hb => ?_, q⟩
    have e : b = s1.heap.objs.size := by simpa using hb
    subst e
    exact I1.fpOk (Nat.le_refl _) (I1.hok.fresh (Nat.le_refl _))
  · subst e
    cases r1
    obtain ⟨its, rv, p, hz⟩ := I1.tuple hq
    refine wpAny_pyIter_tuple (show s1.heap.IsTuple a its.toArray from p) ?_
    refine ⟨s1.heap.objs.size, [s1.heap.objs.size], _, _, H1, rfl, I1.kept (t' := s1.toks) fun b o e => Heap.get?_push_of_some _ e, turn_tuple a _, ⟨_, Heap.get?_push_size _ rfl, rfl, rfl⟩, fun b hb => ?_, q⟩
    have e : b = s1.heap.objs.size := by simpa using hb
    subst e
    exact I1.fpOk (Nat.le_refl _) (I1.hok.fresh (Nat.le_refl _))
def SqS (K : PySem.W.Frag) (H : Hp) (a : Addr) (xs : List V) : Prop := SqL K H a xs ∨ SqT K H a xs
theorem SqS.up {K : PySem.W.Frag} {H H' : Hp} {a : Addr} {xs : List V} (h : SqS K H a xs) (s : Same H H') : SqS K H' a xs := h.elim (fun h => .inl (s.seq h)) fun h => .inr ((Stp.of s).sq h)
section
variable {σ : L2.St} {H H0 : Hp} {D : Ends} {ts : TS} {g : TG} {K : PySem.W.Frag}
theorem r_iSeq {tl : TE} {R : It → Hp → Prop} (q : tl σ H fun x H1 => ∃ a, x = .ref a ∧ (((∃ xs, SqL K H1 a xs) ∧ R (Itl K a) H1) ∨ ((∃ xs, SqT K H1 a xs) ∧ R (Itt K a) H1))) : iSeq K tl σ H R := q
theorem forQ {Hb : Hp} {a : Addr} {xs : List V} (h : SqS K Hb a xs) (Pv : Nat → L2.St → Hp → Prop) (h0 : Pv 0 σ H) (hl : ∀ i σ' H', i ≤ xs.length → Pv i σ' H' → Same Hb H')
    (hs : ∀ i x σ H, xs[i]? = some x → Pv i σ H → g x σ H fun σ2 H2 => ts { D with nx := Pv (i + 1), ct := Pv (i + 1), bk := D.nx } σ2 H2) (hd : ∀ σ H, Pv xs.length σ H → D.nx σ H) :
    ∃ a', V.ref a = .ref a' ∧ (((∃ xs, SqL K H a' xs) ∧ RFor (Itl K a') g ts D σ H) ∨ ((∃ xs, SqT K H a' xs) ∧ RFor (Itt K a') g ts D σ H)) := by
  have s0 := hl 0 σ H (Nat.zero_le _) h0
  rcases h with h | h
  · exact ⟨a, rfl, .inl ⟨⟨xs, s0.seq h⟩, for_list (K := K) (a := a) (xs := xs) Pv h0 (fun i σ' H' hi p => (hl i σ' H' hi p).seq h) hs hd⟩⟩
  · exact ⟨a, rfl, .inr ⟨⟨xs, (Stp.of s0).sq h⟩, for_tup (K := K) (a := a) (xs := xs) Pv h0 (fun i σ' H' hi p => (Stp.of (hl i σ' H' hi p)).sq h) hs hd⟩⟩
theorem r_lenQ {xs : List V} {Q : VK} {p : Addr} (h : SqS K H p xs) (q : Q (.int xs.length) H) : Evl.rLenS K [.ref p] H Q := h.elim (fun h => r_len h q) fun h => r_lenT h q
end

section
variable {P : Program} {w : World} {K : PySem.W.Frag} {mg : Str → Option Value} {base : Heap}
/-- the digits of a number -/
def numB (n : Nat) : List Int := if _h : n < 125 then [(n : Int)] else ((n % 125 + 125 : Nat) : Int) :: numB (n / 125)
termination_by n
decreasing_by omega
theorem numB_lt {n : Nat} (h : n < 125) : numB n = [(n : Int)] := by rw [numB, dif_pos h]
theorem numB_ge {n : Nat} (h : ¬ n < 125) : numB n = ((n % 125 + 125 : Nat) : Int) :: numB (n / 125) := by rw [numB, dif_neg h]
theorem numB_len : ∀ (k n : Nat), n < 125 ^ (k + 1) → (numB n).length ≤ k + 1
  | 0, n, h => by
    rw [numB_lt (by simpa using h)]
    exact Nat.le_refl _
  | k + 1, n, h => by
    by_cases h1 : n < 125
    · rw [numB_lt h1]
      exact Nat.succ_le_succ (Nat.zero_le _)
    · rw [numB_ge h1, List.length_cons]
      refine Nat.succ_le_succ (numB_len k _ ?_)
      rw [Nat.pow_succ] at h
      exact Nat.div_lt_of_lt_mul (by rw [Nat.mul_comm]; exact h)
theorem numB_pos (n : Nat) : 1 ≤ (numB n).length := by
  by_cases h1 : n < 125
  · rw [numB_lt h1]; exact Nat.le_refl _
  · rw [numB_ge h1]; exact Nat.succ_le_succ (Nat.zero_le _)
/-- bytes in a wide sense -/
def Bw (ns : List Int) : Prop := ∀ x ∈ ns, 0 ≤ x ∧ x < 1000
theorem Bw.gi {ns : List Int} (d : Bw ns) {i : Int} (h0 : 0 ≤ i) (h1 : i < ns.length) : 0 ≤ gi ns i ∧ gi ns i < 1000 := d _ (gi_mem h0 h1)
theorem Bw.app {ns ms : List Int} (d : Bw ns) (e : Bw ms) : Bw (ns ++ ms) := fun y hy => by
  rcases List.mem_append.mp hy with h | h
  · exact d y h
  · exact e y h
theorem Bw.take {ns : List Int} (d : Bw ns) (n : Nat) : Bw (ns.take n) := fun y hy => d y (List.mem_of_mem_take hy)
theorem Bw.drop {ns : List Int} (d : Bw ns) (n : Nat) : Bw (ns.drop n) := fun y hy => d y (List.mem_of_mem_drop hy)
theorem bw_num (n : Nat) : ∀ x ∈ numB n, 0 ≤ x ∧ x < 250 := by
  induction n using Nat.strongRecOn with
  | _ n ih =>
    intro x hx
    by_cases h1 : n < 125
    · rw [numB_lt h1, List.mem_singleton] at hx
      omega
    · rw [numB_ge h1, List.mem_cons] at hx
      rcases hx with rfl | hx
      · omega
      · exact ih _ (by omega) x hx
/-- reading a number: it and how many digits it took -/
def rdN : List Int → Bool → Option (Int × Nat)
  | [], _ => none
  | b :: r, f => if b < 125 then (if b = 0 ∧ f = false then none else some (b, 1)) else if b > 249 then none else (rdN r false).map fun p => (b - 125 + 125 * p.1, p.2 + 1)
theorem rdN_num (n : Nat) : ∀ (bk : List Int) (f : Bool), (f = true ∨ 0 < n) → rdN (numB n ++ bk) f = some ((n : Int), (numB n).length) := by
  induction n using Nat.strongRecOn with
  | _ n ih =>
    intro bk f hf
    by_cases h1 : n < 125
    · rw [numB_lt h1]
      show (if (n : Int) < 125 then (if (n : Int) = 0 ∧ f = false then none else some ((n : Int), 1)) else _) = _
      rw [if_pos (by omega), if_neg]
      · rfl
      · rintro ⟨h2, h3⟩
        rcases hf with h | h
        · rw [h] at h3; cases h3
        · omega
    · rw [numB_ge h1, List.cons_append]
      show (if (((n % 125 + 125 : Nat) : Int)) < 125 then _ else if ((n % 125 + 125 : Nat) : Int) > 249 then none else (rdN (numB (n / 125) ++ bk) false).map fun p => (((n % 125 + 125 : Nat) : Int) - 125 + 125 * p.1, p.2 + 1)) = _
      rw [if_neg (by omega), if_neg (by omega), ih (n / 125) (by omega) bk false (.inr (by omega))]
      show some (((n % 125 + 125 : Nat) : Int) - 125 + 125 * ((n / 125 : Nat) : Int), (numB (n / 125)).length + 1) = _
      rw [List.length_cons]
      congr 2
      omega
/-- .. with a zero behind it as the last digit -/
def numZ (n : Nat) : List Int := if _h : n < 125 then [(n : Int) + 125, 0] else ((n % 125 + 125 : Nat) : Int) :: numZ (n / 125)
termination_by n
decreasing_by omega
theorem numZ_lt {n : Nat} (h : n < 125) : numZ n = [(n : Int) + 125, 0] := by rw [numZ, dif_pos h]
theorem numZ_ge {n : Nat} (h : ¬ n < 125) : numZ n = ((n % 125 + 125 : Nat) : Int) :: numZ (n / 125) := by rw [numZ, dif_neg h]
theorem rdN_zero (n : Nat) : ∀ (bk : List Int) (f : Bool), rdN (numZ n ++ bk) f = none := by
  induction n using Nat.strongRecOn with
  | _ n ih =>
    intro bk f
    by_cases h1 : n < 125
    · rw [numZ_lt h1]
      show (if (n : Int) + 125 < 125 then _ else if (n : Int) + 125 > 249 then none else (rdN (0 :: bk) false).map _) = _
      rw [if_neg (by omega), if_neg (by omega)]
      show Option.map _ (if (0 : Int) < 125 then (if (0 : Int) = 0 ∧ false = false then none else some (0, 1)) else _) = _
      rw [if_pos (by decide), if_pos ⟨rfl, rfl⟩]
      rfl
    · rw [numZ_ge h1, List.cons_append]
      show (if (((n % 125 + 125 : Nat) : Int)) < 125 then _ else if ((n % 125 + 125 : Nat) : Int) > 249 then none else (rdN (numZ (n / 125) ++ bk) false).map fun p => (((n % 125 + 125 : Nat) : Int) - 125 + 125 * p.1, p.2 + 1)) = _
      rw [if_neg (by omega), if_neg (by omega), ih (n / 125) (by omega) bk false]
      rfl
theorem numZ_cut (n : Nat) : numZ n = (numB n).take ((numB n).length - 1) ++ [gi (numB n) (((numB n).length : Int) - ((1 : Nat) : Int)) + 125, 0] := by
  induction n using Nat.strongRecOn with
  | _ n ih =>
    by_cases h1 : n < 125
    · rw [numZ_lt h1, numB_lt h1]
      rfl
    · have hp := numB_pos (n / 125)
      rw [numZ_ge h1, numB_ge h1, ih (n / 125) (by omega), List.length_cons, show (numB (n / 125)).length + 1 - 1 = ((numB (n / 125)).length - 1) + 1 by omega, List.take_succ_cons, List.cons_append]
      congr 4
      unfold RD.gi
      rw [show ((((numB (n / 125)).length + 1 : Nat) : Int) - ((1 : Nat) : Int)).toNat = ((numB (n / 125)).length - 1) + 1 by omega, show (((numB (n / 125)).length : Int) - ((1 : Nat) : Int)).toNat = (numB (n / 125)).length - 1 by omega]
      rfl
theorem bw_numZ (n : Nat) : ∀ x ∈ numZ n, 0 ≤ x ∧ x < 1000 := by
  induction n using Nat.strongRecOn with
  | _ n ih =>
    intro x hx
    by_cases h1 : n < 125
    · rw [numZ_lt h1] at hx
      simp only [List.mem_cons, List.not_mem_nil, or_false] at hx
      omega
    · rw [numZ_ge h1, List.mem_cons] at hx
      rcases hx with rfl | hx
      · omega
      · exact ih _ (by omega) x hx
theorem cut_m1 (xs : List V) : cutV xs none (some (-1)) = xs.take (xs.length - 1) := by
  unfold cutV
  have e : HT.sIx xs.length xs.length (some (-1)) = xs.length - 1 := by
    show (if (-1 : Int) < 0 then (-1 + (xs.length : Int)).toNat else min (-1 : Int).toNat xs.length) = xs.length - 1
    rw [if_pos (by decide)]
    omega
  rw [HT.sIx_none, e, List.drop_zero, Nat.sub_zero]
def sp_write_number : Sp := fun vs H Q _ => ∃ n : Nat, vs = [.int (n : Int)] ∧ (numB n).length ≤ 1000000 ∧ RetO H Q (.lst ((numB n).map V.int))
theorem d_write_number (T : Top K mg) : Def P w K mg base CX0 1 "write_number" ["number"] sp_write_number := by
  obtain ⟨t1, g_BASE⟩ := T.g_BASE
  refine T.f_write_number.ok sc_write_number (by rintro vs H Q E ⟨n, rfl, _⟩; rfl) (fun f cdv A outer s H vs Q E hr h => ?_)
  obtain ⟨n, rfl, hl, q⟩ := h
  refine ⟨_, (pss_cons (ps_set (i := 1) sc_write_number.nd rfl (Or.inl rfl) (pe_lst pa_nil))
      (pss_cons (ps_set (i := 2) sc_write_number.nd rfl (Or.inl rfl) (pv 0))
      (pss_cons (ps_while PassesOwn.never (pt_cmpR op_ge (pv 2) (pe_glob (v := .int 125) rfl g_BASE ⟨_, rfl⟩) (nomark _)) (pss_cons (ps_expr (pe_bm PySem.F.plainAttrs_list PySem.F.slot_list_append PySem.F.type_list_append mt_append (pv 1) (pa_cons (pe_op op_add (pe_op op_mod (pv 2) (pe_glob (v := .int 125) rfl g_BASE ⟨_, rfl⟩)) (pe_glob (v := .int 125) rfl g_BASE ⟨_, rfl⟩)) pa_nil)))
      (pss_one (ps_set (i := 2) sc_write_number.nd rfl (Or.inl rfl) (pe_op op_fdiv (pv 2) (pe_glob (v := .int 125) rfl g_BASE ⟨_, rfl⟩))))))
      (pss_cons (ps_expr (pe_bm PySem.F.plainAttrs_list PySem.F.slot_list_append PySem.F.type_list_append mt_append (pv 1) (pa_cons (pv 2) pa_nil)))
      (pss_one (ps_ret (pv 1))))))), ?_⟩
  walk_at "rd"
  refine r_newL (Own.nil H) (Nat.zero_le _) fun p1 H1 o1 => ?_
  walk_at "rd"
  refine whileB (fun m σ' H' => ∃ ws : List Int, σ' = [some (.int (n : Int)), some (.ref p1), some (.int (m : Int))] ∧ ws ++ numB m = numB n ∧ Own H H' [(p1, .lst (ws.map V.int))]) n ⟨[], rfl, rfl, o1⟩ ?_
  rintro m σ' H' ⟨ws, rfl, hw, o⟩
  have hwl : ws.length ≤ 1000000 := by
    have := congrArg List.length hw
    rw [List.length_append] at this
    omega
  walk_at "rd"
  refine rif (fun h1 => ?_) fun h1 => ?_
  · refine wh_turn ?_
    walk_at "rd"
    refine r_app o 0 rfl (by rw [List.length_map]; omega) fun H2 o2 => ?_
    walk_at "rd"
    refine ⟨m / 125, by omega, ws ++ [((m % 125 + 125 : Nat) : Int)], rfl, ?_, ?_⟩
    · rw [List.append_assoc, List.singleton_append, ← numB_ge (by omega)]
      exact hw
    · rw [List.map_append]
      exact o2
  · walk_at "rd"
    refine r_app o 0 rfl (by rw [List.length_map]; omega) fun H2 o2 => ?_
    walk_at "rd"
    rw [numB_lt (by omega)] at hw
    rw [← hw, List.map_append] at q
    exact q.mk o2 0 rfl
end

section
variable {P : Program} {w : World} {K : PySem.W.Frag} {mg : Str → Option Value} {base : Heap}
/-! ### integers -/
def zz (z : Int) : Nat := if z < 0 then (-2 * z - 1).toNat else (2 * z).toNat
def unzz (x : Int) : Int := if x % 2 = 1 then -((x + 1) / 2) else x / 2
theorem unzz_zz (z : Int) : unzz ((zz z : Nat) : Int) = z := by
  unfold unzz zz
  by_cases h : z < 0
  · rw [if_pos h, if_pos (by omega)]
    omega
  · rw [if_neg h, if_neg (by omega)]
    omega
def intB (z : Int) : List Int := numB (zz z)
/-- one thing read: it and how many bytes it took -/
def OneOk (one : List Int → Option (Int × Nat)) : Prop := ∀ s x k, one s = some (x, k) → 1 ≤ k ∧ k ≤ s.length
def rdZ (s : List Int) : Option (Int × Nat) := (rdN s true).map fun p => (unzz p.1, p.2)
theorem rdN_ok : ∀ (s : List Int) (f : Bool) (x : Int) (k : Nat), rdN s f = some (x, k) → 1 ≤ k ∧ k ≤ s.length
  | [], f, x, k, h => by cases h
  | b :: r, f, x, k, h => by
    have h : (if b < 125 then (if b = 0 ∧ f = false then none else some (b, 1)) else if b > 249 then none else (rdN r false).map fun p => (b - 125 + 125 * p.1, p.2 + 1)) = some (x, k) := h
    rw [List.length_cons]
    by_cases h1 : b < 125
    · rw [if_pos h1] at h
      by_cases h2 : b = 0 ∧ f = false
      · rw [if_pos h2] at h; cases h
      · rw [if_neg h2] at h; cases h; omega
    · rw [if_neg h1] at h
      by_cases h2 : b > 249
      · rw [if_pos h2] at h; cases h
      · rw [if_neg h2] at h
        cases h3 : rdN r false with
        | none => rw [h3] at h; cases h
        | some p =>
          rw [h3] at h
          have := rdN_ok r false p.1 p.2 h3
          cases h
          show 1 ≤ p.2 + 1 ∧ p.2 + 1 ≤ _
          omega
theorem rdZ_ok : OneOk rdZ := fun s x k h => by
  unfold rdZ at h
  cases h3 : rdN s true with
  | none => rw [h3] at h; cases h
  | some p =>
    rw [h3] at h
    have := rdN_ok s true p.1 p.2 h3
    cases h
    exact this
theorem rdZ_int (z : Int) (bk : List Int) : rdZ (intB z ++ bk) = some (z, (intB z).length) := by
  unfold rdZ intB
  rw [rdN_num _ bk true (.inl rfl)]
  show some (unzz ((zz z : Nat) : Int), _) = _
  rw [unzz_zz]
/-! ### bytes -/
def rdB : List Int → Option (Int × Nat)
  | [] => none
  | b :: r => if b > 249 then none else if b < 249 then some (b, 1) else match r with
    | [] => none
    | c :: _ => if c ≤ 6 then some (249 + c, 2) else none
theorem rdB_ok : OneOk rdB := fun s x k h => by
  match s, h with
  | b :: r, h =>
    have h : (if b > 249 then none else if b < 249 then some (b, 1) else match r with
      | [] => none
      | c :: _ => if c ≤ 6 then some (249 + c, 2) else none) = some (x, k) := h
    rw [List.length_cons]
    by_cases h1 : b > 249
    · rw [if_pos h1] at h; cases h
    · rw [if_neg h1] at h
      by_cases h2 : b < 249
      · rw [if_pos h2] at h; cases h; omega
      · rw [if_neg h2] at h
        match r, h with
        | c :: t, h =>
          have h : (if c ≤ 6 then some (249 + c, 2) else none) = some (x, k) := h
          by_cases h3 : c ≤ 6
          · rw [if_pos h3] at h
            cases h
            rw [List.length_cons]
            omega
          · rw [if_neg h3] at h; cases h
def byB (v : Int) : List Int := if v < 249 then [v] else [249, v - 249]
theorem rdB_by {v : Int} (h : 0 ≤ v ∧ v < 256) (bk : List Int) : rdB (byB v ++ bk) = some (v, (byB v).length) := by
  unfold byB
  by_cases h1 : v < 249
  · rw [if_pos h1]
    show (if v > 249 then none else if v < 249 then some (v, 1) else _) = _
    rw [if_neg (by omega), if_pos h1]
    rfl
  · rw [if_neg h1]
    show (if (249 : Int) > 249 then none else if (249 : Int) < 249 then _ else if v - 249 ≤ 6 then some (249 + (v - 249), 2) else none) = _
    rw [if_neg (by omega), if_neg (by omega), if_pos (by omega), show 249 + (v - 249) = v by omega]
    rfl
/-! ### lists -/
def rdL (one : List Int → Option (Int × Nat)) : Nat → Int → List Int → Option (List Int × Nat)
  | 0, c, _ => if c ≤ 0 then some ([], 0) else none
  | f + 1, c, s => if c ≤ 0 then some ([], 0) else match one s with
    | none => none
    | some p => (rdL one f (c - 1) (s.drop p.2)).map fun q => (p.1 :: q.1, p.2 + q.2)
theorem rdL_0 (one : List Int → Option (Int × Nat)) {f : Nat} {c : Int} {s : List Int} (h : c ≤ 0) : rdL one f c s = some ([], 0) := by
  cases f <;> (unfold rdL; rw [if_pos h])
theorem rdL_none {one : List Int → Option (Int × Nat)} {f : Nat} {c : Int} {s : List Int} (h : ¬ c ≤ 0) (ho : one s = none) : rdL one f c s = none := by
  cases f with
  | zero => unfold rdL; rw [if_neg h]
  | succ f => unfold rdL; rw [if_neg h, ho]
theorem rdL_some {one : List Int → Option (Int × Nat)} {f : Nat} {c x : Int} {k : Nat} {s : List Int} (h : ¬ c ≤ 0) (ho : one s = some (x, k)) : rdL one (f + 1) c s = (rdL one f (c - 1) (s.drop k)).map fun q => (x :: q.1, k + q.2) := by
  conv => lhs; unfold rdL
  rw [if_neg h, ho]
def rdLs (one : List Int → Option (Int × Nat)) (s : List Int) : Option (List Int × Nat) := (rdN s true).bind fun p => (rdL one (s.length + 1) p.1 (s.drop p.2)).map fun q => (q.1, p.2 + q.2)
theorem rdL_list {one : List Int → Option (Int × Nat)} {wr : Int → List Int} : ∀ (zs : List Int) (f : Nat) (bk : List Int), (∀ z ∈ zs, ∀ bk, one (wr z ++ bk) = some (z, (wr z).length)) → zs.length ≤ f → rdL one f (zs.length : Int) (zs.flatMap wr ++ bk) = some (zs, (zs.flatMap wr).length)
  | [], f, bk, _, _ => rdL_0 one (by show (0 : Int) ≤ 0; omega)
  | z :: zs, f, bk, h, hf => by
    obtain ⟨f, rfl⟩ : ∃ g, f = g + 1 := ⟨f - 1, by rw [List.length_cons] at hf; omega⟩
    rw [List.flatMap_cons, List.append_assoc, rdL_some (by rw [List.length_cons]; omega) (h z List.mem_cons_self _), List.drop_left, List.length_cons, show (((zs.length + 1 : Nat) : Int) - 1) = (zs.length : Int) by omega,
      rdL_list zs f bk (fun z hz => h z (List.mem_cons_of_mem _ hz)) (by rw [List.length_cons] at hf; omega), List.length_append]
    rfl
def lsB (wr : Int → List Int) (zs : List Int) : List Int := numB zs.length ++ zs.flatMap wr
theorem flat_ge {wr : Int → List Int} : ∀ (zs : List Int), (∀ z ∈ zs, 1 ≤ (wr z).length) → zs.length ≤ (zs.flatMap wr).length
  | [], _ => Nat.zero_le _
  | z :: zs, h => by
    have h1 := h z List.mem_cons_self
    have h2 := flat_ge zs fun z hz => h z (List.mem_cons_of_mem _ hz)
    rw [List.flatMap_cons, List.length_append, List.length_cons]
    omega
theorem flat_le {wr : Int → List Int} {m : Nat} : ∀ (zs : List Int), (∀ z ∈ zs, (wr z).length ≤ m) → (zs.flatMap wr).length ≤ zs.length * m
  | [], _ => by simp
  | z :: zs, h => by
    have h1 := h z List.mem_cons_self
    have h2 := flat_le zs fun z hz => h z (List.mem_cons_of_mem _ hz)
    rw [List.flatMap_cons, List.length_append, List.length_cons, Nat.add_mul]
    omega
theorem rdLs_list {one : List Int → Option (Int × Nat)} {wr : Int → List Int} (zs bk : List Int) (h : ∀ z ∈ zs, ∀ bk, one (wr z ++ bk) = some (z, (wr z).length)) (h1 : ∀ z ∈ zs, 1 ≤ (wr z).length) : rdLs one (lsB wr zs ++ bk) = some (zs, (lsB wr zs).length) := by
  have h2 := flat_ge zs h1
  unfold rdLs lsB
  rw [List.append_assoc, rdN_num _ _ true (.inl rfl)]
  show ((rdL one _ (zs.length : Int) ((numB zs.length ++ (zs.flatMap wr ++ bk)).drop (numB zs.length).length)).map fun q => (q.1, (numB zs.length).length + q.2)) = _
  rw [List.drop_left, rdL_list zs _ bk h (by rw [List.length_append, List.length_append]; omega), List.length_append]
  rfl
theorem bw_int (z : Int) : ∀ x ∈ intB z, 0 ≤ x ∧ x < 250 := bw_num _
theorem bw_by {v : Int} (h : 0 ≤ v ∧ v < 256) : ∀ x ∈ byB v, 0 ≤ x ∧ x < 250 := by
  intro x hx
  unfold byB at hx
  split at hx <;> simp only [List.mem_cons, List.not_mem_nil, or_false] at hx <;> omega
theorem by_len (v : Int) : 1 ≤ (byB v).length ∧ (byB v).length ≤ 2 := by
  unfold byB
  split
  · exact ⟨Nat.le_refl _, Nat.le_succ _⟩
  · exact ⟨Nat.le_succ _, Nat.le_refl _⟩
theorem bw_ls {wr : Int → List Int} {zs : List Int} (h : ∀ z ∈ zs, ∀ x ∈ wr z, 0 ≤ x ∧ x < 250) : ∀ x ∈ lsB wr zs, 0 ≤ x ∧ x < 250 := by
  intro x hx
  rcases List.mem_append.mp hx with hx | hx
  · exact bw_num _ x hx
  · obtain ⟨z, hz, hx⟩ := List.mem_flatMap.mp hx
    exact h z hz x hx
theorem Bw.of {ns : List Int} (h : ∀ x ∈ ns, 0 ≤ x ∧ x < 250) : Bw ns := fun x hx => ⟨(h x hx).1, by have := (h x hx).2; omega⟩
/-! ### the defs that read -/
def sp_one (one : List Int → Option (Int × Nat)) (K : PySem.W.Frag) (C : Addr) : Sp := fun vs H Q E => ∃ (a : Addr) (ns : List Int) (i : Int), vs = [.ref a, .int i] ∧ SqL K H a (ns.map V.int) ∧ Bw ns ∧ ns.length ≤ 1000000 ∧ -2000000 ≤ i ∧ i ≤ 2000000 ∧
  (∀ x k, 0 ≤ i → one (ns.drop i.toNat) = some (x, k) → RetO H Q (.tup [.int x, .int (i + (k : Int))])) ∧
  (i < 0 ∨ one (ns.drop i.toNat) = none → RetE H E C [("index", .int i)])
/-- a list of ints and an int -/
def RetLT (H : Hp) (Q : VK) (xs : List Int) (j : Int) : Prop := ∀ H' p l, Same H H' → H p = none → H l = none → p ≠ l → H' p = some (.tup [.ref l, .int j]) → H' l = some (.lst (xs.map V.int)) → Q (.ref p) H'
theorem RetLT.mk {H0 H : Hp} {Q : VK} {xs : List Int} {j : Int} {L : List (Addr × HO)} {p l : Addr} (q : RetLT H0 Q xs j) (o : Own H0 H L) (i i2 : Nat) (h : L[i]? = some (p, .tup [.ref l, .int j])) (h2 : L[i2]? = some (l, .lst (xs.map V.int))) : Q (.ref p) H := by
  refine q H p l o.ex (o.fresh i h) (o.fresh i2 h2) (o.ne h h2 fun e => ?_) (o.at i h) (o.at i2 h2)
  subst e
  rw [h] at h2
  cases h2
theorem r_retLT {H0 H : Hp} {Q : VK} {xs : List Int} {j : Int} {L : List (Addr × HO)} (o : Own H0 H L) (k : ∀ p l H', Own H0 H' ((p, .tup [.ref l, .int j]) :: (l, .lst (xs.map V.int)) :: L) → Q (.ref p) H') : RetLT H Q xs j := fun H' p l s hp hl hne h1 h2 => by
  have o1 := o.add s hl h2
  refine k p l H' ⟨o1.ex, fun x hx => ?_, ?_⟩
  · rcases List.mem_cons.mp hx with rfl | hx
    · exact ⟨o.ex.free hp, h1⟩
    · exact o1.fr x hx
  · rw [List.map_cons, List.nodup_cons]
    refine ⟨fun hm => ?_, o1.nd⟩
    obtain ⟨x, hx, e⟩ := List.mem_map.mp hm
    rcases List.mem_cons.mp hx with rfl | hx
    · exact hne e.symm
    · have := (o.fr x hx).2
      rw [e] at this
      rw [show (p, HO.tup [V.ref l, V.int j]).1 = p from rfl, hp] at this
      cases this
def sp_ls (one : List Int → Option (Int × Nat)) (K : PySem.W.Frag) (C : Addr) : Sp := fun vs H Q E => ∃ (a : Addr) (ns : List Int) (i : Int), vs = [.ref a, .int i] ∧ SqL K H a (ns.map V.int) ∧ Bw ns ∧ ns.length ≤ 1000000 ∧ -2000000 ≤ i ∧ i ≤ 2000000 ∧
  (∀ xs k, 0 ≤ i → rdLs one (ns.drop i.toNat) = some (xs, k) → RetLT H Q xs (i + (k : Int))) ∧
  (i < 0 ∨ rdLs one (ns.drop i.toNat) = none → RetE H E C [("index", .int i)])
def sp_write_integer : Sp := fun vs H Q _ => ∃ z : Int, vs = [.int z] ∧ (intB z).length ≤ 1000000 ∧ RetO H Q (.lst ((intB z).map V.int))
theorem d_write_integer (T : Top K mg) : Def P w K mg base CX0 2 "write_integer" ["number"] sp_write_integer := by
  have G_write_number : Def P w K mg base CX0 1 "write_number" ["number"] sp_write_number := d_write_number T
  refine T.f_write_integer.ok sc_write_integer (by rintro vs H Q E ⟨z, rfl, _⟩; rfl) (fun f cdv A outer s H vs Q E hr h => ?_)
  obtain ⟨z, rfl, hl, q⟩ := h
  refine ⟨_, (pss_cons (ps_if (pt_cmpR op_lt (pv 0) pe_int (nomark _)) (pss_one (ps_ret (pe_callD G_write_number (hr.mono (by decide)) (pa_cons (pe_op op_sub (pe_op op_mul (pe_un un_neg pe_int) (pv 0)) pe_int) pa_nil)))) pss_nil)
      (pss_one (ps_ret (pe_callD G_write_number (hr.mono (by decide)) (pa_cons (pe_op op_mul pe_int (pv 0)) pa_nil))))), ?_⟩
  walk_at "rd"
  unfold intB zz at hl q
  refine rif (fun h1 => ?_) fun h1 => ?_
  · rw [if_pos h1] at hl q
    walk_at "rd"
    exact ⟨(-2 * z - 1).toNat, by rw [show (((-2 * z - 1).toNat : Nat) : Int) = -2 * z - 1 by omega]; rfl, hl, q⟩
  · rw [if_neg h1] at hl q
    walk_at "rd"
    exact ⟨(2 * z).toNat, by rw [show (((2 * z).toNat : Nat) : Int) = 2 * z by omega]; rfl, hl, q⟩
end

section
variable {P : Program} {w : World} {K : PySem.W.Frag} {mg : Str → Option Value} {base : Heap}
def Byt (zs : List Int) : Prop := ∀ z ∈ zs, 0 ≤ z ∧ z < 256
theorem drop_gi {ns : List Int} {i : Int} (h0 : 0 ≤ i) (h1 : i < ns.length) : ns.drop i.toNat = gi ns i :: ns.drop (i.toNat + 1) := by
  obtain ⟨n, rfl⟩ := Int.eq_ofNat_of_zero_le h0
  have hlt : n < ns.length := by omega
  show ns.drop n = gi ns (n : Int) :: ns.drop (n + 1)
  rw [gi_nat hlt, List.getElem_cons_drop]
def sp_write_bytes (K : PySem.W.Frag) : Sp := fun vs H Q _ => ∃ (a : Addr) (zs : List Int), vs = [.ref a] ∧ SqL K H a (zs.map V.int) ∧ zs.length ≤ 1000000 ∧ RetO H Q (.lst ((lsB byB zs).map V.int))
theorem d_write_bytes (T : Top K mg) : Def P w K mg base CX0 2 "write_bytes" ["values"] (sp_write_bytes K) := by
  have G_write_number : Def P w K mg base CX0 1 "write_number" ["number"] sp_write_number := d_write_number T
  obtain ⟨t2, g_ESCAPE⟩ := T.g_ESCAPE
  refine T.f_write_bytes.ok sc_write_bytes (by rintro vs H Q E ⟨a, zs, rfl, _⟩; rfl) (fun f cdv A outer s H vs Q E hr h => ?_)
  obtain ⟨a, zs, rfl, hS, hl, q⟩ := h
  have hn := numB_len 20 zs.length (Nat.lt_of_le_of_lt hl (by decide))
  refine ⟨_, (pss_cons (ps_set (i := 1) sc_write_bytes.nd rfl (Or.inl rfl) (pe_callD G_write_number (hr.mono (by decide)) (pa_cons (pe_callB (r := Evl.rLenS K) call_len_seq (by rfl) T.b_len (by decide +kernel) (pa_cons (pv 0) pa_nil)) pa_nil)))
      (pss_cons (ps_for PassesOwn.never rfl (pi_list (pv 0)) (pg_name (i := 2) sc_write_bytes.nd rfl (Or.inl rfl)) (pss_one (ps_if (pt_cmpR op_lt (pv 2) (pe_glob (v := .int 249) rfl g_ESCAPE ⟨_, rfl⟩) (nomark _)) (pss_one (ps_expr (pe_bm PySem.F.plainAttrs_list PySem.F.slot_list_append PySem.F.type_list_append mt_append (pv 1) (pa_cons (pv 2) pa_nil)))) (pss_one (ps_expr (pe_bm PySem.F.plainAttrs_list PySem.F.slot_list_extend PySem.F.type_list_extend mt_extend (pv 1) (pa_cons (pe_lst (pa_cons (pe_glob (v := .int 249) rfl g_ESCAPE ⟨_, rfl⟩) (pa_cons (pe_op op_sub (pv 2) (pe_glob (v := .int 249) rfl g_ESCAPE ⟨_, rfl⟩)) pa_nil))) pa_nil)))))))
      (pss_one (ps_ret (pv 1))))), ?_⟩
  walk_at "rd"
  refine ⟨zs.length, by rw [List.length_map]; rfl, by omega, r_ret1 (Own.nil H) fun p1 H1 o1 => ?_⟩
  walk_at "rd"
  refine forL (o1.old hS) (fun i σ' H' => ∃ (v : Option V) (L : List (Addr × HO)), σ' = [some (.ref a), some (.ref p1), v] ∧ Own H H' ((p1, .lst ((numB zs.length ++ (zs.take i).flatMap byB).map V.int)) :: L)) ⟨_, [], rfl, (by rw [List.take_zero, List.flatMap_nil, List.append_nil]; exact o1)⟩ (fun i σ' H' _ ⟨_, _, _, o⟩ => o.old hS) ?_ ?_
  · rintro i x σ' H' hx ⟨v, L, rfl, o⟩
    obtain ⟨z, hv, rfl⟩ := get_ints hx
    have hfi := flat_le (wr := byB) (m := 2) (zs.take i) fun z _ => (by_len z).2
    have htl : (zs.take i).length ≤ zs.length := by rw [List.length_take]; omega
    have hbl := (by_len z).2
    have hf : (zs.take (i + 1)).flatMap byB = (zs.take i).flatMap byB ++ byB z := take_flat hv
    have fin : ∀ H3 L3, Own H H3 ((p1, .lst ((numB zs.length ++ (zs.take i).flatMap byB).map V.int ++ (byB z).map V.int)) :: L3) → Own H H3 ((p1, .lst ((numB zs.length ++ (zs.take (i + 1)).flatMap byB).map V.int)) :: L3) := fun H3 L3 o3 => by
      rw [← List.map_append, List.append_assoc, ← hf] at o3
      exact o3
    walk_at "rd"
    refine rif (fun h1 => ?_) fun h1 => ?_
    · have hb1 : byB z = [z] := by unfold byB; rw [if_pos h1]
      walk_at "rd"
      refine r_app o 0 rfl (by rw [List.length_map, List.length_append]; omega) fun H3 o3 => ?_
      walk_at "rd"
      exact ⟨_, _, rfl, fin _ _ (by rw [hb1]; exact o3)⟩
    · have hb1 : byB z = [249, z - 249] := by unfold byB; rw [if_neg h1]
      walk_at "rd"
      refine r_newL o (Nat.le_of_ble_eq_true rfl) fun p2 H2 o2 => ?_
      walk_at "rd"
      refine r_ext o2 1 0 rfl rfl (by rw [List.length_map, List.length_append]; show _ + 2 ≤ _; omega) fun H3 o3 => ?_
      refine ⟨_, [], rfl, fin _ _ ?_⟩
      rw [hb1]
      exact o3.pick1 1 rfl
  · rintro σ' H' ⟨v, L, rfl, o⟩
    rw [List.length_map, List.take_length] at o
    walk_at "rd"
    exact q.mk o 0 rfl
end

section
variable {P : Program} {w : World} {K : PySem.W.Frag} {mg : Str → Option Value} {base : Heap}
def CHS : Str := PySem.Str.ofString " !\"#$ &'()*+,-./0123456789:;<=>?@ABCDEFGHIJKLMNOPQRSTUVWXYZ[\\]^_`abcdefghijklmnopqrstuvwxyz{|}~"
theorem chs_len : CHS.length = 95 := by decide +kernel
theorem chs_at : ∀ c, c < 127 → 32 ≤ c → c ≠ 37 → CHS.cps.toList[c - 32]? = some c := by decide +kernel
def isTx (c : Int) : Bool := decide (32 ≤ c ∧ c ≤ 126 ∧ c ≠ 37)
def sp_write_text : Sp := fun vs H Q _ => ∃ (cs : List Nat), vs = [.str (tx cs)] ∧ cs.length ≤ 1000000 ∧ RetO H Q (.lst ((lsB byB (cs.map fun (c : Nat) => (c : Int))).map V.int))
theorem d_write_text (T : Top K mg) : Def P w K mg base CX0 3 "write_text" ["text"] sp_write_text := by
  have G_write_bytes : Def P w K mg base CX0 2 "write_bytes" ["values"] (sp_write_bytes K) := d_write_bytes T
  refine T.f_write_text.ok sc_write_text (by rintro vs H Q E ⟨cs, rfl, _⟩; rfl) (fun f cdv A outer s H vs Q E hr h => ?_)
  obtain ⟨cs, rfl, hl, q⟩ := h
  refine ⟨_, (pss_one (ps_ret (pe_callD G_write_bytes (hr.mono (by decide)) (pa_cons (pe_lc (own := [("character", 1)]) (g := (gName 1)) (tt := tYes) rfl sc_write_text.nd (pi_str (pv 0)) (blkOk_by (N := N_write_text) (sc := defScope s_write_text) (by decide +kernel)) (fun _ _ _ _ _ => (pg_name (i := 1) sc_write_text.nd rfl (Or.inl rfl))) (fun _ _ _ _ _ => pts_nil) (fun _ _ _ _ _ => (pe_callB call_ord (by rfl) T.b_ord (by decide +kernel) (pa_cons (pv 1) pa_nil)))) pa_nil)))), ?_⟩
  walk_at "rd"
  refine r_iS ?_
  walk_at "rd"
  refine lcS (fun c => .int (c : Int)) (Own.nil H) (by omega) (fun x => rfl) ?_ fun p1 H1 s1 o1 => ?_
  · intro c p zs H' Q' hc o' q'
    walk_at "rd"
    exact ⟨_, rfl, tx_len _, q'.here⟩
  walk_at "rd"
  have o1 : Own H H1 [(p1, .lst ((cs.map fun (c : Nat) => (c : Int)).map V.int))] := by
    rw [List.map_map]
    exact o1
  refine ⟨p1, _, rfl, o1.sqL 0 rfl, by rw [List.length_map]; omega, ?_⟩
  exact r_ret1 o1 fun p2 H2 o2 => q.mk o2 0 rfl
end

section
variable {P : Program} {w : World} {K : PySem.W.Frag} {mg : Str → Option Value} {base : Heap}
def GR9 : List Int := [0, 1, 124, 125, 249, 250, 15624, 15625, 31249]
def sp_great (K : PySem.W.Frag) : Sp := fun vs H Q _ => ∃ (a : Addr) (dr : List Int) (i : Nat), vs = [.ref a, .int (i : Int)] ∧ SqL K H a (dr.map V.int) ∧ Dr dr ∧ i + 1 < dr.length ∧ dr.length ≤ 1000 ∧ ∀ m : Nat, m < 10 ^ 29 → RetV H Q (.int (m : Int))
theorem d_great (T : Top K mg) : Def P w K mg base CX0 1 "_law_great" ["draws", "at"] (sp_great K) := by
  refine T.f__law_great.ok sc__law_great (by rintro vs H Q E ⟨a, dr, i, rfl, _⟩; rfl) (fun f cdv A outer s H vs Q E hr h => ?_)
  obtain ⟨a, dr, i, rfl, hS, hd, hi, hl, q⟩ := h
  have g0 := hd.gi (i := (i : Int)) (by omega) (by omega)
  have g1 := hd.gi (i := (i : Int) + 1) (by omega) (by omega)
  refine ⟨_, (pss_cons (ps_set (i := 2) sc__law_great.nd rfl (Or.inl rfl) (pe_ix (r := rIxL K) ix_list (pv 0) (pe_op op_add (pv 1) pe_int) (fun _ _ => rfl)))
      (pss_cons (ps_for PassesOwn.never rfl (pi_range1 (by rfl) T.b_range (pa_cons (pe_op op_mod (pe_ix (r := rIxL K) ix_list (pv 0) (pv 1) (fun _ _ => rfl)) pe_int) pa_nil)) (pg_name (i := 3) sc__law_great.nd rfl (Or.inl rfl)) (pss_one (ps_set (i := 2) sc__law_great.nd rfl (Or.inl rfl) (pe_op op_add (pe_op op_mul (pv 2) pe_int) (pe_ix (r := rIxL K) ix_list (pv 0) (pe_op op_mod (pe_op op_add (pe_op op_add (pv 1) pe_int) (pv 3)) (pe_callB (r := Evl.rLenS K) call_len_seq (by rfl) T.b_len (by decide +kernel) (pa_cons (pv 0) pa_nil))) (fun _ _ => rfl))))))
      (Evl.pss_cut (ps_if (pt_cmpR op_eq (pe_op op_mod (pe_op op_fdiv (pe_ix (r := rIxL K) ix_list (pv 0) (pv 1) (fun _ _ => rfl)) pe_int) pe_int) pe_int (nomark _)) (pss_one (ps_set (i := 2) sc__law_great.nd rfl (Or.inl rfl) (pe_ix (r := rIxL K) ix_list (pe_lst (pa_cons pe_int (pa_cons pe_int (pa_cons pe_int (pa_cons pe_int (pa_cons pe_int (pa_cons pe_int (pa_cons pe_int (pa_cons pe_int (pa_cons pe_int pa_nil)))))))))) (pe_op op_mod (pe_ix (r := rIxL K) ix_list (pv 0) (pe_op op_add (pv 1) pe_int) (fun _ _ => rfl)) pe_int) (fun _ _ => rfl)))) pss_nil)
      (pss_one (ps_ret (pe_op op_mod (pe_callTy (r := rInt1) call_int1 (by rfl) T.b_int (by decide +kernel) (pa_cons (pv 2) pa_nil)) (pe_powC (c := 100000000000000000000000000000) ⟨by decide, by decide, by decide⟩ (by decide +kernel)))))))), ?_⟩
  walk_at "rd"
  obtain ⟨n, hn⟩ : ∃ n : Nat, gi dr (i : Int) % 9 = n := ⟨(gi dr (i : Int) % 9).toNat, by omega⟩
  rw [hn]
  refine forR1 (n := n) rfl (by omega) (fun k σ' H' => H' = H ∧ ∃ (x : Nat) (v : Option V), σ' = [some (.ref a), some (.int (i : Int)), some (.int (x : Int)), v]) ⟨rfl, (gi dr ((i : Int) + 1)).toNat, _, (by rw [show (((gi dr ((i : Int) + 1)).toNat : Nat) : Int) = gi dr ((i : Int) + 1) by omega]; rfl)⟩ ?_ ?_
  · rintro k σ' H' hk ⟨rfl, x, v, rfl⟩
    have hlp : (0 : Int) < (dr.length : Int) := by omega
    have m1 := Int.emod_nonneg ((i : Int) + 2 + (k : Int)) (show (dr.length : Int) ≠ 0 by omega)
    have m2 := Int.emod_lt_of_pos ((i : Int) + 2 + (k : Int)) hlp
    have gk := hd.gi (i := ((i : Int) + 2 + (k : Int)) % (dr.length : Int)) m1 m2
    walk_at "rd"
    refine r_I (show (0 : Int) < _ by rw [List.length_map]; exact hlp) ?_
    rw [List.length_map]
    walk_at "rd"
    exact ⟨rfl, (x * 4096 + (gi dr (((i : Int) + 2 + (k : Int)) % (dr.length : Int))).toNat), _, (by
      rw [show ((x * 4096 + (gi dr (((i : Int) + 2 + (k : Int)) % (dr.length : Int))).toNat : Nat) : Int) = (x : Int) * 4096 + gi dr (((i : Int) + 2 + (k : Int)) % (dr.length : Int)) by omega]
      rfl)⟩
  rintro σ' H' ⟨rfl, x, v, rfl⟩
  walk_at "rd"
  refine ⟨fun σ2 H2 => Same H' H2 ∧ ∃ (y : Nat), σ2 = [some (.ref a), some (.int (i : Int)), some (.int (y : Int)), v], ?_, ?_⟩
  · walk_at "rd"
    refine rif (fun h1 => ?_) fun h1 => ?_
    · walk_at "rd"
      refine r_newL (Own.nil H') (Nat.le_of_ble_eq_true rfl) fun p1 H1 o1 => ?_
      have o1 : Own H' H1 [(p1, .lst (GR9.map V.int))] := o1
      have hx : ∀ y ∈ GR9, (0 : Int) ≤ y := by decide
      walk_at "rd"
      refine r_ixI (o1.sqL 0 rfl) (by omega) (show _ < (9 : Int) by omega) ?_
      have hg := hx _ (gi_mem (ns := GR9) (i := gi dr ((i : Int) + 1) % 9) (by omega) (show _ < (9 : Int) by omega))
      generalize gi GR9 (gi dr ((i : Int) + 1) % 9) = y at *
      walk_at "rd"
      exact ⟨o1.ex, y.toNat, by rw [show ((y.toNat : Nat) : Int) = y by omega]; rfl⟩
    · walk_at "rd"
      exact ⟨Same.refl _, x, rfl⟩
  rintro σ2 H2 ⟨s2, y, rfl⟩
  walk_at "rd"
  have e : (y : Int) % 100000000000000000000000000000 = ((y % 10 ^ 29 : Nat) : Int) := by
    rw [Int.natCast_emod]
    rfl
  rw [e]
  exact q _ (Nat.mod_lt _ (by decide)) _ s2
def sp_lnumber : Sp := fun vs H Q _ => ∃ (n : Nat), vs = [.int (n : Int)] ∧ n < 125 ^ 21 ∧ RetO H Q (.lst ((numB n).map V.int))
theorem d_lnumber (T : Top K mg) : Def P w K mg base CX0 1 "_law_number_bytes" ["number"] sp_lnumber := by
  refine T.f__law_number_bytes.ok sc__law_number_bytes (by rintro vs H Q E ⟨n, rfl, _⟩; rfl) (fun f cdv A outer s H vs Q E hr h => ?_)
  obtain ⟨n, rfl, hn, q⟩ := h
  have fin : ∀ (m : Nat) (ws : List Int) (p : Addr) (H' : Hp), m < 125 → ws ++ numB m = numB n → Own H H' [(p, .lst (ws.map V.int))] → ∀ Z : Prop, (∀ (_ : ∀ p2 H2, Own H H2 [(p2, .lst ((ws ++ [(m : Int)]).map V.int))] → Q (.ref p2) H2), Z) → Z := fun m ws p H' hm hw o Z z => z fun p2 H2 o2 => by
    rw [numB_lt hm] at hw
    rw [hw] at o2
    exact q.mk o2 0 rfl
  have hnl := numB_len 20 n hn
  refine ⟨_, (pss_cons (ps_set (i := 1) sc__law_number_bytes.nd rfl (Or.inl rfl) (pe_lst pa_nil))
      (pss_cons (ps_for PassesOwn.never rfl (pi_range1 (by rfl) T.b_range (pa_cons pe_int pa_nil)) (pg_name (i := 2) sc__law_number_bytes.nd rfl (Or.inl rfl)) (pss_cons (ps_if (pt_cmpR op_lt (pv 0) pe_int (nomark _)) (pss_one ps_break) pss_nil)
      (pss_cons (ps_expr (pe_bm PySem.F.plainAttrs_list PySem.F.slot_list_append PySem.F.type_list_append mt_append (pv 1) (pa_cons (pe_op op_add pe_int (pe_op op_mod (pe_callTy (r := rInt1) call_int1 (by rfl) T.b_int (by decide +kernel) (pa_cons (pv 0) pa_nil)) pe_int)) pa_nil)))
      (pss_one (ps_set (i := 0) sc__law_number_bytes.nd rfl (Or.inl rfl) (pe_op op_fdiv (pv 0) pe_int))))))
      (pss_one (ps_ret (pe_op op_cat (pv 1) (pe_lst (pa_cons (pv 0) pa_nil))))))), ?_⟩
  walk_at "rd"
  refine r_newL (Own.nil H) (Nat.zero_le _) fun p1 H1 o1 => ?_
  walk_at "rd"
  refine forR1 (n := 20) rfl (by omega) (fun k σ' H' => ∃ (m : Nat) (ws : List Int) (v : Option V), σ' = [some (.int (m : Int)), some (.ref p1), v] ∧ k ≤ 20 ∧ m < 125 ^ (21 - k) ∧ ws ++ numB m = numB n ∧ Own H H' [(p1, .lst (ws.map V.int))]) ⟨n, [], _, rfl, Nat.zero_le _, hn, rfl, o1⟩ ?_ ?_
  · rintro k σ' H' hk ⟨m, ws, v, rfl, _, hm, hw, o⟩
    have hwl : ws.length ≤ 21 := by
      have := congrArg List.length hw
      rw [List.length_append] at this
      omega
    walk_at "rd"
    refine rif (fun h1 => ?_) fun h1 => ?_
    · walk_at "rd"
      refine r_newL o (Nat.le_of_ble_eq_true rfl) fun p2 H2 o2 => ?_
      refine r_cat o2 (o2.at 1 rfl) (o2.at 0 rfl) (by rw [List.length_map]; show _ + 1 ≤ _; omega) fun p3 H3 o3 => ?_
      rw [show ws.map V.int ++ [V.int (m : Int)] = (ws ++ [(m : Int)]).map V.int by rw [List.map_append]; rfl] at o3
      exact fin m ws p1 H' (by omega) hw o _ fun z => z p3 H3 (o3.pick1 0 rfl)
    · walk_at "rd"
      refine r_app o 0 rfl (by rw [List.length_map]; omega) fun H2 o2 => ?_
      walk_at "rd"
      refine ⟨m / 125, ws ++ [((m % 125 + 125 : Nat) : Int)], _, rfl, by omega, ?_, ?_, ?_⟩
      · refine Nat.div_lt_of_lt_mul ?_
        rw [show 21 - k = (21 - (k + 1)) + 1 by omega, Nat.pow_succ, Nat.mul_comm] at hm
        exact hm
      · rw [List.append_assoc, List.singleton_append, ← numB_ge (by omega)]
        exact hw
      · rw [show ((m % 125 + 125 : Nat) : Int) = 125 + (m : Int) % 125 by omega, List.map_append]
        exact o2
  · rintro σ' H' ⟨m, ws, v, rfl, _, hm, hw, o⟩
    have hwl : ws.length ≤ 21 := by
      have := congrArg List.length hw
      rw [List.length_append] at this
      omega
    walk_at "rd"
    refine r_newL o (Nat.le_of_ble_eq_true rfl) fun p2 H2 o2 => ?_
    refine r_cat o2 (o2.at 1 rfl) (o2.at 0 rfl) (by rw [List.length_map]; show _ + 1 ≤ _; omega) fun p3 H3 o3 => ?_
    rw [show ws.map V.int ++ [V.int (m : Int)] = (ws ++ [(m : Int)]).map V.int by rw [List.map_append]; rfl] at o3
    exact fin m ws p1 H' (by simpa using hm) hw o _ fun z => z p3 H3 (o3.pick1 0 rfl)
end

section
variable {P : Program} {w : World} {K : PySem.W.Frag} {mg : Str → Option Value} {base : Heap}
def Z29 (z : Int) : Prop := -(10 ^ 29) < z ∧ z < 10 ^ 29
theorem z29_zz {z : Int} (h : Z29 z) : zz z < 125 ^ 21 := by
  have h1 : zz z < 2 * 10 ^ 29 := by
    unfold zz
    unfold Z29 at h
    split <;> omega
  exact Nat.lt_trans h1 (by decide)
theorem z29_len {z : Int} (h : Z29 z) : (intB z).length ≤ 21 := numB_len 20 _ (z29_zz h)
theorem int_pos (z : Int) : 1 ≤ (intB z).length := numB_pos _
def sp_signed (K : PySem.W.Frag) : Sp := fun vs H Q _ => ∃ (a : Addr) (dr : List Int) (i : Nat), vs = [.ref a, .int (i : Int)] ∧ SqL K H a (dr.map V.int) ∧ Dr dr ∧ i + 1 < dr.length ∧ dr.length ≤ 1000 ∧ ∀ m : Int, Z29 m → RetV H Q (.int m)
theorem d_signed (T : Top K mg) : Def P w K mg base CX0 2 "_law_signed" ["draws", "at"] (sp_signed K) := by
  have G__law_great : Def P w K mg base CX0 1 "_law_great" ["draws", "at"] (sp_great K) := d_great T
  refine T.f__law_signed.ok sc__law_signed (by rintro vs H Q E ⟨a, dr, i, rfl, _⟩; rfl) (fun f cdv A outer s H vs Q E hr h => ?_)
  obtain ⟨a, dr, i, rfl, hS, hd, hi, hl, q⟩ := h
  have g0 := hd.gi (i := (i : Int)) (by omega) (by omega)
  refine ⟨_, (pss_cons (ps_set (i := 2) sc__law_signed.nd rfl (Or.inl rfl) (pe_callD G__law_great (hr.mono (by decide)) (pa_cons (pv 0) (pa_cons (pv 1) pa_nil))))
      (pss_cons (ps_if (pt_cmpR op_eq (pe_op op_mod (pe_op op_fdiv (pe_ix (r := rIxL K) ix_list (pv 0) (pv 1) (fun _ _ => rfl)) pe_int) pe_int) pe_int (nomark _)) (pss_one (ps_ret (pe_un un_neg (pv 2)))) pss_nil)
      (pss_one (ps_ret (pv 2))))), ?_⟩
  walk_at "rd"
  refine ⟨a, dr, i, rfl, hS, hd, hi, hl, fun m hm H2 s2 => ?_⟩
  have hS2 : SqL K H2 a (dr.map V.int) := s2.seq hS
  walk_at "rd"
  refine rif (fun h1 => ?_) fun h1 => ?_
  · walk_at "rd"
    exact q _ ⟨by omega, by omega⟩ _ s2
  · walk_at "rd"
    exact q _ ⟨by omega, by omega⟩ _ s2
def sp_linteger : Sp := fun vs H Q _ => ∃ (z : Int), vs = [.int z] ∧ zz z < 125 ^ 21 ∧ RetO H Q (.lst ((intB z).map V.int))
theorem d_linteger (T : Top K mg) : Def P w K mg base CX0 2 "_law_integer_bytes" ["number"] sp_linteger := by
  have G__law_number_bytes : Def P w K mg base CX0 1 "_law_number_bytes" ["number"] sp_lnumber := d_lnumber T
  refine T.f__law_integer_bytes.ok sc__law_integer_bytes (by rintro vs H Q E ⟨z, rfl, _⟩; rfl) (fun f cdv A outer s H vs Q E hr h => ?_)
  obtain ⟨z, rfl, hl, q⟩ := h
  refine ⟨_, (pss_cons (ps_if (pt_cmpR op_lt (pv 0) pe_int (nomark _)) (pss_one (ps_ret (pe_callD G__law_number_bytes (hr.mono (by decide)) (pa_cons (pe_op op_sub (pe_op op_mul (pe_un un_neg pe_int) (pv 0)) pe_int) pa_nil)))) pss_nil)
      (pss_one (ps_ret (pe_callD G__law_number_bytes (hr.mono (by decide)) (pa_cons (pe_op op_mul pe_int (pv 0)) pa_nil))))), ?_⟩
  walk_at "rd"
  unfold intB at q
  unfold zz at hl q
  refine rif (fun h1 => ?_) fun h1 => ?_
  · rw [if_pos h1] at hl q
    walk_at "rd"
    exact ⟨(-2 * z - 1).toNat, by rw [show (((-2 * z - 1).toNat : Nat) : Int) = -2 * z - 1 by omega]; rfl, hl, q⟩
  · rw [if_neg h1] at hl q
    walk_at "rd"
    exact ⟨(2 * z).toNat, by rw [show (((2 * z).toNat : Nat) : Int) = 2 * z by omega]; rfl, hl, q⟩
end

section
variable {P : Program} {w : World} {K : PySem.W.Frag} {mg : Str → Option Value} {base : Heap}
theorem lsI_len {zs : List Int} (hz : ∀ z ∈ zs, Z29 z) (hl : zs.length ≤ 1000) : (lsB intB zs).length ≤ 21021 := by
  have hn := numB_len 20 zs.length (Nat.lt_of_le_of_lt hl (by decide))
  have hfl := flat_le (wr := intB) (m := 21) zs fun z hz2 => z29_len (hz z hz2)
  unfold lsB
  rw [List.length_append]
  omega
def sp_write_integersQ (K : PySem.W.Frag) : Sp := fun vs H Q _ => ∃ (a : Addr) (zs : List Int), vs = [.ref a] ∧ SqS K H a (zs.map V.int) ∧ (∀ z ∈ zs, Z29 z) ∧ zs.length ≤ 1000 ∧ RetO H Q (.lst ((lsB intB zs).map V.int))
theorem d_write_integersQ (T : Top K mg) : Def P w K mg base CX0 3 "write_integers" ["numbers"] (sp_write_integersQ K) := by
  have G_write_number : Def P w K mg base CX0 1 "write_number" ["number"] sp_write_number := d_write_number T
  have G_write_integer : Def P w K mg base CX0 2 "write_integer" ["number"] sp_write_integer := d_write_integer T
  refine T.f_write_integers.ok sc_write_integers (by rintro vs H Q E ⟨a, zs, rfl, _⟩; rfl) (fun f cdv A outer s H vs Q E hr h => ?_)
  obtain ⟨a, zs, rfl, hS, hz, hl, q⟩ := h
  have hn := numB_len 20 zs.length (Nat.lt_of_le_of_lt hl (by decide))
  refine ⟨_, (pss_cons (ps_set (i := 1) sc_write_integers.nd rfl (Or.inl rfl) (pe_callD G_write_number (hr.mono (by decide)) (pa_cons (pe_callB (r := Evl.rLenS K) call_len_seq (by rfl) T.b_len (by decide +kernel) (pa_cons (pv 0) pa_nil)) pa_nil)))
      (pss_cons (ps_for PassesOwn.never rfl (pi_seq (pv 0)) (pg_name (i := 2) sc_write_integers.nd rfl (Or.inl rfl)) (pss_one (ps_expr (pe_bm PySem.F.plainAttrs_list PySem.F.slot_list_extend PySem.F.type_list_extend mt_extend (pv 1) (pa_cons (pe_callD G_write_integer (hr.mono (by decide)) (pa_cons (pv 2) pa_nil)) pa_nil)))))
      (pss_one (ps_ret (pv 1))))), ?_⟩
  walk_at "rd"
  refine r_lenQ hS ?_
  walk_at "rd"
  refine ⟨zs.length, by rw [List.length_map]; rfl, by omega, r_ret1 (Own.nil H) fun p1 H1 o1 => ?_⟩
  walk_at "rd"
  refine r_iSeq ?_
  walk_at "rd"
  refine forQ hS (fun i σ' H' => ∃ (v : Option V) (L : List (Addr × HO)), σ' = [some (.ref a), some (.ref p1), v] ∧ Own H H' ((p1, .lst ((numB zs.length ++ (zs.take i).flatMap intB).map V.int)) :: L)) ⟨_, [], rfl, (by rw [List.take_zero, List.flatMap_nil, List.append_nil]; exact o1)⟩ (fun i σ' H' _ ⟨_, _, _, o⟩ => o.ex) ?_ ?_
  · rintro i x σ' H' hx ⟨v, L, rfl, o⟩
    obtain ⟨z, hv, rfl⟩ := get_ints hx
    have hzz := z29_len (hz z (List.mem_of_getElem? hv))
    walk_at "rd"
    refine ⟨z, rfl, by omega, r_ret1 o fun p2 H2 o2 => ?_⟩
    walk_at "rd"
    have hfi := flat_le (wr := intB) (m := 21) (zs.take i) fun z hz2 => z29_len (hz z (List.mem_of_mem_take hz2))
    have htl : (zs.take i).length ≤ zs.length := by rw [List.length_take]; omega
    refine r_ext o2 1 0 rfl rfl (by rw [List.length_map, List.length_map, List.length_append]; omega) fun H3 o3 => ?_
    rw [← List.map_append, List.append_assoc, ← take_flat hv] at o3
    exact ⟨_, [], rfl, o3.pick1 1 rfl⟩
  · rintro σ' H' ⟨v, L, rfl, o⟩
    rw [List.length_map, List.take_length] at o
    walk_at "rd"
    exact q.mk o 0 rfl
def sp_lintegersQ (K : PySem.W.Frag) : Sp := fun vs H Q _ => ∃ (a : Addr) (zs : List Int), vs = [.ref a] ∧ SqS K H a (zs.map V.int) ∧ (∀ z ∈ zs, Z29 z) ∧ zs.length ≤ 1000 ∧ RetO H Q (.lst ((lsB intB zs).map V.int))
theorem d_lintegersQ (T : Top K mg) : Def P w K mg base CX0 3 "_law_integers_bytes" ["numbers"] (sp_lintegersQ K) := by
  have G__law_number_bytes : Def P w K mg base CX0 1 "_law_number_bytes" ["number"] sp_lnumber := d_lnumber T
  have G__law_integer_bytes : Def P w K mg base CX0 2 "_law_integer_bytes" ["number"] sp_linteger := d_linteger T
  refine T.f__law_integers_bytes.ok sc__law_integers_bytes (by rintro vs H Q E ⟨a, zs, rfl, _⟩; rfl) (fun f cdv A outer s H vs Q E hr h => ?_)
  obtain ⟨a, zs, rfl, hS, hz, hl, q⟩ := h
  have hn0 : zs.length < 125 ^ 21 := Nat.lt_of_le_of_lt hl (by decide)
  have hn := numB_len 20 zs.length hn0
  refine ⟨_, (pss_cons (ps_set (i := 1) sc__law_integers_bytes.nd rfl (Or.inl rfl) (pe_callD G__law_number_bytes (hr.mono (by decide)) (pa_cons (pe_callB (r := Evl.rLenS K) call_len_seq (by rfl) T.b_len (by decide +kernel) (pa_cons (pv 0) pa_nil)) pa_nil)))
      (pss_cons (ps_for PassesOwn.never rfl (pi_seq (pv 0)) (pg_name (i := 2) sc__law_integers_bytes.nd rfl (Or.inl rfl)) (pss_one (ps_set (i := 1) sc__law_integers_bytes.nd rfl (Or.inl rfl) (pe_op op_cat (pv 1) (pe_callD G__law_integer_bytes (hr.mono (by decide)) (pa_cons (pv 2) pa_nil))))))
      (pss_one (ps_ret (pv 1))))), ?_⟩
  walk_at "rd"
  refine r_lenQ hS ?_
  walk_at "rd"
  refine ⟨zs.length, by rw [List.length_map]; rfl, hn0, r_ret1 (Own.nil H) fun p1 H1 o1 => ?_⟩
  walk_at "rd"
  refine r_iSeq ?_
  walk_at "rd"
  refine forQ hS (fun i σ' H' => ∃ (v : Option V) (p : Addr) (L : List (Addr × HO)), σ' = [some (.ref a), some (.ref p), v] ∧ Own H H' ((p, .lst ((numB zs.length ++ (zs.take i).flatMap intB).map V.int)) :: L)) ⟨_, p1, [], rfl, (by rw [List.take_zero, List.flatMap_nil, List.append_nil]; exact o1)⟩ (fun i σ' H' _ ⟨_, _, _, _, o⟩ => o.ex) ?_ ?_
  · rintro i x σ' H' hx ⟨v, p, L, rfl, o⟩
    obtain ⟨z, hv, rfl⟩ := get_ints hx
    have hzz := z29_len (hz z (List.mem_of_getElem? hv))
    walk_at "rd"
    refine ⟨z, rfl, z29_zz (hz z (List.mem_of_getElem? hv)), r_ret1 o fun p2 H2 o2 => ?_⟩
    have hfi := flat_le (wr := intB) (m := 21) (zs.take i) fun z hz2 => z29_len (hz z (List.mem_of_mem_take hz2))
    have htl : (zs.take i).length ≤ zs.length := by rw [List.length_take]; omega
    have hmm : (zs.take i).length * 21 ≤ 1000 * 21 := Nat.mul_le_mul_right _ (by omega)
    refine r_cat o2 (o2.at 1 rfl) (o2.at 0 rfl) (by rw [List.length_map, List.length_map, List.length_append]; omega) fun p3 H3 o3 => ?_
    rw [← List.map_append, List.append_assoc, ← take_flat hv] at o3
    walk_at "rd"
    exact ⟨_, p3, [], rfl, o3.pick1 0 rfl⟩
  · rintro σ' H' ⟨v, p, L, rfl, o⟩
    rw [List.length_map, List.take_length] at o
    walk_at "rd"
    exact q.mk o 0 rfl
end

/-! ### a method of a text, within a comprehension: the frag told -/
theorem pe_bmSK {X : Cx} {K : PySem.W.Frag} {o e : Expr} {es : List Expr} {to : TE} {t : TA} {name : Str} {apos cpos : Pos} {T id : String} {r : L2.St → V → List V → Hp → VK → Prop} (hK : X.K = K) (pa : PlainAttrs T) (slot : Slot T name id) (hty : typeOf (.builtin id) = pure (.type "method_descriptor")) (hm : MtS X id r) (ho : PE X o to) (ha : PA X (e :: es) t)
    (hbase : attributeBase o name X.env (eval o X.env) = eval o X.env := by rfl) (hfew : ((backTo cpos (starEach (e :: es) X.env)).all (fun x => !x.1) && (backToKw cpos (keywordEach [] X.env)).all (fun x => x.1.isSome) && decide ((e :: es).length + ([] : List Keyword).length + (if ([] : List Keyword).isEmpty then 0 else 1) < 30)) = true := by rfl)
    (hline : (apos.endLine == cpos.line) = true := by rfl) (hst : starEach (e :: es) X.env = (false, eval e X.env) :: starEach es X.env := by rfl) (hpl : (backTo cpos (starEach es X.env)).any (·.1) = false := by rfl) : PE X (.Call (.Attribute o name apos) (e :: es) [] cpos) (tBMS K T r to t) := by
  subst hK
  exact pe_bmS pa slot hty hm ho ha hbase hfew hline hst hpl

section
variable {P : Program} {w : World} {K : PySem.W.Frag} {mg : Str → Option Value} {base : Heap}
def sp_lbb (K : PySem.W.Frag) : Sp := fun vs H Q _ => ∃ (a : Addr) (zs : List Int), vs = [.ref a] ∧ SqL K H a (zs.map V.int) ∧ zs.length ≤ 100000 ∧ RetO H Q (.lst ((lsB byB zs).map V.int))
theorem d_lbb (T : Top K mg) : Def P w K mg base CX0 2 "_law_bytes_bytes" ["values"] (sp_lbb K) := by
  have G__law_number_bytes : Def P w K mg base CX0 1 "_law_number_bytes" ["number"] sp_lnumber := d_lnumber T
  refine T.f__law_bytes_bytes.ok sc__law_bytes_bytes (by rintro vs H Q E ⟨a, zs, rfl, _⟩; rfl) (fun f cdv A outer s H vs Q E hr h => ?_)
  obtain ⟨a, zs, rfl, hS, hl, q⟩ := h
  have hn0 : zs.length < 125 ^ 21 := Nat.lt_of_le_of_lt hl (by decide)
  have hn := numB_len 20 zs.length hn0
  refine ⟨_, (pss_cons (ps_set (i := 1) sc__law_bytes_bytes.nd rfl (Or.inl rfl) (pe_callD G__law_number_bytes (hr.mono (by decide)) (pa_cons (pe_callB (r := Evl.rLenS K) call_len_seq (by rfl) T.b_len (by decide +kernel) (pa_cons (pv 0) pa_nil)) pa_nil)))
      (pss_cons (ps_for PassesOwn.never rfl (pi_list (pv 0)) (pg_name (i := 2) sc__law_bytes_bytes.nd rfl (Or.inl rfl)) (pss_one (ps_if (pt_cmpR op_lt (pv 2) pe_int (nomark _)) (pss_one (ps_set (i := 1) sc__law_bytes_bytes.nd rfl (Or.inl rfl) (pe_op op_cat (pv 1) (pe_lst (pa_cons (pv 2) pa_nil))))) (pss_one (ps_set (i := 1) sc__law_bytes_bytes.nd rfl (Or.inl rfl) (pe_op op_cat (pv 1) (pe_lst (pa_cons pe_int (pa_cons (pe_op op_sub (pv 2) pe_int) pa_nil)))))))))
      (pss_one (ps_ret (pv 1))))), ?_⟩
  walk_at "rd"
  refine ⟨zs.length, by rw [List.length_map]; rfl, hn0, r_ret1 (Own.nil H) fun p1 H1 o1 => ?_⟩
  walk_at "rd"
  refine forL (o1.old hS) (fun i σ' H' => ∃ (v : Option V) (p : Addr) (L : List (Addr × HO)), σ' = [some (.ref a), some (.ref p), v] ∧ Own H H' ((p, .lst ((numB zs.length ++ (zs.take i).flatMap byB).map V.int)) :: L)) ⟨_, p1, [], rfl, (by rw [List.take_zero, List.flatMap_nil, List.append_nil]; exact o1)⟩ (fun i σ' H' _ ⟨_, _, _, _, o⟩ => o.old hS) ?_ ?_
  · rintro i x σ' H' hx ⟨v, p, L, rfl, o⟩
    obtain ⟨z, hv, rfl⟩ := get_ints hx
    have hfi := flat_le (wr := byB) (m := 2) (zs.take i) fun z _ => (by_len z).2
    have htl : (zs.take i).length ≤ zs.length := by rw [List.length_take]; omega
    have hf : (zs.take (i + 1)).flatMap byB = (zs.take i).flatMap byB ++ byB z := take_flat hv
    have fin : ∀ p3 H3 L3, Own H H3 ((p3, .lst ((numB zs.length ++ (zs.take i).flatMap byB).map V.int ++ (byB z).map V.int)) :: L3) → Own H H3 ((p3, .lst ((numB zs.length ++ (zs.take (i + 1)).flatMap byB).map V.int)) :: L3) := fun p3 H3 L3 o3 => by
      rw [← List.map_append, List.append_assoc, ← hf] at o3
      exact o3
    walk_at "rd"
    refine rif (fun h1 => ?_) fun h1 => ?_
    · have hb1 : byB z = [z] := by unfold byB; rw [if_pos h1]
      walk_at "rd"
      refine r_newL o (Nat.le_of_ble_eq_true rfl) fun p2 H2 o2 => ?_
      refine r_cat o2 (o2.at 1 rfl) (o2.at 0 rfl) (by rw [List.length_map, List.length_append]; show _ + 1 ≤ _; omega) fun p3 H3 o3 => ?_
      walk_at "rd"
      exact ⟨_, p3, _, rfl, fin _ _ _ (by rw [hb1]; exact o3)⟩
    · have hb1 : byB z = [249, z - 249] := by unfold byB; rw [if_neg h1]
      walk_at "rd"
      refine r_newL o (Nat.le_of_ble_eq_true rfl) fun p2 H2 o2 => ?_
      refine r_cat o2 (o2.at 1 rfl) (o2.at 0 rfl) (by rw [List.length_map, List.length_append]; show _ + 2 ≤ _; omega) fun p3 H3 o3 => ?_
      walk_at "rd"
      exact ⟨_, p3, _, rfl, fin _ _ _ (by rw [hb1]; exact o3)⟩
  · rintro σ' H' ⟨v, p, L, rfl, o⟩
    rw [List.length_map, List.take_length] at o
    walk_at "rd"
    exact q.mk o 0 rfl
def SGS : Str := PySem.Str.ofString " !\"#$&'()*+,-./0123456789:;<=>?@ABCDEFGHIJKLMNOPQRSTUVWXYZ[\\]^_`abcdefghijklmnopqrstuvwxyz{|}~"
theorem sgs_len : SGS.length = 94 := by decide +kernel
def TxC (c : Nat) : Prop := 32 ≤ c ∧ c ≤ 126 ∧ c ≠ 37
instance (c : Nat) : Decidable (TxC c) := by unfold TxC; infer_instance
theorem sgs_at : ∀ j, j < 94 → TxC (SGS.cps.toList.getD j 0) := by decide +kernel
theorem sgs_get {j : Nat} (h : j < 94) : ∃ c, SGS.cps.toList[j]? = some c ∧ TxC c := by
  have h1 := sgs_at j h
  have h2 : j < SGS.cps.toList.length := by rw [show SGS.cps.toList.length = 94 by decide +kernel]; exact h
  rw [List.getD_eq_getElem?_getD, List.getElem?_eq_getElem h2] at h1
  exact ⟨_, List.getElem?_eq_getElem h2, h1⟩
theorem sgs_idx0 : ∀ c, c < 127 → TxC c → Txt.index0 SGS (tx [c]) = some (if c < 37 then c - 32 else c - 33) := by decide +kernel
theorem sgs_idx {c : Nat} (h : TxC c) : Txt.index0 SGS (tx [c]) = some (if c < 37 then c - 32 else c - 33) := sgs_idx0 c (by have := h.2.1; omega) h
def sp_signs : Sp := fun vs H Q _ => vs = [] ∧ Q (.str SGS) H
theorem d_signs (T : Top K mg) : Def P w K mg base CX0 1 "_law_signs" [] sp_signs := by
  refine T.f__law_signs.ok sc__law_signs (by rintro vs H Q E ⟨rfl, _⟩; rfl) (fun f cdv A outer s H vs Q E hr h => ?_)
  obtain ⟨rfl, q⟩ := h
  refine ⟨_, (pss_one (ps_ret pe_str)), ?_⟩
  walk_at "rd"
  exact q
def sp_text_of (K : PySem.W.Frag) : Sp := fun vs H Q _ => ∃ (a : Addr) (dr : List Int) (i m : Nat), vs = [.ref a, .int (i : Int), .int (m : Int)] ∧ SqL K H a (dr.map V.int) ∧ Dr dr ∧ i < dr.length ∧ dr.length ≤ 1000 ∧ m ≤ 1000 ∧ ∀ cs : List Nat, (∀ c ∈ cs, TxC c) → cs.length ≤ m → RetV H Q (.str (tx cs))
theorem d_text_of (T : Top K mg) : Def P w K mg base CX0 2 "_law_text_of" ["draws", "at", "most"] (sp_text_of K) := by
  have G__law_signs : Def P w K mg base CX0 1 "_law_signs" [] sp_signs := d_signs T
  refine T.f__law_text_of.ok sc__law_text_of (by rintro vs H Q E ⟨a, dr, i, m, rfl, _⟩; rfl) (fun f cdv A outer s H vs Q E hr h => ?_)
  obtain ⟨a, dr, i, m, rfl, hS, hd, hi, hl, hm, q⟩ := h
  have g0 := hd.gi (i := (i : Int)) (by omega) (by omega)
  refine ⟨_, (pss_cons (ps_set (i := 3) sc__law_text_of.nd rfl (Or.inr rfl) (pe_callD0 G__law_signs (hr.mono (by decide))))
      (pss_one (ps_ret (pe_join pe_str (pe_lc (own := [("k", 4)]) (g := (gName 4)) (tt := tYes) rfl sc__law_text_of.nd (pi_range1 (by rfl) T.b_range (pa_cons (pe_op op_mod (pe_ix (r := rIxL K) ix_list (pv 0) (pv 1) (fun _ _ => rfl)) (pe_op op_add (pv 2) pe_int)) pa_nil)) (blkOk_by (N := N__law_text_of) (sc := defScope s__law_text_of) (by decide +kernel)) (fun _ _ _ _ _ => (pg_name (i := 4) sc__law_text_of.nd rfl (Or.inl rfl))) (fun _ _ _ _ _ => pts_nil) (fun _ _ _ _ _ => (pe_ix ix_str (pv 3) (pe_op op_mod (pe_op op_fdiv (pe_ix (r := rIxL K) ix_list (pv 0) (pe_op op_mod (pe_op op_add (pe_op op_add (pv 1) pe_int) (pv 4)) (pe_callB (r := Evl.rLenS K) call_len_seq (by rfl) T.b_len (by decide +kernel) (pa_cons (pv 0) pa_nil))) (fun _ _ => rfl)) (pe_op op_add pe_int (pe_op op_fdiv (pv 4) (pe_callB (r := Evl.rLenS K) call_len_seq (by rfl) T.b_len (by decide +kernel) (pa_cons (pv 0) pa_nil))))) (pe_callB (r := rLenStr) call_len_str (by rfl) T.b_len (by decide +kernel) (pa_cons (pv 3) pa_nil))) (fun _ _ => rfl)))))))), ?_⟩
  walk_at "rd"
  refine ⟨rfl, ?_⟩
  walk_at "rd"
  refine r_joinE ?_
  walk_at "rd"
  refine ⟨⟨_, rfl⟩, ?_⟩
  have hm0 : (0 : Int) < (m : Int) + 1 := by omega
  have hm1 := Int.emod_nonneg (gi dr (i : Int)) (show (m : Int) + 1 ≠ 0 by omega)
  have hm2 := Int.emod_lt_of_pos (gi dr (i : Int)) hm0
  walk_at "rd"
  obtain ⟨n, hn⟩ : ∃ n : Nat, gi dr (i : Int) % ((m : Int) + 1) = n := ⟨(gi dr (i : Int) % ((m : Int) + 1)).toNat, by omega⟩
  rw [hn]
  have hN : (0 : Int) < (dr.length : Int) := by omega
  let ix : Nat → Nat := fun k => (gi dr (((i : Int) + 1 + (k : Int)) % (dr.length : Int)) / (1 + (k : Int) / (dr.length : Int)) % 94).toNat
  let cd : Nat → Nat := fun k => SGS.cps.toList.getD (ix k) 0
  refine lcR1 (n := n) (((List.range n).map fun k => tx [cd k]).map V.str) (by simp) (Own.nil H) rfl (by omega) (fun x => rfl) ?_ fun p1 H1 o1 => ?_
  · intro k y p zs H' Q' hk hy o' q'
    rw [List.getElem?_map, List.getElem?_map, List.getElem?_range hk] at hy
    cases hy
    have e1 := Int.emod_nonneg ((i : Int) + 1 + (k : Int)) (show (dr.length : Int) ≠ 0 by omega)
    have e2 := Int.emod_lt_of_pos ((i : Int) + 1 + (k : Int)) hN
    have e3 := Int.ediv_nonneg (a := (k : Int)) (b := (dr.length : Int)) (by omega) (by omega)
    have e4 : (k : Int) / (dr.length : Int) ≤ k := Int.ediv_le_self _ (by omega)
    have gk := hd.gi (i := ((i : Int) + 1 + (k : Int)) % (dr.length : Int)) e1 e2
    have hS' := o'.old hS
    walk_at "rd"
    rw [List.length_map]
    refine r_I hN ?_
    walk_at "rd"
    rw [List.length_map]
    refine r_I ⟨hN, by omega⟩ ?_
    walk_at "rd"
    refine r_lenS (by rw [sgs_len]; decide) ?_
    rw [sgs_len]
    walk_at "rd"
    have hx0 : (0 : Int) ≤ gi dr (((i : Int) + 1 + (k : Int)) % (dr.length : Int)) / (1 + (k : Int) / (dr.length : Int)) % 94 := by omega
    have hx1 : gi dr (((i : Int) + 1 + (k : Int)) % (dr.length : Int)) / (1 + (k : Int) / (dr.length : Int)) % 94 < 94 := by omega
    obtain ⟨c, hc, _⟩ := sgs_get (j := ix k) (by show Int.toNat _ < 94; omega)
    have hcd : cd k = c := by
      show SGS.cps.toList.getD (ix k) 0 = c
      rw [List.getD_eq_getElem?_getD, hc]
      rfl
    have q' : RetV H' Q' (V.str (tx [cd k])) := q'
    rw [hcd] at q'
    refine ⟨SGS, _, c, rfl, rfl, by rw [sgs_len]; decide, ?_, q'.here⟩
    rw [show (((94 : Nat) : Int)) = 94 from rfl, show gi dr (((i : Int) + 1 + (k : Int)) % (dr.length : Int)) / (1 + (k : Int) / (dr.length : Int)) % 94 = ((ix k : Nat) : Int) by show _ = ((Int.toNat _ : Nat) : Int); omega]
    exact atI_nat hc
  rw [show (List.range n).map (fun k => tx [cd k]) = ((List.range n).map cd).map fun c => tx [c] by rw [List.map_map]; rfl] at o1
  walk_at "rd"
  refine ⟨_, p1, ((List.range n).map cd).map fun c => tx [c], rfl, rfl, .inl (o1.sqL 0 rfl), ?_, ?_⟩
  · rw [sum_ones, List.length_map, List.length_map, List.length_range]
    show n + _ * 0 ≤ _
    omega
  rw [join_ones]
  refine q _ ?_ (by rw [List.length_map, List.length_range]; omega) _ o1.ex
  intro c hc
  obtain ⟨k, _, rfl⟩ := List.mem_map.mp hc
  have hx0 : (0 : Int) ≤ gi dr (((i : Int) + 1 + (k : Int)) % (dr.length : Int)) / (1 + (k : Int) / (dr.length : Int)) % 94 := by omega
  exact sgs_at (ix k) (by show Int.toNat _ < 94; omega)
def sp_codes : Sp := fun vs H Q _ => ∃ (cs : List Nat), vs = [.str (tx cs)] ∧ (∀ c ∈ cs, TxC c) ∧ cs.length ≤ 100000 ∧ RetO H Q (.lst ((cs.map fun (c : Nat) => (c : Int)).map V.int))
theorem d_codes (T : Top K mg) : Def P w K mg base CX0 2 "_law_codes" ["text"] sp_codes := by
  have G__law_signs : Def P w K mg base CX0 1 "_law_signs" [] sp_signs := d_signs T
  refine T.f__law_codes.ok sc__law_codes (by rintro vs H Q E ⟨cs, rfl, _⟩; rfl) (fun f cdv A outer s H vs Q E hr h => ?_)
  obtain ⟨cs, rfl, hc, hl, q⟩ := h
  refine ⟨_, (pss_cons (ps_set (i := 1) sc__law_codes.nd rfl (Or.inl rfl) (pe_callD0 G__law_signs (hr.mono (by decide))))
      (pss_cons (ps_set (i := 2) sc__law_codes.nd rfl (Or.inl rfl) (pe_lst pa_nil))
      (pss_cons (ps_for PassesOwn.never rfl (pi_str (pv 0)) (pg_name (i := 3) sc__law_codes.nd rfl (Or.inl rfl)) (pss_cons (ps_set (i := 4) sc__law_codes.nd rfl (Or.inl rfl) (pe_bmSK (K := K) rfl PySem.F.plainAttrs_str PySem.F.slot_str_index PySem.F.type_str_index (mt_indexX rfl L2.takes0) (pv 1) (pa_cons (pv 3) pa_nil)))
      (pss_one (ps_expr (pe_bm PySem.F.plainAttrs_list PySem.F.slot_list_append PySem.F.type_list_append mt_append (pv 2) (pa_cons (pe_op op_add (pe_op op_add pe_int (pv 4)) (pe_callTy (r := rInt1) call_int1 (by rfl) T.b_int (by decide +kernel) (pa_cons (pe_cmpR op_gt (pv 4) pe_int (nomark _)) pa_nil))) pa_nil))))))
      (pss_one (ps_ret (pv 2)))))), ?_⟩
  walk_at "rd"
  refine ⟨rfl, ?_⟩
  walk_at "rd"
  refine r_newL (Own.nil H) (Nat.zero_le _) fun p1 H1 o1 => ?_
  walk_at "rd"
  refine r_iS ?_
  walk_at "rd"
  refine forS (fun i σ' H' => ∃ (v3 v4 : Option V), σ' = [some (.str (tx cs)), some (.str SGS), some (.ref p1), v3, v4] ∧ Own H H' [(p1, .lst (((cs.take i).map fun (c : Nat) => (c : Int)).map V.int))]) ⟨_, _, rfl, o1⟩ ?_ ?_
  · rintro i c σ' H' hi ⟨v3, v4, rfl, o⟩
    have hcc := hc c (List.mem_of_getElem? hi)
    have hlt := (List.getElem?_eq_some_iff.mp hi).1
    walk_at "rd"
    refine r_bmS ?_
    walk_at "rd"
    refine ⟨ty_strV, ?_⟩
    walk_at "rd"
    refine ⟨_, _, rfl, rfl, fun k hk => ?_, fun hn => by rw [sgs_idx hcc] at hn; cases hn⟩
    rw [sgs_idx hcc] at hk
    cases hk
    walk_at "rd"
    have fin : ∀ H3 (z : Int), z = (c : Int) → Own H H3 [(p1, .lst (((cs.take i).map fun (c : Nat) => (c : Int)).map V.int ++ [V.int z]))] → Own H H3 [(p1, .lst (((cs.take (i + 1)).map fun (c : Nat) => (c : Int)).map V.int))] := fun H3 z hz o3 => by
      rw [hz] at o3
      rw [List.take_add_one, hi, List.map_append, List.map_append]
      exact o3
    refine r_app o 0 rfl (by rw [List.length_map, List.length_map, List.length_take]; omega) fun H3 o3 => ?_
    refine ⟨_, _, rfl, fin _ _ ?_ o3⟩
    obtain ⟨h1, h2, h3⟩ := hcc
    by_cases h : c < 37
    · rw [if_pos h, if_neg (by rw [decide_eq_true_eq]; omega)]; omega
    · rw [if_neg h, if_pos (by rw [decide_eq_true_eq]; omega)]; omega
  · rintro σ' H' ⟨v3, v4, rfl, o⟩
    rw [List.take_length] at o
    walk_at "rd"
    exact q.mk o 0 rfl
def sp_ltb : Sp := fun vs H Q _ => ∃ (cs : List Nat), vs = [.str (tx cs)] ∧ (∀ c ∈ cs, TxC c) ∧ cs.length ≤ 1000 ∧ RetO H Q (.lst ((lsB byB (cs.map fun (c : Nat) => (c : Int))).map V.int))
theorem d_ltb (T : Top K mg) : Def P w K mg base CX0 3 "_law_text_bytes" ["text"] sp_ltb := by
  have G__law_codes : Def P w K mg base CX0 2 "_law_codes" ["text"] sp_codes := d_codes T
  have G__law_bytes_bytes : Def P w K mg base CX0 2 "_law_bytes_bytes" ["values"] (sp_lbb K) := d_lbb T
  refine T.f__law_text_bytes.ok sc__law_text_bytes (by rintro vs H Q E ⟨cs, rfl, _⟩; rfl) (fun f cdv A outer s H vs Q E hr h => ?_)
  obtain ⟨cs, rfl, hc, hl, q⟩ := h
  refine ⟨_, (pss_one (ps_ret (pe_callD G__law_bytes_bytes (hr.mono (by decide)) (pa_cons (pe_callD G__law_codes (hr.mono (by decide)) (pa_cons (pv 0) pa_nil)) pa_nil)))), ?_⟩
  walk_at "rd"
  refine ⟨cs, rfl, hc, by omega, r_ret1 (Own.nil H) fun p1 H1 o1 => ?_⟩
  walk_at "rd"
  exact ⟨p1, _, rfl, o1.sqL 0 rfl, by rw [List.length_map]; omega, r_ret1 o1 fun p2 H2 o2 => q.mk o2 0 rfl⟩
end

/-! ### objects that no longer change go into the base -/
theorem erase_perm {α : Type} {x : α} : ∀ (L : List α) (n : Nat), L[n]? = some x → (x :: L.eraseIdx n).Perm L
  | [], _, h => by simp at h
  | y :: L, 0, h => by
    have e : y = x := Option.some.inj h
    subst e
    exact .refl _
  | y :: L, n + 1, h => by
    show (x :: y :: L.eraseIdx n).Perm (y :: L)
    exact (List.Perm.swap y x _).trans ((erase_perm L n h).cons y)
theorem same_seqL {K : PySem.W.Frag} {H H' : Hp} {l : Addr} {xs : List V} (e : Same H H') (h : SqL K H l xs) : SqL K H' l xs := e.seq h
section
variable {H0 H : Hp} {L : List (Addr × HO)} {a : Addr} {u : HO}
theorem _root_.RD.Own.frz (o : Own H0 H ((a, u) :: L)) : Own (upd H0 a u) H L := by
  have hnd := o.nd
  rw [List.map_cons, List.nodup_cons] at hnd
  have ha := o.fr _ List.mem_cons_self
  refine ⟨fun b x e => ?_, fun x hx => ?_, hnd.2⟩
  · by_cases hb : b = a
    · subst hb
      rw [upd_same] at e
      cases e
      exact ha.2
    · rw [upd_ne hb] at e
      exact o.ex _ _ e
  · have hx2 := o.fr x (List.mem_cons_of_mem _ hx)
    refine ⟨?_, hx2.2⟩
    rw [upd_ne]
    · exact hx2.1
    · intro e
      exact hnd.1 (List.mem_map.mpr ⟨x, hx, e⟩)
theorem _root_.RD.Own.same_frz (o : Own H0 H ((a, u) :: L)) : Same H0 (upd H0 a u) := same_new (o.fr _ List.mem_cons_self).1
theorem _root_.RD.Own.perm {L' : List (Addr × HO)} (o : Own H0 H L) (p : L'.Perm L) : Own H0 H L' := ⟨o.ex, fun x hx => o.fr x (p.mem_iff.mp hx), ((p.map _).nodup_iff).mpr o.nd⟩
theorem _root_.RD.Own.base {H1 : Hp} (o : Own H0 H L) (s : Same H1 H0) : Own H1 H L := ⟨s.trans o.ex, fun x hx => ⟨s.free (o.fr x hx).1, (o.fr x hx).2⟩, o.nd⟩
/-- the object at place n is frozen -/
theorem _root_.RD.Own.frzAt (o : Own H0 H L) (n : Nat) (h : L[n]? = some (a, u)) : Own (upd H0 a u) H (L.eraseIdx n) := by
  exact Own.frz (o.perm (erase_perm L n h))
end

/-! ### comprehensions whose values are known by a word only -/
section
variable {σ : L2.St} {H H0 : Hp} {Q : VK} {K : PySem.W.Frag} {L : List (Addr × HO)} {te : TE} {j : Int}
theorem lcR1P {n s : Nat} {vs : List Nat} (Pz : Int → Prop) (o : Own H0 H L) (hn : j = (n : Int)) (hz : n ≤ 1000000) (hw : ∀ x, wipe ((wipe σ vs).set s (some x)) vs = wipe σ vs)
    (he : ∀ (i : Nat) (p : Addr) (zs : List V) (H' : Hp) (Q : VK), i < n → Own H0 H' ((p, .lst zs) :: L) → (∀ z, Pz z → RetV H' Q (.int z)) → te ((wipe σ vs).set s (some (.int (i : Int)))) H' Q)
    (k : ∀ p H' (zs : List Int), zs.length = n → (∀ z ∈ zs, Pz z) → Own H0 H' ((p, .lst (zs.map V.int)) :: L) → Q (.ref p) H') :
    ∃ k : Int, [V.int j] = [.int k] ∧ -(2 ^ 62) ≤ k ∧ k < 2 ^ 62 ∧ RLc (Itr 0 k.toNat) (gName s) tYes te vs σ H Q := by
  refine ⟨j, rfl, by omega, by omega, fun P hP => ?_⟩
  have e : j.toNat = n := by omega
  rw [e]
  refine lc_range (lo := 0) (n := n) (fun i H' => ∃ zs : List Int, zs.length = i ∧ (∀ z ∈ zs, Pz z) ∧ Own H0 H' ((P, .lst (zs.map V.int)) :: L)) ⟨[], rfl, (by intro z hz; cases hz), o.new hP⟩ (fun i H' hi p => ?_) (fun H' ⟨zs, h1, h2, o'⟩ => k P H' zs h1 h2 o')
  obtain ⟨zs, hl, hp, o'⟩ := p
  have e0 : (0 : Int) + (i : Int) = (i : Int) := Int.zero_add _
  rw [e0]
  refine ⟨hw _, ?_⟩
  refine iteT (B := ∃ zs : List Int, zs.length = i + 1 ∧ (∀ z ∈ zs, Pz z) ∧ Own H0 H' ((P, .lst (zs.map V.int)) :: L)) (he i P _ H' _ hi o' fun z hz H4 s4 => ?_)
  have o4 := o'.mono s4
  refine ⟨zs.map V.int, o4.at 0 rfl, sz_lt (by rw [List.length_map]; omega), zs ++ [z], by rw [List.length_append, hl]; rfl, ?_, ?_⟩
  · intro x hx
    rcases List.mem_append.mp hx with hx | hx
    · exact hp x hx
    · rw [List.mem_singleton.mp hx]; exact hz
  · have o5 := o4.set (v := .lst (zs.map V.int ++ [V.int z])) 0 rfl
    rw [List.map_append]
    exact o5
end

/-! ### comprehensions whose texts are known by a word only -/
section
variable {σ : L2.St} {H H0 : Hp} {Q : VK} {K : PySem.W.Frag} {L : List (Addr × HO)} {te : TE} {j : Int}
theorem lcR1S {n s : Nat} {vs : List Nat} (Pz : Str → Prop) (o : Own H0 H L) (hn : j = (n : Int)) (hz : n ≤ 1000000) (hw : ∀ x, wipe ((wipe σ vs).set s (some x)) vs = wipe σ vs)
    (he : ∀ (i : Nat) (p : Addr) (zs : List V) (H' : Hp) (Q : VK), i < n → Own H0 H' ((p, .lst zs) :: L) → (∀ z, Pz z → RetV H' Q (.str z)) → te ((wipe σ vs).set s (some (.int (i : Int)))) H' Q)
    (k : ∀ p H' (zs : List Str), zs.length = n → (∀ z ∈ zs, Pz z) → Own H0 H' ((p, .lst (zs.map V.str)) :: L) → Q (.ref p) H') :
    ∃ k : Int, [V.int j] = [.int k] ∧ -(2 ^ 62) ≤ k ∧ k < 2 ^ 62 ∧ RLc (Itr 0 k.toNat) (gName s) tYes te vs σ H Q := by
  refine ⟨j, rfl, by omega, by omega, fun P hP => ?_⟩
  have e : j.toNat = n := by omega
  rw [e]
  refine lc_range (lo := 0) (n := n) (fun i H' => ∃ zs : List Str, zs.length = i ∧ (∀ z ∈ zs, Pz z) ∧ Own H0 H' ((P, .lst (zs.map V.str)) :: L)) ⟨[], rfl, (by intro z hz; cases hz), o.new hP⟩ (fun i H' hi p => ?_) (fun H' ⟨zs, h1, h2, o'⟩ => k P H' zs h1 h2 o')
  obtain ⟨zs, hl, hp, o'⟩ := p
  have e0 : (0 : Int) + (i : Int) = (i : Int) := Int.zero_add _
  rw [e0]
  refine ⟨hw _, ?_⟩
  refine iteT (B := ∃ zs : List Str, zs.length = i + 1 ∧ (∀ z ∈ zs, Pz z) ∧ Own H0 H' ((P, .lst (zs.map V.str)) :: L)) (he i P _ H' _ hi o' fun z hz H4 s4 => ?_)
  have o4 := o'.mono s4
  refine ⟨zs.map V.str, o4.at 0 rfl, sz_lt (by rw [List.length_map]; omega), zs ++ [z], by rw [List.length_append, hl]; rfl, ?_, ?_⟩
  · intro x hx
    rcases List.mem_append.mp hx with hx | hx
    · exact hp x hx
    · rw [List.mem_singleton.mp hx]; exact hz
  · have o5 := o4.set (v := .lst (zs.map V.str ++ [V.str z])) 0 rfl
    rw [List.map_append]
    exact o5
end

/-- an object of the base, taken out -/
def delH (H : Hp) (l : Addr) : Hp := fun b => if b = l then none else H b
theorem delH_ne {H : Hp} {l b : Addr} (h : b ≠ l) : delH H l b = H b := if_neg h
theorem delH_same {H : Hp} {l : Addr} : delH H l l = none := if_pos rfl
theorem take_l {H : Hp} {l : Addr} {u : HO} (h : H l = some u) : Own (delH H l) H [(l, u)] := by
  refine ⟨fun b x e => ?_, fun x hx => ?_, by simp⟩
  · by_cases hb : b = l
    · subst hb
      rw [delH_same] at e
      cases e
    · rw [delH_ne hb] at e
      exact e
  · rw [List.mem_singleton.mp hx]
    exact ⟨delH_same, h⟩
theorem stp_frame {H H' : Hp} {p : Addr} {C dx : Addr} {fs : List (Str × V)} (hp : H p = some (.ins C dx fs)) (h : ∀ b u, b ≠ p → H b = some u → H' b = some u) : Stp H H' := fun a xs r => by
  have hne : a ≠ p := by
    rintro rfl
    rcases r with r | ⟨o, r⟩ <;> rw [hp] at r <;> cases r
  rcases r with r | ⟨o, r⟩
  · exact .inl (h _ _ hne r)
  · exact .inr ⟨o, h _ _ hne r⟩
theorem stp_frameL {H H' : Hp} {p : Addr} {xs : List V} (hp : H p = some (.lst xs)) (h : ∀ b u, b ≠ p → H b = some u → H' b = some u) : Stp H H' := fun a xs r => by
  have hne : a ≠ p := by
    rintro rfl
    rcases r with r | ⟨o, r⟩ <;> rw [hp] at r <;> cases r
  rcases r with r | ⟨o, r⟩
  · exact .inl (h _ _ hne r)
  · exact .inr ⟨o, h _ _ hne r⟩
theorem r_exts {H H0 : Hp} {Q : VK} {L : List (Addr × HO)} {l b : Addr} {xs zs : List V} (o : Own H0 H L) (n m : Nat) (h : L[n]? = some (l, .lst xs)) (h2 : L[m]? = some (b, .lst zs)) (hz : xs.length + zs.length ≤ 10000000) (k : ∀ H', Stp H H' → Own H0 H' (L.set n (l, .lst (xs ++ zs))) → Q .non H') : rExtend (.ref l) [.ref b] H Q :=
  ⟨l, b, xs, zs, rfl, rfl, o.at n h, o.at m h2, sz100 hz, k _ (Stp.set (o.at n h)) (o.set n h)⟩
/-- one more object of the base taken out -/
theorem _root_.RD.Own.take {H0 H : Hp} {L : List (Addr × HO)} {l : Addr} {u : HO} (o : Own H0 H L) (h : H0 l = some u) : Own (delH H0 l) H ((l, u) :: L) := by
  refine ⟨fun b x e => ?_, fun x hx => ?_, ?_⟩
  · by_cases hb : b = l
    · subst hb
      rw [delH_same] at e
      cases e
    · rw [delH_ne hb] at e
      exact o.ex _ _ e
  · rcases List.mem_cons.mp hx with rfl | hx
    · exact ⟨delH_same, o.ex _ _ h⟩
    · refine ⟨?_, (o.fr x hx).2⟩
      by_cases hb : x.1 = l
      · rw [hb]; exact delH_same
      · rw [delH_ne hb]; exact (o.fr x hx).1
  · rw [List.map_cons, List.nodup_cons]
    refine ⟨fun hm => ?_, o.nd⟩
    obtain ⟨x, hx, e⟩ := List.mem_map.mp hm
    have := (o.fr x hx).1
    rw [e, h] at this
    cases this
/-- a new object beside one that is changed -/
theorem Own.addF {H0 H H' : Hp} {L L' : List (Addr × HO)} {l : Addr} {z : HO} (o : Own H0 H L) (o' : Own H0 H' L') (e : L'.map (·.1) = L.map (·.1)) (hl : H l = none) (hz : H' l = some z) : Own H0 H' ((l, z) :: L') := by
  refine ⟨o'.ex, fun x hx => ?_, ?_⟩
  · rcases List.mem_cons.mp hx with rfl | hx
    · exact ⟨o.ex.free hl, hz⟩
    · exact o'.fr x hx
  · rw [List.map_cons, List.nodup_cons]
    refine ⟨fun hm => ?_, o'.nd⟩
    rw [e] at hm
    obtain ⟨x, hx, e1⟩ := List.mem_map.mp hm
    have h2 := (o.fr x hx).2
    have e2 : x.1 = l := e1
    rw [e2, hl] at h2
    cases h2
/-- some of the objects, in another order -/
theorem _root_.RD.Own.pick {H0 H : Hp} {L : List (Addr × HO)} (o : Own H0 H L) (is : List Nat) (hn : is.Nodup) : Own H0 H (is.filterMap fun i => L[i]?) := by
  refine ⟨o.ex, fun x hx => ?_, ?_⟩
  · obtain ⟨i, _, hi⟩ := List.mem_filterMap.mp hx
    exact o.fr x (List.mem_of_getElem? hi)
  · induction is with
    | nil => exact List.nodup_nil
    | cons i is ih =>
      rw [List.nodup_cons] at hn
      rw [List.filterMap_cons]
      cases e : L[i]? with
      | none => exact ih hn.2
      | some x =>
        show (x.1 :: (is.filterMap fun i => L[i]?).map (·.1)).Nodup
        rw [List.nodup_cons]
        refine ⟨fun hm => ?_, ih hn.2⟩
        obtain ⟨z, hz, ez⟩ := List.mem_map.mp hm
        obtain ⟨j, hj, hj2⟩ := List.mem_filterMap.mp hz
        have hij : i = j := by
          obtain ⟨x1, x2⟩ := x
          obtain ⟨z1, z2⟩ := z
          have ez : z1 = x1 := ez
          subst ez
          exact nodup_fst o.nd e hj2
        rw [hij] at hn
        exact hn.1 hj
/-- two objects are changed -/
theorem _root_.RD.Own.chg2 {H0 H H' : Hp} {L : List (Addr × HO)} {l m : Addr} {u v u' v' : HO} (o : Own H0 H L) (i j : Nat) (hi : L[i]? = some (l, u)) (hj : L[j]? = some (m, v)) (hij : i ≠ j) (e : ∀ b x, b ≠ l → b ≠ m → H b = some x → H' b = some x) (hl : H' l = some u') (hm : H' m = some v') : Own H0 H' ((L.set i (l, u')).set j (m, v')) := by
  have hne : l ≠ m := o.ne hi hj hij
  have o1 := o.set (v := u') i hi
  refine o1.chg (u := v) j ?_ (fun b x hb h => ?_) hm
  · rw [List.getElem?_set_ne hij]; exact hj
  · by_cases hbl : b = l
    · subst hbl
      rw [upd_same] at h
      cases h
      exact hl
    · rw [upd_ne hbl] at h
      exact e b x hbl hb h
/-- what is no tuple may change -/
def NoTup (H : Hp) (p : Addr) : Prop := ∀ xs, ¬ Rd H p (.tup xs)
theorem noTup_l {H : Hp} {p : Addr} {xs : List V} (h : H p = some (.lst xs)) : NoTup H p := fun ys r => by rcases r with r | ⟨o, r⟩ <;> rw [h] at r <;> cases r
theorem noTup_i {H : Hp} {p C dx : Addr} {fs : List (Str × V)} (h : H p = some (.ins C dx fs)) : NoTup H p := fun ys r => by rcases r with r | ⟨o, r⟩ <;> rw [h] at r <;> cases r
theorem stp_frame2 {H H' : Hp} {p q : Addr} (hp : NoTup H p) (hq : NoTup H q) (h : ∀ b u, b ≠ p → b ≠ q → H b = some u → H' b = some u) : Stp H H' := fun a xs r => by
  have h1 : a ≠ p := fun e => hp xs (e ▸ r)
  have h2 : a ≠ q := fun e => hq xs (e ▸ r)
  rcases r with r | ⟨o, r⟩
  · exact .inl (h _ _ h1 h2 r)
  · exact .inr ⟨o, h _ _ h1 h2 r⟩

/-! ### comprehensions over range whose values are ints, tuples standing -/
section
variable {σ : L2.St} {H H0 : Hp} {Q : VK} {te : TE} {j : Int} {L : List (Addr × HO)}
theorem lcRs {n s : Nat} {vs : List Nat} (f : Nat → Int) (o : Own H0 H L) (hn : j = (n : Int)) (hz : n < 10000000) (hw : ∀ x, wipe ((wipe σ vs).set s (some x)) vs = wipe σ vs)
    (he : ∀ (i : Nat) (p : Addr) (zs : List V) (H' : Hp) (Q : VK), i < n → Own H0 H' ((p, .lst zs) :: L) → Stp H H' → RetV H' Q (.int (f i)) → te ((wipe σ vs).set s (some (.int (i : Int)))) H' Q)
    (k : ∀ p H', Stp H H' → Own H0 H' ((p, .lst (((List.range n).map f).map V.int)) :: L) → Q (.ref p) H') :
    ∃ k : Int, [V.int j] = [.int k] ∧ -(2 ^ 62) ≤ k ∧ k < 2 ^ 62 ∧ RLc (Itr 0 k.toNat) (gName s) tYes te vs σ H Q := by
  refine lcGR (n := n) (fun i => some (.int (f i))) o hn hz hw (fun i p zs H' Q hi o' s' q => q H' (Same.refl _)) (fun i y p zs H' Q hi hy o' s' q => ?_) fun p H' s' o' => k p H' s' ?_
  · cases hy
    exact he i p zs H' Q hi o' s' q
  · rw [show (List.range n).filterMap (fun i => some (V.int (f i))) = (List.range n).map fun i => V.int (f i) from congrFun List.filterMap_eq_map _] at o'
    rw [List.map_map]
    exact o'
end
theorem gi_rng {n : Nat} {f : Nat → Int} {k : Nat} (h : k < n) : gi ((List.range n).map f) (k : Int) = f k := by
  refine gi_get ?_
  rw [List.getElem?_map, List.getElem?_range h]
  rfl

/-! ### drawn attributes -/
def valTx (cs : List Nat) : Prop := (∀ c ∈ cs, TxC c) ∧ cs.length ≤ 200
/-- a name that the law draws -/
def NmD (s : Str) : Prop := ∃ cs : List Nat, s = tx cs ∧ (∀ c ∈ cs, NmC c) ∧ 1 ≤ cs.length ∧ cs.length ≤ 12
/-- what the law draws as the value of an attribute -/
def AtV (d : PyData) : Prop := (∃ cs : List Nat, d = .str (tx cs) ∧ valTx cs) ∨ ∃ ns : List Int, d = .tuple (ns.map PyData.int) ∧ (∀ n ∈ ns, Z29 n) ∧ ns.length ≤ 50
theorem z29_pick (n : Nat) (R : Nat → Int → Prop) (h : ∀ k, k < n → ∃ z, R k z) : ∃ f : Nat → Int, ∀ k, k < n → R k (f k) := by
  refine ⟨fun k => if hk : k < n then Classical.choose (h k hk) else 0, fun k hk => ?_⟩
  simp only [dif_pos hk]
  exact Classical.choose_spec (h k hk)
section
variable {P : Program} {w : World} {K : PySem.W.Frag} {mg : Str → Option Value} {base : Heap}
def sp_law_attr (K : PySem.W.Frag) : Sp := fun vs H Q _ => ∃ (a : Addr) (dr : List Int) (i : Nat), vs = [.ref a, .int (i : Int)] ∧ SqL K H a (dr.map V.int) ∧ Dr dr ∧ 32 ≤ dr.length ∧ dr.length ≤ 1000 ∧ i ≤ 1000 ∧ ∀ (s : Str) (d : PyData), NmD s → AtV d → RetD K H Q (.tuple [.str s, d])
theorem d_law_attr (T : Top K mg) : Def P w K mg base CX0 3 "_law_attribute" ["draws", "at"] (sp_law_attr K) := by
  have G__law_name : Def P w K mg base CX0 2 "_law_name" ["draws", "at"] (sp_law_name K) := d_law_name T
  have G__law_text_of : Def P w K mg base CX0 2 "_law_text_of" ["draws", "at", "most"] (sp_text_of K) := d_text_of T
  have G__law_signed : Def P w K mg base CX0 2 "_law_signed" ["draws", "at"] (sp_signed K) := d_signed T
  refine T.f__law_attribute.ok sc__law_attribute (by rintro vs H Q E ⟨a, dr, i, rfl, _⟩; rfl) (fun f cdv A outer s H vs Q E hr h => ?_)
  obtain ⟨a, dr, i, rfl, hS, hd, hn, hl, hi, q⟩ := h
  refine ⟨_, (pss_cons (ps_set (i := 2) sc__law_attribute.nd rfl (Or.inl rfl) (pe_callD G__law_name (hr.mono (by decide)) (pa_cons (pv 0) (pa_cons (pv 1) pa_nil))))
      (pss_cons (ps_set (i := 3) sc__law_attribute.nd rfl (Or.inl rfl) (pe_op op_mod (pe_ix (r := rIxL K) ix_list (pv 0) (pe_op op_mod (pe_op op_add (pv 1) pe_int) (pe_callB (r := Evl.rLenS K) call_len_seq (by rfl) T.b_len (by decide +kernel) (pa_cons (pv 0) pa_nil))) (fun _ _ => rfl)) pe_int))
      (pss_cons (ps_if (pt_cmpR op_lt (pv 3) pe_int (nomark _)) (pss_one (ps_ret (pe_tup (pa_cons (pv 2) (pa_cons (pe_callD G__law_text_of (hr.mono (by decide)) (pa_cons (pv 0) (pa_cons (pe_op op_mod (pe_op op_add (pv 1) pe_int) (pe_callB (r := Evl.rLenS K) call_len_seq (by rfl) T.b_len (by decide +kernel) (pa_cons (pv 0) pa_nil))) (pa_cons (pe_ix (r := rIxL K) ix_list (pe_lst (pa_cons pe_int (pa_cons pe_int pa_nil))) (pv 3) (fun _ _ => rfl)) pa_nil)))) pa_nil))))) pss_nil)
      (pss_one (ps_ret (pe_tup (pa_cons (pv 2) (pa_cons (pe_callTy (r := rTupS K) call_tuple_of (by rfl) T.b_tuple (by decide +kernel) (pa_cons (pe_lc (own := [("k", 4)]) (g := (gName 4)) (tt := tYes) rfl sc__law_attribute.nd (pi_range1 (by rfl) T.b_range (pa_cons (pe_op op_mod (pe_ix (r := rIxL K) ix_list (pv 0) (pe_op op_mod (pe_op op_add (pv 1) pe_int) (pe_callB (r := Evl.rLenS K) call_len_seq (by rfl) T.b_len (by decide +kernel) (pa_cons (pv 0) pa_nil))) (fun _ _ => rfl)) (pe_ix (r := rIxL K) ix_list (pe_lst (pa_cons pe_int (pa_cons pe_int pa_nil))) (pe_op op_sub (pv 3) pe_int) (fun _ _ => rfl))) pa_nil)) (blkOk_by (N := N__law_attribute) (sc := defScope s__law_attribute) (by decide +kernel)) (fun _ _ _ _ _ => (pg_name (i := 4) sc__law_attribute.nd rfl (Or.inl rfl))) (fun _ _ _ _ _ => pts_nil) (fun _ _ _ _ _ => (pe_callD G__law_signed (hr.mono (by decide)) (pa_cons (pv 0) (pa_cons (pe_op op_mod (pe_op op_add (pe_op op_add (pv 1) pe_int) (pv 4)) (pe_op op_sub (pe_callB (r := Evl.rLenS K) call_len_seq (by rfl) T.b_len (by decide +kernel) (pa_cons (pv 0) pa_nil)) pe_int)) pa_nil))))) pa_nil)) pa_nil)))))))), ?_⟩
  have hlm := List.length_map (as := dr) V.int
  have hN : (0 : Int) < (dr.length : Int) := by omega
  walk_at "rd"
  refine ⟨a, dr, i, rfl, hS, hd, by omega, hl, hi, fun cs hcs h1 h12 => r_retvs (Own.nil H) fun H1 e1 o1 => ?_⟩
  have hnm : NmD (tx cs) := ⟨cs, rfl, hcs, h1, h12⟩
  have hS1 := o1.old hS
  have m2a := Int.emod_nonneg ((i : Int) + 2) (show (dr.length : Int) ≠ 0 by omega)
  have m2b := Int.emod_lt_of_pos ((i : Int) + 2) hN
  have m3a := Int.emod_nonneg ((i : Int) + 3) (show (dr.length : Int) ≠ 0 by omega)
  have m3b := Int.emod_lt_of_pos ((i : Int) + 3) hN
  have g2 := hd.gi m2a m2b
  have g3 := hd.gi m3a m3b
  walk_at "rd"
  rw [hlm]
  refine r_ixI hS1 m2a m2b ?_
  walk_at "rd"
  refine rif (fun hw => ?_) fun hw => ?_
  · walk_at "rd"
    rw [hlm]
    refine r_newL o1 (Nat.le_of_ble_eq_true rfl) fun p2 H2 o2 => ?_
    have hS2 := o2.old hS
    walk_at "rd"
    refine r_ixM (o2.sqL 0 rfl) (by omega) (show _ < (2 : Int) by omega) fun v hv _ => ?_
    obtain ⟨m, rfl, hm⟩ : ∃ m : Nat, v = .int m ∧ m ≤ 200 := by
      simp only [List.mem_cons, List.not_mem_nil, or_false] at hv
      rcases hv with rfl | rfl
      · exact ⟨5, rfl, by decide⟩
      · exact ⟨200, rfl, by decide⟩
    obtain ⟨j, hj⟩ := Int.eq_ofNat_of_zero_le m3a
    refine ⟨a, dr, j, m, by rw [hj]; rfl, hS2, hd, by omega, hl, by omega, fun ts hts htl => r_retvs o2 fun H3 e3 o3 => ?_⟩
    walk_at "rd"
    refine r_newTp (K := K) (ds := [.str _, .str _]) o3 (.cons (.str _) (.cons (.str _) .nil)) (Nat.le_of_ble_eq_true rfl) fun t H4 s4 o4 h4 => ?_
    exact (q (tx cs) (.str (tx ts)) hnm (.inl ⟨ts, rfl, hts, by omega⟩)).mk o4 h4
  · walk_at "rd"
    rw [hlm]
    refine r_ixI hS1 m3a m3b ?_
    walk_at "rd"
    refine r_newL o1 (Nat.le_of_ble_eq_true rfl) fun p2 H2 o2 => ?_
    have hS2 := o2.old hS
    walk_at "rd"
    refine r_ixM (o2.sqL 0 rfl) (by omega) (show _ < (2 : Int) by omega) fun v hv _ => ?_
    obtain ⟨m, rfl, hm1, hm2⟩ : ∃ m : Nat, v = .int m ∧ 1 ≤ m ∧ m ≤ 51 := by
      simp only [List.mem_cons, List.not_mem_nil, or_false] at hv
      rcases hv with rfl | rfl
      · exact ⟨4, rfl, by decide, by decide⟩
      · exact ⟨51, rfl, by decide, by decide⟩
    have mm1 := Int.emod_nonneg (gi dr (((i : Int) + 3) % (dr.length : Int))) (show (m : Int) ≠ 0 by omega)
    have mm2 := Int.emod_lt_of_pos (gi dr (((i : Int) + 3) % (dr.length : Int))) (show (0 : Int) < (m : Int) by omega)
    walk_at "rd"
    obtain ⟨n, hnn⟩ := Int.eq_ofNat_of_zero_le mm1
    rw [hnn]
    refine lcR1P (n := n) Z29 o2 rfl (by omega) (fun x => rfl) ?_ fun p3 H3 zs hzl hzs o3 => ?_
    · intro j p3 zs H' Q' hj o' q'
      have hS3 := o'.old hS
      have w0 : (0 : Int) < (dr.length : Int) - 12 := by omega
      have w1 := Int.emod_nonneg ((i : Int) + 4 + (j : Int)) (show (dr.length : Int) - 12 ≠ 0 by omega)
      have w2 := Int.emod_lt_of_pos ((i : Int) + 4 + (j : Int)) w0
      walk_at "rd"
      rw [hlm]
      obtain ⟨jj, hjj⟩ := Int.eq_ofNat_of_zero_le w1
      exact ⟨a, dr, jj, by rw [hjj]; rfl, hS3, hd, by omega, hl, q'⟩
    · walk_at "rd"
      refine r_tupLs o3 (o3.sqL 0 rfl) fun t H4 s4 o4 h4 => ?_
      walk_at "rd"
      refine r_newTp (K := K) (ds := [.str _, .tuple (zs.map PyData.int)]) o4 (.cons (.str _) (.cons (Tp.intsT h4) .nil)) (Nat.le_of_ble_eq_true rfl) fun t5 H5 s5 o5 h5 => ?_
      exact (q (tx cs) (.tuple (zs.map PyData.int)) hnm (.inr ⟨zs, rfl, hzs, by omega⟩)).mk o5 h5
end

def By (ns : List Int) : Prop := ∀ x ∈ ns, 0 ≤ x ∧ x < 256
theorem By.gi {ns : List Int} (d : By ns) {i : Int} (h0 : 0 ≤ i) (h1 : i < ns.length) : 0 ≤ gi ns i ∧ gi ns i < 256 := d _ (gi_mem h0 h1)
theorem By.app {ns ms : List Int} (d : By ns) (e : By ms) : By (ns ++ ms) := fun y hy => by
  rcases List.mem_append.mp hy with h | h
  · exact d y h
  · exact e y h

/-! ### the kinds -/
def KS : List Str := [PySem.Str.ofString "i1", PySem.Str.ofString "i2", PySem.Str.ofString "i4", PySem.Str.ofString "u1", PySem.Str.ofString "u2", PySem.Str.ofString "u4"]
def kW (z : Str) : Int := ((z.cps.getD 1 0 : Nat) : Int) - 48
def kU (z : Str) : Bool := z.cps.getD 0 0 == 117
def kC (z : Str) : Int := 256 ^ (kW z).toNat
def kLow (z : Str) : Int := if kU z then 0 else -(kC z / 2)
def kHigh (z : Str) : Int := kLow z + kC z - 1
theorem k_at1 : ∀ z ∈ KS, atI z.cps.toList 1 = some (z.cps.getD 1 0) := by decide +kernel
theorem k_at0 : ∀ z ∈ KS, atI z.cps.toList 0 = some (z.cps.getD 0 0) := by decide +kernel
theorem k_int : ∀ z ∈ KS, PySem.intText? ⟨#[z.cps.getD 1 0]⟩ = some (kW z) := by decide +kernel
theorem k_len : ∀ z ∈ KS, z.length = 2 := by decide +kernel
theorem k_w : ∀ z ∈ KS, 1 ≤ kW z ∧ kW z ≤ 4 := by decide +kernel
theorem k_w3 : ∀ z ∈ KS, kW z = 1 ∨ kW z = 2 ∨ kW z = 4 := by decide +kernel
theorem k_shl : ∀ z ∈ KS, 1 * (2 : Int) ^ (8 * kW z).toNat = kC z := by decide +kernel
theorem k_i : ∀ z ∈ KS, decide ((⟨#[z.cps.getD 0 0]⟩ : Str) = PySem.Str.ofString "i") = !kU z := by decide +kernel
theorem k_c : ∀ z ∈ KS, 256 ≤ kC z ∧ kC z ≤ 4294967296 := by decide +kernel
section
variable {P : Program} {w : World} {K : PySem.W.Frag} {mg : Str → Option Value} {base : Heap}
def sp_kI (g : Str → Int) : Sp := fun vs H Q _ => ∃ (z : Str), vs = [.str z] ∧ z ∈ KS ∧ Q (.int (g z)) H
end

/-! ### values as bytes -/
def digs : Nat → Int → List Int
  | 0, _ => []
  | w + 1, v => v % 256 :: digs w (v / 256)
def undig : List Int → Int
  | [] => 0
  | d :: ds => d + 256 * undig ds
theorem digs_len : ∀ (w : Nat) (v : Int), (digs w v).length = w
  | 0, _ => rfl
  | w + 1, v => by show (digs w (v / 256)).length + 1 = w + 1; rw [digs_len w]
theorem digs_by : ∀ (w : Nat) (v : Int), By (digs w v)
  | 0, _ => fun _ h => nomatch h
  | w + 1, v => fun x hx => by
    rcases List.mem_cons.mp hx with rfl | h
    · omega
    · exact digs_by w _ x h
theorem undig_digs : ∀ (w : Nat) (v : Int), 0 ≤ v → v < 256 ^ w → undig (digs w v) = v
  | 0, v, h0, h => by
    have : v < 1 := h
    show (0 : Int) = v
    omega
  | w + 1, v, h0, h => by
    have h1 : v / 256 < 256 ^ w := by rw [Int.pow_succ] at h; omega
    show v % 256 + 256 * undig (digs w (v / 256)) = v
    rw [undig_digs w (v / 256) (by omega) h1]
    omega
theorem undig_rng : ∀ (ds : List Int), By ds → 0 ≤ undig ds ∧ undig ds < 256 ^ ds.length
  | [], _ => ⟨by decide, by decide⟩
  | d :: ds, h => by
    obtain ⟨h1, h2⟩ := undig_rng ds fun x hx => h x (List.mem_cons_of_mem _ hx)
    have h3 := h d List.mem_cons_self
    show 0 ≤ d + 256 * undig ds ∧ d + 256 * undig ds < 256 ^ (ds.length + 1)
    rw [Int.pow_succ]
    omega
theorem digs_undig : ∀ (ds : List Int), By ds → digs ds.length (undig ds) = ds
  | [], _ => rfl
  | d :: ds, h => by
    have h3 := h d List.mem_cons_self
    have h4 := digs_undig ds fun x hx => h x (List.mem_cons_of_mem _ hx)
    show (d + 256 * undig ds) % 256 :: digs ds.length ((d + 256 * undig ds) / 256) = d :: ds
    rw [show (d + 256 * undig ds) % 256 = d by omega, show (d + 256 * undig ds) / 256 = undig ds by omega, h4]
def kN (z : Str) : Nat := (kW z).toNat
def encV (z : Str) (v : Int) : List Int := digs (kN z) (v % kC z)
def decV (z : Str) (ds : List Int) : Int := if kHigh z < undig ds then undig ds - kC z else undig ds
def stV (z : Str) (vs : List Int) : List Int := vs.flatMap (encV z)
def chk (w : Nat) (zs : List Int) (i : Nat) : List Int := (zs.drop (i * w)).take w
def ldV (z : Str) (zs : List Int) (n : Nat) : List Int := mapR n fun i => decV z (chk (kN z) zs i)
theorem k_abs : ∀ z ∈ KS, (kN z = 1 ∨ kN z = 2 ∨ kN z = 4) ∧ kC z = 256 ^ kN z ∧ (kC z = 256 ∨ kC z = 65536 ∨ kC z = 4294967296) ∧ (kLow z = 0 ∨ kLow z = -(kC z / 2)) ∧ kHigh z = kLow z + kC z - 1 ∧ kW z = (kN z : Nat) := by decide +kernel
theorem enc_len (z : Str) (v : Int) : (encV z v).length = kN z := digs_len _ _
theorem dec_enc {z : Str} {v : Int} (hz : z ∈ KS) (h0 : kLow z ≤ v) (h1 : v ≤ kHigh z) : decV z (encV z v) = v := by
  obtain ⟨_, h2, h3, h4, h5, _⟩ := k_abs z hz
  unfold decV encV
  have hu : undig (digs (kN z) (v % kC z)) = v % kC z := undig_digs _ _ (Int.emod_nonneg _ (by omega)) (by rw [← h2]; exact Int.emod_lt_of_pos _ (by omega))
  rw [hu]
  rcases h3 with h3 | h3 | h3 <;> rcases h4 with h4 | h4 <;> rw [h3] <;> split <;> omega
theorem enc_dec {z : Str} {ds : List Int} (hz : z ∈ KS) (hb : By ds) (hl : ds.length = kN z) : encV z (decV z ds) = ds := by
  obtain ⟨_, h2, h3, h4, h5, _⟩ := k_abs z hz
  obtain ⟨h6, h7⟩ := undig_rng ds hb
  rw [hl, ← h2] at h7
  have he : decV z ds % kC z = undig ds := by
    unfold decV
    rcases h3 with h3 | h3 | h3 <;> rw [h3] <;> split <;> omega
  unfold encV
  rw [he, ← hl]
  exact digs_undig ds hb
theorem dec_rng {z : Str} {ds : List Int} (hz : z ∈ KS) (hb : By ds) (hl : ds.length = kN z) : kLow z ≤ decV z ds ∧ decV z ds ≤ kHigh z := by
  obtain ⟨_, h2, h3, h4, h5, _⟩ := k_abs z hz
  obtain ⟨h6, h7⟩ := undig_rng ds hb
  rw [hl, ← h2] at h7
  unfold decV
  rcases h3 with h3 | h3 | h3 <;> rcases h4 with h4 | h4 <;> split <;> omega
theorem st_len (z : Str) : ∀ vs : List Int, (stV z vs).length = vs.length * kN z
  | [] => by show 0 = 0 * _; omega
  | v :: vs => by
    show (encV z v ++ stV z vs).length = (vs.length + 1) * kN z
    rw [List.length_append, enc_len, st_len z vs, Nat.add_mul]
    omega
theorem st_by (z : Str) : ∀ vs : List Int, By (stV z vs)
  | [] => fun _ h => nomatch h
  | v :: vs => By.app (digs_by _ _) (st_by z vs)
theorem st_snoc (z : Str) (vs : List Int) (v : Int) : stV z (vs ++ [v]) = stV z vs ++ encV z v := by unfold stV; rw [List.flatMap_append]; simp
theorem chk_st (z : Str) : ∀ (vs : List Int) (i : Nat) (h : i < vs.length), chk (kN z) (stV z vs) i = encV z vs[i]
  | v :: vs, 0, _ => by
    show ((encV z v ++ stV z vs).drop (0 * kN z)).take (kN z) = encV z v
    rw [Nat.zero_mul, List.drop_zero, List.take_left' (enc_len z v)]
  | v :: vs, i + 1, h => by
    have ih := chk_st z vs i (Nat.lt_of_succ_lt_succ h)
    show ((encV z v ++ stV z vs).drop ((i + 1) * kN z)).take (kN z) = encV z (vs[i]'(Nat.lt_of_succ_lt_succ h))
    rw [← ih, show (i + 1) * kN z = (encV z v).length + i * kN z by rw [enc_len, Nat.add_mul]; omega, ← List.drop_drop, List.drop_left]
    rfl
theorem ld_st {z : Str} {vs : List Int} (hz : z ∈ KS) (hr : ∀ v ∈ vs, kLow z ≤ v ∧ v ≤ kHigh z) : ldV z (stV z vs) vs.length = vs := by
  apply List.ext_getElem
  · exact mapR_len _ _
  · intro i h1 h2
    have e : (ldV z (stV z vs) vs.length)[i]? = some (decV z (chk (kN z) (stV z vs) i)) := mapR_get h2
    rw [List.getElem?_eq_getElem h1] at e
    rw [Option.some.inj e, chk_st z vs i h2]
    have := hr vs[i] (List.getElem_mem h2)
    exact dec_enc hz this.1 this.2
theorem chk_flat (w : Nat) : ∀ (n : Nat) (zs : List Int), zs.length = n * w → (List.range n).flatMap (chk w zs) = zs
  | 0, zs, h => by
    have : zs = [] := List.length_eq_zero_iff.mp (by omega)
    rw [this]
    rfl
  | n + 1, zs, h => by
    have h1 : zs.length = n * w + w := by rw [h, Nat.add_mul, Nat.one_mul]
    have ih := chk_flat w n (zs.drop w) (by rw [List.length_drop]; omega)
    rw [List.range_succ_eq_map, List.flatMap_cons, List.flatMap_map]
    have e : (fun i => chk w zs (i + 1)) = chk w (zs.drop w) := by
      funext i
      unfold chk
      rw [List.drop_drop, show (i + 1) * w = w + i * w by rw [Nat.add_mul]; omega]
    show chk w zs 0 ++ (List.range n).flatMap (fun i => chk w zs (i + 1)) = zs
    rw [e, ih]
    unfold chk
    rw [Nat.zero_mul, List.drop_zero, List.take_append_drop]
theorem chk_len {w n i : Nat} {zs : List Int} (h : zs.length = n * w) (hi : i < n) : (chk w zs i).length = w := by
  unfold chk
  have : i * w + w ≤ n * w := by rw [← Nat.succ_mul]; exact Nat.mul_le_mul_right _ hi
  rw [List.length_take, List.length_drop]
  omega
theorem chk_by {w i : Nat} {zs : List Int} (hb : By zs) : By (chk w zs i) := fun x hx => hb x (List.mem_of_mem_drop (List.mem_of_mem_take hx))
theorem st_ld {z : Str} {zs : List Int} {n : Nat} (hz : z ∈ KS) (hb : By zs) (hl : zs.length = n * kN z) : stV z (ldV z zs n) = zs := by
  have e : stV z (ldV z zs n) = (List.range n).flatMap (chk (kN z) zs) := by
    unfold stV ldV mapR
    rw [List.flatMap_map, List.flatMap_def, List.flatMap_def]
    congr 1
    apply List.map_congr_left
    intro i hi
    exact enc_dec hz (chk_by hb) (chk_len hl (List.mem_range.mp hi))
  rw [e, chk_flat _ _ _ hl]
theorem ld_len (z : Str) (zs : List Int) (n : Nat) : (ldV z zs n).length = n := mapR_len _ _
theorem ld_rng {z : Str} {zs : List Int} {n : Nat} (hz : z ∈ KS) (hb : By zs) (hl : zs.length = n * kN z) : ∀ v ∈ ldV z zs n, kLow z ≤ v ∧ v ≤ kHigh z := by
  intro v hv
  obtain ⟨i, hi, rfl⟩ := mapR_mem hv
  exact dec_rng hz (chk_by hb) (chk_len hl hi)
theorem take_snoc {ns : List Int} {i : Nat} {v : Int} (h : ns[i]? = some v) : ns.take (i + 1) = ns.take i ++ [v] := by rw [List.take_add_one, h]; rfl
theorem ud_step {zs : List Int} {m j : Nat} (h : m < zs.length) : undig ((zs.drop m).take (j + 1)) = gi zs (m : Int) + 256 * undig ((zs.drop (m + 1)).take j) := by
  rw [gi_nat h, List.drop_eq_getElem_cons h]
  rfl
theorem ud_bnd {zs : List Int} {m j : Nat} (hb : By zs) (hj : j ≤ 4) : 0 ≤ undig ((zs.drop m).take j) ∧ undig ((zs.drop m).take j) < 4294967296 := by
  have h := undig_rng ((zs.drop m).take j) fun x hx => hb x (List.mem_of_mem_drop (List.mem_of_mem_take hx))
  have h2 : ((zs.drop m).take j).length ≤ 4 := by rw [List.length_take]; omega
  refine ⟨h.1, ?_⟩
  revert h h2
  generalize ((zs.drop m).take j).length = l
  generalize undig ((zs.drop m).take j) = u
  intro h h2
  have : l = 0 ∨ l = 1 ∨ l = 2 ∨ l = 3 ∨ l = 4 := by omega
  rcases this with rfl | rfl | rfl | rfl | rfl <;> have := h.2 <;> omega
theorem ld_snoc (z : Str) (zs : List Int) (i : Nat) : ldV z zs (i + 1) = ldV z zs i ++ [decV z (chk (kN z) zs i)] := by
  unfold ldV mapR
  rw [List.range_succ, List.map_append]
  rfl

section
variable {P : Program} {w : World} {K : PySem.W.Frag} {mg : Str → Option Value} {base : Heap}
theorem rgc_mul {n wd : Nat} (hw : wd = 1 ∨ wd = 2 ∨ wd = 4) (hn : n ≤ 1000000) : RgC 0 ((n * wd : Nat) : Int) (wd : Int) n := by
  have e : PySem.Builtin.Range.rangeSize 0 ((n * wd : Nat) : Int) (wd : Int) = n := by
    unfold PySem.Builtin.Range.rangeSize
    rcases hw with rfl | rfl | rfl <;> rw [if_pos (by decide)] <;> split <;> omega
  refine ⟨by rcases hw with rfl | rfl | rfl <;> decide, by rcases hw with rfl | rfl | rfl <;> decide, ?_, e⟩
  unfold PySem.Builtin.Range.small
  rw [e]
  have hnw : n * wd ≤ 4000000 := by rcases hw with rfl | rfl | rfl <;> omega
  have hwd : wd ≤ 4 := by rcases hw with rfl | rfl | rfl <;> decide
  have hpos : (wd : Int) > 0 := by rcases hw with rfl | rfl | rfl <;> decide
  have fitsL : ∀ {x : Int}, -(2 ^ 62) ≤ x ∧ x < 2 ^ 62 → PySem.Builtin.Range.rangeFitsLong x = true := by
    intro x h
    unfold PySem.Builtin.Range.rangeFitsLong
    simp
    omega
  rw [if_pos hpos]
  generalize n * wd = m at *
  simp only [fitsL (show -(2 ^ 62) ≤ (0 : Int) ∧ (0 : Int) < 2 ^ 62 by omega), fitsL (show -(2 ^ 62) ≤ (m : Int) ∧ (m : Int) < 2 ^ 62 by omega), fitsL (show -(2 ^ 62) ≤ (wd : Int) ∧ (wd : Int) < 2 ^ 62 by omega), fitsL (show -(2 ^ 62) ≤ ((n : Nat) : Int) ∧ ((n : Nat) : Int) < 2 ^ 62 by omega), fitsL (show -(2 ^ 62) ≤ (m : Int) + ((wd : Int) - 1) ∧ (m : Int) + ((wd : Int) - 1) < 2 ^ 62 by omega)]
  simp
/-- a dict of texts and values, and what it holds -/
theorem r_disp {H0 H : Hp} {L : List (Addr × HO)} {trs : List (TE × TE)} {σ : L2.St} {Q : VK} (kvs : List (Key × V)) (o : Own H0 H L) (h : ∀ (H2 : Hp) (R : List (V × V) → Hp → Prop), R (kvs.map fun kv => (kV kv.1, kv.2)) H2 → tPairs trs σ H2 R) (hz : kvs.length ≤ 15)
    (k : ∀ p H', Own H0 H' ((p, .dK (mergeK [] kvs)) :: L) → Q (.ref p) H') : tDisp trs σ H Q := by
  intro p hp
  refine h _ _ ⟨by unfold upd; rw [if_pos rfl], kvs, rfl, hz, ?_⟩
  have e : upd (upd H p (.dK [])) p (.dK (mergeK [] kvs)) = upd H p (.dK (mergeK [] kvs)) := by
    funext b
    unfold upd
    split <;> rfl
  rw [e]
  exact k p _ (o.new hp)
theorem r_pp {tk tv : TE} {r : List (TE × TE)} {σ : L2.St} {H : Hp} {Q : List (V × V) → Hp → Prop} (q : tk σ H fun x H1 => tv σ H1 fun y H2 => tPairs r σ H2 fun ps H3 => Q ((x, y) :: ps) H3) : tPairs ((tk, tv) :: r) σ H Q := q
theorem r_pn {σ : L2.St} {H : Hp} {Q : List (V × V) → Hp → Prop} (q : Q [] H) : tPairs [] σ H Q := q
theorem r_dget {td ty : TE} {σ : L2.St} {H : Hp} {Q : VK} (q : td σ H fun x H1 => ty σ H1 fun y H2 => ∃ a v, x = .ref a ∧ DGet H2 a y (some v) ∧ Q v H2) : tDGet td ty σ H Q := q
def kvI (xs : List (Str × Int)) : List (Key × V) := xs.map fun p => (.inr p.1, .int p.2)
def LOWS : List (Str × Int) := [(PySem.Str.ofString "i1", -128), (PySem.Str.ofString "i2", -32768), (PySem.Str.ofString "i4", -2147483648), (PySem.Str.ofString "u1", 0), (PySem.Str.ofString "u2", 0), (PySem.Str.ofString "u4", 0)]
def HIGHS : List (Str × Int) := [(PySem.Str.ofString "i1", 127), (PySem.Str.ofString "i2", 32767), (PySem.Str.ofString "i4", 2147483647), (PySem.Str.ofString "u1", 255), (PySem.Str.ofString "u2", 65535), (PySem.Str.ofString "u4", 4294967295)]
theorem low_get {z : Str} (hz : z ∈ KS) : valV (mergeK [] (kvI LOWS)) (.inr z) = some (.int (kLow z)) := by
  simp only [KS, List.mem_cons, List.not_mem_nil, or_false] at hz
  rcases hz with rfl | rfl | rfl | rfl | rfl | rfl
  · exact congrArg (fun x : Int => some (V.int x)) (show (-128 : Int) = kLow _ by decide +kernel)
  · exact congrArg (fun x : Int => some (V.int x)) (show (-32768 : Int) = kLow _ by decide +kernel)
  · exact congrArg (fun x : Int => some (V.int x)) (show (-2147483648 : Int) = kLow _ by decide +kernel)
  · exact congrArg (fun x : Int => some (V.int x)) (show (0 : Int) = kLow _ by decide +kernel)
  · exact congrArg (fun x : Int => some (V.int x)) (show (0 : Int) = kLow _ by decide +kernel)
  · exact congrArg (fun x : Int => some (V.int x)) (show (0 : Int) = kLow _ by decide +kernel)
theorem high_get {z : Str} (hz : z ∈ KS) : valV (mergeK [] (kvI HIGHS)) (.inr z) = some (.int (kHigh z)) := by
  simp only [KS, List.mem_cons, List.not_mem_nil, or_false] at hz
  rcases hz with rfl | rfl | rfl | rfl | rfl | rfl
  · exact congrArg (fun x : Int => some (V.int x)) (show (127 : Int) = kHigh _ by decide +kernel)
  · exact congrArg (fun x : Int => some (V.int x)) (show (32767 : Int) = kHigh _ by decide +kernel)
  · exact congrArg (fun x : Int => some (V.int x)) (show (2147483647 : Int) = kHigh _ by decide +kernel)
  · exact congrArg (fun x : Int => some (V.int x)) (show (255 : Int) = kHigh _ by decide +kernel)
  · exact congrArg (fun x : Int => some (V.int x)) (show (65535 : Int) = kHigh _ by decide +kernel)
  · exact congrArg (fun x : Int => some (V.int x)) (show (4294967295 : Int) = kHigh _ by decide +kernel)
def sp_kV (g : Str → Int) : Sp := fun vs H Q _ => ∃ (z : Str), vs = [.str z] ∧ z ∈ KS ∧ RetV H Q (.int (g z))
theorem d_low (T : Top K mg) : Def P w K mg base CX0 1 "_law_low" ["kind"] (sp_kV kLow) := by
  refine T.f__law_low.ok sc__law_low (by rintro vs H Q E ⟨z, rfl, _⟩; rfl) (fun f cdv A outer s H vs Q E hr h => ?_)
  obtain ⟨z, rfl, hz, q⟩ := h
  refine ⟨_, (pss_one (ps_ret (pe_dget (Nat.lt_of_le_of_lt (Nat.add_le_add_left (by decide) _) hr.units) (pe_disp (pps_cons pe_str (pe_un un_neg pe_int) (pps_cons pe_str (pe_un un_neg pe_int) (pps_cons pe_str (pe_un un_neg pe_int) (pps_cons pe_str pe_int (pps_cons pe_str pe_int (pps_cons pe_str pe_int pps_nil)))))) (by rfl) (by rfl) (fun z => by cases z) (by decide)) (pv 0) (fun _ _ => rfl)))), ?_⟩
  walk_at "rd"
  refine r_dget ?_
  refine r_disp (kvI LOWS) (Own.nil H) ?h (by decide) fun p1 H1 o1 => ?_
  case h =>
    intro _ _ r
    repeat (refine r_pp ?_; walk_at "rd")
    exact r_pn r
  walk_at "rd"
  exact ⟨_, _, rfl, .inl ⟨_, .inr z, .inl (o1.at 0 rfl), rfl, (low_get hz).symm⟩, q.mk o1⟩
theorem d_high (T : Top K mg) : Def P w K mg base CX0 1 "_law_high" ["kind"] (sp_kV kHigh) := by
  refine T.f__law_high.ok sc__law_high (by rintro vs H Q E ⟨z, rfl, _⟩; rfl) (fun f cdv A outer s H vs Q E hr h => ?_)
  obtain ⟨z, rfl, hz, q⟩ := h
  refine ⟨_, (pss_one (ps_ret (pe_dget (Nat.lt_of_le_of_lt (Nat.add_le_add_left (by decide) _) hr.units) (pe_disp (pps_cons pe_str pe_int (pps_cons pe_str pe_int (pps_cons pe_str pe_int (pps_cons pe_str pe_int (pps_cons pe_str pe_int (pps_cons pe_str pe_int pps_nil)))))) (by rfl) (by rfl) (fun z => by cases z) (by decide)) (pv 0) (fun _ _ => rfl)))), ?_⟩
  walk_at "rd"
  refine r_dget ?_
  refine r_disp (kvI HIGHS) (Own.nil H) ?h (by decide) fun p1 H1 o1 => ?_
  case h =>
    intro _ _ r
    repeat (refine r_pp ?_; walk_at "rd")
    exact r_pn r
  walk_at "rd"
  exact ⟨_, _, rfl, .inl ⟨_, .inr z, .inl (o1.at 0 rfl), rfl, (high_get hz).symm⟩, q.mk o1⟩
def valF (z : Str) (d : Int) : Int := if d % 6 = 0 then kLow z else if d % 6 = 1 then kHigh z else if d % 6 = 2 then (if (if d / 6 % 5 - 2 < kHigh z then d / 6 % 5 - 2 else kHigh z) > kLow z then (if d / 6 % 5 - 2 < kHigh z then d / 6 % 5 - 2 else kHigh z) else kLow z) else kLow z + (d * d * 7919 + d * 31) % (kHigh z - kLow z + 1)
theorem valF_rng {z : Str} (hz : z ∈ KS) (d : Int) : kLow z ≤ valF z d ∧ valF z d ≤ kHigh z := by
  obtain ⟨_, _, h3, h4, h5, _⟩ := k_abs z hz
  have e1 := Int.emod_nonneg (d * d * 7919 + d * 31) (show kHigh z - kLow z + 1 ≠ 0 by omega)
  have e2 := Int.emod_lt_of_pos (d * d * 7919 + d * 31) (show 0 < kHigh z - kLow z + 1 by omega)
  unfold valF
  split
  · omega
  split
  · omega
  split
  · split <;> split <;> omega
  · omega
def sp_kval : Sp := fun vs H Q _ => ∃ (z : Str) (d : Int), vs = [.str z, .int d] ∧ z ∈ KS ∧ 0 ≤ d ∧ d ≤ 5000 ∧ RetV H Q (.int (valF z d))
theorem d_value (T : Top K mg) : Def P w K mg base CX0 2 "_law_value" ["kind", "draw"] sp_kval := by
  have G__law_low : Def P w K mg base CX0 1 "_law_low" ["kind"] (sp_kV kLow) := d_low T
  have G__law_high : Def P w K mg base CX0 1 "_law_high" ["kind"] (sp_kV kHigh) := d_high T
  refine T.f__law_value.ok sc__law_value (by rintro vs H Q E ⟨z, d, rfl, _⟩; rfl) (fun f cdv A outer s H vs Q E hr h => ?_)
  obtain ⟨z, d, rfl, hz, h0, h1, q⟩ := h
  obtain ⟨_, _, h3, h4, h5, _⟩ := k_abs z hz
  refine ⟨_, (pss_cons (ps_set (i := 2) sc__law_value.nd rfl (Or.inl rfl) (pe_callD G__law_low (hr.mono (by decide)) (pa_cons (pv 0) pa_nil)))
      (pss_cons (ps_set (i := 3) sc__law_value.nd rfl (Or.inl rfl) (pe_callD G__law_high (hr.mono (by decide)) (pa_cons (pv 0) pa_nil)))
      (pss_cons (ps_set (i := 4) sc__law_value.nd rfl (Or.inl rfl) (pe_op op_mod (pv 1) pe_int))
      (pss_cons (ps_if (pt_cmpR op_eq (pv 4) pe_int (nomark _)) (pss_one (ps_ret (pv 2))) pss_nil)
      (pss_cons (ps_if (pt_cmpR op_eq (pv 4) pe_int (nomark _)) (pss_one (ps_ret (pv 3))) pss_nil)
      (pss_cons (ps_if (pt_cmpR op_eq (pv 4) pe_int (nomark _)) (pss_one (ps_ret (pe_callB (r := rMax2) (call_max2 rfl) (by rfl) T.b_max (by decide +kernel) (pa_cons (pv 2) (pa_cons (pe_callB (r := rMin2) (call_min2 rfl) (by rfl) T.b_min (by decide +kernel) (pa_cons (pv 3) (pa_cons (pe_op op_sub (pe_op op_mod (pe_op op_fdiv (pv 1) pe_int) pe_int) pe_int) pa_nil))) pa_nil))))) pss_nil)
      (pss_one (ps_ret (pe_op op_add (pv 2) (pe_op op_mod (pe_callTy (r := rInt1) call_int1 (by rfl) T.b_int (by decide +kernel) (pa_cons (pe_op op_add (pe_op op_mul (pe_op op_mul (pv 1) (pv 1)) pe_int) (pe_op op_mul (pv 1) pe_int)) pa_nil)) (pe_op op_add (pe_op op_sub (pv 3) (pv 2)) pe_int))))))))))), ?_⟩
  walk_at "rd"
  refine ⟨_, rfl, hz, fun H1 s1 => ?_⟩
  walk_at "rd"
  refine ⟨_, rfl, hz, fun H2 s2 => ?_⟩
  have s12 := s1.trans s2
  walk_at "rd"
  unfold valF at q
  refine rif (fun h => ?_) fun h => ?_
  · rw [if_pos h] at q
    walk_at "rd"
    exact q _ s12
  rw [if_neg h] at q
  walk_at "rd"
  refine rif (fun h => ?_) fun h => ?_
  · rw [if_pos h] at q
    walk_at "rd"
    exact q _ s12
  rw [if_neg h] at q
  walk_at "rd"
  refine rif (fun h => ?_) fun h => ?_
  · rw [if_pos h] at q
    walk_at "rd"
    exact q _ s12
  rw [if_neg h] at q
  walk_at "rd"
  exact q _ s12
def sp_kkind : Sp := fun vs H Q _ => ∃ (d : Int), vs = [.int d] ∧ 0 ≤ d ∧ ∀ z ∈ KS, RetV H Q (.str z)
theorem d_kind (T : Top K mg) : Def P w K mg base CX0 1 "_law_kind" ["draw"] sp_kkind := by
  refine T.f__law_kind.ok sc__law_kind (by rintro vs H Q E ⟨d, rfl, _⟩; rfl) (fun f cdv A outer s H vs Q E hr h => ?_)
  obtain ⟨d, rfl, h0, q⟩ := h
  refine ⟨_, (pss_one (ps_ret (pe_ix (r := rIxL K) ix_list (pe_lst (pa_cons pe_str (pa_cons pe_str (pa_cons pe_str (pa_cons pe_str (pa_cons pe_str (pa_cons pe_str pa_nil))))))) (pe_op op_mod (pv 0) pe_int) (fun _ _ => rfl)))), ?_⟩
  walk_at "rd"
  refine r_newL (Own.nil H) (Nat.le_of_ble_eq_true rfl) fun p1 H1 o1 => ?_
  walk_at "rd"
  refine r_ixS (zs := KS) (o1.sqL 0 rfl) (by omega) (show _ < (6 : Int) by omega) fun z hz e => ?_
  exact (q z hz).mk o1
end

/-! ### selections -/
inductive Sel where
  | pts (ps : List (List Int))
  | box (rs : List (Int × Int × Int))
def tupI (p : List Int) : PyData := .tuple (p.map PyData.int)
def triI (r : Int × Int × Int) : PyData := .tuple [.int r.1, .int r.2.1, .int r.2.2]
def Sel.d : Sel → PyData
  | .pts ps => .tuple [.str (PySem.Str.ofString "points"), .tuple (ps.map tupI)]
  | .box rs => .tuple [.str (PySem.Str.ofString "box"), .tuple (rs.map triI)]
def isIdx (sh ix : List Int) : Bool := decide (ix.length = sh.length) && (ix.zip sh).all fun p => decide (0 ≤ p.1) && decide (p.1 < p.2)
def prodL (ns : List Int) : Int := ns.foldl (· * ·) 1
def rLast (r : Int × Int × Int) : Int := r.1 + r.2.1 * (r.2.2 - 1)
def rOk (r : Int × Int × Int) : Bool := decide (0 ≤ r.1) && decide (1 ≤ r.2.1) && decide (0 ≤ r.2.2)
def boxFits (sh : List Int) (rs : List (Int × Int × Int)) : Bool :=
  decide (rs.length = sh.length) && rs.all rOk && (rs.any (fun r => decide (r.2.2 = 0)) || ((rs.map rLast).zip sh).all fun p => decide (p.1 < p.2))
def Sel.fits (sh : List Int) : Sel → Bool
  | .pts ps => ps.all (isIdx sh)
  | .box rs => boxFits sh rs
def Sel.size : Sel → Int
  | .pts ps => ps.length
  | .box rs => prodL (rs.map (·.2.2))
def Sel.len : Sel → Nat
  | .pts ps => ps.length
  | .box rs => rs.length
/-- the sizes of what is passed -/
def Sel.ok : Sel → Prop
  | .pts ps => ps.length ≤ 200000 ∧ ∀ p ∈ ps, p.length ≤ 1000
  | .box rs => rs.length ≤ 1000 ∧ ∀ r ∈ rs, -1000000000000000000 ≤ r.2.1 ∧ r.2.1 ≤ 1000000000000000000
theorem prodL_take {ns : List Int} {i : Nat} {x : Int} (h : ns[i]? = some x) : prodL (ns.take (i + 1)) = prodL (ns.take i) * x := by
  unfold prodL
  rw [List.take_add_one, h, List.foldl_append]
  rfl
theorem int_atT {ns : List Int} {i : Nat} {v : V} (h : (ns.map V.int)[i]? = some v) : ∃ x, ns[i]? = some x ∧ v = .int x := by
  rw [List.getElem?_map] at h
  cases e : ns[i]? with
  | none => rw [e] at h; cases h
  | some x => rw [e] at h; cases h; exact ⟨x, rfl, rfl⟩
theorem zip_get {α β : Type} {xs : List α} {ys : List β} {i : Nat} {x : α} {y : β} (h : xs[i]? = some x) (h2 : ys[i]? = some y) : (xs.zip ys)[i]? = some (x, y) := List.getElem?_zip_eq_some.mpr ⟨h, h2⟩
/-- the answers of a zip's turns -/
theorem zip_map {α β γ : Type} {xs : List α} {ys : List β} {n : Nat} (hn : n = min xs.length ys.length) (g : Nat → γ) (f : α × β → γ) (h : ∀ i x y, xs[i]? = some x → ys[i]? = some y → g i = f (x, y)) : (List.range n).map g = (xs.zip ys).map f := by
  subst hn
  have e : min xs.length ys.length = (xs.zip ys).length := by rw [List.length_zip]
  rw [e]
  refine range_map_get (xs.zip ys) f g fun i p hp => ?_
  obtain ⟨h1, h2⟩ := List.getElem?_zip_eq_some.mp hp
  exact h i _ _ h1 h2
theorem same_seqL' {K : PySem.W.Frag} {H H' : Hp} {l : Addr} {xs : List V} (e : Same H H') (h : SqL K H l xs) : SqL K H' l xs := e.seq h
section
variable {P : Program} {w : World} {K : PySem.W.Frag} {mg : Str → Option Value} {base : Heap}
theorem sel_inv {H : Hp} {v : V} {s : Str} {ds : List PyData} (h : Tp K H v (.tuple [.str s, .tuple ds])) : ∃ a c ws, v = .ref a ∧ SqT K H a [.str s, .ref c] ∧ SqT K H c ws ∧ TpAll K H ws ds := by
  obtain ⟨a, xs, rfl, hs, ha⟩ := h.inv
  cases ha with
  | cons h1 h2 =>
    cases h2 with
    | cons h3 h4 =>
      cases h4
      cases h1
      obtain ⟨c, ws, rfl, hc, hw⟩ := h3.inv
      exact ⟨a, c, ws, rfl, hs, hc, hw⟩
theorem tri_inv {H : Hp} {v : V} {r : Int × Int × Int} (h : Tp K H v (triI r)) : ∃ a, v = .ref a ∧ SqT K H a [.int r.1, .int r.2.1, .int r.2.2] := by
  obtain ⟨a, xs, rfl, hs, ha⟩ := h.inv
  have e := TpAll.ints_inv (ns := [r.1, r.2.1, r.2.2]) ha
  subst e
  exact ⟨a, rfl, hs⟩
theorem tri_at {H : Hp} {ws : List V} {rs : List (Int × Int × Int)} {i : Nat} {v : V} (h : TpAll K H ws (rs.map triI)) (hv : ws[i]? = some v) : ∃ r a, rs[i]? = some r ∧ v = .ref a ∧ SqT K H a [.int r.1, .int r.2.1, .int r.2.2] := by
  obtain ⟨d, hd, t⟩ := h.getV hv
  rw [List.getElem?_map] at hd
  cases e : rs[i]? with
  | none => rw [e] at hd; cases hd
  | some r =>
    rw [e] at hd
    cases hd
    obtain ⟨a, rfl, hs⟩ := tri_inv t
    exact ⟨r, a, rfl, rfl, hs⟩
theorem pt_at {H : Hp} {ws : List V} {ps : List (List Int)} {i : Nat} {v : V} (h : TpAll K H ws (ps.map tupI)) (hv : ws[i]? = some v) : ∃ r a, ps[i]? = some r ∧ v = .ref a ∧ SqT K H a (r.map V.int) := by
  obtain ⟨d, hd, t⟩ := h.getV hv
  rw [List.getElem?_map] at hd
  cases e : ps[i]? with
  | none => rw [e] at hd; cases hd
  | some r =>
    rw [e] at hd
    cases hd
    obtain ⟨a, rfl, hs⟩ := Tp.invI (ns := r) t
    exact ⟨r, a, rfl, rfl, hs⟩
end

section
variable {P : Program} {w : World} {K : PySem.W.Frag} {mg : Str → Option Value} {base : Heap}
def sp_law_shape (K : PySem.W.Frag) : Sp := fun vs H Q _ => ∃ (a : Addr) (dr : List Int) (i m : Nat), vs = [.ref a, .int i, .int m] ∧ SqL K H a (dr.map V.int) ∧ Dr dr ∧ i + 3 < dr.length ∧ m ≤ 1000000 ∧ ∀ sh : List Int, sh.length ≤ 3 → (∀ z ∈ sh, 0 ≤ z ∧ z ≤ m) → RetD K H Q (tupI sh)
theorem d_law_shape (T : Top K mg) : Def P w K mg base CX0 1 "_law_shape" ["draws", "at", "most"] (sp_law_shape K) := by
  refine T.f__law_shape.ok sc__law_shape (by rintro vs H Q E ⟨a, dr, i, m, rfl, _⟩; rfl) (fun f cdv A outer s H vs Q E hr h => ?_)
  obtain ⟨a, dr, i, m, rfl, ha, hd, hi, hm, q⟩ := h
  refine ⟨_, (pss_one (ps_ret (pe_callTy (r := rTupS K) call_tuple_of (by rfl) T.b_tuple (by decide +kernel) (pa_cons (pe_lc (own := [("k", 3)]) (g := (gName 3)) (tt := tYes) rfl sc__law_shape.nd (pi_range1 (by rfl) T.b_range (pa_cons (pe_ix (r := rIxL K) ix_list (pe_lst (pa_cons pe_int (pa_cons pe_int (pa_cons pe_int (pa_cons pe_int (pa_cons pe_int (pa_cons pe_int pa_nil))))))) (pe_op op_mod (pe_ix (r := rIxL K) ix_list (pv 0) (pv 1) (fun _ _ => rfl)) pe_int) (fun _ _ => rfl)) pa_nil)) (blkOk_by (N := N__law_shape) (sc := defScope s__law_shape) (by decide +kernel)) (fun _ _ _ _ _ => (pg_name (i := 3) sc__law_shape.nd rfl (Or.inl rfl))) (fun _ _ _ _ _ => pts_nil) (fun _ _ _ _ _ => (pe_op op_mod (pe_ix (r := rIxL K) ix_list (pv 0) (pe_op op_add (pe_op op_add (pv 1) pe_int) (pv 3)) (fun _ _ => rfl)) (pe_op op_add (pv 2) pe_int)))) pa_nil)))), ?_⟩
  have g0 := hd.gi (i := (i : Int)) (by omega) (by omega)
  walk_at "rd"
  refine r_newL (Own.nil H) (Nat.le_of_ble_eq_true rfl) fun p0 H0 o0 => ?_
  have ha0 : SqL K H0 a (dr.map V.int) := o0.old ha
  walk_at "rd"
  refine r_ixM (o0.sqL 0 rfl) (by omega) (show _ < (6 : Int) by omega) fun v hv _ => ?_
  obtain ⟨n, rfl, hn⟩ : ∃ n : Nat, v = .int n ∧ n ≤ 3 := by
    simp only [List.mem_cons, List.not_mem_nil, or_false] at hv
    rcases hv with rfl | rfl | rfl | rfl | rfl | rfl
    · exact ⟨1, rfl, by decide⟩
    · exact ⟨2, rfl, by decide⟩
    · exact ⟨1, rfl, by decide⟩
    · exact ⟨2, rfl, by decide⟩
    · exact ⟨0, rfl, by decide⟩
    · exact ⟨3, rfl, by decide⟩
  walk_at "rd"
  refine lcjR (K := K) (n := n) (fun k => some (.int (gi dr ((i : Int) + 1 + (k : Int)) % ((m : Int) + 1)))) o0 rfl (by omega) ?_ ?_
  · intro k p zs H' R hk o' s' r
    have hS : SqL K H' a (dr.map V.int) := o'.old ha
    refine r_name (r _ rfl (fun Qb k => k H' (Same.refl _)) fun d' H2 hd' s2 Qv qv => ?_)
    cases hd'
    have hS2 := same_seqL' s2 hS
    walk_at "rd"
    exact qv _ _ (Same.refl _) (.int _)
  intro p1 H1 zs s1 o1 t1
  rw [rfm_all] at t1
  have e := ints_invF t1
  subst e
  walk_at "rd"
  refine r_tupLs o1 (o1.sqL 0 rfl) fun t H2 s2 o2 h2 => ?_
  refine (q _ (by rw [List.length_map, List.length_range]; omega) fun z hz' => ?_).mk o2 (Tp.intsT h2)
  obtain ⟨k, hk, rfl⟩ := List.mem_map.mp hz'
  have m3 := Int.emod_nonneg (gi dr ((i : Int) + 1 + (k : Int))) (show (m : Int) + 1 ≠ 0 by omega)
  have m4 := Int.emod_lt_of_pos (gi dr ((i : Int) + 1 + (k : Int))) (show (0 : Int) < (m : Int) + 1 by omega)
  omega
def sp_law_chunk_shape (K : PySem.W.Frag) : Sp := fun vs H Q _ => ∃ (a : Addr) (dr : List Int) (i n : Nat), vs = [.ref a, .int i, .int n] ∧ SqL K H a (dr.map V.int) ∧ Dr dr ∧ 0 < dr.length ∧ dr.length ≤ 1000 ∧ i ≤ 1000 ∧ n ≤ 1000 ∧ ∀ cs : List Int, cs.length = n → (∀ z ∈ cs, 1 ≤ z ∧ z ≤ 4) → RetD K H Q (tupI cs)
theorem d_law_chunk_shape (T : Top K mg) : Def P w K mg base CX0 1 "_law_chunk_shape" ["draws", "at", "dimensions"] (sp_law_chunk_shape K) := by
  refine T.f__law_chunk_shape.ok sc__law_chunk_shape (by rintro vs H Q E ⟨a, dr, i, n, rfl, _⟩; rfl) (fun f cdv A outer s H vs Q E hr h => ?_)
  obtain ⟨a, dr, i, n, rfl, ha, hd, h0, hz, hi, hn, q⟩ := h
  refine ⟨_, (pss_one (ps_ret (pe_callTy (r := rTupS K) call_tuple_of (by rfl) T.b_tuple (by decide +kernel) (pa_cons (pe_lc (own := [("k", 3)]) (g := (gName 3)) (tt := tYes) rfl sc__law_chunk_shape.nd (pi_range1 (by rfl) T.b_range (pa_cons (pv 2) pa_nil)) (blkOk_by (N := N__law_chunk_shape) (sc := defScope s__law_chunk_shape) (by decide +kernel)) (fun _ _ _ _ _ => (pg_name (i := 3) sc__law_chunk_shape.nd rfl (Or.inl rfl))) (fun _ _ _ _ _ => pts_nil) (fun _ _ _ _ _ => (pe_op op_add pe_int (pe_op op_mod (pe_ix (r := rIxL K) ix_list (pv 0) (pe_op op_mod (pe_op op_add (pv 1) (pv 3)) (pe_callB (r := Evl.rLenS K) call_len_seq (by rfl) T.b_len (by decide +kernel) (pa_cons (pv 0) pa_nil))) (fun _ _ => rfl)) pe_int)))) pa_nil)))), ?_⟩
  have hlm := List.length_map (as := dr) V.int
  walk_at "rd"
  refine lcjR (K := K) (n := n) (fun k => some (.int (1 + gi dr (((i : Int) + (k : Int)) % (dr.length : Int)) % 4))) (Own.nil H) rfl (by omega) ?_ ?_
  · intro k p zs H' R hk o' s' r
    have hS : SqL K H' a (dr.map V.int) := o'.old ha
    refine r_name (r _ rfl (fun Qb k => k H' (Same.refl _)) fun d' H2 hd' s2 Qv qv => ?_)
    cases hd'
    have hS2 := same_seqL' s2 hS
    have m1 := Int.emod_nonneg ((i : Int) + (k : Int)) (show (dr.length : Int) ≠ 0 by omega)
    have m2 := Int.emod_lt_of_pos ((i : Int) + (k : Int)) (show (0 : Int) < (dr.length : Int) by omega)
    walk_at "rd"
    rw [hlm]
    refine r_ixI hS2 m1 m2 ?_
    walk_at "rd"
    exact qv _ _ (Same.refl _) (.int _)
  intro p1 H1 zs s1 o1 t1
  rw [rfm_all] at t1
  have e := ints_invF t1
  subst e
  walk_at "rd"
  refine r_tupLs o1 (o1.sqL 0 rfl) fun t H2 s2 o2 h2 => ?_
  refine (q _ (by rw [List.length_map, List.length_range]) fun z hz' => ?_).mk o2 (Tp.intsT h2)
  obtain ⟨k, hk, rfl⟩ := List.mem_map.mp hz'
  omega
end

/-! ### drawn things -/
def rSortedD : List V → Hp → VK → Prop := fun xs H Q => ∃ (a : Addr) (kvs : List (Key × V)) (ks : List Str), xs = [.ref a] ∧ Rd H a (.dK kvs) ∧ kvs.map (·.1) = ks.map Sum.inr ∧ ks.length < 64 ∧
    ∀ ys p, ys.Perm ks → sortedS ys = true → H p = none → Q (.ref p) (upd H p (.lst (ys.map V.str)))
theorem cr_sortedD {X : Cx} (hc : X.calm = true) : CallR X (.builtin "sorted") rSortedD := call_sortedD hc
/-- the marks so far: names and values -/
def MkD (K : PySem.W.Frag) (H : Hp) (kvs : List (Key × V)) (D : Str → PyData) : Prop := (∃ ks : List Str, kvs.map (·.1) = ks.map Sum.inr ∧ ks.Nodup) ∧ ∀ nm v, valV kvs (.inr nm) = some v → Tp K H v (D nm) ∧ NmD nm ∧ AtV (D nm)
theorem keys_putK {κ : Type} [DecidableEq κ] (kvs : List (κ × V)) (k : κ) (v : V) : (putK kvs k v).map (·.1) = kvs.map (·.1) ∨ (putK kvs k v).map (·.1) = kvs.map (·.1) ++ [k] := by
  unfold putK
  split
  · left
    rw [List.map_map]
    apply List.map_congr_left
    intro kv _
    show (if kv.1 = k then (kv.1, v) else kv).1 = kv.1
    split <;> rfl
  · right
    rw [List.map_append]
    rfl
theorem MkD.nil {K : PySem.W.Frag} {H : Hp} (D : Str → PyData) : MkD K H [] D := ⟨⟨[], rfl, List.nodup_nil⟩, fun nm v h => by rw [valV_nil] at h; cases h⟩
theorem MkD.up {K : PySem.W.Frag} {H H' : Hp} {kvs : List (Key × V)} {D : Str → PyData} (h : MkD K H kvs D) (s : Stp H H') : MkD K H' kvs D := ⟨h.1, fun nm v e => ⟨(h.2 nm v e).1.up s, (h.2 nm v e).2⟩⟩
theorem keys_putKn {κ : Type} [DecidableEq κ] (kvs : List (κ × V)) (k : κ) (v : V) (h : (kvs.map (·.1)).Nodup) : ((putK kvs k v).map (·.1)).Nodup := by
  unfold putK
  split
  · rw [List.map_map, List.map_congr_left (g := (·.1)) fun kv _ => by
      show (if kv.1 = k then (kv.1, v) else kv).1 = kv.1
      split <;> rfl]
    exact h
  · rename_i hn
    rw [List.map_append, List.nodup_append]
    refine ⟨h, by simp, fun a ha b hb e => ?_⟩
    rw [show b = k from List.mem_singleton.mp hb] at e
    subst e
    obtain ⟨p, hp, e⟩ := List.mem_map.mp ha
    exact hn (List.any_eq_true.mpr ⟨p, hp, decide_eq_true e⟩)
theorem MkD.put {K : PySem.W.Frag} {H : Hp} {kvs : List (Key × V)} {D : Str → PyData} (h : MkD K H kvs D) {nm : Str} {v : V} {d : PyData} (hv : Tp K H v d) (hn : NmD nm) (ha : AtV d) : MkD K H (putK kvs (.inr nm) v) (fun x => if x = nm then d else D x) := by
  obtain ⟨⟨ks, hk, hnd⟩, h2⟩ := h
  have hnd2 : (kvs.map (·.1)).Nodup := by
    rw [hk]
    exact List.pairwise_map.mpr (List.Pairwise.imp (fun h e => h (Sum.inr.inj e)) hnd)
  have h3 := keys_putKn kvs (Sum.inr nm : Key) v hnd2
  refine ⟨?_, fun x u e => ?_⟩
  · rcases keys_putK kvs (Sum.inr nm : Key) v with e | e
    · exact ⟨ks, e.trans hk, hnd⟩
    · refine ⟨ks ++ [nm], by rw [e, hk, List.map_append]; rfl, ?_⟩
      rw [e, hk] at h3
      have h4 : (ks ++ [nm]).map (Sum.inr : Str → Key) = ks.map Sum.inr ++ [Sum.inr nm] := by rw [List.map_append]; rfl
      rw [← h4] at h3
      exact List.Pairwise.imp (fun h e => h (by rw [e])) (List.pairwise_map.mp h3)
  · rw [valV_put] at e
    by_cases hx : x = nm
    · rw [if_pos (by rw [hx])] at e
      cases e
      show Tp K H v (if x = nm then d else D x) ∧ NmD x ∧ AtV (if x = nm then d else D x)
      rw [if_pos hx, hx]
      exact ⟨hv, hn, ha⟩
    · rw [if_neg (fun z => hx (Sum.inr.inj z))] at e
      show Tp K H u (if x = nm then d else D x) ∧ NmD x ∧ AtV (if x = nm then d else D x)
      rw [if_neg hx]
      exact h2 x u e
theorem val_of_key {kvs : List (Key × V)} {k : Key} (h : k ∈ kvs.map (·.1)) : ∃ v, valV kvs k = some v := by
  obtain ⟨p, hp, e⟩ := List.mem_map.mp h
  have ha : (kvs.any fun kv => decide (kv.1 = k)) = true := List.any_eq_true.mpr ⟨p, hp, decide_eq_true e⟩
  rw [valV_any] at ha
  exact Option.isSome_iff_exists.mp ha
/-- a drawn piece: a text, source, target, counts -/
abbrev PcD : Type := Str × List Int × List Int × List Int
def pcD (p : PcD) : PyData := .tuple [.str p.1, tupI p.2.1, tupI p.2.2.1, tupI p.2.2.2]
def PcOk (n : Nat) (p : PcD) : Prop := p.2.1.length = n ∧ p.2.2.1.length = n ∧ p.2.2.2.length = n ∧ (∀ x ∈ p.2.1, 0 ≤ x ∧ x ≤ 5000) ∧ (∀ x ∈ p.2.2.1, 0 ≤ x ∧ x ≤ 5000) ∧ ∀ x ∈ p.2.2.2, 0 ≤ x ∧ x ≤ 5000
theorem Stp.setK {H : Hp} {l : Addr} {kvs : List (Key × V)} {u : HO} (h : H l = some (.dK kvs)) : Stp H (upd H l u) := fun a ys r => by
  have ne : a ≠ l := by
    rintro rfl
    rcases r with r | ⟨o, r⟩ <;> rw [h] at r <;> cases r
  rcases r with r | ⟨o, r⟩
  · exact .inl (by rw [upd_ne ne]; exact r)
  · exact .inr ⟨o, by rw [upd_ne ne]; exact r⟩
theorem tx_sl71 : PySem.Str.ofString "/" = tx [47] := by decide
theorem nmc_txc {c : Nat} (h : NmC c) : TxC c := by
  unfold NmC at h
  unfold TxC
  omega
/-- a text of path signs, of at most 38 of them -/
def PtD (s : Str) : Prop := ∃ cs : List Nat, s = tx cs ∧ (∀ c ∈ cs, TxC c) ∧ cs.length ≤ 1000
theorem join_txs : ∀ (ns : List Str), (∀ z ∈ ns, ∃ cs : List Nat, z = tx cs ∧ (∀ c ∈ cs, NmC c) ∧ cs.length ≤ 12) → ∃ cs : List Nat, Txt.join (tx [47]) ns = tx cs ∧ (∀ c ∈ cs, TxC c) ∧ cs.length ≤ 13 * ns.length
  | [], _ => ⟨[], by rfl, (fun c hc => nomatch hc), Nat.zero_le _⟩
  | [z], h => by
    obtain ⟨cs, rfl, h1, h2⟩ := h z List.mem_cons_self
    exact ⟨cs, rfl, (fun c hc => nmc_txc (h1 c hc)), by rw [List.length_singleton]; omega⟩
  | z :: y :: r, h => by
    obtain ⟨cs, rfl, h1, h2⟩ := h z List.mem_cons_self
    obtain ⟨ds, e, h3, h4⟩ := join_txs (y :: r) fun x hx => h x (List.mem_cons_of_mem _ hx)
    refine ⟨cs ++ [47] ++ ds, ?_, fun c hc => ?_, ?_⟩
    · rw [TL.join_eq] at e ⊢
      show tx cs ++ tx [47] ++ Str.join (tx [47]) (y :: r) = _
      rw [e, tx_cat, tx_cat]
    · rcases List.mem_append.mp hc with hc | hc
      · rcases List.mem_append.mp hc with hc | hc
        · exact nmc_txc (h1 c hc)
        · rw [List.mem_singleton.mp hc]
          exact ⟨by decide, by decide, by decide⟩
      · exact h3 c hc
    · have h5 : ([47] : List Nat).length = 1 := rfl
      have h6 : (tx cs :: y :: r).length = (y :: r).length + 1 := rfl
      rw [List.length_append, List.length_append, h5, h6]
      omega
/-- what the dict holds under these names -/
def Has (kv : List (Key × V)) (l : List (Str × V)) : Prop := ∀ p ∈ l, valV kv (.inr p.1) = some p.2
theorem Has.put {kv : List (Key × V)} {l : List (Str × V)} (h : Has kv l) (s : Str) (v : V) (hs : (l.all fun p => !decide (p.1 = s)) = true) : Has (putK kv (.inr s) v) ((s, v) :: l) := fun p hp => by
  rw [valV_put]
  rcases List.mem_cons.mp hp with rfl | hp
  · rw [if_pos rfl]
  · have := List.all_eq_true.mp hs p hp
    rw [Bool.not_eq_true', decide_eq_false_iff_not] at this
    rw [if_neg (fun z => this (Sum.inr.inj z))]
    exact h p hp
def markD (m : Str × PyData) : PyData := .tuple [.str m.1, m.2]
/-- data that stand -/
def BD (K : PySem.W.Frag) (H : Hp) (zs : List V) (mks : List (Str × PyData)) (l : List (V × PyData)) : Prop := TpAll K H zs (mks.map markD) ∧ ∀ p ∈ l, Tp K H p.1 p.2
theorem BD.up {K : PySem.W.Frag} {H H' : Hp} {zs : List V} {mks : List (Str × PyData)} {l : List (V × PyData)} (h : BD K H zs mks l) (s : Stp H H') : BD K H' zs mks l := ⟨h.1.up s, fun p hp => (h.2 p hp).up s⟩
theorem BD.add {K : PySem.W.Frag} {H : Hp} {zs : List V} {mks : List (Str × PyData)} {l : List (V × PyData)} (h : BD K H zs mks l) {v : V} {d : PyData} (t : Tp K H v d) : BD K H zs mks ((v, d) :: l) := ⟨h.1, fun p hp => by
  rcases List.mem_cons.mp hp with rfl | hp
  · exact t
  · exact h.2 p hp⟩
theorem rising_pw : ∀ (p : Str) (ss : List Str), risingS p ss = true → (p :: ss).Pairwise fun a b => a.cps.toList ≤ b.cps.toList
  | p, [], _ => by simp
  | p, x :: r, h => by
    have h : (!ltCps x.cps.toList p.cps.toList && risingS x r) = true := h
    rw [Bool.and_eq_true, Bool.not_eq_true', ltCps_eq, decide_eq_false_iff_not] at h
    have ih := rising_pw x r h.2
    have hpx := List.not_lt.mp h.1
    refine List.pairwise_cons.mpr ⟨fun y hy => ?_, ih⟩
    rcases List.mem_cons.mp hy with rfl | hy
    · exact hpx
    · exact List.le_trans hpx ((List.pairwise_cons.mp ih).1 y hy)
theorem sortedS_lt {ss : List Str} (h : sortedS ss = true) (hn : ss.Nodup) : ss.Pairwise fun a b => a.cps.toList < b.cps.toList := by
  have hp : ss.Pairwise fun a b => a.cps.toList ≤ b.cps.toList := by
    cases ss with
    | nil => exact .nil
    | cons x r => exact rising_pw x r h
  refine List.Pairwise.imp (fun {a b} q => ?_) (hp.and hn)
  by_cases hlt : a.cps.toList < b.cps.toList
  · exact hlt
  · exact absurd (PySem.W.str_of_cps (List.le_antisymm q.1 (List.not_lt.mp hlt))) q.2
/-- what the law draws -/
structure ThD where
  form : Int
  marks : List (Str × PyData)
  kind : Str
  shape : List Int
  fill : Int
  chunks : List Int
  filters : List Str
  r1 : Nat
  r2 : Nat
  pieces : List PcD
def FLT : List Str := [PySem.Str.ofString "delta", PySem.Str.ofString "planes", PySem.Str.ofString "runs", PySem.Str.ofString "zeros"]
structure ThOk (th : ThD) : Prop where
  form : th.form = 1 ∨ th.form = 2 ∨ th.form = 3
  mlen : th.marks.length ≤ 20
  asc : th.marks.Pairwise fun a b => a.1.cps.toList < b.1.cps.toList
  mok : ∀ m ∈ th.marks, NmD m.1 ∧ AtV m.2
  kind : th.kind ∈ KS
  shl : th.shape.length ≤ 3
  shb : ∀ z ∈ th.shape, 0 ≤ z ∧ z ≤ 6
  fl : kLow th.kind ≤ th.fill ∧ th.fill ≤ kHigh th.kind
  chl : th.chunks.length ≤ 3
  chb : ∀ z ∈ th.chunks, 0 ≤ z ∧ z ≤ 5000
  ftl : th.filters.length ≤ 6
  ftb : ∀ s ∈ th.filters, s ∈ FLT
  rb : th.r1 < 10 ^ 12 ∧ th.r2 < 10 ^ 9
  pcl : th.pieces.length ≤ 10
  pcb : ∀ p ∈ th.pieces, PcOk th.shape.length p ∧ PtD p.1
/-- the dict at pt tells of th -/
def ThAt (K : PySem.W.Frag) (H : Hp) (pt : Addr) (th : ThD) : Prop := ∃ (kv : List (Key × V)) (pm ash lf ach atf atr atp : Addr) (zs : List V), H pt = some (.dK kv) ∧
  Has kv [(PySem.Str.ofString "pieces", .ref atp), (PySem.Str.ofString "root", .ref atr), (PySem.Str.ofString "filters", .ref atf), (PySem.Str.ofString "chunks", .ref ach), (PySem.Str.ofString "fills", .ref lf), (PySem.Str.ofString "shape", .ref ash), (PySem.Str.ofString "kind", .str th.kind), (PySem.Str.ofString "marks", .ref pm), (PySem.Str.ofString "form", .int th.form)] ∧
  H pm = some (.lst zs) ∧ TpAll K H zs (th.marks.map markD) ∧ SqT K H ash (th.shape.map V.int) ∧ H lf = some (.lst [.int th.fill]) ∧ SqT K H ach (th.chunks.map V.int) ∧ SqT K H atf (th.filters.map V.str) ∧
  SqT K H atr [.int (th.r1 : Int), .int (th.r2 : Int)] ∧ Tp K H (.ref atp) (.tuple (th.pieces.map pcD))
section
variable {P : Program} {w : World} {K : PySem.W.Frag} {mg : Str → Option Value} {base : Heap}
def sp_drawn3 (K : PySem.W.Frag) : Sp := fun vs H Q _ => ∃ (a : Addr) (dr : List Int), vs = [.ref a] ∧ SqL K H a (dr.map V.int) ∧ Dr dr ∧ dr.length = 64 ∧
  ∀ (H' : Hp) (p : Addr) (th : ThD), Same H H' → H p = none → ThOk th → ThAt K H' p th → Q (.ref p) H'
theorem d_drawn3 (T : Top K mg) : Def P w K mg base CX0 4 "_law_drawn_thing" ["draws"] (sp_drawn3 K) := by
  have G__law_attribute : Def P w K mg base CX0 3 "_law_attribute" ["draws", "at"] (sp_law_attr K) := d_law_attr T
  have G__law_kind : Def P w K mg base CX0 1 "_law_kind" ["draw"] sp_kkind := d_kind T
  have G__law_value : Def P w K mg base CX0 2 "_law_value" ["kind", "draw"] sp_kval := d_value T
  have G__law_shape : Def P w K mg base CX0 1 "_law_shape" ["draws", "at", "most"] (sp_law_shape K) := d_law_shape T
  have G__law_chunk_shape : Def P w K mg base CX0 1 "_law_chunk_shape" ["draws", "at", "dimensions"] (sp_law_chunk_shape K) := d_law_chunk_shape T
  have G__law_great : Def P w K mg base CX0 1 "_law_great" ["draws", "at"] (sp_great K) := d_great T
  have G__law_name : Def P w K mg base CX0 2 "_law_name" ["draws", "at"] (sp_law_name K) := d_law_name T
  refine T.f__law_drawn_thing.ok sc__law_drawn_thing (by rintro vs H Q E ⟨a, dr, rfl, _⟩; rfl) (fun f cdv A outer s H vs Q E hr h => ?_)
  obtain ⟨a, dr, rfl, hS, hd, hdl, q⟩ := h
  refine ⟨_, (pss_cons (ps_set (i := 1) sc__law_drawn_thing.nd rfl (Or.inl rfl) (pe_op op_add pe_int (pe_op op_mod (pe_ix (r := rIxL K) ix_list (pv 0) pe_int (fun _ _ => rfl)) pe_int)))
      (pss_cons (ps_set (i := 2) sc__law_drawn_thing.nd rfl (Or.inr rfl) pe_dnewK)
      (pss_cons (ps_for PassesOwn.never rfl (pi_range1 (by rfl) T.b_range (pa_cons (pe_cutE (pe_ifExp (pt_cmpR op_gt (pe_op op_mod (pe_ix (r := rIxL K) ix_list (pv 0) pe_int (fun _ _ => rfl)) pe_int) pe_int (nomark _)) (pe_op op_mod (pe_ix (r := rIxL K) ix_list (pv 0) pe_int (fun _ _ => rfl)) pe_int) (pe_op op_mod (pe_ix (r := rIxL K) ix_list (pv 0) pe_int (fun _ _ => rfl)) pe_int))) pa_nil)) (pg_name (i := 3) sc__law_drawn_thing.nd rfl (Or.inr rfl)) (pss_cons (ps_asg (pe_callD G__law_attribute (hr.mono (by decide)) (pa_cons (pv 0) (pa_cons (pe_op op_add pe_int (pe_op op_mul pe_int (pv 3))) pa_nil))) (pg_tup (n := 2) rfl (pgs_cons (pg_name (i := 4) sc__law_drawn_thing.nd rfl (Or.inl rfl)) (pgs_cons (pg_name (i := 5) sc__law_drawn_thing.nd rfl (Or.inl rfl)) pgs_nil))))
      (pss_one (ps_dput (Nat.lt_of_le_of_lt (Nat.add_le_add_left (by decide) _) hr.units) (pv 2) (pv 4) (pv 5) rfl))))
      (pss_cons (ps_set (i := 6) sc__law_drawn_thing.nd rfl (Or.inl rfl) (pe_callD G__law_kind (hr.mono (by decide)) (pa_cons (pe_ix (r := rIxL K) ix_list (pv 0) pe_int (fun _ _ => rfl)) pa_nil)))
      (pss_cons (ps_set (i := 7) sc__law_drawn_thing.nd rfl (Or.inr rfl) (pe_callD G__law_shape (hr.mono (by decide)) (pa_cons (pv 0) (pa_cons pe_int (pa_cons pe_int pa_nil)))))
      (pss_cons (ps_set (i := 8) sc__law_drawn_thing.nd rfl (Or.inl rfl) (pe_disp (pps_cons pe_str (pv 1) (pps_cons pe_str (pe_lc (own := [("name", 4)]) (g := (gName 4)) (tt := tYes) rfl sc__law_drawn_thing.nd (pi_list (pe_callB (r := rSortedD) (cr_sortedD rfl) (by rfl) T.b_sorted (by decide +kernel) (pa_cons (pv 2) pa_nil))) (blkOk_by (N := N__law_drawn_thing) (sc := defScope s__law_drawn_thing) (by decide +kernel)) (fun _ _ _ _ _ => (pg_name (i := 4) sc__law_drawn_thing.nd rfl (Or.inl rfl))) (fun _ _ _ _ _ => pts_nil) (fun _ _ _ _ _ => (pe_tup (pa_cons (pv 4) (pa_cons (pe_dget (Nat.lt_of_le_of_lt (Nat.add_le_add_left (by decide) _) hr.units) (pv 2) (pv 4) (fun _ _ => rfl)) pa_nil))))) (pps_cons pe_str (pv 6) (pps_cons pe_str (pv 7) pps_nil)))) (by rfl) (by rfl) (fun z => by cases z) (by decide)))
      (pss_cons (ps_dput (Nat.lt_of_le_of_lt (Nat.add_le_add_left (by decide) _) hr.units) (pv 8) pe_str (pe_lst (pa_cons (pe_callD G__law_value (hr.mono (by decide)) (pa_cons (pv 6) (pa_cons (pe_ix (r := rIxL K) ix_list (pv 0) pe_int (fun _ _ => rfl)) pa_nil))) pa_nil)) rfl)
      (pss_cons (ps_dput (Nat.lt_of_le_of_lt (Nat.add_le_add_left (by decide) _) hr.units) (pv 8) pe_str (pe_callD G__law_chunk_shape (hr.mono (by decide)) (pa_cons (pv 0) (pa_cons pe_int (pa_cons (pe_callB (r := Evl.rLenS K) call_len_seq (by rfl) T.b_len (by decide +kernel) (pa_cons (pv 7) pa_nil)) pa_nil)))) rfl)
      (pss_cons (ps_dput (Nat.lt_of_le_of_lt (Nat.add_le_add_left (by decide) _) hr.units) (pv 8) pe_str (pe_callTy (r := rTupS K) call_tuple_of (by rfl) T.b_tuple (by decide +kernel) (pa_cons (pe_lc (own := [("k", 3)]) (g := (gName 3)) (tt := tYes) rfl sc__law_drawn_thing.nd (pi_range1 (by rfl) T.b_range (pa_cons (pe_op op_mod (pe_ix (r := rIxL K) ix_list (pv 0) pe_int (fun _ _ => rfl)) pe_int) pa_nil)) (blkOk_by (N := N__law_drawn_thing) (sc := defScope s__law_drawn_thing) (by decide +kernel)) (fun _ _ _ _ _ => (pg_name (i := 3) sc__law_drawn_thing.nd rfl (Or.inl rfl))) (fun _ _ _ _ _ => pts_nil) (fun _ _ _ _ _ => (pe_ix (r := rIxL K) ix_list (pe_lst (pa_cons pe_str (pa_cons pe_str (pa_cons pe_str (pa_cons pe_str pa_nil))))) (pe_op op_mod (pe_ix (r := rIxL K) ix_list (pv 0) (pe_op op_add pe_int (pv 3)) (fun _ _ => rfl)) pe_int) (fun _ _ => rfl)))) pa_nil)) rfl)
      (pss_cons (ps_dput (Nat.lt_of_le_of_lt (Nat.add_le_add_left (by decide) _) hr.units) (pv 8) pe_str (pe_tup (pa_cons (pe_op op_mod (pe_callD G__law_great (hr.mono (by decide)) (pa_cons (pv 0) (pa_cons pe_int pa_nil))) (pe_powC (c := 1000000000000) ⟨by decide, by decide, by decide⟩ (by decide +kernel))) (pa_cons (pe_op op_mod (pe_callD G__law_great (hr.mono (by decide)) (pa_cons (pv 0) (pa_cons pe_int pa_nil))) (pe_powC (c := 1000000000) ⟨by decide, by decide, by decide⟩ (by decide +kernel))) pa_nil))) rfl)
      (pss_cons (ps_set (i := 9) sc__law_drawn_thing.nd rfl (Or.inl rfl) (pe_lst pa_nil))
      (pss_cons (ps_for PassesOwn.never rfl (pi_range1 (by rfl) T.b_range (pa_cons (pe_op op_mul (pe_op op_mod (pe_ix (r := rIxL K) ix_list (pv 0) pe_int (fun _ _ => rfl)) pe_int) (pe_callTy (r := rInt1) call_int1 (by rfl) T.b_int (by decide +kernel) (pa_cons (pe_cmpR (r := rIn K true) op_notIn_seq pe_int (pv 7) rfl) pa_nil))) pa_nil)) (pg_name (i := 3) sc__law_drawn_thing.nd rfl (Or.inr rfl)) (pss_cons (ps_set (i := 10) sc__law_drawn_thing.nd rfl (Or.inl rfl) (pe_callTy (r := rTupS K) call_tuple_of (by rfl) T.b_tuple (by decide +kernel) (pa_cons (pe_lc (own := [("j", 11)]) (g := (gName 11)) (tt := tYes) rfl sc__law_drawn_thing.nd (pi_range1 (by rfl) T.b_range (pa_cons (pe_callB (r := Evl.rLenS K) call_len_seq (by rfl) T.b_len (by decide +kernel) (pa_cons (pv 7) pa_nil)) pa_nil)) (blkOk_by (N := N__law_drawn_thing) (sc := defScope s__law_drawn_thing) (by decide +kernel)) (fun _ _ _ _ _ => (pg_name (i := 11) sc__law_drawn_thing.nd rfl (Or.inl rfl))) (fun _ _ _ _ _ => pts_nil) (fun _ _ _ _ _ => (pe_op op_mod (pe_ix (r := rIxL K) ix_list (pv 0) (pe_op op_mod (pe_op op_add (pe_op op_add pe_int (pv 3)) (pv 11)) (pe_callB (r := Evl.rLenS K) call_len_seq (by rfl) T.b_len (by decide +kernel) (pa_cons (pv 0) pa_nil))) (fun _ _ => rfl)) pe_int))) pa_nil)))
      (pss_cons (ps_set (i := 12) sc__law_drawn_thing.nd rfl (Or.inr rfl) (pe_callTy (r := rTupS K) call_tuple_of (by rfl) T.b_tuple (by decide +kernel) (pa_cons (pe_lc (own := [("j", 11)]) (g := (gName 11)) (tt := tYes) rfl sc__law_drawn_thing.nd (pi_range1 (by rfl) T.b_range (pa_cons (pe_callB (r := Evl.rLenS K) call_len_seq (by rfl) T.b_len (by decide +kernel) (pa_cons (pv 7) pa_nil)) pa_nil)) (blkOk_by (N := N__law_drawn_thing) (sc := defScope s__law_drawn_thing) (by decide +kernel)) (fun _ _ _ _ _ => (pg_name (i := 11) sc__law_drawn_thing.nd rfl (Or.inl rfl))) (fun _ _ _ _ _ => pts_nil) (fun _ _ _ _ _ => (pe_op op_mod (pe_op op_fdiv (pe_ix (r := rIxL K) ix_list (pv 0) (pe_op op_mod (pe_op op_add (pe_op op_add pe_int (pv 3)) (pv 11)) (pe_callB (r := Evl.rLenS K) call_len_seq (by rfl) T.b_len (by decide +kernel) (pa_cons (pv 0) pa_nil))) (fun _ _ => rfl)) pe_int) (pe_ix (r := rIxT K) ix_tup (pv 7) (pv 11) (fun _ _ => rfl))))) pa_nil)))
      (pss_cons (ps_set (i := 13) sc__law_drawn_thing.nd rfl (Or.inl rfl) (pe_callTy (r := rTupS K) call_tuple_of (by rfl) T.b_tuple (by decide +kernel) (pa_cons (pe_lc (own := [("j", 11)]) (g := (gName 11)) (tt := tYes) rfl sc__law_drawn_thing.nd (pi_range1 (by rfl) T.b_range (pa_cons (pe_callB (r := Evl.rLenS K) call_len_seq (by rfl) T.b_len (by decide +kernel) (pa_cons (pv 7) pa_nil)) pa_nil)) (blkOk_by (N := N__law_drawn_thing) (sc := defScope s__law_drawn_thing) (by decide +kernel)) (fun _ _ _ _ _ => (pg_name (i := 11) sc__law_drawn_thing.nd rfl (Or.inl rfl))) (fun _ _ _ _ _ => pts_nil) (fun _ _ _ _ _ => (pe_op op_add pe_int (pe_op op_mod (pe_op op_fdiv (pe_ix (r := rIxL K) ix_list (pv 0) (pe_op op_mod (pe_op op_add (pe_op op_add pe_int (pv 3)) (pv 11)) (pe_callB (r := Evl.rLenS K) call_len_seq (by rfl) T.b_len (by decide +kernel) (pa_cons (pv 0) pa_nil))) (fun _ _ => rfl)) pe_int) (pe_op op_sub (pe_ix (r := rIxT K) ix_tup (pv 7) (pv 11) (fun _ _ => rfl)) (pe_ix (r := rIxT K) ix_tup (pv 12) (pv 11) (fun _ _ => rfl))))))) pa_nil)))
      (pss_one (ps_expr (pe_bm PySem.F.plainAttrs_list PySem.F.slot_list_append PySem.F.type_list_append mt_append (pv 9) (pa_cons (pe_tup (pa_cons (pe_join pe_str (pe_lc (own := [("j", 11)]) (g := (gName 11)) (tt := tYes) rfl sc__law_drawn_thing.nd (pi_range1 (by rfl) T.b_range (pa_cons (pe_op op_add pe_int (pe_op op_mod (pe_ix (r := rIxL K) ix_list (pv 0) (pe_op op_mod (pe_op op_add pe_int (pv 3)) (pe_callB (r := Evl.rLenS K) call_len_seq (by rfl) T.b_len (by decide +kernel) (pa_cons (pv 0) pa_nil))) (fun _ _ => rfl)) pe_int)) pa_nil)) (blkOk_by (N := N__law_drawn_thing) (sc := defScope s__law_drawn_thing) (by decide +kernel)) (fun _ _ _ _ _ => (pg_name (i := 11) sc__law_drawn_thing.nd rfl (Or.inl rfl))) (fun _ _ _ _ _ => pts_nil) (fun _ _ _ _ _ => (pe_callD G__law_name (hr.mono (by decide)) (pa_cons (pv 0) (pa_cons (pe_op op_add (pe_op op_add pe_int (pv 3)) (pv 11)) pa_nil)))))) (pa_cons (pv 10) (pa_cons (pv 12) (pa_cons (pv 13) pa_nil))))) pa_nil))))))))
      (pss_cons (ps_dput (Nat.lt_of_le_of_lt (Nat.add_le_add_left (by decide) _) hr.units) (pv 8) pe_str (pe_callTy (r := rTupS K) call_tuple_of (by rfl) T.b_tuple (by decide +kernel) (pa_cons (pv 9) pa_nil)) rfl)
      (pss_one (ps_ret (pv 8)))))))))))))))), ?_⟩
  have hlm := List.length_map (as := dr) V.int
  have gg : ∀ i : Int, 0 ≤ i → i < 64 → 0 ≤ gi dr i ∧ gi dr i < 4096 := fun i h0 h1 => hd.gi h0 (by omega)
  have g0 := gg 0 (by omega) (by omega)
  have g1 := gg 1 (by omega) (by omega)
  have g2 := gg 2 (by omega) (by omega)
  walk_at "rd"
  intro pm nm0
  have o1 := (Own.nil H).new (u := .dK []) nm0
  generalize upd H pm (.dK []) = H1 at *
  have hS1 := o1.old hS
  walk_at "rd"
  refine r_cutE (fun vv H' => ∃ n : Nat, vv = .int (n : Int) ∧ n ≤ 20 ∧ Own H H' [(pm, .dK [])]) ?_ ?_
  · walk_at "rd"
    refine rif (fun h1 => ?_) fun h1 => ?_
    · walk_at "rd"
      exact ⟨(gi dr 1 % 5).toNat, by rw [Int.toNat_of_nonneg (by omega)], by omega, o1⟩
    · walk_at "rd"
      exact ⟨(gi dr 1 % 21).toNat, by rw [Int.toNat_of_nonneg (by omega)], by omega, o1⟩
  rintro vv H2 ⟨n, rfl, hn, o2⟩
  walk_at "rd"
  refine forR1 (n := n) rfl (by omega) (fun k σ' H' => ∃ (kvm : List (Key × V)) (D : Str → PyData) (v3 v4 v5 v6 v7 v8 v9 v10 v11 v12 v13 : Option V), σ' = [some (.ref a), some (.int (1 + gi dr 0 % 3)), some (.ref pm), v3, v4, v5, v6, v7, v8, v9, v10, v11, v12, v13] ∧ kvm.length ≤ k ∧ MkD K H' kvm D ∧ Own H H' [(pm, .dK kvm)]) ⟨[], fun _ => .none, _, _, _, _, _, _, _, _, _, _, _, rfl, Nat.zero_le _, MkD.nil _, o2⟩ ?_ ?_
  · rintro k σ' H' hk ⟨kvm, D, v3, v4, v5, v6, v7, v8, v9, v10, v11, v12, v13, rfl, hkl, hM, o⟩
    have hS' := o.old hS
    walk_at "rd"
    refine ⟨a, dr, 3 + 5 * k, by rw [show ((3 + 5 * k : Nat) : Int) = 3 + 5 * (k : Int) by omega]; rfl, hS', hd, by omega, by omega, by omega, fun nm d hnm hd2 => r_retD o fun u H3 e3 o3 t3 => ?_⟩
    obtain ⟨t, xs, rfl, hsq, hall⟩ := Tp.inv t3
    obtain ⟨v, rfl, hv⟩ : ∃ v, xs = [.str nm, v] ∧ Tp K H3 v d := by
      cases hall with
      | cons a b =>
        cases a
        cases b with
        | cons c e =>
          cases e
          exact ⟨_, rfl, c⟩
    refine r_gTup2 hsq ?_
    unfold sDPut
    walk_at "rd"
    refine ⟨pm, _, rfl, DPut.k (k := .inr nm) (o3.at 0 rfl) (by rw [sizeLine_eq]; omega), ?_⟩
    have o4 := o3.set (v := .dK (putK kvm (.inr nm) v)) 0 rfl
    have hpl := length_putK kvm (.inr nm : Key) v
    exact ⟨_, _, _, _, _, _, _, _, _, _, _, _, _, rfl, by omega, ((hM.up (.of e3)).put hv hnm hd2).up (Stp.setK (o3.at 0 rfl)), o4⟩
  rintro σ' H3 ⟨kvm, D, v3, v4, v5, v6, v7, v8, v9, v10, v11, v12, v13, rfl, hkl, hM, o3⟩
  have hS3 := o3.old hS
  have g3 := gg 3 (by omega) (by omega)
  walk_at "rd"
  refine ⟨_, rfl, by omega, fun z hz => r_retvs o3 fun H4 e4 o4 => ?_⟩
  have hS4 := o4.old hS
  walk_at "rd"
  refine ⟨a, dr, 4, 6, rfl, hS4, hd, by omega, by decide, fun sh hsl hbs H5 u e5 t5 => ?_⟩
  have o5 := o4.mono e5
  obtain ⟨ash, rfl, hsh⟩ := Tp.invI (ns := sh) t5
  have hM5 := (hM.up (.of e4)).up (.of e5)
  walk_at "rd"
  intro pt nt
  have o6 := o5.new (u := .dK []) nt
  have e6 := same_new (u := .dK []) nt
  generalize upd H5 pt (.dK []) = H6 at *
  have hM6 := hM5.up (.of e6)
  have hsh6 := (Stp.of e6).sq hsh
  refine r_pp ?_
  walk_at "rd"
  refine r_pp ?_
  walk_at "rd"
  obtain ⟨ks, hks, hnd⟩ := hM6.1
  have hksl : ks.length = kvm.length := by
    have := congrArg List.length hks
    rw [List.length_map, List.length_map] at this
    exact this.symm
  refine ⟨pm, kvm, ks, rfl, .inl (o6.at 1 rfl), hks, by omega, fun ys pl hys hasc hpl => ?_⟩
  have hysl := hys.length_eq
  have o7 := o6.new (u := .lst (ys.map V.str)) hpl
  have e7 := same_new (u := .lst (ys.map V.str)) hpl
  generalize upd H6 pl (.lst (ys.map V.str)) = H7 at *
  have hM7 := hM6.up (.of e7)
  have hsh7 := (Stp.of e7).sq hsh6
  refine lcjL (K := K) (fun i => (ys[i]?).map fun nm => .tuple [.str nm, D nm]) o7 (fun H' p zs o' => o'.sqL 1 rfl) (o7.sqL 0 rfl) (by rw [List.length_map]; omega) ?_ ?_
  · intro i x p4 zs4 H' R' hx o' s' r
    rw [List.getElem?_map] at hx
    cases hyi : ys[i]? with
    | none => rw [hyi] at hx; cases hx
    | some nm =>
      rw [hyi] at hx
      cases hx
      refine r_name (r _ rfl (fun Qb k => k H' (Same.refl _) |> fun z => by rw [hyi] at z; exact z) fun d' H2 hd' s2 Qv qv => ?_)
      rw [hyi] at hd'
      cases hd'
      obtain ⟨v, hv⟩ := val_of_key (kvs := kvm) (k := .inr nm) (by rw [hks]; exact List.mem_map_of_mem (hys.mem_iff.mp (List.mem_of_getElem? hyi)))
      have tv := (((hM7.up s').up (.of s2)).2 nm v hv).1
      have hg : DGet H2 pm (.str nm) (valV kvm (.inr nm)) := DGet.k (k := .inr nm) (s2 _ _ (o'.at 3 rfl))
      rw [hv] at hg
      walk_at "rd"
      unfold tDGet
      walk_at "rd"
      refine ⟨pm, v, rfl, hg, ?_⟩
      walk_at "rd"
      refine r_newTp (K := K) (ds := [.str nm, D nm]) (Own.nil H2) (.cons (.str _) (.cons tv .nil)) (Nat.le_of_ble_eq_true rfl) fun t H3 s3 o3 h3 => ?_
      exact qv _ _ o3.ex h3
  intro p8 H8 zs8 s8 o8 t8
  have t8 : TpAll K H8 zs8 ((ys.map fun nm => (nm, D nm)).map markD) := by
    rw [show (List.range (ys.map V.str).length).filterMap (fun i => (ys[i]?).map fun nm => PyData.tuple [.str nm, D nm]) = (ys.map fun nm => (nm, D nm)).map markD by
      rw [List.length_map, range_pick ys (fun nm => PyData.tuple [.str nm, D nm]), List.map_map]; rfl] at t8
    exact t8
  have hmok : ∀ m ∈ ys.map fun nm => (nm, D nm), NmD m.1 ∧ AtV m.2 := fun m hm => by
    obtain ⟨nm, hnm, rfl⟩ := List.mem_map.mp hm
    obtain ⟨v, hv⟩ := val_of_key (kvs := kvm) (k := .inr nm) (by rw [hks]; exact List.mem_map_of_mem (hys.mem_iff.mp hnm))
    exact ((hM7.2 nm v hv).2)
  have hasc2 : (ys.map fun nm => (nm, D nm)).Pairwise fun a b => a.1.cps.toList < b.1.cps.toList := by
    rw [List.pairwise_map]
    exact sortedS_lt hasc (hys.nodup_iff.mpr hnd)
  have hmll : (ys.map fun nm => (nm, D nm)).length ≤ 20 := by rw [List.length_map]; omega
  generalize (ys.map fun nm => (nm, D nm)) = mks at *
  have hsh8 := s8.sq hsh7
  clear hM hM5 hM6 hM7 o1 o2 o3 o4 o5 o6 o7 t5 hsh hsh6 hsh7
  refine r_pp ?_
  walk_at "rd"
  refine r_pp ?_
  walk_at "rd"
  refine r_pn ?_
  refine ⟨o8.at 2 rfl, [(.inr (PySem.Str.ofString "form"), .int (1 + gi dr 0 % 3)), (.inr (PySem.Str.ofString "marks"), .ref p8), (.inr (PySem.Str.ofString "kind"), .str z), (.inr (PySem.Str.ofString "shape"), .ref ash)], rfl, Nat.le_of_ble_eq_true rfl, ?_⟩
  have o9 := o8.set (v := .dK (mergeK [] [(.inr (PySem.Str.ofString "form"), .int (1 + gi dr 0 % 3)), (.inr (PySem.Str.ofString "marks"), .ref p8), (.inr (PySem.Str.ofString "kind"), .str z), (.inr (PySem.Str.ofString "shape"), .ref ash)])) 2 rfl
  have s9 : Stp H8 _ := Stp.setK (u := .dK (mergeK [] [(.inr (PySem.Str.ofString "form"), .int (1 + gi dr 0 % 3)), (.inr (PySem.Str.ofString "marks"), .ref p8), (.inr (PySem.Str.ofString "kind"), .str z), (.inr (PySem.Str.ofString "shape"), .ref ash)])) (o8.at 2 rfl)
  have hk : Has (mergeK [] [(.inr (PySem.Str.ofString "form"), .int (1 + gi dr 0 % 3)), (.inr (PySem.Str.ofString "marks"), .ref p8), (.inr (PySem.Str.ofString "kind"), .str z), (.inr (PySem.Str.ofString "shape"), .ref ash)]) [(PySem.Str.ofString "shape", .ref ash), (PySem.Str.ofString "kind", .str z), (PySem.Str.ofString "marks", .ref p8), (PySem.Str.ofString "form", .int (1 + gi dr 0 % 3))] := by
    intro p hp
    simp only [List.mem_cons, List.not_mem_nil, or_false] at hp
    rcases hp with rfl | rfl | rfl | rfl <;> rfl
  have hkl := length_mergeK [(.inr (PySem.Str.ofString "form"), .int (1 + gi dr 0 % 3)), (.inr (PySem.Str.ofString "marks"), .ref p8), (.inr (PySem.Str.ofString "kind"), .str z), (.inr (PySem.Str.ofString "shape"), .ref ash)] ([] : List (Key × V))
  generalize mergeK [] [((.inr (PySem.Str.ofString "form") : Key), V.int (1 + gi dr 0 % 3)), (.inr (PySem.Str.ofString "marks"), .ref p8), (.inr (PySem.Str.ofString "kind"), .str z), (.inr (PySem.Str.ofString "shape"), .ref ash)] = kv at *
  generalize upd H8 pt (.dK kv) = H9 at *
  have hkl : kv.length ≤ 4 := hkl
  have hsh9 := s9.sq hsh8
  have hS9 := o9.old hS
  have o9 : Own H H9 [(p8, .lst zs8), (pt, .dK kv)] := o9.pick [0, 2] (by decide)
  have bd : BD K H9 zs8 mks [] := ⟨t8.up s9, fun p hp => nomatch hp⟩
  have g10 := gg 10 (by omega) (by omega)
  clear o8 s9 hsh8
  walk_at "rd"
  unfold sDPut
  walk_at "rd"
  refine ⟨z, gi dr 10, rfl, hz, by omega, by omega, ?_⟩
  have hflb := valF_rng hz (gi dr 10)
  generalize valF z (gi dr 10) = fl at *
  refine r_retvs o9 fun Ha ea oa => ?_
  have hsha := (Stp.of ea).sq hsh9
  have bd := bd.up ((Stp.of ea))
  walk_at "rd"
  refine r_newLs oa (Nat.le_of_ble_eq_true rfl) fun lf Hb sb ob => ?_
  have hshb := sb.sq hsha
  have bd := bd.up (sb)
  walk_at "rd"
  refine ⟨pt, _, rfl, DPut.k (k := .inr (PySem.Str.ofString "fills")) (ob.at 2 rfl) (by rw [sizeLine_eq]; omega), ?_⟩
  have oc := ob.set (v := .dK (putK kv (.inr (PySem.Str.ofString "fills")) (.ref lf))) 2 rfl
  have sc : Stp Hb _ := Stp.setK (u := .dK (putK kv (.inr (PySem.Str.ofString "fills")) (.ref lf))) (ob.at 2 rfl)
  have hk := hk.put (PySem.Str.ofString "fills") (.ref lf) (by rfl)
  have hkl2 := length_putK kv (.inr (PySem.Str.ofString "fills") : Key) (.ref lf)
  have hkl : (putK kv (.inr (PySem.Str.ofString "fills")) (.ref lf)).length ≤ 5 := by omega
  clear hkl2 o9 ob oa
  generalize putK kv (.inr (PySem.Str.ofString "fills")) (.ref lf) = kv at *
  generalize upd Hb pt (.dK kv) = Hc at *
  have oc : Own H Hc [(lf, .lst [.int fl]), (p8, .lst zs8), (pt, .dK kv)] := oc
  have hshc := sc.sq hshb
  have bd := bd.up (sc)
  have hSc := oc.old hS
  walk_at "rd"
  refine ⟨a, dr, 11, sh.length, by first | rfl | (rw [List.length_map]; rfl), hSc, hd, by omega, by omega, by omega, by omega, fun cs hcl hcs => r_retD oc fun uc Hd ed od td => ?_⟩
  obtain ⟨ach, rfl, _⟩ := Tp.invI (ns := cs) td
  have hshd := (Stp.of ed).sq hshc
  have bd := bd.up ((Stp.of ed))
  have bd := bd.add td
  walk_at "rd"
  refine ⟨pt, _, rfl, DPut.k (k := .inr (PySem.Str.ofString "chunks")) (od.at 2 rfl) (by rw [sizeLine_eq]; omega), ?_⟩
  have oe := od.set (v := .dK (putK kv (.inr (PySem.Str.ofString "chunks")) (.ref ach))) 2 rfl
  have se : Stp Hd _ := Stp.setK (u := .dK (putK kv (.inr (PySem.Str.ofString "chunks")) (.ref ach))) (od.at 2 rfl)
  have hk := hk.put (PySem.Str.ofString "chunks") (.ref ach) (by rfl)
  have hkl2 := length_putK kv (.inr (PySem.Str.ofString "chunks") : Key) (.ref ach)
  have hkl : (putK kv (.inr (PySem.Str.ofString "chunks")) (.ref ach)).length ≤ 6 := by omega
  clear hkl2 oc od
  generalize putK kv (.inr (PySem.Str.ofString "chunks")) (.ref ach) = kv at *
  generalize upd Hd pt (.dK kv) = He at *
  have oe : Own H He [(lf, .lst [.int fl]), (p8, .lst zs8), (pt, .dK kv)] := oe
  have hshe := se.sq hshd
  have bd := bd.up (se)
  have hSe := oe.old hS
  have g14 := gg 14 (by omega) (by omega)
  walk_at "rd"
  refine lcR1S (n := (gi dr 14 % 7).toNat) (fun s => s ∈ FLT) (Own.nil He) (by omega) (by omega) (fun x => rfl) ?_ fun pf Hf fs hfl hfm of0 => ?_
  · intro i p4 zs4 H' Q' hi o' q'
    have hS' := o'.old hSe
    have g15 := gg (15 + (i : Int)) (by omega) (by omega)
    walk_at "rd"
    refine r_newL (Own.nil H') (Nat.le_of_ble_eq_true rfl) fun p9 H9 o9 => ?_
    have hS9' := o9.old hS'
    walk_at "rd"
    refine r_ixM (o9.sqL 0 rfl) (by omega) (show _ < (4 : Int) by omega) fun v hv _ => ?_
    obtain ⟨ff, rfl, hff⟩ : ∃ ff, v = .str ff ∧ ff ∈ FLT := by
      simp only [List.mem_cons, List.not_mem_nil, or_false] at hv
      unfold FLT
      rcases hv with rfl | rfl | rfl | rfl
      · exact ⟨_, rfl, by simp⟩
      · exact ⟨_, rfl, by simp⟩
      · exact ⟨_, rfl, by simp⟩
      · exact ⟨_, rfl, by simp⟩
    exact (q' ff hff).mk o9
  have of := oe.add of0.ex (of0.fresh 0 rfl) (of0.at 0 rfl)
  have hshf : SqT K Hf ash (sh.map V.int) := (Stp.of of0.ex).sq hshe
  have bd := bd.up ((Stp.of of0.ex))
  walk_at "rd"
  refine r_tupLs of (of.sqL 0 rfl) fun tf Hg sg og htf => ?_
  have hshg := sg.sq hshf
  have bd := bd.up (sg)
  have bd := bd.add (Tp.tup htf (TpAll.strs fs))
  walk_at "rd"
  refine ⟨pt, _, rfl, DPut.k (k := .inr (PySem.Str.ofString "filters")) (og.at 3 rfl) (by rw [sizeLine_eq]; omega), ?_⟩
  have oh := og.set (v := .dK (putK kv (.inr (PySem.Str.ofString "filters")) (.ref tf))) 3 rfl
  have sx : Stp Hg _ := Stp.setK (u := .dK (putK kv (.inr (PySem.Str.ofString "filters")) (.ref tf))) (og.at 3 rfl)
  have hk := hk.put (PySem.Str.ofString "filters") (.ref tf) (by rfl)
  have hkl2 := length_putK kv (.inr (PySem.Str.ofString "filters") : Key) (.ref tf)
  have hkl : (putK kv (.inr (PySem.Str.ofString "filters")) (.ref tf)).length ≤ 7 := by omega
  clear hkl2
  generalize putK kv (.inr (PySem.Str.ofString "filters")) (.ref tf) = kv at *
  generalize upd Hg pt (.dK kv) = Hh at *
  have oh : Own H Hh [(lf, .lst [.int fl]), (p8, .lst zs8), (pt, .dK kv)] := oh.pick [1, 2, 3] (by decide)
  have hshh := sx.sq hshg
  have bd := bd.up (sx)
  have hSh := oh.old hS
  walk_at "rd"
  refine ⟨a, dr, 20, rfl, hSh, hd, by omega, by omega, fun m1 hm1 => r_retvs oh fun Hi ei oi => ?_⟩
  have hSi := oi.old hS
  have hshi := (Stp.of ei).sq hshh
  have bd := bd.up ((Stp.of ei))
  walk_at "rd"
  refine ⟨a, dr, 21, rfl, hSi, hd, by omega, by omega, fun m2 hm2 => r_retvs oi fun Hj ej oj => ?_⟩
  have hshj := (Stp.of ej).sq hshi
  have bd := bd.up ((Stp.of ej))
  walk_at "rd"
  refine r_newTp (K := K) (ds := [.int _, .int _]) oj (.cons (.int _) (.cons (.int _) .nil)) (Nat.le_of_ble_eq_true rfl) fun tr Hk sk ok htr => ?_
  have htr : Tp K Hk (.ref tr) (.tuple [.int ((m1 % 10 ^ 12 : Nat) : Int), .int ((m2 % 10 ^ 9 : Nat) : Int)]) := by
    rw [Int.natCast_emod, Int.natCast_emod]
    exact htr
  have hshk := sk.sq hshj
  have bd := bd.up (sk)
  have bd := bd.add htr
  walk_at "rd"
  refine ⟨pt, _, rfl, DPut.k (k := .inr (PySem.Str.ofString "root")) (ok.at 2 rfl) (by rw [sizeLine_eq]; omega), ?_⟩
  have ol := ok.set (v := .dK (putK kv (.inr (PySem.Str.ofString "root")) (.ref tr))) 2 rfl
  have sx : Stp Hk _ := Stp.setK (u := .dK (putK kv (.inr (PySem.Str.ofString "root")) (.ref tr))) (ok.at 2 rfl)
  have hk := hk.put (PySem.Str.ofString "root") (.ref tr) (by rfl)
  have hkl2 := length_putK kv (.inr (PySem.Str.ofString "root") : Key) (.ref tr)
  have hkl : (putK kv (.inr (PySem.Str.ofString "root")) (.ref tr)).length ≤ 8 := by omega
  clear hkl2
  generalize putK kv (.inr (PySem.Str.ofString "root")) (.ref tr) = kv at *
  generalize upd Hk pt (.dK kv) = Hl at *
  have ol : Own H Hl [(lf, .lst [.int fl]), (p8, .lst zs8), (pt, .dK kv)] := ol
  have hshl := sx.sq hshk
  have bd := bd.up (sx)
  walk_at "rd"
  refine r_newLs ol (Nat.zero_le _) fun pp Hm sm om => ?_
  have hshm := sm.sq hshl
  have bd := bd.up (sm)
  have hSm := om.old hS
  have g22 := gg 22 (by omega) (by omega)
  walk_at "rd"
  refine r_inN (.inr hshm) rfl (by rw [List.all_map]; exact List.all_eq_true.mpr fun _ _ => rfl) ?_
  obtain ⟨n2, hn2, hnz, hbb⟩ : ∃ n2 : Nat, n2 ≤ 10 ∧ (0 < n2 → ∀ z ∈ sh, z ≠ 0) ∧ gi dr 22 % 11 * (if (!inV (.int 0) (sh.map V.int)) = true then (1 : Int) else 0) = (n2 : Int) := by
    cases hb : inV (.int 0) (sh.map V.int) with
    | true => exact ⟨0, by omega, fun h => absurd h (by omega), by simp⟩
    | false =>
      refine ⟨(gi dr 22 % 11).toNat, by omega, fun _ z hz e => ?_, ?_⟩
      · subst e
        have : inV (.int 0) (sh.map V.int) = true := by
          unfold inV
          exact List.any_eq_true.mpr ⟨.int 0, List.mem_map_of_mem hz, by rfl⟩
        rw [hb] at this
        cases this
      · rw [if_pos (by rfl), Int.mul_one, Int.toNat_of_nonneg (by omega)]
  walk_at "rd"
  rw [hbb]
  have hN : (0 : Int) < (dr.length : Int) := by omega
  refine forR1 (n := n2) rfl (by omega) (fun k σ' H' => ∃ (ps : List PcD) (zs : List V) (v3 v4 v5 v10 v11 v12 v13 : Option V), σ' = [some (.ref a), some (.int (1 + gi dr 0 % 3)), some (.ref pm), v3, v4, v5, some (.str z), some (.ref ash), some (.ref pt), some (.ref pp), v10, v11, v12, v13] ∧ TpAll K H' zs (ps.map pcD) ∧ ps.length = k ∧ (∀ p ∈ ps, PcOk sh.length p ∧ PtD p.1) ∧ Own H H' [(pp, .lst zs), (lf, .lst [.int fl]), (p8, .lst zs8), (pt, .dK kv)] ∧ Stp Hm H') ⟨[], [], _, _, _, _, _, _, _, rfl, .nil, rfl, (fun p hp => nomatch hp), om, .refl _⟩ ?_ ?_
  · rintro k σ' H' hk ⟨ps, zs, v3, v4, v5, v10, v11, v12, v13, rfl, tz, hpl, hok, o, sp⟩
    have hnz := hnz (by omega)
    have hsh' := sp.sq hshm
    have hzl := tz.len
    rw [List.length_map] at hzl
    walk_at "rd"
    refine lcRs (n := sh.length) (fun j => gi dr ((23 + (k : Int) + (j : Int)) % (dr.length : Int)) % 9) o (by rw [List.length_map]) (by omega) (fun x => rfl) ?_ fun p1 G1 s1 o1 => ?_
    · intro j p4 zs4 H2 Q' hj o' s' q'
      have hS' := o'.old hS
      have m1 := Int.emod_nonneg (23 + (k : Int) + (j : Int)) (show (dr.length : Int) ≠ 0 by omega)
      have m2 := Int.emod_lt_of_pos (23 + (k : Int) + (j : Int)) hN
      walk_at "rd"
      rw [hlm]
      refine r_ixI hS' m1 m2 ?_
      walk_at "rd"
      exact q'.here
    walk_at "rd"
    refine r_tupLs o1 (o1.sqL 0 rfl) fun ts G2 s2 o2 hts => ?_
    have hrl : ((List.range sh.length).map fun (j : Nat) => gi dr ((23 + (k : Int) + (j : Int)) % (dr.length : Int)) % 9).length = sh.length := by rw [List.length_map, List.length_range]
    have hrb : ∀ x ∈ ((List.range sh.length).map fun (j : Nat) => gi dr ((23 + (k : Int) + (j : Int)) % (dr.length : Int)) % 9), 0 ≤ x ∧ x ≤ 5000 := by
      intro x hx
      obtain ⟨j, _, rfl⟩ := List.mem_map.mp hx
      omega
    generalize ((List.range sh.length).map fun (j : Nat) => gi dr ((23 + (k : Int) + (j : Int)) % (dr.length : Int)) % 9) = sr at *
    have hsh2 := (s1.trans s2).sq hsh'
    walk_at "rd"
    refine lcRs (n := sh.length) (fun j => gi dr ((24 + (k : Int) + (j : Int)) % (dr.length : Int)) / 4 % gi sh (j : Int)) o2 (by rw [List.length_map]) (by omega) (fun x => rfl) ?_ fun p3 G3 s3 o3 => ?_
    · intro j p4 zs4 H2 Q' hj o' s' q'
      have hS' := o'.old hS
      have hshj := s'.sq hsh2
      have m1 := Int.emod_nonneg (24 + (k : Int) + (j : Int)) (show (dr.length : Int) ≠ 0 by omega)
      have m2 := Int.emod_lt_of_pos (24 + (k : Int) + (j : Int)) hN
      have gj := hbs _ (gi_mem (ns := sh) (i := (j : Int)) (by omega) (by omega))
      have gz := hnz _ (gi_mem (ns := sh) (i := (j : Int)) (by omega) (by omega))
      walk_at "rd"
      rw [hlm]
      refine r_ixI hS' m1 m2 ?_
      walk_at "rd"
      exact q'.here
    walk_at "rd"
    refine r_tupLs o3 (o3.sqL 0 rfl) fun tt G4 s4 o4 htt => ?_
    have hsh4 := (s3.trans s4).sq hsh2
    have htb : ∀ j : Nat, j < sh.length → 0 ≤ gi ((List.range sh.length).map fun (j : Nat) => gi dr ((24 + (k : Int) + (j : Int)) % (dr.length : Int)) / 4 % gi sh (j : Int)) (j : Int) ∧ gi ((List.range sh.length).map fun (j : Nat) => gi dr ((24 + (k : Int) + (j : Int)) % (dr.length : Int)) / 4 % gi sh (j : Int)) (j : Int) < gi sh (j : Int) := by
      intro j hj
      have gj := hbs _ (gi_mem (ns := sh) (i := (j : Int)) (by omega) (by omega))
      have gz := hnz _ (gi_mem (ns := sh) (i := (j : Int)) (by omega) (by omega))
      rw [gi_rng hj]
      exact ⟨Int.emod_nonneg _ gz, Int.emod_lt_of_pos _ (by omega)⟩
    have htl : ((List.range sh.length).map fun (j : Nat) => gi dr ((24 + (k : Int) + (j : Int)) % (dr.length : Int)) / 4 % gi sh (j : Int)).length = sh.length := by rw [List.length_map, List.length_range]
    generalize ((List.range sh.length).map fun (j : Nat) => gi dr ((24 + (k : Int) + (j : Int)) % (dr.length : Int)) / 4 % gi sh (j : Int)) = tg at *
    walk_at "rd"
    refine lcRs (n := sh.length) (fun j => 1 + gi dr ((25 + (k : Int) + (j : Int)) % (dr.length : Int)) / 64 % (gi sh (j : Int) - gi tg (j : Int))) o4 (by rw [List.length_map]) (by omega) (fun x => rfl) ?_ fun p5 G5 s5 o5 => ?_
    · intro j p4 zs4 H2 Q' hj o' s' q'
      have hS' := o'.old hS
      have hshj := s'.sq hsh4
      have httj := s'.sq htt
      have m1 := Int.emod_nonneg (25 + (k : Int) + (j : Int)) (show (dr.length : Int) ≠ 0 by omega)
      have m2 := Int.emod_lt_of_pos (25 + (k : Int) + (j : Int)) hN
      have hj2 := htb j hj
      walk_at "rd"
      rw [hlm]
      refine r_ixI hS' m1 m2 ?_
      walk_at "rd"
      exact q'.here
    walk_at "rd"
    refine r_tupLs o5 (o5.sqL 0 rfl) fun tc G6 s6 o6 htc => ?_
    have hcl2 : ((List.range sh.length).map fun (j : Nat) => 1 + gi dr ((25 + (k : Int) + (j : Int)) % (dr.length : Int)) / 64 % (gi sh (j : Int) - gi tg (j : Int))).length = sh.length := by rw [List.length_map, List.length_range]
    have hcb : ∀ x ∈ ((List.range sh.length).map fun (j : Nat) => 1 + gi dr ((25 + (k : Int) + (j : Int)) % (dr.length : Int)) / 64 % (gi sh (j : Int) - gi tg (j : Int))), 0 ≤ x ∧ x ≤ 5000 := by
      intro x hx
      obtain ⟨j, hj, rfl⟩ := List.mem_map.mp hx
      have hj := List.mem_range.mp hj
      have hj2 := htb j hj
      have gj := hbs _ (gi_mem (ns := sh) (i := (j : Int)) (by omega) (by omega))
      have e1 := Int.emod_nonneg (gi dr ((25 + (k : Int) + (j : Int)) % (dr.length : Int)) / 64) (show gi sh (j : Int) - gi tg (j : Int) ≠ 0 by omega)
      have e2 := Int.emod_lt_of_pos (gi dr ((25 + (k : Int) + (j : Int)) % (dr.length : Int)) / 64) (show (0 : Int) < gi sh (j : Int) - gi tg (j : Int) by omega)
      omega
    generalize ((List.range sh.length).map fun (j : Nat) => 1 + gi dr ((25 + (k : Int) + (j : Int)) % (dr.length : Int)) / 64 % (gi sh (j : Int) - gi tg (j : Int))) = ct at *
    have hsh6 := (s5.trans s6).sq hsh4
    have hts6 := (((s3.trans s4).trans s5).trans s6).sq hts
    have htt6 := (s5.trans s6).sq htt
    have g26a := Int.emod_nonneg (26 + (k : Int)) (show (dr.length : Int) ≠ 0 by omega)
    have g26b := Int.emod_lt_of_pos (26 + (k : Int)) hN
    have g26 := hd.gi g26a g26b
    have hS6 := o6.old hS
    walk_at "rd"
    refine r_joinE ?_
    walk_at "rd"
    refine ⟨⟨_, rfl⟩, ?_⟩
    walk_at "rd"
    rw [hlm]
    refine r_ixI hS6 g26a g26b ?_
    walk_at "rd"
    refine lcR1S (n := (1 + gi dr ((26 + (k : Int)) % (dr.length : Int)) % 3).toNat) (fun z => z.length ≤ 12 ∧ ∃ cs : List Nat, z = tx cs ∧ ∀ c ∈ cs, NmC c) (Own.nil G6) (by omega) (by omega) (fun x => rfl) ?_ fun p7 G7 nms hnl hnb o70 => ?_
    · intro j p4 zs4 H2 Q' hj o' q'
      have hS' := o'.old hS6
      walk_at "rd"
      exact ⟨a, dr, 30 + k + j, by rw [show ((30 + k + j : Nat) : Int) = 30 + (k : Int) + (j : Int) by omega]; rfl, hS', hd, by omega, by omega, by omega, fun cs hcn _ h12 => q' _ ⟨by rw [tx_len]; exact h12, cs, rfl, hcn⟩⟩
    have o7 := o6.add o70.ex (o70.fresh 0 rfl) (o70.at 0 rfl)
    have s7 := Stp.of o70.ex
    have hsum := StrLaws.sumLen_le nms (B := 12) fun z hz => (hnb z hz).1
    rw [hnl] at hsum
    have hn3 : (1 + gi dr ((26 + (k : Int)) % (dr.length : Int)) % 3).toNat ≤ 3 := by omega
    walk_at "rd"
    rw [tx_sl71]
    refine ⟨_, p7, nms, rfl, rfl, .inl (o7.sqL 0 rfl), ?_, ?_⟩
    · rw [tx_len, hnl]
      show _ + _ * 1 ≤ _
      omega
    obtain ⟨jc, hjc, hjt, hjl⟩ := join_txs nms fun z hz => by
      obtain ⟨h1, cs, rfl, h2⟩ := hnb z hz
      rw [tx_len] at h1
      exact ⟨cs, rfl, h2, h1⟩
    have hjl : jc.length ≤ 1000 := by omega
    have hjp : PtD (Txt.join (tx [47]) nms) := ⟨jc, hjc, hjt, hjl⟩
    generalize Txt.join (tx [47]) nms = jn at *
    walk_at "rd"
    refine r_newTp (K := K) (ds := [.str jn, tupI sr, tupI tg, tupI ct]) o7 (.cons (.str _) (.cons (Tp.intsT (s7.sq hts6)) (.cons (Tp.intsT (s7.sq htt6)) (.cons (Tp.intsT (s7.sq htc)) .nil)))) (Nat.le_of_ble_eq_true rfl) fun t8 G8 s8 o8 h8 => ?_
    walk_at "rd"
    refine r_apps o8 4 rfl (by omega) fun G9 s9 o9 => ?_
    have sall : Stp H' G9 := (((((((s1.trans s2).trans s3).trans s4).trans s5).trans s6).trans s7).trans s8).trans s9
    refine ⟨ps ++ [(jn, sr, tg, ct)], _, _, _, _, _, _, _, _, rfl, ?_, by rw [List.length_append, hpl]; rfl, fun p hp => ?_, o9.pick [4, 5, 6, 7] (by decide), sp.trans sall⟩
    · rw [List.map_append]
      exact (tz.up sall).snoc (h8.up s9)
    · rcases List.mem_append.mp hp with hp | hp
      · exact hok p hp
      · rw [List.mem_singleton.mp hp]
        refine ⟨⟨hrl, htl, hcl2, hrb, fun x hx => ?_, hcb⟩, hjp⟩
        have hx : x ∈ tg := hx
        obtain ⟨j, hj, rfl⟩ := List.getElem_of_mem hx
        have := htb j (by omega)
        rw [gi_nat hj] at this
        have gj := hbs _ (gi_mem (ns := sh) (i := (j : Int)) (by omega) (by omega))
        omega
  · rintro σ' Hn ⟨ps, zs, v3, v4, v5, v10, v11, v12, v13, rfl, tz, hpl, hok, on, sn⟩
    have hzl := tz.len
    rw [List.length_map] at hzl
    have hshn := sn.sq hshm
    have bd := bd.up (sn)
    walk_at "rd"
    refine r_tupLs on (on.sqL 0 rfl) fun tp Ho so oo htp => ?_
    have tpp : Tp K Ho (.ref tp) (.tuple (ps.map pcD)) := .tup htp (tz.up so)
    have hsho := so.sq hshn
    have bd := bd.up (so)
    walk_at "rd"
    have bd := bd.add tpp
    refine ⟨pt, _, rfl, DPut.k (k := .inr (PySem.Str.ofString "pieces")) (oo.at 3 rfl) (by rw [sizeLine_eq]; omega), ?_⟩
    have op := oo.set (v := .dK (putK kv (.inr (PySem.Str.ofString "pieces")) (.ref tp))) 3 rfl
    have sx : Stp Ho _ := Stp.setK (u := .dK (putK kv (.inr (PySem.Str.ofString "pieces")) (.ref tp))) (oo.at 3 rfl)
    have hk := hk.put (PySem.Str.ofString "pieces") (.ref tp) (by rfl)
    have bd := bd.up sx
    walk_at "rd"
    have hz0 := gg 0 (by omega) (by omega)
    refine q _ pt ⟨1 + gi dr 0 % 3, mks, z, sh, fl, cs, fs, m1 % 10 ^ 12, m2 % 10 ^ 9, ps⟩ op.ex (op.fresh 3 rfl) ⟨by show 1 + gi dr 0 % 3 = 1 ∨ 1 + gi dr 0 % 3 = 2 ∨ 1 + gi dr 0 % 3 = 3; omega, hmll, hasc2, hmok, hz, hsl, (fun z hz => by have := hbs z hz; omega), hflb, by show cs.length ≤ 3; omega, (fun z hz => by have := hcs z hz; omega), by show fs.length ≤ 6; omega, hfm, ⟨Nat.mod_lt _ (by decide), Nat.mod_lt _ (by decide)⟩, by show ps.length ≤ 10; omega, hok⟩ ?_
    refine ⟨_, p8, ash, lf, ach, tf, tr, tp, zs8, op.at 3 rfl, hk, op.at 2 rfl, bd.1, sx.sq hsho, op.at 1 rfl, ?_, ?_, ?_, bd.2 (.ref tp, .tuple (ps.map pcD)) (by simp)⟩
    · obtain ⟨a', e, h'⟩ := Tp.invI (ns := cs) (bd.2 (.ref ach, tupI cs) (by simp))
      cases e
      exact h'
    · obtain ⟨a', xs, e, h', hx⟩ := Tp.inv (bd.2 (.ref tf, .tuple (fs.map PyData.str)) (by simp))
      cases e
      rw [strs_inv hx] at h'
      exact h'
    · obtain ⟨a', xs, e, h', hx⟩ := Tp.inv (bd.2 (.ref tr, .tuple [.int ((m1 % 10 ^ 12 : Nat) : Int), .int ((m2 % 10 ^ 9 : Nat) : Int)]) (by simp))
      cases e
      rw [TpAll.ints_inv (ns := [((m1 % 10 ^ 12 : Nat) : Int), ((m2 % 10 ^ 9 : Nat) : Int)]) hx] at h'
      exact h'
end

section
variable {P : Program} {w : World} {K : PySem.W.Frag} {mg : Str → Option Value} {base : Heap}
/-- the fields of a layout -/
def lyF (z : V) (c f t : V) : List (Str × V) := putF "filters" t (putF "fill" f (putF "chunk_shape" c (putF "kind" z [])))
theorem upd_upd (H : Hp) (p : Addr) (u v : HO) : upd (upd H p u) p v = upd H p v := by
  funext b
  unfold upd
  split <;> rfl
def sp_lyinit (C : Addr) : Sp := fun vs H Q _ => ∃ (p dx : Addr) (z c f t : V), vs = [.ref p, z, c, f, t] ∧ H p = some (.ins C dx []) ∧ Q .non (upd H p (.ins C dx (lyF z c f t)))
theorem d_lyinit {C : Addr} (T : Top K mg) (D : Cl_Layout K mg C) : KDef P w K mg base CX0 1 C ["self", "kind", "chunk_shape", "fill", "filters"] (sp_lyinit C) := by
  refine D.i_.ok sc_Layout___init__ (by rintro vs H Q E ⟨p, dx, z, c, f, t, rfl, _⟩; rfl) (fun f cdv A outer s H vs Q E hr h => ?_)
  obtain ⟨p, dx, z, c, f, t, rfl, hp, q⟩ := h
  refine ⟨_, (pss_cons (ps_fld (pv 0) (pv 1) rfl)
      (pss_cons (ps_fld (pv 0) (pv 2) rfl)
      (pss_cons (ps_fld (pv 0) (pv 3) rfl)
      (pss_one (ps_fld (pv 0) (pv 4) rfl))))), ?_⟩
  walk_at "rd"
  refine ⟨p, C, dx, [], rfl, hp, D.cl, D.a_kind, by decide, ?_⟩
  walk_at "rd"
  refine ⟨p, C, dx, _, rfl, upd_same, D.cl, D.a_chunk_shape, Nat.le_of_ble_eq_true rfl, ?_⟩
  walk_at "rd"
  refine ⟨p, C, dx, _, rfl, upd_same, D.cl, D.a_fill, Nat.le_of_ble_eq_true rfl, ?_⟩
  walk_at "rd"
  refine ⟨p, C, dx, _, rfl, upd_same, D.cl, D.a_filters, Nat.le_of_ble_eq_true rfl, ?_⟩
  rw [upd_upd, upd_upd, upd_upd]
  exact q
/-- the layout at x -/
def IsLy (K : PySem.W.Frag) (H : Hp) (C x : Addr) (z : Str) (cs : List Int) (fl : Int) (nms : List Str) : Prop := ∃ (dx c t : Addr), H x = some (.ins C dx (lyF (.str z) (.ref c) (.int fl) (.ref t))) ∧ SqT K H c (cs.map V.int) ∧ SqT K H t (nms.map V.str)
theorem IsLy.up {H H' : Hp} {C x : Addr} {z : Str} {cs : List Int} {fl : Int} {nms : List Str} (h : IsLy K H C x z cs fl nms) (s : Same H H') : IsLy K H' C x z cs fl nms := by
  obtain ⟨dx, c, t, h1, h2, h3⟩ := h
  exact ⟨dx, c, t, s _ _ h1, (Stp.of s).sq h2, (Stp.of s).sq h3⟩
end

/-! ### what an object is written as -/
def sB (s : Str) : List Int := lsB byB (s.cps.toList.map fun (c : Nat) => (c : Int))
theorem sB_tx (cs : List Nat) : sB (tx cs) = lsB byB (cs.map fun (c : Nat) => (c : Int)) := by
  unfold sB tx
  rfl
theorem sB_len {s : Str} (h : PtD s) : (sB s).length ≤ 2100 := by
  obtain ⟨cs, rfl, _, hl⟩ := h
  rw [sB_tx]
  have h1 := numB_len 20 (cs.map fun (c : Nat) => (c : Int)).length (by rw [List.length_map]; exact Nat.lt_of_le_of_lt hl (by decide))
  have h2 := flat_le (wr := byB) (m := 2) (cs.map fun (c : Nat) => (c : Int)) fun z _ => (by_len z).2
  rw [List.length_map] at h2
  unfold lsB
  rw [List.length_append]
  omega
theorem ptd_nm {s : Str} (h : NmD s) : PtD s := by
  obtain ⟨cs, rfl, h1, _, h3⟩ := h
  exact ⟨cs, rfl, fun c hc => nmc_txc (h1 c hc), by omega⟩
theorem ptd_dec {s : Str} (h : s.cps.toList.all (fun c => decide (TxC c)) = true ∧ s.cps.toList.length ≤ 1000) : PtD s := ⟨s.cps.toList, (tx_of s).symm, fun c hc => of_decide_eq_true (List.all_eq_true.mp h.1 c hc), h.2⟩
theorem ptd_flt : ∀ s ∈ FLT, PtD s := fun s hs => ptd_dec ((by decide +kernel : ∀ s ∈ FLT, s.cps.toList.all (fun c => decide (TxC c)) = true ∧ s.cps.toList.length ≤ 1000) s hs)
theorem ptd_ks : ∀ s ∈ KS, PtD s := fun s hs => ptd_dec ((by decide +kernel : ∀ s ∈ KS, s.cps.toList.all (fun c => decide (TxC c)) = true ∧ s.cps.toList.length ≤ 1000) s hs)
def intOf : PyData → Int
  | .int n => n
  | _ => 0
/-- the bytes of a value -/
def vB : PyData → List Int
  | .str s => 0 :: sB s
  | .tuple ds => 1 :: lsB intB (ds.map intOf)
  | _ => []
theorem intOf_ints (ns : List Int) : (ns.map PyData.int).map intOf = ns := by
  rw [List.map_map]
  exact List.map_id' ns
def mkB (m : Str × PyData) : List Int := sB m.1 ++ vB m.2
def mksB (ms : List (Str × PyData)) : List Int := numB ms.length ++ ms.flatMap mkB
def pcB (p : PcD) : List Int := sB p.1 ++ lsB intB p.2.1 ++ lsB intB p.2.2.1 ++ lsB intB p.2.2.2
def arrB (th : ThD) : List Int := sB th.kind ++ lsB intB th.shape ++ lsB intB th.chunks ++ lsB intB [th.fill] ++ numB th.filters.length ++ th.filters.flatMap sB ++ numB th.r1 ++ numB th.r2
def vwB (th : ThD) : List Int := sB th.kind ++ lsB intB th.shape ++ lsB intB [th.fill] ++ numB th.pieces.length ++ th.pieces.flatMap pcB
def objB (th : ThD) : List Int := th.form :: mksB th.marks ++ (if th.form = 2 then arrB th else if th.form = 3 then vwB th else [])
theorem mkB_len {m : Str × PyData} (h1 : NmD m.1) (h2 : AtV m.2) : (mkB m).length ≤ 30000 := by
  have a := sB_len (ptd_nm h1)
  unfold mkB
  rw [List.length_append]
  rcases h2 with ⟨cs, e, h3, h4⟩ | ⟨ns, e, h3, h4⟩
  · have b := sB_len (s := tx cs) ⟨cs, rfl, h3, by omega⟩
    rw [e]
    show _ + ((sB (tx cs)).length + 1) ≤ _
    omega
  · have b := lsI_len h3 (by omega)
    rw [e]
    show _ + ((lsB intB ((ns.map PyData.int).map intOf)).length + 1) ≤ _
    rw [intOf_ints]
    omega
theorem mflat_len {ms : List (Str × PyData)} (h : ∀ m ∈ ms, NmD m.1 ∧ AtV m.2) : (ms.flatMap mkB).length ≤ ms.length * 30000 := by
  induction ms with
  | nil => exact Nat.zero_le _
  | cons m r ih =>
    have h1 := mkB_len (h m List.mem_cons_self).1 (h m List.mem_cons_self).2
    have h2 := ih fun x hx => h x (List.mem_cons_of_mem _ hx)
    rw [List.flatMap_cons, List.length_append, List.length_cons]
    omega
theorem flatm_len {α : Type} {f : α → List Int} {B : Nat} {ms : List α} (h : ∀ m ∈ ms, (f m).length ≤ B) : (ms.flatMap f).length ≤ ms.length * B := by
  induction ms with
  | nil => exact Nat.zero_le _
  | cons m r ih =>
    have h1 := h m List.mem_cons_self
    have h2 := ih fun x hx => h x (List.mem_cons_of_mem _ hx)
    rw [List.flatMap_cons, List.length_append, List.length_cons, Nat.succ_mul]
    omega
theorem z29_small {ns : List Int} (h : ∀ x ∈ ns, 0 ≤ x ∧ x ≤ 5000) : ∀ x ∈ ns, Z29 x := fun x hx => by
  have := h x hx
  exact ⟨by omega, by omega⟩
theorem z29_fill {th : ThD} (h : ThOk th) : ∀ x ∈ [th.fill], Z29 x := fun x hx => by
  rw [List.mem_singleton.mp hx]
  obtain ⟨_, _, h3, h4, h5, _⟩ := k_abs _ h.kind
  have := h.fl
  exact ⟨by omega, by omega⟩
theorem pcB_len {n : Nat} {p : PcD} (hn : n ≤ 3) (h : PcOk n p ∧ PtD p.1) : (pcB p).length ≤ 70000 := by
  obtain ⟨⟨h1, h2, h3, h4, h5, h6⟩, h7⟩ := h
  have a := sB_len h7
  have b := lsI_len (z29_small h4) (by omega)
  have c := lsI_len (z29_small h5) (by omega)
  have d := lsI_len (z29_small h6) (by omega)
  unfold pcB
  rw [List.length_append, List.length_append, List.length_append]
  omega
/-! ### how it stands in the heap -/
theorem marks_bs {K : PySem.W.Frag} {H : Hp} : ∀ {marks : List (Str × PyData)} {zs : List V}, TpAll K H zs (marks.map markD) → ∃ bs : List (Str × V), bs.map (·.2) = zs ∧ bs.map (·.1) = marks.map (·.1) ∧ ∀ b ∈ bs, ∃ t ys, b.2 = V.ref t ∧ SqT K H t (.str b.1 :: ys)
  | [], _, h => by cases h; exact ⟨[], rfl, rfl, fun b hb => nomatch hb⟩
  | m :: r, _, h => by
    cases h with
    | cons a t =>
      obtain ⟨bs, e1, e2, h3⟩ := marks_bs t
      obtain ⟨t2, xs, rfl, hs, hall⟩ := Tp.inv a
      cases hall with
      | cons u v =>
        cases u
        refine ⟨(m.1, .ref t2) :: bs, by rw [List.map_cons, e1], by rw [List.map_cons, e2, List.map_cons], fun b hb => ?_⟩
        rcases List.mem_cons.mp hb with rfl | hb
        · exact ⟨t2, _, rfl, hs⟩
        · exact h3 b hb
theorem asc_bs {th : ThD} (h : ThOk th) {bs : List (Str × V)} (e : bs.map (·.1) = th.marks.map (·.1)) : AscN bs := by
  have h1 : (th.marks.map (·.1)).Pairwise fun a b : Str => a.cps.toList < b.cps.toList := List.pairwise_map.mpr h.asc
  rw [← e] at h1
  exact (List.pairwise_map (R := fun a b : Str => a.cps.toList < b.cps.toList)).mp h1
abbrev grF (t : V) : List (Str × V) := putF "attributes" t []
abbrev arF (t sh ly rt : V) : List (Str × V) := putF "root" rt (putF "layout" ly (putF "shape" sh (putF "attributes" t [])))
abbrev vwF (t z sh fl ps : V) : List (Str × V) := putF "pieces" ps (putF "fill" fl (putF "shape" sh (putF "kind" z (putF "attributes" t []))))
def IsMk (K : PySem.W.Frag) (H : Hp) (t : Addr) (th : ThD) : Prop := ∃ zs, SqT K H t zs ∧ TpAll K H zs (th.marks.map markD)
def IsGr (K : PySem.W.Frag) (H : Hp) (CG x : Addr) (th : ThD) : Prop := ∃ dx t, H x = some (.ins CG dx (grF (.ref t))) ∧ IsMk K H t th
def IsArr (K : PySem.W.Frag) (H : Hp) (CA CL x : Addr) (th : ThD) : Prop := ∃ dx t dl ly ash ach atf atr, H x = some (.ins CA dx (arF (.ref t) (.ref ash) (.ref ly) (.ref atr))) ∧ IsMk K H t th ∧ H ly = some (.ins CL dl (lyF (.str th.kind) (.ref ach) (.int th.fill) (.ref atf))) ∧
  SqT K H ash (th.shape.map V.int) ∧ SqT K H ach (th.chunks.map V.int) ∧ SqT K H atf (th.filters.map V.str) ∧ SqT K H atr [.int (th.r1 : Int), .int (th.r2 : Int)]
def IsVw (K : PySem.W.Frag) (H : Hp) (CV x : Addr) (th : ThD) : Prop := ∃ dx t ash tp, H x = some (.ins CV dx (vwF (.ref t) (.str th.kind) (.ref ash) (.int th.fill) (.ref tp))) ∧ IsMk K H t th ∧ SqT K H ash (th.shape.map V.int) ∧ Tp K H (.ref tp) (.tuple (th.pieces.map pcD))
theorem IsMk.up {K : PySem.W.Frag} {H H' : Hp} {t : Addr} {th : ThD} (h : IsMk K H t th) (s : Stp H H') : IsMk K H' t th := by
  obtain ⟨zs, h1, h2⟩ := h
  exact ⟨zs, s.sq h1, h2.up s⟩
theorem IsGr.up {K : PySem.W.Frag} {H H' : Hp} {C x : Addr} {th : ThD} (h : IsGr K H C x th) (s : Same H H') : IsGr K H' C x th := by
  obtain ⟨dx, t, h1, h2⟩ := h
  exact ⟨dx, t, s _ _ h1, h2.up (.of s)⟩
theorem IsArr.up {K : PySem.W.Frag} {H H' : Hp} {C D x : Addr} {th : ThD} (h : IsArr K H C D x th) (s : Same H H') : IsArr K H' C D x th := by
  obtain ⟨dx, t, dl, ly, ash, ach, atf, atr, h1, h2, h3, h4, h5, h6, h7⟩ := h
  have z := Stp.of s
  exact ⟨dx, t, dl, ly, ash, ach, atf, atr, s _ _ h1, h2.up z, s _ _ h3, z.sq h4, z.sq h5, z.sq h6, z.sq h7⟩
theorem IsVw.up {K : PySem.W.Frag} {H H' : Hp} {C x : Addr} {th : ThD} (h : IsVw K H C x th) (s : Same H H') : IsVw K H' C x th := by
  obtain ⟨dx, t, ash, tp, h1, h2, h3, h4⟩ := h
  have z := Stp.of s
  exact ⟨dx, t, ash, tp, s _ _ h1, h2.up z, z.sq h3, h4.up z⟩
theorem stp_extN {H H' : Hp} (e : LamX.ExtN H H') : Stp H H' := fun b ys h => by
  rcases h with h | ⟨o, h⟩
  · exact .inl (e _ _ h fun ps z => nomatch z)
  · exact .inr ⟨o, e _ _ h fun ps z => nomatch z⟩
theorem ThAt.upN {K : PySem.W.Frag} {H H' : Hp} {pt : Addr} {th : ThD} (h : ThAt K H pt th) (e : LamX.ExtN H H') : ThAt K H' pt th := by
  obtain ⟨kv, pm, ash, lf, ach, atf, atr, atp, zs, h1, h2, h3, h4, h5, h6, h7, h8, h9, h10⟩ := h
  have z := stp_extN e
  exact ⟨kv, pm, ash, lf, ach, atf, atr, atp, zs, e _ _ h1 (fun ps z => nomatch z), h2, e _ _ h3 (fun ps z => nomatch z), h4.up z, z.sq h5, e _ _ h6 (fun ps z => nomatch z), z.sq h7, z.sq h8, z.sq h9, h10.up z⟩
theorem ThAt.up {K : PySem.W.Frag} {H H' : Hp} {pt : Addr} {th : ThD} (h : ThAt K H pt th) (s : Same H H') : ThAt K H' pt th := h.upN (.of s)
theorem Has.get {kv : List (Key × V)} {l : List (Str × V)} (h : Has kv l) {H : Hp} {pt : Addr} (hp : H pt = some (.dK kv)) {s : Str} {v : V} (hm : (s, v) ∈ l) : DGet H pt (.str s) (some v) := by
  have := DGet.k (k := (.inr s : Key)) hp
  rw [h _ hm] at this
  exact this
/-- a value of an attribute -/
theorem atv_cases {K : PySem.W.Frag} {H : Hp} {v : V} {d : PyData} (h : Tp K H v d) (ha : AtV d) : (∃ cs, v = .str (tx cs) ∧ d = .str (tx cs) ∧ valTx cs) ∨ ∃ (a : Addr) (ns : List Int), v = .ref a ∧ d = .tuple (ns.map PyData.int) ∧ SqT K H a (ns.map V.int) ∧ (∀ n ∈ ns, Z29 n) ∧ ns.length ≤ 50 := by
  rcases ha with ⟨cs, rfl, hc⟩ | ⟨ns, rfl, h1, h2⟩
  · cases h
    exact .inl ⟨cs, rfl, rfl, hc⟩
  · obtain ⟨a, rfl, hs⟩ := Tp.invI h
    exact .inr ⟨a, ns, rfl, rfl, hs, h1, h2⟩
theorem mark_inv {K : PySem.W.Frag} {H : Hp} {x : V} {m : Str × PyData} (h : Tp K H x (markD m)) : ∃ t v, x = .ref t ∧ SqT K H t [.str m.1, v] ∧ Tp K H v m.2 := by
  obtain ⟨t, xs, rfl, hs, hall⟩ := Tp.inv h
  cases hall with
  | cons a b =>
    cases a
    cases b with
    | cons c e =>
      cases e
      exact ⟨t, _, rfl, hs, c⟩
section
variable {K : PySem.W.Frag} {H : Hp} {Q : VK} {E : XK}
theorem wt_ {s : Str} (h : PtD s) (q : RetO H Q (.lst ((sB s).map V.int))) : sp_write_text [.str s] H Q E := by
  obtain ⟨cs, rfl, _, hl⟩ := h
  rw [sB_tx] at q
  exact ⟨cs, rfl, by omega, q⟩
theorem lt_ {s : Str} (h : PtD s) (q : RetO H Q (.lst ((sB s).map V.int))) : sp_ltb [.str s] H Q E := by
  obtain ⟨cs, rfl, hc, hl⟩ := h
  rw [sB_tx] at q
  exact ⟨cs, rfl, hc, hl, q⟩
theorem r_isiO {x C D dx : Addr} {fs : List (Str × V)} {b : Bool} (hx : H x = some (.ins C dx fs)) (cl : Cls K C) (ha : PySem.W.findIn K (.ref C) "__class__" = some (some (.builtin "object.__class__")) ∧ PySem.W.mroIn K C (.type "object") = some true)
    (hn : PySem.W.specialIn K (.builtin "object.__class__") "__get__" = some (some (.builtin "getset_descriptor.__get__"))) (ht : PySem.W.takesIn K (.builtin "object.__class__") = some true) (kit : PySem.W.kitOne K (.ref C) (.ref D) = some b) (q : Q (.bl b) H) : rIsi K [.ref x, .ref D] H Q :=
  ⟨.ref x, .ref D, .ref C, .ref D, b, rfl, .own D, .base (.ins hx cl ha.1 hn ht ha.2), kit, q⟩
theorem kit_self (C : Addr) : PySem.W.kitOne K (.ref C) (.ref C) = some true := by
  unfold PySem.W.kitOne
  rw [if_pos (by simp)]
end

section
variable {P : Program} {w : World} {K : PySem.W.Frag} {mg : Str → Option Value} {base : Heap}
/-! ### attributes written -/
def sp_write_attrs (K : PySem.W.Frag) : Sp := fun vs H Q _ => ∃ (t : Addr) (th : ThD), vs = [.ref t] ∧ IsMk K H t th ∧ ThOk th ∧ RetO H Q (.lst ((mksB th.marks).map V.int))
theorem d_write_attrs (T : Top K mg) : Def P w K mg base CX0 4 "write_attributes" ["attributes"] (sp_write_attrs K) := by
  have G_write_number : Def P w K mg base CX0 1 "write_number" ["number"] sp_write_number := d_write_number T
  have G_write_text : Def P w K mg base CX0 3 "write_text" ["text"] sp_write_text := d_write_text T
  have G_write_integers : Def P w K mg base CX0 3 "write_integers" ["numbers"] (sp_write_integersQ K) := d_write_integersQ T
  obtain ⟨t1, g_TEXT_VALUE⟩ := T.g_TEXT_VALUE
  obtain ⟨t2, g_LIST_VALUE⟩ := T.g_LIST_VALUE
  refine T.f_write_attributes.ok sc_write_attributes (by rintro vs H Q E ⟨t, th, rfl, _⟩; rfl) (fun f cdv A outer s H vs Q E hr h => ?_)
  obtain ⟨t, th, rfl, ⟨zs, hsq, hall⟩, hok, q⟩ := h
  refine ⟨_, (pss_cons (ps_set (i := 1) sc_write_attributes.nd rfl (Or.inl rfl) (pe_callD G_write_number (hr.mono (by decide)) (pa_cons (pe_callB (r := Evl.rLenS K) call_len_seq (by rfl) T.b_len (by decide +kernel) (pa_cons (pv 0) pa_nil)) pa_nil)))
      (pss_cons (ps_for PassesOwn.never rfl (pi_tup (pv 0)) (pg_tup (n := 2) rfl (pgs_cons (pg_name (i := 2) sc_write_attributes.nd rfl (Or.inl rfl)) (pgs_cons (pg_name (i := 3) sc_write_attributes.nd rfl (Or.inl rfl)) pgs_nil))) (pss_cons (ps_expr (pe_bm PySem.F.plainAttrs_list PySem.F.slot_list_extend PySem.F.type_list_extend mt_extend (pv 1) (pa_cons (pe_callD G_write_text (hr.mono (by decide)) (pa_cons (pv 2) pa_nil)) pa_nil)))
      (pss_one (ps_if (pt_val (pe_callB (r := rIsi K) call_isi (by rfl) T.b_isinstance (by decide +kernel) (pa_cons (pv 3) (pa_cons (pe_bltn (v := .ty "str") (by rfl) T.b_str (by decide +kernel) rfl) pa_nil)))) (pss_one (ps_expr (pe_bm PySem.F.plainAttrs_list PySem.F.slot_list_extend PySem.F.type_list_extend mt_extend (pv 1) (pa_cons (pe_op op_cat (pe_lst (pa_cons (pe_glob (v := .int 0) rfl g_TEXT_VALUE ⟨_, rfl⟩) pa_nil)) (pe_callD G_write_text (hr.mono (by decide)) (pa_cons (pv 3) pa_nil))) pa_nil)))) (pss_one (ps_expr (pe_bm PySem.F.plainAttrs_list PySem.F.slot_list_extend PySem.F.type_list_extend mt_extend (pv 1) (pa_cons (pe_op op_cat (pe_lst (pa_cons (pe_glob (v := .int 1) rfl g_LIST_VALUE ⟨_, rfl⟩) pa_nil)) (pe_callD G_write_integers (hr.mono (by decide)) (pa_cons (pv 3) pa_nil))) pa_nil))))))))
      (pss_one (ps_ret (pv 1))))), ?_⟩
  have hlen := hall.len
  rw [List.length_map] at hlen
  have hn := numB_len 20 th.marks.length (Nat.lt_of_le_of_lt hok.mlen (by decide))
  walk_at "rd"
  refine ⟨th.marks.length, by rw [hlen]; rfl, by omega, r_ret1 (Own.nil H) fun p1 H1 o1 => ?_⟩
  walk_at "rd"
  refine forT (o1.oldT hsq) (fun i σ' H' => ∃ (v2 v3 : Option V) (L : List (Addr × HO)), σ' = [some (.ref t), some (.ref p1), v2, v3] ∧ Own H H' ((p1, .lst ((numB th.marks.length ++ (th.marks.take i).flatMap mkB).map V.int)) :: L)) ⟨_, _, [], rfl, (by rw [List.take_zero, List.flatMap_nil, List.append_nil]; exact o1)⟩ (fun i σ' H' _ ⟨_, _, _, _, o⟩ => o.oldT hsq) ?_ ?_
  · rintro i x σ' H' hx ⟨v2, v3, L, rfl, o⟩
    obtain ⟨d, hd, tx1⟩ := hall.getV hx
    rw [List.getElem?_map] at hd
    obtain ⟨m, hm, rfl⟩ := Option.map_eq_some_iff.mp hd
    obtain ⟨t3, v, rfl, hs3, tv⟩ := mark_inv tx1
    obtain ⟨hnm, hav⟩ := hok.mok m (List.mem_of_getElem? hm)
    have hpn := ptd_nm hnm
    have hpl := sB_len hpn
    have hfi := mflat_len (ms := th.marks.take i) fun m hm2 => hok.mok m (List.mem_of_mem_take hm2)
    have htl : (th.marks.take i).length ≤ th.marks.length := by rw [List.length_take]; omega
    have hml := hok.mlen
    have hcat : (th.marks.take (i + 1)).flatMap mkB = (th.marks.take i).flatMap mkB ++ mkB m := take_flat hm
    refine r_gTup2 (o.oldT hs3) ?_
    walk_at "rd"
    refine wt_ hpn (r_ret1 o fun p2 H2 o2 => ?_)
    walk_at "rd"
    refine r_ext o2 1 0 rfl rfl (by rw [List.length_map, List.length_map, List.length_append]; omega) fun H3 o3 => ?_
    rw [← List.map_append] at o3
    have o3 := o3.pick1 1 rfl
    have fin : ∀ {Hx Lx}, Own H Hx ((p1, .lst ((numB th.marks.length ++ (th.marks.take i).flatMap mkB ++ sB m.1 ++ vB m.2).map V.int)) :: Lx) → Own H Hx ((p1, .lst ((numB th.marks.length ++ (th.marks.take (i + 1)).flatMap mkB).map V.int)) :: Lx) := fun {Hx Lx} ox => by
      rw [hcat]
      unfold mkB
      rw [← List.append_assoc, ← List.append_assoc]
      exact ox
    rcases atv_cases tv hav with ⟨cs, rfl, e2, hcs⟩ | ⟨a4, ns, rfl, e2, hs4, hz, hnl⟩
    · have hpt : PtD (tx cs) := ⟨cs, rfl, hcs.1, by have := hcs.2; omega⟩
      have hpl2 := sB_len hpt
      walk_at "rd"
      refine r_newL o3 (Nat.le_of_ble_eq_true rfl) fun p4 H4 o4 => ?_
      walk_at "rd"
      refine wt_ hpt (r_ret1 o4 fun p5 H5 o5 => ?_)
      walk_at "rd"
      refine r_cat o5 (o5.at 1 rfl) (o5.at 0 rfl) (by rw [List.length_map]; show 1 + _ ≤ _; omega) fun p6 H6 o6 => ?_
      walk_at "rd"
      refine r_ext o6 3 0 rfl rfl (by rw [List.length_map, List.length_append, List.length_append, List.length_append, List.length_map]; show _ + (1 + _) ≤ _; omega) fun H7 o7 => ?_
      have o7 := o7.pick1 3 rfl
      refine ⟨_, _, [], rfl, fin ?_⟩
      rw [e2]
      show Own H H7 [(p1, .lst ((numB th.marks.length ++ (th.marks.take i).flatMap mkB ++ sB m.1 ++ 0 :: sB (tx cs)).map V.int))]
      rw [List.map_append]
      exact o7
    · have hpl2 := lsI_len hz (by omega)
      have hs43 := o3.oldT hs4
      walk_at "rd"
      refine r_newL o3 (Nat.le_of_ble_eq_true rfl) fun p4 H4 o4 => ?_
      walk_at "rd"
      refine ⟨a4, ns, rfl, .inr (o4.oldT hs4), hz, by omega, r_ret1 o4 fun p5 H5 o5 => ?_⟩
      walk_at "rd"
      refine r_cat o5 (o5.at 1 rfl) (o5.at 0 rfl) (by rw [List.length_map]; show 1 + _ ≤ _; omega) fun p6 H6 o6 => ?_
      walk_at "rd"
      refine r_ext o6 3 0 rfl rfl (by rw [List.length_map, List.length_append, List.length_append, List.length_append, List.length_map]; show _ + (1 + _) ≤ _; omega) fun H7 o7 => ?_
      have o7 := o7.pick1 3 rfl
      refine ⟨_, _, [], rfl, fin ?_⟩
      rw [e2]
      show Own H H7 [(p1, .lst ((numB th.marks.length ++ (th.marks.take i).flatMap mkB ++ sB m.1 ++ 1 :: lsB intB ((ns.map PyData.int).map intOf)).map V.int))]
      rw [List.map_append, intOf_ints]
      exact o7
  · rintro σ' H' ⟨v2, v3, L, rfl, o⟩
    rw [hlen, List.take_length] at o
    walk_at "rd"
    exact q.mk o 0 rfl
end
/-! ### arrays and views written -/
section
variable {P : Program} {w : World} {K : PySem.W.Frag} {mg : Str → Option Value} {base : Heap}
def sp_write_array (K : PySem.W.Frag) (CA CL : Addr) : Sp := fun vs H Q _ => ∃ (x : Addr) (th : ThD), vs = [.ref x] ∧ IsArr K H CA CL x th ∧ ThOk th ∧ RetO H Q (.lst ((arrB th).map V.int))
theorem d_write_array {CA CL : Addr} (T : Top K mg) (C_ArrayObject : Cl_ArrayObject K mg CA) (C_Layout : Cl_Layout K mg CL) : Def P w K mg base CX0 4 "write_array" ["thing"] (sp_write_array K CA CL) := by
  have G_write_number : Def P w K mg base CX0 1 "write_number" ["number"] sp_write_number := d_write_number T
  have G_write_text : Def P w K mg base CX0 3 "write_text" ["text"] sp_write_text := d_write_text T
  have G_write_integers : Def P w K mg base CX0 3 "write_integers" ["numbers"] (sp_write_integersQ K) := d_write_integersQ T
  refine T.f_write_array.ok sc_write_array (by rintro vs H Q E ⟨x, th, rfl, _⟩; rfl) (fun f cdv A outer s H vs Q E hr h => ?_)
  obtain ⟨x, th, rfl, ⟨dx, t, dl, ly, ash, ach, atf, atr, h1, h2, h3, h4, h5, h6, h7⟩, hok, q⟩ := h
  refine ⟨_, (pss_cons (ps_set (i := 1) sc_write_array.nd rfl (Or.inl rfl) (pe_fld (pv 0) rfl))
      (pss_cons (ps_set (i := 2) sc_write_array.nd rfl (Or.inl rfl) (pe_op op_cat (pe_callD G_write_text (hr.mono (by decide)) (pa_cons (pe_fld (pv 1) rfl) pa_nil)) (pe_callD G_write_integers (hr.mono (by decide)) (pa_cons (pe_fld (pv 0) rfl) pa_nil))))
      (pss_cons (ps_expr (pe_bm PySem.F.plainAttrs_list PySem.F.slot_list_extend PySem.F.type_list_extend mt_extend (pv 2) (pa_cons (pe_op op_cat (pe_callD G_write_integers (hr.mono (by decide)) (pa_cons (pe_fld (pv 1) rfl) pa_nil)) (pe_callD G_write_integers (hr.mono (by decide)) (pa_cons (pe_lst (pa_cons (pe_fld (pv 1) rfl) pa_nil)) pa_nil))) pa_nil)))
      (pss_cons (ps_expr (pe_bm PySem.F.plainAttrs_list PySem.F.slot_list_extend PySem.F.type_list_extend mt_extend (pv 2) (pa_cons (pe_callD G_write_number (hr.mono (by decide)) (pa_cons (pe_callB (r := Evl.rLenS K) call_len_seq (by rfl) T.b_len (by decide +kernel) (pa_cons (pe_fld (pv 1) rfl) pa_nil)) pa_nil)) pa_nil)))
      (pss_cons (ps_for PassesOwn.never rfl (pi_tup (pe_fld (pv 1) rfl)) (pg_name (i := 3) sc_write_array.nd rfl (Or.inl rfl)) (pss_one (ps_expr (pe_bm PySem.F.plainAttrs_list PySem.F.slot_list_extend PySem.F.type_list_extend mt_extend (pv 2) (pa_cons (pe_callD G_write_text (hr.mono (by decide)) (pa_cons (pv 3) pa_nil)) pa_nil)))))
      (pss_cons (ps_asg (pe_fld (pv 0) rfl) (pg_tup (n := 2) rfl (pgs_cons (pg_name (i := 4) sc_write_array.nd rfl (Or.inl rfl)) (pgs_cons (pg_name (i := 5) sc_write_array.nd rfl (Or.inl rfl)) pgs_nil))))
      (pss_one (ps_ret (pe_op op_cat (pe_op op_cat (pv 2) (pe_callD G_write_number (hr.mono (by decide)) (pa_cons (pv 4) pa_nil))) (pe_callD G_write_number (hr.mono (by decide)) (pa_cons (pv 5) pa_nil))))))))))), ?_⟩
  have hkp := ptd_ks _ hok.kind
  have hkl := sB_len hkp
  have hz1 : ∀ z ∈ th.shape, Z29 z := z29_small fun z hz => by have := hok.shb z hz; omega
  have hz2 : ∀ z ∈ th.chunks, Z29 z := z29_small hok.chb
  have hz3 := z29_fill hok
  have hl1 := lsI_len hz1 (by have := hok.shl; omega)
  have hl2 := lsI_len hz2 (by have := hok.chl; omega)
  have hl3 := lsI_len hz3 (by show 1 ≤ 1000; decide)
  walk_at "rd"
  refine ⟨x, CA, dx, _, .ref ly, rfl, h1, C_ArrayObject.cl, C_ArrayObject.a_layout, rfl, ?_⟩
  walk_at "rd"
  refine ⟨ly, CL, dl, _, .str th.kind, rfl, h3, C_Layout.cl, C_Layout.a_kind, rfl, ?_⟩
  walk_at "rd"
  refine wt_ hkp (r_ret1 (Own.nil H) fun p1 H1 o1 => ?_)
  walk_at "rd"
  refine ⟨x, CA, dx, _, .ref ash, rfl, o1.ex _ _ h1, C_ArrayObject.cl, C_ArrayObject.a_shape, rfl, ?_⟩
  walk_at "rd"
  refine ⟨ash, th.shape, rfl, .inr (o1.oldT h4), hz1, by have := hok.shl; omega, r_ret1 o1 fun p2 H2 o2 => ?_⟩
  walk_at "rd"
  refine r_cat o2 (o2.at 1 rfl) (o2.at 0 rfl) (by rw [List.length_map, List.length_map]; omega) fun p3 H3 o3 => ?_
  rw [← List.map_append] at o3
  have o3 := o3.pick1 0 rfl
  walk_at "rd"
  refine ⟨ly, CL, dl, _, .ref ach, rfl, o3.ex _ _ h3, C_Layout.cl, C_Layout.a_chunk_shape, rfl, ?_⟩
  walk_at "rd"
  refine ⟨ach, th.chunks, rfl, .inr (o3.oldT h5), hz2, by have := hok.chl; omega, r_ret1 o3 fun p4 H4 o4 => ?_⟩
  walk_at "rd"
  refine ⟨ly, CL, dl, _, .int th.fill, rfl, o4.ex _ _ h3, C_Layout.cl, C_Layout.a_fill, rfl, ?_⟩
  walk_at "rd"
  refine r_newL o4 (Nat.le_of_ble_eq_true rfl) fun p5 H5 o5 => ?_
  walk_at "rd"
  refine ⟨p5, [th.fill], rfl, .inl (o5.sqL 0 rfl), hz3, by show 1 ≤ 1000; decide, r_ret1 o5 fun p6 H6 o6 => ?_⟩
  walk_at "rd"
  refine r_cat o6 (o6.at 2 rfl) (o6.at 0 rfl) (by rw [List.length_map, List.length_map]; omega) fun p7 H7 o7 => ?_
  rw [← List.map_append] at o7
  walk_at "rd"
  refine r_ext o7 4 0 rfl rfl (by rw [List.length_map, List.length_map, List.length_append, List.length_append]; omega) fun H8 o8 => ?_
  rw [← List.map_append] at o8
  have o8 := o8.pick1 4 rfl
  walk_at "rd"
  refine ⟨ly, CL, dl, _, .ref atf, rfl, o8.ex _ _ h3, C_Layout.cl, C_Layout.a_filters, rfl, ?_⟩
  have hn := numB_len 20 th.filters.length (Nat.lt_of_le_of_lt hok.ftl (by decide))
  walk_at "rd"
  refine ⟨th.filters.length, by rw [List.length_map]; rfl, by omega, r_ret1 o8 fun p9 H9 o9 => ?_⟩
  walk_at "rd"
  refine r_ext o9 1 0 rfl rfl (by rw [List.length_map, List.length_map, List.length_append, List.length_append, List.length_append]; omega) fun Ha oa => ?_
  rw [← List.map_append] at oa
  have oa := oa.pick1 1 rfl
  walk_at "rd"
  refine ⟨ly, CL, dl, _, .ref atf, rfl, oa.ex _ _ h3, C_Layout.cl, C_Layout.a_filters, rfl, ?_⟩
  have hpre : (sB th.kind ++ lsB intB th.shape ++ (lsB intB th.chunks ++ lsB intB [th.fill]) ++ numB th.filters.length).length ≤ 80000 := by
    rw [List.length_append, List.length_append, List.length_append, List.length_append]
    omega
  have hasc : sB th.kind ++ lsB intB th.shape ++ (lsB intB th.chunks ++ lsB intB [th.fill]) ++ numB th.filters.length = sB th.kind ++ lsB intB th.shape ++ lsB intB th.chunks ++ lsB intB [th.fill] ++ numB th.filters.length := by
    rw [← List.append_assoc]
  rw [hasc] at hpre
  rw [hasc] at oa
  have harr : arrB th = sB th.kind ++ lsB intB th.shape ++ lsB intB th.chunks ++ lsB intB [th.fill] ++ numB th.filters.length ++ th.filters.flatMap sB ++ numB th.r1 ++ numB th.r2 := rfl
  rw [harr] at q
  generalize sB th.kind ++ lsB intB th.shape ++ lsB intB th.chunks ++ lsB intB [th.fill] ++ numB th.filters.length = pre at *
  have hfb : ∀ s ∈ th.filters, (sB s).length ≤ 2100 := fun s hs => sB_len (ptd_flt s (hok.ftb s hs))
  have hftl := hok.ftl
  refine forT (oa.oldT h6) (fun i σ' H' => ∃ (v3 v4 v5 : Option V) (L : List (Addr × HO)), σ' = [some (.ref x), some (.ref ly), some (.ref p3), v3, v4, v5] ∧ Own H H' ((p3, .lst ((pre ++ (th.filters.take i).flatMap sB).map V.int)) :: L)) ⟨_, _, _, [], rfl, (by rw [List.take_zero, List.flatMap_nil, List.append_nil]; exact oa)⟩ (fun i σ' H' _ ⟨_, _, _, _, _, o⟩ => o.oldT h6) ?_ ?_
  · rintro i y σ' H' hy ⟨v3, v4, v5, L, rfl, o⟩
    rw [List.getElem?_map] at hy
    obtain ⟨s2, hs2, rfl⟩ := Option.map_eq_some_iff.mp hy
    have hm := List.mem_of_getElem? hs2
    have hfi := flatm_len (ms := th.filters.take i) (f := sB) (B := 2100) fun s hs => hfb s (List.mem_of_mem_take hs)
    have htl : (th.filters.take i).length ≤ th.filters.length := by rw [List.length_take]; omega
    have hfl2 := hfb s2 hm
    have hcat : (th.filters.take (i + 1)).flatMap sB = (th.filters.take i).flatMap sB ++ sB s2 := take_flat hs2
    walk_at "rd"
    refine wt_ (ptd_flt s2 (hok.ftb s2 hm)) (r_ret1 o fun p2 H2 o2 => ?_)
    walk_at "rd"
    refine r_ext o2 1 0 rfl rfl (by rw [List.length_map, List.length_map, List.length_append]; omega) fun H3 o3 => ?_
    rw [← List.map_append, List.append_assoc, ← hcat] at o3
    exact ⟨_, _, _, [], rfl, o3.pick1 1 rfl⟩
  · rintro σ' H' ⟨v3, v4, v5, L, rfl, o⟩
    rw [List.length_map, List.take_length] at o
    have hfi := flatm_len (ms := th.filters) (f := sB) (B := 2100) hfb
    have hr1 := numB_len 20 th.r1 (Nat.lt_trans hok.rb.1 (by decide))
    have hr2 := numB_len 20 th.r2 (Nat.lt_trans hok.rb.2 (by decide))
    walk_at "rd"
    refine ⟨x, CA, dx, _, .ref atr, rfl, o.ex _ _ h1, C_ArrayObject.cl, C_ArrayObject.a_root, rfl, ?_⟩
    refine r_gTup2 (o.oldT h7) ?_
    walk_at "rd"
    refine ⟨th.r1, rfl, by omega, r_ret1 o fun p2 H2 o2 => ?_⟩
    walk_at "rd"
    refine r_cat o2 (o2.at 1 rfl) (o2.at 0 rfl) (by rw [List.length_map, List.length_map, List.length_append]; omega) fun p4 H4 o4 => ?_
    rw [← List.map_append] at o4
    walk_at "rd"
    refine ⟨th.r2, rfl, by omega, r_ret1 o4 fun p5 H5 o5 => ?_⟩
    walk_at "rd"
    refine r_cat o5 (o5.at 1 rfl) (o5.at 0 rfl) (by rw [List.length_map, List.length_map, List.length_append, List.length_append]; omega) fun p6 H6 o6 => ?_
    rw [← List.map_append] at o6
    exact q.mk o6 0 rfl
end

theorem r_gTup4o {K : PySem.W.Frag} {H : Hp} {σ : L2.St} {a : Addr} {x y z u : V} {i j k l : Nat} {R : L2.St → Hp → Prop} (h : SqT K H a [x, y, z, u]) (q : R ((((σ.set i (some x)).set j (some y)).set k (some z)).set l (some u)) H) : gTup K 4 (gCons (gName i) (gCons (gName j) (gCons (gName k) (gCons (gName l) gNil)))) (.ref a) σ H R :=
  ⟨a, [x, y, z, u], rfl, h, rfl, x, [y, z, u], rfl, y, [z, u], rfl, z, [u], rfl, u, [], rfl, rfl, q⟩
section
variable {P : Program} {w : World} {K : PySem.W.Frag} {mg : Str → Option Value} {base : Heap}
theorem pc_inv {H : Hp} {x : V} {p : PcD} (h : Tp K H x (pcD p)) : ∃ t a1 a2 a3, x = .ref t ∧ SqT K H t [.str p.1, .ref a1, .ref a2, .ref a3] ∧ SqT K H a1 (p.2.1.map V.int) ∧ SqT K H a2 (p.2.2.1.map V.int) ∧ SqT K H a3 (p.2.2.2.map V.int) := by
  obtain ⟨t, xs, rfl, hs, hall⟩ := Tp.inv h
  cases hall with
  | cons a b =>
    cases a
    cases b with
    | cons c e =>
      cases e with
      | cons c2 e2 =>
        cases e2 with
        | cons c3 e3 =>
          cases e3
          obtain ⟨a1, rfl, g1⟩ := Tp.invI c
          obtain ⟨a2, rfl, g2⟩ := Tp.invI c2
          obtain ⟨a3, rfl, g3⟩ := Tp.invI c3
          exact ⟨t, a1, a2, a3, rfl, hs, g1, g2, g3⟩
def sp_write_view (K : PySem.W.Frag) (CV : Addr) : Sp := fun vs H Q _ => ∃ (x : Addr) (th : ThD), vs = [.ref x] ∧ IsVw K H CV x th ∧ ThOk th ∧ RetO H Q (.lst ((vwB th).map V.int))
theorem d_write_view {CV : Addr} (T : Top K mg) (C_View : Cl_View K mg CV) : Def P w K mg base CX0 4 "write_view" ["thing"] (sp_write_view K CV) := by
  have G_write_number : Def P w K mg base CX0 1 "write_number" ["number"] sp_write_number := d_write_number T
  have G_write_text : Def P w K mg base CX0 3 "write_text" ["text"] sp_write_text := d_write_text T
  have G_write_integers : Def P w K mg base CX0 3 "write_integers" ["numbers"] (sp_write_integersQ K) := d_write_integersQ T
  refine T.f_write_view.ok sc_write_view (by rintro vs H Q E ⟨x, th, rfl, _⟩; rfl) (fun f cdv A outer s H vs Q E hr h => ?_)
  obtain ⟨x, th, rfl, ⟨dx, t, ash, tp, h1, h2, h3, h4⟩, hok, q⟩ := h
  refine ⟨_, (pss_cons (ps_set (i := 1) sc_write_view.nd rfl (Or.inl rfl) (pe_op op_cat (pe_op op_cat (pe_callD G_write_text (hr.mono (by decide)) (pa_cons (pe_fld (pv 0) rfl) pa_nil)) (pe_callD G_write_integers (hr.mono (by decide)) (pa_cons (pe_fld (pv 0) rfl) pa_nil))) (pe_callD G_write_integers (hr.mono (by decide)) (pa_cons (pe_lst (pa_cons (pe_fld (pv 0) rfl) pa_nil)) pa_nil))))
      (pss_cons (ps_expr (pe_bm PySem.F.plainAttrs_list PySem.F.slot_list_extend PySem.F.type_list_extend mt_extend (pv 1) (pa_cons (pe_callD G_write_number (hr.mono (by decide)) (pa_cons (pe_callB (r := Evl.rLenS K) call_len_seq (by rfl) T.b_len (by decide +kernel) (pa_cons (pe_fld (pv 0) rfl) pa_nil)) pa_nil)) pa_nil)))
      (pss_cons (ps_for PassesOwn.never rfl (pi_tup (pe_fld (pv 0) rfl)) (pg_tup (n := 4) rfl (pgs_cons (pg_name (i := 2) sc_write_view.nd rfl (Or.inl rfl)) (pgs_cons (pg_name (i := 3) sc_write_view.nd rfl (Or.inl rfl)) (pgs_cons (pg_name (i := 4) sc_write_view.nd rfl (Or.inl rfl)) (pgs_cons (pg_name (i := 5) sc_write_view.nd rfl (Or.inl rfl)) pgs_nil))))) (pss_cons (ps_expr (pe_bm PySem.F.plainAttrs_list PySem.F.slot_list_extend PySem.F.type_list_extend mt_extend (pv 1) (pa_cons (pe_callD G_write_text (hr.mono (by decide)) (pa_cons (pv 2) pa_nil)) pa_nil)))
      (pss_one (ps_expr (pe_bm PySem.F.plainAttrs_list PySem.F.slot_list_extend PySem.F.type_list_extend mt_extend (pv 1) (pa_cons (pe_op op_cat (pe_op op_cat (pe_callD G_write_integers (hr.mono (by decide)) (pa_cons (pv 3) pa_nil)) (pe_callD G_write_integers (hr.mono (by decide)) (pa_cons (pv 4) pa_nil))) (pe_callD G_write_integers (hr.mono (by decide)) (pa_cons (pv 5) pa_nil))) pa_nil))))))
      (pss_one (ps_ret (pv 1)))))), ?_⟩
  have hkp := ptd_ks _ hok.kind
  have hkl := sB_len hkp
  have hz1 : ∀ z ∈ th.shape, Z29 z := z29_small fun z hz => by have := hok.shb z hz; omega
  have hz3 := z29_fill hok
  have hl1 := lsI_len hz1 (by have := hok.shl; omega)
  have hl3 := lsI_len hz3 (by show 1 ≤ 1000; decide)
  obtain ⟨tp', xs, e, hsp, hall⟩ := Tp.inv h4
  cases e
  have hlen := hall.len
  rw [List.length_map] at hlen
  have hn := numB_len 20 th.pieces.length (Nat.lt_of_le_of_lt hok.pcl (by decide))
  walk_at "rd"
  refine ⟨x, CV, dx, _, .str th.kind, rfl, h1, C_View.cl, C_View.a_kind, rfl, ?_⟩
  walk_at "rd"
  refine wt_ hkp (r_ret1 (Own.nil H) fun p1 H1 o1 => ?_)
  walk_at "rd"
  refine ⟨x, CV, dx, _, .ref ash, rfl, o1.ex _ _ h1, C_View.cl, C_View.a_shape, rfl, ?_⟩
  walk_at "rd"
  refine ⟨ash, th.shape, rfl, .inr (o1.oldT h3), hz1, by have := hok.shl; omega, r_ret1 o1 fun p2 H2 o2 => ?_⟩
  walk_at "rd"
  refine r_cat o2 (o2.at 1 rfl) (o2.at 0 rfl) (by rw [List.length_map, List.length_map]; omega) fun p3 H3 o3 => ?_
  rw [← List.map_append] at o3
  have o3 := o3.pick1 0 rfl
  walk_at "rd"
  refine ⟨x, CV, dx, _, .int th.fill, rfl, o3.ex _ _ h1, C_View.cl, C_View.a_fill, rfl, ?_⟩
  walk_at "rd"
  refine r_newL o3 (Nat.le_of_ble_eq_true rfl) fun p5 H5 o5 => ?_
  walk_at "rd"
  refine ⟨p5, [th.fill], rfl, .inl (o5.sqL 0 rfl), hz3, by show 1 ≤ 1000; decide, r_ret1 o5 fun p6 H6 o6 => ?_⟩
  walk_at "rd"
  refine r_cat o6 (o6.at 2 rfl) (o6.at 0 rfl) (by rw [List.length_map, List.length_map, List.length_append]; omega) fun p7 H7 o7 => ?_
  rw [← List.map_append] at o7
  have o7 := o7.pick1 0 rfl
  walk_at "rd"
  refine ⟨x, CV, dx, _, .ref tp, rfl, o7.ex _ _ h1, C_View.cl, C_View.a_pieces, rfl, ?_⟩
  walk_at "rd"
  refine ⟨th.pieces.length, by rw [hlen]; rfl, by omega, r_ret1 o7 fun p9 H9 o9 => ?_⟩
  walk_at "rd"
  refine r_ext o9 1 0 rfl rfl (by rw [List.length_map, List.length_map, List.length_append, List.length_append]; omega) fun Ha oa => ?_
  rw [← List.map_append] at oa
  have oa := oa.pick1 1 rfl
  walk_at "rd"
  refine ⟨x, CV, dx, _, .ref tp, rfl, oa.ex _ _ h1, C_View.cl, C_View.a_pieces, rfl, ?_⟩
  have hpre : (sB th.kind ++ lsB intB th.shape ++ lsB intB [th.fill] ++ numB th.pieces.length).length ≤ 60000 := by
    rw [List.length_append, List.length_append, List.length_append]
    omega
  have harr : vwB th = sB th.kind ++ lsB intB th.shape ++ lsB intB [th.fill] ++ numB th.pieces.length ++ th.pieces.flatMap pcB := rfl
  rw [harr] at q
  generalize sB th.kind ++ lsB intB th.shape ++ lsB intB [th.fill] ++ numB th.pieces.length = pre at *
  have hpb : ∀ p ∈ th.pieces, (pcB p).length ≤ 70000 := fun p hp => pcB_len hok.shl (hok.pcb p hp)
  have hpcl := hok.pcl
  refine forT (oa.oldT hsp) (fun i σ' H' => ∃ (v2 v3 v4 v5 : Option V) (L : List (Addr × HO)), σ' = [some (.ref x), some (.ref p7), v2, v3, v4, v5] ∧ Own H H' ((p7, .lst ((pre ++ (th.pieces.take i).flatMap pcB).map V.int)) :: L)) ⟨_, _, _, _, [], rfl, (by rw [List.take_zero, List.flatMap_nil, List.append_nil]; exact oa)⟩ (fun i σ' H' _ ⟨_, _, _, _, _, _, o⟩ => o.oldT hsp) ?_ ?_
  · rintro i y σ' H' hy ⟨v2, v3, v4, v5, L, rfl, o⟩
    obtain ⟨d, hd, ty⟩ := hall.getV hy
    rw [List.getElem?_map] at hd
    obtain ⟨p, hp, rfl⟩ := Option.map_eq_some_iff.mp hd
    have hm := List.mem_of_getElem? hp
    obtain ⟨tt, a1, a2, a3, rfl, hs, g1, g2, g3⟩ := pc_inv ty
    obtain ⟨⟨e1, e2, e3, b1, b2, b3⟩, hpt⟩ := hok.pcb p hm
    have hshl := hok.shl
    have hfi := flatm_len (ms := th.pieces.take i) (f := pcB) (B := 70000) fun s hs => hpb s (List.mem_of_mem_take hs)
    have htl : (th.pieces.take i).length ≤ th.pieces.length := by rw [List.length_take]; omega
    have hcat : (th.pieces.take (i + 1)).flatMap pcB = (th.pieces.take i).flatMap pcB ++ pcB p := take_flat hp
    have hsl := sB_len hpt
    have i1 := lsI_len (z29_small b1) (by omega)
    have i2 := lsI_len (z29_small b2) (by omega)
    have i3 := lsI_len (z29_small b3) (by omega)
    refine r_gTup4o (o.oldT hs) ?_
    walk_at "rd"
    refine wt_ hpt (r_ret1 o fun p2 H2 o2 => ?_)
    walk_at "rd"
    refine r_ext o2 1 0 rfl rfl (by rw [List.length_map, List.length_map, List.length_append]; omega) fun H3 o3 => ?_
    rw [← List.map_append] at o3
    have o3 := o3.pick1 1 rfl
    walk_at "rd"
    refine ⟨a1, p.2.1, rfl, .inr (o3.oldT g1), z29_small b1, by omega, r_ret1 o3 fun p4 H4 o4 => ?_⟩
    walk_at "rd"
    refine ⟨a2, p.2.2.1, rfl, .inr (o4.oldT g2), z29_small b2, by omega, r_ret1 o4 fun p5 H5 o5 => ?_⟩
    walk_at "rd"
    refine r_cat o5 (o5.at 1 rfl) (o5.at 0 rfl) (by rw [List.length_map, List.length_map]; omega) fun p6 H6 o6 => ?_
    rw [← List.map_append] at o6
    walk_at "rd"
    refine ⟨a3, p.2.2.2, rfl, .inr (o6.oldT g3), z29_small b3, by omega, r_ret1 o6 fun p8 H8 o8 => ?_⟩
    walk_at "rd"
    refine r_cat o8 (o8.at 1 rfl) (o8.at 0 rfl) (by rw [List.length_map, List.length_map, List.length_append]; omega) fun pa Hb ob => ?_
    rw [← List.map_append] at ob
    walk_at "rd"
    refine r_ext ob 5 0 rfl rfl (by rw [List.length_map, List.length_map, List.length_append, List.length_append, List.length_append, List.length_append]; omega) fun Hc oc => ?_
    rw [← List.map_append] at oc
    have oc := oc.pick1 5 rfl
    have e : pre ++ (th.pieces.take i).flatMap pcB ++ sB p.1 ++ (lsB intB p.2.1 ++ lsB intB p.2.2.1 ++ lsB intB p.2.2.2) = pre ++ (th.pieces.take (i + 1)).flatMap pcB := by
      rw [hcat]
      unfold pcB
      simp only [List.append_assoc]
    rw [e] at oc
    exact ⟨_, _, _, _, [], rfl, oc⟩
  · rintro σ' H' ⟨v2, v3, v4, v5, L, rfl, o⟩
    rw [hlen, List.take_length] at o
    walk_at "rd"
    exact q.mk o 0 rfl
end
/-! ### objects written -/
section
variable {P : Program} {w : World} {K : PySem.W.Frag} {mg : Str → Option Value} {base : Heap}
def IsObj (K : PySem.W.Frag) (H : Hp) (CG CA CV CL x : Addr) (th : ThD) : Prop := (th.form = 1 ∧ IsGr K H CG x th) ∨ (th.form = 2 ∧ IsArr K H CA CL x th) ∨ (th.form = 3 ∧ IsVw K H CV x th)
theorem IsObj.up {H H' : Hp} {CG CA CV CL x : Addr} {th : ThD} (h : IsObj K H CG CA CV CL x th) (s : Same H H') : IsObj K H' CG CA CV CL x th := by
  rcases h with ⟨e, h⟩ | ⟨e, h⟩ | ⟨e, h⟩
  · exact .inl ⟨e, h.up s⟩
  · exact .inr (.inl ⟨e, h.up s⟩)
  · exact .inr (.inr ⟨e, h.up s⟩)
theorem mksB_len {th : ThD} (h : ThOk th) : (mksB th.marks).length ≤ 700000 := by
  have h1 := mflat_len h.mok
  have h2 := numB_len 20 th.marks.length (Nat.lt_of_le_of_lt h.mlen (by decide))
  have h3 := h.mlen
  unfold mksB
  rw [List.length_append]
  omega
theorem arrB_len {th : ThD} (hok : ThOk th) : (arrB th).length ≤ 100000 := by
  have h0 := sB_len (ptd_ks _ hok.kind)
  have h1 := lsI_len (z29_small fun z hz => (by have := hok.shb z hz; omega : 0 ≤ z ∧ z ≤ 5000)) (by have := hok.shl; omega)
  have h2 := lsI_len (z29_small hok.chb) (by have := hok.chl; omega)
  have h3 := lsI_len (z29_fill hok) (by show 1 ≤ 1000; decide)
  have h4 := flatm_len (ms := th.filters) (f := sB) (B := 2100) fun s hs => sB_len (ptd_flt s (hok.ftb s hs))
  have h5 := hok.ftl
  have h6 := numB_len 20 th.filters.length (Nat.lt_of_le_of_lt hok.ftl (by decide))
  have h7 := numB_len 20 th.r1 (Nat.lt_trans hok.rb.1 (by decide))
  have h8 := numB_len 20 th.r2 (Nat.lt_trans hok.rb.2 (by decide))
  unfold arrB
  simp only [List.length_append]
  omega
theorem vwB_len {th : ThD} (hok : ThOk th) : (vwB th).length ≤ 800000 := by
  have h0 := sB_len (ptd_ks _ hok.kind)
  have h1 := lsI_len (z29_small fun z hz => (by have := hok.shb z hz; omega : 0 ≤ z ∧ z ≤ 5000)) (by have := hok.shl; omega)
  have h3 := lsI_len (z29_fill hok) (by show 1 ≤ 1000; decide)
  have h4 := flatm_len (ms := th.pieces) (f := pcB) (B := 70000) fun p hp => pcB_len hok.shl (hok.pcb p hp)
  have h5 := hok.pcl
  have h6 := numB_len 20 th.pieces.length (Nat.lt_of_le_of_lt hok.pcl (by decide))
  unfold vwB
  simp only [List.length_append]
  omega
def sp_write_object (K : PySem.W.Frag) (CG CA CV CL : Addr) : Sp := fun vs H Q _ => ∃ (x : Addr) (th : ThD), vs = [.ref x] ∧ IsObj K H CG CA CV CL x th ∧ ThOk th ∧ RetO H Q (.lst ((objB th).map V.int))
theorem d_write_object {CG CA CV CL : Addr} (T : Top K mg) (C_Group : Cl_Group K mg CG) (C_ArrayObject : Cl_ArrayObject K mg CA) (C_View : Cl_View K mg CV) (C_Layout : Cl_Layout K mg CL) : Def P w K mg base CX0 5 "write_object" ["thing"] (sp_write_object K CG CA CV CL) := by
  have G_write_attributes : Def P w K mg base CX0 4 "write_attributes" ["attributes"] (sp_write_attrs K) := d_write_attrs T
  have G_write_array : Def P w K mg base CX0 4 "write_array" ["thing"] (sp_write_array K CA CL) := d_write_array T C_ArrayObject C_Layout
  have G_write_view : Def P w K mg base CX0 4 "write_view" ["thing"] (sp_write_view K CV) := d_write_view T C_View
  obtain ⟨t1, g_GROUP_SORT⟩ := T.g_GROUP_SORT
  obtain ⟨t2, g_ARRAY_SORT⟩ := T.g_ARRAY_SORT
  obtain ⟨t3, g_VIEW_SORT⟩ := T.g_VIEW_SORT
  have iG := T.iso_Group CG C_Group.at_
  have iA := T.iso_ArrayObject CA C_ArrayObject.at_
  have iV := T.iso_View CV C_View.at_
  refine T.f_write_object.ok sc_write_object (by rintro vs H Q E ⟨x, th, rfl, _⟩; rfl) (fun f cdv A outer s H vs Q E hr h => ?_)
  obtain ⟨x, th, rfl, hx, hok, q⟩ := h
  refine ⟨_, (pss_cons (ps_if (pt_val (pe_callB (r := rIsi K) call_isi (by rfl) T.b_isinstance (by decide +kernel) (pa_cons (pv 0) (pa_cons (pe_glob (v := .ref _) rfl C_Group.at_ rfl) pa_nil)))) (pss_one (ps_ret (pe_op op_cat (pe_lst (pa_cons (pe_glob (v := .int 1) rfl g_GROUP_SORT ⟨_, rfl⟩) pa_nil)) (pe_callD G_write_attributes (hr.mono (by decide)) (pa_cons (pe_fld (pv 0) rfl) pa_nil))))) pss_nil)
      (pss_cons (ps_if (pt_val (pe_callB (r := rIsi K) call_isi (by rfl) T.b_isinstance (by decide +kernel) (pa_cons (pv 0) (pa_cons (pe_glob (v := .ref _) rfl C_ArrayObject.at_ rfl) pa_nil)))) (pss_one (ps_ret (pe_op op_cat (pe_op op_cat (pe_lst (pa_cons (pe_glob (v := .int 2) rfl g_ARRAY_SORT ⟨_, rfl⟩) pa_nil)) (pe_callD G_write_attributes (hr.mono (by decide)) (pa_cons (pe_fld (pv 0) rfl) pa_nil))) (pe_callD G_write_array (hr.mono (by decide)) (pa_cons (pv 0) pa_nil))))) pss_nil)
      (pss_one (ps_ret (pe_op op_cat (pe_op op_cat (pe_lst (pa_cons (pe_glob (v := .int 3) rfl g_VIEW_SORT ⟨_, rfl⟩) pa_nil)) (pe_callD G_write_attributes (hr.mono (by decide)) (pa_cons (pe_fld (pv 0) rfl) pa_nil))) (pe_callD G_write_view (hr.mono (by decide)) (pa_cons (pv 0) pa_nil))))))), ?_⟩
  have hml := mksB_len hok
  have hal := arrB_len hok
  have hvl := vwB_len hok
  walk_at "rd"
  unfold objB at q
  rcases hx with ⟨e, hx⟩ | ⟨e, hx⟩ | ⟨e, hx⟩
  · obtain ⟨dx, t, hx1, hx2⟩ := hx
    rw [e, if_neg (by decide), if_neg (by decide), List.append_nil] at q
    refine r_isiO hx1 C_Group.cl iG T.iso_g T.iso_t (kit_self _) ?_
    walk_at "rd"
    refine r_newL (Own.nil H) (Nat.le_of_ble_eq_true rfl) fun p1 H1 o1 => ?_
    walk_at "rd"
    refine ⟨x, CG, dx, _, .ref t, rfl, o1.ex _ _ hx1, C_Group.cl, C_Group.a_attributes, rfl, ?_⟩
    walk_at "rd"
    refine ⟨t, th, rfl, hx2.up (.of o1.ex), hok, r_ret1 o1 fun p2 H2 o2 => ?_⟩
    refine r_cat o2 (o2.at 1 rfl) (o2.at 0 rfl) (by rw [List.length_map]; show 1 + _ ≤ _; omega) fun p3 H3 o3 => ?_
    exact q.mk o3 0 rfl
  · have hx0 := hx
    obtain ⟨dx, t, dl, ly, ash, ach, atf, atr, hx1, hx2, _⟩ := hx
    rw [e, if_pos rfl] at q
    refine r_isiO hx1 C_ArrayObject.cl iA T.iso_g T.iso_t (T.iso_ArrayObject_Group _ _ C_ArrayObject.at_ C_Group.at_) ?_
    walk_at "rd"
    refine r_isiO hx1 C_ArrayObject.cl iA T.iso_g T.iso_t (kit_self _) ?_
    walk_at "rd"
    refine r_newL (Own.nil H) (Nat.le_of_ble_eq_true rfl) fun p1 H1 o1 => ?_
    walk_at "rd"
    refine ⟨x, CA, dx, _, .ref t, rfl, o1.ex _ _ hx1, C_ArrayObject.cl, C_ArrayObject.a_attributes, rfl, ?_⟩
    walk_at "rd"
    refine ⟨t, th, rfl, hx2.up (.of o1.ex), hok, r_ret1 o1 fun p2 H2 o2 => ?_⟩
    refine r_cat o2 (o2.at 1 rfl) (o2.at 0 rfl) (by rw [List.length_map]; show 1 + _ ≤ _; omega) fun p3 H3 o3 => ?_
    walk_at "rd"
    refine ⟨x, th, rfl, hx0.up o3.ex, hok, r_ret1 o3 fun p4 H4 o4 => ?_⟩
    refine r_cat o4 (o4.at 1 rfl) (o4.at 0 rfl) (by rw [List.length_append, List.length_map, List.length_map]; show 1 + _ + _ ≤ _; omega) fun p5 H5 o5 => ?_
    rw [List.map_append] at q
    exact q.mk o5 0 rfl
  · have hx0 := hx
    obtain ⟨dx, t, ash, tp, hx1, hx2, _⟩ := hx
    rw [e, if_neg (by decide), if_pos rfl] at q
    refine r_isiO hx1 C_View.cl iV T.iso_g T.iso_t (T.iso_View_Group _ _ C_View.at_ C_Group.at_) ?_
    walk_at "rd"
    refine r_isiO hx1 C_View.cl iV T.iso_g T.iso_t (T.iso_View_ArrayObject _ _ C_View.at_ C_ArrayObject.at_) ?_
    walk_at "rd"
    refine r_newL (Own.nil H) (Nat.le_of_ble_eq_true rfl) fun p1 H1 o1 => ?_
    walk_at "rd"
    refine ⟨x, CV, dx, _, .ref t, rfl, o1.ex _ _ hx1, C_View.cl, C_View.a_attributes, rfl, ?_⟩
    walk_at "rd"
    refine ⟨t, th, rfl, hx2.up (.of o1.ex), hok, r_ret1 o1 fun p2 H2 o2 => ?_⟩
    refine r_cat o2 (o2.at 1 rfl) (o2.at 0 rfl) (by rw [List.length_map]; show 1 + _ ≤ _; omega) fun p3 H3 o3 => ?_
    walk_at "rd"
    refine ⟨x, th, rfl, hx0.up o3.ex, hok, r_ret1 o3 fun p4 H4 o4 => ?_⟩
    refine r_cat o4 (o4.at 1 rfl) (o4.at 0 rfl) (by rw [List.length_append, List.length_map, List.length_map]; show 1 + _ + _ ≤ _; omega) fun p5 H5 o5 => ?_
    rw [List.map_append] at q
    exact q.mk o5 0 rfl
end

section
variable {P : Program} {w : World} {K : PySem.W.Frag} {mg : Str → Option Value} {base : Heap}
structure Gets (Hx : Hp) (pt : Addr) (pm ash lf ach atf atr atp : Addr) (th : ThD) : Prop where
  pieces : DGet Hx pt (.str (PySem.Str.ofString "pieces")) (some (.ref atp))
  root : DGet Hx pt (.str (PySem.Str.ofString "root")) (some (.ref atr))
  filters : DGet Hx pt (.str (PySem.Str.ofString "filters")) (some (.ref atf))
  chunks : DGet Hx pt (.str (PySem.Str.ofString "chunks")) (some (.ref ach))
  fills : DGet Hx pt (.str (PySem.Str.ofString "fills")) (some (.ref lf))
  shape : DGet Hx pt (.str (PySem.Str.ofString "shape")) (some (.ref ash))
  kind : DGet Hx pt (.str (PySem.Str.ofString "kind")) (some (.str th.kind))
  marks : DGet Hx pt (.str (PySem.Str.ofString "marks")) (some (.ref pm))
  form : DGet Hx pt (.str (PySem.Str.ofString "form")) (some (.int th.form))
/-- the same said with names for the places -/
structure ThA (K : PySem.W.Frag) (H : Hp) (pt pm ash lf ach atf atr atp : Addr) (zs : List V) (th : ThD) : Prop where
  g : ∀ Hx : Hp, Hx pt = H pt → Gets Hx pt pm ash lf ach atf atr atp th
  ex : ∃ kv, H pt = some (.dK kv)
  pm : H pm = some (.lst zs)
  mks : TpAll K H zs (th.marks.map markD)
  sh : SqT K H ash (th.shape.map V.int)
  lf : H lf = some (.lst [.int th.fill])
  ch : SqT K H ach (th.chunks.map V.int)
  ft : SqT K H atf (th.filters.map V.str)
  rt : SqT K H atr [.int (th.r1 : Int), .int (th.r2 : Int)]
  pc : Tp K H (.ref atp) (.tuple (th.pieces.map pcD))
theorem ThAt.a {H : Hp} {pt : Addr} {th : ThD} (h : ThAt K H pt th) : ∃ pm ash lf ach atf atr atp zs, ThA K H pt pm ash lf ach atf atr atp zs th := by
  obtain ⟨kv, pm, ash, lf, ach, atf, atr, atp, zs, h1, h2, h3, h4, h5, h6, h7, h8, h9, h10⟩ := h
  refine ⟨pm, ash, lf, ach, atf, atr, atp, zs, fun Hx e => ?_, ⟨kv, h1⟩, h3, h4, h5, h6, h7, h8, h9, h10⟩
  rw [h1] at e
  exact ⟨h2.get e (.head _), h2.get e (.tail _ (.head _)), h2.get e (.tail _ (.tail _ (.head _))), h2.get e (.tail _ (.tail _ (.tail _ (.head _)))), h2.get e (.tail _ (.tail _ (.tail _ (.tail _ (.head _))))), h2.get e (.tail _ (.tail _ (.tail _ (.tail _ (.tail _ (.head _)))))), h2.get e (.tail _ (.tail _ (.tail _ (.tail _ (.tail _ (.tail _ (.head _))))))), h2.get e (.tail _ (.tail _ (.tail _ (.tail _ (.tail _ (.tail _ (.tail _ (.head _)))))))), h2.get e (.tail _ (.tail _ (.tail _ (.tail _ (.tail _ (.tail _ (.tail _ (.tail _ (.head _)))))))))⟩
theorem ThA.at {H Hx : Hp} {pt pm ash lf ach atf atr atp : Addr} {zs : List V} {th : ThD} (h : ThA K H pt pm ash lf ach atf atr atp zs th) (s : Same H Hx) : Gets Hx pt pm ash lf ach atf atr atp th := by
  obtain ⟨kv, e⟩ := h.ex
  exact h.g Hx (by rw [e, s _ _ e])
/-! ### the law's own writing -/
def sp_lmarks (K : PySem.W.Frag) : Sp := fun vs H Q _ => ∃ (a : Addr) (zs : List V) (th : ThD), vs = [.ref a] ∧ H a = some (.lst zs) ∧ TpAll K H zs (th.marks.map markD) ∧ ThOk th ∧ RetO H Q (.lst ((mksB th.marks).map V.int))
theorem d_lmarks (T : Top K mg) : Def P w K mg base CX0 4 "_law_marks_bytes" ["marks"] (sp_lmarks K) := by
  have G__law_number_bytes : Def P w K mg base CX0 1 "_law_number_bytes" ["number"] sp_lnumber := d_lnumber T
  have G__law_text_bytes : Def P w K mg base CX0 3 "_law_text_bytes" ["text"] sp_ltb := d_ltb T
  have G__law_integers_bytes : Def P w K mg base CX0 3 "_law_integers_bytes" ["numbers"] (sp_lintegersQ K) := d_lintegersQ T
  refine T.f__law_marks_bytes.ok sc__law_marks_bytes (by rintro vs H Q E ⟨a, zs, th, rfl, _⟩; rfl) (fun f cdv A outer s H vs Q E hr h => ?_)
  obtain ⟨a, zs, th, rfl, ha, hall, hok, q⟩ := h
  refine ⟨_, (pss_cons (ps_set (i := 1) sc__law_marks_bytes.nd rfl (Or.inl rfl) (pe_callD G__law_number_bytes (hr.mono (by decide)) (pa_cons (pe_callB (r := Evl.rLenS K) call_len_seq (by rfl) T.b_len (by decide +kernel) (pa_cons (pv 0) pa_nil)) pa_nil)))
      (pss_cons (ps_for PassesOwn.never rfl (pi_list (pv 0)) (pg_tup (n := 2) rfl (pgs_cons (pg_name (i := 2) sc__law_marks_bytes.nd rfl (Or.inl rfl)) (pgs_cons (pg_name (i := 3) sc__law_marks_bytes.nd rfl (Or.inl rfl)) pgs_nil))) (pss_cons (ps_set (i := 1) sc__law_marks_bytes.nd rfl (Or.inl rfl) (pe_op op_cat (pv 1) (pe_callD G__law_text_bytes (hr.mono (by decide)) (pa_cons (pv 2) pa_nil))))
      (pss_one (ps_if (pt_val (pe_callB (r := rIsi K) call_isi (by rfl) T.b_isinstance (by decide +kernel) (pa_cons (pv 3) (pa_cons (pe_bltn (v := .ty "str") (by rfl) T.b_str (by decide +kernel) rfl) pa_nil)))) (pss_one (ps_set (i := 1) sc__law_marks_bytes.nd rfl (Or.inl rfl) (pe_op op_cat (pe_op op_cat (pv 1) (pe_lst (pa_cons pe_int pa_nil))) (pe_callD G__law_text_bytes (hr.mono (by decide)) (pa_cons (pv 3) pa_nil))))) (pss_one (ps_set (i := 1) sc__law_marks_bytes.nd rfl (Or.inl rfl) (pe_op op_cat (pe_op op_cat (pv 1) (pe_lst (pa_cons pe_int pa_nil))) (pe_callD G__law_integers_bytes (hr.mono (by decide)) (pa_cons (pv 3) pa_nil)))))))))
      (pss_one (ps_ret (pv 1))))), ?_⟩
  have hlen := hall.len
  rw [List.length_map] at hlen
  have hsq : SqL K H a zs := SqL.of ha
  have hn0 : th.marks.length < 125 ^ 21 := Nat.lt_of_le_of_lt hok.mlen (by decide)
  have hn := numB_len 20 th.marks.length hn0
  walk_at "rd"
  refine ⟨th.marks.length, by rw [hlen]; rfl, hn0, r_ret1 (Own.nil H) fun p1 H1 o1 => ?_⟩
  walk_at "rd"
  refine forL (o1.old hsq) (fun i σ' H' => ∃ (v2 v3 : Option V) (p : Addr) (L : List (Addr × HO)), σ' = [some (.ref a), some (.ref p), v2, v3] ∧ Own H H' ((p, .lst ((numB th.marks.length ++ (th.marks.take i).flatMap mkB).map V.int)) :: L)) ⟨_, _, p1, [], rfl, (by rw [List.take_zero, List.flatMap_nil, List.append_nil]; exact o1)⟩ (fun i σ' H' _ ⟨_, _, _, _, _, o⟩ => o.old hsq) ?_ ?_
  · rintro i x σ' H' hx ⟨v2, v3, p, L, rfl, o⟩
    obtain ⟨d, hd, tx1⟩ := hall.getV hx
    rw [List.getElem?_map] at hd
    obtain ⟨m, hm, rfl⟩ := Option.map_eq_some_iff.mp hd
    obtain ⟨t3, v, rfl, hs3, tv⟩ := mark_inv tx1
    obtain ⟨hnm, hav⟩ := hok.mok m (List.mem_of_getElem? hm)
    have hpn := ptd_nm hnm
    have hpl := sB_len hpn
    have hfi := mflat_len (ms := th.marks.take i) fun m hm2 => hok.mok m (List.mem_of_mem_take hm2)
    have htl : (th.marks.take i).length ≤ th.marks.length := by rw [List.length_take]; omega
    have hml := hok.mlen
    have hcat : (th.marks.take (i + 1)).flatMap mkB = (th.marks.take i).flatMap mkB ++ mkB m := take_flat hm
    refine r_gTup2 (o.oldT hs3) ?_
    walk_at "rd"
    refine lt_ hpn (r_ret1 o fun p2 H2 o2 => ?_)
    refine r_cat o2 (o2.at 1 rfl) (o2.at 0 rfl) (by rw [List.length_map, List.length_map, List.length_append]; omega) fun p3 H3 o3 => ?_
    rw [← List.map_append] at o3
    have o3 := o3.pick1 0 rfl
    have fin : ∀ {Hx px Lx}, Own H Hx ((px, .lst ((numB th.marks.length ++ (th.marks.take i).flatMap mkB ++ sB m.1 ++ vB m.2).map V.int)) :: Lx) → Own H Hx ((px, .lst ((numB th.marks.length ++ (th.marks.take (i + 1)).flatMap mkB).map V.int)) :: Lx) := fun {Hx px Lx} ox => by
      rw [hcat]
      unfold mkB
      rw [← List.append_assoc, ← List.append_assoc]
      exact ox
    rcases atv_cases tv hav with ⟨cs, rfl, e2, hcs⟩ | ⟨a4, ns, rfl, e2, hs4, hz, hnl⟩
    · have hpt : PtD (tx cs) := ⟨cs, rfl, hcs.1, by have := hcs.2; omega⟩
      have hpl2 := sB_len hpt
      walk_at "rd"
      refine r_newL o3 (Nat.le_of_ble_eq_true rfl) fun p4 H4 o4 => ?_
      refine r_cat o4 (o4.at 1 rfl) (o4.at 0 rfl) (by rw [List.length_map, List.length_append, List.length_append]; show _ + 1 ≤ _; omega) fun p5 H5 o5 => ?_
      walk_at "rd"
      refine lt_ hpt (r_ret1 o5 fun p6 H6 o6 => ?_)
      refine r_cat o6 (o6.at 1 rfl) (o6.at 0 rfl) (by rw [List.length_append, List.length_map, List.length_map, List.length_append, List.length_append]; show _ + 1 + _ ≤ _; omega) fun p7 H7 o7 => ?_
      walk_at "rd"
      refine ⟨_, _, p7, _, rfl, fin (Own.pick1 (o := o7) 0 ?_)⟩
      rw [e2]
      show some (p7, HO.lst _) = some (p7, HO.lst ((numB th.marks.length ++ (th.marks.take i).flatMap mkB ++ sB m.1 ++ 0 :: sB (tx cs)).map V.int))
      rw [List.map_append (l₂ := 0 :: sB (tx cs)), List.append_assoc (bs := [V.int 0])]
      rfl
    · have hpl2 := lsI_len hz (by omega)
      have hs43 := o3.oldT hs4
      walk_at "rd"
      refine r_newL o3 (Nat.le_of_ble_eq_true rfl) fun p4 H4 o4 => ?_
      refine r_cat o4 (o4.at 1 rfl) (o4.at 0 rfl) (by rw [List.length_map, List.length_append, List.length_append]; show _ + 1 ≤ _; omega) fun p5 H5 o5 => ?_
      walk_at "rd"
      refine ⟨a4, ns, rfl, .inr (o5.oldT hs4), hz, by omega, r_ret1 o5 fun p6 H6 o6 => ?_⟩
      refine r_cat o6 (o6.at 1 rfl) (o6.at 0 rfl) (by rw [List.length_append, List.length_map, List.length_map, List.length_append, List.length_append]; show _ + 1 + _ ≤ _; omega) fun p7 H7 o7 => ?_
      walk_at "rd"
      refine ⟨_, _, p7, _, rfl, fin (Own.pick1 (o := o7) 0 ?_)⟩
      rw [e2]
      show some (p7, HO.lst _) = some (p7, HO.lst ((numB th.marks.length ++ (th.marks.take i).flatMap mkB ++ sB m.1 ++ 1 :: lsB intB ((ns.map PyData.int).map intOf)).map V.int))
      rw [intOf_ints, List.map_append (l₂ := 1 :: lsB intB ns), List.append_assoc (bs := [V.int 1])]
      rfl
  · rintro σ' H' ⟨v2, v3, p, L, rfl, o⟩
    rw [hlen, List.take_length] at o
    walk_at "rd"
    exact q.mk o 0 rfl
end
section
variable {P : Program} {w : World} {K : PySem.W.Frag} {mg : Str → Option Value} {base : Heap}
def sp_larr (K : PySem.W.Frag) : Sp := fun vs H Q _ => ∃ (pt : Addr) (th : ThD), vs = [.ref pt] ∧ ThAt K H pt th ∧ ThOk th ∧ RetO H Q (.lst ((arrB th).map V.int))
theorem d_larr (T : Top K mg) : Def P w K mg base CX0 4 "_law_array_bytes" ["thing"] (sp_larr K) := by
  have G__law_number_bytes : Def P w K mg base CX0 1 "_law_number_bytes" ["number"] sp_lnumber := d_lnumber T
  have G__law_text_bytes : Def P w K mg base CX0 3 "_law_text_bytes" ["text"] sp_ltb := d_ltb T
  have G__law_integers_bytes : Def P w K mg base CX0 3 "_law_integers_bytes" ["numbers"] (sp_lintegersQ K) := d_lintegersQ T
  refine T.f__law_array_bytes.ok sc__law_array_bytes (by rintro vs H Q E ⟨x, th, rfl, _⟩; rfl) (fun f cdv A outer s H vs Q E hr h => ?_)
  obtain ⟨pt, th, rfl, hat, hok, q⟩ := h
  obtain ⟨pm, ash, lf, ach, atf, atr, atp, zs, h⟩ := hat.a
  refine ⟨_, (pss_cons (ps_set (i := 1) sc__law_array_bytes.nd rfl (Or.inl rfl) (pe_op op_cat (pe_op op_cat (pe_callD G__law_text_bytes (hr.mono (by decide)) (pa_cons (pe_dget (Nat.lt_of_le_of_lt (Nat.add_le_add_left (by decide) _) hr.units) (pv 0) pe_str (fun _ _ => rfl)) pa_nil)) (pe_callD G__law_integers_bytes (hr.mono (by decide)) (pa_cons (pe_dget (Nat.lt_of_le_of_lt (Nat.add_le_add_left (by decide) _) hr.units) (pv 0) pe_str (fun _ _ => rfl)) pa_nil))) (pe_callD G__law_integers_bytes (hr.mono (by decide)) (pa_cons (pe_dget (Nat.lt_of_le_of_lt (Nat.add_le_add_left (by decide) _) hr.units) (pv 0) pe_str (fun _ _ => rfl)) pa_nil))))
      (pss_cons (ps_set (i := 1) sc__law_array_bytes.nd rfl (Or.inl rfl) (pe_op op_cat (pe_op op_cat (pv 1) (pe_callD G__law_integers_bytes (hr.mono (by decide)) (pa_cons (pe_dget (Nat.lt_of_le_of_lt (Nat.add_le_add_left (by decide) _) hr.units) (pv 0) pe_str (fun _ _ => rfl)) pa_nil))) (pe_callD G__law_number_bytes (hr.mono (by decide)) (pa_cons (pe_callB (r := Evl.rLenS K) call_len_seq (by rfl) T.b_len (by decide +kernel) (pa_cons (pe_dget (Nat.lt_of_le_of_lt (Nat.add_le_add_left (by decide) _) hr.units) (pv 0) pe_str (fun _ _ => rfl)) pa_nil)) pa_nil))))
      (pss_cons (ps_for PassesOwn.never rfl (pi_tup (pe_dget (Nat.lt_of_le_of_lt (Nat.add_le_add_left (by decide) _) hr.units) (pv 0) pe_str (fun _ _ => rfl))) (pg_name (i := 2) sc__law_array_bytes.nd rfl (Or.inl rfl)) (pss_one (ps_set (i := 1) sc__law_array_bytes.nd rfl (Or.inl rfl) (pe_op op_cat (pv 1) (pe_callD G__law_text_bytes (hr.mono (by decide)) (pa_cons (pv 2) pa_nil))))))
      (pss_one (ps_ret (pe_op op_cat (pe_op op_cat (pv 1) (pe_callD G__law_number_bytes (hr.mono (by decide)) (pa_cons (pe_ix (r := rIxT K) ix_tup (pe_dget (Nat.lt_of_le_of_lt (Nat.add_le_add_left (by decide) _) hr.units) (pv 0) pe_str (fun _ _ => rfl)) pe_int (fun _ _ => rfl)) pa_nil))) (pe_callD G__law_number_bytes (hr.mono (by decide)) (pa_cons (pe_ix (r := rIxT K) ix_tup (pe_dget (Nat.lt_of_le_of_lt (Nat.add_le_add_left (by decide) _) hr.units) (pv 0) pe_str (fun _ _ => rfl)) pe_int (fun _ _ => rfl)) pa_nil)))))))), ?_⟩
  have hkp := ptd_ks _ hok.kind
  have hkl := sB_len hkp
  have hz1 : ∀ z ∈ th.shape, Z29 z := z29_small fun z hz => by have := hok.shb z hz; omega
  have hz2 : ∀ z ∈ th.chunks, Z29 z := z29_small hok.chb
  have hz3 := z29_fill hok
  have hl1 := lsI_len hz1 (by have := hok.shl; omega)
  have hl2 := lsI_len hz2 (by have := hok.chl; omega)
  have hl3 := lsI_len hz3 (by show 1 ≤ 1000; decide)
  have hn0 : th.filters.length < 125 ^ 21 := Nat.lt_of_le_of_lt hok.ftl (by decide)
  have hn := numB_len 20 th.filters.length hn0
  unfold tDGet
  walk_at "rd"
  refine ⟨pt, _, rfl, (h.at (.refl _)).kind, ?_⟩
  walk_at "rd"
  refine lt_ hkp (r_ret1 (Own.nil H) fun p1 H1 o1 => ?_)
  walk_at "rd"
  refine ⟨pt, _, rfl, (h.at o1.ex).shape, ?_⟩
  walk_at "rd"
  refine ⟨ash, th.shape, rfl, .inr (o1.oldT h.sh), hz1, by have := hok.shl; omega, r_ret1 o1 fun p2 H2 o2 => ?_⟩
  refine r_cat o2 (o2.at 1 rfl) (o2.at 0 rfl) (by rw [List.length_map, List.length_map]; omega) fun p3 H3 o3 => ?_
  rw [← List.map_append] at o3
  have o3 := o3.pick1 0 rfl
  walk_at "rd"
  refine ⟨pt, _, rfl, (h.at o3.ex).chunks, ?_⟩
  walk_at "rd"
  refine ⟨ach, th.chunks, rfl, .inr (o3.oldT h.ch), hz2, by have := hok.chl; omega, r_ret1 o3 fun p4 H4 o4 => ?_⟩
  refine r_cat o4 (o4.at 1 rfl) (o4.at 0 rfl) (by rw [List.length_map, List.length_map, List.length_append]; omega) fun p5 H5 o5 => ?_
  rw [← List.map_append] at o5
  have o5 := o5.pick1 0 rfl
  walk_at "rd"
  refine ⟨pt, _, rfl, (h.at o5.ex).fills, ?_⟩
  walk_at "rd"
  refine ⟨lf, [th.fill], rfl, .inl (SqL.of (o5.ex _ _ h.lf)), hz3, by show 1 ≤ 1000; decide, r_ret1 o5 fun p6 H6 o6 => ?_⟩
  refine r_cat o6 (o6.at 1 rfl) (o6.at 0 rfl) (by rw [List.length_map, List.length_map, List.length_append, List.length_append]; omega) fun p7 H7 o7 => ?_
  rw [← List.map_append] at o7
  have o7 := o7.pick1 0 rfl
  walk_at "rd"
  refine ⟨pt, _, rfl, (h.at o7.ex).filters, ?_⟩
  have hft7 := o7.oldT h.ft
  walk_at "rd"
  refine ⟨th.filters.length, by rw [List.length_map]; rfl, hn0, r_ret1 o7 fun p8 H8 o8 => ?_⟩
  refine r_cat o8 (o8.at 1 rfl) (o8.at 0 rfl) (by rw [List.length_map, List.length_map, List.length_append, List.length_append, List.length_append]; omega) fun p9 H9 o9 => ?_
  rw [← List.map_append] at o9
  have o9 := o9.pick1 0 rfl
  walk_at "rd"
  refine ⟨pt, _, rfl, (h.at o9.ex).filters, ?_⟩
  walk_at "rd"
  have hpre : (sB th.kind ++ lsB intB th.shape ++ lsB intB th.chunks ++ lsB intB [th.fill] ++ numB th.filters.length).length ≤ 80000 := by
    rw [List.length_append, List.length_append, List.length_append, List.length_append]
    omega
  have harr : arrB th = sB th.kind ++ lsB intB th.shape ++ lsB intB th.chunks ++ lsB intB [th.fill] ++ numB th.filters.length ++ th.filters.flatMap sB ++ numB th.r1 ++ numB th.r2 := rfl
  rw [harr] at q
  generalize sB th.kind ++ lsB intB th.shape ++ lsB intB th.chunks ++ lsB intB [th.fill] ++ numB th.filters.length = pre at *
  have hfb : ∀ s ∈ th.filters, (sB s).length ≤ 2100 := fun s hs => sB_len (ptd_flt s (hok.ftb s hs))
  have hftl := hok.ftl
  refine forT (o9.oldT h.ft) (fun i σ' H' => ∃ (v2 : Option V) (p : Addr) (L : List (Addr × HO)), σ' = [some (.ref pt), some (.ref p), v2] ∧ Own H H' ((p, .lst ((pre ++ (th.filters.take i).flatMap sB).map V.int)) :: L)) ⟨_, p9, [], rfl, (by rw [List.take_zero, List.flatMap_nil, List.append_nil]; exact o9)⟩ (fun i σ' H' _ ⟨_, _, _, _, o⟩ => o.oldT h.ft) ?_ ?_
  · rintro i y σ' H' hy ⟨v2, p, L, rfl, o⟩
    rw [List.getElem?_map] at hy
    obtain ⟨s2, hs2, rfl⟩ := Option.map_eq_some_iff.mp hy
    have hm := List.mem_of_getElem? hs2
    have hfi := flatm_len (ms := th.filters.take i) (f := sB) (B := 2100) fun s hs => hfb s (List.mem_of_mem_take hs)
    have htl : (th.filters.take i).length ≤ th.filters.length := by rw [List.length_take]; omega
    have hfl2 := hfb s2 hm
    have hcat : (th.filters.take (i + 1)).flatMap sB = (th.filters.take i).flatMap sB ++ sB s2 := take_flat hs2
    walk_at "rd"
    refine lt_ (ptd_flt s2 (hok.ftb s2 hm)) (r_ret1 o fun p2 H2 o2 => ?_)
    refine r_cat o2 (o2.at 1 rfl) (o2.at 0 rfl) (by rw [List.length_map, List.length_map, List.length_append]; omega) fun p3 H3 o3 => ?_
    rw [← List.map_append, List.append_assoc, ← hcat] at o3
    walk_at "rd"
    exact ⟨_, p3, [], rfl, o3.pick1 0 rfl⟩
  · rintro σ' H' ⟨v2, p, L, rfl, o⟩
    rw [List.length_map, List.take_length] at o
    have hfi := flatm_len (ms := th.filters) (f := sB) (B := 2100) hfb
    have hb1 : th.r1 < 125 ^ 21 := Nat.lt_trans hok.rb.1 (by decide)
    have hb2 : th.r2 < 125 ^ 21 := Nat.lt_trans hok.rb.2 (by decide)
    have hr1 := numB_len 20 th.r1 hb1
    have hr2 := numB_len 20 th.r2 hb2
    walk_at "rd"
    refine ⟨pt, _, rfl, (h.at o.ex).root, ?_⟩
    walk_at "rd"
    refine r_ixT (o.oldT h.rt) (by rfl) ?_
    walk_at "rd"
    refine ⟨th.r1, rfl, hb1, r_ret1 o fun p2 H2 o2 => ?_⟩
    refine r_cat o2 (o2.at 1 rfl) (o2.at 0 rfl) (by rw [List.length_map, List.length_map, List.length_append]; omega) fun p4 H4 o4 => ?_
    rw [← List.map_append] at o4
    walk_at "rd"
    refine ⟨pt, _, rfl, (h.at o4.ex).root, ?_⟩
    walk_at "rd"
    refine r_ixT (o4.oldT h.rt) (by rfl) ?_
    walk_at "rd"
    refine ⟨th.r2, rfl, hb2, r_ret1 o4 fun p5 H5 o5 => ?_⟩
    refine r_cat o5 (o5.at 1 rfl) (o5.at 0 rfl) (by rw [List.length_map, List.length_map, List.length_append, List.length_append]; omega) fun p6 H6 o6 => ?_
    rw [← List.map_append] at o6
    exact q.mk o6 0 rfl
def sp_lvw (K : PySem.W.Frag) : Sp := fun vs H Q _ => ∃ (pt : Addr) (th : ThD), vs = [.ref pt] ∧ ThAt K H pt th ∧ ThOk th ∧ RetO H Q (.lst ((vwB th).map V.int))
theorem d_lvw (T : Top K mg) : Def P w K mg base CX0 4 "_law_view_bytes" ["thing"] (sp_lvw K) := by
  have G__law_number_bytes : Def P w K mg base CX0 1 "_law_number_bytes" ["number"] sp_lnumber := d_lnumber T
  have G__law_text_bytes : Def P w K mg base CX0 3 "_law_text_bytes" ["text"] sp_ltb := d_ltb T
  have G__law_integers_bytes : Def P w K mg base CX0 3 "_law_integers_bytes" ["numbers"] (sp_lintegersQ K) := d_lintegersQ T
  refine T.f__law_view_bytes.ok sc__law_view_bytes (by rintro vs H Q E ⟨x, th, rfl, _⟩; rfl) (fun f cdv A outer s H vs Q E hr h => ?_)
  obtain ⟨pt, th, rfl, hat, hok, q⟩ := h
  obtain ⟨pm, ash, lf, ach, atf, atr, atp, zs, h⟩ := hat.a
  refine ⟨_, (pss_cons (ps_set (i := 1) sc__law_view_bytes.nd rfl (Or.inl rfl) (pe_op op_cat (pe_op op_cat (pe_callD G__law_text_bytes (hr.mono (by decide)) (pa_cons (pe_dget (Nat.lt_of_le_of_lt (Nat.add_le_add_left (by decide) _) hr.units) (pv 0) pe_str (fun _ _ => rfl)) pa_nil)) (pe_callD G__law_integers_bytes (hr.mono (by decide)) (pa_cons (pe_dget (Nat.lt_of_le_of_lt (Nat.add_le_add_left (by decide) _) hr.units) (pv 0) pe_str (fun _ _ => rfl)) pa_nil))) (pe_callD G__law_integers_bytes (hr.mono (by decide)) (pa_cons (pe_dget (Nat.lt_of_le_of_lt (Nat.add_le_add_left (by decide) _) hr.units) (pv 0) pe_str (fun _ _ => rfl)) pa_nil))))
      (pss_cons (ps_set (i := 1) sc__law_view_bytes.nd rfl (Or.inl rfl) (pe_op op_cat (pv 1) (pe_callD G__law_number_bytes (hr.mono (by decide)) (pa_cons (pe_callB (r := Evl.rLenS K) call_len_seq (by rfl) T.b_len (by decide +kernel) (pa_cons (pe_dget (Nat.lt_of_le_of_lt (Nat.add_le_add_left (by decide) _) hr.units) (pv 0) pe_str (fun _ _ => rfl)) pa_nil)) pa_nil))))
      (pss_cons (ps_for PassesOwn.never rfl (pi_tup (pe_dget (Nat.lt_of_le_of_lt (Nat.add_le_add_left (by decide) _) hr.units) (pv 0) pe_str (fun _ _ => rfl))) (pg_name (i := 2) sc__law_view_bytes.nd rfl (Or.inl rfl)) (pss_cons (ps_set (i := 1) sc__law_view_bytes.nd rfl (Or.inl rfl) (pe_op op_cat (pv 1) (pe_callD G__law_text_bytes (hr.mono (by decide)) (pa_cons (pe_ix (r := rIxT K) ix_tup (pv 2) pe_int (fun _ _ => rfl)) pa_nil))))
      (pss_one (ps_for PassesOwn.never rfl (pi_tup (pe_slice (r := rSlA K) sl_tupA (pv 2) (po_some pe_int) po_none)) (pg_name (i := 3) sc__law_view_bytes.nd rfl (Or.inl rfl)) (pss_one (ps_set (i := 1) sc__law_view_bytes.nd rfl (Or.inl rfl) (pe_op op_cat (pv 1) (pe_callD G__law_integers_bytes (hr.mono (by decide)) (pa_cons (pv 3) pa_nil)))))))))
      (pss_one (ps_ret (pv 1)))))), ?_⟩
  have hkp := ptd_ks _ hok.kind
  have hkl := sB_len hkp
  have hz1 : ∀ z ∈ th.shape, Z29 z := z29_small fun z hz => by have := hok.shb z hz; omega
  have hz3 := z29_fill hok
  have hl1 := lsI_len hz1 (by have := hok.shl; omega)
  have hl3 := lsI_len hz3 (by show 1 ≤ 1000; decide)
  have hn0 : th.pieces.length < 125 ^ 21 := Nat.lt_of_le_of_lt hok.pcl (by decide)
  have hn := numB_len 20 th.pieces.length hn0
  obtain ⟨tp', xs, e, hsp, hall⟩ := Tp.inv h.pc
  cases e
  have hlen := hall.len
  rw [List.length_map] at hlen
  unfold tDGet
  walk_at "rd"
  refine ⟨pt, _, rfl, (h.at (.refl _)).kind, ?_⟩
  walk_at "rd"
  refine lt_ hkp (r_ret1 (Own.nil H) fun p1 H1 o1 => ?_)
  walk_at "rd"
  refine ⟨pt, _, rfl, (h.at o1.ex).shape, ?_⟩
  walk_at "rd"
  refine ⟨ash, th.shape, rfl, .inr (o1.oldT h.sh), hz1, by have := hok.shl; omega, r_ret1 o1 fun p2 H2 o2 => ?_⟩
  refine r_cat o2 (o2.at 1 rfl) (o2.at 0 rfl) (by rw [List.length_map, List.length_map]; omega) fun p3 H3 o3 => ?_
  rw [← List.map_append] at o3
  have o3 := o3.pick1 0 rfl
  walk_at "rd"
  refine ⟨pt, _, rfl, (h.at o3.ex).fills, ?_⟩
  walk_at "rd"
  refine ⟨lf, [th.fill], rfl, .inl (SqL.of (o3.ex _ _ h.lf)), hz3, by show 1 ≤ 1000; decide, r_ret1 o3 fun p6 H6 o6 => ?_⟩
  refine r_cat o6 (o6.at 1 rfl) (o6.at 0 rfl) (by rw [List.length_map, List.length_map, List.length_append]; omega) fun p7 H7 o7 => ?_
  rw [← List.map_append] at o7
  have o7 := o7.pick1 0 rfl
  walk_at "rd"
  refine ⟨pt, _, rfl, (h.at o7.ex).pieces, ?_⟩
  have hft7 := o7.oldT hsp
  walk_at "rd"
  refine ⟨th.pieces.length, by rw [hlen]; rfl, hn0, r_ret1 o7 fun p8 H8 o8 => ?_⟩
  refine r_cat o8 (o8.at 1 rfl) (o8.at 0 rfl) (by rw [List.length_map, List.length_map, List.length_append, List.length_append]; omega) fun p9 H9 o9 => ?_
  rw [← List.map_append] at o9
  have o9 := o9.pick1 0 rfl
  walk_at "rd"
  refine ⟨pt, _, rfl, (h.at o9.ex).pieces, ?_⟩
  walk_at "rd"
  have hpre : (sB th.kind ++ lsB intB th.shape ++ lsB intB [th.fill] ++ numB th.pieces.length).length ≤ 60000 := by
    rw [List.length_append, List.length_append, List.length_append]
    omega
  have harr : vwB th = sB th.kind ++ lsB intB th.shape ++ lsB intB [th.fill] ++ numB th.pieces.length ++ th.pieces.flatMap pcB := rfl
  rw [harr] at q
  generalize sB th.kind ++ lsB intB th.shape ++ lsB intB [th.fill] ++ numB th.pieces.length = pre at *
  have hpb : ∀ p ∈ th.pieces, (pcB p).length ≤ 70000 := fun p hp => pcB_len hok.shl (hok.pcb p hp)
  have hpcl := hok.pcl
  refine forT (o9.oldT hsp) (fun i σ' H' => ∃ (v2 v3 : Option V) (p : Addr) (L : List (Addr × HO)), σ' = [some (.ref pt), some (.ref p), v2, v3] ∧ Own H H' ((p, .lst ((pre ++ (th.pieces.take i).flatMap pcB).map V.int)) :: L)) ⟨_, _, p9, [], rfl, (by rw [List.take_zero, List.flatMap_nil, List.append_nil]; exact o9)⟩ (fun i σ' H' _ ⟨_, _, _, _, _, o⟩ => o.oldT hsp) ?_ ?_
  · rintro i y σ' H' hy ⟨v2, v3, pr, L, rfl, o⟩
    obtain ⟨d, hd, ty⟩ := hall.getV hy
    rw [List.getElem?_map] at hd
    obtain ⟨p, hp, rfl⟩ := Option.map_eq_some_iff.mp hd
    have hm := List.mem_of_getElem? hp
    obtain ⟨tt, a1, a2, a3, rfl, hs, g1, g2, g3⟩ := pc_inv ty
    obtain ⟨⟨e1, e2, e3, b1, b2, b3⟩, hpt⟩ := hok.pcb p hm
    have hshl := hok.shl
    have hfi := flatm_len (ms := th.pieces.take i) (f := pcB) (B := 70000) fun s hs => hpb s (List.mem_of_mem_take hs)
    have htl : (th.pieces.take i).length ≤ th.pieces.length := by rw [List.length_take]; omega
    have hcat : (th.pieces.take (i + 1)).flatMap pcB = (th.pieces.take i).flatMap pcB ++ pcB p := take_flat hp
    have hsl := sB_len hpt
    walk_at "rd"
    refine r_ixT (o.oldT hs) (by rfl) ?_
    walk_at "rd"
    refine lt_ hpt (r_ret1 o fun p2 H2 o2 => ?_)
    refine r_cat o2 (o2.at 1 rfl) (o2.at 0 rfl) (by rw [List.length_map, List.length_map, List.length_append]; omega) fun p3 H3 o3 => ?_
    rw [← List.map_append] at o3
    have o3 := o3.pick1 0 rfl
    walk_at "rd"
    refine r_slA o3 (o3.oldT hs) fun ps H4 s4 o4 hps => ?_
    rw [show cutV [V.str p.1, V.ref a1, V.ref a2, V.ref a3] (some 1) none = [V.ref a1, V.ref a2, V.ref a3] from cut_lo _ 1] at hps
    have hin : ∀ (k : Nat) (x : V), [V.ref a1, V.ref a2, V.ref a3][k]? = some x → ∃ (a : Addr) (ns : List Int), x = .ref a ∧ [p.2.1, p.2.2.1, p.2.2.2][k]? = some ns ∧ SqT K H a (ns.map V.int) ∧ (∀ z ∈ ns, Z29 z) ∧ ns.length ≤ 1000 := by
      intro k x hk
      match k, hk with
      | 0, hk => cases hk; exact ⟨a1, _, rfl, rfl, g1, z29_small b1, by omega⟩
      | 1, hk => cases hk; exact ⟨a2, _, rfl, rfl, g2, z29_small b2, by omega⟩
      | 2, hk => cases hk; exact ⟨a3, _, rfl, rfl, g3, z29_small b3, by omega⟩
    have hb2 : (pre ++ (th.pieces.take i).flatMap pcB ++ sB p.1).length ≤ 1000000 := by
      rw [List.length_append, List.length_append]
      omega
    have hpc : pre ++ (th.pieces.take (i + 1)).flatMap pcB = pre ++ (th.pieces.take i).flatMap pcB ++ sB p.1 ++ [p.2.1, p.2.2.1, p.2.2.2].flatMap (lsB intB) := by
      rw [hcat]
      show _ = _ ++ (lsB intB p.2.1 ++ (lsB intB p.2.2.1 ++ (lsB intB p.2.2.2 ++ [])))
      unfold pcB
      simp only [List.append_assoc, List.append_nil]
    rw [hpc]
    have hb3 : ∀ k, (([p.2.1, p.2.2.1, p.2.2.2].take k).flatMap (lsB intB)).length ≤ 70000 := fun k => by
      have h1 := flatm_len (ms := [p.2.1, p.2.2.1, p.2.2.2].take k) (f := lsB intB) (B := 21021) fun ns hns => by
        have := List.mem_of_mem_take hns
        simp only [List.mem_cons, List.not_mem_nil, or_false] at this
        rcases this with rfl | rfl | rfl
        · exact lsI_len (z29_small b1) (by omega)
        · exact lsI_len (z29_small b2) (by omega)
        · exact lsI_len (z29_small b3) (by omega)
      have h2 : ([p.2.1, p.2.2.1, p.2.2.2].take k).length ≤ 3 := by
        rw [List.length_take]
        exact Nat.min_le_right _ _
      omega
    generalize pre ++ (th.pieces.take i).flatMap pcB ++ sB p.1 = pre2 at *
    refine forT hps (fun k σ' H' => ∃ (v3 : Option V) (px : Addr) (L : List (Addr × HO)), σ' = [some (.ref pt), some (.ref px), some (.ref tt), v3] ∧ Own H H' ((px, .lst ((pre2 ++ ([p.2.1, p.2.2.1, p.2.2.2].take k).flatMap (lsB intB)).map V.int)) :: L) ∧ Stp H4 H') ⟨_, p3, _, rfl, (by rw [List.take_zero, List.flatMap_nil, List.append_nil]; exact o4), .refl _⟩ (fun k σ' H' _ ⟨_, _, _, _, _, s⟩ => s.sq hps) ?_ ?_
    · rintro k x σ' H' hk ⟨v3, px, Lx, rfl, ox, sx⟩
      obtain ⟨a, ns, rfl, hns, hg, hz, hl⟩ := hin k x hk
      have hb4 := hb3 k
      have hb5 := lsI_len hz hl
      walk_at "rd"
      refine ⟨a, ns, rfl, .inr (ox.oldT hg), hz, hl, r_ret1s ox fun p5 H5 s5 o5 => ?_⟩
      have s6 := s5
      refine ⟨px, p5, _, _, rfl, rfl, o5.at 1 rfl, o5.at 0 rfl, sz100 (by rw [List.length_map, List.length_map, List.length_append]; omega), fun p6 hp6 => ?_⟩
      have o6 := o5.new (u := .lst ((pre2 ++ ([p.2.1, p.2.2.1, p.2.2.2].take k).flatMap (lsB intB)).map V.int ++ (lsB intB ns).map V.int)) hp6
      have s7 := (sx.trans s5).trans (.of (same_new (u := .lst ((pre2 ++ ([p.2.1, p.2.2.1, p.2.2.2].take k).flatMap (lsB intB)).map V.int ++ (lsB intB ns).map V.int)) hp6))
      rw [← List.map_append, List.append_assoc, ← take_flat hns] at o6
      walk_at "rd"
      rw [← List.map_append, List.append_assoc, ← take_flat hns]
      rw [← List.map_append, List.append_assoc, ← take_flat hns] at s7
      exact ⟨_, p6, _, rfl, o6, s7⟩
    · rintro σ' H' ⟨v3, px, Lx, rfl, ox, sx⟩
      walk_at "rd"
      exact ⟨_, _, px, _, rfl, ox⟩
  · rintro σ' H' ⟨v2, v3, p, L, rfl, o⟩
    rw [hlen, List.take_length] at o
    walk_at "rd"
    exact q.mk o 0 rfl
end
section
variable {P : Program} {w : World} {K : PySem.W.Frag} {mg : Str → Option Value} {base : Heap}
def sp_lobj (K : PySem.W.Frag) : Sp := fun vs H Q _ => ∃ (pt : Addr) (th : ThD), vs = [.ref pt] ∧ ThAt K H pt th ∧ ThOk th ∧ RetO H Q (.lst ((objB th).map V.int))
theorem d_lobj (T : Top K mg) : Def P w K mg base CX0 5 "_law_object_bytes" ["thing"] (sp_lobj K) := by
  have G__law_marks_bytes : Def P w K mg base CX0 4 "_law_marks_bytes" ["marks"] (sp_lmarks K) := d_lmarks T
  have G__law_array_bytes : Def P w K mg base CX0 4 "_law_array_bytes" ["thing"] (sp_larr K) := d_larr T
  have G__law_view_bytes : Def P w K mg base CX0 4 "_law_view_bytes" ["thing"] (sp_lvw K) := d_lvw T
  refine T.f__law_object_bytes.ok sc__law_object_bytes (by rintro vs H Q E ⟨x, th, rfl, _⟩; rfl) (fun f cdv A outer s H vs Q E hr h => ?_)
  obtain ⟨pt, th, rfl, hat, hok, q⟩ := h
  obtain ⟨pm, ash, lf, ach, atf, atr, atp, zs, h⟩ := hat.a
  refine ⟨_, (pss_cons (ps_set (i := 1) sc__law_object_bytes.nd rfl (Or.inl rfl) (pe_op op_cat (pe_lst (pa_cons (pe_dget (Nat.lt_of_le_of_lt (Nat.add_le_add_left (by decide) _) hr.units) (pv 0) pe_str (fun _ _ => rfl)) pa_nil)) (pe_callD G__law_marks_bytes (hr.mono (by decide)) (pa_cons (pe_dget (Nat.lt_of_le_of_lt (Nat.add_le_add_left (by decide) _) hr.units) (pv 0) pe_str (fun _ _ => rfl)) pa_nil))))
      (pss_cons (ps_if (pt_cmpR op_eq (pe_dget (Nat.lt_of_le_of_lt (Nat.add_le_add_left (by decide) _) hr.units) (pv 0) pe_str (fun _ _ => rfl)) pe_int (nomark _)) (pss_one (ps_ret (pe_op op_cat (pv 1) (pe_callD G__law_array_bytes (hr.mono (by decide)) (pa_cons (pv 0) pa_nil))))) pss_nil)
      (pss_cons (ps_if (pt_cmpR op_eq (pe_dget (Nat.lt_of_le_of_lt (Nat.add_le_add_left (by decide) _) hr.units) (pv 0) pe_str (fun _ _ => rfl)) pe_int (nomark _)) (pss_one (ps_ret (pe_op op_cat (pv 1) (pe_callD G__law_view_bytes (hr.mono (by decide)) (pa_cons (pv 0) pa_nil))))) pss_nil)
      (pss_one (ps_ret (pv 1)))))), ?_⟩
  have hml := mksB_len hok
  have hal := arrB_len hok
  have hvl := vwB_len hok
  unfold tDGet
  walk_at "rd"
  refine ⟨pt, _, rfl, (h.at (.refl _)).form, ?_⟩
  walk_at "rd"
  refine r_newL (Own.nil H) (Nat.le_of_ble_eq_true rfl) fun p1 H1 o1 => ?_
  walk_at "rd"
  refine ⟨pt, _, rfl, (h.at o1.ex).marks, ?_⟩
  walk_at "rd"
  refine ⟨pm, zs, th, rfl, o1.ex _ _ h.pm, h.mks.up (.of o1.ex), hok, r_ret1 o1 fun p2 H2 o2 => ?_⟩
  refine r_cat o2 (o2.at 1 rfl) (o2.at 0 rfl) (by rw [List.length_map]; show 1 + _ ≤ _; omega) fun p3 H3 o3 => ?_
  have o3 : Own H H3 ((p3, .lst ((th.form :: mksB th.marks).map V.int)) :: _) := o3
  walk_at "rd"
  refine ⟨pt, _, rfl, (h.at o3.ex).form, ?_⟩
  unfold objB at q
  walk_at "rd"
  refine rif (fun hf => ?_) fun hf => ?_
  · rw [if_pos hf] at q
    walk_at "rd"
    refine ⟨pt, th, rfl, hat.up o3.ex, hok, r_ret1 o3 fun p4 H4 o4 => ?_⟩
    refine r_cat o4 (o4.at 1 rfl) (o4.at 0 rfl) (by rw [List.length_map, List.length_map, List.length_cons]; omega) fun p5 H5 o5 => ?_
    rw [List.map_append] at q
    exact q.mk o5 0 rfl
  rw [if_neg hf] at q
  walk_at "rd"
  refine ⟨pt, _, rfl, (h.at o3.ex).form, ?_⟩
  walk_at "rd"
  refine rif (fun hf => ?_) fun hf => ?_
  · rw [if_pos hf] at q
    walk_at "rd"
    refine ⟨pt, th, rfl, hat.up o3.ex, hok, r_ret1 o3 fun p4 H4 o4 => ?_⟩
    refine r_cat o4 (o4.at 1 rfl) (o4.at 0 rfl) (by rw [List.length_map, List.length_map, List.length_cons]; omega) fun p5 H5 o5 => ?_
    rw [List.map_append] at q
    exact q.mk o5 0 rfl
  rw [if_neg hf, List.append_nil] at q
  walk_at "rd"
  exact q.mk o3 0 rfl
end

/-! ### objects made -/
def QIO : Str := (envOfC (PySem.Str.ofString "in_order") (defScope s_in_order) 0 0 .none).qual ++ PySem.Str.ofString "<lambda>"
section
variable {P : Program} {w : World} {K : PySem.W.Frag} {mg : Str → Option Value} {base : Heap}
/-- a list of tuples that start with names -/
def NmL (K : PySem.W.Frag) (H : Hp) (a : Addr) (cs : List (Str × V)) : Prop := SqL K H a (cs.map (·.2)) ∧ (∀ b ∈ cs, ∃ t ys, b.2 = V.ref t ∧ SqT K H t (.str b.1 :: ys)) ∧ cs.length ≤ 1000
def sp_in_order (K : PySem.W.Frag) (PT : Addr) : Sp := fun vs H Q _ => ∃ (a : Addr) (cs : List (Str × V)), vs = [.ref a] ∧ NmL K H a cs ∧ LamX.TabS H PT QIO ∧ ∀ (H' : Hp) (t : Addr), LamX.ExtN H H' → LamX.TabS H' PT QIO → SqT K H' t ((sortN cs).map (·.2)) → Q (.ref t) H'
theorem d_in_order {cO PT : Addr} (T : Top K mg) (TB : LamX.TabB base mg cO PT) (hc : CodeAt K mg "in_order" cO) : Def P w K mg base CX0 2 "in_order" ["attributes"] (sp_in_order K PT) := by
  refine FunAt.okC T.f_in_order hc sc_in_order (by rintro vs H Q E ⟨a, cs, rfl, _⟩; rfl) (fun f A outer s H vs Q E hr h => ?_)
  obtain ⟨a, cs, rfl, ⟨hS, hb, hl⟩, hT, q⟩ := h
  refine ⟨_, (pss_one (ps_ret (pe_callTy (r := rTupS K) call_tuple_of (by rfl) T.b_tuple (by decide +kernel) (pa_cons (pe_sortLam hr (by rfl) T.b_sorted (pa_cons (pv 0) pa_nil) TB rfl (by rfl) (fun _ _ _ _ _ => by rfl) (by rfl) (by rfl) (by rfl) (by rfl)) pa_nil)))), ?_⟩
  walk_at "rd"
  unfold tSortLam
  walk_at "rd"
  refine ⟨hT, a, cs, rfl, hS, hb, hl, fun H1 p e1 t1 hp => ?_⟩
  have o2 := (Own.nil H1).new (u := .lst ((sortN cs).map (·.2))) hp
  walk_at "rd"
  refine r_tupLs o2 (o2.sqL 0 rfl) fun t H3 s3 o3 ht => ?_
  exact q H3 t (e1.trans (.of o3.ex)) (t1.ext o3.ex) ht
def KeepsP (H H' : Hp) (p : Addr) : Prop := ∀ b o, b ≠ p → H b = some o → (∀ ps, o ≠ .tbl ps) → H' b = some o
def sp_ginit (K : PySem.W.Frag) (PT C : Addr) : Sp := fun vs H Q _ => ∃ (p dx a : Addr) (cs : List (Str × V)), vs = [.ref p, .ref a] ∧ H p = some (.ins C dx []) ∧ NmL K H a cs ∧ LamX.TabS H PT QIO ∧
  ∀ (H' : Hp) (t : Addr), KeepsP H H' p → H' p = some (.ins C dx (grF (.ref t))) → SqT K H' t ((sortN cs).map (·.2)) → Q .non H'
theorem sqT_ins {H : Hp} {a p C dx : Addr} {fs : List (Str × V)} {u : HO} {xs : List V} (hp : H p = some (.ins C dx fs)) (h : SqT K H a xs) : SqT K (upd H p u) a xs := by
  rcases h with (h | ⟨o, h⟩) | h
  · exact .inl (.inl (by rw [upd_ne (fun z => by rw [z, hp] at h; cases h)]; exact h))
  · exact .inl (.inr ⟨o, by rw [upd_ne (fun z => by rw [z, hp] at h; cases h)]; exact h⟩)
  · exact .inr h
theorem sqL_ins {H : Hp} {a p C dx : Addr} {fs : List (Str × V)} {u : HO} {xs : List V} (hp : H p = some (.ins C dx fs)) (h : SqL K H a xs) : SqL K (upd H p u) a xs := by
  rcases h with (h | ⟨o, h⟩) | h
  · exact .inl (.inl (by rw [upd_ne (fun z => by rw [z, hp] at h; cases h)]; exact h))
  · exact .inl (.inr ⟨o, by rw [upd_ne (fun z => by rw [z, hp] at h; cases h)]; exact h⟩)
  · exact .inr h
theorem d_ginit {cO PT C : Addr} (T : Top K mg) (TB : LamX.TabB base mg cO PT) (hc : CodeAt K mg "in_order" cO) (D : Cl_Group K mg C) : KDef P w K mg base CX0 3 C ["self", "attributes"] (sp_ginit K PT C) := by
  have G_in_order : Def P w K mg base CX0 2 "in_order" ["attributes"] (sp_in_order K PT) := d_in_order T TB hc
  refine D.i_.ok sc_Group___init__ (by rintro vs H Q E ⟨p, dx, a, cs, rfl, _⟩; rfl) (fun f cdv A outer s H vs Q E hr h => ?_)
  obtain ⟨p, dx, a, cs, rfl, hp, hn, hT, q⟩ := h
  refine ⟨_, (pss_one (ps_fld (pv 0) (pe_callD G_in_order (hr.mono (by decide)) (pa_cons (pv 1) pa_nil)) rfl)), ?_⟩
  walk_at "rd"
  refine ⟨a, cs, rfl, hn, hT, fun H1 t e1 _ ht => ?_⟩
  have hp1 := e1 _ _ hp fun ps z => nomatch z
  walk_at "rd"
  refine ⟨p, C, dx, [], rfl, hp1, D.cl, D.a_attributes, by decide, ?_⟩
  exact q _ t (fun b o hb e n => by rw [upd_ne hb]; exact e1 b o e n) upd_same (sqT_ins hp1 ht)
def sp_ainit (K : PySem.W.Frag) (PT C : Addr) : Sp := fun vs H Q _ => ∃ (p dx a : Addr) (sh ly rt : V) (cs : List (Str × V)), vs = [.ref p, .ref a, sh, ly, rt] ∧ H p = some (.ins C dx []) ∧ NmL K H a cs ∧ LamX.TabS H PT QIO ∧
  ∀ (H' : Hp) (t : Addr), KeepsP H H' p → H' p = some (.ins C dx (arF (.ref t) sh ly rt)) → SqT K H' t ((sortN cs).map (·.2)) → Q .non H'
theorem d_ainit {cO PT C : Addr} (T : Top K mg) (TB : LamX.TabB base mg cO PT) (hc : CodeAt K mg "in_order" cO) (D : Cl_ArrayObject K mg C) : KDef P w K mg base CX0 3 C ["self", "attributes", "shape", "layout", "root"] (sp_ainit K PT C) := by
  have G_in_order : Def P w K mg base CX0 2 "in_order" ["attributes"] (sp_in_order K PT) := d_in_order T TB hc
  refine D.i_.ok sc_ArrayObject___init__ (by rintro vs H Q E ⟨p, dx, a, sh, ly, rt, cs, rfl, _⟩; rfl) (fun f cdv A outer s H vs Q E hr h => ?_)
  obtain ⟨p, dx, a, sh, ly, rt, cs, rfl, hp, hn, hT, q⟩ := h
  refine ⟨_, (pss_cons (ps_fld (pv 0) (pe_callD G_in_order (hr.mono (by decide)) (pa_cons (pv 1) pa_nil)) rfl)
      (pss_cons (ps_fld (pv 0) (pv 2) rfl)
      (pss_cons (ps_fld (pv 0) (pv 3) rfl)
      (pss_one (ps_fld (pv 0) (pv 4) rfl))))), ?_⟩
  walk_at "rd"
  refine ⟨a, cs, rfl, hn, hT, fun H1 t e1 _ ht => ?_⟩
  have hp1 := e1 _ _ hp fun ps z => nomatch z
  walk_at "rd"
  refine ⟨p, C, dx, [], rfl, hp1, D.cl, D.a_attributes, by decide, ?_⟩
  walk_at "rd"
  refine ⟨p, C, dx, _, rfl, upd_same, D.cl, D.a_shape, Nat.le_of_ble_eq_true rfl, ?_⟩
  walk_at "rd"
  refine ⟨p, C, dx, _, rfl, upd_same, D.cl, D.a_layout, Nat.le_of_ble_eq_true rfl, ?_⟩
  walk_at "rd"
  refine ⟨p, C, dx, _, rfl, upd_same, D.cl, D.a_root, Nat.le_of_ble_eq_true rfl, ?_⟩
  rw [upd_upd, upd_upd, upd_upd]
  exact q _ t (fun b o hb e n => by rw [upd_ne hb]; exact e1 b o e n) upd_same (sqT_ins hp1 ht)
def sp_vinitG (K : PySem.W.Frag) (PT C : Addr) : Sp := fun vs H Q _ => ∃ (p dx a l : Addr) (z sh fl : V) (xs : List V) (cs : List (Str × V)), vs = [.ref p, .ref a, z, sh, fl, .ref l] ∧ H p = some (.ins C dx []) ∧ NmL K H a cs ∧ SqL K H l xs ∧ LamX.TabS H PT QIO ∧
  ∀ (H' : Hp) (t tp : Addr), KeepsP H H' p → H' p = some (.ins C dx (vwF (.ref t) z sh fl (.ref tp))) → SqT K H' t ((sortN cs).map (·.2)) → SqT K H' tp xs → Q .non H'
theorem d_vinitG {cO PT C : Addr} (T : Top K mg) (TB : LamX.TabB base mg cO PT) (hc : CodeAt K mg "in_order" cO) (D : Cl_View K mg C) : KDef P w K mg base CX0 3 C ["self", "attributes", "kind", "shape", "fill", "pieces"] (sp_vinitG K PT C) := by
  have G_in_order : Def P w K mg base CX0 2 "in_order" ["attributes"] (sp_in_order K PT) := d_in_order T TB hc
  refine D.i_.ok sc_View___init__ (by rintro vs H Q E ⟨p, dx, a, l, z, sh, fl, xs, cs, rfl, _⟩; rfl) (fun f cdv A outer s H vs Q E hr h => ?_)
  obtain ⟨p, dx, a, l, z, sh, fl, xs, cs, rfl, hp, hn, hl, hT, q⟩ := h
  refine ⟨_, (pss_cons (ps_fld (pv 0) (pe_callD G_in_order (hr.mono (by decide)) (pa_cons (pv 1) pa_nil)) rfl)
      (pss_cons (ps_fld (pv 0) (pv 2) rfl)
      (pss_cons (ps_fld (pv 0) (pv 3) rfl)
      (pss_cons (ps_fld (pv 0) (pv 4) rfl)
      (pss_one (ps_fld (pv 0) (pe_callTy (r := rTupS K) call_tuple_of (by rfl) T.b_tuple (by decide +kernel) (pa_cons (pv 5) pa_nil)) rfl)))))), ?_⟩
  walk_at "rd"
  refine ⟨a, cs, rfl, hn, hT, fun H1 t e1 _ ht => ?_⟩
  have hp1 := e1 _ _ hp fun ps z => nomatch z
  have hl1 := sqL_extN' hl e1
  walk_at "rd"
  refine ⟨p, C, dx, [], rfl, hp1, D.cl, D.a_attributes, by decide, ?_⟩
  walk_at "rd"
  refine ⟨p, C, dx, _, rfl, upd_same, D.cl, D.a_kind, Nat.le_of_ble_eq_true rfl, ?_⟩
  walk_at "rd"
  refine ⟨p, C, dx, _, rfl, upd_same, D.cl, D.a_shape, Nat.le_of_ble_eq_true rfl, ?_⟩
  walk_at "rd"
  refine ⟨p, C, dx, _, rfl, upd_same, D.cl, D.a_fill, Nat.le_of_ble_eq_true rfl, ?_⟩
  rw [upd_upd, upd_upd, upd_upd]
  walk_at "rd"
  have hl2 := sqL_ins (u := .ins C dx (putF "fill" fl (putF "shape" sh (putF "kind" z (putF "attributes" (.ref t) []))))) hp1 hl1
  have ht2 := sqT_ins (u := .ins C dx (putF "fill" fl (putF "shape" sh (putF "kind" z (putF "attributes" (.ref t) []))))) hp1 ht
  have hp2 : upd H1 p (.ins C dx (putF "fill" fl (putF "shape" sh (putF "kind" z (putF "attributes" (.ref t) []))))) p = _ := upd_same
  have hk2 : ∀ b o, b ≠ p → H b = some o → (∀ ps, o ≠ .tbl ps) → upd H1 p (.ins C dx (putF "fill" fl (putF "shape" sh (putF "kind" z (putF "attributes" (.ref t) []))))) b = some o := fun b o hb e n => by rw [upd_ne hb]; exact e1 b o e n
  generalize upd H1 p (.ins C dx (putF "fill" fl (putF "shape" sh (putF "kind" z (putF "attributes" (.ref t) []))))) = H2 at *
  refine r_tupLs (Own.nil H2) hl2 fun tp H3 s3 o3 htp => ?_
  walk_at "rd"
  refine ⟨p, C, dx, _, rfl, o3.ex _ _ hp2, D.cl, D.a_pieces, Nat.le_of_ble_eq_true rfl, ?_⟩
  exact q _ t tp (fun b o hb e n => by rw [upd_ne hb]; exact o3.ex _ _ (hk2 b o hb e n)) upd_same (sqT_ins (o3.ex _ _ hp2) (s3.sq ht2)) (sqT_ins (o3.ex _ _ hp2) htp)
/-! ### what the law makes of the drawn thing -/
def sp_lof (K : PySem.W.Frag) (PT CG CA CV CL : Addr) : Sp := fun vs H Q _ => ∃ (pt : Addr) (th : ThD), vs = [.ref pt] ∧ ThAt K H pt th ∧ ThOk th ∧ LamX.TabS H PT QIO ∧ ∀ (H' : Hp) (x : Addr), LamX.ExtN H H' → IsObj K H' CG CA CV CL x th → Q (.ref x) H'
theorem d_lof {cO PT CG CA CV CL : Addr} (T : Top K mg) (TB : LamX.TabB base mg cO PT) (hc : CodeAt K mg "in_order" cO) (C_Group : Cl_Group K mg CG) (C_ArrayObject : Cl_ArrayObject K mg CA) (C_View : Cl_View K mg CV) (C_Layout : Cl_Layout K mg CL) : Def P w K mg base CX0 5 "_law_object_of" ["thing"] (sp_lof K PT CG CA CV CL) := by
  have I_Group : KDef P w K mg base CX0 3 CG ["self", "attributes"] (sp_ginit K PT CG) := d_ginit T TB hc C_Group
  have I_ArrayObject : KDef P w K mg base CX0 3 CA ["self", "attributes", "shape", "layout", "root"] (sp_ainit K PT CA) := d_ainit T TB hc C_ArrayObject
  have I_View : KDef P w K mg base CX0 3 CV ["self", "attributes", "kind", "shape", "fill", "pieces"] (sp_vinitG K PT CV) := d_vinitG T TB hc C_View
  have I_Layout : KDef P w K mg base CX0 1 CL ["self", "kind", "chunk_shape", "fill", "filters"] (sp_lyinit CL) := d_lyinit T C_Layout
  refine T.f__law_object_of.ok sc__law_object_of (by rintro vs H Q E ⟨x, th, rfl, _⟩; rfl) (fun f cdv A outer s H vs Q E hr h => ?_)
  obtain ⟨pt, th, rfl, hat, hok, hT, q⟩ := h
  obtain ⟨pm, ash, lf, ach, atf, atr, atp, zs, h⟩ := hat.a
  obtain ⟨bs, hb1, hb2, hb3⟩ := marks_bs h.mks
  have hasc := asc_bs hok hb2
  have hbl : bs.length ≤ 1000 := by
    have := congrArg List.length hb2
    rw [List.length_map, List.length_map] at this
    have := hok.mlen
    omega
  refine ⟨_, (pss_cons (ps_set (i := 1) sc__law_object_of.nd rfl (Or.inl rfl) (pe_revL (pe_callTy (r := Evl.rListS K) call_list_of (by rfl) T.b_list (by decide +kernel) (pa_cons (pe_dget (Nat.lt_of_le_of_lt (Nat.add_le_add_left (by decide) _) hr.units) (pv 0) pe_str (fun _ _ => rfl)) pa_nil))))
      (pss_cons (ps_if (pt_cmpR op_eq (pe_dget (Nat.lt_of_le_of_lt (Nat.add_le_add_left (by decide) _) hr.units) (pv 0) pe_str (fun _ _ => rfl)) pe_int (nomark _)) (pss_one (ps_ret (pe_makeD I_Group C_Group.at_ (hr.mono (by decide)) (pa_cons (pv 1) pa_nil)))) pss_nil)
      (pss_cons (ps_if (pt_cmpR op_eq (pe_dget (Nat.lt_of_le_of_lt (Nat.add_le_add_left (by decide) _) hr.units) (pv 0) pe_str (fun _ _ => rfl)) pe_int (nomark _)) (pss_cons (ps_set (i := 2) sc__law_object_of.nd rfl (Or.inl rfl) (pe_makeD I_Layout C_Layout.at_ (hr.mono (by decide)) (pa_cons (pe_dget (Nat.lt_of_le_of_lt (Nat.add_le_add_left (by decide) _) hr.units) (pv 0) pe_str (fun _ _ => rfl)) (pa_cons (pe_dget (Nat.lt_of_le_of_lt (Nat.add_le_add_left (by decide) _) hr.units) (pv 0) pe_str (fun _ _ => rfl)) (pa_cons (pe_ix (r := rIxL K) ix_list (pe_dget (Nat.lt_of_le_of_lt (Nat.add_le_add_left (by decide) _) hr.units) (pv 0) pe_str (fun _ _ => rfl)) pe_int (fun _ _ => rfl)) (pa_cons (pe_dget (Nat.lt_of_le_of_lt (Nat.add_le_add_left (by decide) _) hr.units) (pv 0) pe_str (fun _ _ => rfl)) pa_nil))))))
      (pss_one (ps_ret (pe_makeD I_ArrayObject C_ArrayObject.at_ (hr.mono (by decide)) (pa_cons (pv 1) (pa_cons (pe_dget (Nat.lt_of_le_of_lt (Nat.add_le_add_left (by decide) _) hr.units) (pv 0) pe_str (fun _ _ => rfl)) (pa_cons (pv 2) (pa_cons (pe_dget (Nat.lt_of_le_of_lt (Nat.add_le_add_left (by decide) _) hr.units) (pv 0) pe_str (fun _ _ => rfl)) pa_nil)))))))) pss_nil)
      (pss_one (ps_ret (pe_makeD I_View C_View.at_ (hr.mono (by decide)) (pa_cons (pv 1) (pa_cons (pe_dget (Nat.lt_of_le_of_lt (Nat.add_le_add_left (by decide) _) hr.units) (pv 0) pe_str (fun _ _ => rfl)) (pa_cons (pe_dget (Nat.lt_of_le_of_lt (Nat.add_le_add_left (by decide) _) hr.units) (pv 0) pe_str (fun _ _ => rfl)) (pa_cons (pe_ix (r := rIxL K) ix_list (pe_dget (Nat.lt_of_le_of_lt (Nat.add_le_add_left (by decide) _) hr.units) (pv 0) pe_str (fun _ _ => rfl)) pe_int (fun _ _ => rfl)) (pa_cons (pe_callTy (r := Evl.rListS K) call_list_of (by rfl) T.b_list (by decide +kernel) (pa_cons (pe_dget (Nat.lt_of_le_of_lt (Nat.add_le_add_left (by decide) _) hr.units) (pv 0) pe_str (fun _ _ => rfl)) pa_nil)) pa_nil))))))))))), ?_⟩
  unfold tDGet
  walk_at "rd"
  unfold tRevL
  walk_at "rd"
  refine ⟨pt, _, rfl, (h.at (.refl _)).marks, ?_⟩
  walk_at "rd"
  refine r_list (Own.nil H) (SqL.of h.pm) fun l1 H1 o1 => ?_
  refine ⟨l1, zs, rfl, o1.sqL 0 rfl, fun p2 hp2 => ?_⟩
  have o2 := o1.new (u := .lst zs.reverse) hp2
  generalize upd H1 p2 (.lst zs.reverse) = H2 at *
  have o2 := o2.pick1 0 rfl
  have hrv : bs.reverse.map (·.2) = zs.reverse := by rw [List.map_reverse, hb1]
  have hnm : ∀ {Hx : Hp}, Stp H Hx → SqL K Hx p2 zs.reverse → NmL K Hx p2 bs.reverse := fun {Hx} s hs => ⟨by rw [hrv]; exact hs, fun b hb => by
    obtain ⟨t, ys, e, hs⟩ := hb3 b (List.mem_reverse.mp hb)
    exact ⟨t, ys, e, s.sq hs⟩, by rw [List.length_reverse]; exact hbl⟩
  have hsrt : (sortN bs.reverse).map (·.2) = zs := by rw [sortN_rev hasc, hb1]
  walk_at "rd"
  refine ⟨pt, _, rfl, (h.at o2.ex).form, ?_⟩
  walk_at "rd"
  refine rif (fun hf => ?_) fun hf => ?_
  · walk_at "rd"
    intro x dx nx ndx nex
    have oa := o2.new (u := .own x) ndx
    have ob := oa.new (u := .ins CG dx []) (show upd H2 dx (.own x) x = none by rw [upd_ne (Ne.symm nex)]; exact nx)
    generalize upd (upd H2 dx (.own x)) x (.ins CG dx []) = H5 at *
    refine ⟨x, dx, p2, bs.reverse, rfl, ob.at 0 rfl, hnm (.of ob.ex) (ob.sqL 2 rfl), hT.ext ob.ex, fun H6 t hk6 hx6 ht6 => ⟨rfl, ?_⟩⟩
    have hxn : H x = none := ob.fresh 0 rfl
    have ext : LamX.ExtN H H6 := fun b o hb n => hk6 b o (fun z => by rw [z, hxn] at hb; cases hb) (ob.ex _ _ hb) n
    rw [hsrt] at ht6
    exact q H6 x ext (.inl ⟨hf, dx, t, hx6, zs, ht6, h.mks.up (stp_extN ext)⟩)
  walk_at "rd"
  refine ⟨pt, _, rfl, (h.at o2.ex).form, ?_⟩
  walk_at "rd"
  refine rif (fun hf2 => ?_) fun hf2 => ?_
  · walk_at "rd"
    refine ⟨pt, _, rfl, (h.at o2.ex).kind, ?_⟩
    walk_at "rd"
    refine ⟨pt, _, rfl, (h.at o2.ex).chunks, ?_⟩
    walk_at "rd"
    refine ⟨pt, _, rfl, (h.at o2.ex).fills, ?_⟩
    walk_at "rd"
    refine r_ixL (SqL.of (o2.ex _ _ h.lf)) (by rfl) ?_
    walk_at "rd"
    refine ⟨pt, _, rfl, (h.at o2.ex).filters, ?_⟩
    walk_at "rd"
    intro ly dl nx ndx nex
    have oa := o2.new (u := .own ly) ndx
    have ob := oa.new (u := .ins CL dl []) (show upd H2 dl (.own ly) ly = none by rw [upd_ne (Ne.symm nex)]; exact nx)
    generalize upd (upd H2 dl (.own ly)) ly (.ins CL dl []) = H5 at *
    refine ⟨ly, dl, _, _, _, _, rfl, ob.at 0 rfl, rfl, ?_⟩
    have oc := ob.set (v := .ins CL dl (lyF (.str th.kind) (.ref ach) (.int th.fill) (.ref atf))) 0 rfl
    generalize upd H5 ly (.ins CL dl (lyF (.str th.kind) (.ref ach) (.int th.fill) (.ref atf))) = H6 at *
    have oc : Own H H6 [(ly, .ins CL dl (lyF (.str th.kind) (.ref ach) (.int th.fill) (.ref atf))), (dl, .own ly), (p2, .lst zs.reverse)] := oc
    walk_at "rd"
    refine ⟨pt, _, rfl, (h.at oc.ex).shape, ?_⟩
    walk_at "rd"
    refine ⟨pt, _, rfl, (h.at oc.ex).root, ?_⟩
    walk_at "rd"
    intro x dx nx ndx nex
    have od := oc.new (u := .own x) ndx
    have oe := od.new (u := .ins CA dx []) (show upd H6 dx (.own x) x = none by rw [upd_ne (Ne.symm nex)]; exact nx)
    generalize upd (upd H6 dx (.own x)) x (.ins CA dx []) = H7 at *
    refine ⟨x, dx, p2, _, _, _, bs.reverse, rfl, oe.at 0 rfl, hnm (.of oe.ex) (oe.sqL 4 rfl), hT.ext oe.ex, fun H8 t hk8 hx8 ht8 => ⟨rfl, ?_⟩⟩
    have hxn : H x = none := oe.fresh 0 rfl
    have ext : LamX.ExtN H H8 := fun b o hb n => hk8 b o (fun z => by rw [z, hxn] at hb; cases hb) (oe.ex _ _ hb) n
    have hly : H8 ly = some (.ins CL dl (lyF (.str th.kind) (.ref ach) (.int th.fill) (.ref atf))) := hk8 ly _ (oe.ne (i := 2) (j := 0) rfl rfl (by decide)) (oe.at 2 rfl) fun ps z => nomatch z
    have st := stp_extN ext
    rw [hsrt] at ht8
    exact q H8 x ext (.inr (.inl ⟨hf2, dx, t, dl, ly, ash, ach, atf, atr, hx8, ⟨zs, ht8, h.mks.up st⟩, hly, st.sq h.sh, st.sq h.ch, st.sq h.ft, st.sq h.rt⟩))
  have hf3 : th.form = 3 := by
    rcases hok.form with e | e | e
    · exact absurd e hf
    · exact absurd e hf2
    · exact e
  obtain ⟨tp', xs, e, hsp, hall⟩ := Tp.inv h.pc
  cases e
  walk_at "rd"
  refine ⟨pt, _, rfl, (h.at o2.ex).kind, ?_⟩
  walk_at "rd"
  refine ⟨pt, _, rfl, (h.at o2.ex).shape, ?_⟩
  walk_at "rd"
  refine ⟨pt, _, rfl, (h.at o2.ex).fills, ?_⟩
  walk_at "rd"
  refine r_ixL (SqL.of (o2.ex _ _ h.lf)) (by rfl) ?_
  walk_at "rd"
  refine ⟨pt, _, rfl, (h.at o2.ex).pieces, ?_⟩
  walk_at "rd"
  refine r_listT o2 (o2.oldT hsp) fun pl H4 o4 => ?_
  walk_at "rd"
  intro x dx nx ndx nex
  have oa := o4.new (u := .own x) ndx
  have ob := oa.new (u := .ins CV dx []) (show upd H4 dx (.own x) x = none by rw [upd_ne (Ne.symm nex)]; exact nx)
  generalize upd (upd H4 dx (.own x)) x (.ins CV dx []) = H5 at *
  refine ⟨x, dx, p2, pl, _, _, _, xs, bs.reverse, rfl, ob.at 0 rfl, hnm (.of ob.ex) (ob.sqL 3 rfl), ob.sqL 2 rfl, hT.ext ob.ex, fun H6 t tv hk6 hx6 ht6 htv => ⟨rfl, ?_⟩⟩
  have hxn : H x = none := ob.fresh 0 rfl
  have ext : LamX.ExtN H H6 := fun b o hb n => hk6 b o (fun z => by rw [z, hxn] at hb; cases hb) (ob.ex _ _ hb) n
  have st := stp_extN ext
  rw [hsrt] at ht6
  exact q H6 x ext (.inr (.inr ⟨hf3, dx, t, ash, tv, hx6, ⟨zs, ht6, h.mks.up st⟩, st.sq h.sh, .tup htv (hall.up st)⟩))
end

section
variable {K : PySem.W.Frag} {H : Hp} {Q : VK}
theorem r_neSameD {x y : V} {d : PyData} (hx : Tp K H x d) (hy : Tp K H y d) (hs : SeqAt.shaped d = true ∧ PyData.eqv d d = true) (q : Q (.bl false) H) : rNeD K x y H Q :=
  ⟨d, d, hx.dp, hy.dp, hs.1, hs.1, by rw [hs.2]; exact q⟩
/-- equal to itself, and laid -/
def GoodD (n : Nat) (d : PyData) : Prop := PyData.eqv d d = true ∧ PyData.canLay0 d = true ∧ PyData.depth d ≤ n
def GoodL (n : Nat) (ds : List PyData) : Prop := PyData.eqvAll ds ds = true ∧ PyData.canLayAll0 ds = true ∧ PyData.depthAll ds ≤ n
theorem ptd_ok {z : Str} (h : PtD z) : PyData.canLay0 (.str z) = true := by
  obtain ⟨cs, rfl, h1, _⟩ := h
  show (tx cs).cps.all (fun c => decide (c < 0x110000)) = true
  rw [← Array.all_toList]
  show cs.all _ = true
  rw [List.all_eq_true]
  intro c hc
  have := (h1 c hc).2.1
  exact decide_eq_true (by omega)
theorem GoodD.str {z : Str} (h : PtD z) : GoodD 0 (.str z) := ⟨by simp [PyData.eqv], ptd_ok h, Nat.le_refl _⟩
theorem GoodD.int (z : Int) : GoodD 0 (.int z) := ⟨by simp [PyData.eqv], rfl, Nat.le_refl _⟩
theorem GoodL.nil (n : Nat) : GoodL n [] := ⟨by simp [PyData.eqvAll], rfl, Nat.zero_le _⟩
theorem GoodL.cons {n : Nat} {d : PyData} {ds : List PyData} (h : GoodD n d) (t : GoodL n ds) : GoodL n (d :: ds) := by
  refine ⟨?_, ?_, ?_⟩
  · show (PyData.eqv d d && PyData.eqvAll ds ds) = true
    rw [h.1, t.1]; rfl
  · show (PyData.canLay0 d && PyData.canLayAll0 ds) = true
    rw [h.2.1, t.2.1]; rfl
  · show max (PyData.depth d) (PyData.depthAll ds) ≤ n
    exact Nat.max_le.mpr ⟨h.2.2, t.2.2⟩
theorem GoodD.tup {n : Nat} {ds : List PyData} (h : GoodL n ds) : GoodD (n + 1) (.tuple ds) := by
  refine ⟨?_, h.2.1, ?_⟩
  · rw [PyData.eqv]
    exact h.1
  · show PyData.depthAll ds + 1 ≤ n + 1
    exact Nat.succ_le_succ h.2.2
theorem GoodD.up {n m : Nat} {d : PyData} (h : GoodD n d) (hm : n ≤ m) : GoodD m d := ⟨h.1, h.2.1, Nat.le_trans h.2.2 hm⟩
theorem GoodL.ofAll {α : Type} {n : Nat} {f : α → PyData} : ∀ (l : List α), (∀ x ∈ l, GoodD n (f x)) → GoodL n (l.map f)
  | [], _ => .nil n
  | x :: r, h => .cons (h x List.mem_cons_self) (.ofAll r fun y hy => h y (List.mem_cons_of_mem _ hy))
theorem GoodD.ints (ns : List Int) : GoodD 1 (tupI ns) := .tup (.ofAll ns fun z _ => .int z)
theorem GoodD.sh {n : Nat} {d : PyData} (h : GoodD n d) (hn : n ≤ 64) : SeqAt.shaped d = true ∧ PyData.eqv d d = true := by
  refine ⟨?_, h.1⟩
  unfold SeqAt.shaped
  rw [Bool.and_eq_true]
  exact ⟨h.2.1, decide_eq_true (Nat.le_trans h.2.2 hn)⟩
theorem atv_good {d : PyData} (h : AtV d) : GoodD 1 d := by
  rcases h with ⟨cs, rfl, hc⟩ | ⟨ns, rfl, _⟩
  · exact (GoodD.str ⟨cs, rfl, hc.1, Nat.le_trans hc.2 (by decide)⟩).up (by decide)
  · exact .ints ns
theorem marks_good {th : ThD} (h : ThOk th) : SeqAt.shaped (.tuple (th.marks.map markD)) = true ∧ PyData.eqv (.tuple (th.marks.map markD)) (.tuple (th.marks.map markD)) = true :=
  (GoodD.tup (GoodL.ofAll (n := 2) th.marks fun m hm => .tup (.cons ((GoodD.str (ptd_nm (h.mok m hm).1)).up (by decide)) (.cons (atv_good (h.mok m hm).2) (.nil _))))).sh (by decide)
theorem pieces_good {th : ThD} (h : ThOk th) : GoodD 3 (.tuple (th.pieces.map pcD)) :=
  GoodD.tup (GoodL.ofAll (n := 2) th.pieces fun p hp => .tup (.cons ((GoodD.str (h.pcb p hp).2).up (by decide)) (.cons (.ints _) (.cons (.ints _) (.cons (.ints _) (.nil _))))))
end
section
variable {P : Program} {w : World} {K : PySem.W.Frag} {mg : Str → Option Value} {base : Heap}
def lawK : Nat := 12
theorem ok_law {f : Addr} {fd : FuncData} {cO PT : Addr} (F : Fun K "law" "law" s_law f fd) (T : Top K mg) (TB : LamX.TabB base mg cO PT) (hc : CodeAt K mg "in_order" cO) : FnOk P w K mg base CX0 lawK f fd ["script"] (spLawT K PT) := by
  obtain ⟨CG, C_Group⟩ := T.c_Group
  obtain ⟨CA, C_ArrayObject⟩ := T.c_ArrayObject
  obtain ⟨CV, C_View⟩ := T.c_View
  obtain ⟨CL, C_Layout⟩ := T.c_Layout
  have G__law_stream : Def P w K mg base CX0 2 "_law_stream" ["script", "count"] (sp_stream K) := d_stream T
  have G__law_drawn_thing : Def P w K mg base CX0 4 "_law_drawn_thing" ["draws"] (sp_drawn3 K) := d_drawn3 T
  have G__law_object_of : Def P w K mg base CX0 5 "_law_object_of" ["thing"] (sp_lof K PT CG CA CV CL) := d_lof T TB hc C_Group C_ArrayObject C_View C_Layout
  have G__law_same_ints : Def P w K mg base CX0 3 "_law_same_ints" ["x", "due"] (sp_same_ints K) := d_same_ints T
  have G_write_object : Def P w K mg base CX0 5 "write_object" ["thing"] (sp_write_object K CG CA CV CL) := d_write_object T C_Group C_ArrayObject C_View C_Layout
  have G__law_object_bytes : Def P w K mg base CX0 5 "_law_object_bytes" ["thing"] (sp_lobj K) := d_lobj T
  refine F.ok sc_law (by rintro vs H Q E ⟨a, ss, rfl, _⟩; rfl) (fun cdv A outer s H vs Q E hr h => ?_)
  obtain ⟨a, ss, rfl, hS, hl, hb, hPT, q⟩ := h
  refine ⟨_, (pss_cons (ps_set (i := 1) sc_law.nd rfl (Or.inl rfl) (pe_callD G__law_stream (hr.mono (by decide)) (pa_cons (pv 0) (pa_cons pe_int pa_nil))))
      (pss_cons (ps_set (i := 2) sc_law.nd rfl (Or.inl rfl) (pe_callD G__law_drawn_thing (hr.mono (by decide)) (pa_cons (pv 1) pa_nil)))
      (pss_cons (ps_set (i := 3) sc_law.nd rfl (Or.inl rfl) (pe_callD G__law_object_of (hr.mono (by decide)) (pa_cons (pv 2) pa_nil)))
      (pss_cons (ps_if (PW.pt (pw_or (pt_cmpR (r := rNeD K) (op_neD hr.units) (pe_fld (pv 3) rfl) (pe_callTy (r := rTupS K) call_tuple_of (by rfl) T.b_tuple (by decide +kernel) (pa_cons (pe_dget (Nat.lt_of_le_of_lt (Nat.add_le_add_left (by decide) _) hr.units) (pv 2) pe_str (fun _ _ => rfl)) pa_nil)) (nomark _)) (pw_or1 (pt_not (pt_val (pe_callB (r := rIsi K) call_isi (by rfl) T.b_isinstance (by decide +kernel) (pa_cons (pe_fld (pv 3) rfl) (pa_cons (pe_bltn (v := .ty "tuple") (by rfl) T.b_tuple (by decide +kernel) rfl) pa_nil)))))))) (pss_one (ps_ret pe_bl)) pss_nil)
      (Evl.pss_cut (ps_if (pt_cmpR op_eq (pe_dget (Nat.lt_of_le_of_lt (Nat.add_le_add_left (by decide) _) hr.units) (pv 2) pe_str (fun _ _ => rfl)) pe_int (nomark _)) (pss_one (ps_if (PW.pt (pw_or (pt_cmpR (r := rNeD K) (op_neD hr.units) (pe_fld (pv 3) rfl) (pe_dget (Nat.lt_of_le_of_lt (Nat.add_le_add_left (by decide) _) hr.units) (pv 2) pe_str (fun _ _ => rfl)) (nomark _)) (pw_or (pt_cmpR (r := rNeD K) (op_neD hr.units) (pe_fld (pv 3) rfl) (pe_dget (Nat.lt_of_le_of_lt (Nat.add_le_add_left (by decide) _) hr.units) (pv 2) pe_str (fun _ _ => rfl)) (nomark _)) (pw_or1 (pt_cmpR op_ne (pe_fld (pe_fld (pv 3) rfl) rfl) (pe_dget (Nat.lt_of_le_of_lt (Nat.add_le_add_left (by decide) _) hr.units) (pv 2) pe_str (fun _ _ => rfl)) (nomark _)))))) (pss_one (ps_ret pe_bl)) pss_nil)) pss_nil)
      (Evl.pss_cut (ps_if (pt_cmpR op_eq (pe_dget (Nat.lt_of_le_of_lt (Nat.add_le_add_left (by decide) _) hr.units) (pv 2) pe_str (fun _ _ => rfl)) pe_int (nomark _)) (pss_one (ps_if (pt_cmpR (r := rNeD K) (op_neD hr.units) (pe_tup (pa_cons (pe_fld (pv 3) rfl) (pa_cons (pe_fld (pv 3) rfl) (pa_cons (pe_fld (pv 3) rfl) (pa_cons (pe_fld (pv 3) rfl) pa_nil))))) (pe_tup (pa_cons (pe_dget (Nat.lt_of_le_of_lt (Nat.add_le_add_left (by decide) _) hr.units) (pv 2) pe_str (fun _ _ => rfl)) (pa_cons (pe_dget (Nat.lt_of_le_of_lt (Nat.add_le_add_left (by decide) _) hr.units) (pv 2) pe_str (fun _ _ => rfl)) (pa_cons (pe_ix (r := rIxL K) ix_list (pe_dget (Nat.lt_of_le_of_lt (Nat.add_le_add_left (by decide) _) hr.units) (pv 2) pe_str (fun _ _ => rfl)) pe_int (fun _ _ => rfl)) (pa_cons (pe_dget (Nat.lt_of_le_of_lt (Nat.add_le_add_left (by decide) _) hr.units) (pv 2) pe_str (fun _ _ => rfl)) pa_nil))))) (nomark _)) (pss_one (ps_ret pe_bl)) pss_nil)) pss_nil)
      (pss_one (ps_ret (pe_callD G__law_same_ints (hr.mono (by decide)) (pa_cons (pe_callD G_write_object (hr.mono (by decide)) (pa_cons (pv 3) pa_nil)) (pa_cons (pe_callD G__law_object_bytes (hr.mono (by decide)) (pa_cons (pv 2) pa_nil)) pa_nil))))))))))), ?_⟩
  walk_at "rd"
  refine ⟨_, _, 64, rfl, hS, by omega, fun dr hdl hd => r_ret1 (Own.nil H) fun p1 H1 o1 => ?_⟩
  walk_at "rd"
  refine ⟨p1, dr, rfl, o1.sqL 0 rfl, hd, hdl, fun H2 pt th e2 npt hok hat => ?_⟩
  walk_at "rd"
  have hT2 : H2 PT = some (.tbl #[]) := e2 _ _ (o1.ex _ _ hPT)
  refine ⟨pt, th, rfl, hat, hok, LamX.TabS.nil hT2, fun H3 x e3 hx => ?_⟩
  have hat3 := hat.upN e3
  clear hat e2 e3 hT2 hPT o1
  obtain ⟨pm, ash, lf, ach, atf, atr, atp, zs, h⟩ := hat3.a
  have hmt := marks_good hok
  have hol : (objB th).length ≤ 10000000 := by
    have h1 := mksB_len hok
    have h2 := arrB_len hok
    have h3 := vwB_len hok
    unfold objB
    rw [List.length_append, List.length_cons]
    split
    · omega
    · split
      · omega
      · show _ + 0 ≤ _
        omega
  have fin : ∀ Hy, Same H3 Hy → sp_write_object K CG CA CV CL [.ref x] Hy (fun v H' => ∃ p, v = .ref p ∧ H' p = some (.lst ((objB th).map V.int)) ∧ Same Hy H') E0 := fun Hy sy =>
    ⟨x, th, rfl, hx.up sy, hok, fun H' p s _ hp => ⟨p, rfl, hp, s⟩⟩
  unfold tDGet
  walk_at "rd"
  have tail : ∀ H', Same H3 H' → tRet (tCall (sp_same_ints K) [] E0 (tCons (tCall (sp_write_object K CG CA CV CL) [] E0 (tCons (tVar 3) tNil)) (tCons (tCall (sp_lobj K) [] E0 (tCons (tVar 2) tNil)) tNil))) { nx := fun _ H' => Q .non H', rt := Q } [some (.ref a), some (.ref p1), some (.ref pt), some (.ref x)] H' := fun H' s => by
    walk_at "rd"
    refine ⟨x, th, rfl, hx.up s, hok, r_ret1 (Own.nil H') fun p2 H4 o4 => ?_⟩
    walk_at "rd"
    refine ⟨pt, th, rfl, hat3.up (s.trans o4.ex), hok, r_ret1 o4 fun p5 H5 o5 => ?_⟩
    walk_at "rd"
    exact ⟨p2, p5, _, rfl, o5.at 1 rfl, o5.sqL 0 rfl, hol, q _⟩
  have first : ∀ (t : Addr) (zs' : List V) (R : V → Hp → Prop), SqT K H3 t zs' → TpAll K H3 zs' (th.marks.map markD) → (∀ H', Same H3 H' → R (.bl false) H') → rTupS K [V.ref pm] H3 fun y H2 => rNeD K (.ref t) y H2 R := fun t zs' R h1 h2 k => by
    refine r_tupLs (Own.nil H3) (SqL.of h.pm) fun t2 H4 s4 o4 ht2 => ?_
    exact r_neSameD (.tup (s4.sq h1) (h2.up s4)) (.tup ht2 (h.mks.up s4)) hmt (k _ o4.ex)
  have gkd := (GoodD.str (ptd_ks _ hok.kind))
  rcases hx with ⟨e, hx⟩ | ⟨e, hx⟩ | ⟨e, hx⟩
  · obtain ⟨dx, t, hx1, zs', ht1, ht2⟩ := hx
    refine ⟨x, CG, dx, _, .ref t, rfl, hx1, C_Group.cl, C_Group.a_attributes, rfl, ?_⟩
    walk_at "rd"
    refine ⟨pt, _, rfl, (h.at (.refl _)).marks, ?_⟩
    walk_at "rd"
    refine first t zs' _ ht1 ht2 fun H4 s4 => ?_
    walk_at "rd"
    refine ⟨x, CG, dx, _, .ref t, rfl, s4 _ _ hx1, C_Group.cl, C_Group.a_attributes, rfl, ?_⟩
    have ht4 := (Stp.of s4).sq ht1
    walk_at "rd"
    refine ⟨fun σ' H' => σ' = [some (.ref a), some (.ref p1), some (.ref pt), some (.ref x)] ∧ Same H3 H', ?_, ?_⟩
    · walk_at "rd"
      refine ⟨pt, _, rfl, (h.at s4).form, ?_⟩
      walk_at "rd"
      rw [e]
      refine rif_no (by decide) ?_
      walk_at "rd"
      exact ⟨rfl, s4⟩
    rintro σ' H5 ⟨rfl, s5⟩
    refine ⟨fun σ' H' => σ' = [some (.ref a), some (.ref p1), some (.ref pt), some (.ref x)] ∧ Same H3 H', ?_, ?_⟩
    · walk_at "rd"
      refine ⟨pt, _, rfl, (h.at s5).form, ?_⟩
      walk_at "rd"
      rw [e]
      refine rif_no (by decide) ?_
      walk_at "rd"
      exact ⟨rfl, s5⟩
    rintro σ' H6 ⟨rfl, s6⟩
    exact tail H6 s6
  · obtain ⟨dx, t, dl, ly, ash2, ach2, atf2, atr2, hx1, ⟨zs', ht1, ht2⟩, hly, h4, h5, h6, h7⟩ := hx
    refine ⟨x, CA, dx, _, .ref t, rfl, hx1, C_ArrayObject.cl, C_ArrayObject.a_attributes, rfl, ?_⟩
    walk_at "rd"
    refine ⟨pt, _, rfl, (h.at (.refl _)).marks, ?_⟩
    walk_at "rd"
    refine first t zs' _ ht1 ht2 fun H4 s4 => ?_
    walk_at "rd"
    refine ⟨x, CA, dx, _, .ref t, rfl, s4 _ _ hx1, C_ArrayObject.cl, C_ArrayObject.a_attributes, rfl, ?_⟩
    have ht4 := (Stp.of s4).sq ht1
    walk_at "rd"
    refine ⟨fun σ' H' => σ' = [some (.ref a), some (.ref p1), some (.ref pt), some (.ref x)] ∧ Same H3 H', ?_, ?_⟩
    · walk_at "rd"
      refine ⟨pt, _, rfl, (h.at s4).form, ?_⟩
      walk_at "rd"
      rw [e]
      refine rif_yes (by decide) ?_
      walk_at "rd"
      refine ⟨x, CA, dx, _, .ref ash2, rfl, s4 _ _ hx1, C_ArrayObject.cl, C_ArrayObject.a_shape, rfl, ?_⟩
      walk_at "rd"
      refine ⟨pt, _, rfl, (h.at s4).shape, ?_⟩
      walk_at "rd"
      refine r_neSameD (Tp.intsT ((Stp.of s4).sq h4)) (Tp.intsT ((Stp.of s4).sq h.sh)) ((GoodD.ints th.shape).sh (by decide)) ?_
      walk_at "rd"
      refine ⟨x, CA, dx, _, .ref atr2, rfl, s4 _ _ hx1, C_ArrayObject.cl, C_ArrayObject.a_root, rfl, ?_⟩
      walk_at "rd"
      refine ⟨pt, _, rfl, (h.at s4).root, ?_⟩
      walk_at "rd"
      refine r_neSameD (Tp.intsT (ns := [(th.r1 : Int), (th.r2 : Int)]) ((Stp.of s4).sq h7)) (Tp.intsT (ns := [(th.r1 : Int), (th.r2 : Int)]) ((Stp.of s4).sq h.rt)) ((GoodD.ints [(th.r1 : Int), (th.r2 : Int)]).sh (by decide)) ?_
      walk_at "rd"
      refine ⟨x, CA, dx, _, .ref ly, rfl, s4 _ _ hx1, C_ArrayObject.cl, C_ArrayObject.a_layout, rfl, ?_⟩
      walk_at "rd"
      refine ⟨ly, CL, dl, _, .str th.kind, rfl, s4 _ _ hly, C_Layout.cl, C_Layout.a_kind, rfl, ?_⟩
      walk_at "rd"
      refine ⟨pt, _, rfl, (h.at s4).kind, ?_⟩
      walk_at "rd"
      refine rif_nyes rfl ?_
      walk_at "rd"
      exact ⟨rfl, s4⟩
    rintro σ' H5 ⟨rfl, s5⟩
    refine ⟨fun σ' H' => σ' = [some (.ref a), some (.ref p1), some (.ref pt), some (.ref x)] ∧ Same H3 H', ?_, ?_⟩
    · walk_at "rd"
      refine ⟨pt, _, rfl, (h.at s5).form, ?_⟩
      walk_at "rd"
      rw [e]
      refine rif_no (by decide) ?_
      walk_at "rd"
      exact ⟨rfl, s5⟩
    rintro σ' H6 ⟨rfl, s6⟩
    exact tail H6 s6
  · obtain ⟨dx, t, ash2, tp2, hx1, ⟨zs', ht1, ht2⟩, h4, h5⟩ := hx
    refine ⟨x, CV, dx, _, .ref t, rfl, hx1, C_View.cl, C_View.a_attributes, rfl, ?_⟩
    walk_at "rd"
    refine ⟨pt, _, rfl, (h.at (.refl _)).marks, ?_⟩
    walk_at "rd"
    refine first t zs' _ ht1 ht2 fun H4 s4 => ?_
    walk_at "rd"
    refine ⟨x, CV, dx, _, .ref t, rfl, s4 _ _ hx1, C_View.cl, C_View.a_attributes, rfl, ?_⟩
    have ht4 := (Stp.of s4).sq ht1
    walk_at "rd"
    refine ⟨fun σ' H' => σ' = [some (.ref a), some (.ref p1), some (.ref pt), some (.ref x)] ∧ Same H3 H', ?_, ?_⟩
    · walk_at "rd"
      refine ⟨pt, _, rfl, (h.at s4).form, ?_⟩
      walk_at "rd"
      rw [e]
      refine rif_no (by decide) ?_
      walk_at "rd"
      exact ⟨rfl, s4⟩
    rintro σ' H5 ⟨rfl, s5⟩
    have z5 := Stp.of s5
    refine ⟨fun σ' H' => σ' = [some (.ref a), some (.ref p1), some (.ref pt), some (.ref x)] ∧ Same H3 H', ?_, ?_⟩
    · walk_at "rd"
      refine ⟨pt, _, rfl, (h.at s5).form, ?_⟩
      walk_at "rd"
      rw [e]
      refine rif_yes (by decide) ?_
      walk_at "rd"
      refine ⟨x, CV, dx, _, .str th.kind, rfl, s5 _ _ hx1, C_View.cl, C_View.a_kind, rfl, ?_⟩
      walk_at "rd"
      refine ⟨x, CV, dx, _, .ref ash2, rfl, s5 _ _ hx1, C_View.cl, C_View.a_shape, rfl, ?_⟩
      walk_at "rd"
      refine ⟨x, CV, dx, _, .int th.fill, rfl, s5 _ _ hx1, C_View.cl, C_View.a_fill, rfl, ?_⟩
      walk_at "rd"
      refine ⟨x, CV, dx, _, .ref tp2, rfl, s5 _ _ hx1, C_View.cl, C_View.a_pieces, rfl, ?_⟩
      walk_at "rd"
      refine r_newTp (K := K) (ds := [.str th.kind, tupI th.shape, .int th.fill, .tuple (th.pieces.map pcD)]) (Own.nil H5) (.cons (.str _) (.cons (Tp.intsT (z5.sq h4)) (.cons (.int _) (.cons (h5.up z5) .nil)))) (Nat.le_of_ble_eq_true rfl) fun ta H6 s6 o6 ta6 => ?_
      have s56 := s5.trans o6.ex
      walk_at "rd"
      refine ⟨pt, _, rfl, (h.at s56).kind, ?_⟩
      walk_at "rd"
      refine ⟨pt, _, rfl, (h.at s56).shape, ?_⟩
      walk_at "rd"
      refine ⟨pt, _, rfl, (h.at s56).fills, ?_⟩
      walk_at "rd"
      refine r_ixL (SqL.of (s56 _ _ h.lf)) (by rfl) ?_
      walk_at "rd"
      refine ⟨pt, _, rfl, (h.at s56).pieces, ?_⟩
      walk_at "rd"
      refine r_newTp (K := K) (ds := [.str th.kind, tupI th.shape, .int th.fill, .tuple (th.pieces.map pcD)]) o6 (.cons (.str _) (.cons (Tp.intsT ((Stp.of s56).sq h.sh)) (.cons (.int _) (.cons (h.pc.up (.of s56)) .nil)))) (Nat.le_of_ble_eq_true rfl) fun tb H7 s7 o7 tb7 => ?_
      refine r_neSameD (ta6.up s7) tb7 ((GoodD.tup (n := 3) (.cons (gkd.up (by decide)) (.cons ((GoodD.ints _).up (by decide)) (.cons ((GoodD.int _).up (by decide)) (.cons (pieces_good hok) (.nil _)))))).sh (by decide)) ?_
      walk_at "rd"
      exact ⟨rfl, s5.trans o7.ex⟩
    rintro σ' H6 ⟨rfl, s6⟩
    exact tail H6 s6
end

theorem top_mk {K : PySem.W.Frag} {h : Heap} {mg : Str → Option Value} (X : K.In h) (G : h.Ns mainGlobals mg)
    {f_write_number : Addr} {od_write_number an_write_number : Option Addr} {sl_write_number : Array (Option Value)} {oc_write_number kV_write_number dc_write_number pm_write_number cd_write_number ct_write_number : Value}
    {f_write_integer : Addr} {od_write_integer an_write_integer : Option Addr} {sl_write_integer : Array (Option Value)} {oc_write_integer kV_write_integer dc_write_integer pm_write_integer cd_write_integer ct_write_integer : Value}
    {f_write_integers : Addr} {od_write_integers an_write_integers : Option Addr} {sl_write_integers : Array (Option Value)} {oc_write_integers kV_write_integers dc_write_integers pm_write_integers cd_write_integers ct_write_integers : Value}
    {f_write_bytes : Addr} {od_write_bytes an_write_bytes : Option Addr} {sl_write_bytes : Array (Option Value)} {oc_write_bytes kV_write_bytes dc_write_bytes pm_write_bytes cd_write_bytes ct_write_bytes : Value}
    {f_write_text : Addr} {od_write_text an_write_text : Option Addr} {sl_write_text : Array (Option Value)} {oc_write_text kV_write_text dc_write_text pm_write_text cd_write_text ct_write_text : Value}
    {f_in_order : Addr} {od_in_order an_in_order : Option Addr} {sl_in_order : Array (Option Value)} {oc_in_order kV_in_order dc_in_order pm_in_order cd_in_order ct_in_order : Value}
    {f_write_object : Addr} {od_write_object an_write_object : Option Addr} {sl_write_object : Array (Option Value)} {oc_write_object kV_write_object dc_write_object pm_write_object cd_write_object ct_write_object : Value}
    {f_write_attributes : Addr} {od_write_attributes an_write_attributes : Option Addr} {sl_write_attributes : Array (Option Value)} {oc_write_attributes kV_write_attributes dc_write_attributes pm_write_attributes cd_write_attributes ct_write_attributes : Value}
    {f_write_array : Addr} {od_write_array an_write_array : Option Addr} {sl_write_array : Array (Option Value)} {oc_write_array kV_write_array dc_write_array pm_write_array cd_write_array ct_write_array : Value}
    {f_write_view : Addr} {od_write_view an_write_view : Option Addr} {sl_write_view : Array (Option Value)} {oc_write_view kV_write_view dc_write_view pm_write_view cd_write_view ct_write_view : Value}
    {f__law_cell : Addr} {od__law_cell an__law_cell : Option Addr} {sl__law_cell : Array (Option Value)} {oc__law_cell kV__law_cell dc__law_cell pm__law_cell cd__law_cell ct__law_cell : Value}
    {f__law_draws : Addr} {od__law_draws an__law_draws : Option Addr} {sl__law_draws : Array (Option Value)} {oc__law_draws kV__law_draws dc__law_draws pm__law_draws cd__law_draws ct__law_draws : Value}
    {f__law_is_int : Addr} {od__law_is_int an__law_is_int : Option Addr} {sl__law_is_int : Array (Option Value)} {oc__law_is_int kV__law_is_int dc__law_is_int pm__law_is_int cd__law_is_int ct__law_is_int : Value}
    {f__law_is_number : Addr} {od__law_is_number an__law_is_number : Option Addr} {sl__law_is_number : Array (Option Value)} {oc__law_is_number kV__law_is_number dc__law_is_number pm__law_is_number cd__law_is_number ct__law_is_number : Value}
    {f__law_low : Addr} {od__law_low an__law_low : Option Addr} {sl__law_low : Array (Option Value)} {oc__law_low kV__law_low dc__law_low pm__law_low cd__law_low ct__law_low : Value}
    {f__law_high : Addr} {od__law_high an__law_high : Option Addr} {sl__law_high : Array (Option Value)} {oc__law_high kV__law_high dc__law_high pm__law_high cd__law_high ct__law_high : Value}
    {f__law_value : Addr} {od__law_value an__law_value : Option Addr} {sl__law_value : Array (Option Value)} {oc__law_value kV__law_value dc__law_value pm__law_value cd__law_value ct__law_value : Value}
    {f__law_kind : Addr} {od__law_kind an__law_kind : Option Addr} {sl__law_kind : Array (Option Value)} {oc__law_kind kV__law_kind dc__law_kind pm__law_kind cd__law_kind ct__law_kind : Value}
    {f__law_shape : Addr} {od__law_shape an__law_shape : Option Addr} {sl__law_shape : Array (Option Value)} {oc__law_shape kV__law_shape dc__law_shape pm__law_shape cd__law_shape ct__law_shape : Value}
    {f__law_same_ints : Addr} {od__law_same_ints an__law_same_ints : Option Addr} {sl__law_same_ints : Array (Option Value)} {oc__law_same_ints kV__law_same_ints dc__law_same_ints pm__law_same_ints cd__law_same_ints ct__law_same_ints : Value}
    {f__law_stream : Addr} {od__law_stream an__law_stream : Option Addr} {sl__law_stream : Array (Option Value)} {oc__law_stream kV__law_stream dc__law_stream pm__law_stream cd__law_stream ct__law_stream : Value}
    {f__law_great : Addr} {od__law_great an__law_great : Option Addr} {sl__law_great : Array (Option Value)} {oc__law_great kV__law_great dc__law_great pm__law_great cd__law_great ct__law_great : Value}
    {f__law_signed : Addr} {od__law_signed an__law_signed : Option Addr} {sl__law_signed : Array (Option Value)} {oc__law_signed kV__law_signed dc__law_signed pm__law_signed cd__law_signed ct__law_signed : Value}
    {f__law_number_bytes : Addr} {od__law_number_bytes an__law_number_bytes : Option Addr} {sl__law_number_bytes : Array (Option Value)} {oc__law_number_bytes kV__law_number_bytes dc__law_number_bytes pm__law_number_bytes cd__law_number_bytes ct__law_number_bytes : Value}
    {f__law_integer_bytes : Addr} {od__law_integer_bytes an__law_integer_bytes : Option Addr} {sl__law_integer_bytes : Array (Option Value)} {oc__law_integer_bytes kV__law_integer_bytes dc__law_integer_bytes pm__law_integer_bytes cd__law_integer_bytes ct__law_integer_bytes : Value}
    {f__law_integers_bytes : Addr} {od__law_integers_bytes an__law_integers_bytes : Option Addr} {sl__law_integers_bytes : Array (Option Value)} {oc__law_integers_bytes kV__law_integers_bytes dc__law_integers_bytes pm__law_integers_bytes cd__law_integers_bytes ct__law_integers_bytes : Value}
    {f__law_bytes_bytes : Addr} {od__law_bytes_bytes an__law_bytes_bytes : Option Addr} {sl__law_bytes_bytes : Array (Option Value)} {oc__law_bytes_bytes kV__law_bytes_bytes dc__law_bytes_bytes pm__law_bytes_bytes cd__law_bytes_bytes ct__law_bytes_bytes : Value}
    {f__law_signs : Addr} {od__law_signs an__law_signs : Option Addr} {sl__law_signs : Array (Option Value)} {oc__law_signs kV__law_signs dc__law_signs pm__law_signs cd__law_signs ct__law_signs : Value}
    {f__law_text_of : Addr} {od__law_text_of an__law_text_of : Option Addr} {sl__law_text_of : Array (Option Value)} {oc__law_text_of kV__law_text_of dc__law_text_of pm__law_text_of cd__law_text_of ct__law_text_of : Value}
    {f__law_codes : Addr} {od__law_codes an__law_codes : Option Addr} {sl__law_codes : Array (Option Value)} {oc__law_codes kV__law_codes dc__law_codes pm__law_codes cd__law_codes ct__law_codes : Value}
    {f__law_text_bytes : Addr} {od__law_text_bytes an__law_text_bytes : Option Addr} {sl__law_text_bytes : Array (Option Value)} {oc__law_text_bytes kV__law_text_bytes dc__law_text_bytes pm__law_text_bytes cd__law_text_bytes ct__law_text_bytes : Value}
    {f__law_chunk_shape : Addr} {od__law_chunk_shape an__law_chunk_shape : Option Addr} {sl__law_chunk_shape : Array (Option Value)} {oc__law_chunk_shape kV__law_chunk_shape dc__law_chunk_shape pm__law_chunk_shape cd__law_chunk_shape ct__law_chunk_shape : Value}
    {f__law_letters : Addr} {od__law_letters an__law_letters : Option Addr} {sl__law_letters : Array (Option Value)} {oc__law_letters kV__law_letters dc__law_letters pm__law_letters cd__law_letters ct__law_letters : Value}
    {f__law_name : Addr} {od__law_name an__law_name : Option Addr} {sl__law_name : Array (Option Value)} {oc__law_name kV__law_name dc__law_name pm__law_name cd__law_name ct__law_name : Value}
    {f__law_attribute : Addr} {od__law_attribute an__law_attribute : Option Addr} {sl__law_attribute : Array (Option Value)} {oc__law_attribute kV__law_attribute dc__law_attribute pm__law_attribute cd__law_attribute ct__law_attribute : Value}
    {f__law_marks_bytes : Addr} {od__law_marks_bytes an__law_marks_bytes : Option Addr} {sl__law_marks_bytes : Array (Option Value)} {oc__law_marks_bytes kV__law_marks_bytes dc__law_marks_bytes pm__law_marks_bytes cd__law_marks_bytes ct__law_marks_bytes : Value}
    {f__law_array_bytes : Addr} {od__law_array_bytes an__law_array_bytes : Option Addr} {sl__law_array_bytes : Array (Option Value)} {oc__law_array_bytes kV__law_array_bytes dc__law_array_bytes pm__law_array_bytes cd__law_array_bytes ct__law_array_bytes : Value}
    {f__law_view_bytes : Addr} {od__law_view_bytes an__law_view_bytes : Option Addr} {sl__law_view_bytes : Array (Option Value)} {oc__law_view_bytes kV__law_view_bytes dc__law_view_bytes pm__law_view_bytes cd__law_view_bytes ct__law_view_bytes : Value}
    {f__law_object_bytes : Addr} {od__law_object_bytes an__law_object_bytes : Option Addr} {sl__law_object_bytes : Array (Option Value)} {oc__law_object_bytes kV__law_object_bytes dc__law_object_bytes pm__law_object_bytes cd__law_object_bytes ct__law_object_bytes : Value}
    {f__law_drawn_thing : Addr} {od__law_drawn_thing an__law_drawn_thing : Option Addr} {sl__law_drawn_thing : Array (Option Value)} {oc__law_drawn_thing kV__law_drawn_thing dc__law_drawn_thing pm__law_drawn_thing cd__law_drawn_thing ct__law_drawn_thing : Value}
    {f__law_object_of : Addr} {od__law_object_of an__law_object_of : Option Addr} {sl__law_object_of : Array (Option Value)} {oc__law_object_of kV__law_object_of dc__law_object_of pm__law_object_of cd__law_object_of ct__law_object_of : Value}
    {f_law : Addr} {od_law an_law : Option Addr} {sl_law : Array (Option Value)} {oc_law kV_law dc_law pm_law cd_law ct_law : Value}
    {K_Layout : Addr}
    {f_Layout___init__ : Addr} {od_Layout___init__ an_Layout___init__ : Option Addr} {sl_Layout___init__ : Array (Option Value)} {oc_Layout___init__ kV_Layout___init__ dc_Layout___init__ pm_Layout___init__ cd_Layout___init__ ct_Layout___init__ : Value}
    {K_Group : Addr}
    {f_Group___init__ : Addr} {od_Group___init__ an_Group___init__ : Option Addr} {sl_Group___init__ : Array (Option Value)} {oc_Group___init__ kV_Group___init__ dc_Group___init__ pm_Group___init__ cd_Group___init__ ct_Group___init__ : Value}
    {K_ArrayObject : Addr}
    {f_ArrayObject___init__ : Addr} {od_ArrayObject___init__ an_ArrayObject___init__ : Option Addr} {sl_ArrayObject___init__ : Array (Option Value)} {oc_ArrayObject___init__ kV_ArrayObject___init__ dc_ArrayObject___init__ pm_ArrayObject___init__ cd_ArrayObject___init__ ct_ArrayObject___init__ : Value}
    {K_View : Addr}
    {f_View___init__ : Addr} {od_View___init__ an_View___init__ : Option Addr} {sl_View___init__ : Array (Option Value)} {oc_View___init__ kV_View___init__ dc_View___init__ pm_View___init__ cd_View___init__ ct_View___init__ : Value}
    {t_ARRAY_SORT : Tok}
    {t_BASE : Tok}
    {t_ESCAPE : Tok}
    {t_GROUP_SORT : Tok}
    {t_LIST_VALUE : Tok}
    {t_TEXT_VALUE : Tok}
    {t_VIEW_SORT : Tok}
    (a_write_number : PySem.W.nsIn K mainGlobals "write_number" = some (some (.ref f_write_number))) (l_write_number : K.lookup f_write_number = some ⟨oc_write_number, od_write_number, .func (PySem.W.fnOf "write_number" "write_number" (defArgs s_write_number) (defBody s_write_number) (defScope s_write_number) .none kV_write_number dc_write_number pm_write_number an_write_number cd_write_number ct_write_number), sl_write_number⟩) (c_write_number : PySem.W.codeIn K cd_write_number "write_number" = true) (k_write_number : PySem.W.keepIn K (.ref f_write_number) = true)
    (a_write_integer : PySem.W.nsIn K mainGlobals "write_integer" = some (some (.ref f_write_integer))) (l_write_integer : K.lookup f_write_integer = some ⟨oc_write_integer, od_write_integer, .func (PySem.W.fnOf "write_integer" "write_integer" (defArgs s_write_integer) (defBody s_write_integer) (defScope s_write_integer) .none kV_write_integer dc_write_integer pm_write_integer an_write_integer cd_write_integer ct_write_integer), sl_write_integer⟩) (c_write_integer : PySem.W.codeIn K cd_write_integer "write_integer" = true) (k_write_integer : PySem.W.keepIn K (.ref f_write_integer) = true)
    (a_write_integers : PySem.W.nsIn K mainGlobals "write_integers" = some (some (.ref f_write_integers))) (l_write_integers : K.lookup f_write_integers = some ⟨oc_write_integers, od_write_integers, .func (PySem.W.fnOf "write_integers" "write_integers" (defArgs s_write_integers) (defBody s_write_integers) (defScope s_write_integers) .none kV_write_integers dc_write_integers pm_write_integers an_write_integers cd_write_integers ct_write_integers), sl_write_integers⟩) (c_write_integers : PySem.W.codeIn K cd_write_integers "write_integers" = true) (k_write_integers : PySem.W.keepIn K (.ref f_write_integers) = true)
    (a_write_bytes : PySem.W.nsIn K mainGlobals "write_bytes" = some (some (.ref f_write_bytes))) (l_write_bytes : K.lookup f_write_bytes = some ⟨oc_write_bytes, od_write_bytes, .func (PySem.W.fnOf "write_bytes" "write_bytes" (defArgs s_write_bytes) (defBody s_write_bytes) (defScope s_write_bytes) .none kV_write_bytes dc_write_bytes pm_write_bytes an_write_bytes cd_write_bytes ct_write_bytes), sl_write_bytes⟩) (c_write_bytes : PySem.W.codeIn K cd_write_bytes "write_bytes" = true) (k_write_bytes : PySem.W.keepIn K (.ref f_write_bytes) = true)
    (a_write_text : PySem.W.nsIn K mainGlobals "write_text" = some (some (.ref f_write_text))) (l_write_text : K.lookup f_write_text = some ⟨oc_write_text, od_write_text, .func (PySem.W.fnOf "write_text" "write_text" (defArgs s_write_text) (defBody s_write_text) (defScope s_write_text) .none kV_write_text dc_write_text pm_write_text an_write_text cd_write_text ct_write_text), sl_write_text⟩) (c_write_text : PySem.W.codeIn K cd_write_text "write_text" = true) (k_write_text : PySem.W.keepIn K (.ref f_write_text) = true)
    (a_in_order : PySem.W.nsIn K mainGlobals "in_order" = some (some (.ref f_in_order))) (l_in_order : K.lookup f_in_order = some ⟨oc_in_order, od_in_order, .func (PySem.W.fnOf "in_order" "in_order" (defArgs s_in_order) (defBody s_in_order) (defScope s_in_order) .none kV_in_order dc_in_order pm_in_order an_in_order cd_in_order ct_in_order), sl_in_order⟩) (c_in_order : PySem.W.codeIn K cd_in_order "in_order" = true) (k_in_order : PySem.W.keepIn K (.ref f_in_order) = true)
    (a_write_object : PySem.W.nsIn K mainGlobals "write_object" = some (some (.ref f_write_object))) (l_write_object : K.lookup f_write_object = some ⟨oc_write_object, od_write_object, .func (PySem.W.fnOf "write_object" "write_object" (defArgs s_write_object) (defBody s_write_object) (defScope s_write_object) .none kV_write_object dc_write_object pm_write_object an_write_object cd_write_object ct_write_object), sl_write_object⟩) (c_write_object : PySem.W.codeIn K cd_write_object "write_object" = true) (k_write_object : PySem.W.keepIn K (.ref f_write_object) = true)
    (a_write_attributes : PySem.W.nsIn K mainGlobals "write_attributes" = some (some (.ref f_write_attributes))) (l_write_attributes : K.lookup f_write_attributes = some ⟨oc_write_attributes, od_write_attributes, .func (PySem.W.fnOf "write_attributes" "write_attributes" (defArgs s_write_attributes) (defBody s_write_attributes) (defScope s_write_attributes) .none kV_write_attributes dc_write_attributes pm_write_attributes an_write_attributes cd_write_attributes ct_write_attributes), sl_write_attributes⟩) (c_write_attributes : PySem.W.codeIn K cd_write_attributes "write_attributes" = true) (k_write_attributes : PySem.W.keepIn K (.ref f_write_attributes) = true)
    (a_write_array : PySem.W.nsIn K mainGlobals "write_array" = some (some (.ref f_write_array))) (l_write_array : K.lookup f_write_array = some ⟨oc_write_array, od_write_array, .func (PySem.W.fnOf "write_array" "write_array" (defArgs s_write_array) (defBody s_write_array) (defScope s_write_array) .none kV_write_array dc_write_array pm_write_array an_write_array cd_write_array ct_write_array), sl_write_array⟩) (c_write_array : PySem.W.codeIn K cd_write_array "write_array" = true) (k_write_array : PySem.W.keepIn K (.ref f_write_array) = true)
    (a_write_view : PySem.W.nsIn K mainGlobals "write_view" = some (some (.ref f_write_view))) (l_write_view : K.lookup f_write_view = some ⟨oc_write_view, od_write_view, .func (PySem.W.fnOf "write_view" "write_view" (defArgs s_write_view) (defBody s_write_view) (defScope s_write_view) .none kV_write_view dc_write_view pm_write_view an_write_view cd_write_view ct_write_view), sl_write_view⟩) (c_write_view : PySem.W.codeIn K cd_write_view "write_view" = true) (k_write_view : PySem.W.keepIn K (.ref f_write_view) = true)
    (a__law_cell : PySem.W.nsIn K mainGlobals "_law_cell" = some (some (.ref f__law_cell))) (l__law_cell : K.lookup f__law_cell = some ⟨oc__law_cell, od__law_cell, .func (PySem.W.fnOf "_law_cell" "_law_cell" (defArgs s__law_cell) (defBody s__law_cell) (defScope s__law_cell) .none kV__law_cell dc__law_cell pm__law_cell an__law_cell cd__law_cell ct__law_cell), sl__law_cell⟩) (c__law_cell : PySem.W.codeIn K cd__law_cell "_law_cell" = true) (k__law_cell : PySem.W.keepIn K (.ref f__law_cell) = true)
    (a__law_draws : PySem.W.nsIn K mainGlobals "_law_draws" = some (some (.ref f__law_draws))) (l__law_draws : K.lookup f__law_draws = some ⟨oc__law_draws, od__law_draws, .func (PySem.W.fnOf "_law_draws" "_law_draws" (defArgs s__law_draws) (defBody s__law_draws) (defScope s__law_draws) .none kV__law_draws dc__law_draws pm__law_draws an__law_draws cd__law_draws ct__law_draws), sl__law_draws⟩) (c__law_draws : PySem.W.codeIn K cd__law_draws "_law_draws" = true) (k__law_draws : PySem.W.keepIn K (.ref f__law_draws) = true)
    (a__law_is_int : PySem.W.nsIn K mainGlobals "_law_is_int" = some (some (.ref f__law_is_int))) (l__law_is_int : K.lookup f__law_is_int = some ⟨oc__law_is_int, od__law_is_int, .func (PySem.W.fnOf "_law_is_int" "_law_is_int" (defArgs s__law_is_int) (defBody s__law_is_int) (defScope s__law_is_int) .none kV__law_is_int dc__law_is_int pm__law_is_int an__law_is_int cd__law_is_int ct__law_is_int), sl__law_is_int⟩) (c__law_is_int : PySem.W.codeIn K cd__law_is_int "_law_is_int" = true) (k__law_is_int : PySem.W.keepIn K (.ref f__law_is_int) = true)
    (a__law_is_number : PySem.W.nsIn K mainGlobals "_law_is_number" = some (some (.ref f__law_is_number))) (l__law_is_number : K.lookup f__law_is_number = some ⟨oc__law_is_number, od__law_is_number, .func (PySem.W.fnOf "_law_is_number" "_law_is_number" (defArgs s__law_is_number) (defBody s__law_is_number) (defScope s__law_is_number) .none kV__law_is_number dc__law_is_number pm__law_is_number an__law_is_number cd__law_is_number ct__law_is_number), sl__law_is_number⟩) (c__law_is_number : PySem.W.codeIn K cd__law_is_number "_law_is_number" = true) (k__law_is_number : PySem.W.keepIn K (.ref f__law_is_number) = true)
    (a__law_low : PySem.W.nsIn K mainGlobals "_law_low" = some (some (.ref f__law_low))) (l__law_low : K.lookup f__law_low = some ⟨oc__law_low, od__law_low, .func (PySem.W.fnOf "_law_low" "_law_low" (defArgs s__law_low) (defBody s__law_low) (defScope s__law_low) .none kV__law_low dc__law_low pm__law_low an__law_low cd__law_low ct__law_low), sl__law_low⟩) (c__law_low : PySem.W.codeIn K cd__law_low "_law_low" = true) (k__law_low : PySem.W.keepIn K (.ref f__law_low) = true)
    (a__law_high : PySem.W.nsIn K mainGlobals "_law_high" = some (some (.ref f__law_high))) (l__law_high : K.lookup f__law_high = some ⟨oc__law_high, od__law_high, .func (PySem.W.fnOf "_law_high" "_law_high" (defArgs s__law_high) (defBody s__law_high) (defScope s__law_high) .none kV__law_high dc__law_high pm__law_high an__law_high cd__law_high ct__law_high), sl__law_high⟩) (c__law_high : PySem.W.codeIn K cd__law_high "_law_high" = true) (k__law_high : PySem.W.keepIn K (.ref f__law_high) = true)
    (a__law_value : PySem.W.nsIn K mainGlobals "_law_value" = some (some (.ref f__law_value))) (l__law_value : K.lookup f__law_value = some ⟨oc__law_value, od__law_value, .func (PySem.W.fnOf "_law_value" "_law_value" (defArgs s__law_value) (defBody s__law_value) (defScope s__law_value) .none kV__law_value dc__law_value pm__law_value an__law_value cd__law_value ct__law_value), sl__law_value⟩) (c__law_value : PySem.W.codeIn K cd__law_value "_law_value" = true) (k__law_value : PySem.W.keepIn K (.ref f__law_value) = true)
    (a__law_kind : PySem.W.nsIn K mainGlobals "_law_kind" = some (some (.ref f__law_kind))) (l__law_kind : K.lookup f__law_kind = some ⟨oc__law_kind, od__law_kind, .func (PySem.W.fnOf "_law_kind" "_law_kind" (defArgs s__law_kind) (defBody s__law_kind) (defScope s__law_kind) .none kV__law_kind dc__law_kind pm__law_kind an__law_kind cd__law_kind ct__law_kind), sl__law_kind⟩) (c__law_kind : PySem.W.codeIn K cd__law_kind "_law_kind" = true) (k__law_kind : PySem.W.keepIn K (.ref f__law_kind) = true)
    (a__law_shape : PySem.W.nsIn K mainGlobals "_law_shape" = some (some (.ref f__law_shape))) (l__law_shape : K.lookup f__law_shape = some ⟨oc__law_shape, od__law_shape, .func (PySem.W.fnOf "_law_shape" "_law_shape" (defArgs s__law_shape) (defBody s__law_shape) (defScope s__law_shape) .none kV__law_shape dc__law_shape pm__law_shape an__law_shape cd__law_shape ct__law_shape), sl__law_shape⟩) (c__law_shape : PySem.W.codeIn K cd__law_shape "_law_shape" = true) (k__law_shape : PySem.W.keepIn K (.ref f__law_shape) = true)
    (a__law_same_ints : PySem.W.nsIn K mainGlobals "_law_same_ints" = some (some (.ref f__law_same_ints))) (l__law_same_ints : K.lookup f__law_same_ints = some ⟨oc__law_same_ints, od__law_same_ints, .func (PySem.W.fnOf "_law_same_ints" "_law_same_ints" (defArgs s__law_same_ints) (defBody s__law_same_ints) (defScope s__law_same_ints) .none kV__law_same_ints dc__law_same_ints pm__law_same_ints an__law_same_ints cd__law_same_ints ct__law_same_ints), sl__law_same_ints⟩) (c__law_same_ints : PySem.W.codeIn K cd__law_same_ints "_law_same_ints" = true) (k__law_same_ints : PySem.W.keepIn K (.ref f__law_same_ints) = true)
    (a__law_stream : PySem.W.nsIn K mainGlobals "_law_stream" = some (some (.ref f__law_stream))) (l__law_stream : K.lookup f__law_stream = some ⟨oc__law_stream, od__law_stream, .func (PySem.W.fnOf "_law_stream" "_law_stream" (defArgs s__law_stream) (defBody s__law_stream) (defScope s__law_stream) .none kV__law_stream dc__law_stream pm__law_stream an__law_stream cd__law_stream ct__law_stream), sl__law_stream⟩) (c__law_stream : PySem.W.codeIn K cd__law_stream "_law_stream" = true) (k__law_stream : PySem.W.keepIn K (.ref f__law_stream) = true)
    (a__law_great : PySem.W.nsIn K mainGlobals "_law_great" = some (some (.ref f__law_great))) (l__law_great : K.lookup f__law_great = some ⟨oc__law_great, od__law_great, .func (PySem.W.fnOf "_law_great" "_law_great" (defArgs s__law_great) (defBody s__law_great) (defScope s__law_great) .none kV__law_great dc__law_great pm__law_great an__law_great cd__law_great ct__law_great), sl__law_great⟩) (c__law_great : PySem.W.codeIn K cd__law_great "_law_great" = true) (k__law_great : PySem.W.keepIn K (.ref f__law_great) = true)
    (a__law_signed : PySem.W.nsIn K mainGlobals "_law_signed" = some (some (.ref f__law_signed))) (l__law_signed : K.lookup f__law_signed = some ⟨oc__law_signed, od__law_signed, .func (PySem.W.fnOf "_law_signed" "_law_signed" (defArgs s__law_signed) (defBody s__law_signed) (defScope s__law_signed) .none kV__law_signed dc__law_signed pm__law_signed an__law_signed cd__law_signed ct__law_signed), sl__law_signed⟩) (c__law_signed : PySem.W.codeIn K cd__law_signed "_law_signed" = true) (k__law_signed : PySem.W.keepIn K (.ref f__law_signed) = true)
    (a__law_number_bytes : PySem.W.nsIn K mainGlobals "_law_number_bytes" = some (some (.ref f__law_number_bytes))) (l__law_number_bytes : K.lookup f__law_number_bytes = some ⟨oc__law_number_bytes, od__law_number_bytes, .func (PySem.W.fnOf "_law_number_bytes" "_law_number_bytes" (defArgs s__law_number_bytes) (defBody s__law_number_bytes) (defScope s__law_number_bytes) .none kV__law_number_bytes dc__law_number_bytes pm__law_number_bytes an__law_number_bytes cd__law_number_bytes ct__law_number_bytes), sl__law_number_bytes⟩) (c__law_number_bytes : PySem.W.codeIn K cd__law_number_bytes "_law_number_bytes" = true) (k__law_number_bytes : PySem.W.keepIn K (.ref f__law_number_bytes) = true)
    (a__law_integer_bytes : PySem.W.nsIn K mainGlobals "_law_integer_bytes" = some (some (.ref f__law_integer_bytes))) (l__law_integer_bytes : K.lookup f__law_integer_bytes = some ⟨oc__law_integer_bytes, od__law_integer_bytes, .func (PySem.W.fnOf "_law_integer_bytes" "_law_integer_bytes" (defArgs s__law_integer_bytes) (defBody s__law_integer_bytes) (defScope s__law_integer_bytes) .none kV__law_integer_bytes dc__law_integer_bytes pm__law_integer_bytes an__law_integer_bytes cd__law_integer_bytes ct__law_integer_bytes), sl__law_integer_bytes⟩) (c__law_integer_bytes : PySem.W.codeIn K cd__law_integer_bytes "_law_integer_bytes" = true) (k__law_integer_bytes : PySem.W.keepIn K (.ref f__law_integer_bytes) = true)
    (a__law_integers_bytes : PySem.W.nsIn K mainGlobals "_law_integers_bytes" = some (some (.ref f__law_integers_bytes))) (l__law_integers_bytes : K.lookup f__law_integers_bytes = some ⟨oc__law_integers_bytes, od__law_integers_bytes, .func (PySem.W.fnOf "_law_integers_bytes" "_law_integers_bytes" (defArgs s__law_integers_bytes) (defBody s__law_integers_bytes) (defScope s__law_integers_bytes) .none kV__law_integers_bytes dc__law_integers_bytes pm__law_integers_bytes an__law_integers_bytes cd__law_integers_bytes ct__law_integers_bytes), sl__law_integers_bytes⟩) (c__law_integers_bytes : PySem.W.codeIn K cd__law_integers_bytes "_law_integers_bytes" = true) (k__law_integers_bytes : PySem.W.keepIn K (.ref f__law_integers_bytes) = true)
    (a__law_bytes_bytes : PySem.W.nsIn K mainGlobals "_law_bytes_bytes" = some (some (.ref f__law_bytes_bytes))) (l__law_bytes_bytes : K.lookup f__law_bytes_bytes = some ⟨oc__law_bytes_bytes, od__law_bytes_bytes, .func (PySem.W.fnOf "_law_bytes_bytes" "_law_bytes_bytes" (defArgs s__law_bytes_bytes) (defBody s__law_bytes_bytes) (defScope s__law_bytes_bytes) .none kV__law_bytes_bytes dc__law_bytes_bytes pm__law_bytes_bytes an__law_bytes_bytes cd__law_bytes_bytes ct__law_bytes_bytes), sl__law_bytes_bytes⟩) (c__law_bytes_bytes : PySem.W.codeIn K cd__law_bytes_bytes "_law_bytes_bytes" = true) (k__law_bytes_bytes : PySem.W.keepIn K (.ref f__law_bytes_bytes) = true)
    (a__law_signs : PySem.W.nsIn K mainGlobals "_law_signs" = some (some (.ref f__law_signs))) (l__law_signs : K.lookup f__law_signs = some ⟨oc__law_signs, od__law_signs, .func (PySem.W.fnOf "_law_signs" "_law_signs" (defArgs s__law_signs) (defBody s__law_signs) (defScope s__law_signs) .none kV__law_signs dc__law_signs pm__law_signs an__law_signs cd__law_signs ct__law_signs), sl__law_signs⟩) (c__law_signs : PySem.W.codeIn K cd__law_signs "_law_signs" = true) (k__law_signs : PySem.W.keepIn K (.ref f__law_signs) = true)
    (a__law_text_of : PySem.W.nsIn K mainGlobals "_law_text_of" = some (some (.ref f__law_text_of))) (l__law_text_of : K.lookup f__law_text_of = some ⟨oc__law_text_of, od__law_text_of, .func (PySem.W.fnOf "_law_text_of" "_law_text_of" (defArgs s__law_text_of) (defBody s__law_text_of) (defScope s__law_text_of) .none kV__law_text_of dc__law_text_of pm__law_text_of an__law_text_of cd__law_text_of ct__law_text_of), sl__law_text_of⟩) (c__law_text_of : PySem.W.codeIn K cd__law_text_of "_law_text_of" = true) (k__law_text_of : PySem.W.keepIn K (.ref f__law_text_of) = true)
    (a__law_codes : PySem.W.nsIn K mainGlobals "_law_codes" = some (some (.ref f__law_codes))) (l__law_codes : K.lookup f__law_codes = some ⟨oc__law_codes, od__law_codes, .func (PySem.W.fnOf "_law_codes" "_law_codes" (defArgs s__law_codes) (defBody s__law_codes) (defScope s__law_codes) .none kV__law_codes dc__law_codes pm__law_codes an__law_codes cd__law_codes ct__law_codes), sl__law_codes⟩) (c__law_codes : PySem.W.codeIn K cd__law_codes "_law_codes" = true) (k__law_codes : PySem.W.keepIn K (.ref f__law_codes) = true)
    (a__law_text_bytes : PySem.W.nsIn K mainGlobals "_law_text_bytes" = some (some (.ref f__law_text_bytes))) (l__law_text_bytes : K.lookup f__law_text_bytes = some ⟨oc__law_text_bytes, od__law_text_bytes, .func (PySem.W.fnOf "_law_text_bytes" "_law_text_bytes" (defArgs s__law_text_bytes) (defBody s__law_text_bytes) (defScope s__law_text_bytes) .none kV__law_text_bytes dc__law_text_bytes pm__law_text_bytes an__law_text_bytes cd__law_text_bytes ct__law_text_bytes), sl__law_text_bytes⟩) (c__law_text_bytes : PySem.W.codeIn K cd__law_text_bytes "_law_text_bytes" = true) (k__law_text_bytes : PySem.W.keepIn K (.ref f__law_text_bytes) = true)
    (a__law_chunk_shape : PySem.W.nsIn K mainGlobals "_law_chunk_shape" = some (some (.ref f__law_chunk_shape))) (l__law_chunk_shape : K.lookup f__law_chunk_shape = some ⟨oc__law_chunk_shape, od__law_chunk_shape, .func (PySem.W.fnOf "_law_chunk_shape" "_law_chunk_shape" (defArgs s__law_chunk_shape) (defBody s__law_chunk_shape) (defScope s__law_chunk_shape) .none kV__law_chunk_shape dc__law_chunk_shape pm__law_chunk_shape an__law_chunk_shape cd__law_chunk_shape ct__law_chunk_shape), sl__law_chunk_shape⟩) (c__law_chunk_shape : PySem.W.codeIn K cd__law_chunk_shape "_law_chunk_shape" = true) (k__law_chunk_shape : PySem.W.keepIn K (.ref f__law_chunk_shape) = true)
    (a__law_letters : PySem.W.nsIn K mainGlobals "_law_letters" = some (some (.ref f__law_letters))) (l__law_letters : K.lookup f__law_letters = some ⟨oc__law_letters, od__law_letters, .func (PySem.W.fnOf "_law_letters" "_law_letters" (defArgs s__law_letters) (defBody s__law_letters) (defScope s__law_letters) .none kV__law_letters dc__law_letters pm__law_letters an__law_letters cd__law_letters ct__law_letters), sl__law_letters⟩) (c__law_letters : PySem.W.codeIn K cd__law_letters "_law_letters" = true) (k__law_letters : PySem.W.keepIn K (.ref f__law_letters) = true)
    (a__law_name : PySem.W.nsIn K mainGlobals "_law_name" = some (some (.ref f__law_name))) (l__law_name : K.lookup f__law_name = some ⟨oc__law_name, od__law_name, .func (PySem.W.fnOf "_law_name" "_law_name" (defArgs s__law_name) (defBody s__law_name) (defScope s__law_name) .none kV__law_name dc__law_name pm__law_name an__law_name cd__law_name ct__law_name), sl__law_name⟩) (c__law_name : PySem.W.codeIn K cd__law_name "_law_name" = true) (k__law_name : PySem.W.keepIn K (.ref f__law_name) = true)
    (a__law_attribute : PySem.W.nsIn K mainGlobals "_law_attribute" = some (some (.ref f__law_attribute))) (l__law_attribute : K.lookup f__law_attribute = some ⟨oc__law_attribute, od__law_attribute, .func (PySem.W.fnOf "_law_attribute" "_law_attribute" (defArgs s__law_attribute) (defBody s__law_attribute) (defScope s__law_attribute) .none kV__law_attribute dc__law_attribute pm__law_attribute an__law_attribute cd__law_attribute ct__law_attribute), sl__law_attribute⟩) (c__law_attribute : PySem.W.codeIn K cd__law_attribute "_law_attribute" = true) (k__law_attribute : PySem.W.keepIn K (.ref f__law_attribute) = true)
    (a__law_marks_bytes : PySem.W.nsIn K mainGlobals "_law_marks_bytes" = some (some (.ref f__law_marks_bytes))) (l__law_marks_bytes : K.lookup f__law_marks_bytes = some ⟨oc__law_marks_bytes, od__law_marks_bytes, .func (PySem.W.fnOf "_law_marks_bytes" "_law_marks_bytes" (defArgs s__law_marks_bytes) (defBody s__law_marks_bytes) (defScope s__law_marks_bytes) .none kV__law_marks_bytes dc__law_marks_bytes pm__law_marks_bytes an__law_marks_bytes cd__law_marks_bytes ct__law_marks_bytes), sl__law_marks_bytes⟩) (c__law_marks_bytes : PySem.W.codeIn K cd__law_marks_bytes "_law_marks_bytes" = true) (k__law_marks_bytes : PySem.W.keepIn K (.ref f__law_marks_bytes) = true)
    (a__law_array_bytes : PySem.W.nsIn K mainGlobals "_law_array_bytes" = some (some (.ref f__law_array_bytes))) (l__law_array_bytes : K.lookup f__law_array_bytes = some ⟨oc__law_array_bytes, od__law_array_bytes, .func (PySem.W.fnOf "_law_array_bytes" "_law_array_bytes" (defArgs s__law_array_bytes) (defBody s__law_array_bytes) (defScope s__law_array_bytes) .none kV__law_array_bytes dc__law_array_bytes pm__law_array_bytes an__law_array_bytes cd__law_array_bytes ct__law_array_bytes), sl__law_array_bytes⟩) (c__law_array_bytes : PySem.W.codeIn K cd__law_array_bytes "_law_array_bytes" = true) (k__law_array_bytes : PySem.W.keepIn K (.ref f__law_array_bytes) = true)
    (a__law_view_bytes : PySem.W.nsIn K mainGlobals "_law_view_bytes" = some (some (.ref f__law_view_bytes))) (l__law_view_bytes : K.lookup f__law_view_bytes = some ⟨oc__law_view_bytes, od__law_view_bytes, .func (PySem.W.fnOf "_law_view_bytes" "_law_view_bytes" (defArgs s__law_view_bytes) (defBody s__law_view_bytes) (defScope s__law_view_bytes) .none kV__law_view_bytes dc__law_view_bytes pm__law_view_bytes an__law_view_bytes cd__law_view_bytes ct__law_view_bytes), sl__law_view_bytes⟩) (c__law_view_bytes : PySem.W.codeIn K cd__law_view_bytes "_law_view_bytes" = true) (k__law_view_bytes : PySem.W.keepIn K (.ref f__law_view_bytes) = true)
    (a__law_object_bytes : PySem.W.nsIn K mainGlobals "_law_object_bytes" = some (some (.ref f__law_object_bytes))) (l__law_object_bytes : K.lookup f__law_object_bytes = some ⟨oc__law_object_bytes, od__law_object_bytes, .func (PySem.W.fnOf "_law_object_bytes" "_law_object_bytes" (defArgs s__law_object_bytes) (defBody s__law_object_bytes) (defScope s__law_object_bytes) .none kV__law_object_bytes dc__law_object_bytes pm__law_object_bytes an__law_object_bytes cd__law_object_bytes ct__law_object_bytes), sl__law_object_bytes⟩) (c__law_object_bytes : PySem.W.codeIn K cd__law_object_bytes "_law_object_bytes" = true) (k__law_object_bytes : PySem.W.keepIn K (.ref f__law_object_bytes) = true)
    (a__law_drawn_thing : PySem.W.nsIn K mainGlobals "_law_drawn_thing" = some (some (.ref f__law_drawn_thing))) (l__law_drawn_thing : K.lookup f__law_drawn_thing = some ⟨oc__law_drawn_thing, od__law_drawn_thing, .func (PySem.W.fnOf "_law_drawn_thing" "_law_drawn_thing" (defArgs s__law_drawn_thing) (defBody s__law_drawn_thing) (defScope s__law_drawn_thing) .none kV__law_drawn_thing dc__law_drawn_thing pm__law_drawn_thing an__law_drawn_thing cd__law_drawn_thing ct__law_drawn_thing), sl__law_drawn_thing⟩) (c__law_drawn_thing : PySem.W.codeIn K cd__law_drawn_thing "_law_drawn_thing" = true) (k__law_drawn_thing : PySem.W.keepIn K (.ref f__law_drawn_thing) = true)
    (a__law_object_of : PySem.W.nsIn K mainGlobals "_law_object_of" = some (some (.ref f__law_object_of))) (l__law_object_of : K.lookup f__law_object_of = some ⟨oc__law_object_of, od__law_object_of, .func (PySem.W.fnOf "_law_object_of" "_law_object_of" (defArgs s__law_object_of) (defBody s__law_object_of) (defScope s__law_object_of) .none kV__law_object_of dc__law_object_of pm__law_object_of an__law_object_of cd__law_object_of ct__law_object_of), sl__law_object_of⟩) (c__law_object_of : PySem.W.codeIn K cd__law_object_of "_law_object_of" = true) (k__law_object_of : PySem.W.keepIn K (.ref f__law_object_of) = true)
    (a_law : PySem.W.nsIn K mainGlobals "law" = some (some (.ref f_law))) (l_law : K.lookup f_law = some ⟨oc_law, od_law, .func (PySem.W.fnOf "law" "law" (defArgs s_law) (defBody s_law) (defScope s_law) .none kV_law dc_law pm_law an_law cd_law ct_law), sl_law⟩) (c_law : PySem.W.codeIn K cd_law "law" = true) (k_law : PySem.W.keepIn K (.ref f_law) = true)
    (a_K_Layout : PySem.W.nsIn K mainGlobals "Layout" = some (some (.ref K_Layout))) (pg_K_Layout : PySem.W.plainGet K K_Layout Str.empty = true) (hd_K_Layout : PySem.W.hasDictIn K K_Layout = true) (po_K_Layout : PySem.W.plainOver K K_Layout = true) (sa_K_Layout : PySem.W.findIn K (.ref K_Layout) "__setattr__" = some (some (.builtin "object.__setattr__")))
    (n_K_Layout_kind : PySem.W.findIn K (.ref K_Layout) "kind" = some none)
    (n_K_Layout_chunk_shape : PySem.W.findIn K (.ref K_Layout) "chunk_shape" = some none)
    (n_K_Layout_fill : PySem.W.findIn K (.ref K_Layout) "fill" = some none)
    (n_K_Layout_filters : PySem.W.findIn K (.ref K_Layout) "filters" = some none)
    (a_Layout___init__ : PySem.W.findIn K (.ref K_Layout) "__init__" = some (some (.ref f_Layout___init__))) (i_Layout___init__ : PySem.W.isFn K (.ref f_Layout___init__) = true) (l_Layout___init__ : K.lookup f_Layout___init__ = some ⟨oc_Layout___init__, od_Layout___init__, .func (PySem.W.fnOf "__init__" "Layout.__init__" (defArgs s_Layout___init__) (defBody s_Layout___init__) (defScope s_Layout___init__) .none kV_Layout___init__ dc_Layout___init__ pm_Layout___init__ an_Layout___init__ cd_Layout___init__ ct_Layout___init__), sl_Layout___init__⟩) (c_Layout___init__ : PySem.W.codeIn K cd_Layout___init__ "Layout.__init__" = true) (k_Layout___init__ : PySem.W.keepIn K (.ref f_Layout___init__) = true)
    (mk_K_Layout : PySem.W.makesIn K K_Layout = true) (kc_K_Layout : PySem.W.keepIn K (.ref K_Layout) = true)
    (a_K_Group : PySem.W.nsIn K mainGlobals "Group" = some (some (.ref K_Group))) (pg_K_Group : PySem.W.plainGet K K_Group Str.empty = true) (hd_K_Group : PySem.W.hasDictIn K K_Group = true) (po_K_Group : PySem.W.plainOver K K_Group = true) (sa_K_Group : PySem.W.findIn K (.ref K_Group) "__setattr__" = some (some (.builtin "object.__setattr__")))
    (n_K_Group_attributes : PySem.W.findIn K (.ref K_Group) "attributes" = some none)
    (a_Group___init__ : PySem.W.findIn K (.ref K_Group) "__init__" = some (some (.ref f_Group___init__))) (i_Group___init__ : PySem.W.isFn K (.ref f_Group___init__) = true) (l_Group___init__ : K.lookup f_Group___init__ = some ⟨oc_Group___init__, od_Group___init__, .func (PySem.W.fnOf "__init__" "Group.__init__" (defArgs s_Group___init__) (defBody s_Group___init__) (defScope s_Group___init__) .none kV_Group___init__ dc_Group___init__ pm_Group___init__ an_Group___init__ cd_Group___init__ ct_Group___init__), sl_Group___init__⟩) (c_Group___init__ : PySem.W.codeIn K cd_Group___init__ "Group.__init__" = true) (k_Group___init__ : PySem.W.keepIn K (.ref f_Group___init__) = true)
    (mk_K_Group : PySem.W.makesIn K K_Group = true) (kc_K_Group : PySem.W.keepIn K (.ref K_Group) = true)
    (a_K_ArrayObject : PySem.W.nsIn K mainGlobals "ArrayObject" = some (some (.ref K_ArrayObject))) (pg_K_ArrayObject : PySem.W.plainGet K K_ArrayObject Str.empty = true) (hd_K_ArrayObject : PySem.W.hasDictIn K K_ArrayObject = true) (po_K_ArrayObject : PySem.W.plainOver K K_ArrayObject = true) (sa_K_ArrayObject : PySem.W.findIn K (.ref K_ArrayObject) "__setattr__" = some (some (.builtin "object.__setattr__")))
    (n_K_ArrayObject_attributes : PySem.W.findIn K (.ref K_ArrayObject) "attributes" = some none)
    (n_K_ArrayObject_shape : PySem.W.findIn K (.ref K_ArrayObject) "shape" = some none)
    (n_K_ArrayObject_layout : PySem.W.findIn K (.ref K_ArrayObject) "layout" = some none)
    (n_K_ArrayObject_root : PySem.W.findIn K (.ref K_ArrayObject) "root" = some none)
    (a_ArrayObject___init__ : PySem.W.findIn K (.ref K_ArrayObject) "__init__" = some (some (.ref f_ArrayObject___init__))) (i_ArrayObject___init__ : PySem.W.isFn K (.ref f_ArrayObject___init__) = true) (l_ArrayObject___init__ : K.lookup f_ArrayObject___init__ = some ⟨oc_ArrayObject___init__, od_ArrayObject___init__, .func (PySem.W.fnOf "__init__" "ArrayObject.__init__" (defArgs s_ArrayObject___init__) (defBody s_ArrayObject___init__) (defScope s_ArrayObject___init__) .none kV_ArrayObject___init__ dc_ArrayObject___init__ pm_ArrayObject___init__ an_ArrayObject___init__ cd_ArrayObject___init__ ct_ArrayObject___init__), sl_ArrayObject___init__⟩) (c_ArrayObject___init__ : PySem.W.codeIn K cd_ArrayObject___init__ "ArrayObject.__init__" = true) (k_ArrayObject___init__ : PySem.W.keepIn K (.ref f_ArrayObject___init__) = true)
    (mk_K_ArrayObject : PySem.W.makesIn K K_ArrayObject = true) (kc_K_ArrayObject : PySem.W.keepIn K (.ref K_ArrayObject) = true)
    (a_K_View : PySem.W.nsIn K mainGlobals "View" = some (some (.ref K_View))) (pg_K_View : PySem.W.plainGet K K_View Str.empty = true) (hd_K_View : PySem.W.hasDictIn K K_View = true) (po_K_View : PySem.W.plainOver K K_View = true) (sa_K_View : PySem.W.findIn K (.ref K_View) "__setattr__" = some (some (.builtin "object.__setattr__")))
    (n_K_View_attributes : PySem.W.findIn K (.ref K_View) "attributes" = some none)
    (n_K_View_kind : PySem.W.findIn K (.ref K_View) "kind" = some none)
    (n_K_View_shape : PySem.W.findIn K (.ref K_View) "shape" = some none)
    (n_K_View_fill : PySem.W.findIn K (.ref K_View) "fill" = some none)
    (n_K_View_pieces : PySem.W.findIn K (.ref K_View) "pieces" = some none)
    (a_View___init__ : PySem.W.findIn K (.ref K_View) "__init__" = some (some (.ref f_View___init__))) (i_View___init__ : PySem.W.isFn K (.ref f_View___init__) = true) (l_View___init__ : K.lookup f_View___init__ = some ⟨oc_View___init__, od_View___init__, .func (PySem.W.fnOf "__init__" "View.__init__" (defArgs s_View___init__) (defBody s_View___init__) (defScope s_View___init__) .none kV_View___init__ dc_View___init__ pm_View___init__ an_View___init__ cd_View___init__ ct_View___init__), sl_View___init__⟩) (c_View___init__ : PySem.W.codeIn K cd_View___init__ "View.__init__" = true) (k_View___init__ : PySem.W.keepIn K (.ref f_View___init__) = true)
    (mk_K_View : PySem.W.makesIn K K_View = true) (kc_K_View : PySem.W.keepIn K (.ref K_View) = true)
    (isg : PySem.W.specialIn K (.builtin "object.__class__") "__get__" = some (some (.builtin "getset_descriptor.__get__"))) (ist : PySem.W.takesIn K (.builtin "object.__class__") = some true)
    (ish_Group : PySem.W.findIn K (.ref K_Group) "__class__" = some (some (.builtin "object.__class__"))) (ism_Group : PySem.W.mroIn K K_Group (.type "object") = some true)
    (iso_Group_ArrayObject : PySem.W.kitOne K (.ref K_Group) (.ref K_ArrayObject) = some false)
    (iso_Group_View : PySem.W.kitOne K (.ref K_Group) (.ref K_View) = some false)
    (ish_ArrayObject : PySem.W.findIn K (.ref K_ArrayObject) "__class__" = some (some (.builtin "object.__class__"))) (ism_ArrayObject : PySem.W.mroIn K K_ArrayObject (.type "object") = some true)
    (iso_ArrayObject_Group : PySem.W.kitOne K (.ref K_ArrayObject) (.ref K_Group) = some false)
    (iso_ArrayObject_View : PySem.W.kitOne K (.ref K_ArrayObject) (.ref K_View) = some false)
    (ish_View : PySem.W.findIn K (.ref K_View) "__class__" = some (some (.builtin "object.__class__"))) (ism_View : PySem.W.mroIn K K_View (.type "object") = some true)
    (iso_View_Group : PySem.W.kitOne K (.ref K_View) (.ref K_Group) = some false)
    (iso_View_ArrayObject : PySem.W.kitOne K (.ref K_View) (.ref K_ArrayObject) = some false)
    (z_ARRAY_SORT : PySem.W.nsIn K mainGlobals "ARRAY_SORT" = some (some (.int 2 t_ARRAY_SORT)))
    (z_BASE : PySem.W.nsIn K mainGlobals "BASE" = some (some (.int 125 t_BASE)))
    (z_ESCAPE : PySem.W.nsIn K mainGlobals "ESCAPE" = some (some (.int 249 t_ESCAPE)))
    (z_GROUP_SORT : PySem.W.nsIn K mainGlobals "GROUP_SORT" = some (some (.int 1 t_GROUP_SORT)))
    (z_LIST_VALUE : PySem.W.nsIn K mainGlobals "LIST_VALUE" = some (some (.int 1 t_LIST_VALUE)))
    (z_TEXT_VALUE : PySem.W.nsIn K mainGlobals "TEXT_VALUE" = some (some (.int 0 t_TEXT_VALUE)))
    (z_VIEW_SORT : PySem.W.nsIn K mainGlobals "VIEW_SORT" = some (some (.int 3 t_VIEW_SORT)))
    (z_bool : PySem.W.nsIn K mainGlobals "bool" = some none)
    (z_int : PySem.W.nsIn K mainGlobals "int" = some none)
    (z_isinstance : PySem.W.nsIn K mainGlobals "isinstance" = some none)
    (z_len : PySem.W.nsIn K mainGlobals "len" = some none)
    (z_list : PySem.W.nsIn K mainGlobals "list" = some none)
    (z_max : PySem.W.nsIn K mainGlobals "max" = some none)
    (z_min : PySem.W.nsIn K mainGlobals "min" = some none)
    (z_ord : PySem.W.nsIn K mainGlobals "ord" = some none)
    (z_range : PySem.W.nsIn K mainGlobals "range" = some none)
    (z_sorted : PySem.W.nsIn K mainGlobals "sorted" = some none)
    (z_str : PySem.W.nsIn K mainGlobals "str" = some none)
    (z_tuple : PySem.W.nsIn K mainGlobals "tuple" = some none) : Top K mg :=
  { f_write_number := ⟨_, _, fun_mk (st := s_write_number) l_write_number c_write_number k_write_number, PySem.W.mg_of X G a_write_number, (fun_mk (st := s_write_number) l_write_number c_write_number k_write_number).binds (ps := ["number"]) fun _ _ _ _ _ _ us hl => match us, hl with | [_], _ => rfl⟩,
    f_write_integer := ⟨_, _, fun_mk (st := s_write_integer) l_write_integer c_write_integer k_write_integer, PySem.W.mg_of X G a_write_integer, (fun_mk (st := s_write_integer) l_write_integer c_write_integer k_write_integer).binds (ps := ["number"]) fun _ _ _ _ _ _ us hl => match us, hl with | [_], _ => rfl⟩,
    f_write_integers := ⟨_, _, fun_mk (st := s_write_integers) l_write_integers c_write_integers k_write_integers, PySem.W.mg_of X G a_write_integers, (fun_mk (st := s_write_integers) l_write_integers c_write_integers k_write_integers).binds (ps := ["numbers"]) fun _ _ _ _ _ _ us hl => match us, hl with | [_], _ => rfl⟩,
    f_write_bytes := ⟨_, _, fun_mk (st := s_write_bytes) l_write_bytes c_write_bytes k_write_bytes, PySem.W.mg_of X G a_write_bytes, (fun_mk (st := s_write_bytes) l_write_bytes c_write_bytes k_write_bytes).binds (ps := ["values"]) fun _ _ _ _ _ _ us hl => match us, hl with | [_], _ => rfl⟩,
    f_write_text := ⟨_, _, fun_mk (st := s_write_text) l_write_text c_write_text k_write_text, PySem.W.mg_of X G a_write_text, (fun_mk (st := s_write_text) l_write_text c_write_text k_write_text).binds (ps := ["text"]) fun _ _ _ _ _ _ us hl => match us, hl with | [_], _ => rfl⟩,
    f_in_order := ⟨_, _, fun_mk (st := s_in_order) l_in_order c_in_order k_in_order, PySem.W.mg_of X G a_in_order, (fun_mk (st := s_in_order) l_in_order c_in_order k_in_order).binds (ps := ["attributes"]) fun _ _ _ _ _ _ us hl => match us, hl with | [_], _ => rfl⟩,
    f_write_object := ⟨_, _, fun_mk (st := s_write_object) l_write_object c_write_object k_write_object, PySem.W.mg_of X G a_write_object, (fun_mk (st := s_write_object) l_write_object c_write_object k_write_object).binds (ps := ["thing"]) fun _ _ _ _ _ _ us hl => match us, hl with | [_], _ => rfl⟩,
    f_write_attributes := ⟨_, _, fun_mk (st := s_write_attributes) l_write_attributes c_write_attributes k_write_attributes, PySem.W.mg_of X G a_write_attributes, (fun_mk (st := s_write_attributes) l_write_attributes c_write_attributes k_write_attributes).binds (ps := ["attributes"]) fun _ _ _ _ _ _ us hl => match us, hl with | [_], _ => rfl⟩,
    f_write_array := ⟨_, _, fun_mk (st := s_write_array) l_write_array c_write_array k_write_array, PySem.W.mg_of X G a_write_array, (fun_mk (st := s_write_array) l_write_array c_write_array k_write_array).binds (ps := ["thing"]) fun _ _ _ _ _ _ us hl => match us, hl with | [_], _ => rfl⟩,
    f_write_view := ⟨_, _, fun_mk (st := s_write_view) l_write_view c_write_view k_write_view, PySem.W.mg_of X G a_write_view, (fun_mk (st := s_write_view) l_write_view c_write_view k_write_view).binds (ps := ["thing"]) fun _ _ _ _ _ _ us hl => match us, hl with | [_], _ => rfl⟩,
    f__law_cell := ⟨_, _, fun_mk (st := s__law_cell) l__law_cell c__law_cell k__law_cell, PySem.W.mg_of X G a__law_cell, (fun_mk (st := s__law_cell) l__law_cell c__law_cell k__law_cell).binds (ps := ["script", "k"]) fun _ _ _ _ _ _ us hl => match us, hl with | [_, _], _ => rfl⟩,
    f__law_draws := ⟨_, _, fun_mk (st := s__law_draws) l__law_draws c__law_draws k__law_draws, PySem.W.mg_of X G a__law_draws, (fun_mk (st := s__law_draws) l__law_draws c__law_draws k__law_draws).binds (ps := ["cell", "count"]) fun _ _ _ _ _ _ us hl => match us, hl with | [_, _], _ => rfl⟩,
    f__law_is_int := ⟨_, _, fun_mk (st := s__law_is_int) l__law_is_int c__law_is_int k__law_is_int, PySem.W.mg_of X G a__law_is_int, (fun_mk (st := s__law_is_int) l__law_is_int c__law_is_int k__law_is_int).binds (ps := ["x"]) fun _ _ _ _ _ _ us hl => match us, hl with | [_], _ => rfl⟩,
    f__law_is_number := ⟨_, _, fun_mk (st := s__law_is_number) l__law_is_number c__law_is_number k__law_is_number, PySem.W.mg_of X G a__law_is_number, (fun_mk (st := s__law_is_number) l__law_is_number c__law_is_number k__law_is_number).binds (ps := ["x", "due"]) fun _ _ _ _ _ _ us hl => match us, hl with | [_, _], _ => rfl⟩,
    f__law_low := ⟨_, _, fun_mk (st := s__law_low) l__law_low c__law_low k__law_low, PySem.W.mg_of X G a__law_low, (fun_mk (st := s__law_low) l__law_low c__law_low k__law_low).binds (ps := ["kind"]) fun _ _ _ _ _ _ us hl => match us, hl with | [_], _ => rfl⟩,
    f__law_high := ⟨_, _, fun_mk (st := s__law_high) l__law_high c__law_high k__law_high, PySem.W.mg_of X G a__law_high, (fun_mk (st := s__law_high) l__law_high c__law_high k__law_high).binds (ps := ["kind"]) fun _ _ _ _ _ _ us hl => match us, hl with | [_], _ => rfl⟩,
    f__law_value := ⟨_, _, fun_mk (st := s__law_value) l__law_value c__law_value k__law_value, PySem.W.mg_of X G a__law_value, (fun_mk (st := s__law_value) l__law_value c__law_value k__law_value).binds (ps := ["kind", "draw"]) fun _ _ _ _ _ _ us hl => match us, hl with | [_, _], _ => rfl⟩,
    f__law_kind := ⟨_, _, fun_mk (st := s__law_kind) l__law_kind c__law_kind k__law_kind, PySem.W.mg_of X G a__law_kind, (fun_mk (st := s__law_kind) l__law_kind c__law_kind k__law_kind).binds (ps := ["draw"]) fun _ _ _ _ _ _ us hl => match us, hl with | [_], _ => rfl⟩,
    f__law_shape := ⟨_, _, fun_mk (st := s__law_shape) l__law_shape c__law_shape k__law_shape, PySem.W.mg_of X G a__law_shape, (fun_mk (st := s__law_shape) l__law_shape c__law_shape k__law_shape).binds (ps := ["draws", "at", "most"]) fun _ _ _ _ _ _ us hl => match us, hl with | [_, _, _], _ => rfl⟩,
    f__law_same_ints := ⟨_, _, fun_mk (st := s__law_same_ints) l__law_same_ints c__law_same_ints k__law_same_ints, PySem.W.mg_of X G a__law_same_ints, (fun_mk (st := s__law_same_ints) l__law_same_ints c__law_same_ints k__law_same_ints).binds (ps := ["x", "due"]) fun _ _ _ _ _ _ us hl => match us, hl with | [_, _], _ => rfl⟩,
    f__law_stream := ⟨_, _, fun_mk (st := s__law_stream) l__law_stream c__law_stream k__law_stream, PySem.W.mg_of X G a__law_stream, (fun_mk (st := s__law_stream) l__law_stream c__law_stream k__law_stream).binds (ps := ["script", "count"]) fun _ _ _ _ _ _ us hl => match us, hl with | [_, _], _ => rfl⟩,
    f__law_great := ⟨_, _, fun_mk (st := s__law_great) l__law_great c__law_great k__law_great, PySem.W.mg_of X G a__law_great, (fun_mk (st := s__law_great) l__law_great c__law_great k__law_great).binds (ps := ["draws", "at"]) fun _ _ _ _ _ _ us hl => match us, hl with | [_, _], _ => rfl⟩,
    f__law_signed := ⟨_, _, fun_mk (st := s__law_signed) l__law_signed c__law_signed k__law_signed, PySem.W.mg_of X G a__law_signed, (fun_mk (st := s__law_signed) l__law_signed c__law_signed k__law_signed).binds (ps := ["draws", "at"]) fun _ _ _ _ _ _ us hl => match us, hl with | [_, _], _ => rfl⟩,
    f__law_number_bytes := ⟨_, _, fun_mk (st := s__law_number_bytes) l__law_number_bytes c__law_number_bytes k__law_number_bytes, PySem.W.mg_of X G a__law_number_bytes, (fun_mk (st := s__law_number_bytes) l__law_number_bytes c__law_number_bytes k__law_number_bytes).binds (ps := ["number"]) fun _ _ _ _ _ _ us hl => match us, hl with | [_], _ => rfl⟩,
    f__law_integer_bytes := ⟨_, _, fun_mk (st := s__law_integer_bytes) l__law_integer_bytes c__law_integer_bytes k__law_integer_bytes, PySem.W.mg_of X G a__law_integer_bytes, (fun_mk (st := s__law_integer_bytes) l__law_integer_bytes c__law_integer_bytes k__law_integer_bytes).binds (ps := ["number"]) fun _ _ _ _ _ _ us hl => match us, hl with | [_], _ => rfl⟩,
    f__law_integers_bytes := ⟨_, _, fun_mk (st := s__law_integers_bytes) l__law_integers_bytes c__law_integers_bytes k__law_integers_bytes, PySem.W.mg_of X G a__law_integers_bytes, (fun_mk (st := s__law_integers_bytes) l__law_integers_bytes c__law_integers_bytes k__law_integers_bytes).binds (ps := ["numbers"]) fun _ _ _ _ _ _ us hl => match us, hl with | [_], _ => rfl⟩,
    f__law_bytes_bytes := ⟨_, _, fun_mk (st := s__law_bytes_bytes) l__law_bytes_bytes c__law_bytes_bytes k__law_bytes_bytes, PySem.W.mg_of X G a__law_bytes_bytes, (fun_mk (st := s__law_bytes_bytes) l__law_bytes_bytes c__law_bytes_bytes k__law_bytes_bytes).binds (ps := ["values"]) fun _ _ _ _ _ _ us hl => match us, hl with | [_], _ => rfl⟩,
    f__law_signs := ⟨_, _, fun_mk (st := s__law_signs) l__law_signs c__law_signs k__law_signs, PySem.W.mg_of X G a__law_signs, (fun_mk (st := s__law_signs) l__law_signs c__law_signs k__law_signs).binds (ps := []) fun _ _ _ _ _ _ us hl => match us, hl with | [], _ => rfl⟩,
    f__law_text_of := ⟨_, _, fun_mk (st := s__law_text_of) l__law_text_of c__law_text_of k__law_text_of, PySem.W.mg_of X G a__law_text_of, (fun_mk (st := s__law_text_of) l__law_text_of c__law_text_of k__law_text_of).binds (ps := ["draws", "at", "most"]) fun _ _ _ _ _ _ us hl => match us, hl with | [_, _, _], _ => rfl⟩,
    f__law_codes := ⟨_, _, fun_mk (st := s__law_codes) l__law_codes c__law_codes k__law_codes, PySem.W.mg_of X G a__law_codes, (fun_mk (st := s__law_codes) l__law_codes c__law_codes k__law_codes).binds (ps := ["text"]) fun _ _ _ _ _ _ us hl => match us, hl with | [_], _ => rfl⟩,
    f__law_text_bytes := ⟨_, _, fun_mk (st := s__law_text_bytes) l__law_text_bytes c__law_text_bytes k__law_text_bytes, PySem.W.mg_of X G a__law_text_bytes, (fun_mk (st := s__law_text_bytes) l__law_text_bytes c__law_text_bytes k__law_text_bytes).binds (ps := ["text"]) fun _ _ _ _ _ _ us hl => match us, hl with | [_], _ => rfl⟩,
    f__law_chunk_shape := ⟨_, _, fun_mk (st := s__law_chunk_shape) l__law_chunk_shape c__law_chunk_shape k__law_chunk_shape, PySem.W.mg_of X G a__law_chunk_shape, (fun_mk (st := s__law_chunk_shape) l__law_chunk_shape c__law_chunk_shape k__law_chunk_shape).binds (ps := ["draws", "at", "dimensions"]) fun _ _ _ _ _ _ us hl => match us, hl with | [_, _, _], _ => rfl⟩,
    f__law_letters := ⟨_, _, fun_mk (st := s__law_letters) l__law_letters c__law_letters k__law_letters, PySem.W.mg_of X G a__law_letters, (fun_mk (st := s__law_letters) l__law_letters c__law_letters k__law_letters).binds (ps := []) fun _ _ _ _ _ _ us hl => match us, hl with | [], _ => rfl⟩,
    f__law_name := ⟨_, _, fun_mk (st := s__law_name) l__law_name c__law_name k__law_name, PySem.W.mg_of X G a__law_name, (fun_mk (st := s__law_name) l__law_name c__law_name k__law_name).binds (ps := ["draws", "at"]) fun _ _ _ _ _ _ us hl => match us, hl with | [_, _], _ => rfl⟩,
    f__law_attribute := ⟨_, _, fun_mk (st := s__law_attribute) l__law_attribute c__law_attribute k__law_attribute, PySem.W.mg_of X G a__law_attribute, (fun_mk (st := s__law_attribute) l__law_attribute c__law_attribute k__law_attribute).binds (ps := ["draws", "at"]) fun _ _ _ _ _ _ us hl => match us, hl with | [_, _], _ => rfl⟩,
    f__law_marks_bytes := ⟨_, _, fun_mk (st := s__law_marks_bytes) l__law_marks_bytes c__law_marks_bytes k__law_marks_bytes, PySem.W.mg_of X G a__law_marks_bytes, (fun_mk (st := s__law_marks_bytes) l__law_marks_bytes c__law_marks_bytes k__law_marks_bytes).binds (ps := ["marks"]) fun _ _ _ _ _ _ us hl => match us, hl with | [_], _ => rfl⟩,
    f__law_array_bytes := ⟨_, _, fun_mk (st := s__law_array_bytes) l__law_array_bytes c__law_array_bytes k__law_array_bytes, PySem.W.mg_of X G a__law_array_bytes, (fun_mk (st := s__law_array_bytes) l__law_array_bytes c__law_array_bytes k__law_array_bytes).binds (ps := ["thing"]) fun _ _ _ _ _ _ us hl => match us, hl with | [_], _ => rfl⟩,
    f__law_view_bytes := ⟨_, _, fun_mk (st := s__law_view_bytes) l__law_view_bytes c__law_view_bytes k__law_view_bytes, PySem.W.mg_of X G a__law_view_bytes, (fun_mk (st := s__law_view_bytes) l__law_view_bytes c__law_view_bytes k__law_view_bytes).binds (ps := ["thing"]) fun _ _ _ _ _ _ us hl => match us, hl with | [_], _ => rfl⟩,
    f__law_object_bytes := ⟨_, _, fun_mk (st := s__law_object_bytes) l__law_object_bytes c__law_object_bytes k__law_object_bytes, PySem.W.mg_of X G a__law_object_bytes, (fun_mk (st := s__law_object_bytes) l__law_object_bytes c__law_object_bytes k__law_object_bytes).binds (ps := ["thing"]) fun _ _ _ _ _ _ us hl => match us, hl with | [_], _ => rfl⟩,
    f__law_drawn_thing := ⟨_, _, fun_mk (st := s__law_drawn_thing) l__law_drawn_thing c__law_drawn_thing k__law_drawn_thing, PySem.W.mg_of X G a__law_drawn_thing, (fun_mk (st := s__law_drawn_thing) l__law_drawn_thing c__law_drawn_thing k__law_drawn_thing).binds (ps := ["draws"]) fun _ _ _ _ _ _ us hl => match us, hl with | [_], _ => rfl⟩,
    f__law_object_of := ⟨_, _, fun_mk (st := s__law_object_of) l__law_object_of c__law_object_of k__law_object_of, PySem.W.mg_of X G a__law_object_of, (fun_mk (st := s__law_object_of) l__law_object_of c__law_object_of k__law_object_of).binds (ps := ["thing"]) fun _ _ _ _ _ _ us hl => match us, hl with | [_], _ => rfl⟩,
    f_law := ⟨_, _, fun_mk (st := s_law) l_law c_law k_law, PySem.W.mg_of X G a_law, (fun_mk (st := s_law) l_law c_law k_law).binds (ps := ["script"]) fun _ _ _ _ _ _ us hl => match us, hl with | [_], _ => rfl⟩,
    c_Layout := ⟨K_Layout, { cl := ⟨pg_K_Layout, hd_K_Layout, po_K_Layout, sa_K_Layout⟩, at_ := PySem.W.mg_of X G a_K_Layout, a_kind := n_K_Layout_kind, a_chunk_shape := n_K_Layout_chunk_shape, a_fill := n_K_Layout_fill, a_filters := n_K_Layout_filters, i_ := ⟨_, _, fun_mk (st := s_Layout___init__) l_Layout___init__ c_Layout___init__ k_Layout___init__, ⟨mk_K_Layout, a_Layout___init__, i_Layout___init__, kc_K_Layout⟩, (fun_mk (st := s_Layout___init__) l_Layout___init__ c_Layout___init__ k_Layout___init__).binds (ps := ["self", "kind", "chunk_shape", "fill", "filters"]) fun _ _ _ _ _ _ us hl => match us, hl with | [_, _, _, _, _], _ => rfl⟩ }⟩,
    c_Group := ⟨K_Group, { cl := ⟨pg_K_Group, hd_K_Group, po_K_Group, sa_K_Group⟩, at_ := PySem.W.mg_of X G a_K_Group, a_attributes := n_K_Group_attributes, i_ := ⟨_, _, fun_mk (st := s_Group___init__) l_Group___init__ c_Group___init__ k_Group___init__, ⟨mk_K_Group, a_Group___init__, i_Group___init__, kc_K_Group⟩, (fun_mk (st := s_Group___init__) l_Group___init__ c_Group___init__ k_Group___init__).binds (ps := ["self", "attributes"]) fun _ _ _ _ _ _ us hl => match us, hl with | [_, _], _ => rfl⟩ }⟩,
    c_ArrayObject := ⟨K_ArrayObject, { cl := ⟨pg_K_ArrayObject, hd_K_ArrayObject, po_K_ArrayObject, sa_K_ArrayObject⟩, at_ := PySem.W.mg_of X G a_K_ArrayObject, a_attributes := n_K_ArrayObject_attributes, a_shape := n_K_ArrayObject_shape, a_layout := n_K_ArrayObject_layout, a_root := n_K_ArrayObject_root, i_ := ⟨_, _, fun_mk (st := s_ArrayObject___init__) l_ArrayObject___init__ c_ArrayObject___init__ k_ArrayObject___init__, ⟨mk_K_ArrayObject, a_ArrayObject___init__, i_ArrayObject___init__, kc_K_ArrayObject⟩, (fun_mk (st := s_ArrayObject___init__) l_ArrayObject___init__ c_ArrayObject___init__ k_ArrayObject___init__).binds (ps := ["self", "attributes", "shape", "layout", "root"]) fun _ _ _ _ _ _ us hl => match us, hl with | [_, _, _, _, _], _ => rfl⟩ }⟩,
    c_View := ⟨K_View, { cl := ⟨pg_K_View, hd_K_View, po_K_View, sa_K_View⟩, at_ := PySem.W.mg_of X G a_K_View, a_attributes := n_K_View_attributes, a_kind := n_K_View_kind, a_shape := n_K_View_shape, a_fill := n_K_View_fill, a_pieces := n_K_View_pieces, i_ := ⟨_, _, fun_mk (st := s_View___init__) l_View___init__ c_View___init__ k_View___init__, ⟨mk_K_View, a_View___init__, i_View___init__, kc_K_View⟩, (fun_mk (st := s_View___init__) l_View___init__ c_View___init__ k_View___init__).binds (ps := ["self", "attributes", "kind", "shape", "fill", "pieces"]) fun _ _ _ _ _ _ us hl => match us, hl with | [_, _, _, _, _, _], _ => rfl⟩ }⟩,
    iso_g := isg,
    iso_t := ist,
    iso_Group := fun A hA => by rw [PySem.W.mg_of X G a_K_Group] at hA; cases hA; exact ⟨ish_Group, ism_Group⟩,
    iso_Group_ArrayObject := fun A B hA hB => by rw [PySem.W.mg_of X G a_K_Group] at hA; rw [PySem.W.mg_of X G a_K_ArrayObject] at hB; cases hA; cases hB; exact iso_Group_ArrayObject,
    iso_Group_View := fun A B hA hB => by rw [PySem.W.mg_of X G a_K_Group] at hA; rw [PySem.W.mg_of X G a_K_View] at hB; cases hA; cases hB; exact iso_Group_View,
    iso_ArrayObject := fun A hA => by rw [PySem.W.mg_of X G a_K_ArrayObject] at hA; cases hA; exact ⟨ish_ArrayObject, ism_ArrayObject⟩,
    iso_ArrayObject_Group := fun A B hA hB => by rw [PySem.W.mg_of X G a_K_ArrayObject] at hA; rw [PySem.W.mg_of X G a_K_Group] at hB; cases hA; cases hB; exact iso_ArrayObject_Group,
    iso_ArrayObject_View := fun A B hA hB => by rw [PySem.W.mg_of X G a_K_ArrayObject] at hA; rw [PySem.W.mg_of X G a_K_View] at hB; cases hA; cases hB; exact iso_ArrayObject_View,
    iso_View := fun A hA => by rw [PySem.W.mg_of X G a_K_View] at hA; cases hA; exact ⟨ish_View, ism_View⟩,
    iso_View_Group := fun A B hA hB => by rw [PySem.W.mg_of X G a_K_View] at hA; rw [PySem.W.mg_of X G a_K_Group] at hB; cases hA; cases hB; exact iso_View_Group,
    iso_View_ArrayObject := fun A B hA hB => by rw [PySem.W.mg_of X G a_K_View] at hA; rw [PySem.W.mg_of X G a_K_ArrayObject] at hB; cases hA; cases hB; exact iso_View_ArrayObject,
    g_ARRAY_SORT := ⟨_, PySem.W.mg_of X G z_ARRAY_SORT⟩,
    g_BASE := ⟨_, PySem.W.mg_of X G z_BASE⟩,
    g_ESCAPE := ⟨_, PySem.W.mg_of X G z_ESCAPE⟩,
    g_GROUP_SORT := ⟨_, PySem.W.mg_of X G z_GROUP_SORT⟩,
    g_LIST_VALUE := ⟨_, PySem.W.mg_of X G z_LIST_VALUE⟩,
    g_TEXT_VALUE := ⟨_, PySem.W.mg_of X G z_TEXT_VALUE⟩,
    g_VIEW_SORT := ⟨_, PySem.W.mg_of X G z_VIEW_SORT⟩,
    b_bool := PySem.W.mg_none_of X G z_bool,
    b_int := PySem.W.mg_none_of X G z_int,
    b_isinstance := PySem.W.mg_none_of X G z_isinstance,
    b_len := PySem.W.mg_none_of X G z_len,
    b_list := PySem.W.mg_none_of X G z_list,
    b_max := PySem.W.mg_none_of X G z_max,
    b_min := PySem.W.mg_none_of X G z_min,
    b_ord := PySem.W.mg_none_of X G z_ord,
    b_range := PySem.W.mg_none_of X G z_range,
    b_sorted := PySem.W.mg_none_of X G z_sorted,
    b_str := PySem.W.mg_none_of X G z_str,
    b_tuple := PySem.W.mg_none_of X G z_tuple }
theorem codeAt_of {K : PySem.W.Frag} {mg : Str → Option Value} {h : Heap} {x : Str} {f c : Addr} {o : Obj} {fd : FuncData} (KX : K.In h) (G : h.Ns mainGlobals mg) (hn : PySem.W.nsIn K mainGlobals x = some (some (.ref f))) (hl : K.lookup f = some o) (ho : o.data = .func fd) (hc : fd.code = .ref c) : CodeAt K mg x c := by
  intro f' o' fd' e1 e2 e3
  rw [PySem.W.mg_of KX G hn] at e1
  have e1 := Value.ref.inj (Option.some.inj e1)
  subst e1
  rw [hl] at e2
  have e2 := Option.some.inj e2
  subst e2
  rw [ho] at e3
  have e3 := Data.func.inj e3
  subst e3
  exact hc
theorem law_mkT {l : PySem.W.OpenLaw} {w : World} {K : PySem.W.Frag} {mg : Str → Option Value} {fa c P fo : Addr} {o oc : Obj} {fdo : FuncData} {cv : Array Value} {k : Nat} {h : Heap} (hfa : mg "law" = some (.ref fa)) (T : Top K mg) (KX : K.In h) (G : h.Ns mainGlobals mg)
    (hn : PySem.W.nsIn K mainGlobals "in_order" = some (some (.ref fo))) (hlo : K.lookup fo = some o) (ho : o.data = .func fdo) (hco : fdo.code = .ref c) (hlc : K.lookup c = some oc) (hoc : oc.data = .fields cv) (hv : cv[11]? = some (.ref P))
    (hk : PySem.W.codeHdIn K c P = true) (hT : h.get? P = some (PySem.W.tabObj #[])) (nT : K.lookup P = none)
    (F : ∀ (base : Heap) (f : Addr) (fd : FuncData), LamX.TabB base mg c P → CodeAt K mg "in_order" c → Fun K "law" "law" s_law f fd → FnOk l.prog w K mg base CX0 k f fd ["script"] (spLawT K P)) : LamX.LawAtS l w K CX0 k 63 "script" mg fa h := by
  obtain ⟨f, fd, FF, hm, hb⟩ := T.f_law.ex
  have e : f = fa := by rw [hm] at hfa; exact Value.ref.inj (Option.some.inj hfa)
  subst e
  have FF2 := FF
  obtain ⟨oc, od, kV, doc, pm, an, cdv, ct, osl, rfl, lk, hcd⟩ := FF2.ex
  refine ⟨_, [(c, P)], spLawT K P, fun p hp => ?_, fun p hp => ?_, fun p hp => ?_, fun s v => .of_eq rfl, fun H a ns hl hbt hT hS => ?_, fun base _ _ TB => F base f _ (TB (c, P) (List.mem_singleton.mpr rfl)) (codeAt_of KX G hn hlo ho hco) FF⟩
  · rw [List.mem_singleton.mp hp]; exact hT
  · rw [List.mem_singleton.mp hp]; exact nT
  · rw [List.mem_singleton.mp hp]; exact PySem.W.codeHd_of_K KX hk
  · exact ⟨a, ns, rfl, hS, hl, hbt, hT (c, P) (List.mem_singleton.mpr rfl), fun _ => rfl⟩
end My
open PySem PySem.W PyProof.Rows
set_option maxHeartbeats 0 in
theorem PySem.Challenge.cw_tessera_k56_objects_written_holds : PySem.Challenge.rw_tessera_k56_objects_written.Holds := by
  w_on; o_law; k_head; (case hw => w_witness2)
  k_fill
  refine LamX.walk_ofTs (l := PySem.Challenge.rw_tessera_k56_objects_written) (n := 63) (k := My.lawK) (x := "script") (CX := fun _ => L2.CX0) rfl (by decide) rfl ⟨rfl, by decide, by decide⟩ (fun w h Y => PySem.W.km_in_of Y) ?F (fun _ _ _ _ _ h => h)
  case F =>
    intro w mg fa h Y KX G hmg
    have hT8 := PySem.W.km_tabs_of Y
    refine' (fun hn hlo ho hco hlc hoc hv hk hT nT T => My.law_mkT hmg T KX G hn hlo ho hco hlc hoc hv hk hT nT (fun base f fd TB hc F => My.ok_law F T TB hc)) ?hn ?hlo ?ho ?hco ?hlc ?hoc ?hv ?hk ?hT ?nT ?T
    case hn => k_is
    case hlo => k_is
    case ho => rfl
    case hco => rfl
    case hlc => k_is
    case hoc => rfl
    case hv => rfl
    case hk => kernel_rfl
    case hT => exact hT8 _ (by k_mem)
    case nT => kernel_rfl
    refine' My.top_mk KX G ?a_write_number ?l_write_number ?c_write_number ?k_write_number ?a_write_integer ?l_write_integer ?c_write_integer ?k_write_integer ?a_write_integers ?l_write_integers ?c_write_integers ?k_write_integers ?a_write_bytes ?l_write_bytes ?c_write_bytes ?k_write_bytes ?a_write_text ?l_write_text ?c_write_text ?k_write_text ?a_in_order ?l_in_order ?c_in_order ?k_in_order ?a_write_object ?l_write_object ?c_write_object ?k_write_object ?a_write_attributes ?l_write_attributes ?c_write_attributes ?k_write_attributes ?a_write_array ?l_write_array ?c_write_array ?k_write_array ?a_write_view ?l_write_view ?c_write_view ?k_write_view ?a__law_cell ?l__law_cell ?c__law_cell ?k__law_cell ?a__law_draws ?l__law_draws ?c__law_draws ?k__law_draws ?a__law_is_int ?l__law_is_int ?c__law_is_int ?k__law_is_int ?a__law_is_number ?l__law_is_number ?c__law_is_number ?k__law_is_number ?a__law_low ?l__law_low ?c__law_low ?k__law_low ?a__law_high ?l__law_high ?c__law_high ?k__law_high ?a__law_value ?l__law_value ?c__law_value ?k__law_value ?a__law_kind ?l__law_kind ?c__law_kind ?k__law_kind ?a__law_shape ?l__law_shape ?c__law_shape ?k__law_shape ?a__law_same_ints ?l__law_same_ints ?c__law_same_ints ?k__law_same_ints ?a__law_stream ?l__law_stream ?c__law_stream ?k__law_stream ?a__law_great ?l__law_great ?c__law_great ?k__law_great ?a__law_signed ?l__law_signed ?c__law_signed ?k__law_signed ?a__law_number_bytes ?l__law_number_bytes ?c__law_number_bytes ?k__law_number_bytes ?a__law_integer_bytes ?l__law_integer_bytes ?c__law_integer_bytes ?k__law_integer_bytes ?a__law_integers_bytes ?l__law_integers_bytes ?c__law_integers_bytes ?k__law_integers_bytes ?a__law_bytes_bytes ?l__law_bytes_bytes ?c__law_bytes_bytes ?k__law_bytes_bytes ?a__law_signs ?l__law_signs ?c__law_signs ?k__law_signs ?a__law_text_of ?l__law_text_of ?c__law_text_of ?k__law_text_of ?a__law_codes ?l__law_codes ?c__law_codes ?k__law_codes ?a__law_text_bytes ?l__law_text_bytes ?c__law_text_bytes ?k__law_text_bytes ?a__law_chunk_shape ?l__law_chunk_shape ?c__law_chunk_shape ?k__law_chunk_shape ?a__law_letters ?l__law_letters ?c__law_letters ?k__law_letters ?a__law_name ?l__law_name ?c__law_name ?k__law_name ?a__law_attribute ?l__law_attribute ?c__law_attribute ?k__law_attribute ?a__law_marks_bytes ?l__law_marks_bytes ?c__law_marks_bytes ?k__law_marks_bytes ?a__law_array_bytes ?l__law_array_bytes ?c__law_array_bytes ?k__law_array_bytes ?a__law_view_bytes ?l__law_view_bytes ?c__law_view_bytes ?k__law_view_bytes ?a__law_object_bytes ?l__law_object_bytes ?c__law_object_bytes ?k__law_object_bytes ?a__law_drawn_thing ?l__law_drawn_thing ?c__law_drawn_thing ?k__law_drawn_thing ?a__law_object_of ?l__law_object_of ?c__law_object_of ?k__law_object_of ?a_law ?l_law ?c_law ?k_law ?a_K_Layout ?pg_K_Layout ?hd_K_Layout ?po_K_Layout ?sa_K_Layout ?n_K_Layout_kind ?n_K_Layout_chunk_shape ?n_K_Layout_fill ?n_K_Layout_filters ?a_Layout___init__ ?i_Layout___init__ ?l_Layout___init__ ?c_Layout___init__ ?k_Layout___init__ ?mk_K_Layout ?kc_K_Layout ?a_K_Group ?pg_K_Group ?hd_K_Group ?po_K_Group ?sa_K_Group ?n_K_Group_attributes ?a_Group___init__ ?i_Group___init__ ?l_Group___init__ ?c_Group___init__ ?k_Group___init__ ?mk_K_Group ?kc_K_Group ?a_K_ArrayObject ?pg_K_ArrayObject ?hd_K_ArrayObject ?po_K_ArrayObject ?sa_K_ArrayObject ?n_K_ArrayObject_attributes ?n_K_ArrayObject_shape ?n_K_ArrayObject_layout ?n_K_ArrayObject_root ?a_ArrayObject___init__ ?i_ArrayObject___init__ ?l_ArrayObject___init__ ?c_ArrayObject___init__ ?k_ArrayObject___init__ ?mk_K_ArrayObject ?kc_K_ArrayObject ?a_K_View ?pg_K_View ?hd_K_View ?po_K_View ?sa_K_View ?n_K_View_attributes ?n_K_View_kind ?n_K_View_shape ?n_K_View_fill ?n_K_View_pieces ?a_View___init__ ?i_View___init__ ?l_View___init__ ?c_View___init__ ?k_View___init__ ?mk_K_View ?kc_K_View ?isg ?ist ?ish_Group ?ism_Group ?iso_Group_ArrayObject ?iso_Group_View ?ish_ArrayObject ?ism_ArrayObject ?iso_ArrayObject_Group ?iso_ArrayObject_View ?ish_View ?ism_View ?iso_View_Group ?iso_View_ArrayObject ?z_ARRAY_SORT ?z_BASE ?z_ESCAPE ?z_GROUP_SORT ?z_LIST_VALUE ?z_TEXT_VALUE ?z_VIEW_SORT ?z_bool ?z_int ?z_isinstance ?z_len ?z_list ?z_max ?z_min ?z_ord ?z_range ?z_sorted ?z_str ?z_tuple
    (case a_write_number => k_is); (case l_write_number => k_is); (case c_write_number => k_is); (case k_write_number => k_is); (case a_write_integer => k_is); (case l_write_integer => k_is); (case c_write_integer => k_is); (case k_write_integer => k_is); (case a_write_integers => k_is); (case l_write_integers => k_is); (case c_write_integers => k_is); (case k_write_integers => k_is); (case a_write_bytes => k_is); (case l_write_bytes => k_is); (case c_write_bytes => k_is); (case k_write_bytes => k_is); (case a_write_text => k_is); (case l_write_text => k_is); (case c_write_text => k_is); (case k_write_text => k_is); (case a_in_order => k_is); (case l_in_order => k_is); (case c_in_order => k_is); (case k_in_order => k_is); (case a_write_object => k_is); (case l_write_object => k_is); (case c_write_object => k_is); (case k_write_object => k_is); (case a_write_attributes => k_is); (case l_write_attributes => k_is); (case c_write_attributes => k_is); (case k_write_attributes => k_is); (case a_write_array => k_is); (case l_write_array => k_is); (case c_write_array => k_is); (case k_write_array => k_is); (case a_write_view => k_is); (case l_write_view => k_is); (case c_write_view => k_is); (case k_write_view => k_is); (case a__law_cell => k_is); (case l__law_cell => k_is); (case c__law_cell => k_is); (case k__law_cell => k_is); (case a__law_draws => k_is); (case l__law_draws => k_is); (case c__law_draws => k_is); (case k__law_draws => k_is); (case a__law_is_int => k_is); (case l__law_is_int => k_is); (case c__law_is_int => k_is); (case k__law_is_int => k_is); (case a__law_is_number => k_is); (case l__law_is_number => k_is); (case c__law_is_number => k_is); (case k__law_is_number => k_is); (case a__law_low => k_is); (case l__law_low => k_is); (case c__law_low => k_is); (case k__law_low => k_is); (case a__law_high => k_is); (case l__law_high => k_is); (case c__law_high => k_is); (case k__law_high => k_is); (case a__law_value => k_is); (case l__law_value => k_is); (case c__law_value => k_is); (case k__law_value => k_is); (case a__law_kind => k_is); (case l__law_kind => k_is); (case c__law_kind => k_is); (case k__law_kind => k_is); (case a__law_shape => k_is); (case l__law_shape => k_is); (case c__law_shape => k_is); (case k__law_shape => k_is); (case a__law_same_ints => k_is); (case l__law_same_ints => k_is); (case c__law_same_ints => k_is); (case k__law_same_ints => k_is); (case a__law_stream => k_is); (case l__law_stream => k_is); (case c__law_stream => k_is); (case k__law_stream => k_is); (case a__law_great => k_is); (case l__law_great => k_is); (case c__law_great => k_is); (case k__law_great => k_is); (case a__law_signed => k_is); (case l__law_signed => k_is); (case c__law_signed => k_is); (case k__law_signed => k_is); (case a__law_number_bytes => k_is); (case l__law_number_bytes => k_is); (case c__law_number_bytes => k_is); (case k__law_number_bytes => k_is); (case a__law_integer_bytes => k_is); (case l__law_integer_bytes => k_is); (case c__law_integer_bytes => k_is); (case k__law_integer_bytes => k_is); (case a__law_integers_bytes => k_is); (case l__law_integers_bytes => k_is); (case c__law_integers_bytes => k_is); (case k__law_integers_bytes => k_is); (case a__law_bytes_bytes => k_is); (case l__law_bytes_bytes => k_is); (case c__law_bytes_bytes => k_is); (case k__law_bytes_bytes => k_is); (case a__law_signs => k_is); (case l__law_signs => k_is); (case c__law_signs => k_is); (case k__law_signs => k_is); (case a__law_text_of => k_is); (case l__law_text_of => k_is); (case c__law_text_of => k_is); (case k__law_text_of => k_is); (case a__law_codes => k_is); (case l__law_codes => k_is); (case c__law_codes => k_is); (case k__law_codes => k_is); (case a__law_text_bytes => k_is); (case l__law_text_bytes => k_is); (case c__law_text_bytes => k_is); (case k__law_text_bytes => k_is); (case a__law_chunk_shape => k_is); (case l__law_chunk_shape => k_is); (case c__law_chunk_shape => k_is); (case k__law_chunk_shape => k_is); (case a__law_letters => k_is); (case l__law_letters => k_is); (case c__law_letters => k_is); (case k__law_letters => k_is); (case a__law_name => k_is); (case l__law_name => k_is); (case c__law_name => k_is); (case k__law_name => k_is); (case a__law_attribute => k_is); (case l__law_attribute => k_is); (case c__law_attribute => k_is); (case k__law_attribute => k_is); (case a__law_marks_bytes => k_is); (case l__law_marks_bytes => k_is); (case c__law_marks_bytes => k_is); (case k__law_marks_bytes => k_is); (case a__law_array_bytes => k_is); (case l__law_array_bytes => k_is); (case c__law_array_bytes => k_is); (case k__law_array_bytes => k_is); (case a__law_view_bytes => k_is); (case l__law_view_bytes => k_is); (case c__law_view_bytes => k_is); (case k__law_view_bytes => k_is); (case a__law_object_bytes => k_is); (case l__law_object_bytes => k_is); (case c__law_object_bytes => k_is); (case k__law_object_bytes => k_is); (case a__law_drawn_thing => k_is); (case l__law_drawn_thing => k_is); (case c__law_drawn_thing => k_is); (case k__law_drawn_thing => k_is); (case a__law_object_of => k_is); (case l__law_object_of => k_is); (case c__law_object_of => k_is); (case k__law_object_of => k_is); (case a_law => k_is); (case l_law => k_is); (case c_law => k_is); (case k_law => k_is); (case a_K_Layout => k_is); (case pg_K_Layout => k_is); (case hd_K_Layout => k_is); (case po_K_Layout => k_is); (case sa_K_Layout => k_is); (case n_K_Layout_kind => k_is); (case n_K_Layout_chunk_shape => k_is); (case n_K_Layout_fill => k_is); (case n_K_Layout_filters => k_is); (case a_Layout___init__ => k_is); (case i_Layout___init__ => k_is); (case l_Layout___init__ => k_is); (case c_Layout___init__ => k_is); (case k_Layout___init__ => k_is); (case mk_K_Layout => k_is); (case kc_K_Layout => k_is); (case a_K_Group => k_is); (case pg_K_Group => k_is); (case hd_K_Group => k_is); (case po_K_Group => k_is); (case sa_K_Group => k_is); (case n_K_Group_attributes => k_is); (case a_Group___init__ => k_is); (case i_Group___init__ => k_is); (case l_Group___init__ => k_is); (case c_Group___init__ => k_is); (case k_Group___init__ => k_is); (case mk_K_Group => k_is); (case kc_K_Group => k_is); (case a_K_ArrayObject => k_is); (case pg_K_ArrayObject => k_is); (case hd_K_ArrayObject => k_is); (case po_K_ArrayObject => k_is); (case sa_K_ArrayObject => k_is); (case n_K_ArrayObject_attributes => k_is); (case n_K_ArrayObject_shape => k_is); (case n_K_ArrayObject_layout => k_is); (case n_K_ArrayObject_root => k_is); (case a_ArrayObject___init__ => k_is); (case i_ArrayObject___init__ => k_is); (case l_ArrayObject___init__ => k_is); (case c_ArrayObject___init__ => k_is); (case k_ArrayObject___init__ => k_is); (case mk_K_ArrayObject => k_is); (case kc_K_ArrayObject => k_is); (case a_K_View => k_is); (case pg_K_View => k_is); (case hd_K_View => k_is); (case po_K_View => k_is); (case sa_K_View => k_is); (case n_K_View_attributes => k_is); (case n_K_View_kind => k_is); (case n_K_View_shape => k_is); (case n_K_View_fill => k_is); (case n_K_View_pieces => k_is); (case a_View___init__ => k_is); (case i_View___init__ => k_is); (case l_View___init__ => k_is); (case c_View___init__ => k_is); (case k_View___init__ => k_is); (case mk_K_View => k_is); (case kc_K_View => k_is); (case isg => k_is); (case ist => k_is); (case ish_Group => k_is); (case ism_Group => k_is); (case iso_Group_ArrayObject => kit_is); (case iso_Group_View => kit_is); (case ish_ArrayObject => k_is); (case ism_ArrayObject => k_is); (case iso_ArrayObject_Group => kit_is); (case iso_ArrayObject_View => kit_is); (case ish_View => k_is); (case ism_View => k_is); (case iso_View_Group => kit_is); (case iso_View_ArrayObject => kit_is); (case z_ARRAY_SORT => k_is); (case z_BASE => k_is); (case z_ESCAPE => k_is); (case z_GROUP_SORT => k_is); (case z_LIST_VALUE => k_is); (case z_TEXT_VALUE => k_is); (case z_VIEW_SORT => k_is); (case z_bool => k_is); (case z_int => k_is); (case z_isinstance => k_is); (case z_len => k_is); (case z_list => k_is); (case z_max => k_is); (case z_min => k_is); (case z_ord => k_is); (case z_range => k_is); (case z_sorted => k_is); (case z_str => k_is); (case z_tuple => k_is)


