import PyProof.Rows.All
import Wide.All
import OpenK.AllK
import Wide.FinOn
import HandS.ForMost
import HandS.IsInst
import HandS.Evl
import HandS.Style
import HandS.Zip
import KE.GoesZip
import HandS.TupMul
import HandS.TupAny
import HandS.EndBits
import HandS.Rev
import HandS.Dict
import HandS.ForExc
import HandS.ExcInit
import HandS.NestedK
import HandS.FStr
import KE.KExcSuper
import KE.RegKSuper
import HandS.ExcInitHot
import HandS.RaiseFrom
import HandS.TryMany
import HandS.SuiteRaise
import HandS.ExcIs
import HandS.ExcField
import KE.KExcIs
import HandS.NestedHot
import HandS.CallLocal
import HandS.ExcOwn
import PySem.Challenge.RW_tessera_k15_plain_arrays_resized
set_option Elab.async false
set_option linter.all false
set_option maxRecDepth 100000
set_option maxHeartbeats 4000000
/-! Readings stepped forward over an abstract heap that a list of owned objects describes. -/
namespace RD
open PySem PySem.Spec PyProof.Rows L2

/-! ### the heap: H extends H0; the objects of L are new since H0 and stand apart -/
structure Own (H0 H : Hp) (L : List (Addr × HO)) : Prop where
  ex : Same H0 H
  fr : ∀ x ∈ L, H0 x.1 = none ∧ H x.1 = some x.2
  nd : (L.map (·.1)).Nodup
theorem Own.nil (H : Hp) : Own H H [] := ⟨Same.refl H, fun _ h => absurd h (by simp), List.nodup_nil⟩
theorem same_new {H : Hp} {p : Addr} {u : HO} (h : H p = none) : Same H (upd H p u) := fun b x e => by
  rw [upd_ne (ne_of_none e h)]
  exact e
section
variable {H0 H H' : Hp} {L : List (Addr × HO)} {p l : Addr} {u v : HO} {K : PySem.W.Frag}
theorem Own.mono (o : Own H0 H L) (e : Same H H') : Own H0 H' L := ⟨o.ex.trans e, fun x hx => ⟨(o.fr x hx).1, e _ _ (o.fr x hx).2⟩, o.nd⟩
theorem Own.add (o : Own H0 H L) (e : Same H H') (hp : H p = none) (hv : H' p = some u) : Own H0 H' ((p, u) :: L) := by
  refine ⟨o.ex.trans e, fun x hx => ?_, ?_⟩
  · rcases List.mem_cons.mp hx with rfl | hx
    · exact ⟨o.ex.free hp, hv⟩
    · exact ⟨(o.fr x hx).1, e _ _ (o.fr x hx).2⟩
  · rw [List.map_cons, List.nodup_cons]
    refine ⟨fun hm => ?_, o.nd⟩
    obtain ⟨x, hx, e1⟩ := List.mem_map.mp hm
    have := (o.fr x hx).2
    rw [e1] at this
    show False
    rw [hp] at this
    cases this
theorem Own.new (o : Own H0 H L) (hp : H p = none) : Own H0 (upd H p u) ((p, u) :: L) := o.add (same_new hp) hp upd_same
theorem Own.at (o : Own H0 H L) (i : Nat) (h : L[i]? = some (l, u)) : H l = some u := (o.fr _ (List.mem_of_getElem? h)).2
theorem Own.fresh (o : Own H0 H L) (i : Nat) (h : L[i]? = some (l, u)) : H0 l = none := (o.fr _ (List.mem_of_getElem? h)).1
theorem map_set_fst {α β : Type} : ∀ {L : List (α × β)} {i : Nat} {l : α} {u v : β}, L[i]? = some (l, u) → (L.set i (l, v)).map (·.1) = L.map (·.1)
  | [], _, _, _, _, h => by simp at h
  | x :: L, 0, l, u, v, h => by
    have e : x = (l, u) := Option.some.inj h
    subst e
    rfl
  | x :: L, i + 1, l, u, v, h => by
    show x.1 :: (L.set i (l, v)).map (·.1) = x.1 :: L.map (·.1)
    rw [map_set_fst (L := L) (i := i) (l := l) (u := u) (v := v) h]
theorem nodup_fst {α β : Type} : ∀ {L : List (α × β)} {i j : Nat} {l : α} {u v : β}, (L.map (·.1)).Nodup → L[i]? = some (l, u) → L[j]? = some (l, v) → i = j
  | L, i, j, l, u, v, hN, hi, hj => by
    refine nd_ix (l := L.map (·.1)) hN (x := l) ?_ ?_
    · rw [List.getElem?_map, hi]; rfl
    · rw [List.getElem?_map, hj]; rfl
/-- the object at l is changed; nothing else -/
theorem Own.chg (o : Own H0 H L) (i : Nat) (h : L[i]? = some (l, u)) (e : ∀ b x, b ≠ l → H b = some x → H' b = some x) (hv : H' l = some v) : Own H0 H' (L.set i (l, v)) := by
  refine ⟨fun b x hb => ?_, fun x hx => ?_, ?_⟩
  · exact e b x (ne_of_none hb (o.fresh i h)) (o.ex b x hb)
  · obtain ⟨j, hj⟩ := List.mem_iff_getElem?.mp hx
    by_cases hij : i = j
    · subst hij
      have hlt : i < L.length := (List.getElem?_eq_some_iff.mp h).1
      rw [List.getElem?_set_self hlt] at hj
      cases hj
      exact ⟨o.fresh i h, hv⟩
    · rw [List.getElem?_set_ne hij] at hj
      have hm := List.mem_of_getElem? hj
      have hne : x.1 ≠ l := fun z => hij (by
        have : L[j]? = some (l, x.2) := by rw [hj, ← z]
        exact nodup_fst o.nd h this)
      exact ⟨(o.fr x hm).1, e _ _ hne (o.fr x hm).2⟩
  · rw [map_set_fst h]
    exact o.nd
theorem Own.set (o : Own H0 H L) (i : Nat) (h : L[i]? = some (l, u)) : Own H0 (upd H l v) (L.set i (l, v)) :=
  o.chg i h (fun b x hb e => by rw [upd_ne hb]; exact e) upd_same
theorem Own.sub {L' : List (Addr × HO)} (o : Own H0 H L) (h : L'.Sublist L) : Own H0 H L' :=
  ⟨o.ex, fun x hx => o.fr x (h.subset hx), List.Sublist.nodup (h.map _) o.nd⟩
theorem Own.tl {x : Addr × HO} (o : Own H0 H (x :: L)) : Own H0 H L := o.sub (List.sublist_cons_self x L)
theorem Own.ne (o : Own H0 H L) {q : Addr} {i j : Nat} (hi : L[i]? = some (l, u)) (hj : L[j]? = some (q, v)) (h : i ≠ j) : l ≠ q := fun e => by
  subst e
  exact h (nodup_fst o.nd hi hj)
theorem Own.sqL (o : Own H0 H L) {xs : List V} (i : Nat) (h : L[i]? = some (l, .lst xs)) : SqL K H l xs := .inl (.inl (o.at i h))
theorem Own.sqT (o : Own H0 H L) {xs : List V} (i : Nat) (h : L[i]? = some (l, .tup xs)) : SqT K H l xs := .inl (.inl (o.at i h))
theorem Own.old (o : Own H0 H L) {xs : List V} (h : SqL K H0 l xs) : SqL K H l xs := o.ex.seq h
theorem same_seqT {xs : List V} (e : Same H H') (h : SqT K H l xs) : SqT K H' l xs := by
  rcases h with (h | ⟨o, h⟩) | h
  · exact .inl (.inl (e _ _ h))
  · exact .inl (.inr ⟨o, e _ _ h⟩)
  · exact .inr h
theorem Own.oldT (o : Own H0 H L) {xs : List V} (h : SqT K H0 l xs) : SqT K H l xs := same_seqT o.ex h
/-- start a new frame of ownership at H, giving up L -/
theorem Own.trans {H1 : Hp} {L1 : List (Addr × HO)} (o : Own H0 H L) (o1 : Own H H1 L1) : Own H0 H1 (L1 ++ L) := by
  refine ⟨o.ex.trans o1.ex, fun x hx => ?_, ?_⟩
  · rcases List.mem_append.mp hx with h | h
    · exact ⟨o.ex.free (o1.fr x h).1, (o1.fr x h).2⟩
    · exact ⟨(o.fr x h).1, o1.ex _ _ (o.fr x h).2⟩
  · rw [List.map_append, List.nodup_append]
    refine ⟨o1.nd, o.nd, fun a ha b hb e => ?_⟩
    subst e
    obtain ⟨x, hx, rfl⟩ := List.mem_map.mp ha
    obtain ⟨y, hy, e⟩ := List.mem_map.mp hb
    have h1 := (o1.fr x hx).1
    have h2 := (o.fr y hy).2
    rw [e, h1] at h2
    cases h2
end

/-! ### what an answer is -/
/-- a value that is no new object -/
def RetV (H : Hp) (Q : VK) (v : V) : Prop := ∀ H', Same H H' → Q v H'
/-- a new object -/
def RetO (H : Hp) (Q : VK) (u : HO) : Prop := ∀ H' p, Same H H' → H p = none → H' p = some u → Q (.ref p) H'
theorem RetO.mk {H0 H : Hp} {Q : VK} {u : HO} {L : List (Addr × HO)} {p : Addr} (q : RetO H0 Q u) (o : Own H0 H L) (i : Nat) (h : L[i]? = some (p, u)) : Q (.ref p) H := q H p o.ex (o.fresh i h) (o.at i h)
theorem RetV.mk {H0 H : Hp} {Q : VK} {v : V} {L : List (Addr × HO)} (q : RetV H0 Q v) (o : Own H0 H L) : Q v H := q H o.ex

/-! ### readings -/
def RBl (x : V) (H : Hp) (Q : Bool → Hp → Prop) : Prop := ∃ k, x = .bl k ∧ Q k H
def RPt (x : V) (H : Hp) (R : Option Int → Hp → Prop) : Prop := ∃ i, x = .int i ∧ R (some i) H
def RIf (c : Bool) (A B : Prop) : Prop := if c = true then A else B
def RNewL (xs : List V) (H : Hp) (Q : VK) : Prop := xs.length ≤ sizeLine ∧ ∀ p, H p = none → Q (.ref p) (upd H p (.lst xs))
def RNewT (xs : List V) (H : Hp) (Q : VK) : Prop := xs.length ≤ sizeLine ∧ ∀ p, H p = none → Q (.ref p) (upd H p (.tup xs))
section
variable {σ : L2.St} {H H0 : Hp} {Q : VK} {v x y : V} {ta tb te : TE} {t u : TT} {r : R2} {i j : Int} {D : Ends} {ts tz : TS} {g : TG} {K : PySem.W.Frag} {L : List (Addr × HO)}
theorem r_var {n : Nat} (h : σ[n]? = some (some v)) (q : Q v H) : tVar n σ H Q := ⟨v, h, q⟩
theorem r_c (q : Q v H) : tC v σ H Q := q
theorem r_op (q : ta σ H fun x H1 => tb σ H1 fun y H2 => r x y H2 Q) : tOp r ta tb σ H Q := q
theorem r_I0 {f : Int → Int → V} (q : Q (f i j) H) : rI0 f (.int i) (.int j) H Q := ⟨i, j, rfl, rfl, q⟩
theorem r_I {C : Int → Int → Prop} {f : Int → Int → V} (c : C i j) (q : Q (f i j) H) : rI C f (.int i) (.int j) H Q := ⟨i, j, rfl, rfl, c, q⟩
theorem r_un {f : V → Hp → VK → Prop} (q : ta σ H fun x H1 => f x H1 Q) : tUn f ta σ H Q := q
theorem r_U {f : Int → V} (q : Q (f i) H) : rU f (.int i) H Q := ⟨i, rfl, q⟩
theorem r_eqI (q : Q (.bl (decide (i = j))) H) : rEq (.int i) (.int j) H Q := ⟨rfl, by
  have e : decide ((V.int i) = .int j) = decide (i = j) := by simp
  rw [e]; exact q⟩
theorem r_neI (q : Q (.bl (!decide (i = j))) H) : rNe (.int i) (.int j) H Q := ⟨rfl, by
  have e : decide ((V.int i) = .int j) = decide (i = j) := by simp
  rw [e]; exact q⟩
theorem r_eqS {a b : Str} (q : Q (.bl (decide (a = b))) H) : rEq (.str a) (.str b) H Q := ⟨rfl, by
  have e : decide ((V.str a) = .str b) = decide (a = b) := by simp
  rw [e]; exact q⟩
theorem r_neS {a b : Str} (q : Q (.bl (!decide (a = b))) H) : rNe (.str a) (.str b) H Q := ⟨rfl, by
  have e : decide ((V.str a) = .str b) = decide (a = b) := by simp
  rw [e]; exact q⟩
theorem r_test {Q : Bool → Hp → Prop} (q : ta σ H fun x H' => RBl x H' Q) : tTest ta σ H Q := q
theorem r_tB {Q : Bool → Hp → Prop} (q : ta σ H fun x H' => RBl x H' Q) : tB ta σ H Q := q
theorem r_bl {Q : Bool → Hp → Prop} {b : Bool} (q : Q b H) : RBl (.bl b) H Q := ⟨b, rfl, q⟩
theorem r_and {Q : Bool → Hp → Prop} (q : t σ H fun c H1 => RIf c (u σ H1 Q) (Q false H1)) : tAnd t u σ H Q := q
theorem r_or {Q : Bool → Hp → Prop} (q : t σ H fun c H1 => RIf c (Q true H1) (u σ H1 Q)) : tOr t u σ H Q := q
theorem r_not {Q : Bool → Hp → Prop} (q : t σ H fun c H1 => Q (!c) H1) : tNot t σ H Q := q
theorem r_andV (q : ta σ H fun x H1 => RBl x H1 fun c H1 => RIf c (tb σ H1 Q) (Q (.bl false) H1)) : tAndV ta tb σ H Q := q
theorem r_orV (q : ta σ H fun x H1 => RBl x H1 fun c H1 => RIf c (Q (.bl true) H1) (tb σ H1 Q)) : tOrV ta tb σ H Q := q
theorem r_notV (q : ta σ H fun x H1 => RBl x H1 fun c H1 => Q (.bl (!c)) H1) : tNotV ta σ H Q := q
theorem r_ifE (q : t σ H fun c H1 => RIf c (ta σ H1 Q) (tb σ H1 Q)) : tIf t ta tb σ H Q := q
theorem r_seq (q : ts { D with nx := tz D } σ H) : tSeq ts tz D σ H := q
theorem r_asg (q : te σ H fun x H1 => g x σ H1 D.nx) : tAsg te g D σ H := q
theorem r_name {n : Nat} {R : L2.St → Hp → Prop} (q : R (σ.set n (some v)) H) : gName n v σ H R := q
theorem r_ifS (q : t σ H fun b H1 => RIf b (ts D σ H1) (tz D σ H1)) : tIfS t ts tz D σ H := q
theorem r_ret (q : te σ H D.rt) : tRet te D σ H := q
theorem r_retN (q : D.rt .non H) : tRetN D σ H := q
theorem r_drop (q : te σ H fun _ H1 => D.nx σ H1) : tDrop te D σ H := q
theorem r_next (q : D.nx σ H) : tNext D σ H := q
theorem r_break (q : D.bk σ H) : tBreak D σ H := q
theorem r_cont (q : D.ct σ H) : tCont D σ H := q
theorem r_nil {R : List V → Hp → Prop} (q : R [] H) : tNil σ H R := q
theorem r_cons {tr : TA} {R : List V → Hp → Prop} (q : te σ H fun x H1 => tr σ H1 fun xs H2 => R (x :: xs) H2) : tCons te tr σ H R := q
theorem r_tup {tr : TA} (q : tr σ H fun xs H1 => RNewT xs H1 Q) : tTup tr σ H Q := q
theorem r_lst {tr : TA} (q : tr σ H fun xs H1 => RNewL xs H1 Q) : tLst tr σ H Q := q
theorem r_CB {f : List V → Hp → VK → Prop} {tr : TA} (q : tr σ H fun vs H1 => f vs H1 Q) : tCB f tr σ H Q := q
theorem r_call {sp : Sp} {E : XK} {tr : TA} (q : tr σ H fun vs H1 => sp (vs ++ []) H1 Q E) : tCall sp [] E tr σ H Q := q
theorem r_sl {f : V → Option Int → Option Int → Hp → VK → Prop} {tl th : TO} (q : te σ H fun x H1 => tl σ H1 fun l H2 => th σ H2 fun u H3 => f x l u H3 Q) : tSl f te tl th σ H Q := q
theorem r_par {i j : Nat} {ta : TA} {D : Ends} (q : ta σ H fun vs H1 => ∃ v w, vs = [v, w] ∧ D.nx ((σ.set i (some v)).set j (some w)) H1) : tPar i j ta D σ H := q
theorem r_nopart {R : Option Int → Hp → Prop} (q : R none H) : tNoPart σ H R := q
theorem r_part {R : Option Int → Hp → Prop} (q : te σ H fun x H1 => RPt x H1 R) : tPart te σ H R := q
theorem r_pt {R : Option Int → Hp → Prop} (q : R (some i) H) : RPt (.int i) H R := ⟨i, rfl, q⟩
theorem r_aug {n : Nat} {ti : TIp} (h : σ[n]? = some (some x)) (q : te σ H fun y H1 => ti x y H1 fun z H2 => D.nx (σ.set n (some z)) H2) : tAug n te ti D σ H := ⟨x, h, q⟩
theorem r_ipI {f : Int → Int → Int} (q : Q (.int (f i j)) H) : ipI f (.int i) (.int j) H Q := ⟨i, j, rfl, rfl, q⟩
theorem r_set {to ti : TE} {s : TSet} {R : L2.St → Hp → Prop} (q : to σ H fun o H1 => ti σ H1 fun i H2 => s o i v H2 fun H3 => R σ H3) : gSub to ti s v σ H R := q

/-! ### branches -/
theorem rif {p : Prop} [Decidable p] {A B : Prop} (h1 : p → A) (h2 : ¬ p → B) : RIf (decide p) A B := by
  unfold RIf
  by_cases h : p
  · rw [if_pos (decide_eq_true h)]; exact h1 h
  · rw [if_neg (by simpa using h)]; exact h2 h
theorem rif_n {p : Prop} [Decidable p] {A B : Prop} (h1 : ¬ p → A) (h2 : p → B) : RIf (!decide p) A B := by
  unfold RIf
  by_cases h : p
  · rw [if_neg (by simpa using h)]; exact h2 h
  · rw [if_pos (by simpa using h)]; exact h1 h
theorem rif_t {A B : Prop} (h : A) : RIf true A B := by unfold RIf; rw [if_pos rfl]; exact h
theorem rif_f {A B : Prop} (h : B) : RIf false A B := by unfold RIf; rw [if_neg Bool.false_ne_true]; exact h
theorem rif_nt {A B : Prop} (h : B) : RIf (!true) A B := rif_f h
theorem rif_nf {A B : Prop} (h : A) : RIf (!false) A B := rif_t h
theorem rif_yes {p : Prop} [Decidable p] {A B : Prop} (hp : p) (h1 : A) : RIf (decide p) A B := rif (fun _ => h1) fun h => absurd hp h
theorem rif_no {p : Prop} [Decidable p] {A B : Prop} (hp : ¬ p) (h1 : B) : RIf (decide p) A B := rif (fun h => absurd h hp) fun _ => h1
theorem rif_nyes {p : Prop} [Decidable p] {A B : Prop} (hp : p) (h1 : B) : RIf (!decide p) A B := rif_n (fun h => absurd hp h) fun _ => h1
theorem rif_nno {p : Prop} [Decidable p] {A B : Prop} (hp : ¬ p) (h1 : A) : RIf (!decide p) A B := rif_n (fun _ => h1) fun h => absurd h hp
theorem rif_b {b : Bool} {A B : Prop} (h1 : b = true → A) (h2 : b = false → B) : RIf b A B := by
  cases b
  · exact rif_f (h2 rfl)
  · exact rif_t (h1 rfl)

/-! ### new objects -/
theorem sz100 {n : Nat} (h : n ≤ 10000000) : n ≤ sizeLine := Nat.le_trans h (by decide)
theorem sz_lt {n : Nat} (h : n < 10000000) : n < sizeLine := Nat.lt_of_lt_of_le h (by decide)
theorem r_newL {xs : List V} (o : Own H0 H L) (hz : xs.length ≤ 10000000) (k : ∀ p H', Own H0 H' ((p, .lst xs) :: L) → Q (.ref p) H') : RNewL xs H Q := ⟨sz100 hz, fun p hp => k p _ (o.new hp)⟩
theorem r_newT {xs : List V} (o : Own H0 H L) (hz : xs.length ≤ 10000000) (k : ∀ p H', Own H0 H' ((p, .tup xs) :: L) → Q (.ref p) H') : RNewT xs H Q := ⟨sz100 hz, fun p hp => k p _ (o.new hp)⟩

/-! ### lists -/
theorem r_ixL {p : Addr} {xs : List V} (h : SqL K H p xs) (ha : atI xs i = some v) (q : Q v H) : rIxL K (.ref p) (.int i) H Q := ⟨p, xs, i, v, rfl, rfl, h, ha, q⟩
theorem r_ixT {p : Addr} {xs : List V} (h : SqT K H p xs) (ha : atI xs i = some v) (q : Q v H) : rIxT K (.ref p) (.int i) H Q := ⟨p, xs, i, v, rfl, rfl, h, ha, q⟩
theorem r_slL {a : Addr} {xs : List V} {lo hi : Option Int} (o : Own H0 H L) (h : SqL K H a xs) (k : ∀ p H', Own H0 H' ((p, .lst (cutV xs lo hi)) :: L) → Q (.ref p) H') : rSlL K (.ref a) lo hi H Q := ⟨a, xs, rfl, h, fun p hp => k p _ (o.new hp)⟩
theorem r_cat {a b : Addr} {xs ys : List V} (o : Own H0 H L) (ha : H a = some (.lst xs)) (hb : H b = some (.lst ys)) (hz : xs.length + ys.length ≤ 10000000) (k : ∀ p H', Own H0 H' ((p, .lst (xs ++ ys)) :: L) → Q (.ref p) H') : rCat (.ref a) (.ref b) H Q :=
  ⟨a, b, xs, ys, rfl, rfl, ha, hb, sz100 hz, fun p hp => k p _ (o.new hp)⟩
theorem r_app {l : Addr} {xs : List V} (o : Own H0 H L) (n : Nat) (h : L[n]? = some (l, .lst xs)) (hz : xs.length < 10000000) (k : ∀ H', Own H0 H' (L.set n (l, .lst (xs ++ [y]))) → Q .non H') : rAppend (.ref l) [y] H Q :=
  ⟨l, xs, y, rfl, rfl, o.at n h, sz_lt hz, k _ (o.set n h)⟩
/-- l.append(e) as a statement's expression: the receiver's slot, the argument -/
theorem r_bm {T : String} {f : V → List V → Hp → VK → Prop} {tr : TA} {n : Nat} {l : Addr} (h : σ[n]? = some (some (.ref l))) (ht : tyV K T (.ref l) H) (q : tr σ H fun vs H2 => f (.ref l) vs H2 Q) : tBM K T f (tVar n) tr σ H Q := ⟨_, h, ht, q⟩
theorem ty_lst {l : Addr} {xs : List V} (h : H l = some (.lst xs)) : tyV K "list" (.ref l) H := .inl ⟨rfl, _, SqL.of h⟩
theorem r_setL {l : Addr} {xs : List V} {k : Nat} {R : Hp → Prop} (o : Own H0 H L) (n : Nat) (h : L[n]? = some (l, .lst xs)) (hj : ixN xs.length i = some k) (q : ∀ H', Own H0 H' (L.set n (l, .lst (xs.set k v))) → R H') : rSetL (.ref l) (.int i) v H R :=
  ⟨l, xs, i, k, rfl, rfl, o.at n h, hj, q _ (o.set n h)⟩
end

/-! ### isinstance, sums, == of lists -/
section
variable {σ : L2.St} {H H0 : Hp} {Q : VK} {v x y : V} {i j : Int} {K : PySem.W.Frag} {L : List (Addr × HO)}
theorem r_isi {T S : String} {b : Bool} (ht : TyX K H x (.type T)) (hk : kitB T S = some b) (q : Q (.bl b) H) : rIsi K [x, .ty S] H Q := ⟨x, .ty S, .type T, .type S, b, rfl, .ty S, ht, kit_ty hk, q⟩
theorem ty_int {i : Int} : TyX K H (.int i) (.type "int") := .base (.int i)
theorem ty_str {z : Str} : TyX K H (.str z) (.type "str") := .base (.str z)
theorem ty_non : TyX K H .non (.type "NoneType") := .base .non
theorem ty_list {l : Addr} {xs : List V} (h : H l = some (.lst xs)) : TyX K H (.ref l) (.type "list") := .base (.lst h)
theorem ty_tup {l : Addr} {xs : List V} (h : H l = some (.tup xs)) : TyX K H (.ref l) (.type "tuple") := .base (.tup h)
theorem r_sum {a : Addr} {ns : List Int} (h : SqL K H a (ns.map V.int)) (q : Q (.int ns.sum) H) : rSum K [.ref a] H Q := ⟨a, ns, rfl, h, q⟩
theorem dpAll_ints : ∀ ns : List Int, DpAll K H (ns.map V.int) (ns.map PyData.int)
  | [] => .nil
  | n :: ns => .cons (.int n) (dpAll_ints ns)
theorem dp_ints {a : Addr} {ns : List Int} (h : SqL K H a (ns.map V.int)) : Dp K H (.ref a) (.list (ns.map PyData.int)) := .lst h (dpAll_ints ns)
theorem dp_intsT {a : Addr} {ns : List Int} (h : SqT K H a (ns.map V.int)) : Dp K H (.ref a) (.tuple (ns.map PyData.int)) := .tup h (dpAll_ints ns)
end
/-! ### items -/
/-- the i-th of a list of ints -/
def gi (ns : List Int) (i : Int) : Int := ns.getD i.toNat 0
theorem at_map {α : Type} {f : α → V} {ns : List α} {i : Int} {x : α} (h0 : 0 ≤ i) (h : ns[i.toNat]? = some x) : atI (ns.map f) i = some (f x) := by
  obtain ⟨n, rfl⟩ := Int.eq_ofNat_of_zero_le h0
  refine atI_nat ?_
  have e : (Int.toNat (n : Int)) = n := rfl
  rw [e] at h
  rw [List.getElem?_map, h]
  rfl
theorem at_ints {ns : List Int} {i : Int} (h0 : 0 ≤ i) (h1 : i < ns.length) : atI (ns.map V.int) i = some (.int (gi ns i)) := by
  refine at_map h0 ?_
  unfold gi
  have : i.toNat < ns.length := by omega
  rw [List.getD_eq_getElem?_getD, List.getElem?_eq_getElem this]
  rfl
theorem gi_mem {ns : List Int} {i : Int} (h0 : 0 ≤ i) (h1 : i < ns.length) : gi ns i ∈ ns := by
  unfold gi
  have h2 : i.toNat < ns.length := by omega
  rw [List.getD_eq_getElem?_getD, List.getElem?_eq_getElem h2]
  exact List.getElem_mem h2

/-! ### equal lists of ints -/
theorem canLay_ints : ∀ ns : List Int, PyData.canLayAll0 (ns.map PyData.int) = true
  | [] => rfl
  | n :: ns => by
    show (PyData.canLay0 (.int n) && PyData.canLayAll0 (ns.map PyData.int)) = true
    rw [canLay_ints ns]
    rfl
theorem depth_ints : ∀ ns : List Int, PyData.depthAll (ns.map PyData.int) ≤ 1
  | [] => by decide
  | n :: ns => by
    have h := depth_ints ns
    show max (PyData.depth (.int n)) (PyData.depthAll (ns.map PyData.int)) ≤ 1
    exact Nat.max_le.mpr ⟨Nat.zero_le 1, h⟩
theorem shaped_ints (ns : List Int) : SeqAt.shaped (.list (ns.map PyData.int)) = true := by
  unfold SeqAt.shaped
  rw [Bool.and_eq_true]
  refine ⟨canLay_ints ns, decide_eq_true ?_⟩
  have h := depth_ints ns
  show PyData.depthAll (ns.map PyData.int) + 1 ≤ 64
  omega
theorem shaped_intsT (ns : List Int) : SeqAt.shaped (.tuple (ns.map PyData.int)) = true := by
  unfold SeqAt.shaped
  rw [Bool.and_eq_true]
  refine ⟨canLay_ints ns, decide_eq_true ?_⟩
  have h := depth_ints ns
  show PyData.depthAll (ns.map PyData.int) + 1 ≤ 64
  omega
theorem eqvAll_ints : ∀ ns ms : List Int, PyData.eqvAll (ns.map PyData.int) (ms.map PyData.int) = decide (ns = ms)
  | [], [] => by simp [PyData.eqvAll]
  | [], _ :: _ => by simp [PyData.eqvAll]
  | _ :: _, [] => by simp [PyData.eqvAll]
  | n :: ns, m :: ms => by
    show (PyData.eqv (.int n) (.int m) && PyData.eqvAll (ns.map PyData.int) (ms.map PyData.int)) = _
    rw [eqvAll_ints ns ms]
    simp [PyData.eqv, Bool.beq_eq_decide_eq]
section
variable {H : Hp} {Q : VK} {K : PySem.W.Frag} {a b : Addr} {ns ms : List Int}
theorem r_eqLL (h : SqL K H a (ns.map V.int)) (h2 : SqL K H b (ms.map V.int)) (q : Q (.bl (decide (ns = ms))) H) : rEqD K (.ref a) (.ref b) H Q :=
  ⟨_, _, dp_ints h, dp_ints h2, shaped_ints ns, shaped_ints ms, by
    have e : PyData.eqv (.list (ns.map PyData.int)) (.list (ms.map PyData.int)) = decide (ns = ms) := by rw [PyData.eqv]; exact eqvAll_ints ns ms
    rw [e]; exact q⟩
theorem r_neLL (h : SqL K H a (ns.map V.int)) (h2 : SqL K H b (ms.map V.int)) (q : Q (.bl (!decide (ns = ms))) H) : rNeD K (.ref a) (.ref b) H Q :=
  ⟨_, _, dp_ints h, dp_ints h2, shaped_ints ns, shaped_ints ms, by
    have e : PyData.eqv (.list (ns.map PyData.int)) (.list (ms.map PyData.int)) = decide (ns = ms) := by rw [PyData.eqv]; exact eqvAll_ints ns ms
    rw [e]; exact q⟩
theorem r_eqTT (h : SqT K H a (ns.map V.int)) (h2 : SqT K H b (ms.map V.int)) (q : Q (.bl (decide (ns = ms))) H) : rEqD K (.ref a) (.ref b) H Q :=
  ⟨_, _, dp_intsT h, dp_intsT h2, shaped_intsT ns, shaped_intsT ms, by
    have e : PyData.eqv (.tuple (ns.map PyData.int)) (.tuple (ms.map PyData.int)) = decide (ns = ms) := by rw [PyData.eqv]; exact eqvAll_ints ns ms
    rw [e]; exact q⟩
theorem r_eqSame (h : SqL K H a (ns.map V.int)) (h2 : SqL K H b (ns.map V.int)) (q : Q (.bl true) H) : rEqD K (.ref a) (.ref b) H Q := r_eqLL h h2 (by rw [decide_eq_true rfl]; exact q)
theorem r_neSame (h : SqL K H a (ns.map V.int)) (h2 : SqL K H b (ns.map V.int)) (q : Q (.bl false) H) : rNeD K (.ref a) (.ref b) H Q := r_neLL h h2 (by rw [decide_eq_true rfl]; exact q)
theorem r_ixI {i : Int} {p : Addr} (h : SqL K H p (ns.map V.int)) (h0 : 0 ≤ i) (h1 : i < ns.length) (q : Q (.int (gi ns i)) H) : rIxL K (.ref p) (.int i) H Q := r_ixL h (at_ints h0 h1) q
theorem r_ixqL {i : Int} {p : Addr} (h : SqL K H p (ns.map V.int)) (h0 : 0 ≤ i) (h1 : i < ns.length) (q : Q (.int (gi ns i)) H) : rIx K (.ref p) (.int i) H Q := .inl (r_ixL h (at_ints h0 h1) q)
theorem r_ixqT {i : Int} {p : Addr} (h : SqT K H p (ns.map V.int)) (h0 : 0 ≤ i) (h1 : i < ns.length) (q : Q (.int (gi ns i)) H) : rIx K (.ref p) (.int i) H Q := .inr (.inl (r_ixT h (at_ints h0 h1) q))
theorem r_ixIT {i : Int} {p : Addr} (h : SqT K H p (ns.map V.int)) (h0 : 0 ≤ i) (h1 : i < ns.length) (q : Q (.int (gi ns i)) H) : rIxT K (.ref p) (.int i) H Q := r_ixT h (at_ints h0 h1) q
/-- a written list (or one of unknown form) at a place in it -/
theorem r_ixM {i : Int} {p : Addr} {vs : List V} (h : SqL K H p vs) (h0 : 0 ≤ i) (h1 : i < vs.length) (q : ∀ v, v ∈ vs → atI vs i = some v → Q v H) : rIxL K (.ref p) (.int i) H Q := by
  obtain ⟨n, rfl⟩ := Int.eq_ofNat_of_zero_le h0
  have hn : n < vs.length := by omega
  have e : atI vs (n : Int) = some vs[n] := atI_nat (List.getElem?_eq_getElem hn)
  exact r_ixL h e (q _ (List.getElem_mem hn) e)
theorem r_ret1 {H0 : Hp} {L : List (Addr × HO)} {u : HO} (o : Own H0 H L) (k : ∀ p H', Own H0 H' ((p, u) :: L) → Q (.ref p) H') : RetO H Q u := fun H' p e f h => k p H' (o.add e f h)
theorem r_retvs {H0 : Hp} {L : List (Addr × HO)} {v : V} (o : Own H0 H L) (k : ∀ H', Same H H' → Own H0 H' L → Q v H') : RetV H Q v := fun H' e => k H' e (o.mono e)
theorem r_retv {H0 : Hp} {L : List (Addr × HO)} {v : V} (o : Own H0 H L) (k : ∀ H', Own H0 H' L → Q v H') : RetV H Q v := fun H' e => k H' (o.mono e)
end

/-! ### named relations -/
def rTupS (K : PySem.W.Frag) : List V → Hp → VK → Prop := fun xs H Q => ∃ p ys, xs = [.ref p] ∧ ((SqL K H p ys ∧ ∀ l, H l = none → Q (.ref l) (upd H l (.tup ys))) ∨ (SqT K H p ys ∧ Q (.ref p) H))
def rInt1 : List V → Hp → VK → Prop := fun xs H Q => (∃ i, xs = [.int i] ∧ Q (.int i) H) ∨ ∃ k, xs = [.bl k] ∧ Q (.int (if k then 1 else 0)) H
section
variable {H H0 : Hp} {Q : VK} {K : PySem.W.Frag} {L : List (Addr × HO)} {p : Addr} {xs : List V}
theorem r_len (h : SqL K H p xs) (q : Q (.int xs.length) H) : Evl.rLenS K [.ref p] H Q := ⟨p, xs, rfl, .inl h, q⟩
theorem r_lenT (h : SqT K H p xs) (q : Q (.int xs.length) H) : Evl.rLenS K [.ref p] H Q := ⟨p, xs, rfl, .inr h, q⟩
theorem r_list (o : Own H0 H L) (h : SqL K H p xs) (k : ∀ l H', Own H0 H' ((l, .lst xs) :: L) → Q (.ref l) H') : Evl.rListS K [.ref p] H Q := ⟨p, xs, rfl, .inl h, fun l hl => k l _ (o.new hl)⟩
theorem r_listT (o : Own H0 H L) (h : SqT K H p xs) (k : ∀ l H', Own H0 H' ((l, .lst xs) :: L) → Q (.ref l) H') : Evl.rListS K [.ref p] H Q := ⟨p, xs, rfl, .inr h, fun l hl => k l _ (o.new hl)⟩
theorem r_tupL (o : Own H0 H L) (h : SqL K H p xs) (k : ∀ l H', Own H0 H' ((l, .tup xs) :: L) → Q (.ref l) H') : rTupS K [.ref p] H Q := ⟨p, xs, rfl, .inl ⟨h, fun l hl => k l _ (o.new hl)⟩⟩
theorem r_int {i : Int} (q : Q (.int i) H) : rInt1 [.int i] H Q := .inl ⟨i, rfl, q⟩
theorem r_intB {b : Bool} (q : Q (.int (if b then 1 else 0)) H) : rInt1 [.bl b] H Q := .inr ⟨b, rfl, q⟩
end

/-! ### slices -/
theorem cut_hi (xs : List V) (n : Nat) : cutV xs none (some (n : Int)) = xs.take n := by
  unfold cutV
  rw [HT.sIx_none, HT.sIx_nat, List.drop_zero, Nat.sub_zero]
  rcases Nat.le_total n xs.length with h | h
  · rw [Nat.min_eq_left h]
  · rw [Nat.min_eq_right h, List.take_of_length_le (Nat.le_refl _), List.take_of_length_le h]
theorem cut_lo (xs : List V) (n : Nat) : cutV xs (some (n : Int)) none = xs.drop n := by
  unfold cutV
  rw [HT.sIx_none, HT.sIx_nat]
  rcases Nat.le_total n xs.length with h | h
  · rw [Nat.min_eq_left h]
    exact List.take_of_length_le (by rw [List.length_drop]; omega)
  · rw [Nat.min_eq_right h, List.drop_of_length_le h, List.drop_of_length_le (Nat.le_refl _)]
    simp
theorem cut_both (xs : List V) (a b : Nat) : cutV xs (some (a : Int)) (some (b : Int)) = (xs.drop a).take (b - a) := by
  unfold cutV
  rw [HT.sIx_nat, HT.sIx_nat]
  rcases Nat.le_total a xs.length with h | h
  · rw [Nat.min_eq_left h]
    rcases Nat.le_total b xs.length with h2 | h2
    · rw [Nat.min_eq_left h2]
    · rw [Nat.min_eq_right h2, List.take_of_length_le (by rw [List.length_drop]; omega), List.take_of_length_le (by rw [List.length_drop]; omega)]
  · rw [Nat.min_eq_right h, List.drop_of_length_le h, List.drop_of_length_le (Nat.le_refl _)]
    simp
theorem cut_all (xs : List V) : cutV xs none none = xs := by
  unfold cutV
  rw [HT.sIx_none, HT.sIx_none]
  simp

/-! ### loops -/
def RFor (J : It) (g : TG) (tb : TS) (D : Ends) (σ : L2.St) (H : Hp) : Prop := ∃ W : Nat → Nat → L2.St → Hp → Prop, (∃ m, W 0 m σ H) ∧ ∀ i m σ H, W i m σ H →
    (J.stop i H ∧ D.nx σ H) ∨ (J.go i H ∧ ∃ N : L2.St → Hp → Prop, (∀ σ' H', N σ' H' → ∃ m', m' < m ∧ W (i + 1) m' σ' H') ∧ ∀ x H', J.yld i H x H' → g x σ H' fun σ2 H2 => tb { D with nx := N, ct := N, bk := D.nx } σ2 H2)
section
variable {σ : L2.St} {H H0 : Hp} {Q : VK} {v x y : V} {ta tb te tl : TE} {t u : TT} {i j : Int} {D : Ends} {ts tz : TS} {g : TG} {K : PySem.W.Frag} {L : List (Addr × HO)} {tr : TA} {wi : TI}
theorem r_for (q : wi σ H fun J H1 => RFor J g ts D σ H1) : tFor wi g ts D σ H := q
theorem r_rng1 {R : It → Hp → Prop} (q : tr σ H fun vs H1 => ∃ j : Int, vs = [.int j] ∧ -(2 ^ 62) ≤ j ∧ j < 2 ^ 62 ∧ R (Itr 0 j.toNat) H1) : iRng1 tr σ H R := q
theorem r_rng2 {R : It → Hp → Prop} (q : tr σ H fun vs H1 => ∃ i j : Int, vs = [.int i, .int j] ∧ (-(2 ^ 62) ≤ i ∧ i < 2 ^ 62 ∧ -(2 ^ 62) ≤ j ∧ j < 2 ^ 62) ∧ R (Itr i (j - i).toNat) H1) : iRng2 tr σ H R := q
theorem r_rng3 {R : It → Hp → Prop} (q : tr σ H fun vs H1 => ∃ (i j c : Int) (n : Nat), vs = [.int i, .int j, .int c] ∧ RgC i j c n ∧ R (Itc i c n) H1) : iRng3 tr σ H R := q
theorem r_iL {R : It → Hp → Prop} (q : tl σ H fun x H1 => ∃ a, x = .ref a ∧ (∃ xs, SqL K H1 a xs) ∧ R (Itl K a) H1) : iList K tl σ H R := q
theorem r_iT {R : It → Hp → Prop} (q : tl σ H fun x H1 => ∃ a, x = .ref a ∧ (∃ xs, SqT K H1 a xs) ∧ R (Itt K a) H1) : iTup K tl σ H R := q
/-- for k in range(j): behind the argument's reading -/
theorem forR1 {n : Nat} {s : Nat} (hn : j = (n : Int)) (hb : j < 2 ^ 62) (Pv : Nat → L2.St → Hp → Prop) (h0 : Pv 0 σ H)
    (hs : ∀ i σ H, i < n → Pv i σ H → ts { D with nx := Pv (i + 1), ct := Pv (i + 1), bk := D.nx } (σ.set s (some (.int (i : Int)))) H) (hd : ∀ σ H, Pv n σ H → D.nx σ H) :
    ∃ k : Int, [V.int j] = [.int k] ∧ -(2 ^ 62) ≤ k ∧ k < 2 ^ 62 ∧ RFor (Itr 0 k.toNat) (gName s) ts D σ H := by
  refine ⟨j, rfl, by omega, hb, ?_⟩
  have e : j.toNat = n := by omega
  rw [e]
  refine for_range (lo := 0) (n := n) Pv h0 (fun i σ H hi p => ?_) hd
  have e0 : (0 : Int) + (i : Int) = (i : Int) := Int.zero_add _
  show gName s (.int ((0 : Int) + (i : Int))) σ H _
  rw [e0]
  exact hs i σ H hi p
/-- for k in range(i, j) -/
theorem forR2 {n s : Nat} (hn : (j - i).toNat = n) (hb : -(2 ^ 62) ≤ i ∧ i < 2 ^ 62 ∧ -(2 ^ 62) ≤ j ∧ j < 2 ^ 62) (Pv : Nat → L2.St → Hp → Prop) (h0 : Pv 0 σ H)
    (hs : ∀ k σ H, k < n → Pv k σ H → ts { D with nx := Pv (k + 1), ct := Pv (k + 1), bk := D.nx } (σ.set s (some (.int (i + (k : Int))))) H) (hd : ∀ σ H, Pv n σ H → D.nx σ H) :
    ∃ i' j' : Int, [V.int i, V.int j] = [.int i', .int j'] ∧ (-(2 ^ 62) ≤ i' ∧ i' < 2 ^ 62 ∧ -(2 ^ 62) ≤ j' ∧ j' < 2 ^ 62) ∧ RFor (Itr i' (j' - i').toNat) (gName s) ts D σ H := by
  refine ⟨i, j, rfl, hb, ?_⟩
  rw [hn]
  exact for_range (lo := i) (n := n) Pv h0 (fun k σ H hi p => hs k σ H hi p) hd
theorem forR3 {c : Int} {n s : Nat} (hc : RgC i j c n) (Pv : Nat → L2.St → Hp → Prop) (h0 : Pv 0 σ H)
    (hs : ∀ k σ H, k < n → Pv k σ H → ts { D with nx := Pv (k + 1), ct := Pv (k + 1), bk := D.nx } (σ.set s (some (.int (i + (k : Nat) * c)))) H) (hd : ∀ σ H, Pv n σ H → D.nx σ H) :
    ∃ (i' j' c' : Int) (n' : Nat), [V.int i, V.int j, V.int c] = [.int i', .int j', .int c'] ∧ RgC i' j' c' n' ∧ RFor (Itc i' c' n') (gName s) ts D σ H :=
  ⟨i, j, c, n, rfl, hc, for_rangeC (lo := i) (c := c) (n := n) Pv h0 (fun k σ H hi p => hs k σ H hi p) hd⟩
/-- for x in l: behind the reading of l -/
theorem forL {a : Addr} {xs : List V} (h : SqL K H a xs) (Pv : Nat → L2.St → Hp → Prop) (h0 : Pv 0 σ H) (hl : ∀ i σ H, i ≤ xs.length → Pv i σ H → SqL K H a xs)
    (hs : ∀ i x σ H, xs[i]? = some x → Pv i σ H → g x σ H fun σ2 H2 => ts { D with nx := Pv (i + 1), ct := Pv (i + 1), bk := D.nx } σ2 H2) (hd : ∀ σ H, Pv xs.length σ H → D.nx σ H) :
    ∃ a', V.ref a = .ref a' ∧ (∃ xs, SqL K H a' xs) ∧ RFor (Itl K a') g ts D σ H := ⟨a, rfl, ⟨xs, h⟩, for_list (K := K) (a := a) (xs := xs) Pv h0 hl hs hd⟩
theorem forT {a : Addr} {xs : List V} (h : SqT K H a xs) (Pv : Nat → L2.St → Hp → Prop) (h0 : Pv 0 σ H) (hl : ∀ i σ H, i ≤ xs.length → Pv i σ H → SqT K H a xs)
    (hs : ∀ i x σ H, xs[i]? = some x → Pv i σ H → g x σ H fun σ2 H2 => ts { D with nx := Pv (i + 1), ct := Pv (i + 1), bk := D.nx } σ2 H2) (hd : ∀ σ H, Pv xs.length σ H → D.nx σ H) :
    ∃ a', V.ref a = .ref a' ∧ (∃ xs, SqT K H a' xs) ∧ RFor (Itt K a') g ts D σ H := ⟨a, rfl, ⟨xs, h⟩, for_tup (K := K) (a := a) (xs := xs) Pv h0 hl hs hd⟩
/-- while -/
def RWh (c : TT) (tb : TS) (D : Ends) (σ : L2.St) (H : Hp) : Prop := tWhile c tb D σ H
theorem whileB {c : TT} (Pv : Nat → L2.St → Hp → Prop) (m : Nat) (h0 : Pv m σ H)
    (hs : ∀ m σ H, Pv m σ H → c σ H fun b H1 => RIf b (∃ N : L2.St → Hp → Prop, (∀ σ' H', N σ' H' → ∃ m', m' < m ∧ Pv m' σ' H') ∧ ts { D with nx := N, ct := N, bk := D.nx } σ H1) (D.nx σ H1)) : tWhile c ts D σ H :=
  ⟨Pv, ⟨m, h0⟩, hs⟩
/-- the body's end in such a loop: a smaller number and the word again -/
theorem wh_turn {Pv : Nat → L2.St → Hp → Prop} {m : Nat} (h : ts { D with nx := fun σ' H' => ∃ m', m' < m ∧ Pv m' σ' H', ct := fun σ' H' => ∃ m', m' < m ∧ Pv m' σ' H', bk := D.nx } σ H) :
    ∃ N : L2.St → Hp → Prop, (∀ σ' H', N σ' H' → ∃ m', m' < m ∧ Pv m' σ' H') ∧ ts { D with nx := N, ct := N, bk := D.nx } σ H := ⟨_, fun _ _ h => h, h⟩

/-! ### comprehensions -/
def RLc (J : It) (g : TG) (tt : TT) (te : TE) (vs : List Nat) (σ : L2.St) (H1 : Hp) (Q : VK) : Prop := ∀ D, H1 D = none → ∃ W : Nat → Nat → Hp → Prop, (∃ m, W 0 m (upd H1 D (.lst []))) ∧ ∀ i m H, W i m H →
  (J.stop i H ∧ Q (.ref D) H) ∨ (J.go i H ∧ ∃ Nx : Hp → Prop, (∀ H', Nx H' → ∃ m', m' < m ∧ W (i + 1) m' H') ∧ ∀ x H', J.yld i H x H' → g x (wipe σ vs) H' fun σ2 H2 => wipe σ2 vs = wipe σ vs ∧ tt σ2 H2 fun b H3 =>
    if b = true then te σ2 H3 fun y H4 => ∃ acc, H4 D = some (.lst acc) ∧ acc.length < sizeLine ∧ Nx (upd H4 D (.lst (acc ++ [y]))) else Nx H3)
theorem r_lc {tt : TT} {vs : List Nat} (q : wi σ H fun J H1 => RLc J g tt te vs σ H1 Q) : tLc wi g tt te vs σ H Q := q
/-- what a turn of a comprehension without an if is to reach -/
theorem lc_turn {H' : Hp} {zs ys : List V} {P : Addr} {k : Nat} {y : V} {σ2 : L2.St} (o : Own H0 H' ((P, .lst (ys.take k)) :: L)) (hy : ys[k]? = some y) (hz : ys.length ≤ 10000000)
    (he : ∀ Q : VK, RetV H' Q y → te σ2 H' Q) :
    tYes σ2 H' fun b H3 => if b = true then te σ2 H3 fun y H4 => ∃ acc, H4 P = some (.lst acc) ∧ acc.length < sizeLine ∧ Own H0 (upd H4 P (.lst (acc ++ [y]))) ((P, .lst (ys.take (k + 1))) :: L) else Own H0 H3 ((P, .lst (ys.take (k + 1))) :: L) := by
  refine iteT (B := Own H0 H' ((P, .lst (ys.take (k + 1))) :: L)) (he _ fun H4 s4 => ?_)
  have o4 := o.mono s4
  have hk := (List.getElem?_eq_some_iff.mp hy).1
  refine ⟨ys.take k, o4.at 0 rfl, sz_lt (by rw [List.length_take]; omega), ?_⟩
  have o5 := o4.set (v := .lst (ys.take k ++ [y])) 0 rfl
  have e : ys.take (k + 1) = ys.take k ++ [y] := by rw [List.take_add_one, hy]; rfl
  rw [e]
  exact o5
/-- [e for x in range(n)], e no new object -/
theorem lcR1 {n s : Nat} {vs : List Nat} (ys : List V) (hy : ys.length = n) (o : Own H0 H L) (hn : j = (n : Int)) (hz : n ≤ 10000000) (hw : ∀ x, wipe ((wipe σ vs).set s (some x)) vs = wipe σ vs)
    (he : ∀ (i : Nat) (y : V) (p : Addr) (zs : List V) (H' : Hp) (Q : VK), i < n → ys[i]? = some y → Own H0 H' ((p, .lst zs) :: L) → RetV H' Q y → te ((wipe σ vs).set s (some (.int (i : Int)))) H' Q)
    (k : ∀ p H', Own H0 H' ((p, .lst ys) :: L) → Q (.ref p) H') :
    ∃ k : Int, [V.int j] = [.int k] ∧ -(2 ^ 62) ≤ k ∧ k < 2 ^ 62 ∧ RLc (Itr 0 k.toNat) (gName s) tYes te vs σ H Q := by
  refine ⟨j, rfl, by omega, by omega, fun P hP => ?_⟩
  have e : j.toNat = n := by omega
  rw [e]
  refine lc_range (lo := 0) (n := n) (fun i H' => Own H0 H' ((P, .lst (ys.take i)) :: L)) (o.new hP) (fun i H' hi p => ?_) (fun H' p => k P H' (by rw [List.take_of_length_le (by omega)] at p; exact p))
  have e0 : (0 : Int) + (i : Int) = (i : Int) := Int.zero_add _
  rw [e0]
  have hlt : i < ys.length := by omega
  refine ⟨hw _, ?_⟩
  exact lc_turn (zs := []) p (List.getElem?_eq_getElem hlt) (by omega) fun Q q => he i _ P _ H' Q hi (List.getElem?_eq_getElem hlt) p q
/-- [e for x in xs], e no new object -/
theorem lcL {a : Addr} {xs : List V} {s : Nat} {vs : List Nat} (ys : List V) (hy : ys.length = xs.length) (o : Own H0 H L) (h : ∀ H' p zs, Own H0 H' ((p, .lst zs) :: L) → SqL K H' a xs) (h1 : SqL K H a xs) (hz : xs.length ≤ 10000000) (hw : ∀ x, wipe ((wipe σ vs).set s (some x)) vs = wipe σ vs)
    (he : ∀ (i : Nat) (x y : V) (p : Addr) (zs : List V) (H' : Hp) (Q : VK), xs[i]? = some x → ys[i]? = some y → Own H0 H' ((p, .lst zs) :: L) → RetV H' Q y → te ((wipe σ vs).set s (some x)) H' Q)
    (k : ∀ p H', Own H0 H' ((p, .lst ys) :: L) → Q (.ref p) H') :
    ∃ a', V.ref a = .ref a' ∧ (∃ xs, SqL K H a' xs) ∧ RLc (Itl K a') (gName s) tYes te vs σ H Q := by
  refine ⟨a, rfl, ⟨xs, h1⟩, fun P hP => ?_⟩
  refine lc_list (K := K) (a := a) (xs := xs) (fun i H' => Own H0 H' ((P, .lst (ys.take i)) :: L)) (o.new hP) (fun i H' _ p => h H' _ _ p) (fun i x H' hi p => ?_) (fun H' p => k P H' (by rw [List.take_of_length_le (by omega)] at p; exact p))
  have hlt : i < ys.length := by have := (List.getElem?_eq_some_iff.mp hi).1; omega
  refine ⟨hw _, ?_⟩
  exact lc_turn (zs := []) p (List.getElem?_eq_getElem hlt) (by omega) fun Q q => he i x _ P _ H' Q hi (List.getElem?_eq_getElem hlt) p q
end
/-! ### comprehensions of ints -/
def mapR (n : Nat) (f : Nat → Int) : List Int := (List.range n).map f
theorem mapR_len (n : Nat) (f : Nat → Int) : (mapR n f).length = n := by unfold mapR; rw [List.length_map, List.length_range]
theorem mapR_mem {n : Nat} {f : Nat → Int} {x : Int} (h : x ∈ mapR n f) : ∃ k, k < n ∧ x = f k := by
  obtain ⟨k, hk, e⟩ := List.mem_map.mp h
  exact ⟨k, List.mem_range.mp hk, e.symm⟩
theorem mapR_get {n k : Nat} {f : Nat → Int} (h : k < n) : (mapR n f)[k]? = some (f k) := by
  unfold mapR
  rw [List.getElem?_map, List.getElem?_range h]
  rfl
theorem mapR_ext {n : Nat} {f g : Nat → Int} (h : ∀ k, k < n → f k = g k) : mapR n f = mapR n g := by
  unfold mapR
  exact List.map_congr_left fun k hk => h k (List.mem_range.mp hk)
theorem RetV.here {H : Hp} {Q : VK} {v : V} (q : RetV H Q v) : Q v H := q H (Same.refl H)
section
variable {σ : L2.St} {H H0 : Hp} {Q : VK} {te : TE} {j : Int} {K : PySem.W.Frag} {L : List (Addr × HO)}
theorem lcR1I {n s : Nat} {vs : List Nat} (f : Nat → Int) (o : Own H0 H L) (hn : j = (n : Int)) (hz : n ≤ 10000000) (hw : ∀ x, wipe ((wipe σ vs).set s (some x)) vs = wipe σ vs)
    (he : ∀ (i : Nat) (p : Addr) (zs : List V) (H' : Hp) (Q : VK), i < n → Own H0 H' ((p, .lst zs) :: L) → RetV H' Q (.int (f i)) → te ((wipe σ vs).set s (some (.int (i : Int)))) H' Q)
    (k : ∀ p H', Own H0 H' ((p, .lst ((mapR n f).map V.int)) :: L) → Q (.ref p) H') :
    ∃ k : Int, [V.int j] = [.int k] ∧ -(2 ^ 62) ≤ k ∧ k < 2 ^ 62 ∧ RLc (Itr 0 k.toNat) (gName s) tYes te vs σ H Q := by
  refine lcR1 ((mapR n f).map V.int) (by rw [List.length_map, mapR_len]) o hn hz hw (fun i y p zs H' Q hi hy o' q => ?_) k
  rw [List.getElem?_map, mapR_get hi] at hy
  cases hy
  exact he i p zs H' Q hi o' q
theorem lcLI {a : Addr} {ns : List Int} {s : Nat} {vs : List Nat} (f : Int → Int) (o : Own H0 H L) (h : ∀ H' p zs, Own H0 H' ((p, .lst zs) :: L) → SqL K H' a (ns.map V.int)) (h1 : SqL K H a (ns.map V.int)) (hz : ns.length ≤ 10000000) (hw : ∀ x, wipe ((wipe σ vs).set s (some x)) vs = wipe σ vs)
    (he : ∀ (i : Nat) (x : Int) (p : Addr) (zs : List V) (H' : Hp) (Q : VK), x ∈ ns → Own H0 H' ((p, .lst zs) :: L) → RetV H' Q (.int (f x)) → te ((wipe σ vs).set s (some (.int x))) H' Q)
    (k : ∀ p H', Own H0 H' ((p, .lst ((ns.map f).map V.int)) :: L) → Q (.ref p) H') :
    ∃ a', V.ref a = .ref a' ∧ (∃ xs, SqL K H a' xs) ∧ RLc (Itl K a') (gName s) tYes te vs σ H Q := by
  refine lcL ((ns.map f).map V.int) (by rw [List.length_map, List.length_map, List.length_map]) o h h1 (by rw [List.length_map]; exact hz) hw (fun i x y p zs H' Q hx hy o' q => ?_) k
  rw [List.getElem?_map] at hx
  rw [List.getElem?_map, List.getElem?_map] at hy
  cases e : ns[i]? with
  | none => rw [e] at hx; cases hx
  | some z =>
    rw [e] at hx hy
    cases hx
    cases hy
    exact he i z p zs H' Q (List.mem_of_getElem? e) o' q
end
section
variable {H0 H : Hp} {L : List (Addr × HO)} {x y z u v : Addr × HO}
theorem Own.pick1 (o : Own H0 H L) (i : Nat) (hi : L[i]? = some x) : Own H0 H [x] := ⟨o.ex, fun q hq => by rw [List.mem_singleton.mp hq]; exact o.fr _ (List.mem_of_getElem? hi), by simp⟩
theorem Own.cons_of (o : Own H0 H L) {L' : List (Addr × HO)} (o' : Own H0 H L') (hx : x ∈ L) (hn : ∀ q ∈ L', q.1 ≠ x.1) : Own H0 H (x :: L') :=
  ⟨o.ex, fun q hq => by
    rcases List.mem_cons.mp hq with rfl | hq
    · exact o.fr _ hx
    · exact o'.fr _ hq, by
    rw [List.map_cons, List.nodup_cons]
    refine ⟨fun hm => ?_, o'.nd⟩
    obtain ⟨q, hq, e⟩ := List.mem_map.mp hm
    exact hn q hq e⟩
theorem Own.nei (o : Own H0 H L) {i j : Nat} (hi : L[i]? = some x) (hj : L[j]? = some y) (h : i ≠ j) : x.1 ≠ y.1 := fun e => h (nodup_fst (l := x.1) (u := x.2) (v := y.2) o.nd hi (by rw [hj, e]))
theorem Own.pick2 (o : Own H0 H L) (i j : Nat) (hij : i ≠ j) (hi : L[i]? = some x) (hj : L[j]? = some y) : Own H0 H [x, y] :=
  o.cons_of (o.pick1 j hj) (List.mem_of_getElem? hi) fun q hq => by rw [List.mem_singleton.mp hq]; exact (o.nei hi hj hij).symm
theorem Own.pick3 (o : Own H0 H L) (i j k : Nat) (h : i ≠ j ∧ i ≠ k ∧ j ≠ k) (hi : L[i]? = some x) (hj : L[j]? = some y) (hk : L[k]? = some z) : Own H0 H [x, y, z] :=
  o.cons_of (o.pick2 j k h.2.2 hj hk) (List.mem_of_getElem? hi) fun q hq => by
    rcases List.mem_cons.mp hq with rfl | hq
    · exact (o.nei hi hj h.1).symm
    · rw [List.mem_singleton.mp hq]; exact (o.nei hi hk h.2.1).symm
theorem Own.pick4 (o : Own H0 H L) (i j k l : Nat) (h : i ≠ j ∧ i ≠ k ∧ i ≠ l ∧ j ≠ k ∧ j ≠ l ∧ k ≠ l) (hi : L[i]? = some x) (hj : L[j]? = some y) (hk : L[k]? = some z) (hl : L[l]? = some u) : Own H0 H [x, y, z, u] :=
  o.cons_of (o.pick3 j k l h.2.2.2 hj hk hl) (List.mem_of_getElem? hi) fun q hq => by
    rcases List.mem_cons.mp hq with rfl | hq
    · exact (o.nei hi hj h.1).symm
    · rcases List.mem_cons.mp hq with rfl | hq
      · exact (o.nei hi hk h.2.1).symm
      · rw [List.mem_singleton.mp hq]; exact (o.nei hi hl h.2.2.1).symm
end

/-! ### tuples stand -/
def Stp (H H' : Hp) : Prop := ∀ a xs, Rd H a (.tup xs) → Rd H' a (.tup xs)
theorem Stp.refl (H : Hp) : Stp H H := fun _ _ h => h
theorem Stp.trans {H H1 H2 : Hp} (a : Stp H H1) (b : Stp H1 H2) : Stp H H2 := fun x xs h => b x xs (a x xs h)
theorem Stp.of {H H' : Hp} (e : Same H H') : Stp H H' := fun a xs h => by
  rcases h with h | ⟨o, h⟩
  · exact .inl (e _ _ h)
  · exact .inr ⟨o, e _ _ h⟩
theorem Stp.set {H : Hp} {l : Addr} {xs : List V} {u : HO} (h : H l = some (.lst xs)) : Stp H (upd H l u) := fun a ys r => by
  have hne : a ≠ l := by
    rintro rfl
    rcases r with r | ⟨o, r⟩ <;> rw [h] at r <;> cases r
  rcases r with r | ⟨o, r⟩
  · exact .inl (by rw [upd_ne hne]; exact r)
  · exact .inr ⟨o, by rw [upd_ne hne]; exact r⟩
theorem Stp.sq {K : PySem.W.Frag} {H H' : Hp} {a : Addr} {xs : List V} (e : Stp H H') (h : SqT K H a xs) : SqT K H' a xs := by
  rcases h with h | h
  · exact .inl (e _ _ h)
  · exact .inr h
/-! ### comprehensions with a test -/
theorem lc_turnF {H0 H H' : Hp} {L : List (Addr × HO)} {te : TE} {tt : TT} {zs : List V} {P : Addr} {o1 : Option V} {σ2 : L2.St} (o : Own H0 H' ((P, .lst zs) :: L)) (s : Stp H H') (hz : zs.length < 10000000)
    (ht : ∀ Q : Bool → Hp → Prop, (∀ H2, Same H' H2 → Q o1.isSome H2) → tt σ2 H' Q) (he : ∀ y H2, o1 = some y → Same H' H2 → ∀ Q : VK, RetV H2 Q y → te σ2 H2 Q) :
    tt σ2 H' fun b H3 => if b = true then te σ2 H3 fun y H4 => ∃ acc, H4 P = some (.lst acc) ∧ acc.length < sizeLine ∧ (Own H0 (upd H4 P (.lst (acc ++ [y]))) ((P, .lst (zs ++ o1.toList)) :: L) ∧ Stp H (upd H4 P (.lst (acc ++ [y])))) else (Own H0 H3 ((P, .lst (zs ++ o1.toList)) :: L) ∧ Stp H H3) := by
  refine ht _ fun H2 s2 => ?_
  have o2 := o.mono s2
  cases e : o1 with
  | none =>
    show Own H0 H2 ((P, .lst (zs ++ [])) :: L) ∧ Stp H H2
    rw [List.append_nil]
    exact ⟨o2, s.trans (.of s2)⟩
  | some y =>
    refine iteT (B := Own H0 H2 ((P, .lst (zs ++ [y])) :: L) ∧ Stp H H2) (he y H2 e s2 _ fun H4 s4 => ?_)
    have o4 := o2.mono s4
    exact ⟨zs, o4.at 0 rfl, sz_lt hz, o4.set (v := .lst (zs ++ [y])) 0 rfl, (s.trans ((Stp.of s2).trans (.of s4))).trans (Stp.set (o4.at 0 rfl))⟩
theorem fm_take {α β : Type} {xs : List α} {sel : α → Option β} {i : Nat} {x : α} (h : xs[i]? = some x) : (xs.take (i + 1)).filterMap sel = (xs.take i).filterMap sel ++ (sel x).toList := by
  rw [List.take_add_one, h, List.filterMap_append]
  congr 1
theorem fm_le {α β : Type} (xs : List α) (sel : α → Option β) : (xs.filterMap sel).length ≤ xs.length := List.length_filterMap_le sel xs
section
variable {σ : L2.St} {H H0 : Hp} {Q : VK} {te : TE} {tt : TT} {j : Int} {K : PySem.W.Frag} {L : List (Addr × HO)}
/-- [e for x in xs if t], what it gives by the item alone -/
theorem lcGL {a : Addr} {xs : List V} {g : TG} {vs : List Nat} (sel : V → Option V) (o : Own H0 H L) (h : ∀ H' p zs, Own H0 H' ((p, .lst zs) :: L) → SqL K H' a xs) (h1 : SqL K H a xs) (hz : xs.length < 10000000)
    (he : ∀ (i : Nat) (x : V) (p : Addr) (zs : List V) (H' : Hp) (R : L2.St → Hp → Prop), xs[i]? = some x → Own H0 H' ((p, .lst zs) :: L) → Stp H H' →
      (∀ σ2, (∀ H2, Same H' H2 → wipe σ2 vs = wipe σ vs) → (∀ Q : Bool → Hp → Prop, (∀ H2, Same H' H2 → Q (sel x).isSome H2) → tt σ2 H' Q) → (∀ y H2, sel x = some y → Same H' H2 → ∀ Q : VK, RetV H2 Q y → te σ2 H2 Q) → R σ2 H') → g x (wipe σ vs) H' R)
    (k : ∀ p H', Stp H H' → Own H0 H' ((p, .lst (xs.filterMap sel)) :: L) → Q (.ref p) H') :
    ∃ a', V.ref a = .ref a' ∧ (∃ xs, SqL K H a' xs) ∧ RLc (Itl K a') g tt te vs σ H Q := by
  refine ⟨a, rfl, ⟨xs, h1⟩, fun P hP => ?_⟩
  refine lc_list (K := K) (a := a) (xs := xs) (fun i H' => Own H0 H' ((P, .lst ((xs.take i).filterMap sel)) :: L) ∧ Stp H H') ⟨o.new hP, .of (same_new hP)⟩ (fun i H' _ p => h H' _ _ p.1) (fun i x H' hi p => ?_) (fun H' p => k P H' p.2 (by have p := p.1; rw [List.take_of_length_le (Nat.le_refl _)] at p; exact p))
  refine he i x P _ H' _ hi p.1 p.2 fun σ2 hw ht hv => ⟨hw H' (Same.refl _), ?_⟩
  rw [fm_take hi]
  refine lc_turnF p.1 p.2 ?_ ht hv
  have h2 := fm_le (xs.take i) sel
  rw [List.length_take] at h2
  omega
theorem lcGT {a : Addr} {xs : List V} {g : TG} {vs : List Nat} (sel : V → Option V) (o : Own H0 H L) (h : ∀ H' p zs, Own H0 H' ((p, .lst zs) :: L) → SqT K H' a xs) (h1 : SqT K H a xs) (hz : xs.length < 10000000)
    (he : ∀ (i : Nat) (x : V) (p : Addr) (zs : List V) (H' : Hp) (R : L2.St → Hp → Prop), xs[i]? = some x → Own H0 H' ((p, .lst zs) :: L) → Stp H H' →
      (∀ σ2, (∀ H2, Same H' H2 → wipe σ2 vs = wipe σ vs) → (∀ Q : Bool → Hp → Prop, (∀ H2, Same H' H2 → Q (sel x).isSome H2) → tt σ2 H' Q) → (∀ y H2, sel x = some y → Same H' H2 → ∀ Q : VK, RetV H2 Q y → te σ2 H2 Q) → R σ2 H') → g x (wipe σ vs) H' R)
    (k : ∀ p H', Stp H H' → Own H0 H' ((p, .lst (xs.filterMap sel)) :: L) → Q (.ref p) H') :
    ∃ a', V.ref a = .ref a' ∧ (∃ xs, SqT K H a' xs) ∧ RLc (Itt K a') g tt te vs σ H Q := by
  refine ⟨a, rfl, ⟨xs, h1⟩, fun P hP => ?_⟩
  refine lc_tup (K := K) (a := a) (xs := xs) (fun i H' => Own H0 H' ((P, .lst ((xs.take i).filterMap sel)) :: L) ∧ Stp H H') ⟨o.new hP, .of (same_new hP)⟩ (fun i H' _ p => h H' _ _ p.1) (fun i x H' hi p => ?_) (fun H' p => k P H' p.2 (by have p := p.1; rw [List.take_of_length_le (Nat.le_refl _)] at p; exact p))
  refine he i x P _ H' _ hi p.1 p.2 fun σ2 hw ht hv => ⟨hw H' (Same.refl _), ?_⟩
  rw [fm_take hi]
  refine lc_turnF p.1 p.2 ?_ ht hv
  have h2 := fm_le (xs.take i) sel
  rw [List.length_take] at h2
  omega
/-- .. over range(n) -/
theorem lcGR {n s : Nat} {vs : List Nat} (sel : Nat → Option V) (o : Own H0 H L) (hn : j = (n : Int)) (hz : n < 10000000) (hw : ∀ x, wipe ((wipe σ vs).set s (some x)) vs = wipe σ vs)
    (ht : ∀ (i : Nat) (p : Addr) (zs : List V) (H' : Hp) (Q : Bool → Hp → Prop), i < n → Own H0 H' ((p, .lst zs) :: L) → Stp H H' → (∀ H2, Same H' H2 → Q (sel i).isSome H2) → tt ((wipe σ vs).set s (some (.int (i : Int)))) H' Q)
    (he : ∀ (i : Nat) (y : V) (p : Addr) (zs : List V) (H' : Hp) (Q : VK), i < n → sel i = some y → Own H0 H' ((p, .lst zs) :: L) → Stp H H' → RetV H' Q y → te ((wipe σ vs).set s (some (.int (i : Int)))) H' Q)
    (k : ∀ p H', Stp H H' → Own H0 H' ((p, .lst ((List.range n).filterMap sel)) :: L) → Q (.ref p) H') :
    ∃ k : Int, [V.int j] = [.int k] ∧ -(2 ^ 62) ≤ k ∧ k < 2 ^ 62 ∧ RLc (Itr 0 k.toNat) (gName s) tt te vs σ H Q := by
  refine ⟨j, rfl, by omega, by omega, fun P hP => ?_⟩
  have e : j.toNat = n := by omega
  rw [e]
  refine lc_range (lo := 0) (n := n) (fun i H' => Own H0 H' ((P, .lst ((List.range i).filterMap sel)) :: L) ∧ Stp H H') ⟨o.new hP, .of (same_new hP)⟩ (fun i H' hi p => ?_) (fun H' p => k P H' p.2 p.1)
  have e0 : (0 : Int) + (i : Int) = (i : Int) := Int.zero_add _
  rw [e0]
  refine ⟨hw _, ?_⟩
  have e1 : (List.range (i + 1)).filterMap sel = (List.range i).filterMap sel ++ (sel i).toList := by
    rw [List.range_succ, List.filterMap_append]
    congr 1
  rw [e1]
  refine lc_turnF p.1 p.2 ?_ (fun Q q => ht i P _ H' Q hi p.1 p.2 q) (fun y H2 hy s2 Q q => he i y P _ H2 Q hi hy (p.1.mono s2) (p.2.trans (.of s2)) q)
  have h2 := fm_le (List.range i) sel
  rw [List.length_range] at h2
  omega
end
/-- ints chosen and mapped -/
def selI (p : Int → Bool) (f : Int → V) : V → Option V
  | .int x => if p x then some (f x) else none
  | _ => none
theorem fm_ints (p : Int → Bool) (f : Int → V) : ∀ ns : List Int, (ns.map V.int).filterMap (selI p f) = (ns.filter p).map f
  | [] => rfl
  | n :: ns => by
    show List.filterMap (selI p f) (V.int n :: ns.map V.int) = _
    have e : selI p f (V.int n) = if p n then some (f n) else none := rfl
    rw [List.filterMap_cons, List.filter_cons, fm_ints p f ns, e]
    cases p n <;> rfl
section
variable {σ : L2.St} {H H0 : Hp} {Q : VK} {te : TE} {tt : TT} {K : PySem.W.Frag} {L : List (Addr × HO)}
theorem lcLIF {a : Addr} {ns : List Int} {s : Nat} {vs : List Nat} (p : Int → Bool) (f : Int → V) (o : Own H0 H L) (h : ∀ H' p zs, Own H0 H' ((p, .lst zs) :: L) → SqL K H' a (ns.map V.int)) (h1 : SqL K H a (ns.map V.int)) (hz : ns.length < 10000000) (hw : ∀ x, wipe ((wipe σ vs).set s (some x)) vs = wipe σ vs)
    (ht : ∀ (x : Int) (q : Addr) (zs : List V) (H' : Hp) (Q : Bool → Hp → Prop), x ∈ ns → Own H0 H' ((q, .lst zs) :: L) → (∀ H2, Same H' H2 → Q (p x) H2) → tt ((wipe σ vs).set s (some (.int x))) H' Q)
    (he : ∀ (x : Int) (q : Addr) (zs : List V) (H' : Hp) (Q : VK), x ∈ ns → p x = true → Own H0 H' ((q, .lst zs) :: L) → RetV H' Q (f x) → te ((wipe σ vs).set s (some (.int x))) H' Q)
    (k : ∀ q H', Own H0 H' ((q, .lst ((ns.filter p).map f)) :: L) → Q (.ref q) H') :
    ∃ a', V.ref a = .ref a' ∧ (∃ xs, SqL K H a' xs) ∧ RLc (Itl K a') (gName s) tt te vs σ H Q := by
  refine lcGL (selI p f) o h h1 (by rw [List.length_map]; exact hz) (fun i v q zs H' R hi o' _ r => ?_) (fun q H' _ o' => k q H' (by rw [fm_ints] at o'; exact o'))
  rw [List.getElem?_map] at hi
  cases e : ns[i]? with
  | none => rw [e] at hi; cases hi
  | some x =>
    rw [e] at hi
    cases hi
    have hx := List.mem_of_getElem? e
    refine r _ (fun _ _ => hw _) (fun Q qq => ht x q zs H' Q hx o' fun H2 s2 => ?_) fun y H2 hy s2 Q qq => ?_
    · have z := qq H2 s2
      have e2 : (selI p f (V.int x)).isSome = p x := by show (if p x then some (f x) else none).isSome = p x; cases p x <;> rfl
      rw [e2] at z
      exact z
    · have hy2 : (if p x then some (f x) else none) = some y := hy
      cases hp : p x with
      | false => rw [hp] at hy2; cases hy2
      | true =>
        rw [hp] at hy2
        cases hy2
        exact he x q zs H2 Q hx hp (o'.mono s2) qq
theorem lcTIF {a : Addr} {ns : List Int} {s : Nat} {vs : List Nat} (p : Int → Bool) (f : Int → V) (o : Own H0 H L) (h : ∀ H' p zs, Own H0 H' ((p, .lst zs) :: L) → SqT K H' a (ns.map V.int)) (h1 : SqT K H a (ns.map V.int)) (hz : ns.length < 10000000) (hw : ∀ x, wipe ((wipe σ vs).set s (some x)) vs = wipe σ vs)
    (ht : ∀ (x : Int) (q : Addr) (zs : List V) (H' : Hp) (Q : Bool → Hp → Prop), x ∈ ns → Own H0 H' ((q, .lst zs) :: L) → (∀ H2, Same H' H2 → Q (p x) H2) → tt ((wipe σ vs).set s (some (.int x))) H' Q)
    (he : ∀ (x : Int) (q : Addr) (zs : List V) (H' : Hp) (Q : VK), x ∈ ns → p x = true → Own H0 H' ((q, .lst zs) :: L) → RetV H' Q (f x) → te ((wipe σ vs).set s (some (.int x))) H' Q)
    (k : ∀ q H', Own H0 H' ((q, .lst ((ns.filter p).map f)) :: L) → Q (.ref q) H') :
    ∃ a', V.ref a = .ref a' ∧ (∃ xs, SqT K H a' xs) ∧ RLc (Itt K a') (gName s) tt te vs σ H Q := by
  refine lcGT (selI p f) o h h1 (by rw [List.length_map]; exact hz) (fun i v q zs H' R hi o' _ r => ?_) (fun q H' _ o' => k q H' (by rw [fm_ints] at o'; exact o'))
  rw [List.getElem?_map] at hi
  cases e : ns[i]? with
  | none => rw [e] at hi; cases hi
  | some x =>
    rw [e] at hi
    cases hi
    have hx := List.mem_of_getElem? e
    refine r _ (fun _ _ => hw _) (fun Q qq => ht x q zs H' Q hx o' fun H2 s2 => ?_) fun y H2 hy s2 Q qq => ?_
    · have z := qq H2 s2
      have e2 : (selI p f (V.int x)).isSome = p x := by show (if p x then some (f x) else none).isSome = p x; cases p x <;> rfl
      rw [e2] at z
      exact z
    · have hy2 : (if p x then some (f x) else none) = some y := hy
      cases hp : p x with
      | false => rw [hp] at hy2; cases hy2
      | true =>
        rw [hp] at hy2
        cases hy2
        exact he x q zs H2 Q hx hp (o'.mono s2) qq
/-- without a test -/
theorem lcTIV {a : Addr} {ns : List Int} {s : Nat} {vs : List Nat} (f : Int → V) (o : Own H0 H L) (h : ∀ H' p zs, Own H0 H' ((p, .lst zs) :: L) → SqT K H' a (ns.map V.int)) (h1 : SqT K H a (ns.map V.int)) (hz : ns.length < 10000000) (hw : ∀ x, wipe ((wipe σ vs).set s (some x)) vs = wipe σ vs)
    (he : ∀ (x : Int) (q : Addr) (zs : List V) (H' : Hp) (Q : VK), x ∈ ns → Own H0 H' ((q, .lst zs) :: L) → RetV H' Q (f x) → te ((wipe σ vs).set s (some (.int x))) H' Q)
    (k : ∀ q H', Own H0 H' ((q, .lst (ns.map f)) :: L) → Q (.ref q) H') :
    ∃ a', V.ref a = .ref a' ∧ (∃ xs, SqT K H a' xs) ∧ RLc (Itt K a') (gName s) tYes te vs σ H Q :=
  lcTIF (fun _ => true) f o h h1 hz hw (fun x q zs H' Q _ _ r => r H' (Same.refl _)) (fun x q zs H' Q hx _ o' r => he x q zs H' Q hx o' r) (fun q H' o' => k q H' (by rw [List.filter_eq_self.mpr (fun _ _ => rfl)] at o'; exact o'))
end

/-! ### constants reckoned, chains, all, any, bools -/
theorem pe_powC {X : Cx} {a b c : Int} {j1 j2 : Nat} {p1 p2 pos : Pos} (hc : CPow a b) (h : a ^ b.toNat = c) : PE X (.BinOp (.Constant (.int a) j1 p1) .Pow (.Constant (.int b) j2 p2) pos) (tC (.int c)) :=
  ⟨fun pins s σ H Q I h0 => (pe_op op_pow pe_int pe_int).run pins s σ H Q I (show rI CPow (fun i j => .int (i ^ j.toNat)) (.int a) (.int b) H Q from ⟨a, b, rfl, rfl, hc, by show Q (.int (a ^ b.toNat)) H; rw [h]; exact h0⟩)⟩
section
variable {σ : L2.St} {H : Hp} {Q : VK} {ta tb tc : TE} {K : PySem.W.Frag} {i j k : Int}
theorem r_chain {r r' : R2} (q : ta σ H fun x H1 => tb σ H1 fun y H2 => r x y H2 fun z H3 => RBl z H3 fun k H3 => RIf k (tc σ H3 fun w' H4 => r' y w' H4 Q) (Q (.bl false) H3)) : tChain r r' ta tb tc σ H Q := q
theorem r_all {a : Addr} {bs : List Bool} (h : SqL K H a (bs.map V.bl)) (q : Q (.bl (bs.all id)) H) : rAll K [.ref a] H Q := ⟨a, bs, rfl, h, q⟩
theorem r_any {a : Addr} {bs : List Bool} (h : SqL K H a (bs.map V.bl)) (q : Q (.bl (bs.any id)) H) : rAny K [.ref a] H Q := ⟨a, bs, rfl, h, q⟩
theorem r_isB {a b : Bool} (q : Q (.bl (decide (a = b))) H) : rIsB (.bl a) (.bl b) H Q := ⟨a, b, rfl, rfl, q⟩
end

/-! ### items from the end -/
theorem at_neg {ns : List Int} {d : Nat} (h0 : 0 < d) (h1 : d ≤ ns.length) : atI (ns.map V.int) (-(d : Int)) = some (.int (gi ns ((ns.length : Int) - (d : Int)))) := by
  unfold atI ixN
  rw [List.length_map, if_neg (by omega), if_pos (by omega)]
  show (ns.map V.int)[(-(d : Int) + (ns.length : Int)).toNat]? = _
  rw [show (-(d : Int) + (ns.length : Int)).toNat = ns.length - d by omega, List.getElem?_map, List.getElem?_eq_getElem (show ns.length - d < ns.length by omega)]
  unfold gi
  rw [show ((ns.length : Int) - (d : Int)).toNat = ns.length - d by omega, List.getD_eq_getElem?_getD, List.getElem?_eq_getElem (show ns.length - d < ns.length by omega)]
  rfl
theorem ix_neg {n d : Nat} (h0 : 0 < d) (h1 : d ≤ n) : ixN n (-(d : Int)) = some (n - d) := by
  unfold ixN
  rw [if_neg (by omega), if_pos (by omega)]
  congr 1
  omega
theorem fm_filter {α β : Type} (p : α → Bool) (f : α → β) : ∀ l : List α, l.filterMap (fun k => if p k then some (f k) else none) = (l.filter p).map f
  | [] => rfl
  | x :: l => by
    rw [List.filterMap_cons, List.filter_cons, fm_filter p f l]
    cases p x <;> rfl
/-! ### lists of ints cut and glued -/
theorem gi_nat {ns : List Int} {k : Nat} (h : k < ns.length) : gi ns (k : Int) = ns[k] := by
  unfold gi
  rw [List.getD_eq_getElem?_getD, show ((k : Int)).toNat = k from rfl, List.getElem?_eq_getElem h]
  rfl
theorem take_drop_sum {ns : List Int} {k : Nat} {z : Int} (h : k < ns.length) : (ns.take k ++ [z] ++ ns.drop (k + 1)).sum = ns.sum - gi ns k + z := by
  have e : ns.sum = (ns.take k ++ [ns[k]] ++ ns.drop (k + 1)).sum := by
    congr 1
    rw [List.append_assoc, List.singleton_append, List.getElem_cons_drop, List.take_append_drop]
  rw [e, gi_nat h]
  simp only [List.sum_append, List.sum_cons, List.sum_nil]
  omega
theorem map_cut3 {ns : List Int} {k : Nat} {z : Int} : ((ns.map V.int).take k ++ [V.int z]) ++ (ns.map V.int).drop (k + 1) = (ns.take k ++ [z] ++ ns.drop (k + 1)).map V.int := by
  rw [List.map_append, List.map_append, List.map_take, List.map_drop]
  rfl
theorem len_cut3 {ns : List Int} {k : Nat} {z : Int} (h : k < ns.length) : (ns.take k ++ [z] ++ ns.drop (k + 1)).length = ns.length := by
  rw [List.length_append, List.length_append, List.length_take, List.length_drop]
  simp
  omega

/-! ### a value or an answer known by a word only -/
def tCutE (t : TE) : TE := fun σ H Q => ∃ R : VK, t σ H R ∧ ∀ v H', R v H' → Q v H'
def tCutT (t : TT) : TT := fun σ H Q => ∃ R : Bool → Hp → Prop, t σ H R ∧ ∀ b H', R b H' → Q b H'
theorem pe_cutE {X : Cx} {e : Expr} {t : TE} (he : PE X e t) : PE X e (tCutE t) := ⟨fun pins s σ H Q I ⟨R, h, k⟩ => thn (he.run pins s σ H R I h) fun _ _ ⟨v, H', I', r, q⟩ => ⟨v, H', I', r, k v H' q⟩⟩
theorem pt_cutT {X : Cx} {e : Expr} {t : TT} (he : PT X e t) : PT X e (tCutT t) := ⟨fun pins s σ H Q I ⟨R, h, k⟩ => thn (he.run pins s σ H R I h) fun b _ ⟨H', I', q⟩ => ⟨H', I', k b H' q⟩⟩
theorem r_cutE {σ : L2.St} {H : Hp} {Q : VK} {t : TE} (R : VK) (h : t σ H R) (k : ∀ v H', R v H' → Q v H') : tCutE t σ H Q := ⟨R, h, k⟩
theorem r_cutT {σ : L2.St} {H : Hp} {Q : Bool → Hp → Prop} {t : TT} (R : Bool → Hp → Prop) (h : t σ H R) (k : ∀ b H', R b H' → Q b H') : tCutT t σ H Q := ⟨R, h, k⟩
/-- the value is an int of which P holds; the heap stands -/
def IntR (H : Hp) (P : Int → Prop) : VK := fun v H' => H' = H ∧ ∃ m, v = .int m ∧ P m
theorem r_cutI {σ : L2.St} {H : Hp} {Q : VK} {t : TE} (P : Int → Prop) (h : t σ H (IntR H P)) (k : ∀ m, P m → Q (.int m) H) : tCutE t σ H Q := ⟨_, h, fun v H' ⟨e, m, e2, p⟩ => by subst e; subst e2; exact k m p⟩
/-- the answer is that of p; the heap stands -/
theorem r_cutB {σ : L2.St} {H : Hp} {Q : Bool → Hp → Prop} {t : TT} (c : Bool) (h : t σ H fun b H' => b = c ∧ H' = H) (k : Q c H) : tCutT t σ H Q := ⟨_, h, fun v H' ⟨e, e2⟩ => by subst e; subst e2; exact k⟩
/-- the value is v; the heap may have grown -/
theorem r_cutO {H0 : Hp} {σ : L2.St} {H : Hp} {Q : VK} {t : TE} (v : V) (L : List (Addr × HO)) (h : t σ H fun v' H' => v' = v ∧ Own H0 H' L) (k : ∀ H', Own H0 H' L → Q v H') : tCutE t σ H Q := ⟨_, h, fun v' H' ⟨e, o⟩ => by subst e; exact k H' o⟩
theorem rif_p {p : Prop} [Decidable p] {A B : Prop} (h1 : p → A) (h2 : ¬ p → B) : RIf (decide p) A B := rif h1 h2

/-! ### data of tuples: it stands while lists change -/
mutual
inductive Tp (K : PySem.W.Frag) (H : Hp) : V → PyData → Prop
  | non : Tp K H .non .none
  | bl (b : Bool) : Tp K H (.bl b) (.bool b)
  | int (i : Int) : Tp K H (.int i) (.int i)
  | str (x : Str) : Tp K H (.str x) (.str x)
  | tup {a : Addr} {xs : List V} {ds : List PyData} : SqT K H a xs → TpAll K H xs ds → Tp K H (.ref a) (.tuple ds)
inductive TpAll (K : PySem.W.Frag) (H : Hp) : List V → List PyData → Prop
  | nil : TpAll K H [] []
  | cons {v : V} {vs : List V} {d : PyData} {ds : List PyData} : Tp K H v d → TpAll K H vs ds → TpAll K H (v :: vs) (d :: ds)
end
section
variable {K : PySem.W.Frag} {H H' H0 : Hp} {Q : VK} {L : List (Addr × HO)}
mutual
theorem Tp.stp (e : Stp H H') : ∀ (d : PyData) (v : V), Tp K H v d → Tp K H' v d
  | .none, _, h => by cases h; exact .non
  | .bool b, _, h => by cases h; exact .bl b
  | .int i, _, h => by cases h; exact .int i
  | .str x, _, h => by cases h; exact .str x
  | .tuple ds, _, h => by
    cases h with
    | tup hs ha => exact .tup (e.sq hs) (TpAll.stp e ds _ ha)
  | .list _, _, h => by cases h
  | .dict _, _, h => by cases h
theorem TpAll.stp (e : Stp H H') : ∀ (ds : List PyData) (vs : List V), TpAll K H vs ds → TpAll K H' vs ds
  | [], _, h => by cases h; exact .nil
  | d :: ds, _, h => by
    cases h with
    | cons h1 h2 => exact .cons (Tp.stp e d _ h1) (TpAll.stp e ds _ h2)
end
mutual
theorem Tp.dp : ∀ (d : PyData) (v : V), Tp K H v d → Dp K H v d
  | .none, _, h => by cases h; exact .non
  | .bool b, _, h => by cases h; exact .bl b
  | .int i, _, h => by cases h; exact .int i
  | .str x, _, h => by cases h; exact .str x
  | .tuple ds, _, h => by
    cases h with
    | tup hs ha => exact .tup hs (TpAll.dp ds _ ha)
  | .list _, _, h => by cases h
  | .dict _, _, h => by cases h
theorem TpAll.dp : ∀ (ds : List PyData) (vs : List V), TpAll K H vs ds → DpAll K H vs ds
  | [], _, h => by cases h; exact .nil
  | d :: ds, _, h => by
    cases h with
    | cons h1 h2 => exact .cons (Tp.dp d _ h1) (TpAll.dp ds _ h2)
end
theorem Tp.up {v : V} {d : PyData} (h : Tp K H v d) (e : Stp H H') : Tp K H' v d := Tp.stp e d v h
theorem TpAll.up {vs : List V} {ds : List PyData} (h : TpAll K H vs ds) (e : Stp H H') : TpAll K H' vs ds := TpAll.stp e ds vs h
theorem TpAll.len : ∀ {vs : List V} {ds : List PyData}, TpAll K H vs ds → vs.length = ds.length
  | _, _, .nil => rfl
  | _, _, .cons _ h => by rw [List.length_cons, List.length_cons, TpAll.len h]
theorem TpAll.get : ∀ {vs : List V} {ds : List PyData} {i : Nat} {d : PyData}, TpAll K H vs ds → ds[i]? = some d → ∃ v, vs[i]? = some v ∧ Tp K H v d
  | _, _, _, _, .nil, h => by simp at h
  | _, _, 0, _, .cons a _, h => by simp at h; subst h; exact ⟨_, rfl, a⟩
  | _, _, i + 1, _, .cons _ t, h => by
    obtain ⟨v, h1, h2⟩ := TpAll.get (i := i) t (by simpa using h)
    exact ⟨v, by simpa using h1, h2⟩
theorem TpAll.getV : ∀ {vs : List V} {ds : List PyData} {i : Nat} {v : V}, TpAll K H vs ds → vs[i]? = some v → ∃ d, ds[i]? = some d ∧ Tp K H v d
  | _, _, _, _, .nil, h => by simp at h
  | _, _, 0, _, .cons a _, h => by simp at h; subst h; exact ⟨_, rfl, a⟩
  | _, _, i + 1, _, .cons _ t, h => by
    obtain ⟨v, h1, h2⟩ := TpAll.getV (i := i) t (by simpa using h)
    exact ⟨v, by simpa using h1, h2⟩
theorem TpAll.app : ∀ {vs ws : List V} {ds es : List PyData}, TpAll K H vs ds → TpAll K H ws es → TpAll K H (vs ++ ws) (ds ++ es)
  | _, _, _, _, .nil, h => h
  | _, _, _, _, .cons a t, h => .cons a (TpAll.app t h)
theorem TpAll.snoc {vs : List V} {ds : List PyData} {v : V} {d : PyData} (h : TpAll K H vs ds) (t : Tp K H v d) : TpAll K H (vs ++ [v]) (ds ++ [d]) := h.app (.cons t .nil)
theorem TpAll.take : ∀ {vs : List V} {ds : List PyData} (n : Nat), TpAll K H vs ds → TpAll K H (vs.take n) (ds.take n)
  | _, _, _, .nil => by simp; exact .nil
  | _, _, 0, .cons _ _ => .nil
  | _, _, n + 1, .cons a t => .cons a (TpAll.take n t)
theorem TpAll.drop : ∀ {vs : List V} {ds : List PyData} (n : Nat), TpAll K H vs ds → TpAll K H (vs.drop n) (ds.drop n)
  | _, _, _, .nil => by simp; exact .nil
  | _, _, 0, .cons a t => .cons a t
  | _, _, n + 1, .cons _ t => TpAll.drop n t
theorem TpAll.ints : ∀ ns : List Int, TpAll K H (ns.map V.int) (ns.map PyData.int)
  | [] => .nil
  | n :: ns => .cons (.int n) (TpAll.ints ns)
theorem TpAll.ints_inv : ∀ {vs : List V} {ns : List Int}, TpAll K H vs (ns.map PyData.int) → vs = ns.map V.int
  | _, [], h => by cases h; rfl
  | _, n :: ns, h => by
    cases h with
    | cons a t => cases a; rw [TpAll.ints_inv t]; rfl
theorem Tp.inv {v : V} {ds : List PyData} (h : Tp K H v (.tuple ds)) : ∃ a xs, v = .ref a ∧ SqT K H a xs ∧ TpAll K H xs ds := by
  cases h with
  | tup hs ha => exact ⟨_, _, rfl, hs, ha⟩
theorem Tp.invI {v : V} {ns : List Int} (h : Tp K H v (.tuple (ns.map PyData.int))) : ∃ a, v = .ref a ∧ SqT K H a (ns.map V.int) := by
  obtain ⟨a, xs, rfl, hs, ha⟩ := h.inv
  rw [TpAll.ints_inv ha] at hs
  exact ⟨a, rfl, hs⟩
theorem Tp.intsT {a : Addr} {ns : List Int} (h : SqT K H a (ns.map V.int)) : Tp K H (.ref a) (.tuple (ns.map PyData.int)) := .tup h (TpAll.ints ns)
theorem Tp.int_inv {v : V} {n : Int} (h : Tp K H v (.int n)) : v = .int n := by cases h; rfl
theorem Tp.str_inv {v : V} {n : Str} (h : Tp K H v (.str n)) : v = .str n := by cases h; rfl
/-- t[i] of such a tuple -/
theorem r_ixTp {v : V} {ds : List PyData} {i : Nat} {d : PyData} (h : Tp K H v (.tuple ds)) (hd : ds[i]? = some d) (k : ∀ u, Tp K H u d → Q u H) : rIxT K v (.int (i : Int)) H Q := by
  obtain ⟨a, xs, rfl, hs, ha⟩ := h.inv
  obtain ⟨u, hu, t⟩ := ha.get hd
  exact r_ixT hs (atI_nat hu) (k u t)
theorem r_ixTpI {v : V} {ds : List PyData} {i : Nat} {n : Int} (h : Tp K H v (.tuple ds)) (hd : ds[i]? = some (.int n)) (q : Q (.int n) H) : rIxT K v (.int (i : Int)) H Q := r_ixTp h hd fun u t => by cases t; exact q
/-- a value of such data that a call hands back -/
def RetD (K : PySem.W.Frag) (H : Hp) (Q : VK) (d : PyData) : Prop := ∀ H' v, Same H H' → Tp K H' v d → Q v H'
theorem r_retD {v : PyData} (o : Own H0 H L) (k : ∀ u H', Same H H' → Own H0 H' L → Tp K H' u v → Q u H') : RetD K H Q v := fun H' u e t => k u H' e (o.mono e) t
theorem RetD.mk {v : V} {d : PyData} (q : RetD K H0 Q d) (o : Own H0 H L) (t : Tp K H v d) : Q v H := q H v o.ex t
/-! the rules that tell that tuples stand -/
theorem r_newLs {xs : List V} (o : Own H0 H L) (hz : xs.length ≤ 10000000) (k : ∀ p H', Stp H H' → Own H0 H' ((p, .lst xs) :: L) → Q (.ref p) H') : RNewL xs H Q := ⟨sz100 hz, fun p hp => k p _ (.of (same_new hp)) (o.new hp)⟩
theorem r_newTs {xs : List V} (o : Own H0 H L) (hz : xs.length ≤ 10000000) (k : ∀ p H', Stp H H' → Own H0 H' L → SqT K H' p xs → Q (.ref p) H') : RNewT xs H Q := ⟨sz100 hz, fun p hp => k p _ (.of (same_new hp)) (o.mono (same_new hp)) (SqT.of upd_same)⟩
theorem r_newTi {xs : List V} (ns : List Int) (e : xs = ns.map V.int) (o : Own H0 H L) (hz : ns.length ≤ 10000000) (k : ∀ p H', Stp H H' → Own H0 H' L → SqT K H' p (ns.map V.int) → Q (.ref p) H') : RNewT xs H Q := by
  subst e
  exact r_newTs o (by rw [List.length_map]; exact hz) k
theorem r_newTp {xs : List V} {ds : List PyData} (o : Own H0 H L) (ha : TpAll K H xs ds) (hz : xs.length ≤ 10000000) (k : ∀ p H', Stp H H' → Own H0 H' L → Tp K H' (.ref p) (.tuple ds) → Q (.ref p) H') : RNewT xs H Q :=
  r_newTs o hz fun p H' s o' h => k p H' s o' (.tup h (ha.up s))
theorem r_apps {l : Addr} {xs : List V} {y : V} (o : Own H0 H L) (n : Nat) (h : L[n]? = some (l, .lst xs)) (hz : xs.length < 10000000) (k : ∀ H', Stp H H' → Own H0 H' (L.set n (l, .lst (xs ++ [y]))) → Q .non H') : rAppend (.ref l) [y] H Q :=
  ⟨l, xs, y, rfl, rfl, o.at n h, sz_lt hz, k _ (Stp.set (o.at n h)) (o.set n h)⟩
theorem r_setLs {l : Addr} {xs : List V} {k : Nat} {i : Int} {v : V} {R : Hp → Prop} (o : Own H0 H L) (n : Nat) (h : L[n]? = some (l, .lst xs)) (hj : ixN xs.length i = some k) (q : ∀ H', Stp H H' → Own H0 H' (L.set n (l, .lst (xs.set k v))) → R H') : rSetL (.ref l) (.int i) v H R :=
  ⟨l, xs, i, k, rfl, rfl, o.at n h, hj, q _ (Stp.set (o.at n h)) (o.set n h)⟩
theorem r_tupLs {p : Addr} {xs : List V} (o : Own H0 H L) (h : SqL K H p xs) (k : ∀ l H', Stp H H' → Own H0 H' L → SqT K H' l xs → Q (.ref l) H') : rTupS K [.ref p] H Q :=
  ⟨p, xs, rfl, .inl ⟨h, fun l hl => k l _ (.of (same_new hl)) (o.mono (same_new hl)) (SqT.of upd_same)⟩⟩
theorem r_ret1s {u : HO} (o : Own H0 H L) (k : ∀ p H', Stp H H' → Own H0 H' ((p, u) :: L) → Q (.ref p) H') : RetO H Q u := fun H' p e f h => k p H' (.of e) (o.add e f h)
theorem r_slLs {a : Addr} {xs : List V} {lo hi : Option Int} (o : Own H0 H L) (h : SqL K H a xs) (k : ∀ p H', Stp H H' → Own H0 H' ((p, .lst (cutV xs lo hi)) :: L) → Q (.ref p) H') : rSlL K (.ref a) lo hi H Q := ⟨a, xs, rfl, h, fun p hp => k p _ (.of (same_new hp)) (o.new hp)⟩
theorem r_cats {a b : Addr} {xs ys : List V} (o : Own H0 H L) (ha : H a = some (.lst xs)) (hb : H b = some (.lst ys)) (hz : xs.length + ys.length ≤ 10000000) (k : ∀ p H', Stp H H' → Own H0 H' ((p, .lst (xs ++ ys)) :: L) → Q (.ref p) H') : rCat (.ref a) (.ref b) H Q :=
  ⟨a, b, xs, ys, rfl, rfl, ha, hb, sz100 hz, fun p hp => k p _ (.of (same_new hp)) (o.new hp)⟩
theorem r_lists {p : Addr} {xs : List V} (o : Own H0 H L) (h : SqL K H p xs) (k : ∀ l H', Stp H H' → Own H0 H' ((l, .lst xs) :: L) → Q (.ref l) H') : Evl.rListS K [.ref p] H Q := ⟨p, xs, rfl, .inl h, fun l hl => k l _ (.of (same_new hl)) (o.new hl)⟩
theorem r_listTs {p : Addr} {xs : List V} (o : Own H0 H L) (h : SqT K H p xs) (k : ∀ l H', Stp H H' → Own H0 H' ((l, .lst xs) :: L) → Q (.ref l) H') : Evl.rListS K [.ref p] H Q := ⟨p, xs, rfl, .inr h, fun l hl => k l _ (.of (same_new hl)) (o.new hl)⟩
theorem r_eqTp {v u : V} {d e : PyData} (h : Tp K H v d) (h2 : Tp K H u e) (s1 : SeqAt.shaped d = true) (s2 : SeqAt.shaped e = true) (q : Q (.bl (PyData.eqv d e)) H) : rEqD K v u H Q := ⟨d, e, h.dp, h2.dp, s1, s2, q⟩
end

theorem ty_sqT {K : PySem.W.Frag} {H : Hp} {a : Addr} {xs : List V} (h : SqT K H a xs) : TyX K H (.ref a) (.type "tuple") := by
  rcases h with (h | ⟨o, h⟩) | ⟨o, its, n, h1, h2, _⟩
  · exact .base (.tup h)
  · exact .fTuple h
  · exact .kTuple h1 h2
theorem ty_sqL {K : PySem.W.Frag} {H : Hp} {a : Addr} {xs : List V} (h : SqL K H a xs) : TyX K H (.ref a) (.type "list") := by
  rcases h with (h | ⟨o, h⟩) | ⟨o, its, n, h1, h2, _⟩
  · exact .base (.lst h)
  · exact .base (.frz h)
  · exact .kList h1 h2
/-! ### zip -/
section
variable {σ : L2.St} {H : Hp} {K : PySem.W.Frag} {tr : TA} {D : Ends} {ts : TS} {g : TG}
def RZipA (K : PySem.W.Frag) (vs : List V) (H1 : Hp) (R : It → Hp → Prop) : Prop := ∃ a b xs ys, vs = [.ref a, .ref b] ∧ ((SqL K H1 a xs ∧ SqL K H1 b ys ∧ R (Itz K a b) H1) ∨ (SqT K H1 a xs ∧ SqT K H1 b ys ∧ R (RZ.ItzT K a b) H1))
theorem r_zipA {R : It → Hp → Prop} (q : tr σ H fun vs H1 => RZipA K vs H1 R) : RZ.iZipA K tr σ H R := q
theorem forZT {a b : Addr} {xs ys : List V} (ha : SqT K H a xs) (hb : SqT K H b ys) (hl : xs.length = ys.length) (Pv : Nat → L2.St → Hp → Prop) (h0 : Pv 0 σ H) (hq : ∀ i σ H, Pv i σ H → SqT K H a xs ∧ SqT K H b ys)
    (hs : ∀ (i : Nat) (x y : V) (T : Addr) (σ : L2.St) (H : Hp), xs[i]? = some x → ys[i]? = some y → Pv i σ H → H T = none → g (.ref T) σ (upd H T (.tup [x, y])) fun σ2 H2 => ts { D with nx := Pv (i + 1), ct := Pv (i + 1), bk := D.nx } σ2 H2) (hd : ∀ σ H, Pv xs.length σ H → D.nx σ H) :
    RZipA K [.ref a, .ref b] H fun J H1 => RFor J g ts D σ H1 := ⟨a, b, xs, ys, rfl, .inr ⟨ha, hb, RZ.for_zipT hl Pv h0 hq hs hd⟩⟩
theorem forZL {a b : Addr} {xs ys : List V} (ha : SqL K H a xs) (hb : SqL K H b ys) (hl : xs.length = ys.length) (Pv : Nat → L2.St → Hp → Prop) (h0 : Pv 0 σ H) (hq : ∀ i σ H, Pv i σ H → SqL K H a xs ∧ SqL K H b ys)
    (hs : ∀ (i : Nat) (x y : V) (T : Addr) (σ : L2.St) (H : Hp), xs[i]? = some x → ys[i]? = some y → Pv i σ H → H T = none → g (.ref T) σ (upd H T (.tup [x, y])) fun σ2 H2 => ts { D with nx := Pv (i + 1), ct := Pv (i + 1), bk := D.nx } σ2 H2) (hd : ∀ σ H, Pv xs.length σ H → D.nx σ H) :
    RZipA K [.ref a, .ref b] H fun J H1 => RFor J g ts D σ H1 := ⟨a, b, xs, ys, rfl, .inl ⟨ha, hb, RZ.for_zipL hl Pv h0 hq hs hd⟩⟩
/-- x, y = t: the target of a walk over pairs -/
theorem r_gTup2 {a : Addr} {x y : V} {i j : Nat} {R : L2.St → Hp → Prop} (h : SqT K H a [x, y]) (q : R ((σ.set i (some x)).set j (some y)) H) : gTup K 2 (gCons (gName i) (gCons (gName j) gNil)) (.ref a) σ H R :=
  ⟨a, [x, y], rfl, h, rfl, x, [y], rfl, y, [], rfl, rfl, q⟩
theorem r_gTup3 {a : Addr} {x y z : V} {i j k : Nat} {R : L2.St → Hp → Prop} (h : SqT K H a [x, y, z]) (q : R (((σ.set i (some x)).set j (some y)).set k (some z)) H) : gTup K 3 (gCons (gName i) (gCons (gName j) (gCons (gName k) gNil))) (.ref a) σ H R :=
  ⟨a, [x, y, z], rfl, h, rfl, x, [y, z], rfl, y, [z], rfl, z, [], rfl, rfl, q⟩
def rMax2 : List V → Hp → VK → Prop := fun xs H Q => ∃ i j, xs = [.int i, .int j] ∧ Q (.int (if j > i then j else i)) H
def rMin2 : List V → Hp → VK → Prop := fun xs H Q => ∃ i j, xs = [.int i, .int j] ∧ Q (.int (if j < i then j else i)) H
theorem r_max2 {i j : Int} {Q : VK} (q : Q (.int (if j > i then j else i)) H) : rMax2 [.int i, .int j] H Q := ⟨i, j, rfl, q⟩
theorem r_min2 {i j : Int} {Q : VK} (q : Q (.int (if j < i then j else i)) H) : rMin2 [.int i, .int j] H Q := ⟨i, j, rfl, q⟩
def rIsNon : R2 := fun x y H Q => y = .non ∧ Q (.bl (decide (x = .non))) H
def rNotNon : R2 := fun x y H Q => y = .non ∧ Q (.bl (!decide (x = .non))) H
theorem r_isNonN {Q : VK} (q : Q (.bl true) H) : rIsNon .non .non H Q := ⟨rfl, by rw [decide_eq_true rfl]; exact q⟩
theorem r_isNonR {a : Addr} {Q : VK} (q : Q (.bl false) H) : rIsNon (.ref a) .non H Q := ⟨rfl, by rw [decide_eq_false (by simp)]; exact q⟩
theorem r_isNonI {a : Int} {Q : VK} (q : Q (.bl false) H) : rIsNon (.int a) .non H Q := ⟨rfl, by rw [decide_eq_false (by simp)]; exact q⟩
theorem r_notNonN {Q : VK} (q : Q (.bl false) H) : rNotNon .non .non H Q := ⟨rfl, by rw [decide_eq_true rfl]; exact q⟩
theorem r_notNonR {a : Addr} {Q : VK} (q : Q (.bl true) H) : rNotNon (.ref a) .non H Q := ⟨rfl, by rw [decide_eq_false (by simp)]; exact q⟩
theorem r_notNonI {a : Int} {Q : VK} (q : Q (.bl true) H) : rNotNon (.int a) .non H Q := ⟨rfl, by rw [decide_eq_false (by simp)]; exact q⟩
end

/-! ### texts -/
def rAddStr : R2 := fun x y H Q => ∃ i j, x = .str i ∧ y = .str j ∧ i.length + j.length ≤ sizeLine ∧ Q (.str (i ++ j)) H
def rIntS : List V → Hp → VK → Prop := fun xs H Q => ∃ a n, xs = [.str a] ∧ PySem.intText? a = some n ∧ a.length ≤ 640 ∧ Q (.int n) H
def rLenStr : List V → Hp → VK → Prop := fun xs H Q => ∃ z, xs = [.str z] ∧ z.length ≤ sizeLine ∧ Q (.int z.length) H
section
variable {σ : L2.St} {H H0 : Hp} {Q : VK} {K : PySem.W.Frag} {L : List (Addr × HO)} {te : TE} {tt : TT}
theorem r_addS {a b : Str} (hz : a.length + b.length ≤ 10000000) (q : Q (.str (a ++ b)) H) : rAddStr (.str a) (.str b) H Q := ⟨a, b, rfl, rfl, sz100 hz, q⟩
theorem r_lenS {a : Str} (hz : a.length ≤ 10000000) (q : Q (.int a.length) H) : rLenStr [.str a] H Q := ⟨a, rfl, sz100 hz, q⟩
theorem r_slS {a : Str} {lo hi : Option Int} (hz : a.length ≤ 10000000) (q : Q (.str (cutS a lo hi)) H) : rSlS (.str a) lo hi H Q := ⟨a, rfl, sz100 hz, q⟩
theorem cutS_len (a : Str) (lo hi : Option Int) : (cutS a lo hi).length ≤ a.length := by
  unfold cutS
  show (List.toArray _).size ≤ a.cps.size
  rw [List.size_toArray, List.length_take, List.length_drop, Array.length_toList]
  omega
theorem addS_len (a b : Str) : (a ++ b).length = a.length + b.length := by
  show (a.cps ++ b.cps).size = a.cps.size + b.cps.size
  exact Array.size_append
theorem r_in {neg : Bool} {x : V} {p : Addr} {xs : List V} (h : SqL K H p xs ∨ SqT K H p xs) (hx : flatV x = true) (ha : xs.all flatV = true) (q : Q (.bl (if neg then !inV x xs else inV x xs)) H) : rIn K neg x (.ref p) H Q := ⟨p, xs, rfl, h, hx, ha, q⟩
theorem r_inY {x : V} {p : Addr} {xs : List V} (h : SqL K H p xs ∨ SqT K H p xs) (hx : flatV x = true) (ha : xs.all flatV = true) (q : Q (.bl (inV x xs)) H) : rIn K false x (.ref p) H Q := r_in h hx ha q
theorem r_inN {x : V} {p : Addr} {xs : List V} (h : SqL K H p xs ∨ SqT K H p xs) (hx : flatV x = true) (ha : xs.all flatV = true) (q : Q (.bl (!inV x xs)) H) : rIn K true x (.ref p) H Q := r_in h hx ha q
theorem r_ixS {p : Addr} {zs : List Str} {i : Int} (h : SqL K H p (zs.map V.str)) (h0 : 0 ≤ i) (h1 : i < zs.length) (q : ∀ z, z ∈ zs → zs[i.toNat]? = some z → Q (.str z) H) : rIxL K (.ref p) (.int i) H Q := by
  have h2 : i.toNat < zs.length := by omega
  have e := List.getElem?_eq_getElem h2
  exact r_ixL h (at_map h0 e) (q _ (List.getElem_mem h2) e)
theorem flat_strs (zs : List Str) : (zs.map V.str).all flatV = true := by
  rw [List.all_map, List.all_eq_true]
  intro _ _
  rfl
/-- [e for x in t], over a tuple, by the item -/
theorem lcTV {a : Addr} {xs : List V} {s : Nat} {vs : List Nat} (f : V → V) (o : Own H0 H L) (h : ∀ H' p zs, Own H0 H' ((p, .lst zs) :: L) → SqT K H' a xs) (h1 : SqT K H a xs) (hz : xs.length < 10000000) (hw : ∀ x, wipe ((wipe σ vs).set s (some x)) vs = wipe σ vs)
    (he : ∀ (i : Nat) (x : V) (q : Addr) (zs : List V) (H' : Hp) (Q : VK), xs[i]? = some x → Own H0 H' ((q, .lst zs) :: L) → Stp H H' → RetV H' Q (f x) → te ((wipe σ vs).set s (some x)) H' Q)
    (k : ∀ q H', Stp H H' → Own H0 H' ((q, .lst (xs.map f)) :: L) → Q (.ref q) H') :
    ∃ a', V.ref a = .ref a' ∧ (∃ xs, SqT K H a' xs) ∧ RLc (Itt K a') (gName s) tYes te vs σ H Q :=
  lcGT (fun v => some (f v)) o h h1 hz (fun i x p zs H' R hi o' s' r => r _ (fun _ _ => hw _) (fun Q q => q H' (Same.refl _)) fun y H2 hy s2 Q q => by
    cases hy
    exact he i x p zs H2 Q hi (o'.mono s2) (s'.trans (.of s2)) q) (fun q H' s' o' => k q H' s' (by rw [show (fun v => some (f v)) = some ∘ f from rfl, List.filterMap_eq_map] at o'; exact o'))
theorem lcLV {a : Addr} {xs : List V} {s : Nat} {vs : List Nat} (f : V → V) (o : Own H0 H L) (h : ∀ H' p zs, Own H0 H' ((p, .lst zs) :: L) → SqL K H' a xs) (h1 : SqL K H a xs) (hz : xs.length < 10000000) (hw : ∀ x, wipe ((wipe σ vs).set s (some x)) vs = wipe σ vs)
    (he : ∀ (i : Nat) (x : V) (q : Addr) (zs : List V) (H' : Hp) (Q : VK), xs[i]? = some x → Own H0 H' ((q, .lst zs) :: L) → Stp H H' → RetV H' Q (f x) → te ((wipe σ vs).set s (some x)) H' Q)
    (k : ∀ q H', Stp H H' → Own H0 H' ((q, .lst (xs.map f)) :: L) → Q (.ref q) H') :
    ∃ a', V.ref a = .ref a' ∧ (∃ xs, SqL K H a' xs) ∧ RLc (Itl K a') (gName s) tYes te vs σ H Q :=
  lcGL (fun v => some (f v)) o h h1 hz (fun i x p zs H' R hi o' s' r => r _ (fun _ _ => hw _) (fun Q q => q H' (Same.refl _)) fun y H2 hy s2 Q q => by
    cases hy
    exact he i x p zs H2 Q hi (o'.mono s2) (s'.trans (.of s2)) q) (fun q H' s' o' => k q H' s' (by rw [show (fun v => some (f v)) = some ∘ f from rfl, List.filterMap_eq_map] at o'; exact o'))
/-- .. with a test, over a list -/
theorem lcLVF {a : Addr} {xs : List V} {s : Nat} {vs : List Nat} (sel : V → Option V) (o : Own H0 H L) (h : ∀ H' p zs, Own H0 H' ((p, .lst zs) :: L) → SqL K H' a xs) (h1 : SqL K H a xs) (hz : xs.length < 10000000) (hw : ∀ x, wipe ((wipe σ vs).set s (some x)) vs = wipe σ vs)
    (ht : ∀ (i : Nat) (x : V) (q : Addr) (zs : List V) (H' : Hp) (Q : Bool → Hp → Prop), xs[i]? = some x → Own H0 H' ((q, .lst zs) :: L) → Stp H H' → (∀ H2, Same H' H2 → Q (sel x).isSome H2) → tt ((wipe σ vs).set s (some x)) H' Q)
    (he : ∀ (i : Nat) (x y : V) (q : Addr) (zs : List V) (H' : Hp) (Q : VK), xs[i]? = some x → sel x = some y → Own H0 H' ((q, .lst zs) :: L) → Stp H H' → RetV H' Q y → te ((wipe σ vs).set s (some x)) H' Q)
    (k : ∀ q H', Stp H H' → Own H0 H' ((q, .lst (xs.filterMap sel)) :: L) → Q (.ref q) H') :
    ∃ a', V.ref a = .ref a' ∧ (∃ xs, SqL K H a' xs) ∧ RLc (Itl K a') (gName s) tt te vs σ H Q :=
  lcGL sel o h h1 hz (fun i x p zs H' R hi o' s' r => r _ (fun _ _ => hw _) (fun Q q => ht i x p zs H' Q hi o' s' q) fun y H2 hy s2 Q q => he i x y p zs H2 Q hi hy (o'.mono s2) (s'.trans (.of s2)) q) k
end
/-- a written tuple of the module -/
theorem sqT_top {K : PySem.W.Frag} {p : Addr} {od : Option Addr} {its : Array Value} {n : Nat} {sl : Array (Option Value)} {xs : List V} (l : K.lookup p = some ⟨.type "tuple", od, .seq its n, sl⟩) (hz : its.size ≤ sizeLine) (hv : Vals xs its.toList) : ∀ H : Hp, SqT K H p xs :=
  fun _ => .inr ⟨_, its, n, l, rfl, rfl, hz, hv⟩

/-! ### [e for p in range(n) for q in range(lo, hi, c)] -/
def RLc2 (J : It) (g : TG) (tt : TT) (wi1 : TI) (g1 : TG) (tt1 : TT) (te : TE) (vs vs1 : List Nat) (σ : L2.St) (H1 : Hp) (Q : VK) : Prop := ∀ D, H1 D = none → ∃ W : Nat → Nat → Hp → Prop, (∃ m, W 0 m (upd H1 D (.lst []))) ∧ ∀ i m H, W i m H →
  (J.stop i H ∧ Q (.ref D) H) ∨ (J.go i H ∧ ∃ Nx : Hp → Prop, (∀ H', Nx H' → ∃ m', m' < m ∧ W (i + 1) m' H') ∧ ∀ x H', J.yld i H x H' → g x (wipe σ vs) H' fun σ2 H2 => wipe σ2 vs = wipe σ vs ∧ tt σ2 H2 fun b H3 =>
    if b = true then wi1 σ2 H3 fun J1 H4 => ∃ W1 : Nat → Nat → Hp → Prop, (∃ m, W1 0 m H4) ∧ ∀ j k H, W1 j k H →
      (J1.stop j H ∧ Nx H) ∨ (J1.go j H ∧ ∃ Nx1 : Hp → Prop, (∀ H', Nx1 H' → ∃ k', k' < k ∧ W1 (j + 1) k' H') ∧ ∀ x H', J1.yld j H x H' → g1 x (wipe σ2 vs1) H' fun σ3 H5 => wipe σ3 vs1 = wipe σ2 vs1 ∧ tt1 σ3 H5 fun b H6 =>
        if b = true then te σ3 H6 fun y H7 => ∃ acc, H7 D = some (.lst acc) ∧ acc.length < sizeLine ∧ Nx1 (upd H7 D (.lst (acc ++ [y]))) else Nx1 H6)
    else Nx H3)
theorem r_lc2 {σ : L2.St} {H : Hp} {Q : VK} {wi wi1 : TI} {g g1 : TG} {tt tt1 : TT} {te : TE} {vs vs1 : List Nat} (q : wi σ H fun J H1 => RLc2 J g tt wi1 g1 tt1 te vs vs1 σ H1 Q) : tLc2 wi g tt wi1 g1 tt1 te vs vs1 σ H Q := q
theorem lc2R3 {σ : L2.St} {H H0 : Hp} {Q : VK} {L : List (Addr × HO)} {te : TE} {wi1 : TI} {j c : Int} {n s s1 : Nat} {vs vs1 : List Nat} (lo : Nat → Int) (m : Nat → Nat) (o : Own H0 H L) (hn : j = (n : Int)) (hz : n ≤ 10000000)
    (hzz : ((List.range n).flatMap fun p => (List.range (m p)).map fun (k : Nat) => V.int (lo p + (k : Int) * c)).length < 10000000)
    (hw : ∀ x, wipe ((wipe σ vs).set s (some x)) vs = wipe σ vs) (hw1 : ∀ x y, wipe ((wipe ((wipe σ vs).set s (some x)) vs1).set s1 (some y)) vs1 = wipe ((wipe σ vs).set s (some x)) vs1)
    (hin : ∀ (p : Nat) (H' : Hp) (R : It → Hp → Prop), p < n → R (Itc (lo p) c (m p)) H' → wi1 ((wipe σ vs).set s (some (.int (p : Int)))) H' R)
    (he : ∀ (x : V) (z : Int) (H' : Hp) (Q : VK), Q (.int z) H' → te ((wipe ((wipe σ vs).set s (some x)) vs1).set s1 (some (.int z))) H' Q)
    (k : ∀ p H', Own H0 H' ((p, .lst ((List.range n).flatMap fun p => (List.range (m p)).map fun (k : Nat) => V.int (lo p + (k : Int) * c))) :: L) → Q (.ref p) H') :
    ∃ k : Int, [V.int j] = [.int k] ∧ -(2 ^ 62) ≤ k ∧ k < 2 ^ 62 ∧ RLc2 (Itr 0 k.toNat) (gName s) tYes wi1 (gName s1) tYes te vs vs1 σ H Q := by
  have hout : ∀ i, i ≤ n → ((List.range i).flatMap fun p => (List.range (m p)).map fun (k : Nat) => V.int (lo p + (k : Int) * c)).length ≤ ((List.range n).flatMap fun p => (List.range (m p)).map fun (k : Nat) => V.int (lo p + (k : Int) * c)).length := fun i hi => by
    have e : List.range n = List.range i ++ (List.range (n - i)).map (i + ·) := by
      rw [← List.range_add]
      congr 1
      omega
    rw [e, List.flatMap_append, List.length_append]
    omega
  refine ⟨j, rfl, by omega, by omega, fun D hD => ?_⟩
  have e : j.toNat = n := by omega
  rw [e]
  refine ⟨fun i mm H' => mm = n - i ∧ i ≤ n ∧ Own H0 H' ((D, .lst ((List.range i).flatMap fun p => (List.range (m p)).map fun (k : Nat) => V.int (lo p + (k : Int) * c))) :: L), ⟨n, rfl, Nat.zero_le _, o.new hD⟩, ?_⟩
  rintro i mm H' ⟨rfl, hi, o'⟩
  by_cases hlt : i < n
  · refine .inr ⟨hlt, fun H2 => Own H0 H2 ((D, .lst ((List.range (i + 1)).flatMap fun p => (List.range (m p)).map fun (k : Nat) => V.int (lo p + (k : Int) * c))) :: L), fun H2 p2 => ⟨n - (i + 1), by omega, rfl, hlt, p2⟩, ?_⟩
    rintro x H2 ⟨rfl, rfl⟩
    have e0 : (0 : Int) + (i : Int) = (i : Int) := Int.zero_add _
    rw [e0]
    refine ⟨hw _, ?_⟩
    refine iteT (B := Own H0 H2 ((D, .lst ((List.range (i + 1)).flatMap fun p => (List.range (m p)).map fun (k : Nat) => V.int (lo p + (k : Int) * c))) :: L)) (hin i H2 _ hlt ?_)
    have hs : (List.range (i + 1)).flatMap (fun p => (List.range (m p)).map fun (k : Nat) => V.int (lo p + (k : Int) * c)) = (List.range i).flatMap (fun p => (List.range (m p)).map fun (k : Nat) => V.int (lo p + (k : Int) * c)) ++ (List.range (m i)).map fun (k : Nat) => V.int (lo i + (k : Int) * c) := by
      rw [List.range_succ, List.flatMap_append]
      simp
    rw [hs]
    have hl2 := hout (i + 1) hlt
    rw [hs, List.length_append, List.length_map, List.length_range] at hl2
    refine ⟨fun j2 k2 H3 => k2 = m i - j2 ∧ j2 ≤ m i ∧ Own H0 H3 ((D, .lst ((List.range i).flatMap (fun p => (List.range (m p)).map fun (k : Nat) => V.int (lo p + (k : Int) * c)) ++ (List.range j2).map fun (k : Nat) => V.int (lo i + (k : Int) * c))) :: L), ⟨m i, rfl, Nat.zero_le _, by rw [show ((List.range 0).map fun (k : Nat) => V.int (lo i + ((k : Nat) : Int) * c)) = [] from rfl, List.append_nil]; exact o'⟩, ?_⟩
    rintro j2 k2 H3 ⟨rfl, hj, o3⟩
    by_cases hlt2 : j2 < m i
    · refine .inr ⟨hlt2, fun H4 => Own H0 H4 ((D, .lst ((List.range i).flatMap (fun p => (List.range (m p)).map fun (k : Nat) => V.int (lo p + (k : Int) * c)) ++ (List.range (j2 + 1)).map fun (k : Nat) => V.int (lo i + (k : Int) * c))) :: L), fun H4 p4 => ⟨m i - (j2 + 1), by omega, rfl, hlt2, p4⟩, ?_⟩
      rintro x H4 ⟨rfl, rfl⟩
      refine ⟨hw1 _ _, ?_⟩
      refine iteT (B := Own H0 H4 ((D, .lst ((List.range i).flatMap (fun p => (List.range (m p)).map fun (k : Nat) => V.int (lo p + (k : Int) * c)) ++ (List.range (j2 + 1)).map fun (k : Nat) => V.int (lo i + (k : Int) * c))) :: L)) (he _ _ H4 _ ⟨_, o3.at 0 rfl, sz_lt ?_, ?_⟩)
      · rw [List.length_append, List.length_map, List.length_range]
        omega
      · have o5 := o3.set (v := .lst (((List.range i).flatMap (fun p => (List.range (m p)).map fun (k : Nat) => V.int (lo p + (k : Int) * c)) ++ (List.range j2).map fun (k : Nat) => V.int (lo i + (k : Int) * c)) ++ [V.int (lo i + (j2 : Int) * c)])) 0 rfl
        rw [List.range_succ, List.map_append, ← List.append_assoc]
        exact o5
    · refine .inl ⟨show m i ≤ j2 by omega, ?_⟩
      have ej : j2 = m i := by omega
      rw [ej] at o3
      exact o3
  · refine .inl ⟨show n ≤ i by omega, ?_⟩
    have ei : i = n := by omega
    rw [ei] at o'
    exact k D _ o'

theorem fm_some {α β : Type} (f : α → Option β) (g : α → β) : ∀ (l : List α), (∀ k ∈ l, f k = some (g k)) → l.filterMap f = l.map g
  | [], _ => rfl
  | x :: l, h => by
    rw [List.filterMap_cons, h x List.mem_cons_self, List.map_cons, fm_some f g l fun k hk => h k (List.mem_cons_of_mem _ hk)]
/-! ### xs[lo:hi:c] -/
def stpV (xs : List V) (lo hi : Option Int) (c : Int) : List V := (sliceRange (sliceBounds lo hi (some c) xs.length).1 (sliceBounds lo hi (some c) xs.length).2.1 (sliceBounds lo hi (some c) xs.length).2.2).filterMap (xs[·]?)
theorem vals_pick {xs : List V} {us : List Value} (r : Vals xs us) : ∀ is : List Nat, Vals (is.filterMap (xs[·]?)) (is.filterMap (us[·]?))
  | [] => .nil
  | i :: is => by
    rw [List.filterMap_cons, List.filterMap_cons]
    cases h : xs[i]? with
    | none =>
      rw [r.none_of h]
      exact vals_pick r is
    | some x =>
      obtain ⟨u, hu, ru⟩ := r.get h
      rw [hu]
      exact .cons ru (vals_pick r is)
def tSl3 (K : PySem.W.Frag) (te : TE) (tl th ts : TO) : TE := fun σ H Q => te σ H fun x H1 => tl σ H1 fun l H2 => th σ H2 fun u H3 => ts σ H3 fun c H4 => ∃ a xs i, x = .ref a ∧ c = some i ∧ i ≠ 0 ∧ SqL K H4 a xs ∧ (stpV xs l u i).length ≤ sizeLine ∧ ∀ p, H4 p = none → Q (.ref p) (upd H4 p (.lst (stpV xs l u i)))
theorem pe_sl3 {X : Cx} {e : Expr} {lo hi : Option Expr} {st : Expr} {te : TE} {tl th ts : TO} {p2 pos : Pos} (he : PE X e te) (hl : PO X lo tl) (hu : PO X hi th) (hst : PO X (some st) ts) : PE X (.Subscript e (.Slice lo hi (some st) p2) pos) (tSl3 X.K te tl th ts) := by
  refine ⟨fun pins s σ H Q I h => ?_⟩
  refine Subscript_ (thn (he.run pins s σ H _ I h) fun v s1 ⟨x, H1, I1, r1, q1⟩ => ?_)
  refine wpAny_Slice (thn (hl.run pins s1 σ H1 _ I1 q1) fun vl s2 ⟨l, H2, I2, pl, q2⟩ => ?_)
  refine thn (hu.run pins s2 σ H2 _ I2 q2) fun vu s3 ⟨u, H3, I3, pu, q3⟩ => ?_
  refine thn (hst.run pins s3 σ H3 _ I3 q3) fun vs s4 ⟨c, H4, I4, ps, q4⟩ => ?_
  obtain ⟨a, xs, i, ex, ec, h0, hx, hzz, q⟩ := q4
  subst ex
  subst ec
  cases r1
  have I5 : Inv X pins σ H4 { s4 with heap := s4.heap.push { cls := .type "slice", data := .fields #[vl, vu, vs] } } := I4.kept (t' := s4.toks) fun b ob q => Heap.get?_push_of_some _ q
  obtain ⟨its, r, ht, hz⟩ := I5.list hx
  have hlen := r.length
  show wpAny (model X.prog X.w) X.A (subscriptTail e (.Slice lo hi (some st) p2) (.ref a) (.ref s4.heap.objs.size)) (EP X pins σ Q) X.xe { s4 with heap := s4.heap.push { cls := .type "slice", data := .fields #[vl, vu, vs] } }
  refine tail_any (ops := [.ref a, .ref s4.heap.objs.size]) ht.isList.typeIs (PySem.slot_list_getitem.lookup) ?_ (by with_unfolding_all rfl)
  refine wpAny_getItem_list_slice ht.isList (Heap.IsSliceOf.new _ vl vu vs) pl pu ps (fun z => h0 (Option.some.inj z)) ?_ (by rw [List.size_toArray]; omega)
  have ep : slicePick its.toArray l u (some i) = ((sliceRange (sliceBounds l u (some i) xs.length).1 (sliceBounds l u (some i) xs.length).2.1 (sliceBounds l u (some i) xs.length).2.2).filterMap (its[·]?)).toArray := by
    unfold slicePick
    rw [List.size_toArray, ← hlen]
    simp only [List.getElem?_toArray]
  rw [ep]
  refine ⟨.ref _, _, I5.laid (t' := s4.toks) (o := .lst (stpV xs l u i)) (fun b ob q => Heap.get?_push_of_some _ q) (Nat.le_refl _) ?_, rfl, q _ (I5.hok.fresh (Nat.le_refl _))⟩
  exact ⟨hzz, _, 0, vals_pick r _, Heap.get?_push_size _ rfl⟩
def RSl3 (K : PySem.W.Frag) (x : V) (l u c : Option Int) (H : Hp) (Q : VK) : Prop := ∃ a xs i, x = .ref a ∧ c = some i ∧ i ≠ 0 ∧ SqL K H a xs ∧ (stpV xs l u i).length ≤ sizeLine ∧ ∀ p, H p = none → Q (.ref p) (upd H p (.lst (stpV xs l u i)))
theorem r_sl3 {K : PySem.W.Frag} {σ : L2.St} {H : Hp} {Q : VK} {te : TE} {tl th ts : TO} (q : te σ H fun x H1 => tl σ H1 fun l H2 => th σ H2 fun u H3 => ts σ H3 fun c H4 => RSl3 K x l u c H4 Q) : tSl3 K te tl th ts σ H Q := q
theorem r_slc {K : PySem.W.Frag} {H H0 : Hp} {Q : VK} {L : List (Addr × HO)} {a : Addr} {xs : List V} {l u : Option Int} {i : Int} (o : Own H0 H L) (h : SqL K H a xs) (h0 : i ≠ 0) (hz : (stpV xs l u i).length ≤ 10000000) (k : ∀ p H', Stp H H' → Own H0 H' ((p, .lst (stpV xs l u i)) :: L) → Q (.ref p) H') : RSl3 K (.ref a) l u (some i) H Q :=
  ⟨a, xs, i, rfl, rfl, h0, h, sz100 hz, fun p hp => k p _ (.of (same_new hp)) (o.new hp)⟩
theorem flat_rep {α : Type} : ∀ (n : Nat) (x : α), (List.replicate n [x]).flatten = List.replicate n x
  | 0, _ => rfl
  | n + 1, x => by rw [List.replicate_succ, List.flatten_cons, flat_rep n x]; rfl
/-- a list times an int -/
theorem r_rep {H H0 : Hp} {Q : VK} {L : List (Addr × HO)} {a : Addr} {x : V} {i : Int} {n : Nat} (o : Own H0 H L) (ha : H a = some (.lst [x])) (hi : i.toNat = n) (hk : -(2 ^ 63) ≤ i ∧ i < 2 ^ 63) (hz : n ≤ 10000000) (k : ∀ p H', Stp H H' → Own H0 H' ((p, .lst (List.replicate n x)) :: L) → Q (.ref p) H') : rRep (.ref a) (.int i) H Q := by
  refine ⟨a, i, [x], rfl, rfl, ha, hk.1, hk.2, sz100 (by rw [hi]; simp; exact hz), fun p hp => ?_⟩
  have e : (List.replicate i.toNat [x]).flatten = List.replicate n x := by
    rw [hi]
    exact flat_rep n x
  rw [e]
  exact k p _ (.of (same_new hp)) (o.new hp)

/-! ### defs -/
/-- the def x of the text stands at its name -/
structure FunAt (K : PySem.W.Frag) (mg : Str → Option Value) (x : Str) (st : Stmt) (ps : List Str) : Prop where
  ex : ∃ f fd, Fun K x x st f fd ∧ mg x = some (.ref f) ∧ Binds K fd ps []
/-- .. and keeps a promise -/
structure Def (P : Program) (w : World) (K : PySem.W.Frag) (mg : Str → Option Value) (base : Heap) (CX : CXT) (k : Nat) (x : Str) (ps : List Str) (sp : Sp) : Prop where
  ex : ∃ f fd, FnOk P w K mg base CX k f fd ps sp ∧ mg x = some (.ref f) ∧ PySem.W.keepIn K (.ref f) = true ∧ Binds K fd ps []
section
variable {P : Program} {w : World} {K : PySem.W.Frag} {mg : Str → Option Value} {base : Heap}
theorem FunAt.ok {x : Str} {st : Stmt} {N ps : List Str} {k : Nat} {sp : Sp} (F : FunAt K mg x st ps) (S : FnScope N ps (defScope st)) (len : ∀ vs H Q E, sp vs H Q E → vs.length = ps.length)
    (hbody : ∀ (f : Addr) (cdv : Value) (A : Around) (outer : List Env) (s : Shared) (H : Hp) (vs : List V) (Q : VK) (E : XK), Room k (A.deeper (envOfC x (defScope st) s.heap.objs.size f cdv)) → sp vs H Q E →
      ∃ t, PSs (cxOf CX0 P w K mg base N x (defScope st) f cdv A outer s H E).nox (defBody st) t ∧ t { nx := fun _ H' => Q .non H', rt := Q } (start N vs) H) : Def P w K mg base CX0 (k + 1) x ps sp := by
  obtain ⟨f, fd, F, hm, hb⟩ := F.ex
  exact ⟨f, fd, F.ok S len (hbody f), hm, F.kp, hb⟩
theorem Def.imp {CX : CXT} {k : Nat} {x : Str} {ps : List Str} {sp sp' : Sp} (F : Def P w K mg base CX k x ps sp) (h : ∀ vs H Q E, sp' vs H Q E → sp vs H Q E) : Def P w K mg base CX k x ps sp' := by
  obtain ⟨f, fd, F, r⟩ := F.ex
  exact ⟨f, fd, F.imp h, r⟩
theorem Def.mono {CX : CXT} {k j : Nat} {x : Str} {ps : List Str} {sp : Sp} (F : Def P w K mg base CX k x ps sp) (h : k ≤ j) : Def P w K mg base CX j x ps sp := by
  obtain ⟨f, fd, F, r⟩ := F.ex
  exact ⟨f, fd, F.mono h, r⟩
end
theorem pe_callD {X : Cx} {k : Nat} {ps : List Str} {sp : Sp} {x : Str} {p pos : Pos} {e : Expr} {es : List Expr} {t : TA} (G : Def X.prog X.w X.K X.mg X.base CX0 k x ps sp) (hr : Room k X.A) (ha : PA X (e :: es) t) (hg : Gl X x := by rfl)
    (hdb : (x == ("__debug__" : Str)) = false := by decide) (he : starEach (e :: es) X.env = (false, eval e X.env) :: starEach es X.env := by rfl) (hpl : (backTo pos (starEach es X.env)).any (·.1) = false := by rfl) : PE X (.Call (.Name x p) (e :: es) [] pos) (tCall sp [] E0 t) := by
  obtain ⟨f, fd, F, hm, hk, hb⟩ := G.ex
  exact pe_call F hr hg hm hk hb .nil pass0 ha hdb he hpl
/-! ### own classes -/
structure MethAt (K : PySem.W.Frag) (C : Addr) (m qn : Str) (st : Stmt) (ps : List Str) : Prop where
  ex : ∃ f fd, Fun K m qn st f fd ∧ Meth K C m f ∧ Binds K fd ps []
structure MkAt (K : PySem.W.Frag) (C : Addr) (qn : Str) (st : Stmt) (ps : List Str) : Prop where
  ex : ∃ f fd, Fun K "__init__" qn st f fd ∧ Mk K C f ∧ Binds K fd ps []
structure MDef (P : Program) (w : World) (K : PySem.W.Frag) (mg : Str → Option Value) (base : Heap) (CX : CXT) (k : Nat) (C : Addr) (m : Str) (ps : List Str) (sp : Sp) : Prop where
  ex : ∃ f fd, FnOk P w K mg base CX k f fd ps sp ∧ Meth K C m f ∧ Binds K fd ps []
structure KDef (P : Program) (w : World) (K : PySem.W.Frag) (mg : Str → Option Value) (base : Heap) (CX : CXT) (k : Nat) (C : Addr) (ps : List Str) (sp : Sp) : Prop where
  ex : ∃ f fd, FnOk P w K mg base CX k f fd ps sp ∧ Mk K C f ∧ Binds K fd ps []
section
variable {P : Program} {w : World} {K : PySem.W.Frag} {mg : Str → Option Value} {base : Heap}
theorem MethAt.ok {C : Addr} {m qn : Str} {st : Stmt} {N ps : List Str} {k : Nat} {sp : Sp} (F : MethAt K C m qn st ps) (S : FnScope N ps (defScope st)) (len : ∀ vs H Q E, sp vs H Q E → vs.length = ps.length)
    (hbody : ∀ (f : Addr) (cdv : Value) (A : Around) (outer : List Env) (s : Shared) (H : Hp) (vs : List V) (Q : VK) (E : XK), Room k (A.deeper (envOfC qn (defScope st) s.heap.objs.size f cdv)) → sp vs H Q E →
      ∃ t, PSs (cxOf CX0 P w K mg base N qn (defScope st) f cdv A outer s H E).nox (defBody st) t ∧ t { nx := fun _ H' => Q .non H', rt := Q } (start N vs) H) : MDef P w K mg base CX0 (k + 1) C m ps sp := by
  obtain ⟨f, fd, F, hm, hb⟩ := F.ex
  exact ⟨f, fd, F.ok S len (hbody f), hm, hb⟩
theorem MkAt.ok {C : Addr} {qn : Str} {st : Stmt} {N ps : List Str} {k : Nat} {sp : Sp} (F : MkAt K C qn st ps) (S : FnScope N ps (defScope st)) (len : ∀ vs H Q E, sp vs H Q E → vs.length = ps.length)
    (hbody : ∀ (f : Addr) (cdv : Value) (A : Around) (outer : List Env) (s : Shared) (H : Hp) (vs : List V) (Q : VK) (E : XK), Room k (A.deeper (envOfC qn (defScope st) s.heap.objs.size f cdv)) → sp vs H Q E →
      ∃ t, PSs (cxOf CX0 P w K mg base N qn (defScope st) f cdv A outer s H E).nox (defBody st) t ∧ t { nx := fun _ H' => Q .non H', rt := Q } (start N vs) H) : KDef P w K mg base CX0 (k + 1) C ps sp := by
  obtain ⟨f, fd, F, hm, hb⟩ := F.ex
  exact ⟨f, fd, F.ok S len (hbody f), hm, hb⟩
end
theorem pe_makeD {X : Cx} {k : Nat} {ps : List Str} {sp : Sp} {C : Addr} {x : Str} {p pos : Pos} {e : Expr} {es : List Expr} {t : TA} (G : KDef X.prog X.w X.K X.mg X.base CX0 k C ps sp) (hm : X.mg x = some (.ref C)) (hr : Room (k + 1) X.A) (ha : PA X (e :: es) t) (hg : Gl X x := by rfl)
    (hdb : (x == ("__debug__" : Str)) = false := by decide) (he : starEach (e :: es) X.env = (false, eval e X.env) :: starEach es X.env := by rfl) (hpl : (backTo pos (starEach es X.env)).any (·.1) = false := by rfl) : PE X (.Call (.Name x p) (e :: es) [] pos) (tMake C sp [] E0 t) := by
  obtain ⟨f, fd, F, M, hb⟩ := G.ex
  exact pe_make M F hr hg hm hb .nil pass0 ha hdb he hpl
theorem pe_methD {X : Cx} {k : Nat} {ps : List Str} {sp : Sp} {C : Addr} {m : Str} {o e : Expr} {es : List Expr} {apos pos : Pos} {ta : TE} {t : TA} {pl : Sem Bool} (he : PE X o ta) (c : Cls X.K C) (G : MDef X.prog X.w X.K X.mg X.base CX0 k C m ps sp) (hr : Room k X.A) (ha : PA X (e :: es) t)
    (hst : starEach (e :: es) X.env = (false, eval e X.env) :: starEach es X.env := by rfl) (hpl : (backTo pos (starEach es X.env)).any (·.1) = false := by rfl)
    (ht : eval (.Call (.Attribute o m apos) (e :: es) [] pos) X.env = (do
      let ov ← eval o X.env
      standAt apos.atName
      let (f, first) ← holding [ov] (getMethod ov m pl)
      callWith pos f first (backTo pos (starEach (e :: es) X.env)) (backToKw pos (keywordEach [] X.env))) := by rfl) :
    PE X (.Call (.Attribute o m apos) (e :: es) [] pos) (tMeth C m sp [] E0 ta t) := by
  obtain ⟨f, fd, F, M, hb⟩ := G.ex
  exact pe_meth he c M F hr hb .nil pass0 ha hst hpl ht
theorem r_make {C : Addr} {sp : Sp} {E : XK} {t : TA} {σ : L2.St} {H : Hp} {Q : VK} (q : t σ H fun vs H1 => ∀ x dx, H1 x = none → H1 dx = none → dx ≠ x → sp (.ref x :: (vs ++ [])) (upd (upd H1 dx (.own x)) x (.ins C dx [])) (fun v H2 => v = .non ∧ Q (.ref x) H2) E) : tMake C sp [] E t σ H Q := q
theorem r_meth {C : Addr} {m : Str} {sp : Sp} {E : XK} {ta : TE} {t : TA} {σ : L2.St} {H : Hp} {Q : VK} (q : ta σ H fun x H1 => ∃ a dx fs, x = .ref a ∧ H1 a = some (.ins C dx fs) ∧ fs.lookup m = none ∧ t σ H1 fun vs H2 => sp (x :: (vs ++ [])) H2 Q E) : tMeth C m sp [] E ta t σ H Q := q
theorem r_fldq {K : PySem.W.Frag} {ta : TE} {f : Str} {σ : L2.St} {H : Hp} {Q : VK} (q : ta σ H fun x H1 => ∃ a C dx fs v, x = .ref a ∧ H1 a = some (.ins C dx fs) ∧ Cls K C ∧ NoAttr K C f ∧ fs.lookup f = some v ∧ Q v H1) : tFld K ta f σ H Q := q
theorem r_sfld {K : PySem.W.Frag} {ta tv : TE} {f : Str} {D : Ends} {σ : L2.St} {H : Hp} (q : tv σ H fun y H1 => ta σ H1 fun x H2 => ∃ a C dx fs, x = .ref a ∧ H2 a = some (.ins C dx fs) ∧ Cls K C ∧ NoAttr K C f ∧ fs.length < 1000 ∧ D.nx σ (upd H2 a (.ins C dx (putF f y fs)))) : sFld K ta tv f D σ H := q
/-! ### the same rules, K told -/
theorem pg_tupK {X : Cx} {K : PySem.W.Frag} {es : List Expr} {k : Nat} {t : TGs} {n : Nat} {pos : Pos} (hK : X.K = K) (hc : X.calm = true) (h : PGs X es t)
    (hn : (assignEach es X.env).length = n := by rfl) (hst : (assignEach es X.env).findIdx? (·.1) = none := by rfl) : PG X (.Tuple es k pos) (gTup K n t) := by
  subst hK
  exact pg_tup hc h hn hst
theorem pe_bmK {X : Cx} {K : PySem.W.Frag} {o e : Expr} {es : List Expr} {to : TE} {t : TA} {name : Str} {apos cpos : Pos} {T id : String} {r : V → List V → Hp → VK → Prop} (hK : X.K = K) (pa : PlainAttrs T) (slot : Slot T name id) (hty : typeOf (.builtin id) = pure (.type "method_descriptor")) (hm : MtR X id r) (ho : PE X o to) (ha : PA X (e :: es) t)
    (hbase : attributeBase o name X.env (eval o X.env) = eval o X.env := by rfl) (hfew : ((backTo cpos (starEach (e :: es) X.env)).all (fun x => !x.1) && (backToKw cpos (keywordEach [] X.env)).all (fun x => x.1.isSome) && decide ((e :: es).length + ([] : List Keyword).length + (if ([] : List Keyword).isEmpty then 0 else 1) < 30)) = true := by rfl)
    (hline : (apos.endLine == cpos.line) = true := by rfl) (hst : starEach (e :: es) X.env = (false, eval e X.env) :: starEach es X.env := by rfl) (hpl : (backTo cpos (starEach es X.env)).any (·.1) = false := by rfl) : PE X (.Call (.Attribute o name apos) (e :: es) [] cpos) (tBM K T r to t) := by
  subst hK
  exact pe_bm pa slot hty hm ho ha hbase hfew hline hst hpl
theorem r_ext {H H0 : Hp} {Q : VK} {L : List (Addr × HO)} {l b : Addr} {xs zs : List V} (o : Own H0 H L) (n m : Nat) (h : L[n]? = some (l, .lst xs)) (h2 : L[m]? = some (b, .lst zs)) (hz : xs.length + zs.length ≤ 10000000) (k : ∀ H', Own H0 H' (L.set n (l, .lst (xs ++ zs))) → Q .non H') : rExtend (.ref l) [.ref b] H Q :=
  ⟨l, b, xs, zs, rfl, rfl, o.at n h, o.at m h2, sz100 hz, k _ (o.set n h)⟩
theorem take_flat {α β : Type} {f : α → List β} {zs : List α} {i : Nat} {z : α} (h : zs[i]? = some z) : (zs.take (i + 1)).flatMap f = (zs.take i).flatMap f ++ f z := by
  rw [List.take_add_one, h, List.flatMap_append]
  simp
theorem get_ints {ns : List Int} {i : Nat} {x : V} (h : (ns.map V.int)[i]? = some x) : ∃ z, ns[i]? = some z ∧ x = .int z := by
  rw [List.getElem?_map] at h
  cases h2 : ns[i]? with
  | none => rw [h2] at h; cases h
  | some v => rw [h2] at h; cases h; exact ⟨v, rfl, rfl⟩
theorem r_bmE {K : PySem.W.Frag} {T : String} {f : V → List V → Hp → VK → Prop} {te : TE} {tr : TA} {σ : L2.St} {H : Hp} {Q : VK} (q : te σ H fun x H1 => tyV K T x H1 ∧ tr σ H1 fun vs H2 => f x vs H2 Q) : tBM K T f te tr σ H Q := q
theorem pe_callD0 {X : Cx} {k : Nat} {sp : Sp} {x : Str} {p pos : Pos} (G : Def X.prog X.w X.K X.mg X.base CX0 k x [] sp) (hr : Room k X.A) (hg : Gl X x := by rfl) (hdb : (x == ("__debug__" : Str)) = false := by decide) : PE X (.Call (.Name x p) [] [] pos) (tCall sp [] E0 tNil) := by
  obtain ⟨f, fd, F, hm, hk, hb⟩ := G.ex
  exact pe_call0 F hr hg hm hk hb .nil pass0 hdb
theorem pe_methD0 {X : Cx} {k : Nat} {ps : List Str} {sp : Sp} {C : Addr} {m : Str} {o : Expr} {apos pos : Pos} {ta : TE} {pl : Sem Bool} (he : PE X o ta) (c : Cls X.K C) (G : MDef X.prog X.w X.K X.mg X.base CX0 k C m ps sp) (hr : Room k X.A)
    (ht : eval (.Call (.Attribute o m apos) [] [] pos) X.env = (do
      let ov ← eval o X.env
      standAt apos.atName
      let (f, first) ← holding [ov] (getMethod ov m pl)
      callWith pos f first (backTo pos (starEach [] X.env)) (backToKw pos (keywordEach [] X.env))) := by rfl) :
    PE X (.Call (.Attribute o m apos) [] [] pos) (tMeth C m sp [] E0 ta tNil) := by
  obtain ⟨f, fd, F, M, hb⟩ := G.ex
  exact pe_meth0 he c M F hr hb .nil pass0 ht
end RD
namespace My
open PySem PySem.Spec PyProof.Rows L2 RD
local macro_rules | `(tactic| walk_at "sq") => `(tactic| (first
  | assumption
  | exact Own.sqL (by assumption) 0 (by exact rfl)
  | exact Own.sqL (by assumption) 1 (by exact rfl)
  | exact Own.sqL (by assumption) 2 (by exact rfl)
  | exact Own.sqL (by assumption) 3 (by exact rfl)
  | exact Own.sqL (by assumption) 4 (by exact rfl)
  | exact Own.sqL (by assumption) 5 (by exact rfl)
  | exact Own.sqL (by assumption) 6 (by exact rfl)
  | exact Own.sqL (by assumption) 7 (by exact rfl)
  | exact Own.sqL (by assumption) 8 (by exact rfl)
  | exact Own.sqL (by assumption) 9 (by exact rfl)
  | exact Own.sqL (by assumption) 10 (by exact rfl)
  | exact Own.sqL (by assumption) 11 (by exact rfl)
  | exact Own.sqL (by assumption) 12 (by exact rfl)
  | exact Own.sqL (by assumption) 13 (by exact rfl)
  | exact Own.sqL (by assumption) 14 (by exact rfl)
  | exact Own.sqL (by assumption) 15 (by exact rfl)
  | exact Own.sqL (by assumption) 16 (by exact rfl)
  | exact Own.old (by assumption) (by assumption)))
local macro_rules | `(tactic| walk_at "sqT") => `(tactic| (first
  | assumption
  | exact Own.sqT (by assumption) 0 (by exact rfl)
  | exact Own.sqT (by assumption) 1 (by exact rfl)
  | exact Own.sqT (by assumption) 2 (by exact rfl)
  | exact Own.sqT (by assumption) 3 (by exact rfl)
  | exact Own.sqT (by assumption) 4 (by exact rfl)
  | exact Own.sqT (by assumption) 5 (by exact rfl)
  | exact Own.sqT (by assumption) 6 (by exact rfl)
  | exact Own.sqT (by assumption) 7 (by exact rfl)
  | exact Own.sqT (by assumption) 8 (by exact rfl)
  | exact Own.sqT (by assumption) 9 (by exact rfl)
  | exact Own.sqT (by assumption) 10 (by exact rfl)
  | exact Own.sqT (by assumption) 11 (by exact rfl)
  | exact Own.sqT (by assumption) 12 (by exact rfl)
  | exact Own.sqT (by assumption) 13 (by exact rfl)
  | exact Own.sqT (by assumption) 14 (by exact rfl)
  | exact Own.sqT (by assumption) 15 (by exact rfl)
  | exact Own.sqT (by assumption) 16 (by exact rfl)
  | exact Own.oldT (by assumption) (by assumption)))
local macro_rules | `(tactic| walk_at "at") => `(tactic| (first
  | assumption
  | exact Own.at (by assumption) 0 (by exact rfl)
  | exact Own.at (by assumption) 1 (by exact rfl)
  | exact Own.at (by assumption) 2 (by exact rfl)
  | exact Own.at (by assumption) 3 (by exact rfl)
  | exact Own.at (by assumption) 4 (by exact rfl)
  | exact Own.at (by assumption) 5 (by exact rfl)
  | exact Own.at (by assumption) 6 (by exact rfl)
  | exact Own.at (by assumption) 7 (by exact rfl)
  | exact Own.at (by assumption) 8 (by exact rfl)
  | exact Own.at (by assumption) 9 (by exact rfl)
  | exact Own.at (by assumption) 10 (by exact rfl)
  | exact Own.at (by assumption) 11 (by exact rfl)
  | exact Own.at (by assumption) 12 (by exact rfl)
  | exact Own.at (by assumption) 13 (by exact rfl)
  | exact Own.at (by assumption) 14 (by exact rfl)
  | exact Own.at (by assumption) 15 (by exact rfl)
  | exact Own.at (by assumption) 16 (by exact rfl)))
/-! ### the words -/
local macro_rules | `(tactic| walk_at "rd1") => `(tactic| (first
  | with_reducible refine r_seq ?_
  | with_reducible refine r_asg ?_
  | with_reducible refine r_name ?_
  | ((with_reducible refine r_var (v := ?_) ?h ?_); (case h => exact rfl))
  | with_reducible refine r_c ?_
  | with_reducible refine r_op ?_
  | with_reducible refine r_I0 ?_
  | with_reducible refine r_un ?_
  | with_reducible refine r_U ?_
  | with_reducible refine r_eqI ?_
  | with_reducible refine r_neI ?_
  | with_reducible refine r_eqS ?_
  | with_reducible refine r_neS ?_
  | with_reducible refine r_test ?_
  | with_reducible refine r_tB ?_
  | with_reducible refine r_bl ?_
  | with_reducible refine r_and ?_
  | with_reducible refine r_or ?_
  | with_reducible refine r_not ?_
  | with_reducible refine r_andV ?_
  | with_reducible refine r_orV ?_
  | with_reducible refine r_notV ?_
  | with_reducible refine r_ifE ?_
  | with_reducible refine r_ifS ?_
  | with_reducible refine r_ret ?_
  | with_reducible refine r_retN ?_
  | with_reducible refine r_drop ?_
  | with_reducible refine r_next ?_
  | with_reducible refine r_break ?_
  | with_reducible refine r_cont ?_
  | with_reducible refine r_nil ?_
  | with_reducible refine r_cons ?_
  | with_reducible refine r_tup ?_
  | with_reducible refine r_lst ?_
  | with_reducible refine r_CB ?_
  | with_reducible refine r_call ?_
  | with_reducible refine r_sl ?_
  | with_reducible refine r_par ?_
  | with_reducible refine r_make ?_
  | with_reducible refine r_meth ?_
  | with_reducible refine r_fldq ?_
  | with_reducible refine r_sfld ?_
  | with_reducible refine r_nopart ?_
  | with_reducible refine r_part ?_
  | with_reducible refine r_pt ?_
  | ((with_reducible refine r_aug (x := ?_) ?h ?_); (case h => exact rfl))
  | with_reducible refine r_ipI ?_
  | ((with_reducible refine r_isi (T := ?_) (b := true) ?t ?k ?_); (case t => first | exact ty_int | exact ty_str | exact ty_non | exact ty_list (by walk_at "at") | exact ty_tup (by walk_at "at") | exact ty_sqT (by assumption) | exact ty_sqL (by assumption)); (case k => decide +kernel))
  | ((with_reducible refine r_isi (T := ?_) (b := false) ?t ?k ?_); (case t => first | exact ty_int | exact ty_str | exact ty_non | exact ty_list (by walk_at "at") | exact ty_tup (by walk_at "at") | exact ty_sqT (by assumption) | exact ty_sqL (by assumption)); (case k => decide +kernel))
  | with_reducible refine rif_t ?_
  | with_reducible refine rif_f ?_
  | with_reducible refine rif_nt ?_
  | with_reducible refine rif_nf ?_
  | with_reducible refine r_for ?_
  | with_reducible refine r_rng1 ?_
  | with_reducible refine r_rng2 ?_
  | with_reducible refine r_rng3 ?_
  | with_reducible refine r_iL ?_
  | with_reducible refine r_iT ?_
  | with_reducible refine r_lc ?_
  | with_reducible refine r_lc2 ?_
  | with_reducible refine r_sl3 ?_
  | ((with_reducible refine r_I ?c ?_); (case c => first | exact ⟨by decide, by decide⟩ | exact ⟨by decide, by decide, by decide⟩ | exact ⟨by decide, by decide, by omega⟩ | (show (0 : Int) < _; decide) | exact .inr ⟨by decide, by decide⟩ | exact .inl ⟨by decide, by decide⟩ | assumption | exact .inl ⟨by omega, by omega⟩ | exact .inr ⟨by omega, by omega⟩ | (show (0 : Int) < _; omega) | exact ⟨by omega, by omega⟩))
  | ((with_reducible refine r_bm (l := ?_) ?h ?t ?_); (case h => exact rfl); (case t => exact ty_lst (by walk_at "at")))
  | with_reducible refine r_int ?_
  | ((with_reducible refine r_lenS ?z ?_); (case z => first | omega | (simp; done)))
  | ((with_reducible refine r_slS ?z ?_); (case z => omega))
  | ((with_reducible refine r_addS ?z ?_); (case z => omega))
  | with_reducible refine r_zipA ?_
  | with_reducible refine r_max2 ?_
  | with_reducible refine r_min2 ?_
  | with_reducible refine r_isNonN ?_
  | with_reducible refine r_isNonR ?_
  | with_reducible refine r_isNonI ?_
  | with_reducible refine r_notNonN ?_
  | with_reducible refine r_notNonR ?_
  | with_reducible refine r_notNonI ?_
  | with_reducible refine r_chain ?_
  | with_reducible refine r_isB ?_
  | ((with_reducible refine r_ixI (ns := ?_) ?h ?b0 ?b1 ?_); (case h => walk_at "sq"); (case b0 => omega); (case b1 => first | omega | (simp; done) | (simp; omega)))
  | ((with_reducible refine r_ixIT (ns := ?_) ?h ?b0 ?b1 ?_); (case h => walk_at "sqT"); (case b0 => omega); (case b1 => first | omega | (simp; done) | (simp; omega)))
  | ((with_reducible refine r_ixqL (ns := ?_) ?h ?b0 ?b1 ?_); (case h => walk_at "sq"); (case b0 => omega); (case b1 => first | omega | (simp; done) | (simp; omega)))
  | ((with_reducible refine r_ixqT (ns := ?_) ?h ?b0 ?b1 ?_); (case h => walk_at "sqT"); (case b0 => omega); (case b1 => first | omega | (simp; done) | (simp; omega)))
  | ((with_reducible refine r_sum (ns := ?_) ?h ?_); (case h => walk_at "sq"))
  | ((with_reducible refine r_eqSame (ns := ?_) ?h ?h2 ?_); (case h => walk_at "sq"); (case h2 => walk_at "sq"))
  | ((with_reducible refine r_neSame (ns := ?_) ?h ?h2 ?_); (case h => walk_at "sq"); (case h2 => walk_at "sq"))
  | with_reducible refine r_intB ?_
  | ((with_reducible refine r_len (xs := ?_) ?h ?_); (case h => walk_at "sq"))
  | ((with_reducible refine r_lenT (xs := ?_) ?h ?_); (case h => walk_at "sqT"))
  | ((with_reducible refine r_gTup2 (x := ?_) (y := ?_) ?h ?_); (case h => walk_at "sqT"))
  | with_reducible refine r_bmE ?_
  | with_reducible refine r_set ?_))
local macro_rules | `(tactic| walk_at "rd") => `(tactic| (repeat' (walk_at "rd1")))
/-! ### zip of two or three sequences, each a list (false) or a tuple (true) -/
section
variable {prog : Program} {w : World} {A : Around} {E : Value → Shared → Prop} {s : Shared}
def HIt (k : Bool) (h : Heap) (it l : Addr) (i : Nat) : Prop := match k with | true => h.IsTupleIter it l i | false => h.IsListIter it l i
def HSq (k : Bool) (h : Heap) (l : Addr) (xs : Array Value) : Prop := match k with | true => h.IsTuple l xs | false => h.IsList l xs
def itTy (k : Bool) : String := match k with | true => "tuple_iterator" | false => "list_iterator"
def SqK (K : PySem.W.Frag) (k : Bool) (H : Hp) (a : Addr) (xs : List V) : Prop := match k with | true => SqT K H a xs | false => SqL K H a xs
theorem HIt.at {k : Bool} {h h' : Heap} {it l : Addr} {i : Nat} (x : HIt k h it l i) (e : ∀ o, h.get? it = some o → h'.get? it = some o) : HIt k h' it l i := by
  cases k
  · exact Heap.IsListIter.at x e
  · exact Heap.IsTupleIter.at x e
theorem HIt.obj {k : Bool} {h : Heap} {it l : Addr} {i : Nat} (x : HIt k h it l i) : ∃ o, h.get? it = some o ∧ ∀ v, o.data ≠ .cell v := by
  cases k
  · obtain ⟨o, e, _, d⟩ := (show h.IsListIter it l i from x)
    exact ⟨o, e, fun v z => by rw [d] at z; cases z⟩
  · obtain ⟨o, e, _, d⟩ := (show h.IsTupleIter it l i from x)
    exact ⟨o, e, fun v z => by rw [d] at z; cases z⟩
theorem HIt.lt {k : Bool} {h : Heap} {it l : Addr} {i : Nat} (x : HIt k h it l i) : it < h.objs.size := by
  obtain ⟨o, e, _⟩ := x.obj
  exact Heap.lt_size e
theorem HSq.lt {k : Bool} {h : Heap} {l : Addr} {xs : Array Value} (x : HSq k h l xs) : l < h.objs.size := by
  cases k
  · obtain ⟨o, e, _⟩ := (show h.IsList l xs from x)
    exact Heap.lt_size e
  · obtain ⟨o, e, _⟩ := (show h.IsTuple l xs from x)
    exact Heap.lt_size e
theorem drawsK (k : Bool) (hh : A.handled = none) {it l : Addr} (hne : l ≠ it) (items : Array Value) :
    Draws prog w A it [it, l] items.size (fun i v => items[i]? = some v) (fun i h => HIt k h it l i ∧ HSq k h l items) := by
  cases k
  · exact Draws.list hh it l hne items
  · refine ⟨fun i h st => ?_, fun i h h' st hk => ?_, fun i s Q E hi st hQ => ?_, fun s Q E st hE => ?_⟩
    · obtain ⟨o, ho, _⟩ := HIt.obj st.1
      exact ⟨o, ho⟩
    · exact ⟨st.1.at fun o e => hk it (by simp) o e, Heap.IsTuple.at st.2 fun o e => hk l (by simp) o e⟩
    · have st2 := (show s.heap.IsTuple l items from st.2)
      refine RZ.nextOf_tuple_item st.1 st2 (x := items[i]) (by simp [hi]) fun h1 it1 sb => ?_
      exact hQ _ h1 s.toks (by simp [hi]) ⟨it1, Heap.IsTuple.extBut st2 sb.extBut hne⟩ sb
    · exact RZ.nextOf_tuple_end hh st.1 st.2 (by simp) hE
def itO (k : Bool) (l : Addr) : Obj := { cls := .type (itTy k), data := .fields #[.ref l, .int 0 0] }
theorem iterK {k : Bool} {l : Addr} {items : Array Value} {Q : Value → Shared → Prop} (hl : HSq k s.heap l items) (h : Q (.ref s.heap.objs.size) { s with heap := s.heap.push (itO k l) }) : wpAny (model prog w) A (pyIter (.ref l)) Q E s := by
  cases k
  · exact wpAny_pyIter_list hl h
  · exact wpAny_pyIter_tuple hl h
theorem HSq.push {k : Bool} {h : Heap} {l : Addr} {xs : Array Value} (x : HSq k h l xs) (o : Obj) : HSq k (h.push o) l xs := by
  cases k
  · exact Heap.IsList.push x o
  · exact Heap.IsTuple.push x o
theorem HIt.mk0 {k : Bool} {h : Heap} {it l : Addr} (e : h.get? it = some (itO k l)) : HIt k h it l 0 := by
  cases k
  · exact ⟨_, e, rfl, rfl⟩
  · exact ⟨_, e, rfl, rfl⟩
def zA (h : Heap) (k1 : Bool) (l1 : Addr) : Heap := h.push (itO k1 l1)
def zB (h : Heap) (k1 k2 : Bool) (l1 l2 : Addr) : Heap := (zA h k1 l1).push (itO k2 l2)
def zC (h : Heap) (k1 k2 : Bool) (l1 l2 : Addr) : Heap := (zB h k1 k2 l1 l2).push { cls := .type "tuple", data := .seq #[.ref h.objs.size, .ref (zA h k1 l1).objs.size] }
def zD (h : Heap) (k1 k2 : Bool) (l1 l2 : Addr) : Heap := (zC h k1 k2 l1 l2).push { cls := .type "tuple", data := .seq #[.none, .none] }
def zE (h : Heap) (k1 k2 : Bool) (l1 l2 : Addr) : Heap := (zD h k1 k2 l1 l2).push { cls := .type "zip", data := .fields #[.none, .bool false, .bool false, .ref (zB h k1 k2 l1 l2).objs.size, .ref (zC h k1 k2 l1 l2).objs.size] }
theorem zip_new2 (k1 k2 : Bool) (l1 l2 : Addr) (xs ys : Array Value) :
    Meets (Builtin.«zip.__new__» ⟨[.type "zip", .ref l1, .ref l2], []⟩) (fun _ R s => HSq k1 s.heap l1 xs ∧ HSq k2 s.heap l2 ys ∧
      R (.ok (.ret (.ref (zD s.heap k1 k2 l1 l2).objs.size))) { s with heap := zE s.heap k1 k2 l1 l2 }) :=
  .of_wp fun prog w A R s h => by
    obtain ⟨hp, g, d, tk, os⟩ := s
    obtain ⟨q1, q2, h⟩ := h
    have hsub := sub_zip
    have p1 : HSq k1 (Shared.heap ⟨hp, g, d, tk, os⟩) l1 xs := q1
    have p2 : HSq k2 (Shared.heap ⟨hp.push (itO k1 l1), g, d, tk, os⟩) l2 ys := HSq.push q2 _
    wp_walk using iterK p1, iterK p2
    exact ⟨_, rfl, h⟩
theorem zip_call2 {k1 k2 : Bool} {l1 l2 : Addr} {xs ys : Array Value} {Q : Value → Shared → Prop} (q1 : HSq k1 s.heap l1 xs) (q2 : HSq k2 s.heap l2 ys)
    (h : ∀ h' n, n = s.heap.objs.size → IsZip h' (n + 4) (n + 2) (n + 3) .none → IsTupOf2 h' (n + 2) (.ref n) (.ref (n + 1)) → IsTupOf2 h' (n + 3) .none .none → HIt k1 h' n l1 0 → HIt k2 h' (n + 1) l2 0 →
      (∀ c o, s.heap.get? c = some o → h'.get? c = some o) → Q (.ref (n + 4)) { s with heap := h' }) :
    wpAny (model prog w) A (call (.type "zip") [.ref l1, .ref l2]) Q E s := by
  refine callType_new F.called_zip (by decide) (F.typeCall_zip_2 _ _) (F.newCall_zip_2 _ _) (fun obj => F.args_object_init_3 obj _ _) F.entry_zip_new (zip_new2 k1 k2 l1 l2 xs ys) ⟨q1, q2, ?_⟩
  have eA : (zA s.heap k1 l1).objs.size = s.heap.objs.size + 1 := Heap.size_push ..
  have eB : (zB s.heap k1 k2 l1 l2).objs.size = s.heap.objs.size + 2 := by unfold zB; rw [Heap.size_push, eA]
  have eC : (zC s.heap k1 k2 l1 l2).objs.size = s.heap.objs.size + 3 := by unfold zC; rw [Heap.size_push, eB]
  have eD : (zD s.heap k1 k2 l1 l2).objs.size = s.heap.objs.size + 4 := by unfold zD; rw [Heap.size_push, eC]
  have uE : ∀ c o, (zD s.heap k1 k2 l1 l2).get? c = some o → (zE s.heap k1 k2 l1 l2).get? c = some o := fun c o e => Heap.get?_push_of_some _ e
  have uD : ∀ c o, (zC s.heap k1 k2 l1 l2).get? c = some o → (zE s.heap k1 k2 l1 l2).get? c = some o := fun c o e => uE c o (Heap.get?_push_of_some _ e)
  have uC : ∀ c o, (zB s.heap k1 k2 l1 l2).get? c = some o → (zE s.heap k1 k2 l1 l2).get? c = some o := fun c o e => uD c o (Heap.get?_push_of_some _ e)
  have uB : ∀ c o, (zA s.heap k1 l1).get? c = some o → (zE s.heap k1 k2 l1 l2).get? c = some o := fun c o e => uC c o (Heap.get?_push_of_some _ e)
  have uA : ∀ c o, s.heap.get? c = some o → (zE s.heap k1 k2 l1 l2).get? c = some o := fun c o e => uB c o (Heap.get?_push_of_some _ e)
  have gE : (zE s.heap k1 k2 l1 l2).get? (zD s.heap k1 k2 l1 l2).objs.size = some _ := Heap.get?_push_size _ rfl
  have gD : (zE s.heap k1 k2 l1 l2).get? (zC s.heap k1 k2 l1 l2).objs.size = some _ := uE _ _ (Heap.get?_push_size _ rfl)
  have gC : (zE s.heap k1 k2 l1 l2).get? (zB s.heap k1 k2 l1 l2).objs.size = some _ := uD _ _ (Heap.get?_push_size _ rfl)
  have gB : (zE s.heap k1 k2 l1 l2).get? (zA s.heap k1 l1).objs.size = some _ := uC _ _ (Heap.get?_push_size _ rfl)
  have gA : (zE s.heap k1 k2 l1 l2).get? s.heap.objs.size = some _ := uB _ _ (Heap.get?_push_size _ rfl)
  rw [eD, eB, eC] at gE
  rw [eB, eA] at gC
  rw [eC] at gD
  rw [eA] at gB
  show _ ∧ _
  rw [eD]
  exact ⟨⟨_, gE, rfl⟩, h _ _ rfl gE gC gD (HIt.mk0 gA) (HIt.mk0 gB) uA⟩
theorem typeCall_zip3 (a b c : Value) : checkTypeCall "zip" ⟨[a, b, c], []⟩ = pure () := by kernel_rfl
theorem newCall_zip3 (a b c : Value) : checkBuiltinCall "zip.__new__" ⟨[.type "zip", a, b, c], []⟩ = pure () := by kernel_rfl
theorem args_object_init4 (a b c d : Value) : argsOk "object.__init__" ⟨[a, b, c, d], []⟩ := by
  unfold argsOk
  rw [signature?_of (id := "object.__init__") (n := ['_', '_', 't', 'i', 'n', 'i', '_', '_']) (o := ['t', 'c', 'e', 'j', 'b', 'o']) (by kernel_rfl) F.owner_object]
  kernel_rfl
def yB (h : Heap) (k1 k2 k3 : Bool) (l1 l2 l3 : Addr) : Heap := (zB h k1 k2 l1 l2).push (itO k3 l3)
def yC (h : Heap) (k1 k2 k3 : Bool) (l1 l2 l3 : Addr) : Heap := (yB h k1 k2 k3 l1 l2 l3).push { cls := .type "tuple", data := .seq #[.ref h.objs.size, .ref (zA h k1 l1).objs.size, .ref (zB h k1 k2 l1 l2).objs.size] }
def yD (h : Heap) (k1 k2 k3 : Bool) (l1 l2 l3 : Addr) : Heap := (yC h k1 k2 k3 l1 l2 l3).push { cls := .type "tuple", data := .seq #[.none, .none, .none] }
def yE (h : Heap) (k1 k2 k3 : Bool) (l1 l2 l3 : Addr) : Heap := (yD h k1 k2 k3 l1 l2 l3).push { cls := .type "zip", data := .fields #[.none, .bool false, .bool false, .ref (yB h k1 k2 k3 l1 l2 l3).objs.size, .ref (yC h k1 k2 k3 l1 l2 l3).objs.size] }
theorem zip_new3 (k1 k2 k3 : Bool) (l1 l2 l3 : Addr) (xs ys zs : Array Value) :
    Meets (Builtin.«zip.__new__» ⟨[.type "zip", .ref l1, .ref l2, .ref l3], []⟩) (fun _ R s => HSq k1 s.heap l1 xs ∧ HSq k2 s.heap l2 ys ∧ HSq k3 s.heap l3 zs ∧
      R (.ok (.ret (.ref (yD s.heap k1 k2 k3 l1 l2 l3).objs.size))) { s with heap := yE s.heap k1 k2 k3 l1 l2 l3 }) :=
  .of_wp fun prog w A R s h => by
    obtain ⟨hp, g, d, tk, os⟩ := s
    obtain ⟨q1, q2, q3, h⟩ := h
    have hsub := sub_zip
    have p1 : HSq k1 (Shared.heap ⟨hp, g, d, tk, os⟩) l1 xs := q1
    have p2 : HSq k2 (Shared.heap ⟨hp.push (itO k1 l1), g, d, tk, os⟩) l2 ys := HSq.push q2 _
    have p3 : HSq k3 (Shared.heap ⟨(hp.push (itO k1 l1)).push (itO k2 l2), g, d, tk, os⟩) l3 zs := HSq.push (HSq.push q3 _) _
    wp_walk using iterK p1, iterK p2, iterK p3
    exact ⟨_, rfl, h⟩
theorem zip_call3 {k1 k2 k3 : Bool} {l1 l2 l3 : Addr} {xs ys zs : Array Value} {Q : Value → Shared → Prop} (q1 : HSq k1 s.heap l1 xs) (q2 : HSq k2 s.heap l2 ys) (q3 : HSq k3 s.heap l3 zs)
    (h : ∀ h' n, n = s.heap.objs.size → IsZip h' (n + 5) (n + 3) (n + 4) .none → IsTupOf3 h' (n + 3) (.ref n) (.ref (n + 1)) (.ref (n + 2)) → IsTupOf3 h' (n + 4) .none .none .none → HIt k1 h' n l1 0 → HIt k2 h' (n + 1) l2 0 → HIt k3 h' (n + 2) l3 0 →
      (∀ c o, s.heap.get? c = some o → h'.get? c = some o) → Q (.ref (n + 5)) { s with heap := h' }) :
    wpAny (model prog w) A (call (.type "zip") [.ref l1, .ref l2, .ref l3]) Q E s := by
  refine callType_new F.called_zip (by decide) (typeCall_zip3 _ _ _) (newCall_zip3 _ _ _) (fun obj => args_object_init4 obj _ _ _) F.entry_zip_new (zip_new3 k1 k2 k3 l1 l2 l3 xs ys zs) ⟨q1, q2, q3, ?_⟩
  have eA : (zA s.heap k1 l1).objs.size = s.heap.objs.size + 1 := Heap.size_push ..
  have eB : (zB s.heap k1 k2 l1 l2).objs.size = s.heap.objs.size + 2 := by unfold zB; rw [Heap.size_push, eA]
  have eF : (yB s.heap k1 k2 k3 l1 l2 l3).objs.size = s.heap.objs.size + 3 := by unfold yB; rw [Heap.size_push, eB]
  have eC : (yC s.heap k1 k2 k3 l1 l2 l3).objs.size = s.heap.objs.size + 4 := by unfold yC; rw [Heap.size_push, eF]
  have eD : (yD s.heap k1 k2 k3 l1 l2 l3).objs.size = s.heap.objs.size + 5 := by unfold yD; rw [Heap.size_push, eC]
  have uE : ∀ c o, (yD s.heap k1 k2 k3 l1 l2 l3).get? c = some o → (yE s.heap k1 k2 k3 l1 l2 l3).get? c = some o := fun c o e => Heap.get?_push_of_some _ e
  have uD : ∀ c o, (yC s.heap k1 k2 k3 l1 l2 l3).get? c = some o → (yE s.heap k1 k2 k3 l1 l2 l3).get? c = some o := fun c o e => uE c o (Heap.get?_push_of_some _ e)
  have uF : ∀ c o, (yB s.heap k1 k2 k3 l1 l2 l3).get? c = some o → (yE s.heap k1 k2 k3 l1 l2 l3).get? c = some o := fun c o e => uD c o (Heap.get?_push_of_some _ e)
  have uC : ∀ c o, (zB s.heap k1 k2 l1 l2).get? c = some o → (yE s.heap k1 k2 k3 l1 l2 l3).get? c = some o := fun c o e => uF c o (Heap.get?_push_of_some _ e)
  have uB : ∀ c o, (zA s.heap k1 l1).get? c = some o → (yE s.heap k1 k2 k3 l1 l2 l3).get? c = some o := fun c o e => uC c o (Heap.get?_push_of_some _ e)
  have uA : ∀ c o, s.heap.get? c = some o → (yE s.heap k1 k2 k3 l1 l2 l3).get? c = some o := fun c o e => uB c o (Heap.get?_push_of_some _ e)
  have gE : (yE s.heap k1 k2 k3 l1 l2 l3).get? (yD s.heap k1 k2 k3 l1 l2 l3).objs.size = some _ := Heap.get?_push_size _ rfl
  have gD : (yE s.heap k1 k2 k3 l1 l2 l3).get? (yC s.heap k1 k2 k3 l1 l2 l3).objs.size = some _ := uE _ _ (Heap.get?_push_size _ rfl)
  have gC : (yE s.heap k1 k2 k3 l1 l2 l3).get? (yB s.heap k1 k2 k3 l1 l2 l3).objs.size = some _ := uD _ _ (Heap.get?_push_size _ rfl)
  have gF : (yE s.heap k1 k2 k3 l1 l2 l3).get? (zB s.heap k1 k2 l1 l2).objs.size = some _ := uF _ _ (Heap.get?_push_size _ rfl)
  have gB : (yE s.heap k1 k2 k3 l1 l2 l3).get? (zA s.heap k1 l1).objs.size = some _ := uC _ _ (Heap.get?_push_size _ rfl)
  have gA : (yE s.heap k1 k2 k3 l1 l2 l3).get? s.heap.objs.size = some _ := uB _ _ (Heap.get?_push_size _ rfl)
  rw [eD, eF, eC] at gE
  rw [eF, eA, eB] at gC
  rw [eC] at gD
  rw [eB] at gF
  rw [eA] at gB
  show _ ∧ _
  rw [eD]
  exact ⟨⟨_, gE, rfl⟩, h _ _ rfl gE gC gD (HIt.mk0 gA) (HIt.mk0 gB) (HIt.mk0 gF) uA⟩
end
section
variable {X : Cx} {pins : List (Addr × Obj)} {σ : L2.St} {H : Hp} {s : Shared}
theorem seqK {k : Bool} {a : Addr} {xs : List V} (I : Inv X pins σ H s) (h : SqK X.K k H a xs) : ∃ its : List Value, Vals xs its ∧ HSq k s.heap a its.toArray := by
  cases k
  · obtain ⟨its, r, p, _⟩ := I.list (show SqL X.K H a xs from h)
    exact ⟨its, r, p.isList⟩
  · obtain ⟨its, r, p, _⟩ := I.tuple (show SqT X.K H a xs from h)
    exact ⟨its, r, p⟩
theorem seqK_inj {k : Bool} {a : Addr} {xs ys : List V} (I : Inv X pins σ H s) (h : SqK X.K k H a xs) (h' : SqK X.K k H a ys) : xs = ys := by
  cases k
  · exact I.list_inj (show SqL X.K H a xs from h) h'
  · exact I.tuple_inj (show SqT X.K H a xs from h) h'
theorem hd_in1 {A : Around} (h : A.handled = none) : A.in1.handled = none := h
end
/-- two sequences as they stand at each turn, the items in new pairs -/
def It2 (K : PySem.W.Frag) (k1 k2 : Bool) (a b : Addr) : It :=
  ⟨fun i H => ∃ (xs ys : List V), SqK K k1 H a xs ∧ SqK K k2 H b ys ∧ i < xs.length ∧ i < ys.length,
    fun i H v H' => ∃ T x y, v = .ref T ∧ H T = none ∧ H' = upd H T (.tup [x, y]) ∧ (∀ xs, SqK K k1 H a xs → xs[i]? = some x) ∧ (∀ ys, SqK K k2 H b ys → ys[i]? = some y),
    fun i H => ∃ xs ys : List V, SqK K k1 H a xs ∧ SqK K k2 H b ys ∧ i ≤ xs.length ∧ i ≤ ys.length ∧ (i = xs.length ∨ i = ys.length)⟩
structure Ap2 (n z TI TO i1 i2 a b : Addr) : Prop where
  e0 : i1 = n
  e1 : i2 = n + 1
  e2 : TI = n + 2
  e3 : TO = n + 3
  e4 : z = n + 4
  la : a < n
  lb : b < n
theorem nin2 {z i a : Nat} (h : z ≠ i ∧ z ≠ a) : z ∉ [i, a] := by
  intro h2
  rcases List.mem_cons.mp h2 with e | h2
  · exact h.1 e
  · exact h.2 (List.mem_singleton.mp h2)
theorem sepN (n a b : Nat) (la : a < n) (lb : b < n) : ZipSep2 (n + 4) (n + 2) (n + 3) n (n + 1) [n, a] [n + 1, b] where
  TIz := show @Ne Nat _ _ by omega
  TOz := show @Ne Nat _ _ by omega
  TITO := show @Ne Nat _ _ by omega
  TIi1 := show @Ne Nat _ _ by omega
  mem1 := List.mem_cons_self
  zf1 := nin2 (by omega)
  Tf1 := nin2 (by omega)
  TIi2 := show @Ne Nat _ _ by omega
  mem2 := List.mem_cons_self
  zf2 := nin2 (by omega)
  Tf2 := nin2 (by omega)
  sep1_2 := nin2 (by omega)
  sep2_1 := nin2 (by omega)
theorem Ap2.sep {n z TI TO i1 i2 a b : Addr} (D : Ap2 n z TI TO i1 i2 a b) : ZipSep2 z TI TO i1 i2 [i1, a] [i2, b] := by
  obtain ⟨rfl, rfl, rfl, rfl, rfl, la, lb⟩ := D
  exact sepN _ a b la lb
theorem Ap2.na {n z TI TO i1 i2 a b : Addr} (D : Ap2 n z TI TO i1 i2 a b) : a ≠ i1 := by
  rw [D.e0]
  exact Nat.ne_of_lt D.la
theorem Ap2.nb {n z TI TO i1 i2 a b : Addr} (D : Ap2 n z TI TO i1 i2 a b) : b ≠ i2 := by
  rw [D.e1]
  exact Nat.ne_of_lt (Nat.lt_succ_of_lt D.lb)
theorem vals_of : ∀ {xs : List V} {us : List Value} {i : Nat} {u : Value}, Vals xs us → us[i]? = some u → ∃ x, xs[i]? = some x ∧ RelV x u
  | _, _, _, _, .nil, e => by simp at e
  | _, _, 0, _, .cons r _, e => by
    have e' := Option.some.inj e
    subst e'
    exact ⟨_, rfl, r⟩
  | _, _, i + 1, u, .cons _ t, e => by
    obtain ⟨x, h1, h2⟩ := vals_of (i := i) (u := u) t e
    exact ⟨x, h1, h2⟩
theorem turn2 {P : Program} {w : World} {K : PySem.W.Frag} {k1 k2 : Bool} {elts : List Expr} {kk : Nat} {tpos : Pos} {n a b z TI TO i1 i2 : Addr} (D : Ap2 n z TI TO i1 i2 a b) :
    Turn P w K (.Tuple elts kk tpos) (It2 K k1 k2 a b) [z, TI, TO, i1, i2] z (fun i h => IsZip h z TI TO .none ∧ IsTupOf2 h TI (.ref i1) (.ref i2) ∧ (∃ x y, IsTupOf2 h TO x y) ∧ HIt k1 h i1 a i ∧ HIt k2 h i2 b i) := by
  have S := D.sep
  have na := D.na
  have nb := D.nb
  refine ⟨by simp, fun i h st c hc => ?_, fun i h h' st k => ?_, ?_, ?_, fun A i s Q E st h => wpAny_pyIter_zip st.1 h⟩
  · obtain ⟨z1, z2, ⟨x, y, z3⟩, z4, z5⟩ := st
    simp only [List.mem_cons, List.not_mem_nil, or_false] at hc
    rcases hc with q | q | q | q | q <;> rw [q]
    · exact ⟨_, z1, fun v q => nomatch q⟩
    · exact ⟨_, z2, fun v q => nomatch q⟩
    · exact ⟨_, z3, fun v q => nomatch q⟩
    · exact z4.obj
    · exact z5.obj
  · obtain ⟨z1, z2, ⟨x, y, z3⟩, z4, z5⟩ := st
    exact ⟨k z (by simp) _ z1, k TI (by simp) _ z2, ⟨x, y, k TO (by simp) _ z3⟩, z4.at fun o q => k i1 (by simp) o q, z5.at fun o q => k i2 (by simp) o q⟩
  · intro X hP hw hK hc i pins s σ H E I hf st hg
    subst hP hw hK
    obtain ⟨z1, z2, ⟨x0, y0, z3⟩, z4, z5⟩ := st
    obtain ⟨xs, ys, sx, sy, hx, hy⟩ := hg
    obtain ⟨its, rv, p⟩ := seqK I sx
    obtain ⟨its2, rv2, p2⟩ := seqK I sy
    have hh := hd_in1 (I.ok.hd hc)
    have l1 := rv.length
    have l2 := rv2.length
    have zlt : z < s.heap.objs.size := Heap.lt_size z1
    have lti : ∀ c ∈ [z, TI, TO, i1, i2], c < s.heap.objs.size := fun c hcm => by
      simp only [List.mem_cons, List.not_mem_nil, or_false] at hcm
      rcases hcm with q | q | q | q | q <;> rw [q]
      · exact zlt
      · exact Heap.lt_size z2
      · exact Heap.lt_size z3
      · exact z4.lt
      · exact z5.lt
    refine wpAny_pyNext_zipD2_item S (drawsK k1 hh na its.toArray) (drawsK k2 hh nb its2.toArray) z1 z2 z3 ⟨z4, p⟩ ⟨z5, p2⟩ (by simp; omega) (by simp; omega) fun u1 u2 h' tk hu1 hu2 g1 g2 g3 g4 g5 g6 g7 => ?_
    refine ⟨_, rfl, wpAny_letOwnedTupleGo_zip (s := { s with heap := h', toks := tk }) g1 fun h2 y1 sb => ?_⟩
    have hu1' : its[i]? = some u1 := by simpa using hu1
    have hu2' : its2[i]? = some u2 := by simpa using hu2
    obtain ⟨x, hx1, r1⟩ := vals_of rv hu1'
    obtain ⟨y, hy1, r2⟩ := vals_of rv2 hu2'
    have eT : h2.get? s.heap.objs.size = some { cls := .type "tuple", data := .seq #[u1, u2] } := (sb.2 _ (Nat.ne_of_gt zlt)).trans g5
    have new : ObjOk X.prog X.w (upd H s.heap.objs.size (.tup [x, y])) h2 s.heap.objs.size (.tup [x, y]) :=
      ⟨by show 2 ≤ sizeLine; decide, [u1, u2], .cons r1 (.cons r2 .nil), ⟨_, eT, rfl, _, rfl⟩⟩
    have kept : ∀ c o, c ∉ [z, TI, TO, i1, i2] → s.heap.get? c = some o → h2.get? c = some o := fun c o hb q => by
      simp only [List.mem_cons, List.not_mem_nil, or_false, not_or] at hb
      exact (sb.2 c hb.1).trans (g7 c o hb.1 hb.2.2.1 hb.2.2.2.1 hb.2.2.2.2 q)
    have I1 : Inv X pins σ (upd H s.heap.objs.size (.tup [x, y])) { s with heap := h2, toks := tk } := I.turnedNew (t' := tk) kept hf (Nat.le_refl _) new
    refine ⟨.ref s.heap.objs.size, _, I1, rfl, ⟨_, x, y, rfl, I.hok.fresh (Nat.le_refl _), rfl, fun l hl => by rw [seqK_inj I hl sx]; exact hx1, fun l hl => by rw [seqK_inj I hl sy]; exact hy1⟩, ⟨y1, ?_, ⟨u1, u2, ?_⟩, ?_, ?_⟩, fun c hcm => ?_⟩
    · exact (sb.2 _ S.TIz).trans (g7 _ _ S.TIz S.TITO S.TIi1 S.TIi2 z2)
    · exact (sb.2 _ S.TOz).trans g2
    · exact g3.1.at fun o q => (sb.2 _ S.zi1.symm).trans q
    · exact g4.1.at fun o q => (sb.2 _ S.zi2.symm).trans q
    · rw [upd_ne (Nat.ne_of_lt (lti c hcm))]
      exact (hf c hcm).1
  · intro X hP hw hK hc i pins s σ H E I hf st hg
    subst hP hw hK
    obtain ⟨z1, z2, ⟨x0, y0, z3⟩, z4, z5⟩ := st
    obtain ⟨xs, ys, sx, sy, hx, hy, he⟩ := hg
    obtain ⟨its, rv, p⟩ := seqK I sx
    obtain ⟨its2, rv2, p2⟩ := seqK I sy
    have hh := hd_in1 (I.ok.hd hc)
    have l1 := rv.length
    have l2 := rv2.length
    refine wpAny_pyNext_zipD2_end S (drawsK k1 hh na its.toArray) (drawsK k2 hh nb its2.toArray) z1 z2 z3 ⟨z4, p⟩ ⟨z5, p2⟩ (by simp; omega) (by simp; omega) (by simp; omega) fun h' tk g7 => ⟨rfl, ?_⟩
    refine I.turnedL (t' := tk) (ch := [z, TI, TO, i1, i2]) (fun c o hb q => ?_) hf
    simp only [List.mem_cons, List.not_mem_nil, or_false, not_or] at hb
    exact g7 c o hb.1 hb.2.2.1 hb.2.2.2.1 hb.2.2.2.2 q
def iZip2 (K : PySem.W.Frag) (k1 k2 : Bool) (ta : TA) : TI := fun σ H R => ta σ H fun vs H1 => ∃ a b xs ys, vs = [.ref a, .ref b] ∧ SqK K k1 H1 a xs ∧ SqK K k2 H1 b ys ∧ R (It2 K k1 k2 a b) H1
theorem pi_zip2 {X : Cx} {k1 k2 : Bool} {e e2 : Expr} {ta : TA} {p pos tpos : Pos} {elts : List Expr} {kk : Nat} (hg : Gl X "zip") (hm : X.mg "zip" = none) (ha : PA X [e, e2] ta)
    (hst : starEach [e, e2] X.env = (false, eval e X.env) :: starEach [e2] X.env := by rfl) (hpl : (backTo pos (starEach [e2] X.env)).any (·.1) = false := by rfl) :
    PI X (.Tuple elts kk tpos) (.Call (.Name "zip" p) [e, e2] [] pos) (iZip2 X.K k1 k2 ta) := by
  refine ⟨fun pins s σ H R I h => ?_⟩
  refine Call_ (ld_blt I hg hm PyProof.Rows.boot_zip (PyProof.Rows.callWith_type1 (thn (ha.run pos pins s σ H _ I h) fun us s1 ⟨vs, H1, I1, r1, q1⟩ => ?_) hst hpl))
  obtain ⟨a, b, xs, ys, ex, qx, qy, q⟩ := q1
  subst ex
  obtain ⟨its, rv, p1⟩ := seqK I1 qx
  obtain ⟨its2, rv2, p2⟩ := seqK I1 qy
  cases r1 with
  | cons r rr =>
    cases rr with
    | cons r' rr =>
      cases rr
      cases r
      cases r'
      refine zip_call2 p1 p2 fun h' n en g1 g2 g3 g4 g5 hk => wpAny_pyIter_zip g1 ?_
      have I2 : Inv X pins σ H1 { s1 with heap := h' } := I1.kept (t' := s1.toks) hk
      refine ⟨n + 4, [n + 4, n + 2, n + 3, n, n + 1], _, _, H1, rfl, I2, turn2 (n := n) ⟨rfl, rfl, rfl, rfl, rfl, by rw [en]; exact p1.lt, by rw [en]; exact p2.lt⟩, ⟨g1, g2, ⟨_, _, g3⟩, g4, g5⟩, fun c hcm => ?_, q⟩
      have hle : s1.heap.objs.size ≤ c := by
        simp only [List.mem_cons, List.not_mem_nil, or_false] at hcm
        have en' : (n : Nat) = s1.heap.objs.size := en
        rcases hcm with z | z | z | z | z <;> rw [z] <;> omega
      exact I1.fpOk hle (I1.hok.fresh hle)
/-! ### comprehensions whose items are data of tuples -/
theorem bools_inv {K : PySem.W.Frag} {H : Hp} : ∀ {vs : List V} {bs : List Bool}, TpAll K H vs (bs.map PyData.bool) → vs = bs.map V.bl
  | _, [], h => by cases h; rfl
  | _, b :: bs, h => by
    cases h with
    | cons a t => cases a; rw [bools_inv t]; rfl
theorem strs_inv {K : PySem.W.Frag} {H : Hp} : ∀ {vs : List V} {bs : List Str}, TpAll K H vs (bs.map PyData.str) → vs = bs.map V.str
  | _, [], h => by cases h; rfl
  | _, b :: bs, h => by
    cases h with
    | cons a t => cases a; rw [strs_inv t]; rfl
theorem bools_invF {K : PySem.W.Frag} {H : Hp} {α : Type} {vs : List V} {l : List α} {f : α → Bool} (h : TpAll K H vs (l.map fun x => PyData.bool (f x))) : vs = (l.map f).map V.bl := by
  refine bools_inv (K := K) (H := H) (bs := l.map f) ?_
  rw [List.map_map]
  exact h
theorem ints_invF {K : PySem.W.Frag} {H : Hp} {α : Type} {vs : List V} {l : List α} {f : α → Int} (h : TpAll K H vs (l.map fun x => PyData.int (f x))) : vs = (l.map f).map V.int := by
  refine TpAll.ints_inv (K := K) (H := H) (ns := l.map f) ?_
  rw [List.map_map]
  exact h
theorem TpAll.bools {K : PySem.W.Frag} {H : Hp} : ∀ bs : List Bool, TpAll K H (bs.map V.bl) (bs.map PyData.bool)
  | [] => .nil
  | b :: bs => .cons (.bl b) (TpAll.bools bs)
theorem TpAll.strs {K : PySem.W.Frag} {H : Hp} : ∀ bs : List Str, TpAll K H (bs.map V.str) (bs.map PyData.str)
  | [] => .nil
  | b :: bs => .cons (.str b) (TpAll.strs bs)
theorem rfm_all {α : Type} (n : Nat) (f : Nat → α) : (List.range n).filterMap (fun i => some (f i)) = (List.range n).map f := congrFun List.filterMap_eq_map _
theorem rfm_succ {α : Type} (n : Nat) (f : Nat → Option α) : (List.range (n + 1)).filterMap f = (List.range n).filterMap f ++ (f n).toList := by
  rw [List.range_succ, List.filterMap_append]
  congr 1
theorem range_map_get {α β : Type} (xs : List α) (f : α → β) (g : Nat → β) (h : ∀ i x, xs[i]? = some x → g i = f x) : (List.range xs.length).map g = xs.map f := by
  apply List.ext_getElem?
  intro i
  rw [List.getElem?_map, List.getElem?_map]
  by_cases hi : i < xs.length
  · rw [List.getElem?_range hi, List.getElem?_eq_getElem hi]
    exact congrArg some (h i _ (List.getElem?_eq_getElem hi))
  · rw [List.getElem?_eq_none (by rw [List.length_range]; omega), List.getElem?_eq_none (by omega)]
    rfl
theorem range_pick1 {α β : Type} (xs : List α) (f : α → β) : ∀ n, n ≤ xs.length → (List.range n).filterMap (fun i => (xs[i]?).map f) = (xs.take n).map f
  | 0, _ => rfl
  | n + 1, h => by
    rw [rfm_succ, range_pick1 xs f n (by omega), List.take_add_one, List.map_append, List.getElem?_eq_getElem (show n < xs.length by omega)]
    rfl
theorem range_pick {α β : Type} (xs : List α) (f : α → β) : (List.range xs.length).filterMap (fun i => (xs[i]?).map f) = xs.map f := by
  rw [range_pick1 xs f _ (Nat.le_refl _), List.take_length]
theorem gi_get {ns : List Int} {i : Nat} {x : Int} (h : ns[i]? = some x) : gi ns (i : Int) = x := by
  obtain ⟨h1, h2⟩ := List.getElem?_eq_some_iff.mp h
  rw [gi_nat h1]
  exact h2
section
variable {σ : L2.St} {H H0 : Hp} {Q : VK} {te : TE} {tt : TT} {g : TG} {j : Int} {K : PySem.W.Frag} {L : List (Addr × HO)} {J : It} {vs : List Nat}
/-- what a turn's target is to reach: the test and the item there -/
def CGo (K : PySem.W.Frag) (tt : TT) (te : TE) (vs : List Nat) (σ : L2.St) (od : Option PyData) (H' : Hp) (R : L2.St → Hp → Prop) : Prop :=
  ∀ σ2, wipe σ2 vs = wipe σ vs → (∀ Qb : Bool → Hp → Prop, (∀ H2, Same H' H2 → Qb od.isSome H2) → tt σ2 H' Qb) → (∀ d H2, od = some d → Same H' H2 → ∀ Qv : VK, RetD K H2 Qv d → te σ2 H2 Qv) → R σ2 H'
theorem lcJ (n : Nat) (sel : Nat → Option PyData) (o : Own H0 H L) (hz : n < 10000000)
    (hst : ∀ H' p zs, Own H0 H' ((p, .lst zs) :: L) → Stp H H' → J.stop n H')
    (hgo : ∀ i H' p zs, i < n → Own H0 H' ((p, .lst zs) :: L) → Stp H H' → J.go i H')
    (he : ∀ (i : Nat) (x : V) (p : Addr) (zs : List V) (H' H1 : Hp) (R : L2.St → Hp → Prop), i < n → Own H0 H' ((p, .lst zs) :: L) → Stp H H' → J.yld i H' x H1 → (Same H' H1 → CGo K tt te vs σ (sel i) H1 R) → g x (wipe σ vs) H1 R)
    (hs : ∀ i H' x H1, J.yld i H' x H1 → Same H' H1)
    (k : ∀ p H' zs, Stp H H' → Own H0 H' ((p, .lst zs) :: L) → TpAll K H' zs ((List.range n).filterMap sel) → Q (.ref p) H') : RLc J g tt te vs σ H Q := by
  intro P hP
  refine ⟨fun i m H' => m = n - i ∧ i ≤ n ∧ ∃ zs, Own H0 H' ((P, .lst zs) :: L) ∧ Stp H H' ∧ TpAll K H' zs ((List.range i).filterMap sel), ⟨n, rfl, Nat.zero_le _, [], o.new hP, .of (same_new hP), .nil⟩, ?_⟩
  rintro i m H' ⟨rfl, hi, zs, o', s', t'⟩
  by_cases hlt : i < n
  · refine .inr ⟨hgo i H' P zs hlt o' s', fun H2 => ∃ zs, Own H0 H2 ((P, .lst zs) :: L) ∧ Stp H H2 ∧ TpAll K H2 zs ((List.range (i + 1)).filterMap sel), fun H2 p2 => ⟨n - (i + 1), by omega, rfl, hlt, p2⟩, fun x H1 hy => ?_⟩
    have s1 := hs i H' x H1 hy
    refine he i x P zs H' H1 _ hlt o' s' hy fun _ σ2 hw ht hv => ⟨hw, ?_⟩
    have o1 := o'.mono s1
    refine ht _ fun H2 s2 => ?_
    have o2 := o1.mono s2
    have t2 := (t'.up (.of s1)).up (Stp.of s2)
    have hl := t2.len
    have hl2 := fm_le (List.range i) sel
    rw [List.length_range] at hl2
    cases e : sel i with
    | none =>
      show ∃ zs, _
      rw [rfm_succ, e]
      exact ⟨zs, o2, (s'.trans (.of s1)).trans (.of s2), by rw [Option.toList_none, List.append_nil]; exact t2⟩
    | some d =>
      refine iteT (B := ∃ zs, Own H0 H2 ((P, .lst zs) :: L) ∧ Stp H H2 ∧ TpAll K H2 zs ((List.range (i + 1)).filterMap sel)) (hv d H2 e s2 _ fun H4 v s4 tv => ?_)
      have o4 := o2.mono s4
      have s5 := Stp.set (u := .lst (zs ++ [v])) (o4.at 0 rfl)
      refine ⟨zs, o4.at 0 rfl, sz_lt (by omega), zs ++ [v], o4.set (v := .lst (zs ++ [v])) 0 rfl, (((s'.trans (.of s1)).trans (.of s2)).trans (.of s4)).trans s5, ?_⟩
      rw [rfm_succ, e]
      exact (((t2.up (.of s4)).snoc tv).up s5)
  · refine .inl ⟨?_, ?_⟩
    · have e : i = n := by omega
      subst e
      exact hst H' P zs o' s'
    · have e : i = n := by omega
      subst e
      exact k P H' zs s' o' t'
/-- over a tuple -/
theorem lcjT {a : Addr} {xs : List V} (sel : Nat → Option PyData) (o : Own H0 H L) (h1 : SqT K H a xs) (hz : xs.length < 10000000)
    (he : ∀ (i : Nat) (x : V) (p : Addr) (zs : List V) (H' : Hp) (R : L2.St → Hp → Prop), xs[i]? = some x → Own H0 H' ((p, .lst zs) :: L) → Stp H H' → CGo K tt te vs σ (sel i) H' R → g x (wipe σ vs) H' R)
    (k : ∀ p H' zs, Stp H H' → Own H0 H' ((p, .lst zs) :: L) → TpAll K H' zs ((List.range xs.length).filterMap sel) → Q (.ref p) H') :
    ∃ a', V.ref a = .ref a' ∧ (∃ xs, SqT K H a' xs) ∧ RLc (Itt K a') g tt te vs σ H Q := by
  refine ⟨a, rfl, ⟨xs, h1⟩, lcJ xs.length sel o hz (fun H' p zs _ s' => ⟨xs, s'.sq h1, Nat.le_refl _⟩) (fun i H' p zs hi _ s' => ⟨xs, _, s'.sq h1, List.getElem?_eq_getElem hi⟩) (fun i x p zs H' H1 R hi o' s' hy r => ?_) (fun i H' x H1 hy => by rw [hy.1]; exact Same.refl _) k⟩
  obtain ⟨e, hx⟩ := hy
  subst e
  exact he i x p zs H1 R (hx xs (s'.sq h1)) o' s' (r (Same.refl _))
/-- over a list -/
theorem lcjL {a : Addr} {xs : List V} (sel : Nat → Option PyData) (o : Own H0 H L) (h : ∀ H' p zs, Own H0 H' ((p, .lst zs) :: L) → SqL K H' a xs) (h1 : SqL K H a xs) (hz : xs.length < 10000000)
    (he : ∀ (i : Nat) (x : V) (p : Addr) (zs : List V) (H' : Hp) (R : L2.St → Hp → Prop), xs[i]? = some x → Own H0 H' ((p, .lst zs) :: L) → Stp H H' → CGo K tt te vs σ (sel i) H' R → g x (wipe σ vs) H' R)
    (k : ∀ p H' zs, Stp H H' → Own H0 H' ((p, .lst zs) :: L) → TpAll K H' zs ((List.range xs.length).filterMap sel) → Q (.ref p) H') :
    ∃ a', V.ref a = .ref a' ∧ (∃ xs, SqL K H a' xs) ∧ RLc (Itl K a') g tt te vs σ H Q := by
  refine ⟨a, rfl, ⟨xs, h1⟩, lcJ xs.length sel o hz (fun H' p zs o' _ => ⟨xs, h H' p zs o', Nat.le_refl _⟩) (fun i H' p zs hi o' s' => ⟨xs, _, h H' p zs o', List.getElem?_eq_getElem hi⟩) (fun i x p zs H' H1 R hi o' s' hy r => ?_) (fun i H' x H1 hy => by rw [hy.1]; exact Same.refl _) k⟩
  obtain ⟨e, hx⟩ := hy
  subst e
  exact he i x p zs H1 R (hx xs (h H1 p zs o')) o' s' (r (Same.refl _))
/-- over range(n) -/
theorem lcjR {n : Nat} (sel : Nat → Option PyData) (o : Own H0 H L) (hn : j = (n : Int)) (hz : n < 10000000)
    (he : ∀ (i : Nat) (p : Addr) (zs : List V) (H' : Hp) (R : L2.St → Hp → Prop), i < n → Own H0 H' ((p, .lst zs) :: L) → Stp H H' → CGo K tt te vs σ (sel i) H' R → g (.int (i : Int)) (wipe σ vs) H' R)
    (k : ∀ p H' zs, Stp H H' → Own H0 H' ((p, .lst zs) :: L) → TpAll K H' zs ((List.range n).filterMap sel) → Q (.ref p) H') :
    ∃ k : Int, [V.int j] = [.int k] ∧ -(2 ^ 62) ≤ k ∧ k < 2 ^ 62 ∧ RLc (Itr 0 k.toNat) g tt te vs σ H Q := by
  refine ⟨j, rfl, by omega, by omega, ?_⟩
  have e : j.toNat = n := by omega
  rw [e]
  refine lcJ n sel o hz (fun H' p zs _ _ => Nat.le_refl _) (fun i H' p zs hi _ _ => hi) (fun i x p zs H' H1 R hi o' s' hy r => ?_) (fun i H' x H1 hy => by rw [hy.1]; exact Same.refl _) k
  obtain ⟨e, rfl⟩ := hy
  subst e
  have e0 : (0 : Int) + (i : Int) = (i : Int) := Int.zero_add _
  rw [e0]
  exact he i p zs H1 R hi o' s' (r (Same.refl _))
/-- over zip of two tuples, the shorter one ends it -/
theorem lcjZ {a b : Addr} {xs ys : List V} {n : Nat} (sel : Nat → Option PyData) (o : Own H0 H L) (h1 : SqT K H a xs) (h2 : SqT K H b ys) (hn : n = min xs.length ys.length) (hz : n < 10000000)
    (he : ∀ (i : Nat) (x y : V) (T : Addr) (p : Addr) (zs : List V) (H' : Hp) (R : L2.St → Hp → Prop), xs[i]? = some x → ys[i]? = some y → SqT K H' T [x, y] → Own H0 H' ((p, .lst zs) :: L) → Stp H H' → CGo K tt te vs σ (sel i) H' R → g (.ref T) (wipe σ vs) H' R)
    (k : ∀ p H' zs, Stp H H' → Own H0 H' ((p, .lst zs) :: L) → TpAll K H' zs ((List.range n).filterMap sel) → Q (.ref p) H') :
    RZipA K [.ref a, .ref b] H fun J H1 => RLc J g tt te vs σ H1 Q := by
  refine ⟨a, b, xs, ys, rfl, .inr ⟨h1, h2, lcJ n sel o hz (fun H' p zs _ s' => ⟨xs, ys, s'.sq h1, s'.sq h2, by omega⟩) (fun i H' p zs hi _ s' => ⟨xs, ys, _, _, s'.sq h1, s'.sq h2, List.getElem?_eq_getElem (by omega), List.getElem?_eq_getElem (by omega)⟩) (fun i x p zs H' H1 R hi o' s' hy r => ?_) (fun i H' x H1 hy => ?_) k⟩⟩
  · obtain ⟨T, u, v, rfl, hT, rfl, f1, f2⟩ := hy
    have s1 : Same H' (upd H' T (.tup [u, v])) := same_new hT
    exact he i u v T p zs _ R (f1 xs (s'.sq h1)) (f2 ys (s'.sq h2)) (SqT.of upd_same) (o'.mono s1) (s'.trans (.of s1)) (r s1)
  · obtain ⟨T, u, v, rfl, hT, rfl, f1, f2⟩ := hy
    exact same_new hT
/-- over zip of two lists -/
theorem lcjZL {a b : Addr} {xs ys : List V} {n : Nat} (sel : Nat → Option PyData) (o : Own H0 H L) (h : ∀ H' p zs, Own H0 H' ((p, .lst zs) :: L) → SqL K H' a xs ∧ SqL K H' b ys) (h1 : SqL K H a xs) (h2 : SqL K H b ys) (hn : n = min xs.length ys.length) (hz : n < 10000000)
    (he : ∀ (i : Nat) (x y : V) (T : Addr) (p : Addr) (zs : List V) (H' : Hp) (R : L2.St → Hp → Prop), xs[i]? = some x → ys[i]? = some y → SqT K H' T [x, y] → Own H0 H' ((p, .lst zs) :: L) → Stp H H' → CGo K tt te vs σ (sel i) H' R → g (.ref T) (wipe σ vs) H' R)
    (k : ∀ p H' zs, Stp H H' → Own H0 H' ((p, .lst zs) :: L) → TpAll K H' zs ((List.range n).filterMap sel) → Q (.ref p) H') :
    RZipA K [.ref a, .ref b] H fun J H1 => RLc J g tt te vs σ H1 Q := by
  refine ⟨a, b, xs, ys, rfl, .inl ⟨h1, h2, lcJ n sel o hz (fun H' p zs o' s' => ⟨xs, ys, (h H' p zs o').1, (h H' p zs o').2, by omega⟩) (fun i H' p zs hi o' s' => ⟨xs, ys, _, _, (h H' p zs o').1, (h H' p zs o').2, List.getElem?_eq_getElem (by omega), List.getElem?_eq_getElem (by omega)⟩) (fun i x p zs H' H1 R hi o' s' hy r => ?_) (fun i H' x H1 hy => ?_) k⟩⟩
  · obtain ⟨T, u, v, rfl, hT, rfl, f1, f2⟩ := hy
    have s1 : Same H' (upd H' T (.tup [u, v])) := same_new hT
    exact he i u v T p zs _ R (f1 xs (h H' p zs o').1) (f2 ys (h H' p zs o').2) (SqT.of upd_same) (o'.mono s1) (s'.trans (.of s1)) (r s1)
  · obtain ⟨T, u, v, rfl, hT, rfl, f1, f2⟩ := hy
    exact same_new hT
/-- enumerate(list) -/
theorem lcjE {a : Addr} {xs : List V} (sel : Nat → Option PyData) (o : Own H0 H L) (h : ∀ H' p zs, Own H0 H' ((p, .lst zs) :: L) → SqL K H' a xs) (h1 : SqL K H a xs) (hz : xs.length < 10000000)
    (he : ∀ (i : Nat) (x : V) (T : Addr) (p : Addr) (zs : List V) (H' : Hp) (R : L2.St → Hp → Prop), xs[i]? = some x → SqT K H' T [.int (i : Int), x] → Own H0 H' ((p, .lst zs) :: L) → Stp H H' → CGo K tt te vs σ (sel i) H' R → g (.ref T) (wipe σ vs) H' R)
    (k : ∀ p H' zs, Stp H H' → Own H0 H' ((p, .lst zs) :: L) → TpAll K H' zs ((List.range xs.length).filterMap sel) → Q (.ref p) H') :
    ∃ a' xs', [V.ref a] = [.ref a'] ∧ SqL K H a' xs' ∧ RLc (Ite K a') g tt te vs σ H Q := by
  refine ⟨a, xs, rfl, h1, lcJ xs.length sel o hz (fun H' p zs o' _ => ⟨xs, h H' p zs o', Nat.le_refl _⟩) (fun i H' p zs hi o' s' => ⟨xs, _, h H' p zs o', List.getElem?_eq_getElem hi⟩) (fun i x p zs H' H1 R hi o' s' hy r => ?_) (fun i H' x H1 hy => ?_) k⟩
  · obtain ⟨T, u, rfl, hT, rfl, f1⟩ := hy
    have s1 : Same H' (upd H' T (.tup [.int (i : Nat), u])) := same_new hT
    exact he i u T p zs _ R (f1 xs (h H' p zs o')) (SqT.of upd_same) (o'.mono s1) (s'.trans (.of s1)) (r s1)
  · obtain ⟨T, u, rfl, hT, rfl, f1⟩ := hy
    exact same_new hT
end
/-- three sequences as they stand at each turn, the items in new triples -/
def It3 (K : PySem.W.Frag) (k1 k2 k3 : Bool) (a b d : Addr) : It :=
  ⟨fun i H => ∃ (xs ys zs : List V), SqK K k1 H a xs ∧ SqK K k2 H b ys ∧ SqK K k3 H d zs ∧ i < xs.length ∧ i < ys.length ∧ i < zs.length,
    fun i H v H' => ∃ T x y u, v = .ref T ∧ H T = none ∧ H' = upd H T (.tup [x, y, u]) ∧ (∀ xs, SqK K k1 H a xs → xs[i]? = some x) ∧ (∀ ys, SqK K k2 H b ys → ys[i]? = some y) ∧ (∀ zs, SqK K k3 H d zs → zs[i]? = some u),
    fun i H => ∃ xs ys zs : List V, SqK K k1 H a xs ∧ SqK K k2 H b ys ∧ SqK K k3 H d zs ∧ i ≤ xs.length ∧ i ≤ ys.length ∧ i ≤ zs.length ∧ (i = xs.length ∨ i = ys.length ∨ i = zs.length)⟩
structure Ap3 (n z TI TO i1 i2 i3 a b d : Addr) : Prop where
  e0 : i1 = n
  e1 : i2 = n + 1
  e5 : i3 = n + 2
  e2 : TI = n + 3
  e3 : TO = n + 4
  e4 : z = n + 5
  la : a < n
  lb : b < n
  ld : d < n
theorem sepN3 (n a b d : Nat) (la : a < n) (lb : b < n) (ld : d < n) : ZipSep3 (n + 5) (n + 3) (n + 4) n (n + 1) (n + 2) [n, a] [n + 1, b] [n + 2, d] where
  TIz := show @Ne Nat _ _ by omega
  TOz := show @Ne Nat _ _ by omega
  TITO := show @Ne Nat _ _ by omega
  TIi1 := show @Ne Nat _ _ by omega
  mem1 := List.mem_cons_self
  zf1 := nin2 (by omega)
  Tf1 := nin2 (by omega)
  TIi2 := show @Ne Nat _ _ by omega
  mem2 := List.mem_cons_self
  zf2 := nin2 (by omega)
  Tf2 := nin2 (by omega)
  TIi3 := show @Ne Nat _ _ by omega
  mem3 := List.mem_cons_self
  zf3 := nin2 (by omega)
  Tf3 := nin2 (by omega)
  sep1_2 := nin2 (by omega)
  sep1_3 := nin2 (by omega)
  sep2_1 := nin2 (by omega)
  sep2_3 := nin2 (by omega)
  sep3_1 := nin2 (by omega)
  sep3_2 := nin2 (by omega)
theorem Ap3.sep {n z TI TO i1 i2 i3 a b d : Addr} (D : Ap3 n z TI TO i1 i2 i3 a b d) : ZipSep3 z TI TO i1 i2 i3 [i1, a] [i2, b] [i3, d] := by
  obtain ⟨rfl, rfl, rfl, rfl, rfl, rfl, la, lb, ld⟩ := D
  exact sepN3 _ a b d la lb ld
theorem Ap3.na {n z TI TO i1 i2 i3 a b d : Addr} (D : Ap3 n z TI TO i1 i2 i3 a b d) : a ≠ i1 := by
  rw [D.e0]
  exact Nat.ne_of_lt D.la
theorem Ap3.nb {n z TI TO i1 i2 i3 a b d : Addr} (D : Ap3 n z TI TO i1 i2 i3 a b d) : b ≠ i2 := by
  rw [D.e1]
  exact Nat.ne_of_lt (Nat.lt_succ_of_lt D.lb)
theorem Ap3.nd {n z TI TO i1 i2 i3 a b d : Addr} (D : Ap3 n z TI TO i1 i2 i3 a b d) : d ≠ i3 := by
  rw [D.e5]
  exact Nat.ne_of_lt (Nat.lt_succ_of_lt (Nat.lt_succ_of_lt D.ld))
theorem turn3 {P : Program} {w : World} {K : PySem.W.Frag} {k1 k2 k3 : Bool} {elts : List Expr} {kk : Nat} {tpos : Pos} {n a b d z TI TO i1 i2 i3 : Addr} (D : Ap3 n z TI TO i1 i2 i3 a b d) :
    Turn P w K (.Tuple elts kk tpos) (It3 K k1 k2 k3 a b d) [z, TI, TO, i1, i2, i3] z (fun i h => IsZip h z TI TO .none ∧ IsTupOf3 h TI (.ref i1) (.ref i2) (.ref i3) ∧ (∃ x y u, IsTupOf3 h TO x y u) ∧ HIt k1 h i1 a i ∧ HIt k2 h i2 b i ∧ HIt k3 h i3 d i) := by
  have S := D.sep
  have na := D.na
  have nb := D.nb
  have nd := D.nd
  refine ⟨by simp, fun i h st c hc => ?_, fun i h h' st k => ?_, ?_, ?_, fun A i s Q E st h => wpAny_pyIter_zip st.1 h⟩
  · obtain ⟨z1, z2, ⟨x, y, u, z3⟩, z4, z5, z6⟩ := st
    simp only [List.mem_cons, List.not_mem_nil, or_false] at hc
    rcases hc with q | q | q | q | q | q <;> rw [q]
    · exact ⟨_, z1, fun v q => nomatch q⟩
    · exact ⟨_, z2, fun v q => nomatch q⟩
    · exact ⟨_, z3, fun v q => nomatch q⟩
    · exact z4.obj
    · exact z5.obj
    · exact z6.obj
  · obtain ⟨z1, z2, ⟨x, y, u, z3⟩, z4, z5, z6⟩ := st
    exact ⟨k z (by simp) _ z1, k TI (by simp) _ z2, ⟨x, y, u, k TO (by simp) _ z3⟩, z4.at fun o q => k i1 (by simp) o q, z5.at fun o q => k i2 (by simp) o q, z6.at fun o q => k i3 (by simp) o q⟩
  · intro X hP hw hK hc i pins s σ H E I hf st hg
    subst hP hw hK
    obtain ⟨z1, z2, ⟨x0, y0, u0, z3⟩, z4, z5, z6⟩ := st
    obtain ⟨xs, ys, zs, sx, sy, sz, hx, hy, hz⟩ := hg
    obtain ⟨its, rv, p⟩ := seqK I sx
    obtain ⟨its2, rv2, p2⟩ := seqK I sy
    obtain ⟨its3, rv3, p3⟩ := seqK I sz
    have hh := hd_in1 (I.ok.hd hc)
    have l1 := rv.length
    have l2 := rv2.length
    have l3 := rv3.length
    have zlt : z < s.heap.objs.size := Heap.lt_size z1
    have lti : ∀ c ∈ [z, TI, TO, i1, i2, i3], c < s.heap.objs.size := fun c hcm => by
      simp only [List.mem_cons, List.not_mem_nil, or_false] at hcm
      rcases hcm with q | q | q | q | q | q <;> rw [q]
      · exact zlt
      · exact Heap.lt_size z2
      · exact Heap.lt_size z3
      · exact z4.lt
      · exact z5.lt
      · exact z6.lt
    refine wpAny_pyNext_zipD3_item S (drawsK k1 hh na its.toArray) (drawsK k2 hh nb its2.toArray) (drawsK k3 hh nd its3.toArray) z1 z2 z3 ⟨z4, p⟩ ⟨z5, p2⟩ ⟨z6, p3⟩ (by simp; omega) (by simp; omega) (by simp; omega) fun u1 u2 u3 h' tk hu1 hu2 hu3 g1 g2 g3 g4 g8 g5 g6 g7 => ?_
    refine ⟨_, rfl, wpAny_letOwnedTupleGo_zip (s := { s with heap := h', toks := tk }) g1 fun h2 y1 sb => ?_⟩
    have hu1' : its[i]? = some u1 := by simpa using hu1
    have hu2' : its2[i]? = some u2 := by simpa using hu2
    have hu3' : its3[i]? = some u3 := by simpa using hu3
    obtain ⟨x, hx1, r1⟩ := vals_of rv hu1'
    obtain ⟨y, hy1, r2⟩ := vals_of rv2 hu2'
    obtain ⟨u, hz1, r3⟩ := vals_of rv3 hu3'
    have eT : h2.get? s.heap.objs.size = some { cls := .type "tuple", data := .seq #[u1, u2, u3] } := (sb.2 _ (Nat.ne_of_gt zlt)).trans g5
    have new : ObjOk X.prog X.w (upd H s.heap.objs.size (.tup [x, y, u])) h2 s.heap.objs.size (.tup [x, y, u]) :=
      ⟨by show 3 ≤ sizeLine; decide, [u1, u2, u3], .cons r1 (.cons r2 (.cons r3 .nil)), ⟨_, eT, rfl, _, rfl⟩⟩
    have kept : ∀ c o, c ∉ [z, TI, TO, i1, i2, i3] → s.heap.get? c = some o → h2.get? c = some o := fun c o hb q => by
      simp only [List.mem_cons, List.not_mem_nil, or_false, not_or] at hb
      exact (sb.2 c hb.1).trans (g7 c o hb.1 hb.2.2.1 hb.2.2.2.1 hb.2.2.2.2.1 hb.2.2.2.2.2 q)
    have I1 : Inv X pins σ (upd H s.heap.objs.size (.tup [x, y, u])) { s with heap := h2, toks := tk } := I.turnedNew (t' := tk) kept hf (Nat.le_refl _) new
    refine ⟨.ref s.heap.objs.size, _, I1, rfl, ⟨_, x, y, u, rfl, I.hok.fresh (Nat.le_refl _), rfl, fun l hl => by rw [seqK_inj I hl sx]; exact hx1, fun l hl => by rw [seqK_inj I hl sy]; exact hy1, fun l hl => by rw [seqK_inj I hl sz]; exact hz1⟩, ⟨y1, ?_, ⟨u1, u2, u3, ?_⟩, ?_, ?_, ?_⟩, fun c hcm => ?_⟩
    · exact (sb.2 _ S.TIz).trans (g7 _ _ S.TIz S.TITO S.TIi1 S.TIi2 S.TIi3 z2)
    · exact (sb.2 _ S.TOz).trans g2
    · exact g3.1.at fun o q => (sb.2 _ S.zi1.symm).trans q
    · exact g4.1.at fun o q => (sb.2 _ S.zi2.symm).trans q
    · exact g8.1.at fun o q => (sb.2 _ S.zi3.symm).trans q
    · rw [upd_ne (Nat.ne_of_lt (lti c hcm))]
      exact (hf c hcm).1
  · intro X hP hw hK hc i pins s σ H E I hf st hg
    subst hP hw hK
    obtain ⟨z1, z2, ⟨x0, y0, u0, z3⟩, z4, z5, z6⟩ := st
    obtain ⟨xs, ys, zs, sx, sy, sz, hx, hy, hz, he⟩ := hg
    obtain ⟨its, rv, p⟩ := seqK I sx
    obtain ⟨its2, rv2, p2⟩ := seqK I sy
    obtain ⟨its3, rv3, p3⟩ := seqK I sz
    have hh := hd_in1 (I.ok.hd hc)
    have l1 := rv.length
    have l2 := rv2.length
    have l3 := rv3.length
    refine wpAny_pyNext_zipD3_end S (drawsK k1 hh na its.toArray) (drawsK k2 hh nb its2.toArray) (drawsK k3 hh nd its3.toArray) z1 z2 z3 ⟨z4, p⟩ ⟨z5, p2⟩ ⟨z6, p3⟩ (by simp; omega) (by simp; omega) (by simp; omega) (by simp; omega) fun h' tk g7 => ⟨rfl, ?_⟩
    refine I.turnedL (t' := tk) (ch := [z, TI, TO, i1, i2, i3]) (fun c o hb q => ?_) hf
    simp only [List.mem_cons, List.not_mem_nil, or_false, not_or] at hb
    exact g7 c o hb.1 hb.2.2.1 hb.2.2.2.1 hb.2.2.2.2.1 hb.2.2.2.2.2 q
def iZip3 (K : PySem.W.Frag) (k1 k2 k3 : Bool) (ta : TA) : TI := fun σ H R => ta σ H fun vs H1 => ∃ a b d xs ys zs, vs = [.ref a, .ref b, .ref d] ∧ SqK K k1 H1 a xs ∧ SqK K k2 H1 b ys ∧ SqK K k3 H1 d zs ∧ R (It3 K k1 k2 k3 a b d) H1
theorem pi_zip3 {X : Cx} {k1 k2 k3 : Bool} {e e2 e3 : Expr} {ta : TA} {p pos tpos : Pos} {elts : List Expr} {kk : Nat} (hg : Gl X "zip") (hm : X.mg "zip" = none) (ha : PA X [e, e2, e3] ta)
    (hst : starEach [e, e2, e3] X.env = (false, eval e X.env) :: starEach [e2, e3] X.env := by rfl) (hpl : (backTo pos (starEach [e2, e3] X.env)).any (·.1) = false := by rfl) :
    PI X (.Tuple elts kk tpos) (.Call (.Name "zip" p) [e, e2, e3] [] pos) (iZip3 X.K k1 k2 k3 ta) := by
  refine ⟨fun pins s σ H R I h => ?_⟩
  refine Call_ (ld_blt I hg hm PyProof.Rows.boot_zip (PyProof.Rows.callWith_type1 (thn (ha.run pos pins s σ H _ I h) fun us s1 ⟨vs, H1, I1, r1, q1⟩ => ?_) hst hpl))
  obtain ⟨a, b, d, xs, ys, zs, ex, qx, qy, qz, q⟩ := q1
  subst ex
  obtain ⟨its, rv, p1⟩ := seqK I1 qx
  obtain ⟨its2, rv2, p2⟩ := seqK I1 qy
  obtain ⟨its3, rv3, p3⟩ := seqK I1 qz
  cases r1 with
  | cons r rr =>
    cases rr with
    | cons r' rr =>
      cases rr with
      | cons r'' rr =>
        cases rr
        cases r
        cases r'
        cases r''
        refine zip_call3 p1 p2 p3 fun h' n en g1 g2 g3 g4 g5 g6 hk => wpAny_pyIter_zip g1 ?_
        have I2 : Inv X pins σ H1 { s1 with heap := h' } := I1.kept (t' := s1.toks) hk
        refine ⟨n + 5, [n + 5, n + 3, n + 4, n, n + 1, n + 2], _, _, H1, rfl, I2, turn3 (n := n) ⟨rfl, rfl, rfl, rfl, rfl, rfl, by rw [en]; exact p1.lt, by rw [en]; exact p2.lt, by rw [en]; exact p3.lt⟩, ⟨g1, g2, ⟨_, _, _, g3⟩, g4, g5, g6⟩, fun c hcm => ?_, q⟩
        have hle : s1.heap.objs.size ≤ c := by
          simp only [List.mem_cons, List.not_mem_nil, or_false] at hcm
          have en' : (n : Nat) = s1.heap.objs.size := en
          rcases hcm with z | z | z | z | z | z <;> rw [z] <;> omega
        exact I1.fpOk hle (I1.hok.fresh hle)
section
variable {σ : L2.St} {H H0 : Hp} {Q : VK} {te : TE} {tt : TT} {g : TG} {K : PySem.W.Frag} {L : List (Addr × HO)} {vs : List Nat} {tr : TA}
def RZ2 (K : PySem.W.Frag) (k1 k2 : Bool) (vs : List V) (H1 : Hp) (R : It → Hp → Prop) : Prop := ∃ a b xs ys, vs = [.ref a, .ref b] ∧ SqK K k1 H1 a xs ∧ SqK K k2 H1 b ys ∧ R (It2 K k1 k2 a b) H1
def RZ3 (K : PySem.W.Frag) (k1 k2 k3 : Bool) (vs : List V) (H1 : Hp) (R : It → Hp → Prop) : Prop := ∃ a b d xs ys zs, vs = [.ref a, .ref b, .ref d] ∧ SqK K k1 H1 a xs ∧ SqK K k2 H1 b ys ∧ SqK K k3 H1 d zs ∧ R (It3 K k1 k2 k3 a b d) H1
theorem r_z2 {k1 k2 : Bool} {R : It → Hp → Prop} (q : tr σ H fun vs H1 => RZ2 K k1 k2 vs H1 R) : iZip2 K k1 k2 tr σ H R := q
theorem r_z3 {k1 k2 k3 : Bool} {R : It → Hp → Prop} (q : tr σ H fun vs H1 => RZ3 K k1 k2 k3 vs H1 R) : iZip3 K k1 k2 k3 tr σ H R := q
/-- a comprehension over zip of two; sa, sb: that they stand -/
theorem lcj2 {k1 k2 : Bool} {a b : Addr} {xs ys : List V} {n : Nat} (sel : Nat → Option PyData) (o : Own H0 H L) (hq : ∀ H' p zs, Own H0 H' ((p, .lst zs) :: L) → Stp H H' → SqK K k1 H' a xs ∧ SqK K k2 H' b ys) (h1 : SqK K k1 H a xs) (h2 : SqK K k2 H b ys) (hn : n = min xs.length ys.length) (hz : n < 10000000)
    (he : ∀ (i : Nat) (x y : V) (T : Addr) (p : Addr) (zs : List V) (H' : Hp) (R : L2.St → Hp → Prop), xs[i]? = some x → ys[i]? = some y → SqT K H' T [x, y] → Own H0 H' ((p, .lst zs) :: L) → Stp H H' → CGo K tt te vs σ (sel i) H' R → g (.ref T) (wipe σ vs) H' R)
    (k : ∀ p H' zs, Stp H H' → Own H0 H' ((p, .lst zs) :: L) → TpAll K H' zs ((List.range n).filterMap sel) → Q (.ref p) H') :
    RZ2 K k1 k2 [.ref a, .ref b] H fun J H1 => RLc J g tt te vs σ H1 Q := by
  refine ⟨a, b, xs, ys, rfl, h1, h2, lcJ n sel o hz (fun H' p zs o' s' => ⟨xs, ys, (hq H' p zs o' s').1, (hq H' p zs o' s').2, by omega, by omega, by omega⟩) (fun i H' p zs hi o' s' => ⟨xs, ys, (hq H' p zs o' s').1, (hq H' p zs o' s').2, by omega, by omega⟩) (fun i x p zs H' H1 R hi o' s' hy r => ?_) (fun i H' x H1 hy => ?_) k⟩
  · obtain ⟨T, u, v, rfl, hT, rfl, f1, f2⟩ := hy
    have s1 : Same H' (upd H' T (.tup [u, v])) := same_new hT
    exact he i u v T p zs _ R (f1 xs (hq H' p zs o' s').1) (f2 ys (hq H' p zs o' s').2) (SqT.of upd_same) (o'.mono s1) (s'.trans (.of s1)) (r s1)
  · obtain ⟨T, u, v, rfl, hT, rfl, f1, f2⟩ := hy
    exact same_new hT
theorem lcj3 {k1 k2 k3 : Bool} {a b d : Addr} {xs ys us : List V} {n : Nat} (sel : Nat → Option PyData) (o : Own H0 H L) (hq : ∀ H' p zs, Own H0 H' ((p, .lst zs) :: L) → Stp H H' → SqK K k1 H' a xs ∧ SqK K k2 H' b ys ∧ SqK K k3 H' d us) (h1 : SqK K k1 H a xs) (h2 : SqK K k2 H b ys) (h3 : SqK K k3 H d us) (hn : n = min (min xs.length ys.length) us.length) (hz : n < 10000000)
    (he : ∀ (i : Nat) (x y u : V) (T : Addr) (p : Addr) (zs : List V) (H' : Hp) (R : L2.St → Hp → Prop), xs[i]? = some x → ys[i]? = some y → us[i]? = some u → SqT K H' T [x, y, u] → Own H0 H' ((p, .lst zs) :: L) → Stp H H' → CGo K tt te vs σ (sel i) H' R → g (.ref T) (wipe σ vs) H' R)
    (k : ∀ p H' zs, Stp H H' → Own H0 H' ((p, .lst zs) :: L) → TpAll K H' zs ((List.range n).filterMap sel) → Q (.ref p) H') :
    RZ3 K k1 k2 k3 [.ref a, .ref b, .ref d] H fun J H1 => RLc J g tt te vs σ H1 Q := by
  refine ⟨a, b, d, xs, ys, us, rfl, h1, h2, h3, lcJ n sel o hz (fun H' p zs o' s' => ?_) (fun i H' p zs hi o' s' => ?_) (fun i x p zs H' H1 R hi o' s' hy r => ?_) (fun i H' x H1 hy => ?_) k⟩
  · obtain ⟨q1, q2, q3⟩ := hq H' p zs o' s'
    exact ⟨xs, ys, us, q1, q2, q3, by omega, by omega, by omega, by omega⟩
  · obtain ⟨q1, q2, q3⟩ := hq H' p zs o' s'
    exact ⟨xs, ys, us, q1, q2, q3, by omega, by omega, by omega⟩
  · obtain ⟨q1, q2, q3⟩ := hq H' p zs o' s'
    obtain ⟨T, u, v, w, rfl, hT, rfl, f1, f2, f3⟩ := hy
    have s1 : Same H' (upd H' T (.tup [u, v, w])) := same_new hT
    exact he i u v w T p zs _ R (f1 xs q1) (f2 ys q2) (f3 us q3) (SqT.of upd_same) (o'.mono s1) (s'.trans (.of s1)) (r s1)
  · obtain ⟨T, u, v, w, rfl, hT, rfl, f1, f2, f3⟩ := hy
    exact same_new hT
end
/-! ### enumerate of any sequence -/
def eA (h : Heap) (k : Bool) (l : Addr) : Heap := h.push (itO k l)
def eB (h : Heap) (k : Bool) (l : Addr) : Heap := (eA h k l).push { cls := .type "enumerate", data := .fields #[.none, .bool false, .ref h.objs.size, rawInt 0, .none, .none] }
theorem enum_newK (k : Bool) (l : Addr) (items : Array Value) :
    Meets (Builtin.«enumerate.__new__» ⟨[.type "enumerate", .ref l], []⟩) (fun _ R s => HSq k s.heap l items ∧ (∃ o : Obj, s.heap.get? l = some o ∧ o.cls = .type (if k then "tuple" else "list") ∧ ∃ n, o.data = .seq items n) ∧
      R (.ok (.ret (.ref (eA s.heap k l).objs.size))) { s with heap := eB s.heap k l }) :=
  .of_wp fun prog w A R s h => by
    obtain ⟨hp, g, d, tk, os⟩ := s
    obtain ⟨q1, ⟨⟨c, dct, dt, sl⟩, hl, hc, n, hd⟩, h⟩ := h
    have hsub := sub_enumerate
    have p1 : HSq k (Shared.heap ⟨hp, g, d, tk, os⟩) l items := q1
    cases hc
    cases hd
    cases k
    all_goals
      wp_walk
      refine wpAny_stack_any fun st => wpAny_pure ?_
      split
      · rename_i c _ _ _ _ _
        cases (c == Value.type "enumerate")
        · wp_walk using wpAny_loadPart' hl, iterK p1
          exact ⟨_, rfl, h⟩
        · wp_walk using wpAny_loadPart' hl, iterK p1
          exact ⟨_, rfl, h⟩
      · wp_walk using wpAny_loadPart' hl, iterK p1
        exact ⟨_, rfl, h⟩
theorem HSq.obj {k : Bool} {h : Heap} {l : Addr} {xs : Array Value} (x : HSq k h l xs) : ∃ o : Obj, h.get? l = some o ∧ o.cls = .type (if k then "tuple" else "list") ∧ ∃ n, o.data = .seq xs n := by
  cases k
  · exact (show h.IsList l xs from x)
  · exact (show h.IsTuple l xs from x)
section
variable {prog : Program} {w : World} {A : Around} {E : Value → Shared → Prop} {s : Shared}
theorem enum_callK {k : Bool} {l : Addr} {items : Array Value} {Q : Value → Shared → Prop} (q1 : HSq k s.heap l items)
    (h : ∀ h' n, n = s.heap.objs.size → IsEnum h' (n + 1) n 0 .none → HIt k h' n l 0 → (∀ b o, s.heap.get? b = some o → h'.get? b = some o) → Q (.ref (n + 1)) { s with heap := h' }) :
    wpAny (model prog w) A (call (.type "enumerate") [.ref l]) Q E s := by
  refine callType_new F.called_enumerate (by decide) (F.typeCall_enumerate_1 _) (F.newCall_enumerate_1 _) (fun obj => F.args_object_init_2 obj _) F.entry_enumerate_new (enum_newK k l items) ⟨q1, q1.obj, ?_⟩
  have e1 : (eA s.heap k l).objs.size = s.heap.objs.size + 1 := Heap.size_push ..
  have uB : ∀ c o, (eA s.heap k l).get? c = some o → (eB s.heap k l).get? c = some o := fun c o e => Heap.get?_push_of_some _ e
  have g1 : (eB s.heap k l).get? (eA s.heap k l).objs.size = some _ := Heap.get?_push_size _ rfl
  rw [e1] at g1
  show _ ∧ _
  rw [e1]
  exact ⟨⟨_, g1, rfl⟩, h _ _ rfl g1 (HIt.mk0 (uB _ _ (Heap.get?_push_size _ rfl))) fun c o e => uB c o (Heap.get?_push_of_some _ e)⟩
end
/-- the sequence at a, each item in a new pair with its place -/
def ItE (K : PySem.W.Frag) (k : Bool) (a : Addr) : It :=
  ⟨fun i H => ∃ (xs : List V), SqK K k H a xs ∧ i < xs.length, fun i H v H' => ∃ T x, v = .ref T ∧ H T = none ∧ H' = upd H T (.tup [.int (i : Nat), x]) ∧ ∀ xs, SqK K k H a xs → xs[i]? = some x, fun i H => ∃ xs : List V, SqK K k H a xs ∧ i = xs.length⟩
theorem turnE {P : Program} {w : World} {K : PySem.W.Frag} {k : Bool} {elts : List Expr} {kk : Nat} {tpos : Pos} {a e it : Addr} (na : a ≠ it) (ne : e ≠ it) (nea : e ≠ a) :
    Turn P w K (.Tuple elts kk tpos) (ItE K k a) [e, it] e (fun i h => (∃ old, IsEnum h e it ((i : Nat) : Int) old) ∧ HIt k h it a i) := by
  refine ⟨by simp, fun i h st b hb => ?_, fun i h h' st kp => ?_, ?_, ?_, fun A i s Q E st h => by obtain ⟨⟨_, he⟩, _⟩ := st; exact wpAny_pyIter_enum he h⟩
  · obtain ⟨⟨old, he⟩, hi⟩ := st
    rcases List.mem_cons.mp hb with q | q
    · rw [q]; exact ⟨_, he, fun v q => nomatch q⟩
    · rw [List.mem_singleton.mp q]; exact hi.obj
  · obtain ⟨⟨old, he⟩, hi⟩ := st
    exact ⟨⟨old, kp e (by simp) _ he⟩, hi.at fun o q => kp it (by simp) o q⟩
  · intro X hP hw hK hc i pins s σ H E I hf st hg
    subst hP hw hK
    obtain ⟨⟨old, he⟩, hi⟩ := st
    obtain ⟨xs, sx, hx⟩ := hg
    obtain ⟨its, rv, p⟩ := seqK I sx
    have hh := hd_in1 (I.ok.hd hc)
    have l1 := rv.length
    have elt : e < s.heap.objs.size := Heap.lt_size he
    have ilt : it < s.heap.objs.size := hi.lt
    refine wpAny_pyNext_enum_itemD (drawsK k hh na its.toArray) he ⟨hi, p⟩ (by simp; omega) ne (nin2 ⟨ne, nea⟩) fun u h' tk hu ho st' hT hsz hk => ?_
    refine ⟨_, rfl, wpAny_letOwnedTupleGo_enum (s := { s with heap := h', toks := tk + 1 }) ho fun h2 he2 sb => ?_⟩
    have hu' : its[i]? = some u := by simpa using hu
    obtain ⟨x, hx1, r1⟩ := vals_of rv hu'
    have eT : h2.get? s.heap.objs.size = some { cls := .type "tuple", data := .seq #[.int i tk, u] } := (sb.2 _ (Nat.ne_of_gt elt)).trans hT
    have new : ObjOk X.prog X.w (upd H s.heap.objs.size (.tup [.int (i : Nat), x])) h2 s.heap.objs.size (.tup [.int (i : Nat), x]) :=
      ⟨by show 2 ≤ sizeLine; decide, [.int i tk, u], .cons ⟨_, rfl⟩ (.cons r1 .nil), ⟨_, eT, rfl, _, rfl⟩⟩
    have kept : ∀ c o, c ∉ [e, it] → s.heap.get? c = some o → h2.get? c = some o := fun c o hb q => by
      simp only [List.mem_cons, List.not_mem_nil, or_false, not_or] at hb
      exact (sb.2 c hb.1).trans (hk c o hb.1 hb.2 q)
    have I1 : Inv X pins σ (upd H s.heap.objs.size (.tup [.int (i : Nat), x])) { s with heap := h2, toks := tk + 1 } := I.turnedNew (t' := tk + 1) kept hf (Nat.le_refl _) new
    refine ⟨.ref s.heap.objs.size, _, I1, rfl, ⟨_, x, rfl, I.hok.fresh (Nat.le_refl _), rfl, fun l hl => by rw [seqK_inj I hl sx]; exact hx1⟩, ⟨⟨u, ?_⟩, st'.1.at fun o q => (sb.2 it (Ne.symm ne)).trans q⟩, fun c hcm => ?_⟩
    · have e1 : ((i + 1 : Nat) : Int) = (i : Int) + 1 := by omega
      rw [e1]
      exact he2
    · have clt : c < s.heap.objs.size := by
        rcases List.mem_cons.mp hcm with q | q
        · rw [q]; exact elt
        · rw [List.mem_singleton.mp q]; exact ilt
      rw [upd_ne (Nat.ne_of_lt clt)]
      exact (hf c hcm).1
  · intro X hP hw hK hc i pins s σ H E I hf st hg
    subst hP hw hK
    obtain ⟨⟨old, he⟩, hi⟩ := st
    obtain ⟨xs, sx, hx⟩ := hg
    obtain ⟨its, rv, p⟩ := seqK I sx
    have hh := hd_in1 (I.ok.hd hc)
    have l1 := rv.length
    have ei : i = its.toArray.size := by simp; omega
    refine wpAny_pyNext_enum_endD (drawsK k hh na its.toArray) he ⟨by rw [← ei]; exact hi, p⟩ fun h' eb => ⟨rfl, ?_⟩
    refine I.turnedL (t' := s.toks) (ch := [e, it]) (fun c o hb q => ?_) hf
    simp only [List.mem_cons, List.not_mem_nil, or_false, not_or] at hb
    exact eb c o hb.2 q
def iEnumK (K : PySem.W.Frag) (k : Bool) (ta : TA) : TI := fun σ H R => ta σ H fun vs H1 => ∃ a xs, vs = [.ref a] ∧ SqK K k H1 a xs ∧ R (ItE K k a) H1
theorem pi_enumK {X : Cx} {k : Bool} {e : Expr} {ta : TA} {p pos tpos : Pos} {elts : List Expr} {kk : Nat} (hg : Gl X "enumerate") (hm : X.mg "enumerate" = none) (ha : PA X [e] ta) (hst : starEach [e] X.env = [(false, eval e X.env)] := by rfl) :
    PI X (.Tuple elts kk tpos) (.Call (.Name "enumerate" p) [e] [] pos) (iEnumK X.K k ta) := by
  refine ⟨fun pins s σ H R I h => ?_⟩
  refine Call_ (ld_blt I hg hm boot_enumerate (PyProof.Rows.callWith_type1 (thn (ha.run pos pins s σ H _ I h) fun us s1 ⟨vs, H1, I1, r1, q1⟩ => ?_) hst rfl))
  obtain ⟨a, xs, ex, hq, q⟩ := q1
  subst ex
  obtain ⟨its, rv, p1⟩ := seqK I1 hq
  cases r1 with
  | cons r rr =>
    cases rr
    cases r
    refine enum_callK p1 fun h' n en g1 g2 hk => wpAny_pyIter_enum g1 ?_
    have I2 : Inv X pins σ H1 { s1 with heap := h' } := I1.kept (t' := s1.toks) hk
    have al : a < n := by rw [en]; exact p1.lt
    refine ⟨n + 1, [n + 1, n], _, _, H1, rfl, I2, turnE (Nat.ne_of_lt al) (Nat.succ_ne_self _) (Nat.ne_of_gt (Nat.lt_succ_of_lt al)), ⟨⟨.none, g1⟩, g2⟩, fun c hcm => ?_, q⟩
    have hle : s1.heap.objs.size ≤ c := by
      rcases List.mem_cons.mp hcm with z | z
      · rw [z, en]; exact Nat.le_succ _
      · rw [List.mem_singleton.mp z, en]; exact Nat.le_refl _
    exact I1.fpOk hle (I1.hok.fresh hle)
section
variable {σ : L2.St} {H H0 : Hp} {Q : VK} {te : TE} {tt : TT} {g : TG} {K : PySem.W.Frag} {L : List (Addr × HO)} {vs : List Nat} {tr : TA}
def REn (K : PySem.W.Frag) (k : Bool) (vs : List V) (H1 : Hp) (R : It → Hp → Prop) : Prop := ∃ a xs, vs = [.ref a] ∧ SqK K k H1 a xs ∧ R (ItE K k a) H1
theorem r_en {k : Bool} {R : It → Hp → Prop} (q : tr σ H fun vs H1 => REn K k vs H1 R) : iEnumK K k tr σ H R := q
theorem lcjEn {k : Bool} {a : Addr} {xs : List V} (sel : Nat → Option PyData) (o : Own H0 H L) (hq : ∀ H' p zs, Own H0 H' ((p, .lst zs) :: L) → Stp H H' → SqK K k H' a xs) (h1 : SqK K k H a xs) (hz : xs.length < 10000000)
    (he : ∀ (i : Nat) (x : V) (T : Addr) (p : Addr) (zs : List V) (H' : Hp) (R : L2.St → Hp → Prop), xs[i]? = some x → SqT K H' T [.int (i : Int), x] → Own H0 H' ((p, .lst zs) :: L) → Stp H H' → CGo K tt te vs σ (sel i) H' R → g (.ref T) (wipe σ vs) H' R)
    (kd : ∀ p H' zs, Stp H H' → Own H0 H' ((p, .lst zs) :: L) → TpAll K H' zs ((List.range xs.length).filterMap sel) → Q (.ref p) H') :
    REn K k [.ref a] H fun J H1 => RLc J g tt te vs σ H1 Q := by
  refine ⟨a, xs, rfl, h1, lcJ xs.length sel o hz (fun H' p zs o' s' => ⟨xs, hq H' p zs o' s', rfl⟩) (fun i H' p zs hi o' s' => ⟨xs, hq H' p zs o' s', hi⟩) (fun i x p zs H' H1 R hi o' s' hy r => ?_) (fun i H' x H1 hy => ?_) kd⟩
  · obtain ⟨T, u, rfl, hT, rfl, f1⟩ := hy
    have s1 : Same H' (upd H' T (.tup [.int (i : Nat), u])) := same_new hT
    exact he i u T p zs _ R (f1 xs (hq H' p zs o' s')) (SqT.of upd_same) (o'.mono s1) (s'.trans (.of s1)) (r s1)
  · obtain ⟨T, u, rfl, hT, rfl, f1⟩ := hy
    exact same_new hT
end
/-! ### a tuple times an int: once is the tuple itself, not at all the empty one -/
theorem tup_mul1 (l : Addr) (items : Array Value) (n : Nat) (dd : Option Addr) (sl : Array (Option Value)) (u : Tok) :
    Meets (Builtin.«tuple.__mul__» ⟨[.ref l, .int 1 u], []⟩) (fun _ R s => s.heap.get? l = some { cls := .type "tuple", dict := dd, data := .seq items n, slots := sl } ∧ R (.ok (.ret (.ref l))) s) :=
  .of_wp fun prog w A R s h => by
    obtain ⟨hp, g, d, tk, os⟩ := s
    obtain ⟨hl, h⟩ := h
    have f1 := AutoSeq1.idx_int
    have c1 : (items.isEmpty || (1 : Int) == 1) = true := by simp
    wp_walk using wpAny_loadPart' hl
    exact ⟨_, rfl, h⟩
theorem tup_mul0 (l : Addr) (items : Array Value) (n : Nat) (dd : Option Addr) (sl : Array (Option Value)) (u : Tok) (c1 : items.isEmpty = false) :
    Meets (Builtin.«tuple.__mul__» ⟨[.ref l, .int 0 u], []⟩) (fun _ R s => s.heap.get? l = some { cls := .type "tuple", dict := dd, data := .seq items n, slots := sl } ∧
      R (.ok (.ret (.ref s.heap.objs.size))) { s with heap := s.heap.push { cls := .type "tuple", data := .seq #[] } }) :=
  .of_wp fun prog w A R s h => by
    obtain ⟨hp, g, d, tk, os⟩ := s
    obtain ⟨hl, h⟩ := h
    have f1 := AutoSeq1.idx_int
    have c2 : (items.isEmpty || (0 : Int) == 1) = false := by rw [c1]; rfl
    wp_walk using wpAny_loadPart' hl
    repeat (first
      | (refine wpAny_ite_false (decide_eq_false (by rw [c2]; exact Bool.false_ne_true)) ?_; wp_walk using wpAny_loadPart' hl))
    exact ⟨_, rfl, h⟩
def rRepA (K : PySem.W.Frag) : R2 := fun x y H Q => ∃ l k xs, x = .ref l ∧ y = .int k ∧ SqT K H l xs ∧ xs ≠ [] ∧ 0 ≤ k ∧ k ≤ 1000 ∧ xs.length ≤ 1000 ∧ (k = 1 → Q (.ref l) H) ∧ (k ≠ 1 → ∀ p, H p = none → Q (.ref p) (upd H p (.tup (List.replicate k.toNat xs).flatten)))
theorem op_repA {X : Cx} : OpR X (binaryOp .Mult) (rRepA X.K) := by
  intro pins s σ H x y v u Q I rx ry h
  obtain ⟨l, k, xs, rfl, rfl, hT, hne, h1, h2, hz, q1, q⟩ := h
  by_cases hk1 : k = 1
  · subst hk1
    cases rx
    obtain ⟨t, rfl⟩ := ry
    obtain ⟨its, r, ⟨⟨cls, dd, data, sl⟩, ho, hc, n, hd⟩, hs⟩ := I.tuple hT
    simp only at hc hd
    subst hc hd
    refine wpAny_binaryOp_repeat_ref (T := "tuple") (U := "int") (by decide) ⟨_, ho, rfl⟩ (fun s' => typeIs_int s' 1 t) noFill_tuple_mul F.fills_int_mul F.slot_int_rmul repeat_tuple F.slot_int_index.lookup
      (call_meets F.slot_int_rmul (typeIs_int s 1 t) F.entry_int_rmul (F.args_int_rmul_2 _ _) (int_rmul_tuple 1 t l its.toArray n dd sl)
        ⟨ho, rfl, ⟨_, ho, rfl⟩, call_meets F.slot_tuple_mul ⟨_, ho, rfl⟩ F.entry_tuple_mul (F.args_tuple_mul_2 _ _) (tup_mul1 l its.toArray n dd sl t) ⟨ho, ?_⟩⟩)
    exact ⟨.ref l, H, I, rfl, q1 rfl⟩
  by_cases hk0 : k = 0
  · subst hk0
    cases rx
    obtain ⟨t, rfl⟩ := ry
    obtain ⟨its, r, ⟨⟨cls, dd, data, sl⟩, ho, hc, n, hd⟩, hs⟩ := I.tuple hT
    simp only at hc hd
    subst hc hd
    have hi : its.toArray.isEmpty = false := by
      have hl := r.length
      cases its with
      | nil => exact absurd (List.eq_nil_of_length_eq_zero hl) hne
      | cons a b => rfl
    refine wpAny_binaryOp_repeat_ref (T := "tuple") (U := "int") (by decide) ⟨_, ho, rfl⟩ (fun s' => typeIs_int s' 0 t) noFill_tuple_mul F.fills_int_mul F.slot_int_rmul repeat_tuple F.slot_int_index.lookup
      (call_meets F.slot_int_rmul (typeIs_int s 0 t) F.entry_int_rmul (F.args_int_rmul_2 _ _) (int_rmul_tuple 0 t l its.toArray n dd sl)
        ⟨ho, rfl, ⟨_, ho, rfl⟩, call_meets F.slot_tuple_mul ⟨_, ho, rfl⟩ F.entry_tuple_mul (F.args_tuple_mul_2 _ _) (tup_mul0 l its.toArray n dd sl t hi) ⟨ho, ?_⟩⟩)
    refine ⟨.ref s.heap.objs.size, _, I.laid (t' := s.toks) (o := .tup []) (fun b ob q => Heap.get?_push_of_some _ q) (Nat.le_refl _) ?_, rfl, q hk1 _ (I.hok.fresh (Nat.le_refl _))⟩
    exact ⟨Nat.zero_le _, _, .nil, IsTup.new _ _⟩
  · exact op_repT pins s σ H _ _ v u Q I rx ry ⟨l, k, xs, rfl, rfl, hT, hne, by omega, h2, hz, q hk1⟩
section
variable {H0 H : Hp} {Q : VK} {K : PySem.W.Frag} {L : List (Addr × HO)}
/-- (x,) * n -/
theorem r_repA {a : Addr} {x : V} {i : Int} {n : Nat} (o : Own H0 H L) (ha : SqT K H a [x]) (hi : i = (n : Int)) (hn : n ≤ 1000) (k : ∀ p H', Stp H H' → Own H0 H' L → SqT K H' p (List.replicate n x) → Q (.ref p) H') : rRepA K (.ref a) (.int i) H Q := by
  subst hi
  refine ⟨a, _, [x], rfl, rfl, ha, by simp, by omega, by omega, by simp, fun e => ?_, fun e p hp => ?_⟩
  · have en : n = 1 := by omega
    subst en
    exact k a H (.refl _) o ha
  · have e2 : (List.replicate (n : Int).toNat [x]).flatten = List.replicate n x := by
      rw [show (n : Int).toNat = n from rfl]
      exact flat_rep n x
    rw [e2]
    exact k p _ (.of (same_new hp)) (o.mono (same_new hp)) (SqT.of upd_same)
/-- t[lo:hi] -/
theorem r_slA {a : Addr} {xs : List V} {lo hi : Option Int} (o : Own H0 H L) (ha : SqT K H a xs) (k : ∀ p H', Stp H H' → Own H0 H' L → SqT K H' p (cutV xs lo hi) → Q (.ref p) H') : rSlA K (.ref a) lo hi H Q := by
  refine ⟨a, xs, rfl, ha, fun e => ?_, fun _ p hp => k p _ (.of (same_new hp)) (o.mono (same_new hp)) (SqT.of upd_same)⟩
  refine k a H (.refl _) o ?_
  have e2 : cutV xs lo hi = xs := by
    unfold cutV
    rw [e.1, e.2]
    simp
  rw [e2]
  exact ha
/-- t + u -/
theorem r_catA {a b : Addr} {xs ys : List V} (o : Own H0 H L) (ha : SqT K H a xs) (hb : SqT K H b ys) (hz : xs.length + ys.length ≤ 10000000) (k : ∀ p H', Stp H H' → Own H0 H' L → SqT K H' p (xs ++ ys) → Q (.ref p) H') : rCatA K (.ref a) (.ref b) H Q := by
  refine ⟨a, b, xs, ys, rfl, rfl, ha, hb, sz100 hz, fun e => ?_, fun _ e => ?_, fun _ _ p hp => k p _ (.of (same_new hp)) (o.mono (same_new hp)) (SqT.of upd_same)⟩
  · subst e
    exact k b H (.refl _) o hb
  · subst e
    exact k a H (.refl _) o (by rw [List.append_nil]; exact ha)
end
/-! ### walks with K told (within comprehensions) -/
theorem pi_listK {X : Cx} {K : PySem.W.Frag} {tg e : Expr} {te : TE} (hK : X.K = K) (he : PE X e te) : PI X tg e (iList K te) := by
  subst hK
  exact pi_list he
theorem pi_tupK {X : Cx} {K : PySem.W.Frag} {tg e : Expr} {te : TE} (hK : X.K = K) (he : PE X e te) : PI X tg e (iTup K te) := by
  subst hK
  exact pi_tup he
theorem pi_zip2K {X : Cx} {K : PySem.W.Frag} {k1 k2 : Bool} {e e2 : Expr} {ta : TA} {p pos tpos : Pos} {elts : List Expr} {kk : Nat} (hK : X.K = K) (hg : Gl X "zip") (hm : X.mg "zip" = none) (ha : PA X [e, e2] ta)
    (hst : starEach [e, e2] X.env = (false, eval e X.env) :: starEach [e2] X.env := by rfl) (hpl : (backTo pos (starEach [e2] X.env)).any (·.1) = false := by rfl) :
    PI X (.Tuple elts kk tpos) (.Call (.Name "zip" p) [e, e2] [] pos) (iZip2 K k1 k2 ta) := by
  subst hK
  exact pi_zip2 hg hm ha hst hpl
theorem pi_zip3K {X : Cx} {K : PySem.W.Frag} {k1 k2 k3 : Bool} {e e2 e3 : Expr} {ta : TA} {p pos tpos : Pos} {elts : List Expr} {kk : Nat} (hK : X.K = K) (hg : Gl X "zip") (hm : X.mg "zip" = none) (ha : PA X [e, e2, e3] ta)
    (hst : starEach [e, e2, e3] X.env = (false, eval e X.env) :: starEach [e2, e3] X.env := by rfl) (hpl : (backTo pos (starEach [e2, e3] X.env)).any (·.1) = false := by rfl) :
    PI X (.Tuple elts kk tpos) (.Call (.Name "zip" p) [e, e2, e3] [] pos) (iZip3 K k1 k2 k3 ta) := by
  subst hK
  exact pi_zip3 hg hm ha hst hpl
theorem pi_enumKK {X : Cx} {K : PySem.W.Frag} {k : Bool} {e : Expr} {ta : TA} {p pos tpos : Pos} {elts : List Expr} {kk : Nat} (hK : X.K = K) (hg : Gl X "enumerate") (hm : X.mg "enumerate" = none) (ha : PA X [e] ta) (hst : starEach [e] X.env = [(false, eval e X.env)] := by rfl) :
    PI X (.Tuple elts kk tpos) (.Call (.Name "enumerate" p) [e] [] pos) (iEnumK K k ta) := by
  subst hK
  exact pi_enumK hg hm ha hst
/-! ### [e for x in xs for y in ys], the items data of tuples -/
section
variable {σ : L2.St} {H H0 : Hp} {Q : VK} {te : TE} {K : PySem.W.Frag} {L : List (Addr × HO)} {vs vs1 : List Nat}
theorem fl_succ {α : Type} (n : Nat) (f : Nat → List α) : (List.range (n + 1)).flatMap f = (List.range n).flatMap f ++ f n := by
  rw [List.range_succ, List.flatMap_append]
  simp
theorem mp_succ {α : Type} (n : Nat) (f : Nat → α) : (List.range (n + 1)).map f = (List.range n).map f ++ [f n] := by
  rw [List.range_succ, List.map_append]
  rfl
theorem fl_len {α : Type} (m : Nat) (f : Nat → Nat → α) : ∀ n : Nat, ((List.range n).flatMap fun i => (List.range m).map (f i)).length = n * m
  | 0 => by simp
  | n + 1 => by rw [fl_succ, List.length_append, fl_len m f n, List.length_map, List.length_range, Nat.add_mul]; omega
theorem lc2LL {a b : Addr} {xs ys : List V} {s s1 : Nat} {wi1 : TI} (d : Nat → Nat → PyData) (o : Own H0 H L) (hq : ∀ H' p zs, Own H0 H' ((p, .lst zs) :: L) → Stp H H' → SqL K H' a xs ∧ SqL K H' b ys) (h1 : SqL K H a xs) (hz : xs.length * ys.length < 10000000)
    (hw : ∀ x, wipe ((wipe σ vs).set s (some x)) vs = wipe σ vs) (hw1 : ∀ x y, wipe ((wipe ((wipe σ vs).set s (some x)) vs1).set s1 (some y)) vs1 = wipe ((wipe σ vs).set s (some x)) vs1)
    (hin : ∀ (x : V) (H' : Hp) (R : It → Hp → Prop), SqL K H' b ys → R (Itl K b) H' → wi1 ((wipe σ vs).set s (some x)) H' R)
    (he : ∀ (i j : Nat) (x y : V) (p : Addr) (zs : List V) (H' : Hp) (Qv : VK), xs[i]? = some x → ys[j]? = some y → Own H0 H' ((p, .lst zs) :: L) → Stp H H' → RetD K H' Qv (d i j) → te ((wipe ((wipe σ vs).set s (some x)) vs1).set s1 (some y)) H' Qv)
    (k : ∀ p H' zs, Stp H H' → Own H0 H' ((p, .lst zs) :: L) → TpAll K H' zs ((List.range xs.length).flatMap fun i => (List.range ys.length).map (d i)) → Q (.ref p) H') :
    ∃ a', V.ref a = .ref a' ∧ (∃ xs, SqL K H a' xs) ∧ RLc2 (Itl K a') (gName s) tYes wi1 (gName s1) tYes te vs vs1 σ H Q := by
  refine ⟨a, rfl, ⟨xs, h1⟩, fun D hD => ?_⟩
  have hout : ∀ i, i ≤ xs.length → i * ys.length ≤ xs.length * ys.length := fun i hi => Nat.mul_le_mul_right _ hi
  refine ⟨fun i mm H' => mm = xs.length - i ∧ i ≤ xs.length ∧ ∃ zs, Own H0 H' ((D, .lst zs) :: L) ∧ Stp H H' ∧ TpAll K H' zs ((List.range i).flatMap fun i => (List.range ys.length).map (d i)), ⟨xs.length, rfl, Nat.zero_le _, [], o.new hD, .of (same_new hD), .nil⟩, ?_⟩
  rintro i mm H' ⟨rfl, hi, zs, o', s', t'⟩
  obtain ⟨qa, qb⟩ := hq H' D zs o' s'
  by_cases hlt : i < xs.length
  · have hx : xs[i]? = some xs[i] := List.getElem?_eq_getElem hlt
    refine .inr ⟨⟨xs, _, qa, hx⟩, fun H2 => ∃ zs, Own H0 H2 ((D, .lst zs) :: L) ∧ Stp H H2 ∧ TpAll K H2 zs ((List.range (i + 1)).flatMap fun i => (List.range ys.length).map (d i)), fun H2 p2 => ⟨xs.length - (i + 1), by omega, rfl, hlt, p2⟩, ?_⟩
    rintro x H2 ⟨rfl, hy⟩
    have ex := hy xs qa
    refine ⟨hw _, ?_⟩
    refine iteT (B := ∃ zs, Own H0 H2 ((D, .lst zs) :: L) ∧ Stp H H2 ∧ TpAll K H2 zs ((List.range (i + 1)).flatMap fun i => (List.range ys.length).map (d i))) (hin x H2 _ qb ?_)
    rw [fl_succ]
    have hl2 := hout (i + 1) hlt
    refine ⟨fun j k2 H3 => k2 = ys.length - j ∧ j ≤ ys.length ∧ ∃ zs, Own H0 H3 ((D, .lst zs) :: L) ∧ Stp H H3 ∧ TpAll K H3 zs (((List.range i).flatMap fun i => (List.range ys.length).map (d i)) ++ (List.range j).map (d i)), ⟨ys.length, rfl, Nat.zero_le _, zs, o', s', by rw [show (List.range 0).map (d i) = [] from rfl, List.append_nil]; exact t'⟩, ?_⟩
    rintro j k2 H3 ⟨rfl, hj, zs3, o3, s3, t3⟩
    obtain ⟨qa3, qb3⟩ := hq H3 D zs3 o3 s3
    by_cases hlt2 : j < ys.length
    · have hyj : ys[j]? = some ys[j] := List.getElem?_eq_getElem hlt2
      refine .inr ⟨⟨ys, _, qb3, hyj⟩, fun H4 => ∃ zs, Own H0 H4 ((D, .lst zs) :: L) ∧ Stp H H4 ∧ TpAll K H4 zs (((List.range i).flatMap fun i => (List.range ys.length).map (d i)) ++ (List.range (j + 1)).map (d i)), fun H4 p4 => ⟨ys.length - (j + 1), by omega, rfl, hlt2, p4⟩, ?_⟩
      rintro y H4 ⟨rfl, hy2⟩
      refine ⟨hw1 _ _, ?_⟩
      refine iteT (B := ∃ zs, Own H0 H4 ((D, .lst zs) :: L) ∧ Stp H H4 ∧ TpAll K H4 zs (((List.range i).flatMap fun i => (List.range ys.length).map (d i)) ++ (List.range (j + 1)).map (d i))) (he i j x y D zs3 H4 _ ex (hy2 ys qb3) o3 s3 fun H5 v s5 tv => ?_)
      have o5 := o3.mono s5
      have hl3 := t3.len
      rw [List.length_append, fl_len, List.length_map, List.length_range] at hl3
      have hl4 : (i + 1) * ys.length = i * ys.length + ys.length := by rw [Nat.add_mul]; omega
      have s6 := Stp.set (u := .lst (zs3 ++ [v])) (o5.at 0 rfl)
      refine ⟨zs3, o5.at 0 rfl, sz_lt (by omega), zs3 ++ [v], o5.set (v := .lst (zs3 ++ [v])) 0 rfl, (s3.trans (.of s5)).trans s6, ?_⟩
      rw [mp_succ, ← List.append_assoc]
      exact ((t3.up (.of s5)).snoc tv).up s6
    · refine .inl ⟨⟨ys, qb3, by omega⟩, ?_⟩
      have ej : j = ys.length := by omega
      subst ej
      exact ⟨zs3, o3, s3, t3⟩
  · refine .inl ⟨⟨xs, qa, by omega⟩, ?_⟩
    have ei : i = xs.length := by omega
    subst ei
    exact k D _ zs s' o' t'
end
/-! ### own errors whose __init__ calls super().__init__ -/
/-- what is asked of the program as a whole -/
structure PrOk (P : Program) : Prop where
  file : P.main.file = "/claim/cut.py"
  top : (P.main.scope.names.lookup ("super" : Str)).isSome = false
/-- the def at fI is the __init__ of the class at C and closes over it -/
structure SupAt (K : PySem.W.Frag) (C : Addr) (qn : Str) (st : Stmt) (fI : Addr) (fd : FuncData) : Prop where
  ex : ∃ (oc : Value) (od : Option Addr) (kV doc pm : Value) (an : Option Addr) (cda cc : Addr) (ct : Value) (osl : Array (Option Value)),
    fd = PySem.W.fnX "__init__" qn (defArgs st) (defBody st) (defScope st) [("__class__", cc)] .none kV doc pm an (.ref cda) ct ∧ K.lookup fI = some ⟨oc, od, .func fd, osl⟩ ∧ PySem.W.codeIn K (.ref cda) qn = true ∧
    (∃ (cl : Value) (cld : Option Addr) (csl : Array (Option Value)), K.lookup cc = some ⟨cl, cld, .cell (some (.ref C)), csl⟩) ∧
    ∃ (cl : Value) (cld : Option Addr) (csl : Array (Option Value)) (fs : Array Value) (tf : Tok), K.lookup cda = some ⟨cl, cld, .fields fs, csl⟩ ∧ fs[2]? = some (.str "/claim/cut.py" tf)
/-- what else the written part says of the class -/
structure SupC (K : PySem.W.Frag) (C : Addr) : Prop where
  oex : OexC K C
  ini : PySem.W.ks_superIn K C C "__init__" = some (some (.builtin "ValueError.__init__"))
  sub : PySem.W.subIn K (.ref C) (.type "ValueError") = some true
  self : PySem.W.mroIn K C (.ref C) = some true
  stat : PySem.W.nsIn K PySem.cStatics "thirdparty.any" = some none
theorem mw_call1 {M : Model} {A : Around} {E : Value → Shared → Prop} {s : Shared} {u x : Addr} {i : String} {pos : Pos} {env : Env} {e : Expr} {Q : Value → Shared → Prop} (hst : starEach [e] env = [(false, eval e env)])
    (h : wpAny M A (spliced (backTo pos (starEach [e] env))) (fun vs s₁ => PySem.W.KxsAt i u x s₁.heap ∧ wpAny M A (call (.ref u) vs) Q E s₁) E s) : wpAny M A (callWith pos (.ref u) [] (backTo pos (starEach [e] env)) []) Q E s := by
  rw [hst] at h ⊢
  exact PySem.W.kxs_callWith (i := i) (x := x) rfl (Calls.evalArgs_plain h)
theorem cls_obj {K : PySem.W.Frag} {C : Addr} {cd : ClassData} (h : PySem.W.clsIn K C = some cd) : ∃ o, K.lookup C = some o ∧ o.data = .cls cd := by
  unfold PySem.W.clsIn at h
  split at h
  · rename_i c d cd' sl ho
    cases h
    exact ⟨_, ho, rfl⟩
  · cases h
section
variable {P : Program} {w : World} {K : PySem.W.Frag} {mg : Str → Option Value} {base : Heap}
abbrev supF (qn : Str) (st : Stmt) (cda cc : Addr) : NdefX.NF := ⟨"__init__", qn, defArgs st, [], defScope st, [("__class__", cc)], cda⟩
theorem SupAt.ok {C fI : Addr} {qn : Str} {st : Stmt} {N ps : List Str} {k : Nat} {sp : Sp} {fd : FuncData} {p0 p1 p2 p3 p4 : Pos} {msg : Expr} {pl : Env → Sem Bool} {rest : List Stmt} {ar : Arg} (S : SupAt K C qn st fI fd) (hP : PrOk P) (U : SupC K C) (Z : NdefX.NScope N ps ["__class__"] (defScope st))
    (hsup : mg "super" = none) (har : ((defArgs st).posonlyargs ++ (defArgs st).args).head? = some ar) (han : ps.head? = some ar.arg)
    (hks : (defScope st).names.lookup ("super" : Str) = some .globalImplicit)
    (hB : defBody st = .Expr (.Call (.Attribute (.Call (.Name "super" p0) [] [] p1) "__init__" p2) [msg] [] p3) p4 :: rest)
    (hst : ∀ env : Env, starEach [msg] env = [(false, eval msg env)]) (hsw : ∀ env : Env, swapsWith (.Call (.Attribute (.Call (.Name "super" p0) [] [] p1) "__init__" p2) [msg] [] p3) none p4.line env = pure false)
    (hev : ∀ env : Env, eval (.Call (.Attribute (.Call (.Name "super" p0) [] [] p1) "__init__" p2) [msg] [] p3) env = (do
      let ov ← attributeBase (.Call (.Name "super" p0) [] [] p1) "__init__" env (eval (.Call (.Name "super" p0) [] [] p1) env)
      standAt p2.atName
      let (f, first) ← holding [ov] (getMethod ov "__init__" (pl env))
      callWith p3 f first (backTo p3 (starEach [msg] env)) []))
    (len : ∀ vs H Q E, sp vs H Q E → vs.length = ps.length)
    (hbody : ∀ (cda cc : Addr) (A : Around) (outer : List Env) (s : Shared) (H : Hp) (vs : List V) (Q : VK) (E : XK), Room k (A.deeper (NdefX.envF (supF qn st cda cc) fI s.heap.objs.size)) → sp vs H Q E →
      ∃ (a : Addr) (vs2 : List V) (tm : TE) (tr : TS), vs = .ref a :: vs2 ∧ H a = some (exo a C none) ∧ PE (NdefX.ncx CX0 P w K mg base N (supF qn st cda cc) fI A outer s H E) msg tm ∧ PSs (NdefX.ncx CX0 P w K mg base N (supF qn st cda cc) fI A outer s H E) rest tr ∧
        tm (NdefX.startF N vs [none]) H fun x H1 => (∃ v, [x] = [v]) ∧ H1 a = some (exo a C none) ∧ tr { nx := fun _ H' => Q .non H', rt := Q } (NdefX.startF N vs [none]) H1) :
    FnOk P w K mg base CX0 (k + 1) fI fd ps sp := by
  obtain ⟨oc, od, kV, doc, pm, an, cda, cc, ct, osl, rfl, lk, hcd, ⟨cl1, cld1, csl1, hcc⟩, cl2, cld2, csl2, fs, tf, hcda, hfs⟩ := S.ex
  refine ⟨len, fun A outer s H args us vs Q E hr e0 hb r hsp => ?_⟩
  have KX : K.In s.heap := e0.mod.kin.keeps fun b o e => (e0.bs b o e).1
  have lim : s.heap.NoLimit := e0.mod.nolimit.keeps fun b o e => (e0.bs b o e).1
  have hl := len _ _ _ _ hsp
  have ccH : H cc = none := (e0.bs cc _ (e0.mod.kin _ _ hcc)).2
  have CA : NdefX.CellsAt [("__class__", cc)] ["__class__"] [none] s.heap H := by
    have look : ∀ y c, List.lookup y [(("__class__" : Str), cc)] = some c → y = "__class__" ∧ c = cc := fun y c h => by
      by_cases e : y = "__class__"
      · subst e
        simp [List.lookup] at h
        exact ⟨rfl, h.symm⟩
      · have e2 : (y == ("__class__" : Str)) = false := by simpa using e
        simp [List.lookup, e2] at h
    refine ⟨rfl, fun y c h => ?_, fun x y c h1 h2 => ?_, fun i y h => ?_⟩
    · obtain ⟨rfl, rfl⟩ := look y c h
      exact ⟨ccH, _, _, KX _ _ hcc, rfl⟩
    · rw [(look x c h1).1, (look y c h2).1]
    · match i, h with
      | 0, h =>
        have e : y = "__class__" := (Option.some.inj h).symm
        subst e
        exact ⟨cc, by simp [List.lookup], fun v z => by cases z⟩
  obtain ⟨a, vs2, tm, tr, hvs, ha, hm, htr, hq⟩ := hbody cda cc A outer s H vs Q E (hr.deeper _) hsp
  refine PySem.ks_codeAny_call_defAt (binds := ps.zip us) hr.depth (KX _ _ lk) rfl lim (PySem.W.codeRec_of KX hcd) rfl hb Z.nocell (fun ⟨n, _⟩ hy => Z.par n (List.of_mem_zip hy).1) (fun h₀ hns kp => ?_) Z.co Z.gen Z.kind
  have I := NdefX.inv_startN (f := fI) (F := supF qn st cda cc) (CX := CX0) (E := E) (tk := s.toks + (ps.zip us).length) Z hr.hd e0 hl r CA hns kp
  have q0 : ∃ us2, us = .ref a :: us2 := by
    subst hvs
    cases r with
    | @cons _ u0 _ ur r0 r1 =>
      obtain rfl : u0 = Value.ref a := r0
      exact ⟨ur, rfl⟩
  obtain ⟨us2, hus⟩ := q0
  obtain ⟨p', ps2, hps⟩ : ∃ p' ps2, ps = p' :: ps2 := by
    cases ps with
    | nil => cases han
    | cons p' ps2 => exact ⟨p', ps2, rfl⟩
  have hp' : p' = ar.arg := by
    rw [hps] at han
    exact Option.some.inj han
  have ndP : ps.Nodup := by
    have q := Z.nd.sublist (List.take_sublist (ps.length + 1) N)
    rw [show N.take (ps.length + 1) = ps ++ [("__class__" : Str)] from Z.pre] at q
    exact (List.nodup_append.mp q).1
  have hself : (ps.zip us).reverse.lookup ar.arg = some (.ref a) := by
    refine NdefX.zip_look (i := 0) ndP ?_ ?_
    · rw [hps, hp']; rfl
    · rw [hus]; rfl
  have hself2 : (defScope st).names.lookup ar.arg = some .local := by
    rw [← hp']
    exact Z.par p' (by rw [hps]; exact List.mem_cons_self ..)
  refine PySem.ks_wpAt_mono (Q := SP (NdefX.ncx CX0 P w K mg base N (supF qn st cda cc) fI A outer s H E) [] { nx := fun _ H' => Q .non H', rt := Q }) (E := (NdefX.ncx CX0 P w K mg base N (supF qn st cda cc) fI A outer s H E).xe) ?_ (fun fl s' hs => ?_) fun _ _ z => z
  · show PySem.wpAt _ _ _ (execs (defBody st) _) _ _ _
    obtain ⟨oD, hD0, hD2⟩ : ∃ o, K.lookup C = some o ∧ ∃ cd, o.data = .cls cd ∧ PySem.W.clsIn K C = some cd := by
      have q := U.self
      unfold PySem.W.mroIn at q
      cases z : PySem.W.clsIn K C with
      | none => rw [z] at q; cases q
      | some cd =>
        obtain ⟨o, h1, h2⟩ := cls_obj z
        exact ⟨o, h1, cd, h2, rfl⟩
    obtain ⟨cd, hD3, hD4⟩ := hD2
    have K1 := I.kIn
    obtain ⟨t1, ho⟩ := exo_at I.hok ha
    have gN := I.mod.glob.keeps I.bk
    obtain ⟨mb, hmb1, hmb2⟩ := I.mod.blt
    have bN := hmb1.keeps I.bk
    rw [hB]
    refine PySem.ks_wpAt_execs_cons ?_
    refine PySem.ks_wpAt_Expr_any ?_ (by show ((defScope st).kind == .module && _) = false; rw [Z.kind]; rfl) (hsw _)
    refine PySem.ks_wpAt_MethodCall ?_ (hev _)
    refine PySem.ks_wpAt_super_base hks (Z.frk _ (List.mem_singleton.mpr rfl)) (by decide) rfl (K1 _ _ lk) rfl har rfl (K1 _ _ hcda) rfl hfs (by rw [hP.file]; exact beq_self_eq_true _) hP.top ?_
    refine PySem.W.ks_loadName_global Z.kind hks (Calls.loadGlobal_builtin gN hsup bN ((hmb2 _ (by decide)).trans (by kernel_rfl)) ⟨rfl, ?_⟩)
    refine wpAny_loadName_free Z.kind (Z.frk _ (List.mem_singleton.mpr rfl)) (show List.lookup ("__class__" : Str) [(("__class__" : Str), cc)] = some cc by simp [List.lookup]) ⟨_, K1 _ _ hcc, rfl⟩ ?_
    refine wpAny_loadName_local Z.kind hself2 hns hself ?_
    refine PySem.ks_wpAny_isType_cls (K1 _ _ hD0) hD3 ⟨rfl, ?_⟩
    refine PySem.ks_wpAny_call_super (K1 _ _ hD0) hD3 ho rfl (fun c z => by cases z) (PySem.W.looks_mroIn K1 U.self) (fun h1 e1 k1 => ?_)
    have I1 := I.kept (t' := s.toks + (ps.zip us).length) k1
    have J1 : PySem.W.InstAt h1 a _ C none := ⟨k1 _ _ ho, rfl, rfl, trivial⟩
    have hf : PySem.W.alongIn K "__init__" ((cd.mro.dropWhile (· != .ref C)).drop 1) = some (some (.builtin "ValueError.__init__")) := by
      have q := U.ini
      unfold PySem.W.ks_superIn at q
      rw [hD4] at q
      exact q
    refine PySem.W.kxs_getMethod PySem.W.kxs_ValueError e1 (PySem.W.looks_opaque I1.kIn U.stat) (l₀ := cd.mro) (fun A Q E s k q => wpAny_bind ((PySem.W.looks_clsIn I1.kIn hD4) A _ E s k (wpAny_pure q))) rfl I1.kIn hf (J1.type.andThen (PySem.W.looks_subIn I1.kIn U.sub)) (PySem.W.ks_ne I1.kIn J1 hD4) (by decide) ?_
    have I2 := I1.kept (t' := s.toks + (ps.zip us).length + 1) (h' := h1.push (PySem.W.kxs_mw "ValueError.__init__" a)) (fun b o q => Heap.get?_push_of_some _ q)
    have I3 := I2.pins_of (pins' := [(h1.objs.size, PySem.W.kxs_mw "ValueError.__init__" a)]) (fun p hp => by
      rw [List.mem_singleton.mp hp]
      exact ⟨Heap.get?_push_size _ rfl, I1.hok.fresh (Nat.le_refl _), Nat.ne_of_gt I1.lt, I1.nofs (Nat.le_refl _), fun v z => by cases z⟩)
    refine mw_call1 (i := "ValueError.__init__") (x := a) (hst _) ?_
    have hst0 := hst (NdefX.ncx CX0 P w K mg base N (supF qn st cda cc) fI A outer s H E).env
    refine thn ((pa_cons hm pa_nil hst0).run p3 _ _ _ H (fun us2 H1 => (∃ v, us2 = [v]) ∧ H1 a = some (exo a C none) ∧ tr { nx := fun _ H' => Q .non H', rt := Q } (NdefX.startF N vs [none]) H1) I3 ?_) fun us3 s3 hh => ?_
    · exact hq
    obtain ⟨vs3, H1, I4, r4, ⟨v3, hv3⟩, ha1, hq1⟩ := hh
    subst hv3
    have hlen : us3.length ≤ sizeLine := by
      rw [← Paired.length r4]
      exact (by decide : 1 ≤ sizeLine)
    have hu : s3.heap.get? h1.objs.size = some (PySem.W.kxs_mw "ValueError.__init__" a) := (I4.pin _ (List.mem_append_right _ (List.mem_singleton.mpr rfl))).1
    refine ⟨hu, ?_⟩
    obtain ⟨t3, ho3⟩ := exo_at I4.hok ha1
    obtain ⟨nm, qq, nn, bs, bm, sn, sub, ab, col, dd, z0, z1, z2, z3, z5, hC, hbm⟩ := U.oex.cls
    obtain ⟨hp3, g3, d3, tk3, os3⟩ := s3
    have fin : ∀ h', (∀ b o, b ≠ a → hp3.get? b = some o → h'.get? b = some o) → h'.get? a = some (PySem.W.excObj C hp3.objs.size none .none) →
        PySem.wpAt (model P w) (A.deeper (NdefX.envF (supF qn st cda cc) fI s.heap.objs.size)) (.func (.Expr (.Call (.Attribute (.Call (.Name "super" p0) [] [] p1) "__init__" p2) [msg] [] p3) p4 :: rest) (NdefX.envF (supF qn st cda cc) fI s.heap.objs.size))
          (execs rest (NdefX.envF (supF qn st cda cc) fI s.heap.objs.size)) (SP (NdefX.ncx CX0 P w K mg base N (supF qn st cda cc) fI A outer s H E) [] { nx := fun _ H' => Q .non H', rt := Q }) (NdefX.ncx CX0 P w K mg base N (supF qn st cda cc) fI A outer s H E).xe ⟨h', g3, d3, tk3, os3⟩ := fun h' k hx => by
      have J := I4.write (t' := tk3) (x := a) (e := a) (o := exo a C none) (by rw [ha1]; exact True.intro) (.inl rfl) k ⟨_, hx⟩ (exo_ok hx)
      have eu : upd H1 a (exo a C none) = H1 := funext fun b => by
        by_cases hb : b = a
        · rw [hb, upd_same, ha1]
        · exact upd_ne hb
      rw [eu] at J
      exact PySem.wpAt_of_wpAny (htr.run [] _ _ H1 _ (J.pins_of (pins' := []) fun p hp => absurd hp (by simp)) hq1)
    refine wpAny_call (codeAny_of_tree (show wpAny _ _ (callAny (.ref h1.objs.size) ⟨us3, []⟩) _ _ _ from ?_))
    simp only [callAny]
    refine wpAny_bind (wpAny_load hu ?_)
    simp only [PySem.W.kxs_mw, show (Value.type "method-wrapper" == Value.type "method" || Value.type "method-wrapper" == Value.type "builtin_function_or_method" || Value.type "method-wrapper" == Value.type "method-wrapper") = true by decide, if_true]
    refine PySem.W.KFB.if_so (by decide) (wpAny_bind (PySem.W.check_bound_init F.excBase_ValueError.toExcCallFacts (I4.kIn _ _ hC) ho3 rfl (wpAny_bind (wpAny_pure (wpAny_pure ?_)))))
    refine ⟨plainId_quiet F.excBase_ValueError.init.plain _, codeAny_builtin F.excBase_ValueError.initEntry (PySem.W.exc_init_tree (cls := .ref C) (t0 := t3) (dv := none) (c2 := .none) (c3 := .none) (b4 := .bool false) ho3 hlen fun h' k hx _ => ?_)⟩
    exact fin h' k hx
  · have fin : ∀ {σ' : L2.St} {H' : Hp} {v : V} {u : Value}, Inv (NdefX.ncx CX0 P w K mg base N (supF qn st cda cc) fI A outer s H E) [] σ' H' s' → L2.RelV v u → Q v H' → CE outer P w H s Q u s' :=
      fun {σ' H' v u} J rv q => ⟨v, H', J.os, J.bare, J.base, J.hok, rv, q⟩
    cases fl with
    | ret u =>
      obtain ⟨v, σ', H', J, rv, q⟩ := hs
      exact fin J rv q
    | next =>
      obtain ⟨σ', H', J, q⟩ := hs
      exact fin (v := V.non) (u := Value.none) J rfl q
    | brk =>
      obtain ⟨_, _, _, q⟩ := hs
      exact False.elim q
    | cont =>
      obtain ⟨_, _, _, q⟩ := hs
      exact False.elim q
end

/-! ### messages -/
/-- what a message may show -/
def Tell (v : V) : Prop := (∃ i : Int, v = .int i ∧ i.natAbs.log2 < 1920) ∨ ∃ y : Str, v = .str y ∧ y.length ≤ 1000000
theorem tell_small {i : Int} (h : -(2 ^ 64) < i ∧ i < 2 ^ 64) : Tell (.int i) := .inl ⟨i, rfl, by
  have h1 : i.natAbs < 2 ^ 64 := by omega
  by_cases h0 : i.natAbs = 0
  · rw [h0]; decide
  · exact Nat.lt_trans ((Nat.log2_lt h0).mpr h1) (by decide)⟩
/-- a part: a text, or what a slot holds -/
inductive Mp where
  | c (x : Str) | v (i : Nat) | t (sp : Sp) (E : XK) (i : Nat)
def Mp.te : Mp → TE
  | .c x => tC (.str x)
  | .v i => tFmt (tVar i)
  | .t sp E i => tFmt (tCall sp [] E (tCons (tVar i) tNil))
def Mp.Ok (σ : L2.St) : Mp → Prop
  | .c x => x.length ≤ 1000
  | .v i => ∃ v, σ[i]? = some (some v) ∧ Tell v
  | .t sp E i => ∃ v, σ[i]? = some (some v) ∧ ∀ (H : Hp) (Q : VK), (∀ y : Str, y.length ≤ 1000000 → Q (.str y) H) → sp [v] H Q E
theorem str_cat (a b : Str) : (a ++ b).length = a.length + b.length := by
  show (a.cps ++ b.cps).size = _
  rw [Array.size_append]
  rfl
theorem js_ok {σ : L2.St} {H : Hp} {Q : Str → Hp → Prop} (q : ∀ y, Q y H) : ∀ (ps : List Mp) (acc : Str), (∀ p ∈ ps, p.Ok σ) → acc.length + ps.length * 1001000 ≤ 10000000 → tJs (ps.map Mp.te) acc σ H Q
  | [], acc, _, _ => q acc
  | .c x :: ps, acc, h, hz => by
    have hx : x.length ≤ 1000 := h _ List.mem_cons_self
    rw [List.length_cons] at hz
    have e := str_cat acc x
    exact ⟨x, rfl, sz100 (by omega), js_ok q ps _ (fun p hp => h p (List.mem_cons_of_mem _ hp)) (by omega)⟩
  | .v i :: ps, acc, h, hz => by
    obtain ⟨v, hv, ht⟩ := h _ List.mem_cons_self
    rw [List.length_cons] at hz
    have hr : ∀ p ∈ ps, p.Ok σ := fun p hp => h p (List.mem_cons_of_mem _ hp)
    rcases ht with ⟨j, rfl, hj⟩ | ⟨y, rfl, hy⟩
    · have e := str_cat acc (Str.ofString (toString j))
      have el : (Str.ofString (toString j)).length ≤ 1921 := by
        rw [PySem.ofString_length]
        exact int_text_length_le (by decide) hj
      exact ⟨.int j, hv, .inr ⟨j, rfl, hj, _, rfl, sz100 (by omega), js_ok q ps _ hr (by omega)⟩⟩
    · have e := str_cat acc y
      exact ⟨.str y, hv, .inl ⟨y, rfl, sz100 (by omega), y, rfl, sz100 (by omega), js_ok q ps _ hr (by omega)⟩⟩
  | .t sp E i :: ps, acc, h, hz => by
    obtain ⟨v, hv, ht⟩ := h _ List.mem_cons_self
    rw [List.length_cons] at hz
    have hr : ∀ p ∈ ps, p.Ok σ := fun p hp => h p (List.mem_cons_of_mem _ hp)
    refine ⟨v, hv, ht _ _ fun y hy => ?_⟩
    have e := str_cat acc y
    exact .inl ⟨y, rfl, sz100 (by omega), y, rfl, sz100 (by omega), js_ok q ps _ hr (by omega)⟩
/-! ### one field, two fields -/
def sp_i1 (C : Addr) (f : Str) : Sp := fun vs H Q _ => ∃ (a : Addr) (v : V), vs = [.ref a, v] ∧ Tell v ∧ H a = some (exo a C none) ∧ ∀ dx, H dx = none → dx ≠ a → Q .non (upd (upd H dx (exd dx [(f, v)])) a (exo a C (some dx)))
def sp_i2 (C : Addr) (f g : Str) : Sp := fun vs H Q _ => ∃ (a : Addr) (v u : V), vs = [.ref a, v, u] ∧ Tell v ∧ Tell u ∧ H a = some (exo a C none) ∧
  ∀ dx, H dx = none → dx ≠ a → Q .non (upd (upd (upd H dx (exd dx [(f, v)])) a (exo a C (some dx))) dx (exd dx [(g, u), (f, v)]))
/-- such an error made -/
def tErr (C : Addr) (fs : List Str) (ta : TA) : L2.St → Hp → XK → Prop := fun σ H Q => ta σ H fun vs H1 => vs.length = fs.length ∧ (∀ v ∈ vs, Tell v) ∧ ∀ d, H1 d = none → Q (.ref C) (some d) (upd H1 d (.xd (fs.zip vs).reverse))
theorem err_heap {H : Hp} {a d : Addr} {fs : List (Str × V)} (ha : H a = none) (hd : d ≠ a) {H2 : Hp} (e1 : ∀ b, b ≠ a → b ≠ d → H2 b = H b) : upd (del H2 a) d (.xd fs) = upd H d (.xd fs) := by
  funext b
  by_cases hb : b = d
  · rw [hb, upd_same, upd_same]
  · rw [upd_ne hb, upd_ne hb]
    by_cases hc : b = a
    · rw [hc, del_same, ha]
    · rw [del_ne hc, e1 b hc hb]
theorem upd_two {H : Hp} {a d b : Addr} {o u : HO} (h1 : b ≠ a) (h2 : b ≠ d) : upd (upd H d u) a o b = H b := by rw [upd_ne h1, upd_ne h2]
section
variable {X : Cx} {C fI : Addr} {x f g : Str} {k : Nat} {fd : FuncData} {e : Expr} {es : List Expr} {ta : TA} {p pos : Pos}
/-- C(e, ..) where nothing is handled -/
theorem pmk_oexN {ps : List Str} {sp : Sp} {R : XK → List V → Hp → Prop} (hR : ∀ Q vs H1, R Q vs H1 → vs.length ≤ 1000 ∧ ∀ a, H1 a = none → sp (.ref a :: vs) (upd H1 a (exo a C none))
      (fun v H2 => v = .non ∧ ∃ (d : Addr) (fs : List (Str × V)), H2 a = some (exo a C (some d)) ∧ H2 d = some (exd d fs) ∧ H1 d = none ∧ Q (.ref C) (some d) (upd (del H2 a) d (.xd fs))) (fun _ _ _ => False)) (T : OexC X.K C) (iC : PySem.W.findIn X.K (.ref C) "__init__" = some (some (.ref fI))) (tI : PySem.W.typeIn X.K (.ref fI) = some (.type "function"))
    (F1 : FnOk X.prog X.w X.K X.mg X.base CX0 k fI fd ps sp) (hr : Room (k + 1) X.A) (hb : Binds X.K fd ps []) (hg : Gl X x) (hm : X.mg x = some (.ref C)) (ha : PA X (e :: es) ta)
    (hdb : (x == ("__debug__" : Str)) = false) (he : starEach (e :: es) X.env = (false, eval e X.env) :: starEach es X.env) (hpl : (backTo pos (starEach es X.env)).any (·.1) = false) :
    L2N.PMk X (.Call (.Name x p) (e :: es) [] pos) (fun σ H Q => ta σ H fun vs H1 => R Q vs H1) := by
  intro pins s σ H Q I h
  obtain ⟨nm, q, N, bs, bm, sn, sub, ab, col, dd, z0, z1, z2, z3, z5, hC, hbm⟩ := T.cls
  refine wpAny_Call_Name_kw (ld_glob I hg hm (PySem.W.callWith_K (h₀ := X.base) I.ok.mod.kin T.kC (thn (ha.run pos pins s σ H _ I h) fun us s1 hh => ?_) he hpl) hdb)
  obtain ⟨vs, H1, I1, r1, hh⟩ := hh
  obtain ⟨hz, q1⟩ := hR _ _ _ hh
  refine ⟨I1.kIn, show wpAny _ _ (call (.ref C) us) _ _ _ from ?_⟩
  obtain ⟨hp, g, dr, tk, os⟩ := s1
  have hsz : hp.objs.size ≤ hp.objs.size + 1 := Nat.le_add_right _ 1
  have hq := q1 (hp.objs.size + 1) (I1.hok.fresh hsz)
  have kk : ∀ b o, hp.get? b = some o → ((hp.push (PySem.W.kdv_tup us)).push (PySem.HandSPX.excO C hp.objs.size)).get? b = some o := fun b o z => Heap.get?_push_of_some _ (Heap.get?_push_of_some _ z)
  have hget : ((hp.push (PySem.W.kdv_tup us)).push (PySem.HandSPX.excO C hp.objs.size)).get? (hp.objs.size + 1) = some (PySem.HandSPX.excO C hp.objs.size) := by heap_get
  have I2 := I1.laid (t' := tk) (a := hp.objs.size + 1) (o := exo (hp.objs.size + 1) C none) (h' := (hp.push (PySem.W.kdv_tup us)).push (PySem.HandSPX.excO C hp.objs.size)) kk hsz (exo_ok hget)
  have r2 : Vals (V.ref (hp.objs.size + 1) :: vs) (Value.ref (hp.objs.size + 1) :: us) := .cons rfl r1
  have hl : (Value.ref (hp.objs.size + 1) :: us).length = ps.length := by
    rw [← r2.length]
    exact F1.len _ _ _ _ hq
  have hus : us.length ≤ sizeLine := by
    have e3 := Paired.length r1
    exact sz100 (by omega)
  have b2 := hb _ (Value.ref (hp.objs.size + 1) :: us) I2.kIn (by rw [List.append_nil]; exact hl)
  rw [List.append_nil] at b2
  refine wpAny_call (PySem.HandSPX.call_own F.excBase_ValueError (fun Y => PySem.HandSPX.refsVE_contains Y bm hbm) (I1.kIn _ _ hC) (PySem.W.looks_findIn I1.kIn iC) (fun self => PySem.W.bind_fn I1.kIn self tI) hus
    (codeAny_mono (F1.run _ X.stack _ _ ⟨Value.ref (hp.objs.size + 1) :: us, []⟩ (Value.ref (hp.objs.size + 1) :: us) _ _ (fun _ _ _ => False) (hr.make C us []) (I2.env0.make C us []) b2 r2 hq) fun r s2 hq2 => ?_))
  cases r with
  | error er => exact absurd hq2 (fun z => z)
  | ok fl =>
    cases fl with
    | ret u =>
      obtain ⟨v, H2, os2, bare2, un2, hok2, rv, ev, d, fs, ea, ed, hd1, q2⟩ := hq2
      subst ev
      obtain ⟨h2, g2, d2, t2, os3⟩ := s2
      obtain ⟨t0, G, J, kG, ge, hoe, na⟩ := mk_end0 (d2 := d2) (t2 := t2) I1 hsz kk un2 hok2 os2 bare2 ea ed hd1
      exact ⟨rv, hp.objs.size + 1, _, _, ⟨G, g2, d2, t2, os3⟩, _, .ref C, some d, rfl, J, kG, ge, hoe, ⟨rfl, rfl, fun vs hv => by cases hv; rfl⟩, rfl, rfl, na, rfl, bare2, raises_own T.exC T.tyC, q2⟩
    | next => exact hq2.elim
    | brk => exact hq2.elim
    | cont => exact hq2.elim
end

/-! ### what the top says of error classes -/
structure ErrCls (K : PySem.W.Frag) (mg : Str → Option Value) (C : Addr) (x : Str) : Prop where
  at_ : mg x = some (.ref C)
  xf : XfC K C
  ex : ExcC K C
  ty : PySem.W.typeIn K (.ref C) = some (.type "type")
structure ErrIni (K : PySem.W.Frag) (C : Addr) (qn : Str) (st : Stmt) (ps fs : List Str) : Prop where
  sup : SupC K C
  ini : ∃ fI fd, SupAt K C qn st fI fd ∧ PySem.W.findIn K (.ref C) "__init__" = some (some (.ref fI)) ∧ PySem.W.typeIn K (.ref fI) = some (.type "function") ∧ Binds K fd ps []
  no : ∀ f ∈ fs, PySem.W.findIn K (.ref C) f = some none
/-- C's __init__ keeps sp -/
structure EDef (P : Program) (w : World) (K : PySem.W.Frag) (mg : Str → Option Value) (base : Heap) (C : Addr) (x : Str) (ps : List Str) (sp : Sp) : Prop where
  at_ : mg x = some (.ref C)
  oex : OexC K C
  ini : ∃ fI fd, FnOk P w K mg base CX0 2 fI fd ps sp ∧ PySem.W.findIn K (.ref C) "__init__" = some (some (.ref fI)) ∧ PySem.W.typeIn K (.ref fI) = some (.type "function") ∧ Binds K fd ps []
theorem _root_.L2H.RoomH.units {k : Nat} {A : Around} (r : L2H.RoomH k A) : A.units + 64 < cLine := by
  have := r.un
  omega
theorem ErrCls.exm {K : PySem.W.Frag} {mg : Str → Option Value} {C : Addr} {x : Str} {cls : Value} {b : Bool} (E : ErrCls K mg C x) (h : PySem.W.subIn K cls (.ref C) = some b) : PySem.W.exmOne K cls (.ref C) = some b := PySem.W.exm_ref E.ex.hs E.ex.hd E.ty h
theorem ErrCls.kit {K : PySem.W.Frag} {mg : Str → Option Value} {C D : Addr} {x : Str} {b : Bool} (E : ErrCls K mg C x) (h : PySem.W.subIn K (.ref D) (.ref C) = some b) (hb : D = C → b = true) : PySem.W.kitOne K (.ref D) (.ref C) = some b := by
  unfold PySem.W.kitOne
  by_cases e : D = C
  · rw [if_pos (by rw [e]; exact beq_self_eq_true _), hb e]
  · rw [if_neg (by simpa using e)]
    show (if ((PySem.W.clsIn K C).isSome && PySem.W.typeIn K (.ref C) == some (.type "type")) = true then PySem.W.subIn K (.ref D) (.ref C) else none) = some b
    obtain ⟨cd, hc, _⟩ := PySem.W.any_some E.ex.hd
    rw [hc, E.ty, h]
    rfl
theorem ErrCls.kitF {K : PySem.W.Frag} {mg : Str → Option Value} {C D : Addr} {x : Str} (E : ErrCls K mg C x) (h : PySem.W.subIn K (.ref D) (.ref C) = some false) (hs : PySem.W.subIn K (.ref D) (.ref D) = some true) : PySem.W.kitOne K (.ref D) (.ref C) = some false := E.kit h fun e => by
  rw [e] at h hs
  rw [hs] at h
  cases h
theorem ErrCls.kitT {K : PySem.W.Frag} {mg : Str → Option Value} {C D : Addr} {x : Str} (E : ErrCls K mg C x) (h : PySem.W.subIn K (.ref D) (.ref C) = some true) : PySem.W.kitOne K (.ref D) (.ref C) = some true := E.kit h fun _ => rfl
theorem sz2 (vs : List V) (h : vs.length ≤ 2) : vs.length ≤ 1000 := by omega
section
variable {X : Cx} {C : Addr} {x f g : Str} {e : Expr} {es : List Expr} {ta : TA} {p pos : Pos}
theorem pmk_e1 {n : Str} (G : EDef X.prog X.w X.K X.mg X.base C x ["self", n] (sp_i1 C f)) (hr : Room 3 X.A) (ha : PA X (e :: es) ta) (hg : Gl X x := by rfl) (hdb : (x == ("__debug__" : Str)) = false := by decide)
    (he : starEach (e :: es) X.env = (false, eval e X.env) :: starEach es X.env := by rfl) (hpl : (backTo pos (starEach es X.env)).any (·.1) = false := by rfl) : L2N.PMk X (.Call (.Name x p) (e :: es) [] pos) (tErr C [f] ta) := by
  obtain ⟨fI, fd, F1, iC, tI, hb⟩ := G.ini
  refine pmk_oexN (R := fun Q vs H1 => vs.length = 1 ∧ (∀ v ∈ vs, Tell v) ∧ ∀ d, H1 d = none → Q (.ref C) (some d) (upd H1 d (.xd (([f] : List Str).zip vs).reverse))) (fun Q vs H1 hh => ?_) G.oex iC tI F1 hr hb hg G.at_ ha hdb he hpl
  obtain ⟨hl, ht, q⟩ := hh
  match vs, hl with
  | [v], _ =>
    refine ⟨sz2 _ (Nat.le_of_ble_eq_true rfl), fun a na => ⟨a, v, rfl, ht v List.mem_cons_self, upd_same, fun dx h1 h2 => ⟨rfl, dx, [(f, v)], upd_same, by rw [upd_ne h2, upd_same], ?_, ?_⟩⟩⟩
    · rw [upd_ne h2] at h1
      exact h1
    · rw [upd_ne h2] at h1
      rw [err_heap na h2 (H := H1) (fun b b1 b2 => by rw [upd_ne b1, upd_ne b2, upd_ne b1])]
      exact q dx h1
theorem pmk_e2 {n m : Str} (G : EDef X.prog X.w X.K X.mg X.base C x ["self", n, m] (sp_i2 C f g)) (hr : Room 3 X.A) (ha : PA X (e :: es) ta) (hg : Gl X x := by rfl) (hdb : (x == ("__debug__" : Str)) = false := by decide)
    (he : starEach (e :: es) X.env = (false, eval e X.env) :: starEach es X.env := by rfl) (hpl : (backTo pos (starEach es X.env)).any (·.1) = false := by rfl) : L2N.PMk X (.Call (.Name x p) (e :: es) [] pos) (tErr C [f, g] ta) := by
  obtain ⟨fI, fd, F1, iC, tI, hb⟩ := G.ini
  refine pmk_oexN (R := fun Q vs H1 => vs.length = 2 ∧ (∀ v ∈ vs, Tell v) ∧ ∀ d, H1 d = none → Q (.ref C) (some d) (upd H1 d (.xd (([f, g] : List Str).zip vs).reverse))) (fun Q vs H1 hh => ?_) G.oex iC tI F1 hr hb hg G.at_ ha hdb he hpl
  obtain ⟨hl, ht, q⟩ := hh
  match vs, hl with
  | [v, u], _ =>
    refine ⟨sz2 _ (Nat.le_of_ble_eq_true rfl), fun a na => ⟨a, v, u, rfl, ht v List.mem_cons_self, ht u (List.mem_cons_of_mem _ List.mem_cons_self), upd_same, fun dx h1 h2 => ⟨rfl, dx, [(g, u), (f, v)], ?_, upd_same, ?_, ?_⟩⟩⟩
    · rw [upd_ne (Ne.symm h2), upd_same]
    · rw [upd_ne h2] at h1
      exact h1
    · rw [upd_ne h2] at h1
      rw [err_heap na h2 (H := H1) (fun b b1 b2 => by rw [upd_ne b2, upd_ne b1, upd_ne b2, upd_ne b1])]
      exact q dx h1
end
/-! ### defs that raise -/
section
variable {P : Program} {w : World} {K : PySem.W.Frag} {mg : Str → Option Value} {base : Heap}
theorem _root_.RD.FunAt.okN {x : Str} {st : Stmt} {N ps : List Str} {k : Nat} {sp : Sp} (F : FunAt K mg x st ps) (S : FnScope N ps (defScope st)) (len : ∀ vs H Q E, sp vs H Q E → vs.length = ps.length)
    (hbody : ∀ (f : Addr) (cdv : Value) (A : Around) (outer : List Env) (s : Shared) (H : Hp) (vs : List V) (Q : VK) (E : XK), Room k (A.deeper (envOfC x (defScope st) s.heap.objs.size f cdv)) → sp vs H Q E →
      ∃ t, PSs (cxOf (L2N.CX P w) P w K mg base N x (defScope st) f cdv A outer s H E) (defBody st) t ∧ t { nx := fun _ H' => Q .non H', rt := Q } (start N vs) H) : Def P w K mg base (L2N.CX P w) (k + 1) x ps sp := by
  obtain ⟨f, fd, F, hm, hb⟩ := F.ex
  have kp := F.kp
  obtain ⟨oc, od, kV, doc, pm, an, cdv, ct, osl, rfl, lk, hcd⟩ := F.ex
  exact ⟨f, _, fn_of lk hcd S len fun A outer s H vs Q E hr hsp => hbody f cdv A outer s H vs Q E hr hsp, hm, kp, hb⟩
theorem cx_of_cxn {outer : List Env} {H : Hp} {s : Shared} {E : XK} {u : Value} {s2 : Shared} (h : L2N.CX P w outer H s E u s2) : L2.CX P w outer H s E u s2 := by
  obtain ⟨a, B, H2, cls, d, e1, fl, r⟩ := h
  exact ⟨a, B, H2, cls, d, e1, L2H.flyingZ_imp (fun _ z => z.zc) fl, r⟩
theorem _root_.RD.Def.toX {x : Str} {ps : List Str} {k : Nat} {sp : Sp} (G : Def P w K mg base (L2N.CX P w) k x ps sp) : Def P w K mg base (L2.CX P w) k x ps sp := by
  obtain ⟨f, fd, F, r⟩ := G.ex
  refine ⟨f, fd, ⟨F.len, fun A outer s H args us vs Q E hr e0 hb hv hs => codeAny_mono (F.run A outer s H args us vs Q E hr e0 hb hv hs) fun r s2 hq => ?_⟩, r⟩
  cases r with
  | error e => exact cx_of_cxn hq
  | ok fl => cases fl <;> exact hq
end
section
variable {X : Cx} {k : Nat} {ps : List Str} {sp : Sp} {x : Str} {p pos : Pos} {e : Expr} {es : List Expr} {t : TA} {W : WX}
/-- a call that may raise -/
theorem pe_callX (G : Def X.prog X.w X.K X.mg X.base (L2.CX X.prog X.w) k x ps sp) (tk : L2.Takes X W) (hr : Room k X.A) (ha : PA X (e :: es) t) (hg : Gl X x := by rfl)
    (hdb : (x == ("__debug__" : Str)) = false := by decide) (he : starEach (e :: es) X.env = (false, eval e X.env) :: starEach es X.env := by rfl) (hpl : (backTo pos (starEach es X.env)).any (·.1) = false := by rfl) : PE X (.Call (.Name x p) (e :: es) [] pos) (tCallS sp (WE W) t) := by
  obtain ⟨f, fd, F, hm, hk, hb⟩ := G.ex
  exact pe_callS F hr hg hm hk hb (fun σ => L2.passAt tk σ) ha hdb he hpl
theorem pe_callN (G : Def X.prog X.w X.K X.mg X.base (L2N.CX X.prog X.w) k x ps sp) (tk : L2N.Takes X W) (hr : Room k X.A) (ha : PA X (e :: es) t) (hg : Gl X x := by rfl)
    (hdb : (x == ("__debug__" : Str)) = false := by decide) (he : starEach (e :: es) X.env = (false, eval e X.env) :: starEach es X.env := by rfl) (hpl : (backTo pos (starEach es X.env)).any (·.1) = false := by rfl) : PE X (.Call (.Name x p) (e :: es) [] pos) (tCallS sp (WE W) t) := by
  obtain ⟨f, fd, F, hm, hk, hb⟩ := G.ex
  exact pe_callS F hr hg hm hk hb (fun σ => L2N.passAt tk σ) ha hdb he hpl
end
/-! ### in an except suite -/
/-- what a def promises wherever it is called: nothing in it asks what is handled -/
structure FnW (P : Program) (w : World) (K : PySem.W.Frag) (mg : Str → Option Value) (base : Heap) (k : Nat) (f : Addr) (fd : FuncData) (ps : List Str) (sp : Sp) : Prop where
  len : ∀ vs H Q E, sp vs H Q E → vs.length = ps.length
  run : ∀ (A : Around) (outer : List Env) (s : Shared) (H : Hp) (args : Args) (us : List Value) (vs : List V) (Q : VK) (E : XK), L2H.RoomH k A → Env0 P w K mg base A outer s H → BindsTo s fd args (ps.zip us) → Vals vs us → sp vs H Q E →
    codeAny (model P w) A (.call (.ref f) args) (CR CX0 outer P w H s Q E) s
structure DefW (P : Program) (w : World) (K : PySem.W.Frag) (mg : Str → Option Value) (base : Heap) (k : Nat) (x : Str) (ps : List Str) (sp : Sp) : Prop where
  ex : ∃ f fd, FnW P w K mg base k f fd ps sp ∧ mg x = some (.ref f) ∧ PySem.W.keepIn K (.ref f) = true ∧ Binds K fd ps []
def cxW (P : Program) (w : World) (K : PySem.W.Frag) (mg : Str → Option Value) (base : Heap) (N : List Str) (qual : Str) (scope : Scope) (f : Addr) (cd : Value) (A : Around) (outer : List Env) (s : Shared) (H : Hp) (E : XK) : Cx :=
  { cxOf CX0 P w K mg base N qual scope f cd A outer s H E with calm := false, xe := fun _ _ => False }
theorem env0_mark {P : Program} {w : World} {K : PySem.W.Frag} {mg : Str → Option Value} {base : Heap} {A : Around} {outer : List Env} {s : Shared} {H : Hp} (e : Env0 P w K mg base A outer s H) : Env0 P w K mg base { A with handled := none } outer s H :=
  ⟨e.frames, e.mod, e.bs, e.bsz, e.funs, e.frf, e.hok, e.bare⟩
theorem _root_.RD.FunAt.okW {P : Program} {w : World} {K : PySem.W.Frag} {mg : Str → Option Value} {base : Heap} {x : Str} {st : Stmt} {N ps : List Str} {k : Nat} {sp : Sp} (F : FunAt K mg x st ps) (S : FnScope N ps (defScope st)) (len : ∀ vs H Q E, sp vs H Q E → vs.length = ps.length)
    (hbody : ∀ (f : Addr) (cdv : Value) (A : Around) (outer : List Env) (s : Shared) (H : Hp) (vs : List V) (Q : VK) (E : XK), L2H.RoomH k (A.deeper (envOfC x (defScope st) s.heap.objs.size f cdv)) → sp vs H Q E →
      ∃ t, PSs (cxW P w K mg base N x (defScope st) f cdv A outer s H E) (defBody st) t ∧ t { nx := fun _ H' => Q .non H', rt := Q } (start N vs) H) : DefW P w K mg base (k + 1) x ps sp := by
  obtain ⟨f, fd, F, hm, hbd⟩ := F.ex
  have kp := F.kp
  obtain ⟨oc, od, kV, doc, pm, an, cdv, ct, osl, rfl, lk, hcd⟩ := F.ex
  refine ⟨f, _, ⟨len, fun A outer s H args us vs Q E hr e0 hb r hsp => ?_⟩, hm, kp, hbd⟩
  have hl := len _ _ _ _ hsp
  have inS := e0.mod.kin.keeps fun b o e => (e0.bs b o e).1
  have lim := e0.mod.nolimit.keeps fun b o e => (e0.bs b o e).1
  have hkind : ∀ y ∈ ps.zip us, (defScope st).names.lookup y.1 = some .local ∨ ((defScope st).names.lookup y.1 = some .cell ∧ ((cellsFrom (s.heap.objs.size + 1) (defScope st).names []).lookup y.1).isSome = true) := fun ⟨n, v⟩ hy => (S.par n (List.of_mem_zip hy).1).imp id fun q => ⟨q, PySem.W.cellsFrom_some _ _ _ (.inl q)⟩
  refine codeAny_call_function hr.depth (inS _ _ lk) rfl S.co S.gen rfl (PySem.W.codeRec_of inS hcd) (hb _ _ _ _ (wpAny_newFunctionEnv_cells S.kind hkind fun env he s1 ic => ?_))
  subst he
  refine ⟨lim.keeps ic.toInCall.keep, codeAny_func ?_⟩
  obtain ⟨t, ht, hq⟩ := hbody f cdv A outer s H vs Q E (hr.deeper _) hsp
  have J : Inv (cxOf CX0 P w K mg base N x (defScope st) f cdv { A with handled := none } outer s H E) [] (start N vs) H s1 := inv_start S rfl (env0_mark e0) hl r ic
  have I : Inv (cxW P w K mg base N x (defScope st) f cdv A outer s H E) [] (start N vs) H s1 :=
    ⟨⟨J.ok.mod, J.ok.kind, J.ok.glob, J.ok.blt, J.ok.above, J.ok.inj, J.ok.has, J.ok.cab, fun z => (by cases z), Around.frames_deeper e0.frames, J.ok.stk, J.ok.exf, J.ok.bs, J.ok.bsz, J.ok.noex, J.ok.exfs, J.ok.funs, J.ok.frf⟩, J.os, J.bare, J.base, J.loc, J.cell, J.free, J.freeC, J.pin, J.hok, J.len⟩
  refine wpAny_mono (ht.run [] s1 (start N vs) H _ I hq) (fun fl s2 hs => ?_) fun e s2 hs => False.elim hs
  have fin : ∀ {σ2 : L2.St} {H2 : Hp} {v : V} {u : Value}, Inv (cxW P w K mg base N x (defScope st) f cdv A outer s H E) [] σ2 H2 s2 → RelV v u → Q v H2 → CE outer P w H s Q u s2 := fun {σ2 H2 v u} J2 rv q => ⟨v, H2, J2.os, J2.bare, J2.base, J2.hok, rv, q⟩
  cases fl with
  | ret u =>
    obtain ⟨v, σ2, H2, J2, rv, q⟩ := hs
    exact fin J2 rv q
  | next =>
    obtain ⟨σ2, H2, J2, q⟩ := hs
    exact fin (v := V.non) (u := Value.none) J2 rfl q
  | brk => exact hs.elim fun _ h => h.elim fun _ h => h.2.elim
  | cont => exact hs.elim fun _ h => h.elim fun _ h => h.2.elim
section
variable {X : Cx} {k : Nat} {ps : List Str} {sp : Sp} {x : Str} {p pos : Pos} {e : Expr} {es : List Expr} {t : TA}
theorem pe_callW (G : DefW X.prog X.w X.K X.mg X.base k x ps sp) (hr : L2H.RoomH k X.A) (ha : PA X (e :: es) t) (hg : Gl X x := by rfl)
    (hdb : (x == ("__debug__" : Str)) = false := by decide) (he : starEach (e :: es) X.env = (false, eval e X.env) :: starEach es X.env := by rfl) (hpl : (backTo pos (starEach es X.env)).any (·.1) = false := by rfl) : PE X (.Call (.Name x p) (e :: es) [] pos) (tCall sp [] E0 t) := by
  obtain ⟨f, fd, F, hm, hk, hb⟩ := G.ex
  refine ⟨fun pins s σ H Q I h => ?_⟩
  refine wpAny_Call_Name_kw (ld_glob I hg hm (PySem.W.callWith_K (h₀ := X.base) I.ok.mod.kin hk (thn (ha.run pos pins s σ H _ I h) fun us s1 hh => ?_) he hpl) hdb)
  obtain ⟨vs, H1, I1, r, q⟩ := hh
  rw [List.append_nil] at q
  have b := hb s1 us I1.kIn (by rw [List.append_nil, ← r.length]; exact F.len _ _ _ _ q)
  rw [List.append_nil] at b
  refine ⟨I1.kIn, wpAny_call (codeAny_mono (F.run X.A X.stack s1 H1 ⟨us, []⟩ us vs Q E0 hr I1.env0 b r q) fun r s2 hq => ?_)⟩
  cases r with
  | error e => exact hq.elim
  | ok fl =>
    cases fl with
    | ret u => exact I1.after hq
    | next => exact hq.elim
    | brk => exact hq.elim
    | cont => exact hq.elim
end
/-- isinstance(e, c), e the caught error (at a; its class cls, its dict d) -/
def rIsED (K : PySem.W.Frag) (a : Addr) (cls : Value) (d : Option Addr) : List V → Hp → VK → Prop := fun xs H Q => ∃ (D : Addr) (c : V) (cv : Value) (b : Bool) (dd : Addr) (fs : List (Str × V)), xs = [.ref a, c] ∧ cls = .ref D ∧ ExcC K D ∧ d = some dd ∧ H dd = some (.xd fs) ∧
  (∀ u, RelV c u → u = cv) ∧ PySem.W.kitOne K (.ref D) cv = some b ∧ Q (.bl b) H
theorem call_isED {X : Cx} {a : Addr} {cls : Value} {d : Option Addr} {oe : Obj} {pn : List (Addr × Obj)} (hz : Zc cls d oe) (hf : ∃ vs, oe.data = .fields vs) : CallR (X.suite a ((a, oe) :: pn)) (.builtin "isinstance") (rIsED X.K a cls d) := by
  intro pins s σ H xs us Q I r h
  obtain ⟨D, c, cv, b, dd, fs, rfl, hcl, T, hdd, hxd, hcv, e, q⟩ := h
  cases r with
  | cons rx rr =>
    cases rr with
    | cons rt rr =>
      cases rr
      cases rx
      have ec := hcv _ rt
      subst ec
      subst hcl
      subst hdd
      obtain ⟨hget, _⟩ := I.pin (a, oe) (List.mem_append.mpr (.inl List.mem_cons_self))
      obtain ⟨vs, hv⟩ := hf
      have hx : ObjOk X.prog X.w H s.heap dd (.xd fs) := I.hok dd _ hxd
      obtain ⟨mA, hns, _⟩ := hx
      obtain ⟨od, ho, _⟩ := lookIn_ns hns
      have J : PySem.W.InstAt s.heap a oe D (some od) := ⟨hget, hz.1, by unfold PySem.W.notCls; rw [hv], by rw [hz.2]; exact ho⟩
      obtain ⟨cd, hcc, _⟩ := PySem.W.any_some T.hd
      exact PySem.W.kia_one (PySem.W.kitx_exc (by rw [hcc]; rfl) T.hg T.hk T.hs T.ha T.hn T.ht T.hm) I.kIn J e (fun z => nomatch z) fun tk => ⟨.bl b, H, I.kept (t' := tk) fun _ _ z => z, rfl, q⟩
/-- e.f of the caught error -/
def tXfD (K : PySem.W.Frag) (a : Addr) (cls : Value) (d : Option Addr) (f : Str) (te : TE) : TE := fun σ H Q => te σ H fun x H1 => x = .ref a ∧ ∃ (D dd : Addr) (fs : List (Str × V)) (v : V), cls = .ref D ∧ XfC K D ∧ PySem.W.findIn K (.ref D) f = some none ∧ d = some dd ∧ H1 dd = some (.xd fs) ∧ fs.lookup f = some v ∧ Q v H1
theorem pe_xfD {X : Cx} {a : Addr} {oe : Obj} {cls : Value} {d : Option Addr} {pn : List (Addr × Obj)} {e : Expr} {te : TE} {pos : Pos} {n : Str}
    (hz : Zc cls d oe) (hf : ∃ vs, oe.data = .fields vs) (he : PE (X.suite a ((a, oe) :: pn)) e te) (hb : attributeBase e n X.env (eval e X.env) = eval e X.env := by rfl) :
    PE (X.suite a ((a, oe) :: pn)) (.Attribute e n pos) (tXfD X.K a cls d n te) := by
  refine ⟨fun pins s σ H Q I h => attr_of hb (thn (he.run pins s σ H _ I h) fun u s1 hh => ?_)⟩
  obtain ⟨x, H1, I1, rx, ex, D, dd, fs, v, ec, T, hno, ed, ea, l, q⟩ := hh
  subst ex
  obtain rfl : u = Value.ref a := rx
  subst ec
  subst ed
  obtain ⟨ha, _⟩ := I1.pin (a, oe) (List.mem_append_left _ List.mem_cons_self)
  obtain ⟨vs, hd⟩ := hf
  have hx : ObjOk X.prog X.w H1 s1.heap dd (.xd fs) := I1.hok dd _ ea
  obtain ⟨mA, hns, hr⟩ := hx
  obtain ⟨od, ho, hl⟩ := lookIn_ns hns
  obtain ⟨u, hu, ru⟩ := RelO.some_of (v := v) (o := mA n) (by rw [← l]; exact hr n)
  have J : PySem.W.InstAt s1.heap a oe D (some od) := ⟨ha, hz.1, by unfold PySem.W.notCls; rw [hd], by rw [hz.2]; exact ho⟩
  exact HandSPX.exc_get I1.kIn J T.ga T.gg T.exC (PySem.W.findObj_own T.hdC hno rfl (by rw [hl, hu])) (handed_of ru) ⟨v, H1, I1.tok _, ru, q⟩

/-! ### named readings -/
def tRaise (t : L2.St → Hp → XK → Prop) (W : WX) : TS := fun _ σ H => t σ H fun cls d H' => W cls d σ H'
theorem ps_raiseE {X : Cx} {W : WX} {e : Expr} {t : L2.St → Hp → XK → Prop} {pos : Pos} (hc : X.calm = true) (tk : L2N.Takes X W) (he : L2N.PMk X e t) : PS X (.Raise (some e) none pos) (tRaise t W) := L2N.ps_raise hc tk he
def tTryA (K : PySem.W.Frag) (c : Value) (i : Nat) (ts : Addr → Value → Option Addr → TS) (tb : WX → TS) : TS := fun D σ H => tb (wAs K c i ts (fun _ _ _ _ => False) D) D σ H
theorem ps_tryA {X : Cx} {x n : Str} {c : Value} {i : Nat} {body suite : List Stmt} {b₀ : Stmt} {np pos pos' : Pos} {tb : WX → TS} {ts : Addr → Value → Option Addr → TS} (hs : X.stack = X.env :: X.outer) (hf : X.env.frame = some X.env.locals) (hN : X.N.Nodup) (hi : X.N[i]? = some n) (hln : X.env.kindOf n = some .local) (hc : Names X x c)
    (hb : ∀ (W : WX) (pn : List (Addr × Obj)) (xe : Value → Shared → Prop), L2.Takes (X.tr pn xe) W → PassesOwn (model X.prog X.w) X.A X.env xe → PSs (X.tr pn xe) body (tb W))
    (hsu : ∀ (a : Addr) (oe : Obj) (cls : Value) (d : Option Addr) (pn : List (Addr × Obj)), Zc cls d oe → (∃ vs, oe.data = .fields vs) → PSs (X.suite a ((a, oe) :: pn)) (b₀ :: suite) (ts a cls d)) :
    PS X (.Try body [.ExceptHandler (some (.Name x np)) (some n) (b₀ :: suite) pos'] [] [] pos) (tTryA X.K c i ts tb) := L2.ps_try_as hs hf hN hi hln hc L2.takes0 hb hsu
theorem r_tryA {K : PySem.W.Frag} {c : Value} {i : Nat} {ts : Addr → Value → Option Addr → TS} {tb : WX → TS} {D : Ends} {σ : L2.St} {H : Hp} (q : tb (wAs K c i ts (fun _ _ _ _ => False) D) D σ H) : tTryA K c i ts tb D σ H := q
theorem r_callS {sp : Sp} {E : L2.St → XK} {t : TA} {σ : L2.St} {H : Hp} {Q : VK} (q : t σ H fun vs H1 => sp vs H1 Q (E σ)) : tCallS sp E t σ H Q := q
theorem r_raise {C : Addr} {fs : List Str} {ta : TA} {W : WX} {D : Ends} {σ : L2.St} {H : Hp} (q : ta σ H fun vs H1 => vs.length = fs.length ∧ (∀ v ∈ vs, Tell v) ∧ ∀ d, H1 d = none → W (.ref C) (some d) σ (upd H1 d (.xd (fs.zip vs).reverse))) : tRaise (tErr C fs ta) W D σ H := q
/-- the clause takes it -/
theorem w_yes {K : PySem.W.Frag} {cls c : Value} {d : Option Addr} {i : Nat} {ts : Addr → Value → Option Addr → TS} {Wout : WX} {D : Ends} {σ : L2.St} {H : Hp} (hb : PySem.W.exmOne K cls c = some true)
    (q : ∀ a, H a = none → ts a cls d { nx := fun σ' H' => D.nx (σ'.set i none) H', rt := D.rt, bk := fun σ' H' => D.bk (σ'.set i none) H', ct := fun σ' H' => D.ct (σ'.set i none) H' } (σ.set i (some (.ref a))) H) : wAs K c i ts Wout D cls d σ H := ⟨true, hb, fun _ => q, fun z => by cases z⟩
theorem r_isED {K : PySem.W.Frag} {a D C dd : Addr} {b : Bool} {fs : List (Str × V)} {H : Hp} {Q : VK} (T : ExcC K D) (hx : H dd = some (.xd fs)) (hk : PySem.W.kitOne K (.ref D) (.ref C) = some b) (q : Q (.bl b) H) : rIsED K a (.ref D) (some dd) [.ref a, .ref C] H Q :=
  ⟨D, .ref C, .ref C, b, dd, fs, rfl, rfl, T, rfl, hx, fun u h => h, hk, q⟩
theorem r_xfD {K : PySem.W.Frag} {a : Addr} {cls : Value} {d : Option Addr} {f : Str} {te : TE} {σ : L2.St} {H : Hp} {Q : VK} (q : te σ H fun x H1 => x = .ref a ∧ ∃ (D dd : Addr) (fs : List (Str × V)) (v : V), cls = .ref D ∧ XfC K D ∧ PySem.W.findIn K (.ref D) f = some none ∧ d = some dd ∧ H1 dd = some (.xd fs) ∧ fs.lookup f = some v ∧ Q v H1) : tXfD K a cls d f te σ H Q := q
/-- an error's dict beside the tracked heap -/
theorem _root_.RD.Own.xd {H0 H : Hp} {L : List (Addr × HO)} {d : Addr} {fs : List (Str × V)} (o : Own H0 H L) (hd : H d = none) : Own H0 (upd H d (.xd fs)) ((d, .xd fs) :: L) := o.new hd

/-! ### a def that may raise, called where it does not -/
def spZ (sp : Sp) : Sp := fun vs H Q _ => sp vs H Q (fun _ _ _ => False)
section
variable {P : Program} {w : World} {K : PySem.W.Frag} {mg : Str → Option Value} {base : Heap}
theorem _root_.RD.Def.toZ {x : Str} {ps : List Str} {k : Nat} {sp : Sp} (G : Def P w K mg base (L2.CX P w) k x ps sp) : Def P w K mg base CX0 k x ps (spZ sp) := by
  obtain ⟨f, fd, F, r⟩ := G.ex
  refine ⟨f, fd, ⟨fun vs H Q E h => F.len vs H Q _ h, fun A outer s H args us vs Q E hr e0 hb hv hs => codeAny_mono (F.run A outer s H args us vs Q (fun _ _ _ => False) hr e0 hb hv hs) fun r s2 hq => ?_⟩, r⟩
  cases r with
  | error e =>
    obtain ⟨a, B, H2, cls, d, e1, fl, h1, h2, h3, h4, h5, h6⟩ := hq
    exact h6
  | ok fl => cases fl <;> exact hq
end

/-! ### own errors raised in an except suite -/
section
variable {P : Program} {w : World} {K : PySem.W.Frag} {mg : Str → Option Value} {base : Heap}
theorem SupAt.okH {C fI : Addr} {qn : Str} {st : Stmt} {N ps : List Str} {k : Nat} {sp : Sp} {fd : FuncData} {p0 p1 p2 p3 p4 : Pos} {msg : Expr} {pl : Env → Sem Bool} {rest : List Stmt} {ar : Arg} (S : SupAt K C qn st fI fd) (hP : PrOk P) (U : SupC K C) (Z : NdefX.NScope N ps ["__class__"] (defScope st))
    (hsup : mg "super" = none) (har : ((defArgs st).posonlyargs ++ (defArgs st).args).head? = some ar) (han : ps.head? = some ar.arg)
    (hks : (defScope st).names.lookup ("super" : Str) = some .globalImplicit)
    (hB : defBody st = .Expr (.Call (.Attribute (.Call (.Name "super" p0) [] [] p1) "__init__" p2) [msg] [] p3) p4 :: rest)
    (hst : ∀ env : Env, starEach [msg] env = [(false, eval msg env)]) (hsw : ∀ env : Env, swapsWith (.Call (.Attribute (.Call (.Name "super" p0) [] [] p1) "__init__" p2) [msg] [] p3) none p4.line env = pure false)
    (hev : ∀ env : Env, eval (.Call (.Attribute (.Call (.Name "super" p0) [] [] p1) "__init__" p2) [msg] [] p3) env = (do
      let ov ← attributeBase (.Call (.Name "super" p0) [] [] p1) "__init__" env (eval (.Call (.Name "super" p0) [] [] p1) env)
      standAt p2.atName
      let (f, first) ← holding [ov] (getMethod ov "__init__" (pl env))
      callWith p3 f first (backTo p3 (starEach [msg] env)) []))
    (len : ∀ vs H Q E, sp vs H Q E → vs.length = ps.length)
    (hbody : ∀ (cda cc : Addr) (A : Around) (outer : List Env) (s : Shared) (H : Hp) (vs : List V) (Q : VK) (E : XK) (pp : Addr × Obj), L2H.RoomH k (A.deeper (NdefX.envF (supF qn st cda cc) fI s.heap.objs.size)) → sp vs H Q E →
      ∃ (a : Addr) (vs2 : List V) (tm : TE) (tr : TS), vs = .ref a :: vs2 ∧ H a = some (exo a C none) ∧ PE (NdefX.ncxH CX0 P w K mg base N (supF qn st cda cc) fI A outer s H E pp) msg tm ∧ PSs (NdefX.ncxH CX0 P w K mg base N (supF qn st cda cc) fI A outer s H E pp) rest tr ∧
        tm (NdefX.startF N vs [none]) H fun x H1 => (∃ v, [x] = [v]) ∧ H1 a = some (exo a C none) ∧ tr { nx := fun _ H' => Q .non H', rt := Q } (NdefX.startF N vs [none]) H1) :
    L2H.FnH P w K mg base CX0 (k + 1) fI fd ps sp := by
  obtain ⟨oc, od, kV, doc, pm, an, cda, cc, ct, osl, rfl, lk, hcd, ⟨cl1, cld1, csl1, hcc⟩, cl2, cld2, csl2, fs, tf, hcda, hfs⟩ := S.ex
  refine ⟨len, fun A outer s H args us vs Q E pp hr hhot hpin e0 hb r hsp => ?_⟩
  have KX : K.In s.heap := e0.mod.kin.keeps fun b o e => (e0.bs b o e).1
  have lim : s.heap.NoLimit := e0.mod.nolimit.keeps fun b o e => (e0.bs b o e).1
  have hl := len _ _ _ _ hsp
  have ccH : H cc = none := (e0.bs cc _ (e0.mod.kin _ _ hcc)).2
  have CA : NdefX.CellsAt [("__class__", cc)] ["__class__"] [none] s.heap H := by
    have look : ∀ y c, List.lookup y [(("__class__" : Str), cc)] = some c → y = "__class__" ∧ c = cc := fun y c h => by
      by_cases e : y = "__class__"
      · subst e
        simp [List.lookup] at h
        exact ⟨rfl, h.symm⟩
      · have e2 : (y == ("__class__" : Str)) = false := by simpa using e
        simp [List.lookup, e2] at h
    refine ⟨rfl, fun y c h => ?_, fun x y c h1 h2 => ?_, fun i y h => ?_⟩
    · obtain ⟨rfl, rfl⟩ := look y c h
      exact ⟨ccH, _, _, KX _ _ hcc, rfl⟩
    · rw [(look x c h1).1, (look y c h2).1]
    · match i, h with
      | 0, h =>
        have e : y = "__class__" := (Option.some.inj h).symm
        subst e
        exact ⟨cc, by simp [List.lookup], fun v z => by cases z⟩
  obtain ⟨a, vs2, tm, tr, hvs, ha, hm, htr, hq⟩ := hbody cda cc A outer s H vs Q E pp (hr.deeper _) hsp
  refine PySem.ks_codeAny_call_defAt (binds := ps.zip us) hr.depth (KX _ _ lk) rfl lim (PySem.W.codeRec_of KX hcd) rfl hb Z.nocell (fun ⟨n, _⟩ hy => Z.par n (List.of_mem_zip hy).1) (fun h₀ hns kp => ?_) Z.co Z.gen Z.kind
  have I := NdefX.inv_startNH (f := fI) (F := supF qn st cda cc) (CX := CX0) (E := E) (tk := s.toks + (ps.zip us).length) Z hpin e0 hl r CA hns kp
  have q0 : ∃ us2, us = .ref a :: us2 := by
    subst hvs
    cases r with
    | @cons _ u0 _ ur r0 r1 =>
      obtain rfl : u0 = Value.ref a := r0
      exact ⟨ur, rfl⟩
  obtain ⟨us2, hus⟩ := q0
  obtain ⟨p', ps2, hps⟩ : ∃ p' ps2, ps = p' :: ps2 := by
    cases ps with
    | nil => cases han
    | cons p' ps2 => exact ⟨p', ps2, rfl⟩
  have hp' : p' = ar.arg := by
    rw [hps] at han
    exact Option.some.inj han
  have ndP : ps.Nodup := by
    have q := Z.nd.sublist (List.take_sublist (ps.length + 1) N)
    rw [show N.take (ps.length + 1) = ps ++ [("__class__" : Str)] from Z.pre] at q
    exact (List.nodup_append.mp q).1
  have hself : (ps.zip us).reverse.lookup ar.arg = some (.ref a) := by
    refine NdefX.zip_look (i := 0) ndP ?_ ?_
    · rw [hps, hp']; rfl
    · rw [hus]; rfl
  have hself2 : (defScope st).names.lookup ar.arg = some .local := by
    rw [← hp']
    exact Z.par p' (by rw [hps]; exact List.mem_cons_self ..)
  refine PySem.ks_wpAt_mono (Q := SP (NdefX.ncxH CX0 P w K mg base N (supF qn st cda cc) fI A outer s H E pp) [] { nx := fun _ H' => Q .non H', rt := Q }) (E := (NdefX.ncxH CX0 P w K mg base N (supF qn st cda cc) fI A outer s H E pp).xe) ?_ (fun fl s' hs => ?_) fun _ _ z => z
  · show PySem.wpAt _ _ _ (execs (defBody st) _) _ _ _
    obtain ⟨oD, hD0, hD2⟩ : ∃ o, K.lookup C = some o ∧ ∃ cd, o.data = .cls cd ∧ PySem.W.clsIn K C = some cd := by
      have q := U.self
      unfold PySem.W.mroIn at q
      cases z : PySem.W.clsIn K C with
      | none => rw [z] at q; cases q
      | some cd =>
        obtain ⟨o, h1, h2⟩ := cls_obj z
        exact ⟨o, h1, cd, h2, rfl⟩
    obtain ⟨cd, hD3, hD4⟩ := hD2
    have K1 := I.kIn
    obtain ⟨t1, ho⟩ := exo_at I.hok ha
    have gN := I.mod.glob.keeps I.bk
    obtain ⟨mb, hmb1, hmb2⟩ := I.mod.blt
    have bN := hmb1.keeps I.bk
    rw [hB]
    refine PySem.ks_wpAt_execs_cons ?_
    refine PySem.ks_wpAt_Expr_any ?_ (by show ((defScope st).kind == .module && _) = false; rw [Z.kind]; rfl) (hsw _)
    refine PySem.ks_wpAt_MethodCall ?_ (hev _)
    refine PySem.ks_wpAt_super_base hks (Z.frk _ (List.mem_singleton.mpr rfl)) (by decide) rfl (K1 _ _ lk) rfl har rfl (K1 _ _ hcda) rfl hfs (by rw [hP.file]; exact beq_self_eq_true _) hP.top ?_
    refine PySem.W.ks_loadName_global Z.kind hks (Calls.loadGlobal_builtin gN hsup bN ((hmb2 _ (by decide)).trans (by kernel_rfl)) ⟨rfl, ?_⟩)
    refine wpAny_loadName_free Z.kind (Z.frk _ (List.mem_singleton.mpr rfl)) (show List.lookup ("__class__" : Str) [(("__class__" : Str), cc)] = some cc by simp [List.lookup]) ⟨_, K1 _ _ hcc, rfl⟩ ?_
    refine wpAny_loadName_local Z.kind hself2 hns hself ?_
    refine PySem.ks_wpAny_isType_cls (K1 _ _ hD0) hD3 ⟨rfl, ?_⟩
    refine PySem.ks_wpAny_call_super (K1 _ _ hD0) hD3 ho rfl (fun c z => by cases z) (PySem.W.looks_mroIn K1 U.self) (fun h1 e1 k1 => ?_)
    have I1 := I.kept (t' := s.toks + (ps.zip us).length) k1
    have J1 : PySem.W.InstAt h1 a _ C none := ⟨k1 _ _ ho, rfl, rfl, trivial⟩
    have hf : PySem.W.alongIn K "__init__" ((cd.mro.dropWhile (· != .ref C)).drop 1) = some (some (.builtin "ValueError.__init__")) := by
      have q := U.ini
      unfold PySem.W.ks_superIn at q
      rw [hD4] at q
      exact q
    refine PySem.W.kxs_getMethod PySem.W.kxs_ValueError e1 (PySem.W.looks_opaque I1.kIn U.stat) (l₀ := cd.mro) (fun A Q E s k q => wpAny_bind ((PySem.W.looks_clsIn I1.kIn hD4) A _ E s k (wpAny_pure q))) rfl I1.kIn hf (J1.type.andThen (PySem.W.looks_subIn I1.kIn U.sub)) (PySem.W.ks_ne I1.kIn J1 hD4) (by decide) ?_
    have I2 := I1.kept (t' := s.toks + (ps.zip us).length + 1) (h' := h1.push (PySem.W.kxs_mw "ValueError.__init__" a)) (fun b o q => Heap.get?_push_of_some _ q)
    have I3 := I2.pins_of (pins' := [(h1.objs.size, PySem.W.kxs_mw "ValueError.__init__" a)]) (fun p hp => by
      rw [List.mem_singleton.mp hp]
      exact ⟨Heap.get?_push_size _ rfl, I1.hok.fresh (Nat.le_refl _), Nat.ne_of_gt I1.lt, I1.nofs (Nat.le_refl _), fun v z => by cases z⟩)
    refine mw_call1 (i := "ValueError.__init__") (x := a) (hst _) ?_
    have hst0 := hst (NdefX.ncxH CX0 P w K mg base N (supF qn st cda cc) fI A outer s H E pp).env
    refine thn ((pa_cons hm pa_nil hst0).run p3 _ _ _ H (fun us2 H1 => (∃ v, us2 = [v]) ∧ H1 a = some (exo a C none) ∧ tr { nx := fun _ H' => Q .non H', rt := Q } (NdefX.startF N vs [none]) H1) I3 ?_) fun us3 s3 hh => ?_
    · exact hq
    obtain ⟨vs3, H1, I4, r4, ⟨v3, hv3⟩, ha1, hq1⟩ := hh
    subst hv3
    have hlen : us3.length ≤ sizeLine := by
      rw [← Paired.length r4]
      exact (by decide : 1 ≤ sizeLine)
    have hu : s3.heap.get? h1.objs.size = some (PySem.W.kxs_mw "ValueError.__init__" a) := (I4.pin _ (List.mem_append_right _ (List.mem_singleton.mpr rfl))).1
    refine ⟨hu, ?_⟩
    obtain ⟨t3, ho3⟩ := exo_at I4.hok ha1
    obtain ⟨nm, qq, nn, bs, bm, sn, sub, ab, col, dd, z0, z1, z2, z3, z5, hC, hbm⟩ := U.oex.cls
    obtain ⟨hp3, g3, d3, tk3, os3⟩ := s3
    have fin : ∀ h', (∀ b o, b ≠ a → hp3.get? b = some o → h'.get? b = some o) → h'.get? a = some (PySem.W.excObj C hp3.objs.size none .none) →
        PySem.wpAt (model P w) (A.deeper (NdefX.envF (supF qn st cda cc) fI s.heap.objs.size)) (.func (.Expr (.Call (.Attribute (.Call (.Name "super" p0) [] [] p1) "__init__" p2) [msg] [] p3) p4 :: rest) (NdefX.envF (supF qn st cda cc) fI s.heap.objs.size))
          (execs rest (NdefX.envF (supF qn st cda cc) fI s.heap.objs.size)) (SP (NdefX.ncxH CX0 P w K mg base N (supF qn st cda cc) fI A outer s H E pp) [] { nx := fun _ H' => Q .non H', rt := Q }) (NdefX.ncxH CX0 P w K mg base N (supF qn st cda cc) fI A outer s H E pp).xe ⟨h', g3, d3, tk3, os3⟩ := fun h' k hx => by
      have J := I4.write (t' := tk3) (x := a) (e := a) (o := exo a C none) (by rw [ha1]; exact True.intro) (.inl rfl) k ⟨_, hx⟩ (exo_ok hx)
      have eu : upd H1 a (exo a C none) = H1 := funext fun b => by
        by_cases hb : b = a
        · rw [hb, upd_same, ha1]
        · exact upd_ne hb
      rw [eu] at J
      exact PySem.wpAt_of_wpAny (htr.run [] _ _ H1 _ (J.pins_of (pins' := []) fun p hp => absurd hp (by simp)) hq1)
    refine wpAny_call (codeAny_of_tree (show wpAny _ _ (callAny (.ref h1.objs.size) ⟨us3, []⟩) _ _ _ from ?_))
    simp only [callAny]
    refine wpAny_bind (wpAny_load hu ?_)
    simp only [PySem.W.kxs_mw, show (Value.type "method-wrapper" == Value.type "method" || Value.type "method-wrapper" == Value.type "builtin_function_or_method" || Value.type "method-wrapper" == Value.type "method-wrapper") = true by decide, if_true]
    refine PySem.W.KFB.if_so (by decide) (wpAny_bind (PySem.W.check_bound_init F.excBase_ValueError.toExcCallFacts (I4.kIn _ _ hC) ho3 rfl (wpAny_bind (wpAny_pure (wpAny_pure ?_)))))
    refine ⟨plainId_quiet F.excBase_ValueError.init.plain _, codeAny_builtin F.excBase_ValueError.initEntry (PySem.W.exc_init_tree (cls := .ref C) (t0 := t3) (dv := none) (c2 := .none) (c3 := .none) (b4 := .bool false) ho3 hlen fun h' k hx _ => ?_)⟩
    exact fin h' k hx
  · have fin : ∀ {σ' : L2.St} {H' : Hp} {v : V} {u : Value}, Inv (NdefX.ncxH CX0 P w K mg base N (supF qn st cda cc) fI A outer s H E pp) [] σ' H' s' → L2.RelV v u → Q v H' → CE outer P w H s Q u s' :=
      fun {σ' H' v u} J rv q => ⟨v, H', J.os, J.bare, J.base, J.hok, rv, q⟩
    cases fl with
    | ret u =>
      obtain ⟨v, σ', H', J, rv, q⟩ := hs
      exact fin J rv q
    | next =>
      obtain ⟨σ', H', J, q⟩ := hs
      exact fin (v := V.non) (u := Value.none) J rfl q
    | brk =>
      obtain ⟨_, _, _, q⟩ := hs
      exact False.elim q
    | cont =>
      obtain ⟨_, _, _, q⟩ := hs
      exact False.elim q
end
/-- C's __init__ keeps sp where something is handled, too -/
structure EDefH (P : Program) (w : World) (K : PySem.W.Frag) (mg : Str → Option Value) (base : Heap) (C : Addr) (x : Str) (ps : List Str) (sp : Sp) : Prop where
  at_ : mg x = some (.ref C)
  oex : OexC K C
  ini : ∃ fI fd, L2H.FnH P w K mg base CX0 2 fI fd ps sp ∧ PySem.W.findIn K (.ref C) "__init__" = some (some (.ref fI)) ∧ PySem.W.typeIn K (.ref fI) = some (.type "function") ∧ Binds K fd ps []
theorem pmk_zc {X : Cx} {e : Expr} {t : L2.St → Hp → XK → Prop} (h : L2N.PMk X e t) : L2.PMk X e t := fun pins s σ H Q I q => thn (h pins s σ H Q I q) fun _ _ ⟨a, oe, vs, sI, H', cls, d, e1, J, k, hne, ha, hz, r⟩ => ⟨a, oe, vs, sI, H', cls, d, e1, J, k, hne, ha, hz.zc, r⟩
theorem ps_raiseX {X : Cx} {W : WX} {e : Expr} {t : L2.St → Hp → XK → Prop} {pos : Pos} (hc : X.calm = true) (tk : L2.Takes X W) (he : L2N.PMk X e t) : PS X (.Raise (some e) none pos) (tRaise t W) := L2.ps_raise hc tk (pmk_zc he)
theorem ps_raiseF {X : Cx} {W : WX} {e : Expr} {t : L2.St → Hp → XK → Prop} {j : Nat} {cpos pos : Pos} (hc : L2H.HotC X) (tk : L2.Takes X W) (he : L2H.PMk5 X e t) : PS X (.Raise (some e) (some (.Constant .none j cpos)) pos) (tRaise t W) := L2H.ps_raiseHN hc tk he
/-- arguments known by a word only -/
def tCutA (t : TA) : TA := fun σ H R => ∃ S : List V → Hp → Prop, t σ H S ∧ ∀ vs H1, S vs H1 → R vs H1
theorem pa_cut {X : Cx} {es : List Expr} {t : TA} (h : PA X es t) : PA X es (tCutA t) := ⟨fun pos pins s σ H R I ⟨S, h1, k⟩ => thn (h.run pos pins s σ H S I h1) fun us s1 ⟨vs, H1, I1, r, q⟩ => ⟨vs, H1, I1, r, k vs H1 q⟩⟩
section
variable {X : Cx} {C : Addr} {x f g : Str} {e : Expr} {es : List Expr} {ta : TA} {p pos : Pos}
theorem pmk5_e1 {n : Str} (G : EDefH X.prog X.w X.K X.mg X.base C x ["self", n] (sp_i1 C f)) (hr : L2H.RoomH 3 X.A) (hc : L2H.HotC X) (ha : PA X (e :: es) ta) (hg : Gl X x := by rfl) (hdb : (x == ("__debug__" : Str)) = false := by decide)
    (he : starEach (e :: es) X.env = (false, eval e X.env) :: starEach es X.env := by rfl) (hpl : (backTo pos (starEach es X.env)).any (·.1) = false := by rfl) : L2H.PMk5 X (.Call (.Name x p) (e :: es) [] pos) (tErr C [f] ta) := by
  obtain ⟨fI, fd, F1, iC, tI, hb⟩ := G.ini
  intro pins s σ H Q I h
  refine L2H.pmk5_oexH G.oex iC tI F1 hr hc hb pass0 hg G.at_ (pa_cut ha) hdb he hpl pins s σ H Q I ⟨_, h, fun vs H1 hh => ?_⟩
  obtain ⟨hl, ht, q⟩ := hh
  match vs, hl with
  | [v], _ =>
    refine ⟨sz2 _ (Nat.le_of_ble_eq_true rfl), fun a na => ⟨a, v, rfl, ht v List.mem_cons_self, upd_same, fun dx h1 h2 => ⟨rfl, dx, [(f, v)], upd_same, by rw [upd_ne h2, upd_same], ?_, ?_⟩⟩⟩
    · rw [upd_ne h2] at h1
      exact h1
    · rw [upd_ne h2] at h1
      rw [err_heap na h2 (H := H1) (fun b b1 b2 => by rw [upd_ne b1, upd_ne b2, upd_ne b1])]
      exact q dx h1
end
section
variable {P : Program} {w : World} {K : PySem.W.Frag} {mg : Str → Option Value} {base : Heap}
theorem _root_.RD.FunAt.okX {x : Str} {st : Stmt} {N ps : List Str} {k : Nat} {sp : Sp} (F : FunAt K mg x st ps) (S : FnScope N ps (defScope st)) (len : ∀ vs H Q E, sp vs H Q E → vs.length = ps.length)
    (hbody : ∀ (f : Addr) (cdv : Value) (A : Around) (outer : List Env) (s : Shared) (H : Hp) (vs : List V) (Q : VK) (E : XK), Room k (A.deeper (envOfC x (defScope st) s.heap.objs.size f cdv)) → sp vs H Q E →
      ∃ t, PSs (cxOf (L2.CX P w) P w K mg base N x (defScope st) f cdv A outer s H E) (defBody st) t ∧ t { nx := fun _ H' => Q .non H', rt := Q } (start N vs) H) : Def P w K mg base (L2.CX P w) (k + 1) x ps sp := by
  obtain ⟨f, fd, F, hm, hb⟩ := F.ex
  have kp := F.kp
  obtain ⟨oc, od, kV, doc, pm, an, cdv, ct, osl, rfl, lk, hcd⟩ := F.ex
  exact ⟨f, _, fn_of lk hcd S len fun A outer s H vs Q E hr hsp => hbody f cdv A outer s H vs Q E hr hsp, hm, kp, hb⟩
end
/-! a try whose suite raises -/
def tTryO (K : PySem.W.Frag) (c : Value) (ts : Addr → Value → Option Addr → TS) (Wout : WX) (tb : WX → TS) : TS := fun D σ H => tb (wOnly K c ts Wout D) D σ H
theorem ps_tryO {X : Cx} {x : Str} {c : Value} {body suite : List Stmt} {b₀ : Stmt} {np pos pos' : Pos} {tb : WX → TS} {ts : Addr → Value → Option Addr → TS} {Wout : WX} (hs : X.stack = X.env :: X.outer) (hf : X.env.frame = some X.env.locals) (hc : Names X x c) (hpa : ∀ hd : Option Value, PassesOwnAt (model X.prog X.w) (X.A.mark hd) X.A X.env X.xe) (tk : L2.Takes X Wout)
    (hb : ∀ (W : WX) (pn : List (Addr × Obj)) (xe : Value → Shared → Prop), L2N.Takes (X.tr pn xe) W → PassesOwn (model X.prog X.w) X.A X.env xe → PSs (X.tr pn xe) body (tb W))
    (hsu : ∀ (a : Addr) (oe : Obj) (cls : Value) (d : Option Addr) (pn : List (Addr × Obj)), L2N.Zn cls d oe → (∃ vs, oe.data = .fields vs) → L2.Takes (L2H.suiteX X a ((a, oe) :: pn)) Wout → L2H.HotC (L2H.suiteX X a ((a, oe) :: pn)) →
      PSs (L2H.suiteX X a ((a, oe) :: pn)) (b₀ :: suite) (ts a cls d)) :
    PS X (.Try body [.ExceptHandler (some (.Name x np)) none (b₀ :: suite) pos'] [] [] pos) (tTryO X.K c ts Wout tb) := L2H.ps_try_onlyX hs hf hc hpa tk (fun W pn xe t1 _ po => hb W pn xe t1 po) hsu
theorem r_tryO {K : PySem.W.Frag} {c : Value} {ts : Addr → Value → Option Addr → TS} {Wout : WX} {tb : WX → TS} {D : Ends} {σ : L2.St} {H : Hp} (q : tb (wOnly K c ts Wout D) D σ H) : tTryO K c ts Wout tb D σ H := q
theorem wo_yes {K : PySem.W.Frag} {cls c : Value} {d : Option Addr} {ts : Addr → Value → Option Addr → TS} {Wout : WX} {D : Ends} {σ : L2.St} {H : Hp} (hb : PySem.W.exmOne K cls c = some true) (q : ∀ a, H a = none → ts a cls d D σ H) : wOnly K c ts Wout D cls d σ H := ⟨true, hb, fun _ => q, fun z => by cases z⟩
/-! a call of a def that a local name holds, which may raise -/
structure HeldX (P : Program) (w : World) (K : PySem.W.Frag) (mg : Str → Option Value) (base : Heap) (CX : CXT) (k : Nat) (f : Addr) (sp : Sp) : Prop where
  ex : ∃ (fd : FuncData) (ps : List Str), FnOk P w K mg base CX k f fd ps sp ∧ PySem.W.keepIn K (.ref f) = true ∧ Binds K fd ps []
def tCallLS (i : Nat) (f : Addr) (sp : Sp) (E : L2.St → XK) (t : TA) : TE := fun σ H Q => σ[i]? = some (some (.ref f)) ∧ t σ H fun vs H1 => sp vs H1 Q (E σ)
theorem r_callLS {i : Nat} {f : Addr} {sp : Sp} {E : L2.St → XK} {t : TA} {σ : L2.St} {H : Hp} {Q : VK} (h : σ[i]? = some (some (.ref f))) (q : t σ H fun vs H1 => sp vs H1 Q (E σ)) : tCallLS i f sp E t σ H Q := ⟨h, q⟩
section
variable {X : Cx} {k i : Nat} {f : Addr} {sp : Sp} {x : Str} {p pos : Pos} {e : Expr} {es : List Expr} {t : TA} {W : WX}
theorem pe_callLN (G : HeldX X.prog X.w X.K X.mg X.base (L2N.CX X.prog X.w) k f sp) (tk : L2N.Takes X W) (hr : Room k X.A) (hN : X.N[i]? = some x) (hv : Vis X.env.scope x) (ha : PA X (e :: es) t)
    (hdb : (x == ("__debug__" : Str)) = false := by decide) (hcd : (x == ("__classdict__" : Str)) = false := by decide)
    (he : starEach (e :: es) X.env = (false, eval e X.env) :: starEach es X.env := by rfl) (hpl : (backTo pos (starEach es X.env)).any (·.1) = false := by rfl) : PE X (.Call (.Name x p) (e :: es) [] pos) (tCallLS i f sp (WE W) t) := by
  obtain ⟨fd, ps, F, hk, hb⟩ := G.ex
  refine ⟨fun pins s σ H Q I h => ?_⟩
  obtain ⟨hs, ht⟩ := h
  refine wpAny_Call_Name_kw (thn ((pe_var (pos := p) hN hv hdb hcd).run pins s σ H (fun v H1 => v = .ref f ∧ H1 = H) I ⟨.ref f, hs, rfl, rfl⟩) fun u s1 ⟨v, H1, I1, r1, q1⟩ => ?_)
  obtain ⟨rfl, rfl⟩ := q1
  cases r1
  refine PySem.W.callWith_K (h₀ := X.base) I.ok.mod.kin hk (thn (ha.run pos pins s1 σ _ _ I1 ht) fun us s2 ⟨vs, H2, I2, r, q⟩ => ⟨I2.kIn, ?_⟩) he hpl
  exact run_fnS F hr hb (L2N.passAt tk σ) I2 r q
end
/-! ### what a raised error is told by -/
/-- an error of the class at C with these fields, where the heap was H -/
def RetE (H : Hp) (E : XK) (C : Addr) (fs : List (Str × V)) : Prop := ∀ H' d, Same H H' → H d = none → H' d = some (.xd fs) → E (.ref C) (some d) H'
section
variable {H H0 H' : Hp} {E : XK} {C d : Addr} {fs : List (Str × V)} {L : List (Addr × HO)}
theorem RetE.mk (q : RetE H0 E C fs) (o : Own H0 H L) (hd : H d = none) : E (.ref C) (some d) (upd H d (.xd fs)) := q _ d (o.new (u := .xd fs) hd).ex (o.ex.free hd) upd_same
theorem r_retE (o : Own H0 H L) (k : ∀ d H', H d = none → Own H0 H' ((d, .xd fs) :: L) → E (.ref C) (some d) H') : RetE H E C fs := fun H' d s hd hx => k d H' hd (o.add s hd hx)
end
theorem ps_whileT {X : Cx} {pn : List (Addr × Obj)} {xe : Value → Shared → Prop} {c : Expr} {body : List Stmt} {tc : TT} {tb : TS} {pos : Pos} (hp : PassesOwn (model X.prog X.w) X.A X.env xe) (hc : PT (X.tr pn xe) c tc) (hb : PSs (X.tr pn xe) body tb) : PS (X.tr pn xe) (.While c body [] pos) (tWhile tc tb) := ps_while hp hc hb

/-! ### a try of several clauses, each with a name or without, and an else -/
/-- a clause: its class, its name's slot, its suite -/
structure Clz where
  c : Value
  nm : Option Nat
  ts : Addr → Value → Option Addr → TS
/-- behind a suite its name is gone -/
@[reducible] def asEnds (i : Option Nat) (D : Ends) : Ends := match i with
  | none => D
  | some i => { nx := fun σ' H' => D.nx (σ'.set i none) H', rt := D.rt, bk := fun σ' H' => D.bk (σ'.set i none) H', ct := fun σ' H' => D.ct (σ'.set i none) H' }
@[reducible] def asSt (i : Option Nat) (a : Addr) (σ : L2.St) : L2.St := match i with
  | none => σ
  | some i => σ.set i (some (.ref a))
def wMA (K : PySem.W.Frag) (Wout : WX) (D : Ends) : List Clz → WX
  | [] => Wout
  | c :: r => fun cls d σ H => ∃ b, PySem.W.exmOne K cls c.c = some b ∧ (b = true → ∀ a, H a = none → c.ts a cls d (asEnds c.nm D) (asSt c.nm a σ) H) ∧ (b = false → wMA K Wout D r cls d σ H)
inductive HdsA (X : Cx) : List ExceptHandler → List Clz → Prop
  | nil : HdsA X [] []
  | one {x : Str} {c : Value} {ts : Addr → Value → Option Addr → TS} {b₀ : Stmt} {suite : List Stmt} {np pos' : Pos} {hds : List ExceptHandler} {l : List Clz} (hc : Names X x c)
      (hsu : ∀ (a : Addr) (oe : Obj) (cls : Value) (d : Option Addr) (pn : List (Addr × Obj)), Zc cls d oe → (∃ vs, oe.data = .fields vs) → PSs (X.suite a ((a, oe) :: pn)) (b₀ :: suite) (ts a cls d)) (r : HdsA X hds l) :
      HdsA X (.ExceptHandler (some (.Name x np)) none (b₀ :: suite) pos' :: hds) (⟨c, none, ts⟩ :: l)
  | as {x n : Str} {c : Value} {i : Nat} {ts : Addr → Value → Option Addr → TS} {b₀ : Stmt} {suite : List Stmt} {np pos' : Pos} {hds : List ExceptHandler} {l : List Clz} (hi : X.N[i]? = some n) (hln : X.env.kindOf n = some .local) (hc : Names X x c)
      (hsu : ∀ (a : Addr) (oe : Obj) (cls : Value) (d : Option Addr) (pn : List (Addr × Obj)), Zc cls d oe → (∃ vs, oe.data = .fields vs) → PSs (X.suite a ((a, oe) :: pn)) (b₀ :: suite) (ts a cls d)) (r : HdsA X hds l) :
      HdsA X (.ExceptHandler (some (.Name x np)) (some n) (b₀ :: suite) pos' :: hds) (⟨c, some i, ts⟩ :: l)
def tTryM (K : PySem.W.Frag) (Wout : WX) (l : List Clz) (u : TS) (tb : WX → TS) : TS := fun D σ H => tb (wMA K Wout D l) { D with nx := u D } σ H
section
variable {X : Cx} {body : List Stmt} {h₀ : ExceptHandler} {hds : List ExceptHandler} {l : List Clz} {pos : Pos} {tb : WX → TS} {Wout : WX}
theorem ps_tryM {orelse : List Stmt} {u : TS} (ho : PSs X orelse u) (hs : X.stack = X.env :: X.outer) (hf : X.env.frame = some X.env.locals) (hN : X.N.Nodup) (tk : L2.Takes X Wout)
    (hb : ∀ (W : WX) (pn : List (Addr × Obj)) (xe : Value → Shared → Prop), L2.Takes (X.tr pn xe) W → PassesOwn (model X.prog X.w) X.A X.env xe → PSs (X.tr pn xe) body (tb W))
    (hh : HdsA X (h₀ :: hds) l) : PS X (.Try body (h₀ :: hds) orelse [] pos) (tTryM X.K Wout l u tb) := by
  refine ⟨fun pins s σ H D I h => ?_⟩
  have ok := I.ok
  have hfr : X.A.frames = some (X.env :: X.outer) := by rw [ok.frames, hs]
  refine wpAny_Try_except ?_
  refine wpAny_mono ((hb (wMA X.K Wout D l) (X.pn ++ pins) (fun e s₁ => wpAny (model X.prog X.w) X.A (noteFrame e X.env) (fun _ s₂ => wpAny (model X.prog X.w) X.A (setFlight e none) (fun _ s₃ =>
    wpAny (model X.prog X.w) X.A (handleBy e X.env (h₀ :: hds)) (SP X pins D) X.xe s₃) X.xe s₂) X.xe s₁) (fun u s' xx => ?_) PassesOwn.looking).run [] s σ H { D with nx := u D } (I.toTry _) h) (fun f s1 hsp => ?_) (fun e s1 he => he)
  · -- the catch
    obtain ⟨a, B, sI, pins', σ', H', cls, d, rfl, J', nb, up, sky, na, os, ag, w⟩ := xx
    have J : Inv X pins σ' H' sI := J'.ofTry ok
    have sky' : Sky B (X.env :: X.outer) a (Zc cls d) X.env.locals s'.heap := by rw [← hs]; exact sky
    show wpAny (model X.prog X.w) X.A (noteFrame (.ref a) X.env) _ _ _
    refine Sky.land Zc.steady hfr hf sky' fun h3 fl3 up3 => ?_
    have J3 : Inv X pins σ' H' { s' with heap := h3 } := J.landed nb fl3.1 (up.trans up3) os ag
    obtain ⟨oe3, vs3, he3, hz3, hd3⟩ := fl3.there
    have notFr : ∀ {h : Heap} {o : Obj} {vs : Array Value}, h.FunFrames B (X.env :: X.outer) → h.get? a = some o → o.data = .fields vs → a ∉ frs (X.env :: X.outer) := fun {h o vs} ff e dd hm => by
      obtain ⟨_, o', e', hnf⟩ := ff.mem hm
      rw [e] at e'; cases e'
      exact hnf _ dd
    have nfr := notFr fl3.2.2.1 he3 hd3
    have nL : a ≠ X.env.locals := fun z => nfr (List.mem_filterMap.mpr ⟨X.env, List.mem_cons_self, by rw [hf, z]⟩)
    have nF : a ∉ X.fs := fun hm => by
      obtain ⟨e, he, q⟩ := List.mem_filterMap.mp hm
      exact nfr (List.mem_filterMap.mpr ⟨e, List.mem_cons_of_mem _ he, q⟩)
    have S3 := J3.suite he3 hd3 na nL nF
    have LT : PySem.W.Looks (model X.prog X.w) h3 (typeOf (.ref a)) cls := fun A Q E s k q => wpAny_typeOf_ref (k _ _ he3) (by rw [hz3.1]; exact q)
    have test : ∀ {x : Str} {c : Value} {np : Pos} {Q : Value → Shared → Prop} {E : Value → Shared → Prop}, Names X x c → Q c { s' with heap := h3 } → wpAny (model X.prog X.w) (X.A.mark (some (.ref a))) (eval (.Name x np) X.env) Q E { s' with heap := h3 } := fun {x c np Q E} hc q => by
      obtain ⟨hg, hdbg, hm | ⟨hm, hv, hnn⟩⟩ := hc
      · exact ld_glob (X := X.suite a ((a, oe3) :: (X.pn ++ pins))) S3 hg hm q hdbg
      · exact ld_blt (X := X.suite a ((a, oe3) :: (X.pn ++ pins))) S3 hg hm hv q hnn hdbg
    have go : ∀ {hds' : List ExceptHandler} {l' : List Clz}, HdsA X hds' l' → wMA X.K Wout D l' cls d σ' H' →
        wpAny (model X.prog X.w) X.A (handleBy (.ref a) X.env hds') (SP X pins D) X.xe { s' with heap := h3 } := by
      intro hds' l' hk
      induction hk with
      | nil =>
        intro w
        refine wpAny_handleBy_nil ?_
        obtain ⟨k1, k2, k3, oe, vs, T, oT, ts', he, hz, hd, h1, hr⟩ := id fl3
        unfold PySem.passOn
        refine wpAny_bind (wpAny_field he hd h1 ?_)
        rw [if_neg (show ¬ ((Value.ref T == Value.none) = true) from by simp)]
        have fin : wpAny (model X.prog X.w) X.A (setFlight (.ref a) X.env.frame) (fun _ s4 => wpAny (model X.prog X.w) X.A (throw (.ref a) : Sem Flow) (SP X pins D) X.xe s4) X.xe { s' with heap := h3 } := by
          rw [hf]
          refine HandSPX.setFlight_upZ fl3 fun h4 hh4 up4 => wpAny_throw (tk _ _ ?_)
          exact ⟨a, B, sI, pins, σ', H', cls, d, rfl, J, nb, (up.trans up3).trans up4, .inr (.inr (by rw [hs]; exact hh4)), na, os, ag, w⟩
        first
          | exact wpAny_bind (wpAny_pure (wpAny_bind fin))
          | exact wpAny_bind fin
      | @one x c ts b₀ suite np pos' hds2 l2 hc hsu r ih =>
        intro w
        obtain ⟨b, hb1, hyes, hno⟩ := w
        refine wpAny_handleBy_cons (codeAny_handlers_test ?_) (by intro q; cases q)
        have LM := PySem.W.exm_one (M := model X.prog X.w) (J3.kIn) LT hb1
        refine test hc (LM.here ?_)
        cases b with
        | true =>
          refine codeAny_handlers_suite ?_
          refine HandSPX.lands_againZ fl3 fun h4 fl4 up4 => ?_
          have J4 : Inv X pins σ' H' { s' with heap := h4 } := J.landed nb fl4.1 ((up.trans up3).trans up4) os ag
          obtain ⟨oe4, vs4, he4, hz4, hd4⟩ := fl4.there
          have S4 := J4.suite he4 hd4 na nL nF
          refine wpAny_mono ((hsu a oe4 cls d (X.pn ++ pins) hz4 ⟨_, hd4⟩).run [] _ _ H' _ S4 (hyes rfl a na)) (fun f s6 hsp => ?_) (fun _ _ z => False.elim z)
          cases f with
          | next =>
            obtain ⟨σ6, H6, S6, q6⟩ := hsp
            exact ⟨_, _, S6.unsuite ok, q6⟩
          | brk =>
            obtain ⟨σ6, H6, S6, q6⟩ := hsp
            exact ⟨_, _, S6.unsuite ok, q6⟩
          | cont =>
            obtain ⟨σ6, H6, S6, q6⟩ := hsp
            exact ⟨_, _, S6.unsuite ok, q6⟩
          | ret u =>
            obtain ⟨v6, σ6, H6, S6, r6, q6⟩ := hsp
            exact ⟨_, _, _, S6.unsuite ok, r6, q6⟩
        | false =>
          show wpAny _ X.A (handleBy (.ref a) X.env hds2) _ _ _
          exact ih (hno rfl)
      | @as x n c i ts b₀ suite np pos' hds2 l2 hi hln hc hsu r ih =>
        intro w
        obtain ⟨b, hb1, hyes, hno⟩ := w
        refine wpAny_handleBy_cons (codeAny_handlers_test ?_) (by intro q; cases q)
        have LM := PySem.W.exm_one (M := model X.prog X.w) (J3.kIn) LT hb1
        have hloc : Loc X.env.scope n := .inl hln
        refine test hc (LM.here ?_)
        cases b with
        | true =>
          refine codeAny_handlers_suite_as ?_
          refine HandSPX.lands_againZ fl3 fun h4 fl4 up4 => ?_
          have J4 : Inv X pins σ' H' { s' with heap := h4 } := J.landed nb fl4.1 ((up.trans up3).trans up4) os ag
          obtain ⟨oe4, vs4, he4, hz4, hd4⟩ := fl4.there
          have S4 := J4.suite he4 hd4 na nL nF
          refine store_ok (X := X.suite a ((a, oe4) :: (X.pn ++ pins))) (v := .ref a) S4 hN hi hloc rfl (fun s5 S5 => ?_) (.inr hln)
          refine wpAny_mono ((hsu a oe4 cls d (X.pn ++ pins) hz4 ⟨_, hd4⟩).run [] s5 _ H' _ S5 (hyes rfl a na)) (fun f s6 hsp => ?_) (fun _ _ z => False.elim z)
          have end_ : ∀ {σ6 : L2.St} {H6 : Hp} {Q : Shared → Prop}, Inv (X.suite a ((a, oe4) :: (X.pn ++ pins))) [] σ6 H6 s6 → (∀ s7, Inv X pins (σ6.set i none) H6 s7 → Q s7) →
              wpAny (model X.prog X.w) X.A (do bindName X.env n .none; unbindBehindTheSuite X.env n pos') (fun _ s7 => Q s7) X.xe s6 := fun {σ6 H6 Q} S6 hq => gone_ok (S6.unsuite ok) hN hi hln hq
          cases f with
          | next =>
            obtain ⟨σ6, H6, S6, q6⟩ := hsp
            exact end_ S6 fun s7 J7 => ⟨_, _, J7, q6⟩
          | brk =>
            obtain ⟨σ6, H6, S6, q6⟩ := hsp
            exact end_ S6 fun s7 J7 => ⟨_, _, J7, q6⟩
          | cont =>
            obtain ⟨σ6, H6, S6, q6⟩ := hsp
            exact end_ S6 fun s7 J7 => ⟨_, _, J7, q6⟩
          | ret u =>
            obtain ⟨v6, σ6, H6, S6, r6, q6⟩ := hsp
            exact end_ S6 fun s7 J7 => ⟨_, _, _, J7, r6, q6⟩
        | false =>
          show wpAny _ X.A (handleBy (.ref a) X.env hds2) _ _ _
          exact ih (hno rfl)
    exact go hh w
  · cases f with
    | next =>
      obtain ⟨σ', H', J', q⟩ := hsp
      exact ho.run pins s1 σ' H' D (J'.ofTry ok) q
    | brk =>
      obtain ⟨σ', H', J', q⟩ := hsp
      exact ⟨σ', H', J'.ofTry ok, q⟩
    | cont =>
      obtain ⟨σ', H', J', q⟩ := hsp
      exact ⟨σ', H', J'.ofTry ok, q⟩
    | ret u =>
      obtain ⟨v, σ', H', J', r, q⟩ := hsp
      exact ⟨v, σ', H', J'.ofTry ok, r, q⟩
end
section
variable {K : PySem.W.Frag} {Wout : WX} {D : Ends} {c : Value} {nm : Option Nat} {ts : Addr → Value → Option Addr → TS} {l : List Clz} {cls : Value} {d : Option Addr} {σ : L2.St} {H : Hp} {u : TS} {tb : WX → TS}
theorem r_tryM (q : tb (wMA K Wout D l) { D with nx := u D } σ H) : tTryM K Wout l u tb D σ H := q
/-- the first clause takes it -/
theorem wm_yes (hb : PySem.W.exmOne K cls c = some true) (q : ∀ a, H a = none → ts a cls d (asEnds nm D) (asSt nm a σ) H) : wMA K Wout D (⟨c, nm, ts⟩ :: l) cls d σ H := ⟨true, hb, (fun _ => q), (fun z => nomatch z)⟩
theorem wm_no (hb : PySem.W.exmOne K cls c = some false) (q : wMA K Wout D l cls d σ H) : wMA K Wout D (⟨c, nm, ts⟩ :: l) cls d σ H := ⟨false, hb, (fun z => nomatch z), fun _ => q⟩
end

/-! ### methods that may raise -/
section
variable {P : Program} {w : World} {K : PySem.W.Frag} {mg : Str → Option Value} {base : Heap}
theorem _root_.RD.MethAt.okN {C : Addr} {m qn : Str} {st : Stmt} {N ps : List Str} {k : Nat} {sp : Sp} (F : MethAt K C m qn st ps) (S : FnScope N ps (defScope st)) (len : ∀ vs H Q E, sp vs H Q E → vs.length = ps.length)
    (hbody : ∀ (f : Addr) (cdv : Value) (A : Around) (outer : List Env) (s : Shared) (H : Hp) (vs : List V) (Q : VK) (E : XK), Room k (A.deeper (envOfC qn (defScope st) s.heap.objs.size f cdv)) → sp vs H Q E →
      ∃ t, PSs (cxOf (L2N.CX P w) P w K mg base N qn (defScope st) f cdv A outer s H E) (defBody st) t ∧ t { nx := fun _ H' => Q .non H', rt := Q } (start N vs) H) : MDef P w K mg base (L2N.CX P w) (k + 1) C m ps sp := by
  obtain ⟨f, fd, F, hm, hb⟩ := F.ex
  obtain ⟨oc, od, kV, doc, pm, an, cdv, ct, osl, rfl, lk, hcd⟩ := F.ex
  exact ⟨f, _, fn_of lk hcd S len fun A outer s H vs Q E hr hsp => hbody f cdv A outer s H vs Q E hr hsp, hm, hb⟩
theorem _root_.RD.MethAt.okX {C : Addr} {m qn : Str} {st : Stmt} {N ps : List Str} {k : Nat} {sp : Sp} (F : MethAt K C m qn st ps) (S : FnScope N ps (defScope st)) (len : ∀ vs H Q E, sp vs H Q E → vs.length = ps.length)
    (hbody : ∀ (f : Addr) (cdv : Value) (A : Around) (outer : List Env) (s : Shared) (H : Hp) (vs : List V) (Q : VK) (E : XK), Room k (A.deeper (envOfC qn (defScope st) s.heap.objs.size f cdv)) → sp vs H Q E →
      ∃ t, PSs (cxOf (L2.CX P w) P w K mg base N qn (defScope st) f cdv A outer s H E) (defBody st) t ∧ t { nx := fun _ H' => Q .non H', rt := Q } (start N vs) H) : MDef P w K mg base (L2.CX P w) (k + 1) C m ps sp := by
  obtain ⟨f, fd, F, hm, hb⟩ := F.ex
  obtain ⟨oc, od, kV, doc, pm, an, cdv, ct, osl, rfl, lk, hcd⟩ := F.ex
  exact ⟨f, _, fn_of lk hcd S len fun A outer s H vs Q E hr hsp => hbody f cdv A outer s H vs Q E hr hsp, hm, hb⟩
theorem _root_.RD.MDef.toX {C : Addr} {m : Str} {ps : List Str} {k : Nat} {sp : Sp} (G : MDef P w K mg base (L2N.CX P w) k C m ps sp) : MDef P w K mg base (L2.CX P w) k C m ps sp := by
  obtain ⟨f, fd, F, r⟩ := G.ex
  refine ⟨f, fd, ⟨F.len, fun A outer s H args us vs Q E hr e0 hb hv hs => codeAny_mono (F.run A outer s H args us vs Q E hr e0 hb hv hs) fun r s2 hq => ?_⟩, r⟩
  cases r with
  | error e => exact cx_of_cxn hq
  | ok fl => cases fl <;> exact hq
theorem _root_.RD.MDef.toZ {C : Addr} {m : Str} {ps : List Str} {k : Nat} {sp : Sp} (G : MDef P w K mg base (L2.CX P w) k C m ps sp) : MDef P w K mg base CX0 k C m ps (spZ sp) := by
  obtain ⟨f, fd, F, r⟩ := G.ex
  refine ⟨f, fd, ⟨fun vs H Q E h => F.len vs H Q _ h, fun A outer s H args us vs Q E hr e0 hb hv hs => codeAny_mono (F.run A outer s H args us vs Q (fun _ _ _ => False) hr e0 hb hv hs) fun r s2 hq => ?_⟩, r⟩
  cases r with
  | error e =>
    obtain ⟨a, B, H2, cls, d, e1, fl, h1, h2, h3, h4, h5, h6⟩ := hq
    exact h6
  | ok fl => cases fl <;> exact hq
theorem _root_.RD.MDef.imp {CX : CXT} {C : Addr} {m : Str} {k : Nat} {ps : List Str} {sp sp' : Sp} (F : MDef P w K mg base CX k C m ps sp) (h : ∀ vs H Q E, sp' vs H Q E → sp vs H Q E) : MDef P w K mg base CX k C m ps sp' := by
  obtain ⟨f, fd, F, r⟩ := F.ex
  exact ⟨f, fd, F.imp h, r⟩
end

/-! ### methods called and objects made where they may raise -/
def tMethS (C : Addr) (m : Str) (sp : Sp) (E : L2.St → XK) (ta : TE) (t : TA) : TE := fun σ H Q => ta σ H fun x H1 => ∃ a dx fs, x = .ref a ∧ H1 a = some (.ins C dx fs) ∧ fs.lookup m = none ∧ t σ H1 fun vs H2 => sp (x :: vs) H2 Q (E σ)
def tMakeS (C : Addr) (sp : Sp) (E : L2.St → XK) (t : TA) : TE := fun σ H Q => t σ H fun vs H1 => ∀ x dx, H1 x = none → H1 dx = none → dx ≠ x → sp (.ref x :: vs) (upd (upd H1 dx (.own x)) x (.ins C dx [])) (fun v H2 => v = .non ∧ Q (.ref x) H2) (E σ)
section
variable {X : Cx} {CX : CXT} {k : Nat} {f C : Addr} {fd : FuncData} {ps : List Str} {sp : Sp} {E : L2.St → XK} {x m : Str} {p pos apos : Pos} {e o : Expr} {es : List Expr} {ta : TE} {t : TA}
theorem pe_methS {pl : Sem Bool} (he : PE X o ta) (c : Cls X.K C) (hm : Meth X.K C m f) (F : FnOk X.prog X.w X.K X.mg X.base CX k f fd ps sp) (hr : Room k X.A) (hb : Binds X.K fd ps []) (hx : ∀ σ, PassesAt CX X σ (E σ)) (ha : PA X (e :: es) t)
    (hst : starEach (e :: es) X.env = (false, eval e X.env) :: starEach es X.env := by rfl) (hpl : (backTo pos (starEach es X.env)).any (·.1) = false := by rfl)
    (ht : eval (.Call (.Attribute o m apos) (e :: es) [] pos) X.env = (do
      let ov ← eval o X.env
      standAt apos.atName
      let (f, first) ← holding [ov] (getMethod ov m pl)
      callWith pos f first (backTo pos (starEach (e :: es) X.env)) (backToKw pos (keywordEach [] X.env))) := by rfl) :
    PE X (.Call (.Attribute o m apos) (e :: es) [] pos) (tMethS C m sp E ta t) := by
  refine ⟨fun pins s σ H Q I h => ?_⟩
  refine PySem.W.methodCall_KW (pl := pl) (thn (he.run pins s σ H _ I h) fun u s1 ⟨x, H1, I1, rx, a, dx, fs, ex, ea, l, q⟩ => ?_) ht
  subst ex
  obtain rfl : u = Value.ref a := rx
  refine getmeth_ok I1 ea c hm l ?_
  refine PySem.W.callWith_K (first := [.ref a]) (h₀ := X.base) I.ok.mod.kin hm.kp (thn (ha.run pos pins s1 σ H1 _ I1 q) fun us s2 ⟨vs, H2, I2, r, q2⟩ => ⟨I2.kIn, ?_⟩) hst hpl
  exact run_fnS (us := .ref a :: us) (vs := .ref a :: vs) F hr hb (hx σ) I2 (.cons rfl r) q2
theorem run_makeS {pins : List (Addr × Obj)} {σ : L2.St} {H : Hp} {s : Shared} {Q : VK} {us : List Value} {vs : List V} {E : XK} (M : Mk X.K C f) (F : FnOk X.prog X.w X.K X.mg X.base CX k f fd ps sp) (hr : Room (k + 1) X.A) (hb : Binds X.K fd ps [])
    (hx : PassesAt CX X σ E) (I : Inv X pins σ H s) (r : Vals vs us)
    (h : ∀ x dx, H x = none → H dx = none → dx ≠ x → sp (.ref x :: vs) (upd (upd H dx (.own x)) x (.ins C dx [])) (fun v H2 => v = .non ∧ Q (.ref x) H2) E) :
    wpAny (model X.prog X.w) X.A (call (.ref C) us) (EP X pins σ Q) X.xe s := by
  have hq := h (s.heap.objs.size + 1) s.heap.objs.size (I.hok.fresh (Nat.le_succ _)) (I.hok.fresh (Nat.le_refl _)) (Nat.ne_of_lt (Nat.lt_succ_self _))
  have I2 := Inv.made (C := C) I
  have r2 : Vals (V.ref (s.heap.objs.size + 1) :: vs) (Value.ref (s.heap.objs.size + 1) :: us) := .cons rfl r
  have hl : (Value.ref (s.heap.objs.size + 1) :: us ++ []).length = ps.length := by
    have e := r2.length
    rw [F.len _ _ _ _ hq] at e
    rw [List.append_nil]
    exact e.symm
  have hbb := hb _ (Value.ref (s.heap.objs.size + 1) :: us) I2.kIn hl
  rw [List.append_nil] at hbb
  refine wpAny_call (make_map (f := f) I.kIn M.makes M.init (beq_iff_eq.mp M.fn) (codeAny_mono (F.run _ X.stack _ _ ⟨Value.ref (s.heap.objs.size + 1) :: us, []⟩ (Value.ref (s.heap.objs.size + 1) :: us) _ _ E (hr.make C us [])
    (I2.env0.make C us []) hbb r2 hq) fun r s' hq' => ?_))
  cases r with
  | error e => exact hx pins _ _ e s' I2 hq'
  | ok fl =>
    cases fl with
    | ret u =>
      obtain ⟨v, H', I3, rv, ev, q3⟩ := I2.after hq'
      subst ev
      exact ⟨rv, ⟨V.ref (s.heap.objs.size + 1), H', I3, rfl, q3⟩⟩
    | next => exact False.elim hq'
    | brk => exact False.elim hq'
    | cont => exact False.elim hq'
theorem pe_makeS (M : Mk X.K C f) (F : FnOk X.prog X.w X.K X.mg X.base CX k f fd ps sp) (hr : Room (k + 1) X.A) (hg : Gl X x) (hm : X.mg x = some (.ref C)) (hb : Binds X.K fd ps []) (hx : ∀ σ, PassesAt CX X σ (E σ))
    (ha : PA X (e :: es) t) (hdb : (x == ("__debug__" : Str)) = false := by decide) (he : starEach (e :: es) X.env = (false, eval e X.env) :: starEach es X.env := by rfl) (hpl : (backTo pos (starEach es X.env)).any (·.1) = false := by rfl) :
    PE X (.Call (.Name x p) (e :: es) [] pos) (tMakeS C sp E t) := by
  refine ⟨fun pins s σ H Q I h => ?_⟩
  refine wpAny_Call_Name_kw (ld_glob I hg hm ?_ hdb)
  refine PySem.W.callWith_K (h₀ := X.base) I.ok.mod.kin M.kp (thn (ha.run pos pins s σ H _ I h) fun us s1 ⟨vs, H1, I1, r, q⟩ => ⟨I1.kIn, ?_⟩) he hpl
  exact run_makeS M F hr hb (hx σ) I1 r q
end
section
variable {X : Cx} {k : Nat} {C : Addr} {ps : List Str} {sp : Sp} {W : WX} {x m : Str} {p pos apos : Pos} {e o : Expr} {es : List Expr} {ta : TE} {t : TA}
theorem pe_methX {pl : Sem Bool} (he : PE X o ta) (c : Cls X.K C) (G : MDef X.prog X.w X.K X.mg X.base (L2.CX X.prog X.w) k C m ps sp) (tk : L2.Takes X W) (hr : Room k X.A) (ha : PA X (e :: es) t)
    (hst : starEach (e :: es) X.env = (false, eval e X.env) :: starEach es X.env := by rfl) (hpl : (backTo pos (starEach es X.env)).any (·.1) = false := by rfl)
    (ht : eval (.Call (.Attribute o m apos) (e :: es) [] pos) X.env = (do
      let ov ← eval o X.env
      standAt apos.atName
      let (f, first) ← holding [ov] (getMethod ov m pl)
      callWith pos f first (backTo pos (starEach (e :: es) X.env)) (backToKw pos (keywordEach [] X.env))) := by rfl) :
    PE X (.Call (.Attribute o m apos) (e :: es) [] pos) (tMethS C m sp (WE W) ta t) := by
  obtain ⟨f, fd, F, M, hb⟩ := G.ex
  exact pe_methS he c M F hr hb (fun σ => L2.passAt tk σ) ha hst hpl ht
theorem pe_methN {pl : Sem Bool} (he : PE X o ta) (c : Cls X.K C) (G : MDef X.prog X.w X.K X.mg X.base (L2N.CX X.prog X.w) k C m ps sp) (tk : L2N.Takes X W) (hr : Room k X.A) (ha : PA X (e :: es) t)
    (hst : starEach (e :: es) X.env = (false, eval e X.env) :: starEach es X.env := by rfl) (hpl : (backTo pos (starEach es X.env)).any (·.1) = false := by rfl)
    (ht : eval (.Call (.Attribute o m apos) (e :: es) [] pos) X.env = (do
      let ov ← eval o X.env
      standAt apos.atName
      let (f, first) ← holding [ov] (getMethod ov m pl)
      callWith pos f first (backTo pos (starEach (e :: es) X.env)) (backToKw pos (keywordEach [] X.env))) := by rfl) :
    PE X (.Call (.Attribute o m apos) (e :: es) [] pos) (tMethS C m sp (WE W) ta t) := by
  obtain ⟨f, fd, F, M, hb⟩ := G.ex
  exact pe_methS he c M F hr hb (fun σ => L2N.passAt tk σ) ha hst hpl ht
theorem pe_makeX (G : KDef X.prog X.w X.K X.mg X.base (L2.CX X.prog X.w) k C ps sp) (hm : X.mg x = some (.ref C)) (tk : L2.Takes X W) (hr : Room (k + 1) X.A) (ha : PA X (e :: es) t) (hg : Gl X x := by rfl)
    (hdb : (x == ("__debug__" : Str)) = false := by decide) (he : starEach (e :: es) X.env = (false, eval e X.env) :: starEach es X.env := by rfl) (hpl : (backTo pos (starEach es X.env)).any (·.1) = false := by rfl) : PE X (.Call (.Name x p) (e :: es) [] pos) (tMakeS C sp (WE W) t) := by
  obtain ⟨f, fd, F, M, hb⟩ := G.ex
  exact pe_makeS M F hr hg hm hb (fun σ => L2.passAt tk σ) ha hdb he hpl
theorem pe_makeN (G : KDef X.prog X.w X.K X.mg X.base (L2N.CX X.prog X.w) k C ps sp) (hm : X.mg x = some (.ref C)) (tk : L2N.Takes X W) (hr : Room (k + 1) X.A) (ha : PA X (e :: es) t) (hg : Gl X x := by rfl)
    (hdb : (x == ("__debug__" : Str)) = false := by decide) (he : starEach (e :: es) X.env = (false, eval e X.env) :: starEach es X.env := by rfl) (hpl : (backTo pos (starEach es X.env)).any (·.1) = false := by rfl) : PE X (.Call (.Name x p) (e :: es) [] pos) (tMakeS C sp (WE W) t) := by
  obtain ⟨f, fd, F, M, hb⟩ := G.ex
  exact pe_makeS M F hr hg hm hb (fun σ => L2N.passAt tk σ) ha hdb he hpl
end
section
variable {C : Addr} {m : Str} {sp : Sp} {E : L2.St → XK} {ta : TE} {t : TA} {σ : L2.St} {H : Hp} {Q : VK}
theorem r_methS (q : ta σ H fun x H1 => ∃ a dx fs, x = .ref a ∧ H1 a = some (.ins C dx fs) ∧ fs.lookup m = none ∧ t σ H1 fun vs H2 => sp (x :: vs) H2 Q (E σ)) : tMethS C m sp E ta t σ H Q := q
theorem r_makeS (q : t σ H fun vs H1 => ∀ x dx, H1 x = none → H1 dx = none → dx ≠ x → sp (.ref x :: vs) (upd (upd H1 dx (.own x)) x (.ins C dx [])) (fun v H2 => v = .non ∧ Q (.ref x) H2) (E σ)) : tMakeS C sp E t σ H Q := q
end
section
variable {P : Program} {w : World} {K : PySem.W.Frag} {mg : Str → Option Value} {base : Heap}
theorem _root_.RD.MkAt.okN {C : Addr} {qn : Str} {st : Stmt} {N ps : List Str} {k : Nat} {sp : Sp} (F : MkAt K C qn st ps) (S : FnScope N ps (defScope st)) (len : ∀ vs H Q E, sp vs H Q E → vs.length = ps.length)
    (hbody : ∀ (f : Addr) (cdv : Value) (A : Around) (outer : List Env) (s : Shared) (H : Hp) (vs : List V) (Q : VK) (E : XK), Room k (A.deeper (envOfC qn (defScope st) s.heap.objs.size f cdv)) → sp vs H Q E →
      ∃ t, PSs (cxOf (L2N.CX P w) P w K mg base N qn (defScope st) f cdv A outer s H E) (defBody st) t ∧ t { nx := fun _ H' => Q .non H', rt := Q } (start N vs) H) : KDef P w K mg base (L2N.CX P w) (k + 1) C ps sp := by
  obtain ⟨f, fd, F, hm, hb⟩ := F.ex
  obtain ⟨oc, od, kV, doc, pm, an, cdv, ct, osl, rfl, lk, hcd⟩ := F.ex
  exact ⟨f, _, fn_of lk hcd S len fun A outer s H vs Q E hr hsp => hbody f cdv A outer s H vs Q E hr hsp, hm, hb⟩
theorem _root_.RD.KDef.toX {C : Addr} {ps : List Str} {k : Nat} {sp : Sp} (G : KDef P w K mg base (L2N.CX P w) k C ps sp) : KDef P w K mg base (L2.CX P w) k C ps sp := by
  obtain ⟨f, fd, F, r⟩ := G.ex
  refine ⟨f, fd, ⟨F.len, fun A outer s H args us vs Q E hr e0 hb hv hs => codeAny_mono (F.run A outer s H args us vs Q E hr e0 hb hv hs) fun r s2 hq => ?_⟩, r⟩
  cases r with
  | error e => exact cx_of_cxn hq
  | ok fl => cases fl <;> exact hq
theorem _root_.RD.KDef.toZ {C : Addr} {ps : List Str} {k : Nat} {sp : Sp} (G : KDef P w K mg base (L2.CX P w) k C ps sp) : KDef P w K mg base CX0 k C ps (spZ sp) := by
  obtain ⟨f, fd, F, r⟩ := G.ex
  refine ⟨f, fd, ⟨fun vs H Q E h => F.len vs H Q _ h, fun A outer s H args us vs Q E hr e0 hb hv hs => codeAny_mono (F.run A outer s H args us vs Q (fun _ _ _ => False) hr e0 hb hv hs) fun r s2 hq => ?_⟩, r⟩
  cases r with
  | error e =>
    obtain ⟨a, B, H2, cls, d, e1, fl, h1, h2, h3, h4, h5, h6⟩ := hq
    exact h6
  | ok fl => cases fl <;> exact hq
end

local macro_rules | `(tactic| walk_at "rd1") => `(tactic| (first
  | with_reducible refine r_tryA ?_
  | with_reducible refine r_tryO ?_
  | with_reducible refine r_callS ?_
  | with_reducible refine r_xfD ?_
  | ((with_reducible refine r_callLS ?h ?_); (case h => exact rfl))))
local macro_rules | `(tactic| walk_at "rd1") => `(tactic| (first
  | with_reducible refine r_z2 ?_
  | with_reducible refine r_z3 ?_
  | with_reducible refine r_en ?_
  | ((with_reducible refine r_gTup3 (x := ?_) (y := ?_) (z := ?_) ?h ?_); (case h => walk_at "sqT"))))
local macro_rules | `(tactic| walk_at "rd1") => `(tactic| (first
  | with_reducible refine r_tryM ?_))
local macro_rules | `(tactic| walk_at "rd1") => `(tactic| (first
  | with_reducible refine r_methS ?_
  | with_reducible refine r_makeS ?_))
/-! ### own error classes without __init__ -/
section
structure ErrPl (K : PySem.W.Frag) (C : Addr) : Prop where
  x : PySem.W.excIn K C [.type "ValueError", .type "Exception", .type "BaseException", .type "object"] "ValueError.__new__" = true
  k : PySem.W.keepIn K (.ref C) = true
def tErr0 (C : Addr) : L2.St → Hp → XK → Prop := fun _ H Q => Q (.ref C) none H
theorem pmk_e0 {X : Cx} {C : Addr} {x m : Str} {j : Nat} {p p2 pos : Pos} (E : ErrCls X.K X.mg C x) (I : ErrPl X.K C) (hg : Gl X x := by rfl) (hdb : (x == ("__debug__" : Str)) = false := by decide) :
    L2N.PMk X (.Call (.Name x p) [.Constant (.str m) j p2] [] pos) (tErr0 C) := L2N.pmk_own PySem.F.excBase_ValueError I.x E.at_ I.k (raises_own E.ex.hs E.ty) hg hdb
theorem r_raise0 {C : Addr} {W : WX} {D : Ends} {σ : L2.St} {H : Hp} (q : W (.ref C) none σ H) : tRaise (tErr0 C) W D σ H := q
def rIsEB (K : PySem.W.Frag) (a : Addr) (cls : Value) (d : Option Addr) : List V → Hp → VK → Prop := fun xs H Q => ∃ (D : Addr), cls = .ref D ∧ d = none ∧ ExcC K D ∧ rIsE K D a xs H Q
theorem call_isEB {X : Cx} {a : Addr} {cls : Value} {d : Option Addr} {oe : Obj} {pn : List (Addr × Obj)} (hz : Zc cls d oe) (hf : ∃ vs, oe.data = .fields vs) : CallR (X.suite a ((a, oe) :: pn)) (.builtin "isinstance") (rIsEB X.K a cls d) := by
  intro pins s σ H xs us Q I r h
  obtain ⟨D, rfl, rfl, T, h⟩ := h
  exact call_isE T hz hf pins s σ H xs us Q I r h
theorem r_isE0 {K : PySem.W.Frag} {a D C : Addr} {b : Bool} {H : Hp} {Q : VK} (T : ExcC K D) (hk : PySem.W.kitOne K (.ref D) (.ref C) = some b) (q : Q (.bl b) H) : rIsEB K a (.ref D) none [.ref a, .ref C] H Q :=
  ⟨D, rfl, rfl, T, .ref C, .ref C, b, rfl, (fun u h => by cases h; rfl), hk, q⟩
def RetE0 (H : Hp) (E : XK) (C : Addr) : Prop := ∀ H', Same H H' → E (.ref C) none H'
theorem RetE0.mk {H0 H : Hp} {E : XK} {C : Addr} {L : List (Addr × HO)} (q : RetE0 H0 E C) (o : Own H0 H L) : E (.ref C) none H := q _ o.ex
theorem r_retE0 {H0 H : Hp} {E : XK} {C : Addr} {L : List (Addr × HO)} (o : Own H0 H L) (k : ∀ H', Own H0 H' L → E (.ref C) none H') : RetE0 H E C := fun H' s => k H' (o.mono s)
end
theorem r_retE0s {H0 H : Hp} {E : XK} {C : Addr} {L : List (Addr × HO)} (o : Own H0 H L) (k : ∀ H', Same H H' → Own H0 H' L → E (.ref C) none H') : RetE0 H E C := fun H' s => k H' s (o.mono s)

def topS (i : Nat) : Stmt := PySem.Challenge.pw_tessera_k15_plain_arrays_resized.main.body.getD i (.Pass ⟨0, 0, 0, 0⟩)
abbrev s_told : Stmt := topS 2
abbrev N_told : List Str := ["thing"]
theorem sc_told : FnScope N_told ["thing"] (defScope s_told) := ⟨rfl, rfl, rfl, by decide +kernel, rfl, by decide +kernel, by decide +kernel⟩
abbrev s_whole : Stmt := topS 10
abbrev N_whole : List Str := ["shape", "size"]
theorem sc_whole : FnScope N_whole ["shape"] (defScope s_whole) := ⟨rfl, rfl, rfl, by decide +kernel, rfl, by decide +kernel, by decide +kernel⟩
abbrev s_selection_size : Stmt := topS 11
abbrev N_selection_size : List Str := ["selection", "form", "parts", "size", "_", "count"]
theorem sc_selection_size : FnScope N_selection_size ["selection"] (defScope s_selection_size) := ⟨rfl, rfl, rfl, by decide +kernel, rfl, by decide +kernel, by decide +kernel⟩
abbrev s_fits : Stmt := topS 12
abbrev N_fits : List Str := ["shape", "selection", "form", "parts", "index"]
theorem sc_fits : FnScope N_fits ["shape", "selection"] (defScope s_fits) := ⟨rfl, rfl, rfl, by decide +kernel, rfl, by decide +kernel, by decide +kernel⟩
abbrev s_is_index : Stmt := topS 13
abbrev N_is_index : List Str := ["shape", "index", "place", "size"]
theorem sc_is_index : FnScope N_is_index ["shape", "index"] (defScope s_is_index) := ⟨rfl, rfl, rfl, by decide +kernel, rfl, by decide +kernel, by decide +kernel⟩
abbrev s_box_fits : Stmt := topS 14
abbrev N_box_fits : List Str := ["shape", "ranges", "start", "step", "count", "_", "lasts", "last", "size"]
theorem sc_box_fits : FnScope N_box_fits ["shape", "ranges"] (defScope s_box_fits) := ⟨rfl, rfl, rfl, by decide +kernel, rfl, by decide +kernel, by decide +kernel⟩
abbrev s_picked : Stmt := topS 15
abbrev N_picked : List Str := ["shape", "selection", "size", "form", "parts"]
theorem sc_picked : FnScope N_picked ["shape", "selection"] (defScope s_picked) := ⟨rfl, rfl, rfl, by decide +kernel, rfl, by decide +kernel, by decide +kernel⟩
abbrev s_box_indexes : Stmt := topS 16
abbrev N_box_indexes : List Str := ["ranges", "indexes", "start", "step", "count", "places", "number", "index", "place"]
theorem sc_box_indexes : FnScope N_box_indexes ["ranges"] (defScope s_box_indexes) := ⟨rfl, rfl, rfl, by decide +kernel, rfl, by decide +kernel, by decide +kernel⟩
abbrev s_meeting : Stmt := topS 17
abbrev N_meeting : List Str := ["first", "second", "ranges", "one", "other", "start", "behind"]
theorem sc_meeting : FnScope N_meeting ["first", "second"] (defScope s_meeting) := ⟨rfl, rfl, rfl, by decide +kernel, rfl, by decide +kernel, by decide +kernel⟩
abbrev s_is_shape : Stmt := topS 21
abbrev N_is_shape : List Str := ["shape", "size"]
theorem sc_is_shape : FnScope N_is_shape ["shape"] (defScope s_is_shape) := ⟨rfl, rfl, rfl, by decide +kernel, rfl, by decide +kernel, by decide +kernel⟩
abbrev s_element_count : Stmt := topS 22
abbrev N_element_count : List Str := ["shape", "count", "size"]
theorem sc_element_count : FnScope N_element_count ["shape"] (defScope s_element_count) := ⟨rfl, rfl, rfl, by decide +kernel, rfl, by decide +kernel, by decide +kernel⟩
abbrev s_rank_of : Stmt := topS 23
abbrev N_rank_of : List Str := ["shape", "index", "rank", "size", "place"]
theorem sc_rank_of : FnScope N_rank_of ["shape", "index"] (defScope s_rank_of) := ⟨rfl, rfl, rfl, by decide +kernel, rfl, by decide +kernel, by decide +kernel⟩
abbrev s__law_cell : Stmt := topS 27
abbrev N__law_cell : List Str := ["script", "k"]
theorem sc__law_cell : FnScope N__law_cell ["script", "k"] (defScope s__law_cell) := ⟨rfl, rfl, rfl, by decide +kernel, rfl, by decide +kernel, by decide +kernel⟩
abbrev s__law_draws : Stmt := topS 28
abbrev N__law_draws : List Str := ["cell", "count", "rows", "left", "k", "mixed"]
theorem sc__law_draws : FnScope N__law_draws ["cell", "count"] (defScope s__law_draws) := ⟨rfl, rfl, rfl, by decide +kernel, rfl, by decide +kernel, by decide +kernel⟩
abbrev s__law_is_int : Stmt := topS 29
abbrev N__law_is_int : List Str := ["x"]
theorem sc__law_is_int : FnScope N__law_is_int ["x"] (defScope s__law_is_int) := ⟨rfl, rfl, rfl, by decide +kernel, rfl, by decide +kernel, by decide +kernel⟩
abbrev s__law_ints : Stmt := topS 30
abbrev N__law_ints : List Str := ["x", "kind", "k"]
theorem sc__law_ints : FnScope N__law_ints ["x", "kind"] (defScope s__law_ints) := ⟨rfl, rfl, rfl, by decide +kernel, rfl, by decide +kernel, by decide +kernel⟩
abbrev s__law_is_tuple : Stmt := topS 31
abbrev N__law_is_tuple : List Str := ["x", "due"]
theorem sc__law_is_tuple : FnScope N__law_is_tuple ["x", "due"] (defScope s__law_is_tuple) := ⟨rfl, rfl, rfl, by decide +kernel, rfl, by decide +kernel, by decide +kernel⟩
abbrev s__law_is_number : Stmt := topS 32
abbrev N__law_is_number : List Str := ["x", "due"]
theorem sc__law_is_number : FnScope N__law_is_number ["x", "due"] (defScope s__law_is_number) := ⟨rfl, rfl, rfl, by decide +kernel, rfl, by decide +kernel, by decide +kernel⟩
abbrev s__law_shape : Stmt := topS 33
abbrev N__law_shape : List Str := ["draws", "at", "most", "k"]
theorem sc__law_shape : FnScope N__law_shape ["draws", "at", "most"] (defScope s__law_shape) := ⟨rfl, rfl, rfl, by decide +kernel, rfl, by decide +kernel, by decide +kernel⟩
abbrev s__law_all : Stmt := topS 34
abbrev N__law_all : List Str := ["shape", "found", "size", "more", "index", "place"]
theorem sc__law_all : FnScope N__law_all ["shape"] (defScope s__law_all) := ⟨rfl, rfl, rfl, by decide +kernel, rfl, by decide +kernel, by decide +kernel⟩
abbrev s__law_whole : Stmt := topS 35
abbrev N__law_whole : List Str := ["shape", "size"]
theorem sc__law_whole : FnScope N__law_whole ["shape"] (defScope s__law_whole) := ⟨rfl, rfl, rfl, by decide +kernel, rfl, by decide +kernel, by decide +kernel⟩
abbrev s__law_same_ints : Stmt := topS 36
abbrev N__law_same_ints : List Str := ["x", "due", "k"]
theorem sc__law_same_ints : FnScope N__law_same_ints ["x", "due"] (defScope s__law_same_ints) := ⟨rfl, rfl, rfl, by decide +kernel, rfl, by decide +kernel, by decide +kernel⟩
abbrev s__law_stream : Stmt := topS 37
abbrev N__law_stream : List Str := ["script", "count", "rows", "k"]
theorem sc__law_stream : FnScope N__law_stream ["script", "count"] (defScope s__law_stream) := ⟨rfl, rfl, rfl, by decide +kernel, rfl, by decide +kernel, by decide +kernel⟩
abbrev s__law_many : Stmt := topS 38
abbrev N__law_many : List Str := ["shape", "many", "size"]
theorem sc__law_many : FnScope N__law_many ["shape"] (defScope s__law_many) := ⟨rfl, rfl, rfl, by decide +kernel, rfl, by decide +kernel, by decide +kernel⟩
abbrev s_law : Stmt := topS 39
abbrev N_law : List Str := ["script", "draws", "shape", "fill", "array", "values", "k", "cells", "indexes", "other", "j", "left", "index"]
theorem sc_law : FnScope N_law ["script"] (defScope s_law) := ⟨rfl, rfl, rfl, by decide +kernel, rfl, by decide +kernel, by decide +kernel⟩
abbrev s_TooLarge___init__ : Stmt := inClass (topS 6) 0
abbrev N_TooLarge___init__ : List Str := ["self", "limit", "__class__"]
abbrev s_WrongCount___init__ : Stmt := inClass (topS 7) 0
abbrev N_WrongCount___init__ : List Str := ["self", "due", "given", "__class__"]
abbrev s_PlainArray___init__ : Stmt := inClass (topS 25) 0
abbrev N_PlainArray___init__ : List Str := ["self", "shape", "fill"]
theorem sc_PlainArray___init__ : FnScope N_PlainArray___init__ ["self", "shape", "fill"] (defScope s_PlainArray___init__) := ⟨rfl, rfl, rfl, by decide +kernel, rfl, by decide +kernel, by decide +kernel⟩
abbrev s_PlainArray_all_values : Stmt := inClass (topS 25) 1
abbrev N_PlainArray_all_values : List Str := ["self"]
theorem sc_PlainArray_all_values : FnScope N_PlainArray_all_values ["self"] (defScope s_PlainArray_all_values) := ⟨rfl, rfl, rfl, by decide +kernel, rfl, by decide +kernel, by decide +kernel⟩
abbrev s_PlainArray_read : Stmt := inClass (topS 25) 2
abbrev N_PlainArray_read : List Str := ["self", "selection", "index"]
theorem sc_PlainArray_read : FnScope N_PlainArray_read ["self", "selection"] (defScope s_PlainArray_read) := ⟨rfl, rfl, rfl, by decide +kernel, rfl, by decide +kernel, by decide +kernel⟩
abbrev s_PlainArray_write : Stmt := inClass (topS 25) 3
abbrev N_PlainArray_write : List Str := ["self", "selection", "values", "indexes", "index", "value"]
theorem sc_PlainArray_write : FnScope N_PlainArray_write ["self", "selection", "values"] (defScope s_PlainArray_write) := ⟨rfl, rfl, rfl, by decide +kernel, rfl, by decide +kernel, by decide +kernel⟩
abbrev s_PlainArray_resize : Stmt := inClass (topS 25) 4
abbrev N_PlainArray_resize : List Str := ["self", "shape", "resized", "kept"]
theorem sc_PlainArray_resize : FnScope N_PlainArray_resize ["self", "shape"] (defScope s_PlainArray_resize) := ⟨rfl, rfl, rfl, by decide +kernel, rfl, by decide +kernel, by decide +kernel⟩
structure Errs (K : PySem.W.Frag) (mg : Str → Option Value) (C_TesseraError C_InvalidShape C_InvalidSelection C_TooLarge C_WrongCount : Addr) : Prop where
  c_TesseraError : ErrCls K mg C_TesseraError "TesseraError"
  c_InvalidShape : ErrCls K mg C_InvalidShape "InvalidShape"
  c_InvalidSelection : ErrCls K mg C_InvalidSelection "InvalidSelection"
  c_TooLarge : ErrCls K mg C_TooLarge "TooLarge"
  c_WrongCount : ErrCls K mg C_WrongCount "WrongCount"
  i_TooLarge : ErrIni K C_TooLarge "TooLarge.__init__" s_TooLarge___init__ ["self", "limit"] ["limit"]
  i_WrongCount : ErrIni K C_WrongCount "WrongCount.__init__" s_WrongCount___init__ ["self", "due", "given"] ["due", "given"]
  p_InvalidShape : ErrPl K C_InvalidShape
  p_InvalidSelection : ErrPl K C_InvalidSelection
  s_TesseraError_TesseraError : PySem.W.subIn K (.ref C_TesseraError) (.ref C_TesseraError) = some true
  s_TesseraError_InvalidShape : PySem.W.subIn K (.ref C_TesseraError) (.ref C_InvalidShape) = some false
  s_TesseraError_InvalidSelection : PySem.W.subIn K (.ref C_TesseraError) (.ref C_InvalidSelection) = some false
  s_TesseraError_TooLarge : PySem.W.subIn K (.ref C_TesseraError) (.ref C_TooLarge) = some false
  s_TesseraError_WrongCount : PySem.W.subIn K (.ref C_TesseraError) (.ref C_WrongCount) = some false
  s_InvalidShape_TesseraError : PySem.W.subIn K (.ref C_InvalidShape) (.ref C_TesseraError) = some true
  s_InvalidShape_InvalidShape : PySem.W.subIn K (.ref C_InvalidShape) (.ref C_InvalidShape) = some true
  s_InvalidShape_InvalidSelection : PySem.W.subIn K (.ref C_InvalidShape) (.ref C_InvalidSelection) = some false
  s_InvalidShape_TooLarge : PySem.W.subIn K (.ref C_InvalidShape) (.ref C_TooLarge) = some false
  s_InvalidShape_WrongCount : PySem.W.subIn K (.ref C_InvalidShape) (.ref C_WrongCount) = some false
  s_InvalidSelection_TesseraError : PySem.W.subIn K (.ref C_InvalidSelection) (.ref C_TesseraError) = some true
  s_InvalidSelection_InvalidShape : PySem.W.subIn K (.ref C_InvalidSelection) (.ref C_InvalidShape) = some false
  s_InvalidSelection_InvalidSelection : PySem.W.subIn K (.ref C_InvalidSelection) (.ref C_InvalidSelection) = some true
  s_InvalidSelection_TooLarge : PySem.W.subIn K (.ref C_InvalidSelection) (.ref C_TooLarge) = some false
  s_InvalidSelection_WrongCount : PySem.W.subIn K (.ref C_InvalidSelection) (.ref C_WrongCount) = some false
  s_TooLarge_TesseraError : PySem.W.subIn K (.ref C_TooLarge) (.ref C_TesseraError) = some true
  s_TooLarge_InvalidShape : PySem.W.subIn K (.ref C_TooLarge) (.ref C_InvalidShape) = some false
  s_TooLarge_InvalidSelection : PySem.W.subIn K (.ref C_TooLarge) (.ref C_InvalidSelection) = some false
  s_TooLarge_TooLarge : PySem.W.subIn K (.ref C_TooLarge) (.ref C_TooLarge) = some true
  s_TooLarge_WrongCount : PySem.W.subIn K (.ref C_TooLarge) (.ref C_WrongCount) = some false
  s_WrongCount_TesseraError : PySem.W.subIn K (.ref C_WrongCount) (.ref C_TesseraError) = some true
  s_WrongCount_InvalidShape : PySem.W.subIn K (.ref C_WrongCount) (.ref C_InvalidShape) = some false
  s_WrongCount_InvalidSelection : PySem.W.subIn K (.ref C_WrongCount) (.ref C_InvalidSelection) = some false
  s_WrongCount_TooLarge : PySem.W.subIn K (.ref C_WrongCount) (.ref C_TooLarge) = some false
  s_WrongCount_WrongCount : PySem.W.subIn K (.ref C_WrongCount) (.ref C_WrongCount) = some true
structure Cl_PlainArray (K : PySem.W.Frag) (mg : Str → Option Value) (C : Addr) : Prop where
  cl : Cls K C
  at_ : mg "PlainArray" = some (.ref C)
  a_shape : NoAttr K C "shape"
  a_fill : NoAttr K C "fill"
  a__held : NoAttr K C "_held"
  i_ : MkAt K C "PlainArray.__init__" s_PlainArray___init__ ["self", "shape", "fill"]
  m_all_values : MethAt K C "all_values" "PlainArray.all_values" s_PlainArray_all_values ["self"]
  m_read : MethAt K C "read" "PlainArray.read" s_PlainArray_read ["self", "selection"]
  m_write : MethAt K C "write" "PlainArray.write" s_PlainArray_write ["self", "selection", "values"]
  m_resize : MethAt K C "resize" "PlainArray.resize" s_PlainArray_resize ["self", "shape"]
structure Top (K : PySem.W.Frag) (mg : Str → Option Value) : Prop where
  f_told : FunAt K mg "told" s_told ["thing"]
  f_whole : FunAt K mg "whole" s_whole ["shape"]
  f_selection_size : FunAt K mg "selection_size" s_selection_size ["selection"]
  f_fits : FunAt K mg "fits" s_fits ["shape", "selection"]
  f_is_index : FunAt K mg "is_index" s_is_index ["shape", "index"]
  f_box_fits : FunAt K mg "box_fits" s_box_fits ["shape", "ranges"]
  f_picked : FunAt K mg "picked" s_picked ["shape", "selection"]
  f_box_indexes : FunAt K mg "box_indexes" s_box_indexes ["ranges"]
  f_meeting : FunAt K mg "meeting" s_meeting ["first", "second"]
  f_is_shape : FunAt K mg "is_shape" s_is_shape ["shape"]
  f_element_count : FunAt K mg "element_count" s_element_count ["shape"]
  f_rank_of : FunAt K mg "rank_of" s_rank_of ["shape", "index"]
  f__law_cell : FunAt K mg "_law_cell" s__law_cell ["script", "k"]
  f__law_draws : FunAt K mg "_law_draws" s__law_draws ["cell", "count"]
  f__law_is_int : FunAt K mg "_law_is_int" s__law_is_int ["x"]
  f__law_ints : FunAt K mg "_law_ints" s__law_ints ["x", "kind"]
  f__law_is_tuple : FunAt K mg "_law_is_tuple" s__law_is_tuple ["x", "due"]
  f__law_is_number : FunAt K mg "_law_is_number" s__law_is_number ["x", "due"]
  f__law_shape : FunAt K mg "_law_shape" s__law_shape ["draws", "at", "most"]
  f__law_all : FunAt K mg "_law_all" s__law_all ["shape"]
  f__law_whole : FunAt K mg "_law_whole" s__law_whole ["shape"]
  f__law_same_ints : FunAt K mg "_law_same_ints" s__law_same_ints ["x", "due"]
  f__law_stream : FunAt K mg "_law_stream" s__law_stream ["script", "count"]
  f__law_many : FunAt K mg "_law_many" s__law_many ["shape"]
  f_law : FunAt K mg "law" s_law ["script"]
  c_PlainArray : ∃ C, Cl_PlainArray K mg C
  errs : ∃ C_TesseraError C_InvalidShape C_InvalidSelection C_TooLarge C_WrongCount, Errs K mg C_TesseraError C_InvalidShape C_InvalidSelection C_TooLarge C_WrongCount
  g_BEYOND_TOLD : ∃ t, mg "BEYOND_TOLD" = some (.int 1000000000000000000000000000000 t)
  g_GREATEST_SIZE : ∃ t, mg "GREATEST_SIZE" = some (.int 1000000000 t)
  g_MOST_DIMENSIONS : ∃ t, mg "MOST_DIMENSIONS" = some (.int 4 t)
  g_MOST_PICKED : ∃ t, mg "MOST_PICKED" = some (.int 100000 t)
  b_abs : mg "abs" = none
  b_all : mg "all" = none
  b_any : mg "any" = none
  b_bool : mg "bool" = none
  b_int : mg "int" = none
  b_isinstance : mg "isinstance" = none
  b_len : mg "len" = none
  b_list : mg "list" = none
  b_max : mg "max" = none
  b_min : mg "min" = none
  b_range : mg "range" = none
  b_str : mg "str" = none
  b_super : mg "super" = none
  b_tuple : mg "tuple" = none
  b_zip : mg "zip" = none
/-! ### the law's helpers -/
def Dr (ns : List Int) : Prop := ∀ x ∈ ns, 0 ≤ x ∧ x < 4096
theorem Dr.gi {ns : List Int} (d : Dr ns) {i : Int} (h0 : 0 ≤ i) (h1 : i < ns.length) : 0 ≤ gi ns i ∧ gi ns i < 4096 := d _ (gi_mem h0 h1)
theorem Dr.app {ns : List Int} (d : Dr ns) {x : Int} (h0 : 0 ≤ x) (h1 : x < 4096) : Dr (ns ++ [x]) := fun y hy => by
  rcases List.mem_append.mp hy with h | h
  · exact d y h
  · rw [List.mem_singleton.mp h]; exact ⟨h0, h1⟩
theorem Dr.app2 {ns ms : List Int} (d : Dr ns) (e : Dr ms) : Dr (ns ++ ms) := fun y hy => by
  rcases List.mem_append.mp hy with h | h
  · exact d y h
  · exact e y h
theorem Dr.take {ns : List Int} (d : Dr ns) (n : Nat) : Dr (ns.take n) := fun y hy => d y (List.mem_of_mem_take hy)
section
variable {P : Program} {w : World} {K : PySem.W.Frag} {mg : Str → Option Value} {base : Heap}
def sp_cell (K : PySem.W.Frag) : Sp := fun vs H Q _ => ∃ (a : Addr) (ns : List Int) (i : Int), vs = [.ref a, .int i] ∧ SqL K H a (ns.map V.int) ∧ 0 ≤ i ∧ Q (.int (gi ns i)) H
theorem d_cell (T : Top K mg) : Def P w K mg base CX0 1 "_law_cell" ["script", "k"] (sp_cell K) := by
  refine T.f__law_cell.ok sc__law_cell (by rintro vs H Q E ⟨a, ns, i, rfl, _⟩; rfl) (fun f cdv A outer s H vs Q E hr h => ?_)
  obtain ⟨a, ns, i, rfl, hS, h0, q⟩ := h
  refine ⟨_, (pss_cons (ps_if (pt_cmpR op_lt (pv 1) (pe_callB (r := Evl.rLenS K) call_len_seq (by rfl) T.b_len (by decide +kernel) (pa_cons (pv 0) pa_nil)) (nomark _)) (pss_one (ps_ret (pe_ix (r := rIxL K) ix_list (pv 0) (pv 1) (fun _ _ => rfl)))) pss_nil)
      (pss_one (ps_ret pe_int))), ?_⟩
  walk_at "rd"
  refine rif (fun h => ?_) fun h => ?_
  · walk_at "rd"
    rw [List.length_map] at h
    exact r_ixL hS (at_ints h0 h) q
  · walk_at "rd"
    rw [List.length_map] at h
    have e : gi ns i = 0 := by
      unfold gi
      rw [List.getD_eq_getElem?_getD, List.getElem?_eq_none (by omega)]
      rfl
    rw [e] at q
    exact q
def sp_draws : Sp := fun vs H Q _ => ∃ (c : Int) (n : Nat), vs = [.int c, .int n] ∧ n ≤ 1000 ∧ ∀ ns : List Int, ns.length = n → Dr ns → RetO H Q (.lst (ns.map V.int))
theorem d_draws (T : Top K mg) : Def P w K mg base CX0 1 "_law_draws" ["cell", "count"] sp_draws := by
  refine T.f__law_draws.ok sc__law_draws (by rintro vs H Q E ⟨c, n, rfl, _⟩; rfl) (fun f cdv A outer s H vs Q E hr h => ?_)
  obtain ⟨c, n, rfl, hn, q⟩ := h
  refine ⟨_, (pss_cons (ps_set (i := 2) sc__law_draws.nd rfl (Or.inl rfl) (pe_lst pa_nil))
      (pss_cons (ps_set (i := 3) sc__law_draws.nd rfl (Or.inl rfl) (pv 0))
      (pss_cons (ps_for PassesOwn.never rfl (pi_range1 (by rfl) T.b_range (pa_cons (pv 1) pa_nil)) (pg_name (i := 4) sc__law_draws.nd rfl (Or.inl rfl)) (pss_one (ps_if (pt_cutT (PW.pt (pw_and (pt_cmpR op_ge (pv 0) (pe_powC (c := 1000000000000000000) ⟨by decide, by decide, by decide⟩ (by decide +kernel)) (nomark _)) (pw_and1 (pt_cmpR op_gt (pv 3) pe_int (nomark _)))))) (pss_cons (ps_expr (pe_bm PySem.F.plainAttrs_list PySem.F.slot_list_append PySem.F.type_list_append mt_append (pv 2) (pa_cons (pe_op op_mod (pe_callTy (r := rInt1) call_int1 (by rfl) T.b_int (by decide +kernel) (pa_cons (pv 3) pa_nil)) pe_int) pa_nil)))
      (pss_one (ps_set (i := 3) sc__law_draws.nd rfl (Or.inl rfl) (pe_op op_fdiv (pv 3) pe_int)))) (pss_cons (ps_set (i := 5) sc__law_draws.nd rfl (Or.inl rfl) (pe_op op_mod (pe_callTy (r := rInt1) call_int1 (by rfl) T.b_int (by decide +kernel) (pa_cons (pe_op op_add (pe_op op_mul (pv 0) pe_int) (pe_op op_mul (pe_op op_add (pv 4) pe_int) pe_int)) pa_nil)) pe_int))
      (pss_cons (ps_set (i := 5) sc__law_draws.nd rfl (Or.inl rfl) (pe_op op_mod (pe_callTy (r := rInt1) call_int1 (by rfl) T.b_int (by decide +kernel) (pa_cons (pe_op op_add (pe_op op_add (pe_op op_mul (pv 5) (pv 5)) (pe_op op_mul (pv 5) pe_int)) (pe_op op_mul (pv 4) pe_int)) pa_nil)) pe_int))
      (pss_cons (ps_set (i := 5) sc__law_draws.nd rfl (Or.inl rfl) (pe_op op_mod (pe_callTy (r := rInt1) call_int1 (by rfl) T.b_int (by decide +kernel) (pa_cons (pe_op op_add (pe_op op_add (pe_op op_mul (pv 5) (pv 5)) (pv 0)) (pe_op op_mul pe_int (pv 4))) pa_nil)) pe_int))
      (pss_one (ps_expr (pe_bm PySem.F.plainAttrs_list PySem.F.slot_list_append PySem.F.type_list_append mt_append (pv 2) (pa_cons (pe_op op_mod (pe_op op_fdiv (pv 5) pe_int) pe_int) pa_nil))))))))))
      (pss_one (ps_ret (pv 2)))))), ?_⟩
  walk_at "rd"
  refine r_newL (Own.nil H) (Nat.zero_le _) fun l H1 o1 => ?_
  walk_at "rd"
  refine forR1 (n := n) rfl (by omega) (fun i σ H' => ∃ (left : Int) (v1 v2 : Option V) (ns : List Int), σ = [some (.int c), some (.int n), some (.ref l), some (.int left), v1, v2] ∧ ns.length = i ∧ Dr ns ∧ Own H H' [(l, .lst (ns.map V.int))])
    ⟨c, none, none, [], rfl, rfl, fun _ h => absurd h (by simp), o1⟩ ?_ ?_
  · rintro i σ H' hi ⟨left, v1, v2, ns, rfl, hl, hd, o⟩
    have hz : (ns.map V.int).length < 10000000 := by rw [List.length_map]; omega
    walk_at "rd"
    refine r_cutT (fun _ H2 => H2 = H') ?_ ?_
    · walk_at "rd"
      refine rif (fun h1 => ?_) fun h1 => ?_ <;> walk_at "rd" <;> rfl
    rintro b _ rfl
    refine rif_b (fun _ => ?_) fun _ => ?_ <;> walk_at "rd"
    · refine r_app o 0 rfl hz fun H2 o2 => ?_
      walk_at "rd"
      refine ⟨_, _, _, ns ++ [_], rfl, ?_, ?_, (by rw [List.map_append]; exact o2)⟩
      · rw [List.length_append]; simp [hl]
      · exact hd.app (by omega) (by omega)
    · refine r_app o 0 rfl hz fun H2 o2 => ?_
      refine ⟨_, _, _, ns ++ [_], rfl, ?_, ?_, (by rw [List.map_append]; exact o2)⟩
      · rw [List.length_append]; simp [hl]
      · exact hd.app (by omega) (by omega)
  · rintro σ H' ⟨left, v1, v2, ns, rfl, hl, hd, o⟩
    walk_at "rd"
    exact (q ns hl hd).mk o 0 rfl
def sp_is_int : Sp := fun vs H Q _ => ∃ (i : Int), vs = [.int i] ∧ Q (.bl true) H
theorem d_is_int (T : Top K mg) : Def P w K mg base CX0 1 "_law_is_int" ["x"] sp_is_int := by
  refine T.f__law_is_int.ok sc__law_is_int (by rintro vs H Q E ⟨i, rfl, _⟩; rfl) (fun f cdv A outer s H vs Q E hr h => ?_)
  obtain ⟨i, rfl, q⟩ := h
  refine ⟨_, (pss_one (ps_ret (pe_and (pe_callB (r := rIsi K) call_isi (by rfl) T.b_isinstance (by decide +kernel) (pa_cons (pv 0) (pa_cons (pe_bltn (v := .ty "int") (by rfl) T.b_int (by decide +kernel) rfl) pa_nil))) (pe_one (pe_not (pe_callB (r := rIsi K) call_isi (by rfl) T.b_isinstance (by decide +kernel) (pa_cons (pv 0) (pa_cons (pe_bltn (v := .ty "bool") (by rfl) T.b_bool (by decide +kernel) rfl) pa_nil)))))))), ?_⟩
  walk_at "rd"
  exact q
def sp_is_number : Sp := fun vs H Q _ => ∃ (i j : Int), vs = [.int i, .int j] ∧ Q (.bl (decide (i = j))) H
theorem d_is_number (T : Top K mg) : Def P w K mg base CX0 2 "_law_is_number" ["x", "due"] sp_is_number := by
  have G__law_is_int : Def P w K mg base CX0 1 "_law_is_int" ["x"] sp_is_int := d_is_int T
  refine T.f__law_is_number.ok sc__law_is_number (by rintro vs H Q E ⟨i, j, rfl, _⟩; rfl) (fun f cdv A outer s H vs Q E hr h => ?_)
  obtain ⟨i, j, rfl, q⟩ := h
  refine ⟨_, (pss_one (ps_ret (pe_and (pe_callD G__law_is_int (hr.mono (by decide)) (pa_cons (pv 0) pa_nil)) (pe_one (pe_cmpR op_eq (pv 0) (pv 1) (nomark _)))))), ?_⟩
  walk_at "rd"
  refine ⟨i, rfl, ?_⟩
  walk_at "rd"
  exact q
def sp_same_ints (K : PySem.W.Frag) : Sp := fun vs H Q _ => ∃ (a b : Addr) (ns : List Int), vs = [.ref a, .ref b] ∧ H a = some (.lst (ns.map V.int)) ∧ SqL K H b (ns.map V.int) ∧ ns.length ≤ 10000000 ∧ Q (.bl true) H
theorem d_same_ints (T : Top K mg) : Def P w K mg base CX0 3 "_law_same_ints" ["x", "due"] (sp_same_ints K) := by
  have G__law_is_number : Def P w K mg base CX0 2 "_law_is_number" ["x", "due"] sp_is_number := d_is_number T
  refine T.f__law_same_ints.ok sc__law_same_ints (by rintro vs H Q E ⟨a, b, ns, rfl, _⟩; rfl) (fun f cdv A outer s H vs Q E hr h => ?_)
  obtain ⟨a, b, ns, rfl, hA, hB, hz, q⟩ := h
  have hA2 : SqL K H a (ns.map V.int) := SqL.of hA
  refine ⟨_, (pss_cons (ps_if (PW.pt (pw_or (pt_not (pt_val (pe_callB (r := rIsi K) call_isi (by rfl) T.b_isinstance (by decide +kernel) (pa_cons (pv 0) (pa_cons (pe_bltn (v := .ty "list") (by rfl) T.b_list (by decide +kernel) rfl) pa_nil))))) (pw_or1 (pt_cmpR op_ne (pe_callB (r := Evl.rLenS K) call_len_seq (by rfl) T.b_len (by decide +kernel) (pa_cons (pv 0) pa_nil)) (pe_callB (r := Evl.rLenS K) call_len_seq (by rfl) T.b_len (by decide +kernel) (pa_cons (pv 1) pa_nil)) (nomark _))))) (pss_one (ps_ret pe_bl)) pss_nil)
      (pss_cons (ps_for PassesOwn.never rfl (pi_range1 (by rfl) T.b_range (pa_cons (pe_callB (r := Evl.rLenS K) call_len_seq (by rfl) T.b_len (by decide +kernel) (pa_cons (pv 1) pa_nil)) pa_nil)) (pg_name (i := 2) sc__law_same_ints.nd rfl (Or.inl rfl)) (pss_one (ps_if (pt_not (pt_val (pe_callD G__law_is_number (hr.mono (by decide)) (pa_cons (pe_ix (r := rIxL K) ix_list (pv 0) (pv 2) (fun _ _ => rfl)) (pa_cons (pe_ix (r := rIxL K) ix_list (pv 1) (pv 2) (fun _ _ => rfl)) pa_nil))))) (pss_one (ps_ret pe_bl)) pss_nil)))
      (pss_one (ps_ret pe_bl)))), ?_⟩
  walk_at "rd"
  refine rif_nyes (by exact rfl) ?_
  walk_at "rd"
  refine forR1 (n := ns.length) (by rw [List.length_map]) (by rw [List.length_map]; omega) (fun i σ H' => H' = H ∧ ∃ v, σ = [some (.ref a), some (.ref b), v]) ⟨rfl, _, rfl⟩ ?_ ?_
  · rintro i σ H' hi ⟨rfl, v, rfl⟩
    walk_at "rd"
    refine ⟨_, _, rfl, ?_⟩
    walk_at "rd"
    rw [decide_eq_true rfl]
    walk_at "rd"
    exact ⟨rfl, _, rfl⟩
  · rintro σ H' ⟨rfl, v, rfl⟩
    walk_at "rd"
    exact q
def sp_stream (K : PySem.W.Frag) : Sp := fun vs H Q _ => ∃ (a : Addr) (ss : List Int) (n : Nat), vs = [.ref a, .int n] ∧ SqL K H a (ss.map V.int) ∧ n ≤ 1000 ∧ ∀ ns : List Int, ns.length = n → Dr ns → RetO H Q (.lst (ns.map V.int))
theorem d_stream (T : Top K mg) : Def P w K mg base CX0 2 "_law_stream" ["script", "count"] (sp_stream K) := by
  have G__law_cell : Def P w K mg base CX0 1 "_law_cell" ["script", "k"] (sp_cell K) := d_cell T
  have G__law_draws : Def P w K mg base CX0 1 "_law_draws" ["cell", "count"] sp_draws := d_draws T
  refine T.f__law_stream.ok sc__law_stream (by rintro vs H Q E ⟨a, ss, n, rfl, _⟩; rfl) (fun f cdv A outer s H vs Q E hr h => ?_)
  obtain ⟨a, ss, n, rfl, hS, hn, q⟩ := h
  refine ⟨_, (pss_cons (ps_set (i := 2) sc__law_stream.nd rfl (Or.inl rfl) (pe_lst pa_nil))
      (pss_cons (ps_for PassesOwn.never rfl (pi_range1 (by rfl) T.b_range (pa_cons (pe_op op_add pe_int (pe_op op_fdiv (pv 1) pe_int)) pa_nil)) (pg_name (i := 3) sc__law_stream.nd rfl (Or.inl rfl)) (pss_one (ps_set (i := 2) sc__law_stream.nd rfl (Or.inl rfl) (pe_op op_cat (pv 2) (pe_callD G__law_draws (hr.mono (by decide)) (pa_cons (pe_op op_add (pe_callD G__law_cell (hr.mono (by decide)) (pa_cons (pv 0) (pa_cons (pv 3) pa_nil))) (pe_op op_mul pe_int (pv 3))) (pa_cons pe_int pa_nil)))))))
      (pss_one (ps_ret (pe_slice (r := rSlL K) sl_list (pv 2) po_none (po_some (pv 1))))))), ?_⟩
  walk_at "rd"
  refine r_newL (Own.nil H) (Nat.zero_le _) fun l H1 o1 => ?_
  walk_at "rd"
  refine forR1 (n := 1 + n / 16) (by omega) (by omega) (fun i σ H' => ∃ (p : Addr) (v : Option V) (ns : List Int) (L : List (Addr × HO)), σ = [some (.ref a), some (.int n), some (.ref p), v] ∧ ns.length = 16 * i ∧ Dr ns ∧ Own H H' ((p, .lst (ns.map V.int)) :: L))
    ⟨l, none, [], [], rfl, rfl, fun _ h => absurd h (by simp), o1⟩ ?_ ?_
  · rintro i σ H' hi ⟨p, v, ns, L, rfl, hl, hd, o⟩
    walk_at "rd"
    refine ⟨_, _, _, rfl, o.old hS, by omega, ?_⟩
    walk_at "rd"
    refine ⟨_, 16, rfl, by omega, fun ms hm hdm H2 p2 s2 f2 e2 => ?_⟩
    have o2 := o.add s2 f2 e2
    refine r_cat o2 (o2.at 1 rfl) (o2.at 0 rfl) (by rw [List.length_map, List.length_map]; omega) fun p3 H3 o3 => ?_
    walk_at "rd"
    rw [← List.map_append] at o3
    refine ⟨p3, _, _, _, rfl, ?_, hd.app2 hdm, o3⟩
    rw [List.length_append]
    omega
  · rintro σ H' ⟨p, v, ns, L, rfl, hl, hd, o⟩
    walk_at "rd"
    refine r_slL o (o.sqL 0 rfl) fun p3 H3 o3 => ?_
    rw [cut_hi, ← List.map_take] at o3
    refine (q _ ?_ (hd.take n)).mk o3 0 rfl
    rw [List.length_take]
    omega
def spLaw (K : PySem.W.Frag) : Sp := fun vs H Q _ => ∃ (a : Addr) (ss : List Int), vs = [.ref a] ∧ SqL K H a (ss.map V.int) ∧ ss.length ≤ 63 ∧ (∀ z ∈ ss, PySem.Builtin.Int.intBits z ≤ 1048576) ∧ ∀ H', Q (.bl true) H'
theorem law_in {a : Addr} {ss : List Int} {H : Hp} (hl : ss.length ≤ 63) (hb : ∀ z ∈ ss, PySem.Builtin.Int.intBits z ≤ 1048576) (hS : SqL K H a (ss.map V.int)) : spLaw K [.ref a] H (fun v _ => v = .bl true) fun _ _ _ => False :=
  ⟨a, ss, rfl, hS, hl, hb, fun _ => rfl⟩
end

/-! told: how a message tells an integer -/
theorem call_strIS {X : Cx} : CallR X (.type "str") (fun xs H Q => (∃ i, xs = [.int i] ∧ i.natAbs.log2 < 1920 ∧ Q (.str (toString i)) H) ∨ ∃ a, xs = [.str a] ∧ Q (.str a) H) := by
  intro pins s σ H xs us Q I r h
  rcases h with ⟨i, rfl, hz, q⟩ | ⟨a, rfl, q⟩
  · obtain ⟨u, rfl, t, rfl⟩ := vals1 r
    exact PySem.P.str_of_int hz ⟨.str _, H, I.tok _, ⟨_, rfl⟩, q⟩
  · obtain ⟨u, rfl, t, rfl⟩ := vals1 r
    exact PySem.P.str_of_str ⟨.str a, H, I, ⟨t, rfl⟩, q⟩
section
variable {P : Program} {w : World} {K : PySem.W.Frag} {mg : Str → Option Value} {base : Heap}
def sp_told : Sp := fun vs H Q _ => ∃ v : V, vs = [v] ∧ Tell v ∧ ∀ y : Str, y.length ≤ 1000000 → Q (.str y) H
theorem sp_told_t {v : V} (h : Tell v) (H : Hp) (Q : VK) (E : XK) (q : ∀ y : Str, y.length ≤ 1000000 → Q (.str y) H) : sp_told [v] H Q E := ⟨v, rfl, h, q⟩
theorem msg_len {i : Int} (h : i.natAbs.log2 < 1920) : (Str.ofString (toString i)).length ≤ 1000000 := by
  rw [PySem.ofString_length]
  exact Nat.le_trans (int_text_length_le (by decide) h) (by decide)
theorem d_told (T : Top K mg) : Def P w K mg base CX0 1 "told" ["thing"] sp_told := by
  obtain ⟨t1, g_BEYOND_TOLD⟩ := T.g_BEYOND_TOLD
  refine T.f_told.ok sc_told (by rintro vs H Q E ⟨i, rfl, _⟩; rfl) (fun f cdv A outer s H vs Q E hr h => ?_)
  obtain ⟨v, rfl, hv, q⟩ := h
  refine ⟨_, (pss_cons (ps_if (PW.pt (pw_and (pt_val (pe_callB (r := rIsi K) call_isi (by rfl) T.b_isinstance (by decide +kernel) (pa_cons (pv 0) (pa_cons (pe_bltn (v := .ty "int") (by rfl) T.b_int (by decide +kernel) rfl) pa_nil)))) (pw_and1 (pt_cmpR op_ge (pe_callB call_abs (by rfl) T.b_abs (by decide +kernel) (pa_cons (pv 0) pa_nil)) (pe_glob (v := .int 1000000000000000000000000000000) rfl g_BEYOND_TOLD ⟨_, rfl⟩) (nomark _))))) (pss_one (ps_ret pe_str)) pss_nil)
      (pss_one (ps_ret (pe_callTy call_strIS (by rfl) T.b_str (by decide +kernel) (pa_cons (pv 0) pa_nil))))), ?_⟩
  rcases hv with ⟨i, rfl, hi⟩ | ⟨y, rfl, hy⟩
  · walk_at "rd"
    refine ⟨i, rfl, ?_⟩
    walk_at "rd"
    refine rif (fun h1 => ?_) fun h1 => ?_
    · walk_at "rd"
      exact q _ (by decide)
    · walk_at "rd"
      exact .inl ⟨i, rfl, hi, q _ (msg_len hi)⟩
  · walk_at "rd"
    exact .inr ⟨y, rfl, q _ hy⟩
theorem w_told (T : Top K mg) : DefW P w K mg base 1 "told" ["thing"] sp_told := by
  obtain ⟨t1, g_BEYOND_TOLD⟩ := T.g_BEYOND_TOLD
  refine T.f_told.okW sc_told (by rintro vs H Q E ⟨i, rfl, _⟩; rfl) (fun f cdv A outer s H vs Q E hr h => ?_)
  obtain ⟨v, rfl, hv, q⟩ := h
  refine ⟨_, (pss_cons (ps_if (PW.pt (pw_and (pt_val (pe_callB (r := rIsi K) call_isi (by rfl) T.b_isinstance (by decide +kernel) (pa_cons (pv 0) (pa_cons (pe_bltn (v := .ty "int") (by rfl) T.b_int (by decide +kernel) rfl) pa_nil)))) (pw_and1 (pt_cmpR op_ge (pe_callB call_abs (by rfl) T.b_abs (by decide +kernel) (pa_cons (pv 0) pa_nil)) (pe_glob (v := .int 1000000000000000000000000000000) rfl g_BEYOND_TOLD ⟨_, rfl⟩) (nomark _))))) (pss_one (ps_ret pe_str)) pss_nil)
      (pss_one (ps_ret (pe_callTy call_strIS (by rfl) T.b_str (by decide +kernel) (pa_cons (pv 0) pa_nil))))), ?_⟩
  rcases hv with ⟨i, rfl, hi⟩ | ⟨y, rfl, hy⟩
  · walk_at "rd"
    refine ⟨i, rfl, ?_⟩
    walk_at "rd"
    refine rif (fun h1 => ?_) fun h1 => ?_
    · walk_at "rd"
      exact q _ (by decide)
    · walk_at "rd"
      exact .inl ⟨i, rfl, hi, q _ (msg_len hi)⟩
  · walk_at "rd"
    exact .inr ⟨y, rfl, q _ hy⟩
end

theorem ini_TooLarge {P : Program} {w : World} {K : PySem.W.Frag} {mg : Str → Option Value} {base : Heap} {C : Addr} (hP : PrOk P) (hsup : mg "super" = none) (G_told : Def P w K mg base CX0 1 "told" ["thing"] sp_told) (A : ErrCls K mg C "TooLarge") (I : ErrIni K C "TooLarge.__init__" s_TooLarge___init__ ["self", "limit"] ["limit"]) : EDef P w K mg base C "TooLarge" ["self", "limit"] (sp_i1 C "limit") := by
  obtain ⟨fI, fd, S, iC, tI, hb⟩ := I.ini
  refine ⟨A.at_, I.sup.oex, fI, fd, ?_, iC, tI, hb⟩
  refine S.ok (N := N_TooLarge___init__) (ps := ["self", "limit"]) (pl := fun _ => _) hP I.sup (NdefX.nscope_by (by decide +kernel)) hsup rfl rfl rfl rfl (fun _ => rfl) (fun _ => rfl) (fun _ => rfl) (by rintro vs H Q E ⟨a, v, rfl, _⟩; rfl) (fun cda cc A2 outer s H vs Q E hr h => ?_)
  obtain ⟨a, v, rfl, tv, ha, q⟩ := h
  refine ⟨a, [v], _, _, rfl, ha, pe_joined (PJ.cons pe_str (PJ.cons (pe_fmt (pe_callD G_told (hr.mono (by decide)) (pa_cons (pv 1) pa_nil))) (PJ.cons pe_str PJ.nil))), (pss_one (ps_ost (pv 0) (pv 1))), ?_⟩
  refine js_ok (ps := [.c "more than ", .t sp_told E0 1, .c " indexes"]) (fun y => ⟨⟨_, rfl⟩, ha, ⟨v, rfl, .ref a, rfl, a, C, rfl, I.sup.oex, I.no _ List.mem_cons_self, .inl ⟨ha, fun dx h1 h2 => q dx h1 h2⟩⟩⟩) _ ?_ (by decide)
  intro p hp
  simp only [List.mem_cons, List.not_mem_nil, or_false] at hp
  rcases hp with rfl | rfl | rfl
  · show Str.length _ ≤ 1000; decide
  · exact ⟨v, rfl, fun H Q q => sp_told_t tv H Q E0 q⟩
  · show Str.length _ ≤ 1000; decide
theorem ini_WrongCount {P : Program} {w : World} {K : PySem.W.Frag} {mg : Str → Option Value} {base : Heap} {C : Addr} (hP : PrOk P) (hsup : mg "super" = none) (G_told : Def P w K mg base CX0 1 "told" ["thing"] sp_told) (A : ErrCls K mg C "WrongCount") (I : ErrIni K C "WrongCount.__init__" s_WrongCount___init__ ["self", "due", "given"] ["due", "given"]) : EDef P w K mg base C "WrongCount" ["self", "due", "given"] (sp_i2 C "due" "given") := by
  obtain ⟨fI, fd, S, iC, tI, hb⟩ := I.ini
  refine ⟨A.at_, I.sup.oex, fI, fd, ?_, iC, tI, hb⟩
  refine S.ok (N := N_WrongCount___init__) (ps := ["self", "due", "given"]) (pl := fun _ => _) hP I.sup (NdefX.nscope_by (by decide +kernel)) hsup rfl rfl rfl rfl (fun _ => rfl) (fun _ => rfl) (fun _ => rfl) (by rintro vs H Q E ⟨a, v, u, rfl, _⟩; rfl) (fun cda cc A2 outer s H vs Q E hr h => ?_)
  obtain ⟨a, v, u, rfl, tv, tu, ha, q⟩ := h
  refine ⟨a, [v, u], _, _, rfl, ha, pe_joined (PJ.cons (pe_fmt (pe_callD G_told (hr.mono (by decide)) (pa_cons (pv 1) pa_nil))) (PJ.cons pe_str (PJ.cons (pe_fmt (pe_callD G_told (hr.mono (by decide)) (pa_cons (pv 2) pa_nil))) (PJ.cons pe_str PJ.nil)))), (pss_cons (ps_ost (pv 0) (pv 1)) (pss_one (ps_ost (pv 0) (pv 2)))), ?_⟩
  refine js_ok (ps := [.t sp_told E0 1, .c " values are due, and ", .t sp_told E0 2, .c " are given"]) (fun y => ⟨⟨_, rfl⟩, ha, ⟨v, rfl, .ref a, rfl, a, C, rfl, I.sup.oex, I.no _ List.mem_cons_self, .inl ⟨ha, fun dx h1 h2 => ⟨u, rfl, .ref a, rfl, a, C, rfl, I.sup.oex, I.no _ (List.mem_cons_of_mem _ List.mem_cons_self), .inr ⟨dx, [("due", v)], upd_same, (upd_ne h2).trans upd_same, Nat.le_of_ble_eq_true rfl, q dx h1 h2⟩⟩⟩⟩⟩) _ ?_ (by decide)
  intro p hp
  simp only [List.mem_cons, List.not_mem_nil, or_false] at hp
  rcases hp with rfl | rfl | rfl | rfl
  · exact ⟨v, rfl, fun H Q q => sp_told_t tv H Q E0 q⟩
  · show Str.length _ ≤ 1000; decide
  · exact ⟨u, rfl, fun H Q q => sp_told_t tu H Q E0 q⟩
  · show Str.length _ ≤ 1000; decide
/-! ### selections -/
inductive Sel where
  | pts (ps : List (List Int))
  | box (rs : List (Int × Int × Int))
def tupI (p : List Int) : PyData := .tuple (p.map PyData.int)
def triI (r : Int × Int × Int) : PyData := .tuple [.int r.1, .int r.2.1, .int r.2.2]
def Sel.d : Sel → PyData
  | .pts ps => .tuple [.str (PySem.Str.ofString "points"), .tuple (ps.map tupI)]
  | .box rs => .tuple [.str (PySem.Str.ofString "box"), .tuple (rs.map triI)]
def isIdx (sh ix : List Int) : Bool := decide (ix.length = sh.length) && (ix.zip sh).all fun p => decide (0 ≤ p.1) && decide (p.1 < p.2)
def prodL (ns : List Int) : Int := ns.foldl (· * ·) 1
def rLast (r : Int × Int × Int) : Int := r.1 + r.2.1 * (r.2.2 - 1)
def rOk (r : Int × Int × Int) : Bool := decide (0 ≤ r.1) && decide (1 ≤ r.2.1) && decide (0 ≤ r.2.2)
def boxFits (sh : List Int) (rs : List (Int × Int × Int)) : Bool :=
  decide (rs.length = sh.length) && rs.all rOk && (rs.any (fun r => decide (r.2.2 = 0)) || ((rs.map rLast).zip sh).all fun p => decide (p.1 < p.2))
def Sel.fits (sh : List Int) : Sel → Bool
  | .pts ps => ps.all (isIdx sh)
  | .box rs => boxFits sh rs
def Sel.size : Sel → Int
  | .pts ps => ps.length
  | .box rs => prodL (rs.map (·.2.2))
def Sel.len : Sel → Nat
  | .pts ps => ps.length
  | .box rs => rs.length
/-- the sizes of what is passed -/
def Sel.ok : Sel → Prop
  | .pts ps => ps.length ≤ 200000 ∧ ∀ p ∈ ps, p.length ≤ 1000
  | .box rs => rs.length ≤ 1000 ∧ ∀ r ∈ rs, -1000000000000000000 ≤ r.2.1 ∧ r.2.1 ≤ 1000000000000000000
theorem prodL_take {ns : List Int} {i : Nat} {x : Int} (h : ns[i]? = some x) : prodL (ns.take (i + 1)) = prodL (ns.take i) * x := by
  unfold prodL
  rw [List.take_add_one, h, List.foldl_append]
  rfl
theorem int_atT {ns : List Int} {i : Nat} {v : V} (h : (ns.map V.int)[i]? = some v) : ∃ x, ns[i]? = some x ∧ v = .int x := by
  rw [List.getElem?_map] at h
  cases e : ns[i]? with
  | none => rw [e] at h; cases h
  | some x => rw [e] at h; cases h; exact ⟨x, rfl, rfl⟩
theorem zip_get {α β : Type} {xs : List α} {ys : List β} {i : Nat} {x : α} {y : β} (h : xs[i]? = some x) (h2 : ys[i]? = some y) : (xs.zip ys)[i]? = some (x, y) := List.getElem?_zip_eq_some.mpr ⟨h, h2⟩
/-- the answers of a zip's turns -/
theorem zip_map {α β γ : Type} {xs : List α} {ys : List β} {n : Nat} (hn : n = min xs.length ys.length) (g : Nat → γ) (f : α × β → γ) (h : ∀ i x y, xs[i]? = some x → ys[i]? = some y → g i = f (x, y)) : (List.range n).map g = (xs.zip ys).map f := by
  subst hn
  have e : min xs.length ys.length = (xs.zip ys).length := by rw [List.length_zip]
  rw [e]
  refine range_map_get (xs.zip ys) f g fun i p hp => ?_
  obtain ⟨h1, h2⟩ := List.getElem?_zip_eq_some.mp hp
  exact h i _ _ h1 h2
theorem same_seqL' {K : PySem.W.Frag} {H H' : Hp} {l : Addr} {xs : List V} (e : Same H H') (h : SqL K H l xs) : SqL K H' l xs := e.seq h
section
variable {P : Program} {w : World} {K : PySem.W.Frag} {mg : Str → Option Value} {base : Heap}
theorem sel_inv {H : Hp} {v : V} {s : Str} {ds : List PyData} (h : Tp K H v (.tuple [.str s, .tuple ds])) : ∃ a c ws, v = .ref a ∧ SqT K H a [.str s, .ref c] ∧ SqT K H c ws ∧ TpAll K H ws ds := by
  obtain ⟨a, xs, rfl, hs, ha⟩ := h.inv
  cases ha with
  | cons h1 h2 =>
    cases h2 with
    | cons h3 h4 =>
      cases h4
      cases h1
      obtain ⟨c, ws, rfl, hc, hw⟩ := h3.inv
      exact ⟨a, c, ws, rfl, hs, hc, hw⟩
theorem tri_inv {H : Hp} {v : V} {r : Int × Int × Int} (h : Tp K H v (triI r)) : ∃ a, v = .ref a ∧ SqT K H a [.int r.1, .int r.2.1, .int r.2.2] := by
  obtain ⟨a, xs, rfl, hs, ha⟩ := h.inv
  have e := TpAll.ints_inv (ns := [r.1, r.2.1, r.2.2]) ha
  subst e
  exact ⟨a, rfl, hs⟩
theorem tri_at {H : Hp} {ws : List V} {rs : List (Int × Int × Int)} {i : Nat} {v : V} (h : TpAll K H ws (rs.map triI)) (hv : ws[i]? = some v) : ∃ r a, rs[i]? = some r ∧ v = .ref a ∧ SqT K H a [.int r.1, .int r.2.1, .int r.2.2] := by
  obtain ⟨d, hd, t⟩ := h.getV hv
  rw [List.getElem?_map] at hd
  cases e : rs[i]? with
  | none => rw [e] at hd; cases hd
  | some r =>
    rw [e] at hd
    cases hd
    obtain ⟨a, rfl, hs⟩ := tri_inv t
    exact ⟨r, a, rfl, rfl, hs⟩
theorem pt_at {H : Hp} {ws : List V} {ps : List (List Int)} {i : Nat} {v : V} (h : TpAll K H ws (ps.map tupI)) (hv : ws[i]? = some v) : ∃ r a, ps[i]? = some r ∧ v = .ref a ∧ SqT K H a (r.map V.int) := by
  obtain ⟨d, hd, t⟩ := h.getV hv
  rw [List.getElem?_map] at hd
  cases e : ps[i]? with
  | none => rw [e] at hd; cases hd
  | some r =>
    rw [e] at hd
    cases hd
    obtain ⟨a, rfl, hs⟩ := Tp.invI (ns := r) t
    exact ⟨r, a, rfl, rfl, hs⟩
end

section
variable {P : Program} {w : World} {K : PySem.W.Frag} {mg : Str → Option Value} {base : Heap}
def sp_is_index (K : PySem.W.Frag) : Sp := fun vs H Q _ => ∃ (a b : Addr) (sh ix : List Int), vs = [.ref a, .ref b] ∧ SqT K H a (sh.map V.int) ∧ SqT K H b (ix.map V.int) ∧ ix.length ≤ 1000 ∧ RetV H Q (.bl (isIdx sh ix))
theorem d_is_index (T : Top K mg) : Def P w K mg base CX0 1 "is_index" ["shape", "index"] (sp_is_index K) := by
  refine T.f_is_index.ok sc_is_index (by rintro vs H Q E ⟨a, b, sh, ix, rfl, _⟩; rfl) (fun f cdv A outer s H vs Q E hr h => ?_)
  obtain ⟨a, b, sh, ix, rfl, ha, hb, hz, q⟩ := h
  refine ⟨_, (pss_cons (ps_if (pt_cmpR op_ne (pe_callB (r := Evl.rLenS K) call_len_seq (by rfl) T.b_len (by decide +kernel) (pa_cons (pv 1) pa_nil)) (pe_callB (r := Evl.rLenS K) call_len_seq (by rfl) T.b_len (by decide +kernel) (pa_cons (pv 0) pa_nil)) (nomark _)) (pss_one (ps_ret pe_bl)) pss_nil)
      (pss_one (ps_ret (pe_callB (r := rAll K) (cr_all rfl) (by rfl) T.b_all (by decide +kernel) (pa_cons (pe_lc (own := [("place", 2), ("size", 3)]) (g := (gTup K 2 (gCons (gName 2) (gCons (gName 3) gNil)))) (tt := tYes) rfl sc_is_index.nd (pi_zip2 (k1 := true) (k2 := true) (by rfl) T.b_zip (pa_cons (pv 1) (pa_cons (pv 0) pa_nil))) (blkOk_by (N := N_is_index) (sc := defScope s_is_index) (by decide +kernel)) (fun _ _ _ _ _ => (pg_tupK (K := K) (n := 2) rfl rfl (pgs_cons (pg_name (i := 2) sc_is_index.nd rfl (Or.inl rfl)) (pgs_cons (pg_name (i := 3) sc_is_index.nd rfl (Or.inl rfl)) pgs_nil)))) (fun _ _ _ _ _ => pts_nil) (fun _ _ _ _ _ => (pe_chain op_le op_lt pe_int (pv 2) (pv 3)))) pa_nil))))), ?_⟩
  walk_at "rd"
  rw [List.length_map, List.length_map]
  refine rif_n (fun hl => ?_) fun hl => ?_
  · walk_at "rd"
    have e : isIdx sh ix = false := by unfold isIdx; rw [decide_eq_false (by omega), Bool.false_and]
    rw [e] at q
    exact q.here
  · walk_at "rd"
    refine lcj2 (n := ix.length) (fun i => some (.bool (decide (0 ≤ gi ix i) && decide (gi ix i < gi sh i)))) (Own.nil H) (fun H' p zs _ s' => ⟨s'.sq hb, s'.sq ha⟩) hb ha (by rw [List.length_map, List.length_map]; omega) (by omega) ?_ ?_
    · intro i x y U p zs H' R hx hy hT o' s' r
      obtain ⟨x, hx', rfl⟩ := int_atT hx
      obtain ⟨y, hy', rfl⟩ := int_atT hy
      refine r_gTup2 hT (r _ rfl (fun Qb k => k H' (Same.refl _)) fun d H2 hd s2 Qv qv => ?_)
      cases hd
      rw [gi_get hx', gi_get hy'] at qv
      walk_at "rd"
      refine rif (fun h0 => ?_) fun h0 => ?_
      · walk_at "rd"
        rw [decide_eq_true h0, Bool.true_and] at qv
        exact qv _ _ (Same.refl _) (.bl _)
      · walk_at "rd"
        rw [decide_eq_false h0, Bool.false_and] at qv
        exact qv _ _ (Same.refl _) (.bl _)
    · intro p H' zs s' o' t
      have hn : ix.length = min ix.length sh.length := by omega
      rw [rfm_all, zip_map hn _ (fun p : Int × Int => PyData.bool (decide (0 ≤ p.1) && decide (p.1 < p.2))) (fun i x y hx hy => ?_)] at t
      · have e := bools_invF t
        subst e
        walk_at "rd"
        refine r_all (o'.sqL 0 rfl) ?_
        have e2 : isIdx sh ix = ((ix.zip sh).map fun p : Int × Int => decide (0 ≤ p.1) && decide (p.1 < p.2)).all id := by
          unfold isIdx
          rw [decide_eq_true (by omega), Bool.true_and, List.all_map]
          rfl
        rw [← e2]
        exact q.mk o'
      · rw [gi_get hx, gi_get hy]
end

section
variable {P : Program} {w : World} {K : PySem.W.Frag} {mg : Str → Option Value} {base : Heap}
def sp_box_fits (K : PySem.W.Frag) : Sp := fun vs H Q _ => ∃ (a b : Addr) (ws : List V) (sh : List Int) (rs : List (Int × Int × Int)), vs = [.ref a, .ref b] ∧ SqT K H a (sh.map V.int) ∧ SqT K H b ws ∧ TpAll K H ws (rs.map triI) ∧ (Sel.box rs).ok ∧ RetV H Q (.bl (boxFits sh rs))
theorem d_box_fits (T : Top K mg) : Def P w K mg base CX0 1 "box_fits" ["shape", "ranges"] (sp_box_fits K) := by
  refine T.f_box_fits.ok sc_box_fits (by rintro vs H Q E ⟨a, b, ws, sh, rs, rfl, _⟩; rfl) (fun f cdv A outer s H vs Q E hr h => ?_)
  obtain ⟨a, b, ws, sh, rs, rfl, ha, hb, hw, hok, q⟩ := h
  have hwl : ws.length = rs.length := by rw [hw.len, List.length_map]
  obtain ⟨hz, hrb⟩ := hok
  refine ⟨_, (pss_cons (ps_if (pt_cmpR op_ne (pe_callB (r := Evl.rLenS K) call_len_seq (by rfl) T.b_len (by decide +kernel) (pa_cons (pv 1) pa_nil)) (pe_callB (r := Evl.rLenS K) call_len_seq (by rfl) T.b_len (by decide +kernel) (pa_cons (pv 0) pa_nil)) (nomark _)) (pss_one (ps_ret pe_bl)) pss_nil)
      (pss_cons (ps_if (pt_not (pt_val (pe_callB (r := rAll K) (cr_all rfl) (by rfl) T.b_all (by decide +kernel) (pa_cons (pe_lc (own := [("start", 2), ("step", 3), ("count", 4)]) (g := (gTup K 3 (gCons (gName 2) (gCons (gName 3) (gCons (gName 4) gNil))))) (tt := tYes) rfl sc_box_fits.nd (pi_tup (pv 1)) (blkOk_by (N := N_box_fits) (sc := defScope s_box_fits) (by decide +kernel)) (fun _ _ _ _ _ => (pg_tupK (K := K) (n := 3) rfl rfl (pgs_cons (pg_name (i := 2) sc_box_fits.nd rfl (Or.inl rfl)) (pgs_cons (pg_name (i := 3) sc_box_fits.nd rfl (Or.inl rfl)) (pgs_cons (pg_name (i := 4) sc_box_fits.nd rfl (Or.inl rfl)) pgs_nil))))) (fun _ _ _ _ _ => pts_nil) (fun _ _ _ _ _ => (pe_and (pe_cmpR op_ge (pv 2) pe_int (nomark _)) (pe_and (pe_cmpR op_ge (pv 3) pe_int (nomark _)) (pe_one (pe_cmpR op_ge (pv 4) pe_int (nomark _))))))) pa_nil)))) (pss_one (ps_ret pe_bl)) pss_nil)
      (pss_cons (ps_if (pt_val (pe_callB (r := rAny K) (cr_any rfl) (by rfl) T.b_any (by decide +kernel) (pa_cons (pe_lc (own := [("_", 5), ("count", 4)]) (g := (gTup K 3 (gCons (gName 5) (gCons (gName 5) (gCons (gName 4) gNil))))) (tt := tYes) rfl sc_box_fits.nd (pi_tup (pv 1)) (blkOk_by (N := N_box_fits) (sc := defScope s_box_fits) (by decide +kernel)) (fun _ _ _ _ _ => (pg_tupK (K := K) (n := 3) rfl rfl (pgs_cons (pg_name (i := 5) sc_box_fits.nd rfl (Or.inl rfl)) (pgs_cons (pg_name (i := 5) sc_box_fits.nd rfl (Or.inl rfl)) (pgs_cons (pg_name (i := 4) sc_box_fits.nd rfl (Or.inl rfl)) pgs_nil))))) (fun _ _ _ _ _ => pts_nil) (fun _ _ _ _ _ => (pe_cmpR op_eq (pv 4) pe_int (nomark _)))) pa_nil))) (pss_one (ps_ret pe_bl)) pss_nil)
      (pss_cons (ps_setLc (i := 6) (own := [("start", 2), ("step", 3), ("count", 4)]) (g := (gTup K 3 (gCons (gName 2) (gCons (gName 3) (gCons (gName 4) gNil))))) (tt := tYes) rfl sc_box_fits.nd rfl rfl (sw_true rfl rfl rfl (by decide +kernel)) (pi_tup (pv 1)) (blkOk_by (N := N_box_fits) (sc := defScope s_box_fits) (by decide +kernel)) (fun _ _ _ _ _ => (pg_tupK (K := K) (n := 3) rfl rfl (pgs_cons (pg_name (i := 2) sc_box_fits.nd rfl (Or.inl rfl)) (pgs_cons (pg_name (i := 3) sc_box_fits.nd rfl (Or.inl rfl)) (pgs_cons (pg_name (i := 4) sc_box_fits.nd rfl (Or.inl rfl)) pgs_nil))))) (fun _ _ _ _ _ => pts_nil) (fun _ _ _ _ _ => (pe_op op_add (pv 2) (pe_op op_mul (pv 3) (pe_op op_sub (pv 4) pe_int)))))
      (pss_one (ps_ret (pe_callB (r := rAll K) (cr_all rfl) (by rfl) T.b_all (by decide +kernel) (pa_cons (pe_lc (own := [("last", 7), ("size", 8)]) (g := (gTup K 2 (gCons (gName 7) (gCons (gName 8) gNil)))) (tt := tYes) rfl sc_box_fits.nd (pi_zip2 (k1 := false) (k2 := true) (by rfl) T.b_zip (pa_cons (pv 6) (pa_cons (pv 0) pa_nil))) (blkOk_by (N := N_box_fits) (sc := defScope s_box_fits) (by decide +kernel)) (fun _ _ _ _ _ => (pg_tupK (K := K) (n := 2) rfl rfl (pgs_cons (pg_name (i := 7) sc_box_fits.nd rfl (Or.inl rfl)) (pgs_cons (pg_name (i := 8) sc_box_fits.nd rfl (Or.inl rfl)) pgs_nil)))) (fun _ _ _ _ _ => pts_nil) (fun _ _ _ _ _ => (pe_cmpR op_lt (pv 7) (pv 8) (nomark _)))) pa_nil)))))))), ?_⟩
  walk_at "rd"
  rw [List.length_map]
  refine rif_n (fun hl => ?_) fun hl => ?_
  · walk_at "rd"
    have e : boxFits sh rs = false := by unfold boxFits; rw [decide_eq_false (by omega)]; rfl
    rw [e] at q
    exact q.here
  walk_at "rd"
  refine lcjT (fun i => (rs[i]?).map fun r => .bool (rOk r)) (Own.nil H) hb (by omega) ?_ ?_
  · intro i x p zs H' R hx o' s' r
    obtain ⟨d, U, hd, rfl, hU⟩ := tri_at (hw.up s') hx
    refine r_gTup3 hU (r _ rfl (fun Qb k => k H' (Same.refl _) |> fun z => by rw [hd] at z; exact z) fun d' H2 hd' s2 Qv qv => ?_)
    rw [hd] at hd'
    cases hd'
    replace qv : RetD K H2 Qv (.bool (rOk d)) := qv
    walk_at "rd"
    refine rif (fun h0 => ?_) fun h0 => ?_
    · walk_at "rd"
      refine rif (fun h1 => ?_) fun h1 => ?_
      · walk_at "rd"
        have e : rOk d = decide (d.2.2 ≥ 0) := by unfold rOk; rw [decide_eq_true (show 0 ≤ d.1 from h0), decide_eq_true (show 1 ≤ d.2.1 from h1)]; rfl
        rw [← e]
        exact qv _ _ (Same.refl _) (.bl _)
      · walk_at "rd"
        have e : rOk d = false := by unfold rOk; rw [decide_eq_false (show ¬ 1 ≤ d.2.1 from h1)]; simp
        rw [e] at qv
        exact qv _ _ (Same.refl _) (.bl _)
    · walk_at "rd"
      have e : rOk d = false := by unfold rOk; rw [decide_eq_false (show ¬ 0 ≤ d.1 from h0)]; simp
      rw [e] at qv
      exact qv _ _ (Same.refl _) (.bl _)
  intro p1 H1 zs s1 o1 t1
  have t1' : zs = (rs.map rOk).map V.bl := by
    refine bools_invF (K := K) (H := H1) (l := rs) (f := rOk) ?_
    have e : (List.range ws.length).filterMap (fun i => (rs[i]?).map fun r => PyData.bool (rOk r)) = rs.map fun r => PyData.bool (rOk r) := by
      rw [hwl]
      exact range_pick rs _
    rw [e] at t1
    exact t1
  subst t1'
  walk_at "rd"
  refine r_all (o1.sqL 0 rfl) ?_
  walk_at "rd"
  rw [show (rs.map rOk).all id = rs.all rOk by rw [List.all_map]; rfl]
  cases hg : rs.all rOk with
  | false =>
    walk_at "rd"
    have e : boxFits sh rs = false := by unfold boxFits; rw [hg]; simp
    rw [e] at q
    exact q.mk o1
  | true =>
    walk_at "rd"
    refine lcjT (fun i => (rs[i]?).map fun r => .bool (decide (r.2.2 = 0))) o1 (s1.sq hb) (by omega) ?_ ?_
    · intro i x p zs H' R hx o' s' r
      obtain ⟨d, U, hd, rfl, hU⟩ := tri_at ((hw.up s1).up s') hx
      refine r_gTup3 hU (r _ rfl (fun Qb k => k H' (Same.refl _) |> fun z => by rw [hd] at z; exact z) fun d' H2 hd' s2 Qv qv => ?_)
      rw [hd] at hd'
      cases hd'
      walk_at "rd"
      exact qv _ _ (Same.refl _) (.bl _)
    intro p2 H2 zs s2 o2 t2
    have t2' : zs = (rs.map fun r => decide (r.2.2 = 0)).map V.bl := by
      refine bools_invF (K := K) (H := H2) (l := rs) (f := fun r => decide (r.2.2 = 0)) ?_
      have e : (List.range ws.length).filterMap (fun i => (rs[i]?).map fun r => PyData.bool (decide (r.2.2 = 0))) = rs.map fun r => PyData.bool (decide (r.2.2 = 0)) := by
        rw [hwl]
        exact range_pick rs _
      rw [e] at t2
      exact t2
    subst t2'
    walk_at "rd"
    refine r_any (o2.sqL 0 rfl) ?_
    walk_at "rd"
    rw [show (rs.map fun r : Int × Int × Int => decide (r.2.2 = 0)).any id = rs.any (fun r => decide (r.2.2 = 0)) by rw [List.any_map]; rfl]
    cases hy : rs.any (fun r => decide (r.2.2 = 0)) with
    | true =>
      walk_at "rd"
      have e : boxFits sh rs = true := by unfold boxFits; rw [hg, hy, decide_eq_true (by omega)]; rfl
      rw [e] at q
      exact q.mk o2
    | false =>
      walk_at "rd"
      refine lcjT (fun i => (rs[i]?).map fun r => .int (rLast r)) o2 ((s1.trans s2).sq hb) (by omega) ?_ ?_
      · intro i x p zs H' R hx o' s' r
        obtain ⟨d, U, hd, rfl, hU⟩ := tri_at (((hw.up s1).up s2).up s') hx
        have hd0 := hrb d (List.mem_of_getElem? hd)
        refine r_gTup3 hU (r _ rfl (fun Qb k => k H' (Same.refl _) |> fun z => by rw [hd] at z; exact z) fun d' H2 hd' s2 Qv qv => ?_)
        rw [hd] at hd'
        cases hd'
        walk_at "rd"
        exact qv _ _ (Same.refl _) (.int _)
      intro p3 H3 zs s3 o3 t3
      have t3' : zs = (rs.map rLast).map V.int := by
        refine ints_invF (K := K) (H := H3) (l := rs) (f := rLast) ?_
        have e : (List.range ws.length).filterMap (fun i => (rs[i]?).map fun r => PyData.int (rLast r)) = rs.map fun r => PyData.int (rLast r) := by
          rw [hwl]
          exact range_pick rs _
        rw [e] at t3
        exact t3
      subst t3'
      walk_at "rd"
      have hS := ((s1.trans s2).trans s3).sq ha
      refine lcj2 (n := rs.length) (fun i => some (.bool (decide (gi (rs.map rLast) i < gi sh i)))) o3 (fun H' p zs o' s' => ⟨o'.sqL 1 rfl, s'.sq hS⟩) (o3.sqL 0 rfl) hS (by simp only [List.length_map]; omega) (by omega) ?_ ?_
      · intro i x y U p zs H' R hx hy hT o' s' r
        obtain ⟨x, hx', rfl⟩ := int_atT hx
        obtain ⟨y, hy', rfl⟩ := int_atT hy
        refine r_gTup2 hT (r _ rfl (fun Qb k => k H' (Same.refl _)) fun d H2 hd s2 Qv qv => ?_)
        cases hd
        rw [gi_get hx', gi_get hy'] at qv
        walk_at "rd"
        exact qv _ _ (Same.refl _) (.bl _)
      intro p4 H4 zs s4 o4 t4
      have hn : rs.length = min (rs.map rLast).length sh.length := by rw [List.length_map]; omega
      rw [rfm_all, zip_map hn _ (fun p : Int × Int => PyData.bool (decide (p.1 < p.2))) (fun i x y hx hy => by rw [gi_get hx, gi_get hy])] at t4
      have e := bools_invF t4
      subst e
      walk_at "rd"
      refine r_all (o4.sqL 0 rfl) ?_
      have e : boxFits sh rs = (((rs.map rLast).zip sh).map fun p : Int × Int => decide (p.1 < p.2)).all id := by
        unfold boxFits
        rw [hg, hy, decide_eq_true (by omega), List.all_map]
        rfl
      rw [← e]
      exact q.mk o4
def sp_fits (K : PySem.W.Frag) : Sp := fun vs H Q _ => ∃ (a : Addr) (v : V) (sh : List Int) (S : Sel), vs = [.ref a, v] ∧ SqT K H a (sh.map V.int) ∧ Tp K H v S.d ∧ S.ok ∧ RetV H Q (.bl (S.fits sh))
theorem d_fits (T : Top K mg) : Def P w K mg base CX0 2 "fits" ["shape", "selection"] (sp_fits K) := by
  have G_is_index : Def P w K mg base CX0 1 "is_index" ["shape", "index"] (sp_is_index K) := d_is_index T
  have G_box_fits : Def P w K mg base CX0 1 "box_fits" ["shape", "ranges"] (sp_box_fits K) := d_box_fits T
  refine T.f_fits.ok sc_fits (by rintro vs H Q E ⟨a, v, sh, S, rfl, _⟩; rfl) (fun f cdv A outer s H vs Q E hr h => ?_)
  obtain ⟨a, v, sh, S, rfl, ha, hv, hok, q⟩ := h
  cases S with
  | pts ps =>
    obtain ⟨b, c, ws, rfl, hb, hc, hw⟩ := sel_inv hv
    have hwl : ws.length = ps.length := by rw [hw.len, List.length_map]
    obtain ⟨hz, hpl⟩ := hok
    refine ⟨_, (pss_cons (ps_asg (pv 1) (pg_tup (n := 2) rfl (pgs_cons (pg_name (i := 2) sc_fits.nd rfl (Or.inl rfl)) (pgs_cons (pg_name (i := 3) sc_fits.nd rfl (Or.inl rfl)) pgs_nil))))
      (pss_cons (ps_if (pt_cmpR op_eq (pv 2) pe_str (nomark _)) (pss_one (ps_ret (pe_callB (r := rAll K) (cr_all rfl) (by rfl) T.b_all (by decide +kernel) (pa_cons (pe_lc (own := [("index", 4)]) (g := (gName 4)) (tt := tYes) rfl sc_fits.nd (pi_tup (pv 3)) (blkOk_by (N := N_fits) (sc := defScope s_fits) (by decide +kernel)) (fun _ _ _ _ _ => (pg_name (i := 4) sc_fits.nd rfl (Or.inl rfl))) (fun _ _ _ _ _ => pts_nil) (fun _ _ _ _ _ => (pe_callD G_is_index (hr.mono (by decide)) (pa_cons (pv 0) (pa_cons (pv 4) pa_nil))))) pa_nil)))) pss_nil)
      (pss_one (ps_ret (pe_callD G_box_fits (hr.mono (by decide)) (pa_cons (pv 0) (pa_cons (pv 3) pa_nil))))))), ?_⟩
    walk_at "rd"
    refine rif_yes (by decide +kernel) ?_
    walk_at "rd"
    refine lcjT (fun i => (ps[i]?).map fun r => .bool (isIdx sh r)) (Own.nil H) hc (by omega) ?_ ?_
    · intro i x p zs H' R hx o' s' r
      obtain ⟨d, U, hd, rfl, hU⟩ := pt_at (hw.up s') hx
      have hd0 := hpl d (List.mem_of_getElem? hd)
      refine r_name (r _ rfl (fun Qb k => k H' (Same.refl _) |> fun z => by rw [hd] at z; exact z) fun d' H2 hd' s2 Qv qv => ?_)
      rw [hd] at hd'
      cases hd'
      walk_at "rd"
      refine ⟨_, _, sh, d, rfl, (s'.trans (.of s2)).sq ha, (Stp.of s2).sq hU, hd0, fun H3 s3 => qv _ _ s3 (.bl _)⟩
    intro p1 H1 zs s1 o1 t1
    have t1' : zs = (ps.map (isIdx sh)).map V.bl := by
      refine bools_invF (K := K) (H := H1) (l := ps) (f := isIdx sh) ?_
      have e : (List.range ws.length).filterMap (fun i => (ps[i]?).map fun r => PyData.bool (isIdx sh r)) = ps.map fun r => PyData.bool (isIdx sh r) := by
        rw [hwl]
        exact range_pick ps _
      rw [e] at t1
      exact t1
    subst t1'
    walk_at "rd"
    refine r_all (o1.sqL 0 rfl) ?_
    rw [show (ps.map (isIdx sh)).all id = (Sel.pts ps).fits sh by rw [List.all_map]; rfl]
    exact q.mk o1
  | box rs =>
    obtain ⟨b, c, ws, rfl, hb, hc, hw⟩ := sel_inv hv
    refine ⟨_, (pss_cons (ps_asg (pv 1) (pg_tup (n := 2) rfl (pgs_cons (pg_name (i := 2) sc_fits.nd rfl (Or.inl rfl)) (pgs_cons (pg_name (i := 3) sc_fits.nd rfl (Or.inl rfl)) pgs_nil))))
      (pss_cons (ps_if (pt_cmpR op_eq (pv 2) pe_str (nomark _)) (pss_one (ps_ret (pe_callB (r := rAll K) (cr_all rfl) (by rfl) T.b_all (by decide +kernel) (pa_cons (pe_lc (own := [("index", 4)]) (g := (gName 4)) (tt := tYes) rfl sc_fits.nd (pi_tup (pv 3)) (blkOk_by (N := N_fits) (sc := defScope s_fits) (by decide +kernel)) (fun _ _ _ _ _ => (pg_name (i := 4) sc_fits.nd rfl (Or.inl rfl))) (fun _ _ _ _ _ => pts_nil) (fun _ _ _ _ _ => (pe_callD G_is_index (hr.mono (by decide)) (pa_cons (pv 0) (pa_cons (pv 4) pa_nil))))) pa_nil)))) pss_nil)
      (pss_one (ps_ret (pe_callD G_box_fits (hr.mono (by decide)) (pa_cons (pv 0) (pa_cons (pv 3) pa_nil))))))), ?_⟩
    walk_at "rd"
    refine rif_no (by decide +kernel) ?_
    walk_at "rd"
    exact ⟨_, _, ws, sh, rs, rfl, ha, hc, hw, hok, q⟩
def sp_sel_size (K : PySem.W.Frag) : Sp := fun vs H Q _ => ∃ (v : V) (S : Sel), vs = [v] ∧ Tp K H v S.d ∧ (match S with | .pts _ => True | .box rs => ∀ r ∈ rs, -(2 ^ 60) ≤ r.2.2 ∧ r.2.2 ≤ 2 ^ 60) ∧ Q (.int S.size) H
theorem d_sel_size (T : Top K mg) : Def P w K mg base CX0 1 "selection_size" ["selection"] (sp_sel_size K) := by
  refine T.f_selection_size.ok sc_selection_size (by rintro vs H Q E ⟨v, S, rfl, _⟩; rfl) (fun f cdv A outer s H vs Q E hr h => ?_)
  obtain ⟨v, S, rfl, hv, hok, q⟩ := h
  cases S with
  | pts ps =>
    obtain ⟨b, c, ws, rfl, hb, hc, hw⟩ := sel_inv hv
    have hwl : ws.length = ps.length := by rw [hw.len, List.length_map]
    refine ⟨_, (pss_cons (ps_asg (pv 0) (pg_tup (n := 2) rfl (pgs_cons (pg_name (i := 1) sc_selection_size.nd rfl (Or.inl rfl)) (pgs_cons (pg_name (i := 2) sc_selection_size.nd rfl (Or.inl rfl)) pgs_nil))))
      (pss_cons (ps_if (pt_cmpR op_eq (pv 1) pe_str (nomark _)) (pss_one (ps_ret (pe_callB (r := Evl.rLenS K) call_len_seq (by rfl) T.b_len (by decide +kernel) (pa_cons (pv 2) pa_nil)))) pss_nil)
      (pss_cons (ps_set (i := 3) sc_selection_size.nd rfl (Or.inl rfl) pe_int)
      (pss_cons (ps_for PassesOwn.never rfl (pi_tup (pv 2)) (pg_tup (n := 3) rfl (pgs_cons (pg_name (i := 4) sc_selection_size.nd rfl (Or.inl rfl)) (pgs_cons (pg_name (i := 4) sc_selection_size.nd rfl (Or.inl rfl)) (pgs_cons (pg_name (i := 5) sc_selection_size.nd rfl (Or.inl rfl)) pgs_nil)))) (pss_one (ps_set (i := 3) sc_selection_size.nd rfl (Or.inl rfl) (pe_op op_mul (pv 3) (pv 5)))))
      (pss_one (ps_ret (pv 3))))))), ?_⟩
    walk_at "rd"
    refine rif_yes (by decide +kernel) ?_
    walk_at "rd"
    rw [hwl]
    exact q
  | box rs =>
    obtain ⟨b, c, ws, rfl, hb, hc, hw⟩ := sel_inv hv
    have hwl : ws.length = rs.length := by rw [hw.len, List.length_map]
    refine ⟨_, (pss_cons (ps_asg (pv 0) (pg_tup (n := 2) rfl (pgs_cons (pg_name (i := 1) sc_selection_size.nd rfl (Or.inl rfl)) (pgs_cons (pg_name (i := 2) sc_selection_size.nd rfl (Or.inl rfl)) pgs_nil))))
      (pss_cons (ps_if (pt_cmpR op_eq (pv 1) pe_str (nomark _)) (pss_one (ps_ret (pe_callB (r := Evl.rLenS K) call_len_seq (by rfl) T.b_len (by decide +kernel) (pa_cons (pv 2) pa_nil)))) pss_nil)
      (pss_cons (ps_set (i := 3) sc_selection_size.nd rfl (Or.inl rfl) pe_int)
      (pss_cons (ps_for PassesOwn.never rfl (pi_tup (pv 2)) (pg_tup (n := 3) rfl (pgs_cons (pg_name (i := 4) sc_selection_size.nd rfl (Or.inl rfl)) (pgs_cons (pg_name (i := 4) sc_selection_size.nd rfl (Or.inl rfl)) (pgs_cons (pg_name (i := 5) sc_selection_size.nd rfl (Or.inl rfl)) pgs_nil)))) (pss_one (ps_set (i := 3) sc_selection_size.nd rfl (Or.inl rfl) (pe_op op_mul (pv 3) (pv 5)))))
      (pss_one (ps_ret (pv 3))))))), ?_⟩
    walk_at "rd"
    refine rif_no (by decide +kernel) ?_
    walk_at "rd"
    refine forT hc (fun i σ' H' => H' = H ∧ ∃ v4 v5, σ' = [some (.ref b), some (.str (PySem.Str.ofString "box")), some (.ref c), some (.int (prodL ((rs.map (·.2.2)).take i))), v4, v5]) ⟨rfl, _, _, rfl⟩ (fun i σ' H' _ ⟨e, _⟩ => by rw [e]; exact hc) ?_ ?_
    · rintro i x σ' H' hx ⟨rfl, v4, v5, rfl⟩
      obtain ⟨d, U, hd, rfl, hU⟩ := tri_at hw hx
      have hd0 := hok d (List.mem_of_getElem? hd)
      refine r_gTup3 hU ?_
      walk_at "rd"
      refine ⟨rfl, some (.int d.2.1), some (.int d.2.2), ?_⟩
      rw [prodL_take (x := d.2.2) (by rw [List.getElem?_map, hd]; rfl)]
      rfl
    · rintro σ' H' ⟨rfl, v4, v5, rfl⟩
      walk_at "rd"
      rw [hwl, List.take_of_length_le (by rw [List.length_map]; omega)]
      exact q
def wholeR (sh : List Int) : List (Int × Int × Int) := sh.map fun z => (0, 1, z)
def sp_whole (K : PySem.W.Frag) : Sp := fun vs H Q _ => ∃ (a : Addr) (sh : List Int), vs = [.ref a] ∧ SqT K H a (sh.map V.int) ∧ sh.length ≤ 1000 ∧ RetD K H Q (Sel.box (wholeR sh)).d
theorem d_whole (T : Top K mg) : Def P w K mg base CX0 1 "whole" ["shape"] (sp_whole K) := by
  refine T.f_whole.ok sc_whole (by rintro vs H Q E ⟨a, sh, rfl, _⟩; rfl) (fun f cdv A outer s H vs Q E hr h => ?_)
  obtain ⟨a, sh, rfl, ha, hz, q⟩ := h
  refine ⟨_, (pss_one (ps_ret (pe_tup (pa_cons pe_str (pa_cons (pe_callTy (r := rTupS K) call_tuple_of (by rfl) T.b_tuple (by decide +kernel) (pa_cons (pe_lc (own := [("size", 1)]) (g := (gName 1)) (tt := tYes) rfl sc_whole.nd (pi_tup (pv 0)) (blkOk_by (N := N_whole) (sc := defScope s_whole) (by decide +kernel)) (fun _ _ _ _ _ => (pg_name (i := 1) sc_whole.nd rfl (Or.inl rfl))) (fun _ _ _ _ _ => pts_nil) (fun _ _ _ _ _ => (pe_tup (pa_cons pe_int (pa_cons pe_int (pa_cons (pv 1) pa_nil)))))) pa_nil)) pa_nil))))), ?_⟩
  walk_at "rd"
  refine lcjT (fun i => (sh[i]?).map fun z => triI (0, 1, z)) (Own.nil H) ha (by rw [List.length_map]; omega) ?_ ?_
  · intro i x p zs H' R hx o' s' r
    obtain ⟨z, hz', rfl⟩ := int_atT hx
    refine r_name (r _ rfl (fun Qb k => k H' (Same.refl _) |> fun z => by rw [hz'] at z; exact z) fun d' H2 hd' s2 Qv qv => ?_)
    rw [hz'] at hd'
    cases hd'
    walk_at "rd"
    refine r_newTi (K := K) [0, 1, z] rfl (Own.nil H2) (Nat.le_of_ble_eq_true rfl) fun t H3 s3 o3 h3 => ?_
    exact qv _ _ o3.ex (.tup h3 (TpAll.ints [0, 1, z]))
  intro p1 H1 zs s1 o1 t1
  have t1' : TpAll K H1 zs ((wholeR sh).map triI) := by
    have e : (List.range (sh.map V.int).length).filterMap (fun i => (sh[i]?).map fun z => triI (0, 1, z)) = (wholeR sh).map triI := by
      rw [List.length_map, range_pick sh _]
      unfold wholeR
      rw [List.map_map]
      rfl
    rw [e] at t1
    exact t1
  walk_at "rd"
  refine r_tupLs o1 (o1.sqL 0 rfl) fun t H2 s2 o2 h2 => ?_
  walk_at "rd"
  refine r_newTp (K := K) (ds := [.str (PySem.Str.ofString "box"), .tuple ((wholeR sh).map triI)]) o2 (.cons (.str _) (.cons (.tup h2 (t1'.up s2)) .nil)) (Nat.le_of_ble_eq_true rfl) fun t2 H3 s3 o3 h3 => ?_
  exact q.mk o3 h3
end

/-! ### the law's own reckoning of selections -/
theorem isIdx_yes {sh ix : List Int} (hl : ix.length = sh.length) (h : ∀ k : Nat, k < sh.length → 0 ≤ gi ix k ∧ gi ix k < gi sh k) : isIdx sh ix = true := by
  unfold isIdx
  rw [decide_eq_true hl, Bool.true_and, List.all_eq_true]
  intro p hp
  obtain ⟨k, hk, e⟩ := List.getElem_of_mem hp
  have hk2 : k < sh.length := by rw [List.length_zip] at hk; omega
  have hk3 : k < ix.length := by omega
  have e2 := (List.getElem_zip (h := hk)).symm.trans e
  obtain ⟨h1, h2⟩ := h k hk2
  rw [gi_nat hk3] at h1 h2
  rw [gi_nat hk2] at h2
  rw [← e2, decide_eq_true h1, decide_eq_true h2]
  rfl
theorem isIdx_no {sh ix : List Int} {k : Nat} (hl : ix.length = sh.length) (hk : k < sh.length) (h : gi ix k < 0 ∨ gi sh k ≤ gi ix k) : isIdx sh ix = false := by
  unfold isIdx
  rw [decide_eq_true hl, Bool.true_and, List.all_eq_false]
  have hk3 : k < ix.length := by omega
  have hz : k < (ix.zip sh).length := by rw [List.length_zip]; omega
  refine ⟨(ix.zip sh)[k], List.getElem_mem hz, ?_⟩
  rw [List.getElem_zip]
  rw [gi_nat hk3, gi_nat hk] at h
  intro h2
  rw [Bool.and_eq_true, decide_eq_true_eq, decide_eq_true_eq] at h2
  simp only at h2
  omega
theorem range_fm1 {α β : Type} (xs : List α) (f : α → Option β) : ∀ n, n ≤ xs.length → (List.range n).filterMap (fun i => (xs[i]?).bind f) = (xs.take n).filterMap f
  | 0, _ => rfl
  | n + 1, h => by
    rw [rfm_succ, range_fm1 xs f n (by omega), List.take_add_one, List.filterMap_append, List.getElem?_eq_getElem (show n < xs.length by omega)]
    congr 1
theorem range_fm {α β : Type} (xs : List α) (f : α → Option β) : (List.range xs.length).filterMap (fun i => (xs[i]?).bind f) = xs.filterMap f := by
  rw [range_fm1 xs f _ (Nat.le_refl _), List.take_length]
theorem fm_len {α β : Type} (p : α → Bool) (g : α → β) (xs : List α) : (xs.filterMap fun x => if p x then none else some (g x)).length = (xs.filter fun x => !p x).length := by
  induction xs with
  | nil => rfl
  | cons x xs ih =>
    rw [List.filterMap_cons, List.filter_cons]
    cases p x
    · exact congrArg (· + 1) ih
    · exact ih
theorem fm_lenP {α β : Type} (p : α → Bool) (g : α → β) (xs : List α) : (xs.filterMap fun x => if p x then some (g x) else none).length = (xs.filter fun x => p x).length := by
  induction xs with
  | nil => rfl
  | cons x xs ih =>
    rw [List.filterMap_cons, List.filter_cons]
    cases p x
    · exact ih
    · exact congrArg (· + 1) ih
/-- a new list whose items are data of tuples -/
def RetLD (K : PySem.W.Frag) (H : Hp) (Q : VK) (ds : List PyData) : Prop := ∀ H' p zs, Same H H' → H p = none → H' p = some (.lst zs) → TpAll K H' zs ds → Q (.ref p) H'
section
variable {P : Program} {w : World} {K : PySem.W.Frag} {mg : Str → Option Value} {base : Heap}
theorem d_law_whole (T : Top K mg) : Def P w K mg base CX0 1 "_law_whole" ["shape"] (sp_whole K) := by
  refine T.f__law_whole.ok sc__law_whole (by rintro vs H Q E ⟨a, sh, rfl, _⟩; rfl) (fun f cdv A outer s H vs Q E hr h => ?_)
  obtain ⟨a, sh, rfl, ha, hz, q⟩ := h
  refine ⟨_, (pss_one (ps_ret (pe_tup (pa_cons pe_str (pa_cons (pe_callTy (r := rTupS K) call_tuple_of (by rfl) T.b_tuple (by decide +kernel) (pa_cons (pe_lc (own := [("size", 1)]) (g := (gName 1)) (tt := tYes) rfl sc__law_whole.nd (pi_tup (pv 0)) (blkOk_by (N := N__law_whole) (sc := defScope s__law_whole) (by decide +kernel)) (fun _ _ _ _ _ => (pg_name (i := 1) sc__law_whole.nd rfl (Or.inl rfl))) (fun _ _ _ _ _ => pts_nil) (fun _ _ _ _ _ => (pe_tup (pa_cons pe_int (pa_cons pe_int (pa_cons (pv 1) pa_nil)))))) pa_nil)) pa_nil))))), ?_⟩
  walk_at "rd"
  refine lcjT (fun i => (sh[i]?).map fun z => triI (0, 1, z)) (Own.nil H) ha (by rw [List.length_map]; omega) ?_ ?_
  · intro i x p zs H' R hx o' s' r
    obtain ⟨z, hz', rfl⟩ := int_atT hx
    refine r_name (r _ rfl (fun Qb k => k H' (Same.refl _) |> fun z => by rw [hz'] at z; exact z) fun d' H2 hd' s2 Qv qv => ?_)
    rw [hz'] at hd'
    cases hd'
    walk_at "rd"
    refine r_newTi (K := K) [0, 1, z] rfl (Own.nil H2) (Nat.le_of_ble_eq_true rfl) fun t H3 s3 o3 h3 => ?_
    exact qv _ _ o3.ex (.tup h3 (TpAll.ints [0, 1, z]))
  intro p1 H1 zs s1 o1 t1
  have t1' : TpAll K H1 zs ((wholeR sh).map triI) := by
    have e : (List.range (sh.map V.int).length).filterMap (fun i => (sh[i]?).map fun z => triI (0, 1, z)) = (wholeR sh).map triI := by
      rw [List.length_map, range_pick sh _]
      unfold wholeR
      rw [List.map_map]
      rfl
    rw [e] at t1
    exact t1
  walk_at "rd"
  refine r_tupLs o1 (o1.sqL 0 rfl) fun t H2 s2 o2 h2 => ?_
  walk_at "rd"
  refine r_newTp (K := K) (ds := [.str (PySem.Str.ofString "box"), .tuple ((wholeR sh).map triI)]) o2 (.cons (.str _) (.cons (.tup h2 (t1'.up s2)) .nil)) (Nat.le_of_ble_eq_true rfl) fun t2 H3 s3 o3 h3 => ?_
  exact q.mk o3 h3
end

/-! ### the indexes that a selection picks -/
def rowI (r : Int × Int × Int) : List Int := (List.range r.2.2.toNat).map fun (k : Nat) => r.1 + r.2.1 * (k : Int)
def stepB (acc : List (List Int)) (r : Int × Int × Int) : List (List Int) := acc.flatMap fun ix => (rowI r).map fun p => ix ++ [p]
def boxIdx (rs : List (Int × Int × Int)) : List (List Int) := rs.foldl stepB [[]]
def Sel.idx : Sel → List (List Int)
  | .pts ps => ps
  | .box rs => if prodL (rs.map (·.2.2)) = 0 then [] else boxIdx rs
theorem boxIdx_take {rs : List (Int × Int × Int)} {i : Nat} {r : Int × Int × Int} (h : rs[i]? = some r) : boxIdx (rs.take (i + 1)) = stepB (boxIdx (rs.take i)) r := by
  unfold boxIdx
  rw [List.take_add_one, h, List.foldl_append]
  rfl
theorem rowI_len (r : Int × Int × Int) : (rowI r).length = r.2.2.toNat := by unfold rowI; rw [List.length_map, List.length_range]
theorem stepB_len (acc : List (List Int)) (r : Int × Int × Int) : (stepB acc r).length = acc.length * r.2.2.toNat := by
  unfold stepB
  induction acc with
  | nil => simp
  | cons a as ih => rw [List.flatMap_cons, List.length_append, ih, List.length_map, rowI_len, List.length_cons, Nat.add_mul]; omega
theorem prodL_pos : ∀ {ns : List Int}, (∀ x ∈ ns, 1 ≤ x) → 1 ≤ prodL ns := by
  intro ns h
  have key : ∀ (ns : List Int) (a : Int), 1 ≤ a → (∀ x ∈ ns, 1 ≤ x) → a ≤ ns.foldl (· * ·) a := by
    intro ns
    induction ns with
    | nil => intro a _ _; exact Int.le_refl _
    | cons n ns ih =>
      intro a ha hb
      have h1 := hb n List.mem_cons_self
      have h2 : a ≤ a * n := by
        have := Int.mul_le_mul_of_nonneg_left h1 (show (0 : Int) ≤ a by omega)
        omega
      exact Int.le_trans h2 (ih (a * n) (by omega) fun x hx => hb x (List.mem_cons_of_mem _ hx))
  exact key ns 1 (by omega) h
theorem prodL_app (xs ys : List Int) : prodL (xs ++ ys) = prodL xs * prodL ys := by
  have key : ∀ (ys : List Int) (a : Int), ys.foldl (· * ·) a = a * ys.foldl (· * ·) 1 := by
    intro ys
    induction ys with
    | nil => intro a; simp
    | cons y ys ih =>
      intro a
      rw [List.foldl_cons, List.foldl_cons, ih (a * y), ih (1 * y), Int.one_mul, Int.mul_assoc]
  unfold prodL
  rw [List.foldl_append, key ys]
theorem prodL_le {ns : List Int} (h : ∀ x ∈ ns, 1 ≤ x) (i : Nat) : prodL (ns.take i) ≤ prodL ns := by
  have h1 := prodL_app (ns.take i) (ns.drop i)
  rw [List.take_append_drop] at h1
  have h2 := prodL_pos (ns := ns.drop i) fun x hx => h x (List.mem_of_mem_drop hx)
  have h3 := prodL_pos (ns := ns.take i) fun x hx => h x (List.mem_of_mem_take hx)
  rw [h1]
  have := Int.mul_le_mul_of_nonneg_left h2 (show (0 : Int) ≤ prodL (ns.take i) by omega)
  omega
theorem prodL_zero {ns : List Int} (h : (0 : Int) ∈ ns) : prodL ns = 0 := by
  obtain ⟨a, b, rfl⟩ := List.append_of_mem h
  rw [prodL_app]
  have e : prodL (0 :: b) = prodL [0] * prodL b := by rw [← prodL_app]; rfl
  rw [e, show prodL [0] = 0 from rfl, Int.zero_mul, Int.mul_zero]
theorem boxIdx_len {rs : List (Int × Int × Int)} (h : ∀ r ∈ rs, 1 ≤ r.2.2) : ∀ i, i ≤ rs.length → (((boxIdx (rs.take i)).length : Nat) : Int) = prodL ((rs.map (·.2.2)).take i)
  | 0, _ => rfl
  | i + 1, hi => by
    have e : rs[i]? = some rs[i] := List.getElem?_eq_getElem (by omega)
    have h1 := h rs[i] (List.getElem_mem _)
    rw [boxIdx_take e, stepB_len, prodL_take (x := rs[i].2.2) (by rw [List.getElem?_map, e]; rfl), Int.natCast_mul, boxIdx_len h i (by omega)]
    congr 1
    omega
theorem boxIdx_mem {rs : List (Int × Int × Int)} : ∀ i, i ≤ rs.length → ∀ ix ∈ boxIdx (rs.take i), ix.length = i
  | 0, _, ix, h => by
    have e : ix = [] := List.mem_singleton.mp h
    rw [e]
    rfl
  | i + 1, hi, ix, h => by
    rw [boxIdx_take (List.getElem?_eq_getElem (show i < rs.length by omega))] at h
    unfold stepB at h
    obtain ⟨jx, hj, h2⟩ := List.mem_flatMap.mp h
    obtain ⟨p, _, rfl⟩ := List.mem_map.mp h2
    rw [List.length_append, boxIdx_mem i (by omega) jx hj]
    rfl
theorem flatMap_ix {α β : Type} (xs : List α) (ys : List β) {γ : Type} (f : α → β → γ) (g : Nat → Nat → γ) (h : ∀ i j x y, xs[i]? = some x → ys[j]? = some y → g i j = f x y) : ((List.range xs.length).flatMap fun i => (List.range ys.length).map (g i)) = xs.flatMap fun x => ys.map (f x) := by
  have e : ∀ i x, xs[i]? = some x → (List.range ys.length).map (g i) = ys.map (f x) := fun i x hx => range_map_get ys (f x) (g i) fun j y hy => h i j x y hx hy
  rw [List.flatMap_def, List.flatMap_def]
  congr 1
  exact range_map_get xs (fun x => ys.map (f x)) (fun i => (List.range ys.length).map (g i)) e
section
variable {P : Program} {w : World} {K : PySem.W.Frag} {mg : Str → Option Value} {base : Heap}
def sp_box_indexes (K : PySem.W.Frag) : Sp := fun vs H Q _ => ∃ (b : Addr) (ws : List V) (rs : List (Int × Int × Int)), vs = [.ref b] ∧ SqT K H b ws ∧ TpAll K H ws (rs.map triI) ∧ rs.length ≤ 1000 ∧ (∀ r ∈ rs, -(2 ^ 60) ≤ r.2.1 ∧ r.2.1 ≤ 2 ^ 60 ∧ 1 ≤ r.2.2) ∧ prodL (rs.map (·.2.2)) ≤ 100000 ∧ RetLD K H Q ((boxIdx rs).map tupI)
theorem d_box_indexes (T : Top K mg) : Def P w K mg base CX0 1 "box_indexes" ["ranges"] (sp_box_indexes K) := by
  refine T.f_box_indexes.ok sc_box_indexes (by rintro vs H Q E ⟨b, ws, rs, rfl, _⟩; rfl) (fun f cdv A outer s H vs Q E hr h => ?_)
  obtain ⟨b, ws, rs, rfl, hb, hw, hz, hrb, hp, q⟩ := h
  have hwl : ws.length = rs.length := by rw [hw.len, List.length_map]
  have hcb : ∀ x ∈ rs.map (·.2.2), 1 ≤ x := by
    intro x hx
    obtain ⟨r, hr, rfl⟩ := List.mem_map.mp hx
    exact (hrb r hr).2.2
  have hlen : ∀ i, i ≤ rs.length → (boxIdx (rs.take i)).length ≤ 100000 := fun i hi => by
    have h1 := boxIdx_len (fun r hr => (hrb r hr).2.2) i hi
    have h2 := prodL_le hcb i
    omega
  refine ⟨_, (pss_cons (ps_set (i := 1) sc_box_indexes.nd rfl (Or.inl rfl) (pe_lst (pa_cons (pe_tup pa_nil) pa_nil)))
      (pss_cons (ps_for PassesOwn.never rfl (pi_tup (pv 0)) (pg_tup (n := 3) rfl (pgs_cons (pg_name (i := 2) sc_box_indexes.nd rfl (Or.inr rfl)) (pgs_cons (pg_name (i := 3) sc_box_indexes.nd rfl (Or.inr rfl)) (pgs_cons (pg_name (i := 4) sc_box_indexes.nd rfl (Or.inl rfl)) pgs_nil)))) (pss_cons (ps_set (i := 5) sc_box_indexes.nd rfl (Or.inr rfl) (pe_lc (own := [("number", 6)]) (g := (gName 6)) (tt := tYes) rfl sc_box_indexes.nd (pi_range1 (by rfl) T.b_range (pa_cons (pv 4) pa_nil)) (blkOk_by (N := N_box_indexes) (sc := defScope s_box_indexes) (by decide +kernel)) (fun _ _ _ _ _ => (pg_name (i := 6) sc_box_indexes.nd rfl (Or.inl rfl))) (fun _ _ _ _ _ => pts_nil) (fun _ _ _ _ _ => (pe_op op_add (pv 2) (pe_op op_mul (pv 3) (pv 6))))))
      (pss_one (ps_setLc2 (i := 1) (own := [("index", 7), ("place", 8)]) (vs1 := [8]) (g := (gName 7)) (g1 := (gName 8)) (tt := tYes) (tt1 := tYes) rfl sc_box_indexes.nd rfl rfl (sw_true rfl rfl rfl (by decide +kernel)) (pi_list (pv 1)) (blkOk_by (N := N_box_indexes) (sc := defScope s_box_indexes) (by decide +kernel)) (by decide) (fun _ _ _ _ _ => (pg_name (i := 7) sc_box_indexes.nd rfl (Or.inl rfl))) (fun _ _ _ _ _ => pts_nil) (fun _ _ _ _ _ => (pi_listK (K := K) rfl (pv 5))) (fun _ _ _ _ _ => (pg_name (i := 8) sc_box_indexes.nd rfl (Or.inl rfl))) (fun _ _ _ _ _ => pts_nil) (fun _ _ _ _ _ => (pe_op (r := rCatA K) op_catA (pv 7) (pe_tup (pa_cons (pv 8) pa_nil))))))))
      (pss_one (ps_ret (pv 1))))), ?_⟩
  walk_at "rd"
  refine r_newTs (K := K) (Own.nil H) (Nat.zero_le _) fun t0 H1 s1 o1 h1 => ?_
  walk_at "rd"
  refine r_newLs o1 (Nat.le_of_ble_eq_true rfl) fun p H2 s2 o2 => ?_
  walk_at "rd"
  have hbB := (s1.trans s2).sq hb
  refine forT hbB (fun i σ' H' => ∃ (p : Addr) (zs : List V) (v2 v3 v4 v5 v6 v7 v8 : Option V) (L : List (Addr × HO)), σ' = [some (.ref b), some (.ref p), v2, v3, v4, v5, v6, v7, v8] ∧ TpAll K H' zs ((boxIdx (rs.take i)).map tupI) ∧ Own H H' ((p, .lst zs) :: L) ∧ Stp H H') ?_ (fun i σ' H' _ ⟨_, _, _, _, _, _, _, _, _, _, _, _, _, s⟩ => s.sq hb) ?_ ?_
  · exact ⟨p, _, _, _, _, _, _, _, _, _, rfl, .cons (.tup (s2.sq h1) .nil) .nil, o2, s1.trans s2⟩
  · rintro i x σ' H' hx ⟨p, zs, v2, v3, v4, v5, v6, v7, v8, L, rfl, tz, o, s'⟩
    obtain ⟨d, U, hd, rfl, hU⟩ := tri_at (hw.up s') hx
    have hd0 := hrb d (List.mem_of_getElem? hd)
    have hi := (List.getElem?_eq_some_iff.mp hd).1
    have hcd : d.2.2 ≤ 100000 := by
      have e1 := prodL_take (ns := rs.map (·.2.2)) (i := i) (x := d.2.2) (by rw [List.getElem?_map, hd]; rfl)
      have e2 := prodL_le hcb (i + 1)
      have e3 := prodL_pos (ns := (rs.map (·.2.2)).take i) fun x hx => hcb x (List.mem_of_mem_take hx)
      have e4 := Int.mul_le_mul_of_nonneg_right e3 (show (0 : Int) ≤ d.2.2 by omega)
      omega
    have hl1 := hlen (i + 1) hi
    rw [boxIdx_take hd, stepB_len] at hl1
    have hzl := tz.len
    rw [List.length_map] at hzl
    refine r_gTup3 hU ?_
    walk_at "rd"
    refine lcjR (K := K) (n := d.2.2.toNat) (fun k => some (.int (d.1 + d.2.1 * (k : Int)))) o (by omega) (by omega) ?_ ?_
    · intro k p zs' H2 R hk o2 s2' r
      refine r_name (r _ rfl (fun Qb k => k H2 (Same.refl _)) fun d' H3 hd' s3' Qv qv => ?_)
      cases hd'
      walk_at "rd"
      exact qv _ _ (Same.refl _) (.int _)
    intro p2 H3 zs3 s3 o3 t3
    rw [rfm_all] at t3
    have e3 := ints_invF t3
    subst e3
    walk_at "rd"
    refine lc2LL (K := K) (xs := zs) (ys := (rowI d).map V.int) (fun i2 j2 => tupI (((boxIdx (rs.take i))[i2]?).getD [] ++ [gi (rowI d) (j2 : Int)])) o3 (fun H' p zs o' s' => ⟨o'.sqL 2 rfl, o'.sqL 1 rfl⟩) (o3.sqL 1 rfl) (by rw [List.length_map, rowI_len, hzl]; omega) (fun x => rfl) (fun x y => rfl) ?_ ?_ ?_
    · intro x H4 R hS r
      walk_at "rd"
      exact ⟨_, rfl, ⟨_, hS⟩, r⟩
    · intro i2 j2 x y p4 zs4 H4 Qv hx hy o4 s4 qv
      obtain ⟨ix, a4, e4, rfl, ha4⟩ := pt_at ((tz.up s3).up s4) hx
      obtain ⟨y, hy', rfl⟩ := int_atT hy
      rw [e4, gi_get hy'] at qv
      walk_at "rd"
      refine r_newTi (K := K) [y] rfl (Own.nil H4) (Nat.le_of_ble_eq_true rfl) fun t5 H5 s5 o5 h5 => ?_
      walk_at "rd"
      refine r_catA (K := K) o5 (s5.sq ha4) h5 (by have := boxIdx_mem i (by omega) ix (List.mem_of_getElem? e4); simp only [List.length_map, List.length_cons, List.length_nil]; omega) fun t6 H6 s6 o6 h6 => ?_
      refine qv _ _ o6.ex (Tp.intsT (ns := ix ++ [y]) ?_)
      rw [List.map_append]
      exact h6
    · intro p4 H4 zs4 s4 o4 t4
      walk_at "rd"
      refine ⟨p4, zs4, _, _, _, _, _, _, _, _, rfl, ?_, o4, (s'.trans s3).trans s4⟩
      rw [boxIdx_take hd]
      have e : ((List.range zs.length).flatMap fun i2 => (List.range ((rowI d).map V.int).length).map fun (j2 : Nat) => tupI (((boxIdx (rs.take i))[i2]?).getD [] ++ [gi (rowI d) (j2 : Int)])) = (stepB (boxIdx (rs.take i)) d).map tupI := by
        rw [List.length_map, hzl]
        rw [flatMap_ix (boxIdx (rs.take i)) (rowI d) (fun ix p => tupI (ix ++ [p])) _ (fun i j x y hx hy => by rw [hx, gi_get hy]; rfl)]
        unfold stepB
        rw [List.map_flatMap]
        congr 1
        funext ix
        rw [List.map_map]
        rfl
      rw [e] at t4
      exact t4
  · rintro σ' H' ⟨p, zs, v2, v3, v4, v5, v6, v7, v8, L, rfl, tz, o, s'⟩
    walk_at "rd"
    rw [hwl, List.take_length] at tz
    exact q H' p zs o.ex (o.fresh 0 rfl) (o.at 0 rfl) tz
/-- refused, or the indexes -/
def sp_picked (K : PySem.W.Frag) (C1 C2 : Addr) : Sp := fun vs H Q E => ∃ (a : Addr) (v : V) (sh : List Int) (S : Sel), vs = [.ref a, v] ∧ SqT K H a (sh.map V.int) ∧ sh.length ≤ 1000 ∧ Tp K H v S.d ∧ S.ok ∧ (match S with | .pts _ => True | .box rs => ∀ r ∈ rs, -(2 ^ 60) ≤ r.2.2 ∧ r.2.2 ≤ 2 ^ 60) ∧
  (S.fits sh = true → S.size ≤ 100000 → RetLD K H Q (S.idx.map tupI)) ∧ (S.fits sh = false → RetE0 H E C1) ∧ (S.fits sh = true → 100000 < S.size → RetE H E C2 [("limit", .int 100000)])
theorem d_picked {C_TesseraError C_InvalidShape C_InvalidSelection C_TooLarge C_WrongCount : Addr} (T : Top K mg) (R : Errs K mg C_TesseraError C_InvalidShape C_InvalidSelection C_TooLarge C_WrongCount) (E_TooLarge : EDef P w K mg base C_TooLarge "TooLarge" ["self", "limit"] (sp_i1 C_TooLarge "limit")) : Def P w K mg base (L2N.CX P w) 4 "picked" ["shape", "selection"] (sp_picked K C_InvalidSelection C_TooLarge) := by
  have G_fits : Def P w K mg base CX0 2 "fits" ["shape", "selection"] (sp_fits K) := d_fits T
  have G_selection_size : Def P w K mg base CX0 1 "selection_size" ["selection"] (sp_sel_size K) := d_sel_size T
  have G_box_indexes : Def P w K mg base CX0 1 "box_indexes" ["ranges"] (sp_box_indexes K) := d_box_indexes T
  obtain ⟨t1, g_MOST_PICKED⟩ := T.g_MOST_PICKED
  refine T.f_picked.okN sc_picked (by rintro vs H Q E ⟨a, v, sh, S, rfl, _⟩; rfl) (fun f cdv A outer s H vs Q E hr h => ?_)
  obtain ⟨a, v, sh, S, rfl, ha, hsl, hv, hok, hcb, qY, qN, qT⟩ := h
  refine ⟨_, (pss_cons (ps_if (pt_not (pt_val (pe_callD G_fits (hr.mono (by decide)) (pa_cons (pv 0) (pa_cons (pv 1) pa_nil))))) (pss_one (ps_raiseE rfl (L2N.takes_of rfl rfl rfl rfl) (pmk_e0 R.c_InvalidSelection R.p_InvalidSelection))) pss_nil)
      (pss_cons (ps_set (i := 2) sc_picked.nd rfl (Or.inl rfl) (pe_callD G_selection_size (hr.mono (by decide)) (pa_cons (pv 1) pa_nil)))
      (pss_cons (ps_if (pt_cmpR op_gt (pv 2) (pe_glob (v := .int 100000) rfl g_MOST_PICKED ⟨_, rfl⟩) (nomark _)) (pss_one (ps_raiseE rfl (L2N.takes_of rfl rfl rfl rfl) (pmk_e1 E_TooLarge (hr.mono (by decide)) (pa_cons (pe_glob (v := .int 100000) rfl g_MOST_PICKED ⟨_, rfl⟩) pa_nil)))) pss_nil)
      (pss_cons (ps_asg (pv 1) (pg_tup (n := 2) rfl (pgs_cons (pg_name (i := 3) sc_picked.nd rfl (Or.inl rfl)) (pgs_cons (pg_name (i := 4) sc_picked.nd rfl (Or.inl rfl)) pgs_nil))))
      (pss_cons (ps_if (pt_cmpR op_eq (pv 3) pe_str (nomark _)) (pss_one (ps_ret (pe_callTy (r := Evl.rListS K) call_list_of (by rfl) T.b_list (by decide +kernel) (pa_cons (pv 4) pa_nil)))) pss_nil)
      (pss_cons (ps_if (pt_cmpR op_eq (pv 2) pe_int (nomark _)) (pss_one (ps_ret (pe_lst pa_nil))) pss_nil)
      (pss_one (ps_ret (pe_callD G_box_indexes (hr.mono (by decide)) (pa_cons (pv 4) pa_nil)))))))))), ?_⟩
  walk_at "rd"
  refine ⟨a, v, sh, S, rfl, ha, hv, hok, fun H1 s1 => ?_⟩
  walk_at "rd"
  have ha1 := (Stp.of s1).sq ha
  have hv1 := hv.up (.of s1)
  cases hf : S.fits sh with
  | false =>
    walk_at "rd"
    refine r_raise0 ?_
    exact qN hf H1 s1
  | true =>
    walk_at "rd"
    refine ⟨v, S, rfl, hv1, hcb, ?_⟩
    walk_at "rd"
    refine rif (fun hbig => ?_) fun hbig => ?_
    · walk_at "rd"
      refine r_raise ?_
      walk_at "rd"
      refine ⟨rfl, fun u hu => ?_, fun d hd => ?_⟩
      · rw [List.mem_singleton.mp hu]
        exact .inl ⟨_, rfl, by decide⟩
      · exact qT hf hbig _ d (s1.trans (same_new hd)) (s1.free hd) upd_same
    · have q := qY hf (by omega)
      have o1 : Own H H1 [] := (Own.nil H).mono s1
      cases S with
      | pts ps =>
        obtain ⟨b, c, ws, rfl, hb, hc, hw⟩ := sel_inv hv1
        walk_at "rd"
        refine rif_yes (by decide +kernel) ?_
        walk_at "rd"
        refine r_listTs o1 hc fun l H2 s2 o2 => ?_
        exact q H2 l ws o2.ex (o2.fresh 0 rfl) (o2.at 0 rfl) (hw.up s2)
      | box rs =>
        obtain ⟨b, c, ws, rfl, hb, hc, hw⟩ := sel_inv hv1
        walk_at "rd"
        refine rif_no (by decide +kernel) ?_
        walk_at "rd"
        refine rif (fun h0 => ?_) fun h0 => ?_
        · walk_at "rd"
          refine r_newLs o1 (Nat.zero_le _) fun l H2 s2 o2 => ?_
          refine q H2 l [] o2.ex (o2.fresh 0 rfl) (o2.at 0 rfl) ?_
          have e : (Sel.box rs).idx = [] := if_pos h0
          rw [e]
          exact .nil
        · walk_at "rd"
          have e : (Sel.box rs).idx = boxIdx rs := if_neg h0
          rw [e] at q
          have hg : rs.all rOk = true := by
            have hf' : boxFits sh rs = true := hf
            unfold boxFits at hf'
            simp only [Bool.and_eq_true] at hf'
            exact hf'.1.2
          refine ⟨c, ws, rs, rfl, hc, hw, hok.1, (fun r hr => ?_), ?_, fun H2 p zs s2 f2 a2 t2 => q H2 p zs (s1.trans s2) (s1.free f2) a2 t2⟩
          · have h1 := hok.2 r hr
            have h2 := List.all_eq_true.mp hg r hr
            unfold rOk at h2
            simp only [Bool.and_eq_true, decide_eq_true_eq] at h2
            refine ⟨by omega, by omega, ?_⟩
            by_cases hz : r.2.2 = 0
            · exfalso
              apply h0
              exact prodL_zero (List.mem_map.mpr ⟨r, hr, hz⟩)
            · omega
          · have hs : (Sel.box rs).size = prodL (rs.map (·.2.2)) := rfl
            omega
end

/-! ### the law's indexes and selections -/
/-- all indexes of a shape -/
def allIdx (sh : List Int) : List (List Int) := boxIdx (wholeR sh)
theorem rowI_whole (z : Int) : rowI (0, 1, z) = (List.range z.toNat).map fun (k : Nat) => (k : Int) := by
  unfold rowI
  apply List.map_congr_left
  intro k _
  simp
theorem boxIdx_len2 {rs : List (Int × Int × Int)} (h : ∀ r ∈ rs, 0 ≤ r.2.2) : ∀ i, i ≤ rs.length → (((boxIdx (rs.take i)).length : Nat) : Int) = prodL ((rs.map (·.2.2)).take i)
  | 0, _ => rfl
  | i + 1, hi => by
    have e : rs[i]? = some rs[i] := List.getElem?_eq_getElem (by omega)
    have h1 := h rs[i] (List.getElem_mem _)
    rw [boxIdx_take e, stepB_len, prodL_take (x := rs[i].2.2) (by rw [List.getElem?_map, e]; rfl), Int.natCast_mul, boxIdx_len2 h i (by omega)]
    congr 1
    omega
theorem boxIdx_lenA {rs : List (Int × Int × Int)} (h : ∀ r ∈ rs, 0 ≤ r.2.2) : (((boxIdx rs).length : Nat) : Int) = prodL (rs.map (·.2.2)) := by
  have := boxIdx_len2 h rs.length (Nat.le_refl _)
  rw [List.take_length, List.take_of_length_le (by rw [List.length_map]; omega)] at this
  exact this
theorem box_idx {rs : List (Int × Int × Int)} (h : ∀ r ∈ rs, 0 ≤ r.2.2) : (Sel.box rs).idx = boxIdx rs := by
  show (if prodL (rs.map (·.2.2)) = 0 then [] else boxIdx rs) = _
  by_cases h0 : prodL (rs.map (·.2.2)) = 0
  · rw [if_pos h0]
    have e := boxIdx_lenA h
    have e2 : (boxIdx rs).length = 0 := by omega
    exact (List.eq_nil_of_length_eq_zero e2).symm
  · rw [if_neg h0]
/-- what one turn of the law's loops makes -/
theorem stepB_eq (acc : List (List Int)) (r : Int × Int × Int) : stepB acc r = acc.flatMap fun ix => (List.range r.2.2.toNat).map fun (k : Nat) => ix ++ [r.1 + r.2.1 * (k : Int)] := by
  unfold stepB rowI
  congr 1
  funext ix
  rw [List.map_map]
  rfl
theorem stepB_take {xs : List (List Int)} {j : Nat} {ix : List Int} {r : Int × Int × Int} (h : xs[j]? = some ix) : stepB (xs.take (j + 1)) r = stepB (xs.take j) r ++ (rowI r).map fun p => ix ++ [p] := by
  unfold stepB
  rw [List.take_add_one, h, List.flatMap_append]
  simp
theorem rowI_take {r : Int × Int × Int} {k : Nat} (h : k < r.2.2.toNat) : (rowI r).take (k + 1) = (rowI r).take k ++ [r.1 + r.2.1 * (k : Int)] := by
  rw [List.take_add_one]
  congr 1
  unfold rowI
  rw [List.getElem?_map, List.getElem?_range h]
  rfl
theorem boxIdx_bnd {rs : List (Int × Int × Int)} (h : ∀ r ∈ rs, r.2.2 ≤ 6) : ∀ i, i ≤ rs.length → (boxIdx (rs.take i)).length ≤ 6 ^ i
  | 0, _ => Nat.le_refl _
  | i + 1, hi => by
    have e : rs[i]? = some rs[i] := List.getElem?_eq_getElem (by omega)
    have h1 := h rs[i] (List.getElem_mem _)
    rw [boxIdx_take e, stepB_len, Nat.pow_succ]
    exact Nat.mul_le_mul (boxIdx_bnd h i (by omega)) (by omega)
theorem pow6 {i : Nat} (h : i ≤ 6) : (6 : Nat) ^ i ≤ 46656 := by
  have := Nat.pow_le_pow_right (n := 6) (by decide) h
  exact this
theorem wholeR_map (sh : List Int) : (wholeR sh).map (·.2.2) = sh := by
  unfold wholeR
  rw [List.map_map]
  exact List.map_id _
theorem allIdx_len {sh : List Int} (h : ∀ z ∈ sh, 0 ≤ z) : (((allIdx sh).length : Nat) : Int) = prodL sh := by
  have e := boxIdx_lenA (rs := wholeR sh) (fun r hr => by obtain ⟨z, hz, rfl⟩ := List.mem_map.mp hr; exact h z hz)
  rw [wholeR_map] at e
  exact e
/-- ranges that lie inside -/
def RsOk (sh : List Int) (rs : List (Int × Int × Int)) : Prop := ∀ (i : Nat) (r : Int × Int × Int), rs[i]? = some r → 0 ≤ r.1 ∧ 1 ≤ r.2.1 ∧ r.2.1 ≤ 3 ∧ 0 ≤ r.2.2 ∧ r.2.2 ≤ 6 ∧ r.1 ≤ 6 ∧ (r.2.2 = 0 ∨ rLast r < gi sh (i : Int))
/-- what the law draws: a selection that fits -/
def SelOk (sh : List Int) : Sel → Prop
  | .pts ps => ps.length ≤ 4 ∧ ∀ p ∈ ps, p ∈ allIdx sh
  | .box rs => rs.length = sh.length ∧ RsOk sh rs
theorem prodL_nn {ns : List Int} (h : ∀ x ∈ ns, 0 ≤ x) : 0 ≤ prodL ns := by
  have key : ∀ (ns : List Int) (a : Int), 0 ≤ a → (∀ x ∈ ns, 0 ≤ x) → 0 ≤ ns.foldl (· * ·) a := by
    intro ns
    induction ns with
    | nil => intro a h _; exact h
    | cons n ns ih => intro a ha hb; exact ih _ (Int.mul_nonneg ha (hb n List.mem_cons_self)) fun x hx => hb x (List.mem_cons_of_mem _ hx)
  exact key ns 1 (by omega) h
theorem step_bnd (d : Int) : 1 ≤ 1 + d % 3 * (d / 3 % 2) ∧ 1 + d % 3 * (d / 3 % 2) ≤ 3 := by
  have h1 : d % 3 = 0 ∨ d % 3 = 1 ∨ d % 3 = 2 := by omega
  have h2 : d / 3 % 2 = 0 ∨ d / 3 % 2 = 1 := by omega
  rcases h1 with h1 | h1 | h1 <;> rcases h2 with h2 | h2 <;> rw [h1, h2] <;> decide
theorem RsOk.snoc {sh : List Int} {rs : List (Int × Int × Int)} {r : Int × Int × Int} (h : RsOk sh rs) (hr : 0 ≤ r.1 ∧ 1 ≤ r.2.1 ∧ r.2.1 ≤ 3 ∧ 0 ≤ r.2.2 ∧ r.2.2 ≤ 6 ∧ r.1 ≤ 6 ∧ (r.2.2 = 0 ∨ rLast r < gi sh (rs.length : Int))) : RsOk sh (rs ++ [r]) := by
  intro i q hq
  rw [List.getElem?_append] at hq
  by_cases hi : i < rs.length
  · rw [if_pos hi] at hq
    exact h i q hq
  · rw [if_neg hi] at hq
    have e : i - rs.length = 0 := by
      cases e : i - rs.length with
      | zero => rfl
      | succ n => rw [e] at hq; cases hq
    rw [e] at hq
    cases hq
    have e2 : i = rs.length := by omega
    rw [e2]
    exact hr
theorem room_ok {z s0 st : Int} (h0 : 0 ≤ z) (h1 : z ≤ 6) (h2 : 0 ≤ s0) (h3 : s0 ≤ z) (h4 : 1 ≤ st) (h5 : st ≤ 3) : 0 ≤ (z - s0 + st - 1) / st ∧ ∀ c, 0 ≤ c → c ≤ (z - s0 + st - 1) / st → c ≤ 6 ∧ (c = 0 ∨ s0 + st * (c - 1) < z) := by
  have : st = 1 ∨ st = 2 ∨ st = 3 := by omega
  rcases this with rfl | rfl | rfl <;> exact ⟨by omega, fun c hc1 hc2 => ⟨by omega, by omega⟩⟩
theorem wholeR_ok {sh : List Int} (h : ∀ z ∈ sh, 0 ≤ z ∧ z ≤ 6) : RsOk sh (wholeR sh) := by
  intro i r hr
  unfold wholeR at hr
  obtain ⟨z, hz, rfl⟩ := by
    rw [List.getElem?_map] at hr
    exact Option.map_eq_some_iff.mp hr
  have hzb := h z (List.mem_of_getElem? hz)
  have e : gi sh (i : Int) = z := gi_get hz
  rw [e]
  unfold rLast
  simp only
  exact ⟨by omega, by omega, by omega, hzb.1, hzb.2, by omega, by omega⟩
section
variable {P : Program} {w : World} {K : PySem.W.Frag} {mg : Str → Option Value} {base : Heap}
def sp_law_shape (K : PySem.W.Frag) : Sp := fun vs H Q _ => ∃ (a : Addr) (dr : List Int) (i m : Nat), vs = [.ref a, .int i, .int m] ∧ SqL K H a (dr.map V.int) ∧ Dr dr ∧ i + 3 < dr.length ∧ m ≤ 1000000 ∧ ∀ sh : List Int, sh.length ≤ 3 → (∀ z ∈ sh, 0 ≤ z ∧ z ≤ m) → RetD K H Q (tupI sh)
theorem d_law_shape (T : Top K mg) : Def P w K mg base CX0 1 "_law_shape" ["draws", "at", "most"] (sp_law_shape K) := by
  refine T.f__law_shape.ok sc__law_shape (by rintro vs H Q E ⟨a, dr, i, m, rfl, _⟩; rfl) (fun f cdv A outer s H vs Q E hr h => ?_)
  obtain ⟨a, dr, i, m, rfl, ha, hd, hi, hm, q⟩ := h
  refine ⟨_, (pss_one (ps_ret (pe_callTy (r := rTupS K) call_tuple_of (by rfl) T.b_tuple (by decide +kernel) (pa_cons (pe_lc (own := [("k", 3)]) (g := (gName 3)) (tt := tYes) rfl sc__law_shape.nd (pi_range1 (by rfl) T.b_range (pa_cons (pe_ix (r := rIxL K) ix_list (pe_lst (pa_cons pe_int (pa_cons pe_int (pa_cons pe_int (pa_cons pe_int (pa_cons pe_int (pa_cons pe_int pa_nil))))))) (pe_op op_mod (pe_ix (r := rIxL K) ix_list (pv 0) (pv 1) (fun _ _ => rfl)) pe_int) (fun _ _ => rfl)) pa_nil)) (blkOk_by (N := N__law_shape) (sc := defScope s__law_shape) (by decide +kernel)) (fun _ _ _ _ _ => (pg_name (i := 3) sc__law_shape.nd rfl (Or.inl rfl))) (fun _ _ _ _ _ => pts_nil) (fun _ _ _ _ _ => (pe_op op_mod (pe_ix (r := rIxL K) ix_list (pv 0) (pe_op op_add (pe_op op_add (pv 1) pe_int) (pv 3)) (fun _ _ => rfl)) (pe_op op_add (pv 2) pe_int)))) pa_nil)))), ?_⟩
  have g0 := hd.gi (i := (i : Int)) (by omega) (by omega)
  walk_at "rd"
  refine r_newL (Own.nil H) (Nat.le_of_ble_eq_true rfl) fun p0 H0 o0 => ?_
  have ha0 : SqL K H0 a (dr.map V.int) := o0.old ha
  walk_at "rd"
  refine r_ixM (o0.sqL 0 rfl) (by omega) (show _ < (6 : Int) by omega) fun v hv _ => ?_
  obtain ⟨n, rfl, hn⟩ : ∃ n : Nat, v = .int n ∧ n ≤ 3 := by
    simp only [List.mem_cons, List.not_mem_nil, or_false] at hv
    rcases hv with rfl | rfl | rfl | rfl | rfl | rfl
    · exact ⟨1, rfl, by decide⟩
    · exact ⟨2, rfl, by decide⟩
    · exact ⟨1, rfl, by decide⟩
    · exact ⟨2, rfl, by decide⟩
    · exact ⟨0, rfl, by decide⟩
    · exact ⟨3, rfl, by decide⟩
  walk_at "rd"
  refine lcjR (K := K) (n := n) (fun k => some (.int (gi dr ((i : Int) + 1 + (k : Int)) % ((m : Int) + 1)))) o0 rfl (by omega) ?_ ?_
  · intro k p zs H' R hk o' s' r
    have hS : SqL K H' a (dr.map V.int) := o'.old ha
    refine r_name (r _ rfl (fun Qb k => k H' (Same.refl _)) fun d' H2 hd' s2 Qv qv => ?_)
    cases hd'
    have hS2 := same_seqL' s2 hS
    walk_at "rd"
    exact qv _ _ (Same.refl _) (.int _)
  intro p1 H1 zs s1 o1 t1
  rw [rfm_all] at t1
  have e := ints_invF t1
  subst e
  walk_at "rd"
  refine r_tupLs o1 (o1.sqL 0 rfl) fun t H2 s2 o2 h2 => ?_
  refine (q _ (by rw [List.length_map, List.length_range]; omega) fun z hz' => ?_).mk o2 (Tp.intsT h2)
  obtain ⟨k, hk, rfl⟩ := List.mem_map.mp hz'
  have m3 := Int.emod_nonneg (gi dr ((i : Int) + 1 + (k : Int))) (show (m : Int) + 1 ≠ 0 by omega)
  have m4 := Int.emod_lt_of_pos (gi dr ((i : Int) + 1 + (k : Int))) (show (0 : Int) < (m : Int) + 1 by omega)
  omega
def sp_law_all (K : PySem.W.Frag) : Sp := fun vs H Q _ => ∃ (a : Addr) (sh : List Int), vs = [.ref a] ∧ SqT K H a (sh.map V.int) ∧ sh.length ≤ 6 ∧ (∀ z ∈ sh, 0 ≤ z ∧ z ≤ 6) ∧ RetLD K H Q ((allIdx sh).map tupI)
theorem d_law_all (T : Top K mg) : Def P w K mg base CX0 1 "_law_all" ["shape"] (sp_law_all K) := by
  refine T.f__law_all.ok sc__law_all (by rintro vs H Q E ⟨a, sh, rfl, _⟩; rfl) (fun f cdv A outer s H vs Q E hr h => ?_)
  obtain ⟨a, sh, rfl, ha, hz, hb, q⟩ := h
  refine ⟨_, (pss_cons (ps_set (i := 1) sc__law_all.nd rfl (Or.inl rfl) (pe_lst (pa_cons (pe_tup pa_nil) pa_nil)))
      (pss_cons (ps_for PassesOwn.never rfl (pi_tup (pv 0)) (pg_name (i := 2) sc__law_all.nd rfl (Or.inl rfl)) (pss_cons (ps_set (i := 3) sc__law_all.nd rfl (Or.inl rfl) (pe_lst pa_nil))
      (pss_cons (ps_for PassesOwn.never rfl (pi_list (pv 1)) (pg_name (i := 4) sc__law_all.nd rfl (Or.inl rfl)) (pss_one (ps_for PassesOwn.never rfl (pi_range1 (by rfl) T.b_range (pa_cons (pv 2) pa_nil)) (pg_name (i := 5) sc__law_all.nd rfl (Or.inl rfl)) (pss_one (ps_expr (pe_bm PySem.F.plainAttrs_list PySem.F.slot_list_append PySem.F.type_list_append mt_append (pv 3) (pa_cons (pe_op (r := rCatA K) op_catA (pv 4) (pe_tup (pa_cons (pv 5) pa_nil))) pa_nil)))))))
      (pss_one (ps_set (i := 1) sc__law_all.nd rfl (Or.inl rfl) (pv 3))))))
      (pss_one (ps_ret (pv 1))))), ?_⟩
  walk_at "rd"
  refine r_newTs (K := K) (Own.nil H) (Nat.zero_le _) fun t0 H1 s1 o1 h1 => ?_
  walk_at "rd"
  refine r_newLs o1 (Nat.le_of_ble_eq_true rfl) fun p H2 s2 o2 => ?_
  walk_at "rd"
  have hwb : ∀ r ∈ wholeR sh, r.2.2 ≤ 6 := by
    intro r hr
    obtain ⟨z, hz, rfl⟩ := List.mem_map.mp hr
    exact (hb z hz).2
  have hwl : (wholeR sh).length = sh.length := List.length_map ..
  have hA := (s1.trans s2).sq ha
  refine forT hA (fun i σ' H' => ∃ (p : Addr) (zs : List V) (v2 v3 v4 v5 : Option V) (L : List (Addr × HO)), σ' = [some (.ref a), some (.ref p), v2, v3, v4, v5] ∧ TpAll K H' zs ((boxIdx ((wholeR sh).take i)).map tupI) ∧ Own H H' ((p, .lst zs) :: L) ∧ Stp H H') ?_ (fun i σ' H' _ ⟨_, _, _, _, _, _, _, _, _, _, s⟩ => s.sq ha) ?_ ?_
  · exact ⟨p, _, _, _, _, _, _, rfl, .cons (.tup (s2.sq h1) .nil) .nil, o2, s1.trans s2⟩
  · rintro i x σ' H' hx ⟨p, zs, v2, v3, v4, v5, L, rfl, tz, o, s'⟩
    obtain ⟨z, hz', rfl⟩ := int_atT hx
    have hzb := hb z (List.mem_of_getElem? hz')
    have hi : i < sh.length := (List.getElem?_eq_some_iff.mp hz').1
    have hr : (wholeR sh)[i]? = some (0, 1, z) := by
      unfold wholeR
      rw [List.getElem?_map, hz']
      rfl
    have hl1 := boxIdx_bnd hwb i (by omega)
    have hl2 := pow6 (i := i) (by omega)
    have hzl := tz.len
    rw [List.length_map] at hzl
    walk_at "rd"
    refine r_newLs o (Nat.zero_le _) fun pm H3 s3 o3 => ?_
    walk_at "rd"
    refine forL (o3.sqL 1 rfl) (fun j σ' H' => ∃ (zm : List V) (v4 v5 : Option V), σ' = [some (.ref a), some (.ref p), some (.int z), some (.ref pm), v4, v5] ∧ TpAll K H' zm ((stepB ((boxIdx ((wholeR sh).take i)).take j) (0, 1, z)).map tupI) ∧ Own H H' ((pm, .lst zm) :: (p, .lst zs) :: L) ∧ Stp H3 H') ?_ (fun j σ' H' _ ⟨_, _, _, _, _, o, _⟩ => o.sqL 1 rfl) ?_ ?_
    · exact ⟨_, _, _, rfl, .nil, o3, .refl _⟩
    · rintro j y σ' H4 hy ⟨zm, v4, v5, rfl, tm, o4, s4⟩
      obtain ⟨ix, a4, e4, rfl, ha4⟩ := pt_at ((tz.up s3).up s4) hy
      have hixl := boxIdx_mem i (by omega) ix (List.mem_of_getElem? e4)
      have hml := tm.len
      rw [List.length_map, stepB_len, List.length_take] at hml
      walk_at "rd"
      refine forR1 (n := z.toNat) (by omega) (by omega) (fun k σ' H' => ∃ (zm : List V) (v5 : Option V), σ' = [some (.ref a), some (.ref p), some (.int z), some (.ref pm), some (.ref a4), v5] ∧ TpAll K H' zm (((stepB ((boxIdx ((wholeR sh).take i)).take j) (0, 1, z)) ++ ((rowI (0, 1, z)).take k).map fun q => ix ++ [q]).map tupI) ∧ Own H H' ((pm, .lst zm) :: (p, .lst zs) :: L) ∧ Stp H4 H') ?_ ?_ ?_
      · exact ⟨zm, _, rfl, by simpa using tm, o4, .refl _⟩
      · rintro k σ' H5 hk ⟨zm', v5, rfl, tm', o5, s5⟩
        have hml' := tm'.len
        rw [List.length_map, List.length_append, stepB_len, List.length_map, List.length_take, List.length_take, rowI_len] at hml'
        have hml2 : zm'.length ≤ 6 * 46656 + 6 := by
          have e1 : min j (boxIdx ((wholeR sh).take i)).length * z.toNat ≤ 46656 * 6 := Nat.mul_le_mul (by omega) (by omega)
          have e2 : min k z.toNat ≤ 6 := by omega
          have e3 : zm'.length = min j (boxIdx ((wholeR sh).take i)).length * z.toNat + min k z.toNat := hml'
          omega
        walk_at "rd"
        refine r_newTi (K := K) [(k : Int)] rfl o5 (Nat.le_of_ble_eq_true rfl) fun t6 H6 s6 o6 h6 => ?_
        walk_at "rd"
        refine r_catA (K := K) o6 ((s5.trans s6).sq ha4) h6 (by simp only [List.length_map, List.length_cons, List.length_nil]; omega) fun t7 H7 s7 o7 h7 => ?_
        walk_at "rd"
        refine r_apps o7 0 rfl (by omega) fun H8 s8 o8 => ?_
        walk_at "rd"
        refine ⟨_, _, rfl, ?_, o8, ((s5.trans s6).trans s7).trans s8⟩
        rw [show ∀ X : List (List Int), X ++ ((rowI (0, 1, z)).take (k + 1)).map (fun q => ix ++ [q]) = (X ++ ((rowI (0, 1, z)).take k).map (fun q => ix ++ [q])) ++ [ix ++ [0 + 1 * (k : Int)]] from fun X => by rw [rowI_take (r := (0, 1, z)) (show k < z.toNat from hk), List.map_append, List.append_assoc]; rfl, List.map_append]
        refine (((tm'.up s6).up s7).up s8).snoc ?_
        rw [← List.map_append] at h7
        have e : ix ++ [0 + 1 * (k : Int)] = ix ++ [(k : Int)] := by rw [Int.one_mul, Int.zero_add]
        show Tp K H8 _ (tupI (ix ++ [0 + 1 * (k : Int)]))
        rw [e]
        exact Tp.intsT (s8.sq h7)
      · rintro σ' H5 ⟨zm', v5, rfl, tm', o5, s5⟩
        refine ⟨zm', _, _, rfl, ?_, o5, s4.trans s5⟩
        rw [stepB_take e4]
        rw [List.take_of_length_le (l := rowI (0, 1, z)) (by rw [rowI_len]; exact Nat.le_refl _)] at tm'
        exact tm'
    · rintro σ' H4 ⟨zm, v4, v5, rfl, tm, o4, s4⟩
      walk_at "rd"
      refine ⟨pm, zm, _, _, _, _, _, rfl, ?_, o4, (s'.trans s3).trans s4⟩
      rw [boxIdx_take hr]
      rw [List.take_of_length_le (show (boxIdx ((wholeR sh).take i)).length ≤ zs.length by omega)] at tm
      exact tm
  · rintro σ' H' ⟨p, zs, v2, v3, v4, v5, L, rfl, tz, o, s'⟩
    walk_at "rd"
    rw [List.length_map, ← hwl, List.take_length] at tz
    exact q H' p zs o.ex (o.fresh 0 rfl) (o.at 0 rfl) tz
end

/-! ### a for over zip of two -/
section
variable {σ : L2.St} {H : Hp} {D : Ends} {ts : TS} {g : TG} {K : PySem.W.Frag}
theorem forZ {k1 k2 : Bool} {a b : Addr} {xs ys : List V} {n : Nat} (hn : n = min xs.length ys.length) (Pv : Nat → L2.St → Hp → Prop) (h0 : Pv 0 σ H) (h1 : SqK K k1 H a xs) (h2 : SqK K k2 H b ys)
    (hq : ∀ i σ H, i ≤ n → Pv i σ H → SqK K k1 H a xs ∧ SqK K k2 H b ys)
    (hs : ∀ i x y T σ H H', xs[i]? = some x → ys[i]? = some y → Pv i σ H → Same H H' → SqT K H' T [x, y] → g (.ref T) σ H' fun σ2 H2 => ts { D with nx := Pv (i + 1), ct := Pv (i + 1), bk := D.nx } σ2 H2)
    (hd : ∀ σ H, Pv n σ H → D.nx σ H) : RZ2 K k1 k2 [.ref a, .ref b] H fun J H1 => RFor J g ts D σ H1 := by
  refine ⟨a, b, xs, ys, rfl, h1, h2, fun i m σ H => m = n - i ∧ i ≤ n ∧ Pv i σ H, ⟨n, rfl, Nat.zero_le _, h0⟩, ?_⟩
  rintro i m σ H ⟨rfl, hi, p⟩
  obtain ⟨q1, q2⟩ := hq i σ H hi p
  by_cases hlt : i < n
  · refine .inr ⟨⟨xs, ys, q1, q2, by omega, by omega⟩, Pv (i + 1), fun σ' H' p' => ⟨n - (i + 1), by omega, rfl, hlt, p'⟩, fun x H' hy => ?_⟩
    obtain ⟨T, u, v, rfl, hT, rfl, f1, f2⟩ := hy
    exact hs i u v T σ H _ (f1 xs q1) (f2 ys q2) p (same_new hT) (SqT.of upd_same)
  · have e : i = n := by omega
    subst e
    exact .inl ⟨⟨xs, ys, q1, q2, by omega, by omega, by omega⟩, hd _ _ p⟩
end

/-! ### ranks -/
def rankI (sh ix : List Int) : Int := (sh.zip ix).foldl (fun a p => a * p.1 + p.2) 0
theorem rankI_take {sh ix : List Int} {i : Nat} {x y : Int} (hx : sh[i]? = some x) (hy : ix[i]? = some y) : ((sh.zip ix).take (i + 1)).foldl (fun (a : Int) p => a * p.1 + p.2) 0 = ((sh.zip ix).take i).foldl (fun (a : Int) p => a * p.1 + p.2) 0 * x + y := by
  rw [List.take_add_one, zip_get hx hy, List.foldl_append]
  rfl
def okSize (z : Int) : Bool := decide (0 ≤ z ∧ z ≤ 1000000000)
def isShape (ns : List Int) : Bool := decide (ns.length ≤ 4) && ns.all okSize
section
variable {P : Program} {w : World} {K : PySem.W.Frag} {mg : Str → Option Value} {base : Heap}
def sp_is_shape (K : PySem.W.Frag) : Sp := fun vs H Q _ => ∃ (a : Addr) (ns : List Int), vs = [.ref a] ∧ SqT K H a (ns.map V.int) ∧ ns.length ≤ 1000 ∧ RetV H Q (.bl (isShape ns))
theorem d_is_shape (T : Top K mg) : Def P w K mg base CX0 1 "is_shape" ["shape"] (sp_is_shape K) := by
  obtain ⟨t1, g_MOST_DIMENSIONS⟩ := T.g_MOST_DIMENSIONS
  obtain ⟨t2, g_GREATEST_SIZE⟩ := T.g_GREATEST_SIZE
  refine T.f_is_shape.ok sc_is_shape (by rintro vs H Q E ⟨a, ns, rfl, _⟩; rfl) (fun f cdv A outer s H vs Q E hr h => ?_)
  obtain ⟨a, ns, rfl, hS, hz, q⟩ := h
  refine ⟨_, (pss_one (ps_ret (pe_and (pe_cmpR op_le (pe_callB (r := Evl.rLenS K) call_len_seq (by rfl) T.b_len (by decide +kernel) (pa_cons (pv 0) pa_nil)) (pe_glob (v := .int 4) rfl g_MOST_DIMENSIONS ⟨_, rfl⟩) (nomark _)) (pe_one (pe_callB (r := rAll K) (cr_all rfl) (by rfl) T.b_all (by decide +kernel) (pa_cons (pe_lc (own := [("size", 1)]) (g := (gName 1)) (tt := tYes) rfl sc_is_shape.nd (pi_tup (pv 0)) (blkOk_by (N := N_is_shape) (sc := defScope s_is_shape) (by decide +kernel)) (fun _ _ _ _ _ => (pg_name (i := 1) sc_is_shape.nd rfl (Or.inl rfl))) (fun _ _ _ _ _ => pts_nil) (fun _ _ _ _ _ => (pe_chain op_le op_le pe_int (pv 1) (pe_glob (v := .int 1000000000) rfl g_GREATEST_SIZE ⟨_, rfl⟩)))) pa_nil)))))), ?_⟩
  walk_at "rd"
  refine rif (fun h => ?_) fun h => ?_
  · walk_at "rd"
    refine lcTIV (fun x => .bl (okSize x)) (Own.nil H) (fun H' p zs o' => o'.oldT hS) hS (by omega) (fun x => rfl) ?_ fun p2 H2 o2 => ?_
    · intro x p zs H' Q' hx o' q'
      walk_at "rd"
      refine rif (fun h1 => ?_) fun h1 => ?_
      · walk_at "rd"
        have e : okSize x = decide (x ≤ 1000000000) := by unfold okSize; simp [h1]
        rw [← e]
        exact q'.here
      · walk_at "rd"
        have e : okSize x = false := by unfold okSize; simp [h1]
        rw [e] at q'
        exact q'.here
    · walk_at "rd"
      have e : ns.map (fun x => V.bl (okSize x)) = (ns.map okSize).map V.bl := by rw [List.map_map]; rfl
      rw [e] at o2
      refine r_all (o2.sqL 0 rfl) ?_
      have e2 : isShape ns = (ns.map okSize).all id := by
        unfold isShape
        rw [List.length_map] at h
        rw [decide_eq_true (show ns.length ≤ 4 by omega), Bool.true_and, List.all_map]
        rfl
      rw [← e2]
      exact q.mk o2
  · walk_at "rd"
    have e : isShape ns = false := by
      unfold isShape
      rw [List.length_map] at h
      rw [decide_eq_false (show ¬ ns.length ≤ 4 by omega), Bool.false_and]
    rw [e] at q
    exact q.here
def sp_count (K : PySem.W.Frag) : Sp := fun vs H Q _ => ∃ (a : Addr) (ns : List Int), vs = [.ref a] ∧ SqT K H a (ns.map V.int) ∧ (∀ x ∈ ns, -(2 ^ 60) ≤ x ∧ x ≤ 2 ^ 60) ∧ Q (.int (prodL ns)) H
theorem d_element_count (T : Top K mg) : Def P w K mg base CX0 1 "element_count" ["shape"] (sp_count K) := by
  refine T.f_element_count.ok sc_element_count (by rintro vs H Q E ⟨a, ns, rfl, _⟩; rfl) (fun f cdv A outer s H vs Q E hr h => ?_)
  obtain ⟨a, ns, rfl, hS, hok, q⟩ := h
  refine ⟨_, (pss_cons (ps_set (i := 1) sc_element_count.nd rfl (Or.inl rfl) pe_int)
      (pss_cons (ps_for PassesOwn.never rfl (pi_tup (pv 0)) (pg_name (i := 2) sc_element_count.nd rfl (Or.inl rfl)) (pss_one (ps_set (i := 1) sc_element_count.nd rfl (Or.inl rfl) (pe_op op_mul (pv 1) (pv 2)))))
      (pss_one (ps_ret (pv 1))))), ?_⟩
  walk_at "rd"
  refine forT hS (fun i σ' H' => H' = H ∧ ∃ v, σ' = [some (.ref a), some (.int (prodL (ns.take i))), v]) ⟨rfl, _, rfl⟩ (fun i σ' H' _ ⟨e, _⟩ => by rw [e]; exact hS) ?_ ?_
  · rintro i v σ' H' hi ⟨rfl, v2, rfl⟩
    obtain ⟨x, hx, rfl⟩ := int_atT hi
    have hx0 := hok x (List.mem_of_getElem? hx)
    walk_at "rd"
    refine ⟨rfl, some (.int x), ?_⟩
    rw [prodL_take hx]
    rfl
  · rintro σ' H' ⟨rfl, v2, rfl⟩
    walk_at "rd"
    rw [List.length_map, List.take_length]
    exact q
def sp_rank (K : PySem.W.Frag) : Sp := fun vs H Q _ => ∃ (a b : Addr) (sh ix : List Int), vs = [.ref a, .ref b] ∧ SqT K H a (sh.map V.int) ∧ SqT K H b (ix.map V.int) ∧ (∀ x ∈ sh, -(2 ^ 60) ≤ x ∧ x ≤ 2 ^ 60) ∧ RetV H Q (.int (rankI sh ix))
theorem d_rank_of (T : Top K mg) : Def P w K mg base CX0 1 "rank_of" ["shape", "index"] (sp_rank K) := by
  refine T.f_rank_of.ok sc_rank_of (by rintro vs H Q E ⟨a, b, sh, ix, rfl, _⟩; rfl) (fun f cdv A outer s H vs Q E hr h => ?_)
  obtain ⟨a, b, sh, ix, rfl, ha, hb, hok, q⟩ := h
  refine ⟨_, (pss_cons (ps_set (i := 2) sc_rank_of.nd rfl (Or.inl rfl) pe_int)
      (pss_cons (ps_for PassesOwn.never rfl (pi_zip2 (k1 := true) (k2 := true) (by rfl) T.b_zip (pa_cons (pv 0) (pa_cons (pv 1) pa_nil))) (pg_tup (n := 2) rfl (pgs_cons (pg_name (i := 3) sc_rank_of.nd rfl (Or.inl rfl)) (pgs_cons (pg_name (i := 4) sc_rank_of.nd rfl (Or.inl rfl)) pgs_nil))) (pss_one (ps_set (i := 2) sc_rank_of.nd rfl (Or.inl rfl) (pe_op op_add (pe_op op_mul (pv 2) (pv 3)) (pv 4)))))
      (pss_one (ps_ret (pv 2))))), ?_⟩
  walk_at "rd"
  refine forZ (n := (sh.zip ix).length) (xs := sh.map V.int) (ys := ix.map V.int) (by rw [List.length_zip, List.length_map, List.length_map]) (fun i σ' H' => ∃ v3 v4, σ' = [some (.ref a), some (.ref b), some (.int (((sh.zip ix).take i).foldl (fun (a : Int) p => a * p.1 + p.2) 0)), v3, v4] ∧ Own H H' []) ⟨_, _, rfl, Own.nil H⟩ ha hb (fun i σ' H' _ ⟨_, _, _, o⟩ => ⟨o.oldT ha, o.oldT hb⟩) ?_ ?_
  · rintro i x y U σ' H' H2 hx hy ⟨v3, v4, rfl, o⟩ s hU
    obtain ⟨x, hx', rfl⟩ := int_atT hx
    obtain ⟨y, hy', rfl⟩ := int_atT hy
    have hx0 := hok x (List.mem_of_getElem? hx')
    refine r_gTup2 hU ?_
    walk_at "rd"
    refine ⟨some (.int x), some (.int y), ?_, o.mono s⟩
    rw [rankI_take hx' hy']
    rfl
  · rintro σ' H' ⟨v3, v4, rfl, o⟩
    walk_at "rd"
    rw [List.take_length]
    exact q.mk o
end

section
variable {P : Program} {w : World} {K : PySem.W.Frag} {mg : Str → Option Value} {base : Heap}
def tri (r : Int × Int) : PyData := .tuple ([r.1, 1, r.2].map PyData.int)
def boxD (rs : List (Int × Int)) : PyData := .tuple [.str (PySem.Str.ofString "box"), .tuple (rs.map tri)]
def mx (i j : Int) : Int := if j > i then j else i
def mn (i j : Int) : Int := if j < i then j else i
def meetR (x y : Int × Int) : Option (Int × Int) := if mx x.1 y.1 < mn (x.1 + x.2) (y.1 + y.2) then some (mx x.1 y.1, mn (x.1 + x.2) (y.1 + y.2) - mx x.1 y.1) else none
def meetAll (ps : List ((Int × Int) × (Int × Int))) : Option (List (Int × Int)) := ps.foldl (fun acc p => match acc, meetR p.1 p.2 with | some l, some r => some (l ++ [r]) | _, _ => none) (some [])
theorem meet_fold_none : ∀ ps : List ((Int × Int) × (Int × Int)), ps.foldl (fun acc p => match acc, meetR p.1 p.2 with | some l, some r => some (l ++ [r]) | _, _ => none) (none : Option (List (Int × Int))) = none
  | [] => rfl
  | p :: ps => by
    rw [List.foldl_cons]
    exact meet_fold_none ps
theorem meet_none {ps : List ((Int × Int) × (Int × Int))} {k : Nat} (h : meetAll (ps.take k) = none) : meetAll ps = none := by
  have e : ps = ps.take k ++ ps.drop k := (List.take_append_drop k ps).symm
  rw [e]
  unfold meetAll at h ⊢
  rw [List.foldl_append, h]
  exact meet_fold_none _
theorem mx_comm (i j : Int) : mx i j = mx j i := by unfold mx; split <;> split <;> omega
theorem mn_comm (i j : Int) : mn i j = mn j i := by unfold mn; split <;> split <;> omega
theorem meetR_swap (x y : Int × Int) : meetR y x = meetR x y := by unfold meetR; rw [mx_comm y.1, mn_comm (y.1 + y.2)]
theorem meet_swap (ps : List ((Int × Int) × (Int × Int))) : meetAll (ps.map Prod.swap) = meetAll ps := by
  unfold meetAll
  rw [List.foldl_map]
  congr 1
  funext acc p
  show (match acc, meetR p.2 p.1 with | some l, some r => some (l ++ [r]) | _, _ => none) = _
  rw [meetR_swap]
theorem box_inv {H : Hp} {v : V} {rs : List (Int × Int)} (h : Tp K H v (boxD rs)) : ∃ b c ws, v = .ref b ∧ SqT K H b [.str (PySem.Str.ofString "box"), .ref c] ∧ SqT K H c ws ∧ TpAll K H ws (rs.map tri) := by
  obtain ⟨b, xs, rfl, hb, ha⟩ := h.inv
  cases ha with
  | cons h1 h2 =>
    cases h2 with
    | cons h3 h4 =>
      cases h4
      cases h1
      obtain ⟨c, ws, rfl, hc, hw⟩ := h3.inv
      exact ⟨b, c, ws, rfl, hb, hc, hw⟩
def sp_meeting (K : PySem.W.Frag) : Sp := fun vs H Q _ => ∃ (u v : V) (ps : List ((Int × Int) × (Int × Int))), vs = [u, v] ∧ Tp K H u (boxD (ps.map (·.1))) ∧ Tp K H v (boxD (ps.map (·.2))) ∧ ps.length ≤ 1000 ∧
  (meetAll ps = none → RetV H Q .non) ∧ (∀ rs, meetAll ps = some rs → RetD K H Q (boxD rs))
theorem d_meeting (T : Top K mg) : Def P w K mg base CX0 1 "meeting" ["first", "second"] (sp_meeting K) := by
  refine T.f_meeting.ok sc_meeting (by rintro vs H Q E ⟨a, b, ps, rfl, _⟩; rfl) (fun f cdv A outer s H vs Q E hr h => ?_)
  obtain ⟨u, v, ps, rfl, hu, hv, hz, qn, qs⟩ := h
  refine ⟨_, (pss_cons (ps_set (i := 2) sc_meeting.nd rfl (Or.inl rfl) (pe_lst pa_nil))
      (pss_cons (ps_for PassesOwn.never rfl (pi_zip2 (k1 := true) (k2 := true) (by rfl) T.b_zip (pa_cons (pe_ix (r := rIxT K) ix_tup (pv 0) pe_int (fun _ _ => rfl)) (pa_cons (pe_ix (r := rIxT K) ix_tup (pv 1) pe_int (fun _ _ => rfl)) pa_nil))) (pg_tup (n := 2) rfl (pgs_cons (pg_name (i := 3) sc_meeting.nd rfl (Or.inl rfl)) (pgs_cons (pg_name (i := 4) sc_meeting.nd rfl (Or.inl rfl)) pgs_nil))) (pss_cons (ps_set (i := 5) sc_meeting.nd rfl (Or.inl rfl) (pe_callB (r := rMax2) (call_max2 rfl) (by rfl) T.b_max (by decide +kernel) (pa_cons (pe_ix (r := rIxT K) ix_tup (pv 3) pe_int (fun _ _ => rfl)) (pa_cons (pe_ix (r := rIxT K) ix_tup (pv 4) pe_int (fun _ _ => rfl)) pa_nil))))
      (pss_cons (ps_set (i := 6) sc_meeting.nd rfl (Or.inl rfl) (pe_callB (r := rMin2) (call_min2 rfl) (by rfl) T.b_min (by decide +kernel) (pa_cons (pe_op op_add (pe_ix (r := rIxT K) ix_tup (pv 3) pe_int (fun _ _ => rfl)) (pe_ix (r := rIxT K) ix_tup (pv 3) pe_int (fun _ _ => rfl))) (pa_cons (pe_op op_add (pe_ix (r := rIxT K) ix_tup (pv 4) pe_int (fun _ _ => rfl)) (pe_ix (r := rIxT K) ix_tup (pv 4) pe_int (fun _ _ => rfl))) pa_nil))))
      (pss_cons (ps_if (pt_cmpR op_ge (pv 5) (pv 6) (nomark _)) (pss_one (ps_ret pe_non)) pss_nil)
      (pss_one (ps_expr (pe_bm PySem.F.plainAttrs_list PySem.F.slot_list_append PySem.F.type_list_append mt_append (pv 2) (pa_cons (pe_tup (pa_cons (pv 5) (pa_cons pe_int (pa_cons (pe_op op_sub (pv 6) (pv 5)) pa_nil)))) pa_nil))))))))
      (pss_one (ps_ret (pe_tup (pa_cons pe_str (pa_cons (pe_callTy (r := rTupS K) call_tuple_of (by rfl) T.b_tuple (by decide +kernel) (pa_cons (pv 2) pa_nil)) pa_nil))))))), ?_⟩
  walk_at "rd"
  refine r_newLs (Own.nil H) (Nat.zero_le _) fun p1 H1 s1 o1 => ?_
  walk_at "rd"
  refine r_ixTp (i := 1) (hu.up s1) rfl fun u1 tu => ?_
  walk_at "rd"
  refine r_ixTp (i := 1) (hv.up s1) rfl fun v1 tv => ?_
  walk_at "rd"
  obtain ⟨a, xs, rfl, hsa, hta⟩ := tu.inv
  obtain ⟨b, ys, rfl, hsb, htb⟩ := tv.inv
  have hlx : xs.length = ps.length := by rw [hta.len, List.length_map, List.length_map]
  have hly : ys.length = ps.length := by rw [htb.len, List.length_map, List.length_map]
  refine forZ (n := ps.length) (xs := xs) (ys := ys) (by omega) (fun i σ' H' => ∃ (zs : List V) (rs : List (Int × Int)) (v3 v4 v5 v6 : Option V), σ' = [some u, some v, some (.ref p1), v3, v4, v5, v6] ∧ meetAll (ps.take i) = some rs ∧ rs.length ≤ i ∧ TpAll K H' zs (rs.map tri) ∧ Stp H1 H' ∧ Own H H' [(p1, .lst zs)])
    ⟨[], [], _, _, _, _, rfl, rfl, Nat.zero_le _, .nil, .refl _, o1⟩ hsa hsb (fun i σ' H' _ ⟨_, _, _, _, _, _, _, _, _, _, s2, _⟩ => ⟨s2.sq hsa, s2.sq hsb⟩) ?_ ?_
  · rintro i x y T σ' H' H4 hx hy ⟨zs, rs, v3, v4, v5, v6, rfl, hm, hrl, hzs, s2, o⟩ sm hq
    have hi : i < ps.length := by have := (List.getElem?_eq_some_iff.mp hx).1; omega
    have hp : ps[i]? = some ps[i] := List.getElem?_eq_getElem hi
    obtain ⟨d, hd, tx⟩ := hta.getV hx
    obtain ⟨e, he, ty⟩ := htb.getV hy
    rw [List.getElem?_map, List.getElem?_map, hp] at hd he
    cases hd
    cases he
    generalize hP : ps[i] = P at *
    have s3 : Stp H' H4 := .of sm
    have o3 := o.mono sm
    obtain ⟨ax, rfl, hax⟩ := (tx.up (s2.trans s3)).invI
    obtain ⟨ay, rfl, hay⟩ := (ty.up (s2.trans s3)).invI
    refine r_gTup2 hq ?_
    have h4 := hzs.up s3
    have hmm : meetAll (ps.take (i + 1)) = match meetR P.1 P.2 with | some r => some (rs ++ [r]) | none => none := by
      unfold meetAll at hm ⊢
      rw [List.take_add_one, hp, List.foldl_append, hm]
      show (match some rs, meetR P.1 P.2 with | some l, some r => some (l ++ [r]) | _, _ => none) = _
      cases meetR P.1 P.2 <;> rfl
    walk_at "rd"
    refine rif (fun hc => ?_) fun hc => ?_
    · have hc2 : mn (P.1.1 + P.1.2) (P.2.1 + P.2.2) ≤ mx P.1.1 P.2.1 := hc
      have hn : meetAll ps = none := by
        have e1 : meetR P.1 P.2 = none := by unfold meetR; rw [if_neg (by omega)]
        rw [e1] at hmm
        exact meet_none hmm
      walk_at "rd"
      exact (qn hn).mk o3
    · have hc2 : mx P.1.1 P.2.1 < mn (P.1.1 + P.1.2) (P.2.1 + P.2.2) := by
        have : ¬ mn (P.1.1 + P.1.2) (P.2.1 + P.2.2) ≤ mx P.1.1 P.2.1 := hc
        omega
      walk_at "rd"
      refine r_newTp (K := K) (ds := ([mx P.1.1 P.2.1, 1, mn (P.1.1 + P.1.2) (P.2.1 + P.2.2) - mx P.1.1 P.2.1] : List Int).map PyData.int) o3 (TpAll.ints [_, 1, _]) (Nat.le_of_ble_eq_true rfl) fun t H5 s5 o5 ht => ?_
      walk_at "rd"
      refine r_apps o5 0 rfl ?_ fun H6 s6 o6 => ?_
      · have := h4.len
        rw [List.length_map] at this
        omega
      have e1 : meetR P.1 P.2 = some (mx P.1.1 P.2.1, mn (P.1.1 + P.1.2) (P.2.1 + P.2.2) - mx P.1.1 P.2.1) := by unfold meetR; rw [if_pos hc2]
      rw [e1] at hmm
      refine ⟨_, _, _, _, _, _, rfl, hmm, by rw [List.length_append]; simp; omega, ?_, ((s2.trans s3).trans s5).trans s6, o6⟩
      rw [List.map_append]
      exact ((h4.up s5).up s6).snoc (ht.up s6)
  · rintro σ' H' ⟨zs, rs, v3, v4, v5, v6, rfl, hm, hrl, hzs, s2, o⟩
    rw [List.take_length] at hm
    walk_at "rd"
    refine r_tupLs o (o.sqL 0 rfl) fun t H5 s5 o5 ht => ?_
    walk_at "rd"
    have t2 : Tp K H5 (.ref t) (.tuple (rs.map tri)) := .tup ht (hzs.up s5)
    refine r_newTp (ds := [.str (PySem.Str.ofString "box"), .tuple (rs.map tri)]) o5 (.cons (.str _) (.cons t2 .nil)) (Nat.le_of_ble_eq_true rfl) fun t3 H6 s6 o6 ht3 => ?_
    exact (qs rs hm).mk o6 ht3
end

/-! ### plain arrays -/
theorem pe_fldK {X : Cx} {K : PySem.W.Frag} {e : Expr} {f : Str} {pos : Pos} {ta : TE} (hK : X.K = K) (he : PE X e ta) (hb : attributeBase e f X.env (eval e X.env) = eval e X.env) : PE X (.Attribute e f pos) (tFld K ta f) := by
  subst hK
  exact pe_fld he hb
theorem ixN_nat {n k : Nat} (h : k < n) : ixN n (k : Int) = some k := by
  unfold ixN
  simp [h]
/-- an object of the base, taken out -/
def delH (H : Hp) (l : Addr) : Hp := fun b => if b = l then none else H b
theorem delH_ne {H : Hp} {l b : Addr} (h : b ≠ l) : delH H l b = H b := if_neg h
theorem delH_same {H : Hp} {l : Addr} : delH H l l = none := if_pos rfl
theorem take_l {H : Hp} {l : Addr} {u : HO} (h : H l = some u) : Own (delH H l) H [(l, u)] := by
  refine ⟨fun b x e => ?_, fun x hx => ?_, by simp⟩
  · by_cases hb : b = l
    · subst hb
      rw [delH_same] at e
      cases e
    · rw [delH_ne hb] at e
      exact e
  · rw [List.mem_singleton.mp hx]
    exact ⟨delH_same, h⟩
theorem stp_frame {H H' : Hp} {p : Addr} {C dx : Addr} {fs : List (Str × V)} (hp : H p = some (.ins C dx fs)) (h : ∀ b u, b ≠ p → H b = some u → H' b = some u) : Stp H H' := fun a xs r => by
  have hne : a ≠ p := by
    rintro rfl
    rcases r with r | ⟨o, r⟩ <;> rw [hp] at r <;> cases r
  rcases r with r | ⟨o, r⟩
  · exact .inl (h _ _ hne r)
  · exact .inr ⟨o, h _ _ hne r⟩
theorem stp_frameL {H H' : Hp} {p : Addr} {xs : List V} (hp : H p = some (.lst xs)) (h : ∀ b u, b ≠ p → H b = some u → H' b = some u) : Stp H H' := fun a xs r => by
  have hne : a ≠ p := by
    rintro rfl
    rcases r with r | ⟨o, r⟩ <;> rw [hp] at r <;> cases r
  rcases r with r | ⟨o, r⟩
  · exact .inl (h _ _ hne r)
  · exact .inr ⟨o, h _ _ hne r⟩
theorem r_exts {H H0 : Hp} {Q : VK} {L : List (Addr × HO)} {l b : Addr} {xs zs : List V} (o : Own H0 H L) (n m : Nat) (h : L[n]? = some (l, .lst xs)) (h2 : L[m]? = some (b, .lst zs)) (hz : xs.length + zs.length ≤ 10000000) (k : ∀ H', Stp H H' → Own H0 H' (L.set n (l, .lst (xs ++ zs))) → Q .non H') : rExtend (.ref l) [.ref b] H Q :=
  ⟨l, b, xs, zs, rfl, rfl, o.at n h, o.at m h2, sz100 hz, k _ (Stp.set (o.at n h)) (o.set n h)⟩
/-- one more object of the base taken out -/
theorem _root_.RD.Own.take {H0 H : Hp} {L : List (Addr × HO)} {l : Addr} {u : HO} (o : Own H0 H L) (h : H0 l = some u) : Own (delH H0 l) H ((l, u) :: L) := by
  refine ⟨fun b x e => ?_, fun x hx => ?_, ?_⟩
  · by_cases hb : b = l
    · subst hb
      rw [delH_same] at e
      cases e
    · rw [delH_ne hb] at e
      exact o.ex _ _ e
  · rcases List.mem_cons.mp hx with rfl | hx
    · exact ⟨delH_same, o.ex _ _ h⟩
    · refine ⟨?_, (o.fr x hx).2⟩
      by_cases hb : x.1 = l
      · rw [hb]; exact delH_same
      · rw [delH_ne hb]; exact (o.fr x hx).1
  · rw [List.map_cons, List.nodup_cons]
    refine ⟨fun hm => ?_, o.nd⟩
    obtain ⟨x, hx, e⟩ := List.mem_map.mp hm
    have := (o.fr x hx).1
    rw [e, h] at this
    cases this
/-- a new object beside one that is changed -/
theorem Own.addF {H0 H H' : Hp} {L L' : List (Addr × HO)} {l : Addr} {z : HO} (o : Own H0 H L) (o' : Own H0 H' L') (e : L'.map (·.1) = L.map (·.1)) (hl : H l = none) (hz : H' l = some z) : Own H0 H' ((l, z) :: L') := by
  refine ⟨o'.ex, fun x hx => ?_, ?_⟩
  · rcases List.mem_cons.mp hx with rfl | hx
    · exact ⟨o.ex.free hl, hz⟩
    · exact o'.fr x hx
  · rw [List.map_cons, List.nodup_cons]
    refine ⟨fun hm => ?_, o'.nd⟩
    rw [e] at hm
    obtain ⟨x, hx, e1⟩ := List.mem_map.mp hm
    have h2 := (o.fr x hx).2
    have e2 : x.1 = l := e1
    rw [e2, hl] at h2
    cases h2
/-- some of the objects, in another order -/
theorem _root_.RD.Own.pick {H0 H : Hp} {L : List (Addr × HO)} (o : Own H0 H L) (is : List Nat) (hn : is.Nodup) : Own H0 H (is.filterMap fun i => L[i]?) := by
  refine ⟨o.ex, fun x hx => ?_, ?_⟩
  · obtain ⟨i, _, hi⟩ := List.mem_filterMap.mp hx
    exact o.fr x (List.mem_of_getElem? hi)
  · induction is with
    | nil => exact List.nodup_nil
    | cons i is ih =>
      rw [List.nodup_cons] at hn
      rw [List.filterMap_cons]
      cases e : L[i]? with
      | none => exact ih hn.2
      | some x =>
        show (x.1 :: (is.filterMap fun i => L[i]?).map (·.1)).Nodup
        rw [List.nodup_cons]
        refine ⟨fun hm => ?_, ih hn.2⟩
        obtain ⟨z, hz, ez⟩ := List.mem_map.mp hm
        obtain ⟨j, hj, hj2⟩ := List.mem_filterMap.mp hz
        have hij : i = j := by
          obtain ⟨x1, x2⟩ := x
          obtain ⟨z1, z2⟩ := z
          have ez : z1 = x1 := ez
          subst ez
          exact nodup_fst o.nd e hj2
        rw [hij] at hn
        exact hn.1 hj
/-- two objects are changed -/
theorem _root_.RD.Own.chg2 {H0 H H' : Hp} {L : List (Addr × HO)} {l m : Addr} {u v u' v' : HO} (o : Own H0 H L) (i j : Nat) (hi : L[i]? = some (l, u)) (hj : L[j]? = some (m, v)) (hij : i ≠ j) (e : ∀ b x, b ≠ l → b ≠ m → H b = some x → H' b = some x) (hl : H' l = some u') (hm : H' m = some v') : Own H0 H' ((L.set i (l, u')).set j (m, v')) := by
  have hne : l ≠ m := o.ne hi hj hij
  have o1 := o.set (v := u') i hi
  refine o1.chg (u := v) j ?_ (fun b x hb h => ?_) hm
  · rw [List.getElem?_set_ne hij]; exact hj
  · by_cases hbl : b = l
    · subst hbl
      rw [upd_same] at h
      cases h
      exact hl
    · rw [upd_ne hbl] at h
      exact e b x hbl hb h
/-- what is no tuple may change -/
def NoTup (H : Hp) (p : Addr) : Prop := ∀ xs, ¬ Rd H p (.tup xs)
theorem noTup_l {H : Hp} {p : Addr} {xs : List V} (h : H p = some (.lst xs)) : NoTup H p := fun ys r => by rcases r with r | ⟨o, r⟩ <;> rw [h] at r <;> cases r
theorem noTup_i {H : Hp} {p C dx : Addr} {fs : List (Str × V)} (h : H p = some (.ins C dx fs)) : NoTup H p := fun ys r => by rcases r with r | ⟨o, r⟩ <;> rw [h] at r <;> cases r
theorem stp_frame2 {H H' : Hp} {p q : Addr} (hp : NoTup H p) (hq : NoTup H q) (h : ∀ b u, b ≠ p → b ≠ q → H b = some u → H' b = some u) : Stp H H' := fun a xs r => by
  have h1 : a ≠ p := fun e => hp xs (e ▸ r)
  have h2 : a ≠ q := fun e => hq xs (e ▸ r)
  rcases r with r | ⟨o, r⟩
  · exact .inl (h _ _ h1 h2 r)
  · exact .inr ⟨o, h _ _ h1 h2 r⟩

/-- the values put at their places -/
def putL (cells : List Int) (ps : List (Int × Int)) : List Int := ps.foldl (fun c p => c.set p.1.toNat p.2) cells
def putAll (cells : List Int) (ks vals : List Int) : List Int := putL cells (ks.zip vals)
theorem putL_len : ∀ (ps : List (Int × Int)) (cells : List Int), (putL cells ps).length = cells.length
  | [], _ => rfl
  | p :: ps, cells => (putL_len ps (cells.set p.1.toNat p.2)).trans (List.length_set ..)
theorem putL_take {ps : List (Int × Int)} {cells : List Int} {i : Nat} {k y : Int} (h : ps[i]? = some (k, y)) : putL cells (ps.take (i + 1)) = (putL cells (ps.take i)).set k.toNat y := by
  unfold putL
  rw [List.take_add_one, h, List.foldl_append]
  rfl
section
variable {P : Program} {w : World} {K : PySem.W.Frag} {mg : Str → Option Value} {base : Heap}
/-- the fields of a plain array -/
def paF (sh : V) (fl hd : V) : List (Str × V) := putF "_held" hd (putF "fill" fl (putF "shape" sh []))
def sp_paall (K : PySem.W.Frag) (C : Addr) : Sp := fun vs H Q _ => ∃ (p l dx : Addr) (a fl : V) (cells : List Int), vs = [.ref p] ∧ H p = some (.ins C dx (paF a fl (.ref l))) ∧ SqL K H l (cells.map V.int) ∧ RetO H Q (.lst (cells.map V.int))
theorem d_paall {C : Addr} (T : Top K mg) (D : Cl_PlainArray K mg C) : MDef P w K mg base CX0 1 C "all_values" ["self"] (sp_paall K C) := by
  refine D.m_all_values.ok sc_PlainArray_all_values (by rintro vs H Q E ⟨p, l, dx, a, fl, cells, rfl, _⟩; rfl) (fun f cdv A outer s H vs Q E hr h => ?_)
  obtain ⟨p, l, dx, a, fl, cells, rfl, hp, hS, q⟩ := h
  refine ⟨_, (pss_one (ps_ret (pe_callTy (r := Evl.rListS K) call_list_of (by rfl) T.b_list (by decide +kernel) (pa_cons (pe_fld (pv 0) rfl) pa_nil)))), ?_⟩
  walk_at "rd"
  refine ⟨p, C, dx, _, .ref l, rfl, hp, D.cl, D.a__held, rfl, ?_⟩
  walk_at "rd"
  refine r_lists (Own.nil H) hS fun p3 H3 s3 o3 => ?_
  exact q.mk o3 0 rfl
def SelIn (sh : List Int) (n : Nat) (S : Sel) : Prop := S.fits sh = true ∧ S.size ≤ 100000 ∧ S.ok ∧ (match S with | .pts _ => True | .box rs => ∀ r ∈ rs, -(2 ^ 60) ≤ r.2.2 ∧ r.2.2 ≤ 2 ^ 60) ∧ S.idx.length ≤ 100000 ∧ ∀ ix ∈ S.idx, 0 ≤ rankI sh ix ∧ rankI sh ix < n

end

/-! ### what the law draws may be read and written -/
theorem boxIdx_memA {rs : List (Int × Int × Int)} {ix : List Int} (h : ix ∈ boxIdx rs) : ix.length = rs.length := boxIdx_mem rs.length (Nat.le_refl _) ix (by rw [List.take_length]; exact h)
theorem box_in {sh : List Int} {rs : List (Int × Int × Int)} (h : RsOk sh rs) : ∀ i, i ≤ rs.length → ∀ ix ∈ boxIdx (rs.take i), ∀ (j : Nat) (x : Int), ix[j]? = some x → 0 ≤ x ∧ x < gi sh (j : Int)
  | 0, _, ix, hm, j, x, hx => by
    have e : ix = [] := List.mem_singleton.mp hm
    rw [e] at hx
    cases hx
  | i + 1, hi, ix, hm, j, x, hx => by
    have er : rs[i]? = some rs[i] := List.getElem?_eq_getElem (by omega)
    obtain ⟨h1, h2, h3, h4, h5, h6, h7⟩ := h i _ er
    rw [boxIdx_take er] at hm
    unfold stepB at hm
    obtain ⟨jx, hj, hm2⟩ := List.mem_flatMap.mp hm
    obtain ⟨p, hp, rfl⟩ := List.mem_map.mp hm2
    have hjl := boxIdx_mem i (by omega) jx hj
    rw [List.getElem?_append] at hx
    by_cases hlt : j < jx.length
    · rw [if_pos hlt] at hx
      exact box_in h i (by omega) jx hj j x hx
    · rw [if_neg hlt] at hx
      have e : j - jx.length = 0 := by
        cases e : j - jx.length with
        | zero => rfl
        | succ n => rw [e] at hx; cases hx
      rw [e] at hx
      cases hx
      have ej : j = i := by omega
      subst ej
      unfold rowI at hp
      obtain ⟨k, hk, rfl⟩ := List.mem_map.mp hp
      have hk := List.mem_range.mp hk
      rcases h7 with h7 | h7
      · omega
      · unfold rLast at h7
        generalize rs[j].2.1 = st at *
        generalize rs[j].1 = s0 at *
        generalize rs[j].2.2 = c at *
        have : st = 1 ∨ st = 2 ∨ st = 3 := by omega
        rcases this with rfl | rfl | rfl <;> constructor <;> omega
theorem box_isIdx {sh : List Int} {rs : List (Int × Int × Int)} (h : RsOk sh rs) (hl : rs.length = sh.length) {ix : List Int} (hm : ix ∈ boxIdx rs) : ix.length = sh.length ∧ ∀ (j : Nat) (x : Int), ix[j]? = some x → 0 ≤ x ∧ x < gi sh (j : Int) :=
  ⟨(boxIdx_memA hm).trans hl, box_in h rs.length (Nat.le_refl _) ix (by rw [List.take_length]; exact hm)⟩
theorem all_isIdx {sh : List Int} (hb : ∀ z ∈ sh, 0 ≤ z ∧ z ≤ 6) {ix : List Int} (hm : ix ∈ allIdx sh) : ix.length = sh.length ∧ ∀ (j : Nat) (x : Int), ix[j]? = some x → 0 ≤ x ∧ x < gi sh (j : Int) :=
  box_isIdx (wholeR_ok hb) (List.length_map ..) hm
theorem rank_in {sh ix : List Int} (hl : ix.length = sh.length) (h : ∀ (j : Nat) (x : Int), ix[j]? = some x → 0 ≤ x ∧ x < gi sh (j : Int)) : 0 ≤ rankI sh ix ∧ rankI sh ix < prodL sh := by
  have key : ∀ i, i ≤ sh.length → 0 ≤ ((sh.zip ix).take i).foldl (fun (a : Int) p => a * p.1 + p.2) 0 ∧ ((sh.zip ix).take i).foldl (fun (a : Int) p => a * p.1 + p.2) 0 < prodL (sh.take i) := by
    intro i
    induction i with
    | zero => intro _; exact ⟨Int.le_refl _, show (0 : Int) < 1 by decide⟩
    | succ i ih =>
      intro hi
      obtain ⟨k1, k2⟩ := ih (by omega)
      have e1 : sh[i]? = some sh[i] := List.getElem?_eq_getElem (by omega)
      have e2 : ix[i]? = some ix[i] := List.getElem?_eq_getElem (by omega)
      obtain ⟨h1, h2⟩ := h i _ e2
      rw [gi_get e1] at h2
      rw [rankI_take e1 e2, prodL_take e1]
      generalize ((sh.zip ix).take i).foldl (fun (a : Int) p => a * p.1 + p.2) 0 = R at *
      generalize prodL (sh.take i) = Pr at *
      generalize sh[i] = z at *
      generalize ix[i] = x at *
      have m1 := Int.mul_le_mul_of_nonneg_right (show R ≤ Pr - 1 by omega) (show 0 ≤ z by omega)
      have m2 := Int.mul_nonneg k1 (show 0 ≤ z by omega)
      rw [Int.sub_mul, Int.one_mul] at m1
      constructor <;> omega
  have := key sh.length (Nat.le_refl _)
  have e : sh.length = (sh.zip ix).length := by rw [List.length_zip]; omega
  rw [List.take_length] at this
  rw [e, List.take_length] at this
  exact this
theorem isIdx_of {sh ix : List Int} (hl : ix.length = sh.length) (h : ∀ (j : Nat) (x : Int), ix[j]? = some x → 0 ≤ x ∧ x < gi sh (j : Int)) : isIdx sh ix = true :=
  isIdx_yes hl fun k hk => by
    have e := List.getElem?_eq_getElem (show k < ix.length by omega)
    rw [gi_get e]
    exact h k _ e
theorem box_fits {sh : List Int} {rs : List (Int × Int × Int)} (h : RsOk sh rs) (hl : rs.length = sh.length) : boxFits sh rs = true := by
  unfold boxFits
  have h1 : rs.all rOk = true := List.all_eq_true.mpr fun r hr => by
    obtain ⟨i, hi, e⟩ := List.getElem_of_mem hr
    have := h i r (by rw [List.getElem?_eq_getElem hi, e])
    unfold rOk
    simp only [Bool.and_eq_true, decide_eq_true_eq]
    omega
  rw [decide_eq_true hl, h1, Bool.true_and, Bool.true_and]
  cases h2 : rs.any fun r => decide (r.2.2 = 0) with
  | true => rfl
  | false =>
    rw [Bool.false_or, List.all_eq_true]
    intro p hp
    obtain ⟨k, hk, e⟩ := List.getElem_of_mem hp
    rw [List.length_zip, List.length_map] at hk
    have hk1 : k < rs.length := by omega
    have hk2 : k < sh.length := by omega
    rw [List.getElem_zip, List.getElem_map] at e
    rw [← e]
    have h3 := h k rs[k] (List.getElem?_eq_getElem hk1)
    have h4 := List.any_eq_false.mp h2 rs[k] (List.getElem_mem hk1)
    rw [decide_eq_true_eq] at h4
    rw [gi_nat hk2] at h3
    rw [decide_eq_true_eq]
    simp only
    omega
theorem cnt_bnd {rs : List (Int × Int × Int)} (h : ∀ r ∈ rs, 0 ≤ r.2.2 ∧ r.2.2 ≤ 6) (hl : rs.length ≤ 4) : (boxIdx rs).length ≤ 1296 ∧ prodL (rs.map (·.2.2)) ≤ 1296 := by
  have h1 := boxIdx_bnd (fun r hr => (h r hr).2) rs.length (Nat.le_refl _)
  rw [List.take_length] at h1
  have h2 := boxIdx_lenA (fun r hr => (h r hr).1)
  have h3 : (6 : Nat) ^ rs.length ≤ 1296 := Nat.pow_le_pow_right (n := 6) (by decide) hl
  omega
def PickOk : Sel → Prop
  | .pts _ => True
  | .box rs => rs.length ≤ 6 ∧ ∀ r ∈ rs, (-(2 ^ 60) ≤ r.1 ∧ r.1 ≤ 2 ^ 60) ∧ (-(2 ^ 55) ≤ r.2.1 ∧ r.2.1 ≤ 2 ^ 55) ∧ 0 ≤ r.2.2 ∧ r.2.2 ≤ 6
theorem mul3 (d : Int) : 1 ≤ gi [1, 10000, 100000000] (d % 3) ∧ gi [1, 10000, 100000000] (d % 3) ≤ 100000000 := by
  have h : d % 3 = 0 ∨ d % 3 = 1 ∨ d % 3 = 2 := by omega
  rcases h with h | h | h <;> rw [h] <;> decide
theorem sel_in {sh : List Int} (hl : sh.length ≤ 4) (hb : ∀ z ∈ sh, 0 ≤ z ∧ z ≤ 6) {S : Sel} (h : SelOk sh S) : SelIn sh (prodL sh).toNat S ∧ PickOk S := by
  cases S with
  | pts ps =>
    obtain ⟨h1, h2⟩ := h
    refine ⟨⟨List.all_eq_true.mpr fun p hp => ?_, ?_, ⟨by omega, fun p hp => ?_⟩, trivial, ?_, fun ix hx => ?_⟩, trivial⟩
    · obtain ⟨k1, k2⟩ := all_isIdx hb (h2 p hp)
      exact isIdx_of k1 k2
    · show (ps.length : Int) ≤ 100000
      omega
    · have := (all_isIdx hb (h2 p hp)).1
      omega
    · show ps.length ≤ 100000
      omega
    · obtain ⟨k1, k2⟩ := all_isIdx hb (h2 ix hx)
      have := rank_in k1 k2
      omega
  | box rs =>
    obtain ⟨h1, h2⟩ := h
    have hc : ∀ r ∈ rs, 0 ≤ r.1 ∧ 1 ≤ r.2.1 ∧ r.2.1 ≤ 3 ∧ 0 ≤ r.2.2 ∧ r.2.2 ≤ 6 ∧ r.1 ≤ 6 := fun r hr => by
      obtain ⟨i, hi, e⟩ := List.getElem_of_mem hr
      have := h2 i r (by rw [List.getElem?_eq_getElem hi, e])
      omega
    have hn := cnt_bnd (fun r hr => ⟨(hc r hr).2.2.2.1, (hc r hr).2.2.2.2.1⟩) (show rs.length ≤ 4 by omega)
    have ei : (Sel.box rs).idx = boxIdx rs := box_idx fun r hr => (hc r hr).2.2.2.1
    refine ⟨⟨box_fits h2 h1, ?_, ⟨by omega, fun r hr => by have := hc r hr; omega⟩, fun r hr => by have := hc r hr; omega, ?_, fun ix hx => ?_⟩, by omega, fun r hr => by have := hc r hr; omega⟩
    · show prodL (rs.map (·.2.2)) ≤ 100000
      omega
    · rw [ei]
      omega
    · rw [ei] at hx
      obtain ⟨k1, k2⟩ := box_isIdx h2 h1 hx
      have := rank_in k1 k2
      omega
theorem sel_len {sh : List Int} (hb : ∀ z ∈ sh, 0 ≤ z ∧ z ≤ 6) {S : Sel} (h : SelOk sh S) : ∀ ix ∈ S.idx, ix.length = sh.length := by
  cases S with
  | pts ps => exact fun ix hx => (all_isIdx hb (h.2 ix hx)).1
  | box rs =>
    intro ix hx
    have ei : (Sel.box rs).idx = boxIdx rs := box_idx fun r hr => by
      obtain ⟨i, hi, e⟩ := List.getElem_of_mem hr
      have := h.2 i r (by rw [List.getElem?_eq_getElem hi, e])
      omega
    rw [ei] at hx
    exact (boxIdx_memA hx).trans h.1

/-! ### what resizing keeps -/
def msI (sh sh2 : List Int) : List Int := (sh.zip sh2).map fun p => mn p.1 p.2
def keepR (sh sh2 : List Int) : List (Int × Int × Int) := wholeR (msI sh sh2)
def resz (fl : Int) (cells sh sh2 : List Int) : List Int := putAll (List.replicate (prodL sh2).toNat fl) ((boxIdx (keepR sh sh2)).map (rankI sh2)) ((boxIdx (keepR sh sh2)).map fun ix => gi cells (rankI sh ix))
def keepP (sh sh2 : List Int) : List ((Int × Int) × (Int × Int)) := (sh.zip sh2).map fun p => ((0, p.1), (0, p.2))
theorem keepP_fst {sh sh2 : List Int} (h : sh2.length = sh.length) : (keepP sh sh2).map (·.1) = sh.map fun z => ((0 : Int), z) := by
  unfold keepP
  rw [List.map_map]
  show (sh.zip sh2).map ((fun z => ((0 : Int), z)) ∘ Prod.fst) = _
  rw [← List.map_map, List.map_fst_zip (by omega)]
theorem keepP_snd {sh sh2 : List Int} (h : sh2.length = sh.length) : (keepP sh sh2).map (·.2) = sh2.map fun z => ((0 : Int), z) := by
  unfold keepP
  rw [List.map_map]
  show (sh.zip sh2).map ((fun z => ((0 : Int), z)) ∘ Prod.snd) = _
  rw [← List.map_map, List.map_snd_zip (by omega)]
theorem whole_boxD (sh : List Int) : (Sel.box (wholeR sh)).d = boxD (sh.map fun z => ((0 : Int), z)) := by
  show PyData.tuple [.str (PySem.Str.ofString "box"), .tuple ((wholeR sh).map triI)] = PyData.tuple [.str (PySem.Str.ofString "box"), .tuple ((sh.map fun z => ((0 : Int), z)).map tri)]
  unfold wholeR
  rw [List.map_map, List.map_map]
  rfl
theorem meet_keep0 : ∀ (l : List (Int × Int)) (acc : List (Int × Int)), (l.map fun p => (((0 : Int), p.1), ((0 : Int), p.2))).foldl (fun acc p => match acc, meetR p.1 p.2 with | some l, some r => some (l ++ [r]) | _, _ => none) (some acc) = if l.all (fun p => decide (0 < mn p.1 p.2)) = true then some (acc ++ l.map fun p => ((0 : Int), mn p.1 p.2)) else none
  | [], acc => by simp
  | p :: l, acc => by
    rw [List.map_cons, List.foldl_cons]
    have e : meetR ((0 : Int), p.1) ((0 : Int), p.2) = if 0 < mn p.1 p.2 then some (0, mn p.1 p.2) else none := by
      unfold meetR
      show (if mx 0 0 < mn (0 + p.1) (0 + p.2) then some (mx 0 0, mn (0 + p.1) (0 + p.2) - mx 0 0) else none) = _
      rw [Int.zero_add, Int.zero_add, show mx 0 0 = 0 from rfl, Int.sub_zero]
    show (l.map _).foldl _ (match some acc, meetR ((0 : Int), p.1) ((0 : Int), p.2) with | some l, some r => some (l ++ [r]) | _, _ => none) = _
    rw [e]
    by_cases h : 0 < mn p.1 p.2
    · rw [if_pos h]
      show (l.map _).foldl _ (some (acc ++ [(0, mn p.1 p.2)])) = _
      rw [meet_keep0 l, List.all_cons, decide_eq_true h, Bool.true_and, List.map_cons, List.append_assoc]
      rfl
    · rw [if_neg h]
      show (l.map _).foldl _ none = _
      refine Eq.trans (meet_fold_none _) ?_
      rw [List.all_cons, decide_eq_false h, Bool.false_and]
      rfl
theorem meet_keep (sh sh2 : List Int) : meetAll (keepP sh sh2) = if (sh.zip sh2).all (fun p => decide (0 < mn p.1 p.2)) = true then some ((msI sh sh2).map fun z => ((0 : Int), z)) else none := by
  unfold meetAll keepP msI
  refine Eq.trans (meet_keep0 (sh.zip sh2) []) ?_
  rw [List.nil_append, List.map_map]
  rfl
theorem ms_len {sh sh2 : List Int} (h : sh2.length = sh.length) : (msI sh sh2).length = sh.length := by
  unfold msI
  rw [List.length_map, List.length_zip]
  omega
theorem ms_get {sh sh2 : List Int} {i : Nat} {x y : Int} (h : sh[i]? = some x) (h2 : sh2[i]? = some y) : (msI sh sh2)[i]? = some (mn x y) := by
  unfold msI
  rw [List.getElem?_map, zip_get h h2]
  rfl
theorem mn_le (x y : Int) : mn x y ≤ x ∧ mn x y ≤ y := by unfold mn; split <;> omega
theorem mn_nn {x y : Int} (h : 0 ≤ x) (h2 : 0 ≤ y) : 0 ≤ mn x y := by unfold mn; split <;> omega
theorem keep_get {sh sh2 : List Int} (h : sh2.length = sh.length) {i : Nat} {r : Int × Int × Int} (hr : (keepR sh sh2)[i]? = some r) : ∃ x y, sh[i]? = some x ∧ sh2[i]? = some y ∧ r = (0, 1, mn x y) := by
  unfold keepR wholeR at hr
  rw [List.getElem?_map] at hr
  cases e : (msI sh sh2)[i]? with
  | none => rw [e] at hr; cases hr
  | some z =>
    rw [e] at hr
    cases hr
    have hi := (List.getElem?_eq_some_iff.mp e).1
    rw [ms_len h] at hi
    have e1 : sh[i]? = some sh[i] := List.getElem?_eq_getElem hi
    have e2 : sh2[i]? = some sh2[i] := List.getElem?_eq_getElem (by omega)
    rw [ms_get e1 e2] at e
    cases e
    exact ⟨_, _, e1, e2, rfl⟩
theorem keep_ok {sh sh2 : List Int} (h : sh2.length = sh.length) (hb : ∀ z ∈ sh, 0 ≤ z ∧ z ≤ 6) (hb2 : ∀ z ∈ sh2, 0 ≤ z) : RsOk sh (keepR sh sh2) ∧ RsOk sh2 (keepR sh sh2) := by
  constructor
  · intro i r hr
    obtain ⟨x, y, e1, e2, rfl⟩ := keep_get h hr
    have h1 := hb x (List.mem_of_getElem? e1)
    have h2 := hb2 y (List.mem_of_getElem? e2)
    have h3 := mn_le x y
    have h4 := mn_nn h1.1 h2
    rw [gi_get e1]
    unfold rLast
    simp only
    omega
  · intro i r hr
    obtain ⟨x, y, e1, e2, rfl⟩ := keep_get h hr
    have h1 := hb x (List.mem_of_getElem? e1)
    have h2 := hb2 y (List.mem_of_getElem? e2)
    have h3 := mn_le x y
    have h4 := mn_nn h1.1 h2
    rw [gi_get e2]
    unfold rLast
    simp only
    omega
theorem keep_len {sh sh2 : List Int} (h : sh2.length = sh.length) : (keepR sh sh2).length = sh.length := by
  unfold keepR wholeR
  rw [List.length_map, ms_len h]
theorem box_in2 {sh : List Int} {rs : List (Int × Int × Int)} (h2 : RsOk sh rs) (h1 : rs.length = sh.length) (hl : sh.length ≤ 4) : SelIn sh (prodL sh).toNat (.box rs) := by
  have hc : ∀ r ∈ rs, 0 ≤ r.1 ∧ 1 ≤ r.2.1 ∧ r.2.1 ≤ 3 ∧ 0 ≤ r.2.2 ∧ r.2.2 ≤ 6 ∧ r.1 ≤ 6 := fun r hr => by
    obtain ⟨i, hi, e⟩ := List.getElem_of_mem hr
    have := h2 i r (by rw [List.getElem?_eq_getElem hi, e])
    omega
  have hn := cnt_bnd (fun r hr => ⟨(hc r hr).2.2.2.1, (hc r hr).2.2.2.2.1⟩) (show rs.length ≤ 4 by omega)
  have ei : (Sel.box rs).idx = boxIdx rs := box_idx fun r hr => (hc r hr).2.2.2.1
  refine ⟨box_fits h2 h1, ?_, ⟨by omega, fun r hr => by have := hc r hr; omega⟩, fun r hr => by have := hc r hr; omega, ?_, fun ix hx => ?_⟩
  · show prodL (rs.map (·.2.2)) ≤ 100000
    omega
  · rw [ei]
    omega
  · rw [ei] at hx
    obtain ⟨k1, k2⟩ := box_isIdx h2 h1 hx
    have := rank_in k1 k2
    omega
theorem keep_none {sh sh2 : List Int} (h : sh2.length = sh.length) (hb : ∀ z ∈ sh, 0 ≤ z) (hb2 : ∀ z ∈ sh2, 0 ≤ z) (hn : ¬ (sh.zip sh2).all (fun p => decide (0 < mn p.1 p.2)) = true) : boxIdx (keepR sh sh2) = [] := by
  have hc : ∀ r ∈ keepR sh sh2, 0 ≤ r.2.2 := fun r hr => by
    obtain ⟨i, hi, e⟩ := List.getElem_of_mem hr
    obtain ⟨x, y, e1, e2, rfl⟩ := keep_get h (show (keepR sh sh2)[i]? = some r by rw [List.getElem?_eq_getElem hi, e])
    exact mn_nn (hb x (List.mem_of_getElem? e1)) (hb2 y (List.mem_of_getElem? e2))
  have hl := boxIdx_lenA hc
  have h0 : (0 : Int) ∈ (keepR sh sh2).map (·.2.2) := by
    unfold keepR
    rw [wholeR_map]
    rw [List.all_eq_true] at hn
    have hx : ∃ p, p ∈ sh.zip sh2 ∧ ¬ 0 < mn p.1 p.2 := by
      refine Classical.byContradiction fun hx => hn fun p hp => decide_eq_true (Classical.byContradiction fun hq => hx ⟨p, hp, hq⟩)
    obtain ⟨p, hp, hq⟩ := hx
    have h1 := hb _ (List.of_mem_zip hp).1
    have h2 := hb2 _ (List.of_mem_zip hp).2
    have h3 := mn_nn h1 h2
    unfold msI
    exact List.mem_map.mpr ⟨p, hp, by omega⟩
  rw [prodL_zero h0] at hl
  exact List.length_eq_zero_iff.mp (by omega)

section
variable {P : Program} {w : World} {K : PySem.W.Frag} {mg : Str → Option Value} {base : Heap}
def LIM : List (Str × V) := [("limit", .int 100000)]
def sp_painitE (K : PySem.W.Frag) (C CS CT : Addr) : Sp := fun vs H Q E => ∃ (p dx a : Addr) (sh : List Int) (fl : Int), vs = [.ref p, .ref a, .int fl] ∧ H p = some (.ins C dx []) ∧ SqT K H a (sh.map V.int) ∧ sh.length ≤ 1000 ∧
  (isShape sh = false → RetE0 H E CS) ∧ (isShape sh = true → 100000 < prodL sh → RetE H E CT LIM) ∧
  (isShape sh = true → prodL sh ≤ 100000 → ∀ l H', (∀ b u, b ≠ p → H b = some u → H' b = some u) → H l = none → H' p = some (.ins C dx (paF (.ref a) (.int fl) (.ref l))) → H' l = some (.lst (List.replicate (prodL sh).toNat (.int fl))) → Q .non H')
theorem shape_b {sh : List Int} (hsh : isShape sh = true) : sh.length ≤ 4 ∧ ∀ z ∈ sh, 0 ≤ z ∧ z ≤ 1000000000 := by
  unfold isShape at hsh
  simp only [Bool.and_eq_true, decide_eq_true_eq] at hsh
  exact ⟨hsh.1, fun z hz => of_decide_eq_true (List.all_eq_true.mp hsh.2 z hz)⟩
theorem d_painitE {C : Addr} {C_TesseraError C_InvalidShape C_InvalidSelection C_TooLarge C_WrongCount : Addr} (T : Top K mg) (R : Errs K mg C_TesseraError C_InvalidShape C_InvalidSelection C_TooLarge C_WrongCount) (E_TooLarge : EDef P w K mg base C_TooLarge "TooLarge" ["self", "limit"] (sp_i1 C_TooLarge "limit")) (D : Cl_PlainArray K mg C) : KDef P w K mg base (L2N.CX P w) 4 C ["self", "shape", "fill"] (sp_painitE K C C_InvalidShape C_TooLarge) := by
  have G_is_shape : Def P w K mg base CX0 1 "is_shape" ["shape"] (sp_is_shape K) := d_is_shape T
  have G_element_count : Def P w K mg base CX0 1 "element_count" ["shape"] (sp_count K) := d_element_count T
  obtain ⟨t1, g_MOST_PICKED⟩ := T.g_MOST_PICKED
  refine D.i_.okN sc_PlainArray___init__ (by rintro vs H Q E ⟨p, dx, a, sh, fl, rfl, _⟩; rfl) (fun f cdv A outer s H vs Q E hr h => ?_)
  obtain ⟨p, dx, a, sh, fl, rfl, hp, ha, hl0, qS, qT, q⟩ := h
  refine ⟨_, (pss_cons (ps_if (pt_not (pt_val (pe_callD G_is_shape (hr.mono (by decide)) (pa_cons (pv 1) pa_nil)))) (pss_one (ps_raiseE rfl (L2N.takes_of rfl rfl rfl rfl) (pmk_e0 R.c_InvalidShape R.p_InvalidShape))) pss_nil)
      (pss_cons (ps_if (pt_cmpR op_gt (pe_callD G_element_count (hr.mono (by decide)) (pa_cons (pv 1) pa_nil)) (pe_glob (v := .int 100000) rfl g_MOST_PICKED ⟨_, rfl⟩) (nomark _)) (pss_one (ps_raiseE rfl (L2N.takes_of rfl rfl rfl rfl) (pmk_e1 E_TooLarge (hr.mono (by decide)) (pa_cons (pe_glob (v := .int 100000) rfl g_MOST_PICKED ⟨_, rfl⟩) pa_nil)))) pss_nil)
      (pss_cons (ps_fld (pv 0) (pv 1) rfl)
      (pss_cons (ps_fld (pv 0) (pv 2) rfl)
      (pss_one (ps_fld (pv 0) (pe_op op_rep (pe_lst (pa_cons (pv 2) pa_nil)) (pe_callD G_element_count (hr.mono (by decide)) (pa_cons (pv 1) pa_nil))) rfl)))))), ?_⟩
  walk_at "rd"
  refine ⟨a, sh, rfl, ha, hl0, fun H1 s1 => ?_⟩
  cases hsh : isShape sh with
  | false =>
    walk_at "rd"
    refine r_raise0 ?_
    exact qS hsh H1 s1
  | true =>
  have hsl := (shape_b hsh).1
  have hsb := (shape_b hsh).2
  have ha1 := (Stp.of s1).sq ha
  have hp1 : H1 p = some (.ins C dx []) := s1 _ _ hp
  walk_at "rd"
  refine ⟨a, sh, rfl, ha1, (fun x hx => by have := hsb x hx; omega), ?_⟩
  walk_at "rd"
  refine rif (fun hbig => ?_) fun hbig => ?_
  · walk_at "rd"
    refine r_raise ?_
    walk_at "rd"
    refine ⟨rfl, fun u hu => ?_, fun d hd => ?_⟩
    · rw [List.mem_singleton.mp hu]
      exact .inl ⟨_, rfl, by decide⟩
    · exact qT hsh hbig _ d (s1.trans (same_new hd)) (s1.free hd) upd_same
  have q := q hsh (by omega)
  walk_at "rd"
  refine ⟨p, C, dx, [], rfl, hp1, D.cl, D.a_shape, by decide, ?_⟩
  walk_at "rd"
  refine ⟨p, C, dx, _, rfl, upd_same, D.cl, D.a_fill, Nat.le_of_ble_eq_true rfl, ?_⟩
  have hf1 : ∀ b u, b ≠ p → H b = some u → upd (upd H1 p (.ins C dx (putF "shape" (.ref a) []))) p (.ins C dx (putF "fill" (.int fl) (putF "shape" (.ref a) []))) b = some u := fun b u hb h => by
    rw [upd_ne hb, upd_ne hb]
    exact s1 _ _ h
  have hp2 : upd (upd H1 p (.ins C dx (putF "shape" (.ref a) []))) p (.ins C dx (putF "fill" (.int fl) (putF "shape" (.ref a) []))) p = some (.ins C dx (putF "fill" (.int fl) (putF "shape" (.ref a) []))) := upd_same
  have ha2 := (stp_frame hp hf1).sq ha
  have hn1 : ∀ l, upd (upd H1 p (.ins C dx (putF "shape" (.ref a) []))) p (.ins C dx (putF "fill" (.int fl) (putF "shape" (.ref a) []))) l = none → H l = none := fun l h => by
    have hne : l ≠ p := by rintro rfl; rw [hp2] at h; cases h
    rw [upd_ne hne, upd_ne hne] at h
    exact s1.free h
  generalize upd (upd H1 p (.ins C dx (putF "shape" (.ref a) []))) p (.ins C dx (putF "fill" (.int fl) (putF "shape" (.ref a) []))) = H2 at *
  walk_at "rd"
  refine r_newLs (Own.nil H2) (Nat.le_of_ble_eq_true rfl) fun t H3 s3 o3 => ?_
  walk_at "rd"
  refine ⟨a, sh, rfl, s3.sq ha2, (fun x hx => by have := hsb x hx; omega), ?_⟩
  walk_at "rd"
  have hnn : 0 ≤ prodL sh := prodL_nn fun z hz => (hsb z hz).1
  refine r_rep (n := (prodL sh).toNat) o3 (o3.at 0 rfl) rfl (by omega) (by omega) fun l H4 s4 o4 => ?_
  walk_at "rd"
  refine ⟨p, C, dx, _, rfl, o4.ex _ _ hp2, D.cl, D.a__held, Nat.le_of_ble_eq_true rfl, ?_⟩
  have hlp : l ≠ p := by rintro rfl; have := o4.fresh 0 rfl; rw [hp2] at this; cases this
  exact q l _ (fun b u hb h => by rw [upd_ne hb]; exact o4.ex _ _ (hf1 b u hb h)) (hn1 l (o4.fresh 0 rfl)) upd_same (by rw [upd_ne hlp]; exact o4.at 0 rfl)
/-- what is wanted of a reading or writing with this selection -/
def SelC (sh : List Int) (n : Nat) (S : Sel) : Prop := S.ok ∧ (match S with | .pts _ => True | .box rs => ∀ r ∈ rs, -(2 ^ 60) ≤ r.2.2 ∧ r.2.2 ≤ 2 ^ 60) ∧ (S.fits sh = true → S.size ≤ 100000 → SelIn sh n S)
theorem SelC.of {sh : List Int} {n : Nat} {S : Sel} (h : SelIn sh n S) : SelC sh n S := ⟨h.2.2.1, h.2.2.2.1, fun _ _ => h⟩
def sp_pareadE (K : PySem.W.Frag) (C CI CT : Addr) : Sp := fun vs H Q E => ∃ (p l dx a : Addr) (fl v : V) (sh cells : List Int) (S : Sel), vs = [.ref p, v] ∧ H p = some (.ins C dx (paF (.ref a) fl (.ref l))) ∧ SqL K H l (cells.map V.int) ∧ SqT K H a (sh.map V.int) ∧ sh.length ≤ 4 ∧ (∀ z ∈ sh, 0 ≤ z ∧ z ≤ 1000000000) ∧ Tp K H v S.d ∧ SelC sh cells.length S ∧
  (S.fits sh = true → S.size ≤ 100000 → RetO H Q (.lst ((S.idx.map fun ix => gi cells (rankI sh ix)).map V.int))) ∧ (S.fits sh = false → RetE0 H E CI) ∧ (S.fits sh = true → 100000 < S.size → RetE H E CT LIM)
theorem d_pareadE {C : Addr} {C_TesseraError C_InvalidShape C_InvalidSelection C_TooLarge C_WrongCount : Addr} (T : Top K mg) (R : Errs K mg C_TesseraError C_InvalidShape C_InvalidSelection C_TooLarge C_WrongCount) (E_TooLarge : EDef P w K mg base C_TooLarge "TooLarge" ["self", "limit"] (sp_i1 C_TooLarge "limit")) (D : Cl_PlainArray K mg C) : MDef P w K mg base (L2N.CX P w) 5 C "read" ["self", "selection"] (sp_pareadE K C C_InvalidSelection C_TooLarge) := by
  have G_picked : Def P w K mg base (L2N.CX P w) 4 "picked" ["shape", "selection"] (sp_picked K C_InvalidSelection C_TooLarge) := d_picked T R E_TooLarge
  have G_rank_of : Def P w K mg base CX0 1 "rank_of" ["shape", "index"] (sp_rank K) := d_rank_of T
  refine D.m_read.okN sc_PlainArray_read (by rintro vs H Q E ⟨p, l, dx, a, fl, v, sh, cells, S, rfl, _⟩; rfl) (fun f cdv A outer s H vs Q E hr h => ?_)
  obtain ⟨p, l, dx, a, fl, v, sh, cells, S, rfl, hp, hS, ha, hsl, hsb, hv, ⟨hok, hcb, hin⟩, q, qI, qT⟩ := h
  refine ⟨_, (pss_one (ps_ret (pe_lc (own := [("index", 2)]) (g := (gName 2)) (tt := tYes) rfl sc_PlainArray_read.nd (pi_list (pe_callN G_picked (L2N.takes_of rfl rfl rfl rfl) (hr.mono (by decide)) (pa_cons (pe_fld (pv 0) rfl) (pa_cons (pv 1) pa_nil)))) (blkOk_by (N := N_PlainArray_read) (sc := defScope s_PlainArray_read) (by decide +kernel)) (fun _ _ _ _ _ => (pg_name (i := 2) sc_PlainArray_read.nd rfl (Or.inl rfl))) (fun _ _ _ _ _ => pts_nil) (fun _ _ _ _ _ => (pe_ix (r := rIxL K) ix_list (pe_fldK (K := K) rfl (pv 0) rfl) (pe_callD G_rank_of (hr.mono (by decide)) (pa_cons (pe_fldK (K := K) rfl (pv 0) rfl) (pa_cons (pv 2) pa_nil))) (fun _ _ => rfl)))))), ?_⟩
  walk_at "rd"
  refine ⟨p, C, dx, _, .ref a, rfl, hp, D.cl, D.a_shape, rfl, ?_⟩
  walk_at "rd"
  refine ⟨a, v, sh, S, rfl, ha, by omega, hv, hok, hcb, (fun hf hsz H1 pI zI s1 f1 a1 t1 => ?_), qI, qT⟩
  have q := q hf hsz
  obtain ⟨_, _, _, _, hil, hrk⟩ := hin hf hsz
  have o1 : Own H H1 [(pI, .lst zI)] := (Own.nil H).add s1 f1 a1
  have hzl := t1.len
  rw [List.length_map] at hzl
  walk_at "rd"
  refine lcjL (K := K) (fun i => (S.idx[i]?).map fun ix => .int (gi cells (rankI sh ix))) o1 (fun H' p zs o' => o'.sqL 1 rfl) (o1.sqL 0 rfl) (by omega) ?_ ?_
  · intro i x p4 zs4 H' R' hx o' s' r
    obtain ⟨ix, a4, e4, rfl, ha4⟩ := pt_at (t1.up s') hx
    refine r_name (r _ rfl (fun Qb k => k H' (Same.refl _) |> fun z => by rw [e4] at z; exact z) fun d' H2 hd' s2 Qv qv => ?_)
    rw [e4] at hd'
    cases hd'
    have hp2 := s2 _ _ (o'.ex _ _ hp)
    have ha2 := (Stp.of s2).sq (o'.oldT ha)
    have ha42 := (Stp.of s2).sq ha4
    have hS2 := same_seqL' s2 (o'.old hS)
    obtain ⟨r0, r1⟩ := hrk ix (List.mem_of_getElem? e4)
    walk_at "rd"
    refine ⟨p, C, dx, _, .ref l, rfl, hp2, D.cl, D.a__held, rfl, ?_⟩
    walk_at "rd"
    refine ⟨p, C, dx, _, .ref a, rfl, hp2, D.cl, D.a_shape, rfl, ?_⟩
    walk_at "rd"
    refine ⟨a, a4, sh, ix, rfl, ha2, ha42, (fun x hx => by have := hsb x hx; omega), fun H3 s3 => ?_⟩
    have hS3 := same_seqL' s3 hS2
    walk_at "rd"
    exact qv _ _ s3 (.int _)
  · intro p3 H3 zs3 s3 o3 t3
    have e : (List.range zI.length).filterMap (fun i => (S.idx[i]?).map fun ix => PyData.int (gi cells (rankI sh ix))) = (S.idx.map fun ix => gi cells (rankI sh ix)).map PyData.int := by
      rw [hzl, range_pick S.idx _, List.map_map]
      rfl
    rw [e] at t3
    have e3 := ints_invF t3
    subst e3
    rw [show (List.map (fun x => x) (S.idx.map fun ix => gi cells (rankI sh ix))) = (S.idx.map fun ix => gi cells (rankI sh ix)) from List.map_id _] at o3
    exact q.mk o3 0 rfl
theorem log_nat {n : Nat} (h : n ≤ 100000) : ((n : Nat) : Int).natAbs.log2 < 1920 := by
  rw [Int.natAbs_natCast]
  by_cases h0 : n = 0
  · subst h0; decide
  · rw [Nat.log2_lt h0]
    exact Nat.lt_of_le_of_lt h (Nat.lt_of_lt_of_le (show 100000 < 2 ^ 17 by decide) (Nat.pow_le_pow_right (by decide) (by decide)))
def WCF (d g : Int) : List (Str × V) := [("given", .int g), ("due", .int d)]
def sp_pawriteE (K : PySem.W.Frag) (C CI CT CW : Addr) : Sp := fun vs H Q E => ∃ (p l dx a b : Addr) (fl v : V) (sh cells vals : List Int) (S : Sel), vs = [.ref p, v, .ref b] ∧ H p = some (.ins C dx (paF (.ref a) fl (.ref l))) ∧ H l = some (.lst (cells.map V.int)) ∧ b ≠ l ∧ H b = some (.lst (vals.map V.int)) ∧ SqT K H a (sh.map V.int) ∧ sh.length ≤ 4 ∧ (∀ z ∈ sh, 0 ≤ z ∧ z ≤ 1000000000) ∧ Tp K H v S.d ∧ SelC sh cells.length S ∧ vals.length ≤ 100000 ∧
  (S.fits sh = false → RetE0 H E CI) ∧ (S.fits sh = true → 100000 < S.size → RetE H E CT LIM) ∧ (S.fits sh = true → S.size ≤ 100000 → vals.length ≠ S.idx.length → RetE H E CW (WCF S.idx.length vals.length)) ∧
  (S.fits sh = true → S.size ≤ 100000 → vals.length = S.idx.length → ∀ H', (∀ c x, c ≠ l → H c = some x → H' c = some x) → H' l = some (.lst ((putAll cells (S.idx.map (rankI sh)) vals).map V.int)) → Q .non H')
theorem d_pawriteE {C : Addr} {C_TesseraError C_InvalidShape C_InvalidSelection C_TooLarge C_WrongCount : Addr} (T : Top K mg) (R : Errs K mg C_TesseraError C_InvalidShape C_InvalidSelection C_TooLarge C_WrongCount) (E_TooLarge : EDef P w K mg base C_TooLarge "TooLarge" ["self", "limit"] (sp_i1 C_TooLarge "limit")) (E_WrongCount : EDef P w K mg base C_WrongCount "WrongCount" ["self", "due", "given"] (sp_i2 C_WrongCount "due" "given")) (D : Cl_PlainArray K mg C) : MDef P w K mg base (L2N.CX P w) 5 C "write" ["self", "selection", "values"] (sp_pawriteE K C C_InvalidSelection C_TooLarge C_WrongCount) := by
  have G_picked : Def P w K mg base (L2N.CX P w) 4 "picked" ["shape", "selection"] (sp_picked K C_InvalidSelection C_TooLarge) := d_picked T R E_TooLarge
  have G_rank_of : Def P w K mg base CX0 1 "rank_of" ["shape", "index"] (sp_rank K) := d_rank_of T
  refine D.m_write.okN sc_PlainArray_write (by rintro vs H Q E ⟨p, l, dx, a, b, fl, v, sh, cells, vals, S, rfl, _⟩; rfl) (fun f cdv A outer s H vs Q E hr h => ?_)
  obtain ⟨p, l, dx, a, b, fl, v, sh, cells, vals, S, rfl, hp, hl, hbl, hb, ha, hsl, hsb, hv, ⟨hok, hcb, hin⟩, hvl, qI, qT, qW, q⟩ := h
  refine ⟨_, (pss_cons (ps_set (i := 3) sc_PlainArray_write.nd rfl (Or.inl rfl) (pe_callN G_picked (L2N.takes_of rfl rfl rfl rfl) (hr.mono (by decide)) (pa_cons (pe_fld (pv 0) rfl) (pa_cons (pv 1) pa_nil))))
      (pss_cons (ps_if (pt_cmpR op_ne (pe_callB (r := Evl.rLenS K) call_len_seq (by rfl) T.b_len (by decide +kernel) (pa_cons (pv 2) pa_nil)) (pe_callB (r := Evl.rLenS K) call_len_seq (by rfl) T.b_len (by decide +kernel) (pa_cons (pv 3) pa_nil)) (nomark _)) (pss_one (ps_raiseE rfl (L2N.takes_of rfl rfl rfl rfl) (pmk_e2 E_WrongCount (hr.mono (by decide)) (pa_cons (pe_callB (r := Evl.rLenS K) call_len_seq (by rfl) T.b_len (by decide +kernel) (pa_cons (pv 3) pa_nil)) (pa_cons (pe_callB (r := Evl.rLenS K) call_len_seq (by rfl) T.b_len (by decide +kernel) (pa_cons (pv 2) pa_nil)) pa_nil))))) pss_nil)
      (pss_one (ps_for (passes_of rfl) rfl (pi_zip2 (k1 := false) (k2 := false) (by rfl) T.b_zip (pa_cons (pv 3) (pa_cons (pv 2) pa_nil))) (pg_tup (n := 2) rfl (pgs_cons (pg_name (i := 4) sc_PlainArray_write.nd rfl (Or.inl rfl)) (pgs_cons (pg_name (i := 5) sc_PlainArray_write.nd rfl (Or.inl rfl)) pgs_nil))) (pss_one (ps_asg (pv 5) (pg_sub (pe_fld (pv 0) rfl) (pe_callD G_rank_of (hr.mono (by decide)) (pa_cons (pe_fld (pv 0) rfl) (pa_cons (pv 4) pa_nil))) set_list))))))), ?_⟩
  have o0 := take_l hl
  have hpl : p ≠ l := by rintro rfl; rw [hp] at hl; cases hl
  have hp0 : delH H l p = _ := (delH_ne hpl).trans hp
  have hb0 : delH H l b = _ := (delH_ne hbl).trans hb
  walk_at "rd"
  refine ⟨p, C, dx, _, .ref a, rfl, hp, D.cl, D.a_shape, rfl, ?_⟩
  walk_at "rd"
  refine ⟨a, v, sh, S, rfl, ha, by omega, hv, hok, hcb, (fun hf hsz H1 pI zI s1 f1 a1 t1 => ?_), qI, qT⟩
  obtain ⟨_, _, _, _, hil, hrk⟩ := hin hf hsz
  have o1 : Own (delH H l) H1 [(pI, .lst zI), (l, .lst (cells.map V.int))] := o0.add s1 f1 a1
  have hzl := t1.len
  rw [List.length_map] at hzl
  have hB1 : SqL K H1 b (vals.map V.int) := .inl (.inl (o1.ex _ _ hb0))
  have hI1 : SqL K H1 pI zI := o1.sqL 0 rfl
  walk_at "rd"
  rw [List.length_map, hzl]
  by_cases hne : vals.length = S.idx.length
  case neg =>
    refine rif_nno (by omega) ?_
    walk_at "rd"
    refine r_raise ?_
    walk_at "rd"
    rw [List.length_map, hzl]
    refine ⟨rfl, fun u hu => ?_, fun d hd => ?_⟩
    · rcases List.mem_cons.mp hu with rfl | hu
      · exact .inl ⟨_, rfl, log_nat hil⟩
      · rw [List.mem_singleton.mp hu]
        exact .inl ⟨_, rfl, log_nat hvl⟩
    · exact qW hf hsz hne _ d (s1.trans (same_new hd)) (s1.free hd) upd_same
  have q := q hf hsz hne
  refine rif_nyes (by omega) ?_
  walk_at "rd"
  refine forZ (n := vals.length) (xs := zI) (ys := vals.map V.int) (by rw [List.length_map]; omega) (fun i σ' H' => ∃ v4 v5, σ' = [some (.ref p), some v, some (.ref b), some (.ref pI), v4, v5] ∧ Own (delH H l) H' [(pI, .lst zI), (l, .lst ((putL cells (((S.idx.map (rankI sh)).zip vals).take i)).map V.int))] ∧ Stp H1 H') ⟨_, _, rfl, o1, .refl _⟩ hI1 hB1 (fun i σ' H' _ ⟨_, _, _, o, _⟩ => ⟨o.sqL 0 rfl, .inl (.inl (o.ex _ _ hb0))⟩) ?_ ?_
  · rintro i x y U σ' H' H2 hx hy ⟨v4, v5, rfl, o, s'⟩ s hU
    obtain ⟨ix, a4, e4, rfl, ha4⟩ := pt_at ((t1.up s').up (.of s)) hx
    obtain ⟨y, hy', rfl⟩ := int_atT hy
    obtain ⟨r0, r1⟩ := hrk ix (List.mem_of_getElem? e4)
    have o2 := o.mono s
    have hp2 : H2 p = _ := o2.ex _ _ hp0
    have ha2 := (((Stp.of s1).trans s').trans (.of s)).sq ha
    refine r_gTup2 hU ?_
    walk_at "rd"
    refine ⟨p, C, dx, _, .ref l, rfl, hp2, D.cl, D.a__held, rfl, ?_⟩
    walk_at "rd"
    refine ⟨p, C, dx, _, .ref a, rfl, hp2, D.cl, D.a_shape, rfl, ?_⟩
    walk_at "rd"
    refine ⟨a, a4, sh, ix, rfl, ha2, ha4, (fun x hx => by have := hsb x hx; omega), fun H3 s3 => ?_⟩
    have o3 := o2.mono s3
    have hz : ((S.idx.map (rankI sh)).zip vals)[i]? = some (rankI sh ix, y) := zip_get (by rw [List.getElem?_map, e4]; rfl) hy'
    generalize rankI sh ix = rk at *
    obtain ⟨k, rfl⟩ := Int.eq_ofNat_of_zero_le r0
    refine r_setLs (k := k) o3 1 rfl (ixN_nat (by rw [List.length_map, putL_len]; omega)) fun H4 s4 o4 => ?_
    refine ⟨some (.ref a4), some (.int y), rfl, ?_, (s'.trans (.of s)).trans ((Stp.of s3).trans s4)⟩
    rw [putL_take hz]
    rw [← List.map_set] at o4
    exact o4
  · rintro σ' H' ⟨v4, v5, rfl, o, s'⟩
    walk_at "rd"
    rw [List.take_of_length_le (by rw [List.length_zip]; omega)] at o
    refine q H' (fun c x hc h => o.ex _ _ ((delH_ne hc).trans h)) (o.at 1 rfl)
end

section
variable {P : Program} {w : World} {K : PySem.W.Frag} {mg : Str → Option Value} {base : Heap}
def sp_paresizeE (K : PySem.W.Frag) (C CS CT : Addr) : Sp := fun vs H Q E => ∃ (p l dx a b : Addr) (fl : Int) (sh sh2 cells : List Int), vs = [.ref p, .ref b] ∧ H p = some (.ins C dx (paF (.ref a) (.int fl) (.ref l))) ∧ H l = some (.lst (cells.map V.int)) ∧ SqT K H a (sh.map V.int) ∧ SqT K H b (sh2.map V.int) ∧ sh.length ≤ 3 ∧ (∀ z ∈ sh, 0 ≤ z ∧ z ≤ 6) ∧ sh2.length ≤ 1000 ∧ cells.length = (prodL sh).toNat ∧
  (sh2.length ≠ sh.length → RetE0 H E CS) ∧ (sh2.length = sh.length → isShape sh2 = false → RetE0 H E CS) ∧ (sh2.length = sh.length → isShape sh2 = true → 100000 < prodL sh2 → RetE H E CT LIM) ∧
  (sh2.length = sh.length → isShape sh2 = true → prodL sh2 ≤ 100000 → ∀ l' H', (∀ b u, b ≠ p → H b = some u → H' b = some u) → H l' = none → H' p = some (.ins C dx (paF (.ref b) (.int fl) (.ref l'))) → H' l' = some (.lst ((resz fl cells sh sh2).map V.int)) → Q .non H')
theorem d_paresizeE {C : Addr} {C_TesseraError C_InvalidShape C_InvalidSelection C_TooLarge C_WrongCount : Addr} (T : Top K mg) (R : Errs K mg C_TesseraError C_InvalidShape C_InvalidSelection C_TooLarge C_WrongCount) (E_TooLarge : EDef P w K mg base C_TooLarge "TooLarge" ["self", "limit"] (sp_i1 C_TooLarge "limit")) (E_WrongCount : EDef P w K mg base C_WrongCount "WrongCount" ["self", "due", "given"] (sp_i2 C_WrongCount "due" "given")) (C_PlainArray : Cl_PlainArray K mg C) : MDef P w K mg base (L2N.CX P w) 8 C "resize" ["self", "shape"] (sp_paresizeE K C C_InvalidShape C_TooLarge) := by
  have I_PlainArray : KDef P w K mg base (L2N.CX P w) 4 C ["self", "shape", "fill"] (sp_painitE K C C_InvalidShape C_TooLarge) := d_painitE T R E_TooLarge C_PlainArray
  have M_PlainArray_read : MDef P w K mg base (L2N.CX P w) 5 C "read" ["self", "selection"] (sp_pareadE K C C_InvalidSelection C_TooLarge) := d_pareadE T R E_TooLarge C_PlainArray
  have M_PlainArray_write : MDef P w K mg base (L2N.CX P w) 5 C "write" ["self", "selection", "values"] (sp_pawriteE K C C_InvalidSelection C_TooLarge C_WrongCount) := d_pawriteE T R E_TooLarge E_WrongCount C_PlainArray
  have M_PlainArray_all_values : MDef P w K mg base CX0 1 C "all_values" ["self"] (sp_paall K C) := d_paall T C_PlainArray
  have G_whole : Def P w K mg base CX0 1 "whole" ["shape"] (sp_whole K) := d_whole T
  have G_meeting : Def P w K mg base CX0 1 "meeting" ["first", "second"] (sp_meeting K) := d_meeting T
  have D := C_PlainArray
  refine D.m_resize.okN sc_PlainArray_resize (by rintro vs H Q E ⟨p, l, dx, a, b, fl, sh, sh2, cells, rfl, _⟩; rfl) (fun f cdv A outer s H vs Q E hr h => ?_)
  obtain ⟨p, l, dx, a, b, fl, sh, sh2, cells, rfl, hp, hl, ha, hb, hsl, hsb, hl2, hcl, qL, qS, qT, q⟩ := h
  refine ⟨_, (pss_cons (ps_if (pt_cmpR op_ne (pe_callB (r := Evl.rLenS K) call_len_seq (by rfl) T.b_len (by decide +kernel) (pa_cons (pv 1) pa_nil)) (pe_callB (r := Evl.rLenS K) call_len_seq (by rfl) T.b_len (by decide +kernel) (pa_cons (pe_fld (pv 0) rfl) pa_nil)) (nomark _)) (pss_one (ps_raiseE rfl (L2N.takes_of rfl rfl rfl rfl) (pmk_e0 R.c_InvalidShape R.p_InvalidShape))) pss_nil)
      (pss_cons (ps_set (i := 2) sc_PlainArray_resize.nd rfl (Or.inl rfl) (pe_makeN I_PlainArray C_PlainArray.at_ (L2N.takes_of rfl rfl rfl rfl) (hr.mono (by decide)) (pa_cons (pv 1) (pa_cons (pe_fld (pv 0) rfl) pa_nil))))
      (pss_cons (ps_set (i := 3) sc_PlainArray_resize.nd rfl (Or.inl rfl) (pe_callD G_meeting (hr.mono (by decide)) (pa_cons (pe_callD G_whole (hr.mono (by decide)) (pa_cons (pe_fld (pv 0) rfl) pa_nil)) (pa_cons (pe_callD G_whole (hr.mono (by decide)) (pa_cons (pv 1) pa_nil)) pa_nil))))
      (Evl.pss_cut (ps_if (pt_cmpR (r := rNotNon) op_notN (pv 3) pe_non (nomark _)) (pss_one (ps_expr (pe_methN (pv 2) C_PlainArray.cl M_PlainArray_write (L2N.takes_of rfl rfl rfl rfl) (hr.mono (by decide)) (pa_cons (pv 3) (pa_cons (pe_methN (pv 0) C_PlainArray.cl M_PlainArray_read (L2N.takes_of rfl rfl rfl rfl) (hr.mono (by decide)) (pa_cons (pv 3) pa_nil)) pa_nil))))) pss_nil)
      (pss_cons (ps_fld (pv 0) (pv 1) rfl)
      (pss_one (ps_fld (pv 0) (pe_methD0 (pv 2) C_PlainArray.cl M_PlainArray_all_values (hr.mono (by decide))) rfl))))))), ?_⟩
  have hpl : l ≠ p := by rintro rfl; rw [hp] at hl; cases hl
  have o0 := take_l hp
  have hl0 : delH H p l = some (.lst (cells.map V.int)) := (delH_ne hpl).trans hl
  walk_at "rd"
  refine ⟨p, C, dx, _, .ref a, rfl, hp, D.cl, D.a_shape, rfl, ?_⟩
  walk_at "rd"
  rw [List.length_map, List.length_map]
  by_cases hle : sh2.length = sh.length
  case neg =>
    refine rif_nno (by omega) ?_
    walk_at "rd"
    refine r_raise0 ?_
    exact qL hle H (.refl _)
  refine rif_nyes (by omega) ?_
  walk_at "rd"
  refine ⟨p, C, dx, _, .int fl, rfl, hp, D.cl, D.a_fill, rfl, ?_⟩
  walk_at "rd"
  intro x dx2 nx ndx nex
  have oa := o0.new (u := .own x) ndx
  have ob := oa.new (u := .ins C dx2 []) (show upd H dx2 (.own x) x = none by rw [upd_ne (Ne.symm nex)]; exact nx)
  have sA : Same H (upd (upd H dx2 (.own x)) x (.ins C dx2 [])) := (same_new ndx).trans (same_new (by rw [upd_ne (Ne.symm nex)]; exact nx))
  generalize upd (upd H dx2 (.own x)) x (.ins C dx2 []) = H3 at *
  refine ⟨x, dx2, b, sh2, fl, rfl, ob.at 0 rfl, (Stp.of sA).sq hb, hl2, fun hs H' s' => qS hle hs H' (sA.trans s'), fun hs hbig H' d s' hd hd2 => qT hle hs hbig H' d (sA.trans s') (sA.free hd) hd2, fun hs hsm l2 H4 hf hl4 hp4 hz4 => ?_⟩
  have q := q hle hs hsm
  have hs2 := (shape_b hs).2
  have oc := ob.chg 0 rfl hf hp4
  have od := Own.addF ob oc rfl hl4 hz4
  have sB : Stp H3 H4 := stp_frame (ob.at 0 rfl) hf
  have ha4 := ((Stp.of sA).trans sB).sq ha
  have hb4 := ((Stp.of sA).trans sB).sq hb
  have er : List.replicate (prodL sh2).toNat (V.int fl) = (List.replicate (prodL sh2).toNat fl).map V.int := (List.map_replicate ..).symm
  rw [er] at od
  clear oa ob oc sA sB hf hl4 hp4 hz4 nx ndx nex
  refine ⟨rfl, ?_⟩
  walk_at "rd"
  refine ⟨p, C, dx, _, .ref a, rfl, od.at 3 rfl, D.cl, D.a_shape, rfl, ?_⟩
  walk_at "rd"
  refine ⟨a, sh, rfl, ha4, by omega, r_retD od fun u5 H5 s5 o5 t5 => ?_⟩
  have hb5 := (Stp.of s5).sq hb4
  walk_at "rd"
  refine ⟨b, sh2, rfl, hb5, by omega, r_retD o5 fun u6 H6 s6 o6 t6 => ?_⟩
  have t56 := t5.up (.of s6)
  have ha6 := ((Stp.of s5).trans (.of s6)).sq ha4
  have hb6 := (Stp.of s6).sq hb5
  walk_at "rd"
  rw [whole_boxD] at t56 t6
  have hkp := meet_keep sh sh2
  refine ⟨u5, u6, keepP sh sh2, rfl, by rw [keepP_fst hle]; exact t56, by rw [keepP_snd hle]; exact t6, by unfold keepP; rw [List.length_map, List.length_zip]; omega, fun hn => r_retvs o6 fun H7 e7 o7 => ?_, fun rs hm => r_retD o6 fun u7 H7 e7 o7 t7 => ?_⟩
  · have hno : ¬ (sh.zip sh2).all (fun p => decide (0 < mn p.1 p.2)) = true := fun h => by rw [if_pos h, hn] at hkp; cases hkp
    have hk0 := keep_none hle (fun z hz => (hsb z hz).1) (fun z hz => (hs2 z hz).1) hno
    have hre : resz fl cells sh sh2 = List.replicate (prodL sh2).toNat fl := by
      unfold resz
      rw [hk0]
      rfl
    walk_at "rd"
    refine ⟨fun σ' H' => ∃ k, σ' = [some (.ref p), some (.ref b), some (.ref x), some k] ∧ Own (delH H p) H' [(l2, .lst ((resz fl cells sh sh2).map V.int)), (x, .ins C dx2 (paF (.ref b) (.int fl) (.ref l2))), (dx2, .own x), (p, .ins C dx (paF (.ref a) (.int fl) (.ref l)))], ?_, ?_⟩
    · walk_at "rd"
      rw [hre]
      exact ⟨_, rfl, o7⟩
    rintro σ' H8 ⟨k, rfl, o8⟩
    walk_at "rd"
    refine ⟨p, C, dx, _, rfl, o8.at 3 rfl, D.cl, D.a_shape, Nat.le_of_ble_eq_true rfl, ?_⟩
    have o9 := o8.set (v := .ins C dx (paF (.ref b) (.int fl) (.ref l))) 3 rfl
    have e9 : putF "shape" (.ref b) (paF (.ref a) (.int fl) (.ref l)) = paF (.ref b) (.int fl) (.ref l) := by rfl
    rw [e9]
    generalize upd H8 p (.ins C dx (paF (.ref b) (.int fl) (.ref l))) = H9 at *
    walk_at "rd"
    refine ⟨x, dx2, _, rfl, o9.at 1 rfl, rfl, ?_⟩
    walk_at "rd"
    refine ⟨x, l2, dx2, .ref b, .int fl, resz fl cells sh sh2, rfl, o9.at 1 rfl, o9.sqL 0 rfl, r_ret1 o9 fun l3 H10 o10 => ?_⟩
    walk_at "rd"
    refine ⟨p, C, dx, _, rfl, o10.at 4 rfl, D.cl, D.a__held, Nat.le_of_ble_eq_true rfl, ?_⟩
    have o11 := o10.set (v := .ins C dx (paF (.ref b) (.int fl) (.ref l3))) 4 rfl
    have e11 : putF "_held" (.ref l3) (paF (.ref b) (.int fl) (.ref l)) = paF (.ref b) (.int fl) (.ref l3) := by rfl
    rw [e11]
    have hne : l3 ≠ p := o10.ne (i := 0) (j := 4) rfl rfl (by decide)
    have hf3 := o10.fresh 0 rfl
    rw [delH_ne hne] at hf3
    exact q l3 _ (fun c u hc h => o11.ex c u ((delH_ne hc).trans h)) hf3 (o11.at 4 rfl) (o11.at 0 rfl)
  · by_cases hyes : (sh.zip sh2).all (fun p => decide (0 < mn p.1 p.2)) = true
    case neg => rw [if_neg hyes, hm] at hkp; cases hkp
    rw [if_pos hyes, hm] at hkp
    cases hkp
    rw [← whole_boxD] at t7
    obtain ⟨ok1, ok2⟩ := keep_ok hle hsb (fun z hz => (hs2 z hz).1)
    have hkl := keep_len hle
    have in1 := box_in2 ok1 hkl (by omega)
    have in2 := box_in2 ok2 (hkl.trans hle.symm) (by omega)
    have hcnt : ∀ r ∈ keepR sh sh2, 0 ≤ r.2.2 := fun r hr => by
      obtain ⟨i, hi, e⟩ := List.getElem_of_mem hr
      exact (ok1 i r (by rw [List.getElem?_eq_getElem hi, e])).2.2.2.1
    have hidx : (Sel.box (keepR sh sh2)).idx = boxIdx (keepR sh sh2) := box_idx hcnt
    have hsh6b : ∀ z ∈ sh, 0 ≤ z ∧ z ≤ 1000000000 := fun z hz => by have := hsb z hz; omega
    have ha7 := (Stp.of e7).sq ha6
    have hb7 := (Stp.of e7).sq hb6
    obtain ⟨a7, x7, rfl, _, _⟩ := Tp.inv (show Tp K H7 u7 (.tuple [.str (PySem.Str.ofString "box"), .tuple ((keepR sh sh2).map triI)]) from t7)
    walk_at "rd"
    refine ⟨fun σ' H' => ∃ k, σ' = [some (.ref p), some (.ref b), some (.ref x), some k] ∧ Own (delH H p) H' [(l2, .lst ((resz fl cells sh sh2).map V.int)), (x, .ins C dx2 (paF (.ref b) (.int fl) (.ref l2))), (dx2, .own x), (p, .ins C dx (paF (.ref a) (.int fl) (.ref l)))], ?_, ?_⟩
    · walk_at "rd"
      refine ⟨x, dx2, _, rfl, o7.at 1 rfl, rfl, ?_⟩
      walk_at "rd"
      refine ⟨p, dx, _, rfl, o7.at 3 rfl, rfl, ?_⟩
      walk_at "rd"
      refine ⟨p, l, dx, a, .int fl, .ref a7, sh, cells, .box (keepR sh sh2), rfl, o7.at 3 rfl, .inl (.inl (o7.ex _ _ hl0)), ha7, by omega, hsh6b, t7, by rw [hcl]; exact SelC.of in1, fun _ _ => r_ret1s o7 fun pr H8 s8 o8 => ?_, fun h => absurd (in1.1.symm.trans h) (by decide), fun _ h => absurd h (by have := in1.2.1; omega)⟩
      walk_at "rd"
      have hrl : (List.replicate (prodL sh2).toNat fl).length = (prodL sh2).toNat := List.length_replicate ..
      refine ⟨x, l2, dx2, b, pr, .int fl, .ref a7, sh2, List.replicate (prodL sh2).toNat fl, _, .box (keepR sh sh2), rfl, o8.at 2 rfl, o8.at 1 rfl, o8.ne (i := 0) (j := 1) rfl rfl (by decide), o8.at 0 rfl, s8.sq hb7, by omega, hs2, t7.up s8, by rw [hrl]; exact SelC.of in2, by rw [List.length_map]; exact in1.2.2.2.2.1, fun h => absurd (in2.1.symm.trans h) (by decide), fun _ h => absurd h (by have := in2.2.1; omega), fun _ _ h => absurd (List.length_map ..) h, fun _ _ _ H9 hf9 hl9 => ?_⟩
      have o9 := o8.chg 1 rfl hf9 hl9
      refine ⟨_, rfl, ?_⟩
      unfold resz
      rw [hidx] at o9
      exact o9.tl
    rintro σ' H8 ⟨k, rfl, o8⟩
    walk_at "rd"
    refine ⟨p, C, dx, _, rfl, o8.at 3 rfl, D.cl, D.a_shape, Nat.le_of_ble_eq_true rfl, ?_⟩
    have o9 := o8.set (v := .ins C dx (paF (.ref b) (.int fl) (.ref l))) 3 rfl
    have e9 : putF "shape" (.ref b) (paF (.ref a) (.int fl) (.ref l)) = paF (.ref b) (.int fl) (.ref l) := by rfl
    rw [e9]
    generalize upd H8 p (.ins C dx (paF (.ref b) (.int fl) (.ref l))) = H9 at *
    walk_at "rd"
    refine ⟨x, dx2, _, rfl, o9.at 1 rfl, rfl, ?_⟩
    walk_at "rd"
    refine ⟨x, l2, dx2, .ref b, .int fl, resz fl cells sh sh2, rfl, o9.at 1 rfl, o9.sqL 0 rfl, r_ret1 o9 fun l3 H10 o10 => ?_⟩
    walk_at "rd"
    refine ⟨p, C, dx, _, rfl, o10.at 4 rfl, D.cl, D.a__held, Nat.le_of_ble_eq_true rfl, ?_⟩
    have o11 := o10.set (v := .ins C dx (paF (.ref b) (.int fl) (.ref l3))) 4 rfl
    have e11 : putF "_held" (.ref l3) (paF (.ref b) (.int fl) (.ref l)) = paF (.ref b) (.int fl) (.ref l3) := by rfl
    rw [e11]
    have hne : l3 ≠ p := o10.ne (i := 0) (j := 4) rfl rfl (by decide)
    have hf3 := o10.fresh 0 rfl
    rw [delH_ne hne] at hf3
    exact q l3 _ (fun c u hc h => o11.ex c u ((delH_ne hc).trans h)) hf3 (o11.at 4 rfl) (o11.at 0 rfl)
end

section
variable {P : Program} {w : World} {K : PySem.W.Frag} {mg : Str → Option Value} {base : Heap}
/-- of a tuple or a list of ints -/
def sp_ints (K : PySem.W.Frag) : Sp := fun vs H Q _ => ∃ (a : Addr) (ns : List Int), ((vs = [.ref a, .str (PySem.Str.ofString "tuple")] ∧ SqT K H a (ns.map V.int)) ∨ (vs = [.ref a, .str (PySem.Str.ofString "list")] ∧ SqL K H a (ns.map V.int))) ∧ ns.length ≤ 10000000 ∧ Q (.bl true) H
theorem d_ints (T : Top K mg) : Def P w K mg base CX0 2 "_law_ints" ["x", "kind"] (sp_ints K) := by
  have G__law_is_int : Def P w K mg base CX0 1 "_law_is_int" ["x"] sp_is_int := d_is_int T
  refine T.f__law_ints.ok sc__law_ints (by rintro vs H Q E ⟨a, ns, ⟨rfl, _⟩ | ⟨rfl, _⟩, _⟩ <;> rfl) (fun f cdv A outer s H vs Q E hr h => ?_)
  obtain ⟨a, ns, h, hz, q⟩ := h
  rcases h with ⟨rfl, hS⟩ | ⟨rfl, hS⟩
  all_goals
    refine ⟨_, (Evl.pss_cut (ps_if (pt_cmpR op_eq (pv 1) pe_str (nomark _)) (pss_one (ps_if (pt_not (pt_val (pe_callB (r := rIsi K) call_isi (by rfl) T.b_isinstance (by decide +kernel) (pa_cons (pv 0) (pa_cons (pe_bltn (v := .ty "list") (by rfl) T.b_list (by decide +kernel) rfl) pa_nil))))) (pss_one (ps_ret pe_bl)) pss_nil)) (pss_one (ps_if (pt_not (pt_val (pe_callB (r := rIsi K) call_isi (by rfl) T.b_isinstance (by decide +kernel) (pa_cons (pv 0) (pa_cons (pe_bltn (v := .ty "tuple") (by rfl) T.b_tuple (by decide +kernel) rfl) pa_nil))))) (pss_one (ps_ret pe_bl)) pss_nil)))
      (pss_cons (ps_for PassesOwn.never rfl (pi_range1 (by rfl) T.b_range (pa_cons (pe_callB (r := Evl.rLenS K) call_len_seq (by rfl) T.b_len (by decide +kernel) (pa_cons (pv 0) pa_nil)) pa_nil)) (pg_name (i := 2) sc__law_ints.nd rfl (Or.inl rfl)) (pss_one (ps_if (pt_not (pt_val (pe_callD G__law_is_int (hr.mono (by decide)) (pa_cons (pe_ix (r := rIx K) ix_seq (pv 0) (pv 2) (fun _ _ => rfl)) pa_nil)))) (pss_one (ps_ret pe_bl)) pss_nil)))
      (pss_one (ps_ret pe_bl)))), ?_⟩
    walk_at "rd"
  · refine ⟨fun σ' H' => σ' = [some (.ref a), some (.str (PySem.Str.ofString "tuple")), none] ∧ H' = H, ?_, ?_⟩
    · walk_at "rd"
      refine rif_no (by decide +kernel) ?_
      walk_at "rd"
      exact ⟨rfl, rfl⟩
    rintro σ' H' ⟨rfl, rfl⟩
    walk_at "rd"
    refine forR1 (n := ns.length) (by rw [List.length_map]) (by rw [List.length_map]; omega) (fun i σ' H2 => H2 = H' ∧ ∃ v, σ' = [some (.ref a), some (.str (PySem.Str.ofString "tuple")), v]) ⟨rfl, _, rfl⟩ ?_ ?_
    · rintro i σ' H2 hi ⟨rfl, v, rfl⟩
      walk_at "rd"
      refine ⟨_, rfl, ?_⟩
      walk_at "rd"
      exact ⟨rfl, _, rfl⟩
    · rintro σ' H2 ⟨rfl, v, rfl⟩
      walk_at "rd"
      exact q
  · refine ⟨fun σ' H' => σ' = [some (.ref a), some (.str (PySem.Str.ofString "list")), none] ∧ H' = H, ?_, ?_⟩
    · walk_at "rd"
      refine rif_yes (by decide +kernel) ?_
      walk_at "rd"
      exact ⟨rfl, rfl⟩
    rintro σ' H' ⟨rfl, rfl⟩
    walk_at "rd"
    refine forR1 (n := ns.length) (by rw [List.length_map]) (by rw [List.length_map]; omega) (fun i σ' H2 => H2 = H' ∧ ∃ v, σ' = [some (.ref a), some (.str (PySem.Str.ofString "list")), v]) ⟨rfl, _, rfl⟩ ?_ ?_
    · rintro i σ' H2 hi ⟨rfl, v, rfl⟩
      walk_at "rd"
      refine ⟨_, rfl, ?_⟩
      walk_at "rd"
      exact ⟨rfl, _, rfl⟩
    · rintro σ' H2 ⟨rfl, v, rfl⟩
      walk_at "rd"
      exact q
/-- of equal tuples of ints -/
def sp_is_tuple (K : PySem.W.Frag) : Sp := fun vs H Q _ => ∃ (a b : Addr) (ns : List Int), vs = [.ref a, .ref b] ∧ SqT K H a (ns.map V.int) ∧ SqT K H b (ns.map V.int) ∧ ns.length ≤ 10000000 ∧ Q (.bl true) H
theorem d_is_tuple (T : Top K mg) : Def P w K mg base CX0 3 "_law_is_tuple" ["x", "due"] (sp_is_tuple K) := by
  have G__law_ints : Def P w K mg base CX0 2 "_law_ints" ["x", "kind"] (sp_ints K) := d_ints T
  refine T.f__law_is_tuple.ok sc__law_is_tuple (by rintro vs H Q E ⟨a, b, ns, rfl, _⟩; rfl) (fun f cdv A outer s H vs Q E hr h => ?_)
  obtain ⟨a, b, ns, rfl, hA, hB, hz, q⟩ := h
  refine ⟨_, (pss_one (ps_ret (pe_and (pe_callD G__law_ints (hr.mono (by decide)) (pa_cons (pv 0) (pa_cons pe_str pa_nil))) (pe_one (pe_cmpR (r := rEqD K) (op_eqD hr.units) (pv 0) (pv 1) (nomark _)))))), ?_⟩
  walk_at "rd"
  refine ⟨_, _, .inl ⟨rfl, hA⟩, hz, ?_⟩
  walk_at "rd"
  refine r_eqTT hA hB ?_
  rw [decide_eq_true rfl]
  exact q
end

/-! ### ranks of all indexes; what resizing makes -/
theorem range_mul (a b : Nat) : (List.range a).flatMap (fun (r : Nat) => (List.range b).map fun (k : Nat) => r * b + k) = List.range (a * b) := by
  induction a with
  | zero => simp
  | succ a ih =>
    rw [List.range_succ, List.flatMap_append, ih, Nat.succ_mul, List.range_add]
    simp
theorem rank_snoc {a b : List Int} {z p : Int} (h : a.length = b.length) : rankI (a ++ [z]) (b ++ [p]) = rankI a b * z + p := by
  unfold rankI
  rw [List.zip_append h, List.foldl_append]
  rfl
theorem wholeR_at {sh : List Int} {i : Nat} {z : Int} (h : sh[i]? = some z) : (wholeR sh)[i]? = some (0, 1, z) := by
  unfold wholeR
  rw [List.getElem?_map, h]
  rfl
theorem ranks_take {sh : List Int} (h : ∀ z ∈ sh, 0 ≤ z) : ∀ i, i ≤ sh.length → (boxIdx ((wholeR sh).take i)).map (rankI (sh.take i)) = (List.range (prodL (sh.take i)).toNat).map fun (k : Nat) => (k : Int)
  | 0, _ => rfl
  | i + 1, hi => by
    have e : sh[i]? = some sh[i] := List.getElem?_eq_getElem (by omega)
    have ih := ranks_take h i (by omega)
    have hz := h _ (List.mem_of_getElem? e)
    have hp : 0 ≤ prodL (sh.take i) := prodL_nn fun x hx => h x (List.mem_of_mem_take hx)
    rw [boxIdx_take (wholeR_at e), prodL_take e]
    have et : sh.take (i + 1) = sh.take i ++ [sh[i]] := by rw [List.take_add_one, e]; rfl
    rw [et]
    have hl : (sh.take i).length = i := by rw [List.length_take]; omega
    obtain ⟨a, ha⟩ := Int.eq_ofNat_of_zero_le hp
    generalize sh[i] = z at *
    obtain ⟨b, rfl⟩ := Int.eq_ofNat_of_zero_le hz
    rw [ha] at ih ⊢
    unfold stepB
    rw [rowI_whole, List.map_flatMap]
    have e1 : ∀ ix ∈ boxIdx ((wholeR sh).take i), ((((List.range (b : Int).toNat).map fun (k : Nat) => (k : Int)).map fun p => ix ++ [p]).map (rankI (sh.take i ++ [(b : Int)]))) = (List.range b).map fun (k : Nat) => rankI (sh.take i) ix * (b : Int) + (k : Int) := by
      intro ix hx
      have hxl := boxIdx_mem i (by unfold wholeR; rw [List.length_map]; omega) ix hx
      rw [List.map_map, List.map_map, Int.toNat_natCast]
      apply List.map_congr_left
      intro k _
      exact rank_snoc (by omega)
    rw [List.flatMap_def, List.map_congr_left e1, ← List.flatMap_def]
    have e2 : (boxIdx ((wholeR sh).take i)).flatMap (fun ix => (List.range b).map fun (k : Nat) => rankI (sh.take i) ix * (b : Int) + (k : Int)) = ((boxIdx ((wholeR sh).take i)).map (rankI (sh.take i))).flatMap fun R => (List.range b).map fun (k : Nat) => R * (b : Int) + (k : Int) := by
      rw [List.flatMap_map]
    rw [e2, ih, List.flatMap_map, ← Int.natCast_mul, Int.toNat_natCast, Int.toNat_natCast, ← range_mul a b, List.map_flatMap]
    congr 1
    funext r
    rw [List.map_map]
    apply List.map_congr_left
    intro k _
    show (r : Int) * (b : Int) + (k : Int) = ((r * b + k : Nat) : Int)
    rw [Int.natCast_add, Int.natCast_mul]
theorem ranks_all {sh : List Int} (h : ∀ z ∈ sh, 0 ≤ z) : (allIdx sh).map (rankI sh) = (List.range (prodL sh).toNat).map fun (k : Nat) => (k : Int) := by
  have := ranks_take h sh.length (Nat.le_refl _)
  rw [List.take_length, List.take_of_length_le (by unfold wholeR; rw [List.length_map]; exact Nat.le_refl _)] at this
  exact this
theorem rank_at {sh ix : List Int} {j : Nat} (h : ∀ z ∈ sh, 0 ≤ z) (hj : (allIdx sh)[j]? = some ix) : rankI sh ix = (j : Int) := by
  have e := congrArg (fun l => l[j]?) (ranks_all h)
  simp only [List.getElem?_map, hj, Option.map_some] at e
  cases e2 : (List.range (prodL sh).toNat)[j]? with
  | none => rw [e2] at e; cases e
  | some k =>
    rw [e2] at e
    obtain ⟨hk, e3⟩ := List.getElem?_eq_some_iff.mp e2
    rw [List.getElem_range] at e3
    subst e3
    exact Option.some.inj e
theorem all_mem {sh ix : List Int} (hl : ix.length = sh.length) (h : ∀ (j : Nat) (x : Int), ix[j]? = some x → 0 ≤ x ∧ x < gi sh (j : Int)) : ix ∈ allIdx sh := by
  have key : ∀ i, i ≤ sh.length → ix.take i ∈ boxIdx ((wholeR sh).take i) := by
    intro i
    induction i with
    | zero => intro _; exact List.mem_singleton.mpr rfl
    | succ i ih =>
      intro hi
      have e : sh[i]? = some sh[i] := List.getElem?_eq_getElem (by omega)
      have ex : ix[i]? = some ix[i] := List.getElem?_eq_getElem (by omega)
      obtain ⟨h1, h2⟩ := h i _ ex
      rw [gi_get e] at h2
      rw [boxIdx_take (wholeR_at e)]
      unfold stepB
      refine List.mem_flatMap.mpr ⟨_, ih (by omega), ?_⟩
      rw [rowI_whole]
      refine List.mem_map.mpr ⟨ix[i], List.mem_map.mpr ⟨ix[i].toNat, List.mem_range.mpr (by omega), by omega⟩, ?_⟩
      rw [List.take_add_one, ex]
      rfl
  have := key sh.length (Nat.le_refl _)
  rw [← hl, List.take_length, hl, List.take_of_length_le (by unfold wholeR; rw [List.length_map]; exact Nat.le_refl _)] at this
  exact this
theorem putL_miss {j : Nat} : ∀ (ps : List (Int × Int)) (cells : List Int), (∀ p ∈ ps, p.1.toNat ≠ j) → (putL cells ps)[j]? = cells[j]?
  | [], _, _ => rfl
  | p :: ps, cells, h => by
    have := putL_miss ps (cells.set p.1.toNat p.2) fun q hq => h q (List.mem_cons_of_mem _ hq)
    rw [List.getElem?_set_ne (h p List.mem_cons_self)] at this
    exact this
theorem putL_hit {G : Nat → Int} {j : Nat} : ∀ (ps : List (Int × Int)) (cells : List Int), (∀ p ∈ ps, p.2 = G p.1.toNat) → (∃ p ∈ ps, p.1.toNat = j) → j < cells.length → (putL cells ps)[j]? = some (G j)
  | [], _, _, ⟨_, h, _⟩, _ => nomatch h
  | p :: ps, cells, hG, hx, hj => by
    by_cases hin : ∃ q ∈ ps, q.1.toNat = j
    · exact putL_hit ps (cells.set p.1.toNat p.2) (fun q hq => hG q (List.mem_cons_of_mem _ hq)) hin (by rw [List.length_set]; exact hj)
    · have hp : p.1.toNat = j := by
        obtain ⟨q, hq, e⟩ := hx
        rcases List.mem_cons.mp hq with rfl | hq
        · exact e
        · exact absurd ⟨q, hq, e⟩ hin
      have := putL_miss (j := j) ps (cells.set p.1.toNat p.2) fun q hq e => hin ⟨q, hq, e⟩
      refine this.trans ?_
      rw [hp, List.getElem?_set_self hj, hG p List.mem_cons_self, hp]
theorem put_all {sh cells vals : List Int} (h : ∀ z ∈ sh, 0 ≤ z) (hc : cells.length = (prodL sh).toNat) (hv : vals.length = (prodL sh).toNat) : putAll cells ((allIdx sh).map (rankI sh)) vals = vals := by
  rw [ranks_all h]
  apply List.ext_getElem?
  intro j
  by_cases hj : j < (prodL sh).toNat
  · have ev : vals[j]? = some vals[j] := List.getElem?_eq_getElem (by omega)
    unfold putAll
    rw [putL_hit (G := fun j => gi vals (j : Int)) (j := j), gi_nat (show j < vals.length by omega), ev]
    · intro p hp
      obtain ⟨i, hi, e⟩ := List.getElem_of_mem hp
      rw [List.length_zip, List.length_map, List.length_range] at hi
      rw [List.getElem_zip, List.getElem_map, List.getElem_range] at e
      subst e
      show vals[i] = gi vals (((i : Int).toNat : Nat) : Int)
      rw [Int.toNat_natCast, gi_nat (show i < vals.length by omega)]
    · refine ⟨((j : Int), vals[j]), ?_, Int.toNat_natCast j⟩
      refine List.mem_of_getElem? (i := j) (zip_get ?_ ev)
      rw [List.getElem?_map, List.getElem?_range hj]
      rfl
    · omega
  · have e1 : (putAll cells ((List.range (prodL sh).toNat).map fun (k : Nat) => (k : Int)) vals).length = cells.length := putL_len _ _
    rw [List.getElem?_eq_none (by omega), List.getElem?_eq_none (by omega)]
theorem mn_lt {a x y : Int} : a < mn x y ↔ a < x ∧ a < y := by unfold mn; split <;> omega
theorem keep_mem {sh sh2 ix : List Int} (h : sh2.length = sh.length) (hb : ∀ z ∈ sh, 0 ≤ z ∧ z ≤ 6) (hb2 : ∀ z ∈ sh2, 0 ≤ z ∧ z ≤ 6) : ix ∈ boxIdx (keepR sh sh2) ↔ ix ∈ allIdx sh ∧ ix ∈ allIdx sh2 := by
  have hm : ∀ z ∈ msI sh sh2, 0 ≤ z ∧ z ≤ 6 := by
    intro z hz
    obtain ⟨i, hi, e⟩ := List.getElem_of_mem hz
    rw [ms_len h] at hi
    have e1 : sh[i]? = some sh[i] := List.getElem?_eq_getElem hi
    have e2 : sh2[i]? = some sh2[i] := List.getElem?_eq_getElem (by omega)
    have e3 := ms_get e1 e2
    have h1 := hb _ (List.mem_of_getElem? e1)
    have h2 := hb2 _ (List.mem_of_getElem? e2)
    rw [List.getElem?_eq_getElem (by rw [ms_len h]; exact hi), e] at e3
    have e3 := Option.some.inj e3
    have := mn_le sh[i] sh2[i]
    have := mn_nn h1.1 h2.1
    omega
  have hgi : ∀ {j : Nat}, j < sh.length → gi (msI sh sh2) (j : Int) = mn (gi sh (j : Int)) (gi sh2 (j : Int)) := by
    intro j hj
    have e1 : sh[j]? = some sh[j] := List.getElem?_eq_getElem hj
    have e2 : sh2[j]? = some sh2[j] := List.getElem?_eq_getElem (by omega)
    rw [gi_get (ms_get e1 e2), gi_get e1, gi_get e2]
  show ix ∈ allIdx (msI sh sh2) ↔ _
  constructor
  · intro hx
    obtain ⟨k1, k2⟩ := all_isIdx hm hx
    rw [ms_len h] at k1
    have hj : ∀ (j : Nat) (x : Int), ix[j]? = some x → j < sh.length := fun j x e => by have := (List.getElem?_eq_some_iff.mp e).1; omega
    refine ⟨all_mem k1 fun j x e => ?_, all_mem (by omega) fun j x e => ?_⟩ <;>
    · have := k2 j x e
      rw [hgi (hj j x e), mn_lt] at this
      omega
  · rintro ⟨h1, h2⟩
    obtain ⟨k1, k2⟩ := all_isIdx hb h1
    obtain ⟨k3, k4⟩ := all_isIdx hb2 h2
    refine all_mem (by rw [ms_len h]; exact k1) fun j x e => ?_
    have a := k2 j x e
    have b := k4 j x e
    rw [hgi (by have := (List.getElem?_eq_some_iff.mp e).1; omega), mn_lt]
    omega
/-- the values behind a resize, index by index -/
def newF (sh : List Int) (fl : Int) (F : List Int → Int) : List Int → Int := fun ix => if ix ∈ allIdx sh then F ix else fl
theorem gi_all {sh ix : List Int} {F : List Int → Int} (h : ∀ z ∈ sh, 0 ≤ z) (hx : ix ∈ allIdx sh) : gi ((allIdx sh).map F) (rankI sh ix) = F ix := by
  obtain ⟨j, hj, e⟩ := List.getElem_of_mem hx
  have ej : (allIdx sh)[j]? = some ix := by rw [List.getElem?_eq_getElem hj, e]
  rw [rank_at h ej]
  refine gi_get ?_
  rw [List.getElem?_map, ej]
  rfl
theorem resz_eq {fl : Int} {sh sh2 : List Int} {F : List Int → Int} (h : sh2.length = sh.length) (hb : ∀ z ∈ sh, 0 ≤ z ∧ z ≤ 6) (hb2 : ∀ z ∈ sh2, 0 ≤ z ∧ z ≤ 6) : resz fl ((allIdx sh).map F) sh sh2 = (allIdx sh2).map (newF sh fl F) := by
  have h0 : ∀ z ∈ sh, 0 ≤ z := fun z hz => (hb z hz).1
  have h02 : ∀ z ∈ sh2, 0 ≤ z := fun z hz => (hb2 z hz).1
  have hN : (((allIdx sh2).length : Nat) : Int) = prodL sh2 := allIdx_len h02
  unfold resz
  have hg : (boxIdx (keepR sh sh2)).map (fun ix => gi ((allIdx sh).map F) (rankI sh ix)) = (boxIdx (keepR sh sh2)).map F := by
    apply List.map_congr_left
    intro ix hx
    exact gi_all h0 ((keep_mem h hb hb2).mp hx).1
  rw [hg]
  have hz : ((boxIdx (keepR sh sh2)).map (rankI sh2)).zip ((boxIdx (keepR sh sh2)).map F) = (boxIdx (keepR sh sh2)).map fun ix => (rankI sh2 ix, F ix) := by
    rw [List.zip_map']
  unfold putAll
  rw [hz]
  apply List.ext_getElem?
  intro j
  by_cases hj : j < (allIdx sh2).length
  · have ej : (allIdx sh2)[j]? = some (allIdx sh2)[j] := List.getElem?_eq_getElem hj
    have hmem := List.getElem_mem hj
    generalize (allIdx sh2)[j] = ix at *
    rw [List.getElem?_map, ej]
    have hG : ∀ p ∈ (boxIdx (keepR sh sh2)).map (fun ix => (rankI sh2 ix, F ix)), p.2 = F (((allIdx sh2)[p.1.toNat]?).getD []) := by
      intro p hp
      obtain ⟨y, hy, rfl⟩ := List.mem_map.mp hp
      obtain ⟨k, hk, e⟩ := List.getElem_of_mem ((keep_mem h hb hb2).mp hy).2
      have ek : (allIdx sh2)[k]? = some y := by rw [List.getElem?_eq_getElem hk, e]
      show F y = F (((allIdx sh2)[(rankI sh2 y).toNat]?).getD [])
      rw [rank_at h02 ek, Int.toNat_natCast, ek]
      rfl
    by_cases hin : ix ∈ allIdx sh
    · rw [putL_hit (G := fun j => F (((allIdx sh2)[j]?).getD [])) (j := j) _ _ hG]
      · rw [ej]
        show some (F ix) = some (newF sh fl F ix)
        unfold newF
        rw [if_pos hin]
      · refine ⟨(rankI sh2 ix, F ix), List.mem_map.mpr ⟨ix, (keep_mem h hb hb2).mpr ⟨hin, hmem⟩, rfl⟩, ?_⟩
        rw [rank_at h02 ej]
        exact Int.toNat_natCast j
      · rw [List.length_replicate]
        omega
    · rw [putL_miss]
      · rw [List.getElem?_replicate, if_pos (by omega)]
        show some fl = some (newF sh fl F ix)
        unfold newF
        rw [if_neg hin]
      · intro p hp e
        obtain ⟨y, hy, rfl⟩ := List.mem_map.mp hp
        obtain ⟨y1, y2⟩ := (keep_mem h hb hb2).mp hy
        obtain ⟨k, hk, e2⟩ := List.getElem_of_mem y2
        have ek : (allIdx sh2)[k]? = some y := by rw [List.getElem?_eq_getElem hk, e2]
        have e3 : (rankI sh2 y).toNat = j := e
        rw [rank_at h02 ek, Int.toNat_natCast] at e3
        subst e3
        rw [ej] at ek
        cases ek
        exact hin y1
  · rw [List.getElem?_eq_none (by rw [putL_len, List.length_replicate]; omega), List.getElem?_eq_none (by rw [List.length_map]; omega)]
/-! ### dicts whose keys are indexes -/
def kx (ix : List Int) : List Key := ix.map Sum.inl
theorem kx_v (ix : List Int) : (kx ix).map kV = ix.map V.int := by
  unfold kx
  rw [List.map_map]
  rfl
theorem kx_inj {a b : List Int} (h : kx a = kx b) : a = b := by
  have h1 := congrArg (List.map kV) h
  rw [kx_v, kx_v] at h1
  have key : ∀ (a b : List Int), a.map V.int = b.map V.int → a = b := by
    intro a
    induction a with
    | nil => intro b h; cases b with
      | nil => rfl
      | cons y ys => simp at h
    | cons x xs ih => intro b h; cases b with
      | nil => simp at h
      | cons y ys =>
        rw [List.map_cons, List.map_cons] at h
        injection h with h1 h2
        injection h1 with h1
        rw [h1, ih ys h2]
  exact key a b h1
def DcF (kvs : List (List Key × V)) (ixs : List (List Int)) (F : List Int → Int) : Prop := kvs.length ≤ ixs.length ∧ ∀ ix, valV kvs (kx ix) = if ix ∈ ixs then some (V.int (F ix)) else none
theorem DcF.nil (F : List Int → Int) : DcF [] [] F := ⟨Nat.le_refl _, fun ix => by rw [valV_nil, if_neg (by simp)]⟩
theorem DcF.put {kvs : List (List Key × V)} {ixs : List (List Int)} {F : List Int → Int} (h : DcF kvs ixs F) (ix : List Int) : DcF (putK kvs (kx ix) (V.int (F ix))) (ixs ++ [ix]) F := by
  refine ⟨?_, fun jx => ?_⟩
  · have := length_putK kvs (kx ix) (V.int (F ix))
    have := h.1
    rw [List.length_append, List.length_singleton]
    omega
  · rw [valV_put, h.2 jx]
    by_cases e : jx = ix
    · subst e
      rw [if_pos rfl, if_pos (by simp)]
    · rw [if_neg fun z => e (kx_inj z)]
      by_cases hm : jx ∈ ixs
      · rw [if_pos hm, if_pos (List.mem_append.mpr (.inl hm))]
      · rw [if_neg hm, if_neg (by simp [hm, e])]
theorem vals_map {sh vals : List Int} (h : ∀ z ∈ sh, 0 ≤ z) (hv : vals.length = (prodL sh).toNat) : (allIdx sh).map (fun ix => gi vals (rankI sh ix)) = vals := by
  have e : (allIdx sh).map (fun ix => gi vals (rankI sh ix)) = ((allIdx sh).map (rankI sh)).map (gi vals) := by rw [List.map_map]; rfl
  rw [e, ranks_all h, List.map_map, ← hv]
  apply List.ext_getElem?
  intro j
  by_cases hj : j < vals.length
  · rw [List.getElem?_map, List.getElem?_range hj, List.getElem?_eq_getElem hj]
    show some (gi vals (j : Int)) = _
    rw [gi_nat hj]
  · rw [List.getElem?_eq_none (by rw [List.length_map, List.length_range]; omega), List.getElem?_eq_none (by omega)]
theorem DcF.getD {kvs : List (List Key × V)} {sh : List Int} {F : List Int → Int} (h : DcF kvs (allIdx sh) F) (ix : List Int) (fl : Int) : (valV kvs (kx ix)).getD (V.int fl) = V.int (newF sh fl F ix) := by
  rw [h.2 ix]
  unfold newF
  by_cases e : ix ∈ allIdx sh
  · rw [if_pos e, if_pos e]
    rfl
  · rw [if_neg e, if_neg e]
    rfl
theorem Stp.setD {H : Hp} {l : Addr} {kvs : List (List Key × V)} {u : HO} (h : H l = some (.dT kvs)) : Stp H (upd H l u) := fun a ys r => by
  have ne : a ≠ l := by
    rintro rfl
    rcases r with r | ⟨o, r⟩ <;> rw [h] at r <;> cases r
  rcases r with r | ⟨o, r⟩
  · exact .inl (by rw [upd_ne ne]; exact r)
  · exact .inr ⟨o, by rw [upd_ne ne]; exact r⟩

/-! ### all indexes, each a tuple of the heap (keys of dicts) -/
def Stq (H H' : Hp) : Prop := ∀ a xs, H a = some (.tup xs) → H' a = some (.tup xs)
theorem Stq.refl (H : Hp) : Stq H H := fun _ _ h => h
theorem Stq.trans {H H1 H2 : Hp} (a : Stq H H1) (b : Stq H1 H2) : Stq H H2 := fun x xs h => b x xs (a x xs h)
theorem Stq.of {H H' : Hp} (e : Same H H') : Stq H H' := fun _ _ h => e _ _ h
theorem Stq.set {H : Hp} {l : Addr} {u v : HO} (h : H l = some u) (hu : ∀ xs, u ≠ .tup xs) : Stq H (upd H l v) := fun a xs e => by
  have ne : a ≠ l := by
    rintro rfl
    rw [h] at e
    exact hu xs (Option.some.inj e)
  rw [upd_ne ne]
  exact e
def Hx (H : Hp) (v : V) (ix : List Int) : Prop := ∃ a, v = .ref a ∧ H a = some (.tup (ix.map V.int))
theorem Hx.up {H H' : Hp} {v : V} {ix : List Int} (h : Hx H v ix) (e : Stq H H') : Hx H' v ix := let ⟨a, h1, h2⟩ := h; ⟨a, h1, e _ _ h2⟩
inductive HxAll (H : Hp) : List V → List (List Int) → Prop
  | nil : HxAll H [] []
  | cons {v : V} {vs : List V} {ix : List Int} {ixs : List (List Int)} : Hx H v ix → HxAll H vs ixs → HxAll H (v :: vs) (ix :: ixs)
theorem HxAll.up {H H' : Hp} (e : Stq H H') : ∀ {vs : List V} {ixs : List (List Int)}, HxAll H vs ixs → HxAll H' vs ixs
  | _, _, .nil => .nil
  | _, _, .cons a t => .cons (a.up e) (HxAll.up e t)
theorem HxAll.len {H : Hp} : ∀ {vs : List V} {ixs : List (List Int)}, HxAll H vs ixs → vs.length = ixs.length
  | _, _, .nil => rfl
  | _, _, .cons _ t => by rw [List.length_cons, List.length_cons, HxAll.len t]
theorem HxAll.app {H : Hp} : ∀ {vs ws : List V} {ds es : List (List Int)}, HxAll H vs ds → HxAll H ws es → HxAll H (vs ++ ws) (ds ++ es)
  | _, _, _, _, .nil, h => h
  | _, _, _, _, .cons a t, h => .cons a (HxAll.app t h)
theorem HxAll.snoc {H : Hp} {vs : List V} {ds : List (List Int)} {v : V} {d : List Int} (h : HxAll H vs ds) (t : Hx H v d) : HxAll H (vs ++ [v]) (ds ++ [d]) := h.app (.cons t .nil)
theorem HxAll.getV {H : Hp} : ∀ {vs : List V} {ds : List (List Int)} {i : Nat} {v : V}, HxAll H vs ds → vs[i]? = some v → ∃ d a, ds[i]? = some d ∧ v = .ref a ∧ H a = some (.tup (d.map V.int))
  | _, _, _, _, .nil, h => by simp at h
  | _, _, 0, _, .cons a _, h => by simp at h; subst h; obtain ⟨x, h1, h2⟩ := a; exact ⟨_, x, rfl, h1, h2⟩
  | _, _, i + 1, _, .cons _ t, h => by
    simp only [List.getElem?_cons_succ] at h
    obtain ⟨d, a, h1, h2⟩ := HxAll.getV t h
    exact ⟨d, a, by simpa using h1, h2⟩
section
variable {K : PySem.W.Frag} {H0 H : Hp} {L : List (Addr × HO)} {Q : VK}
theorem r_newLq {xs : List V} (o : Own H0 H L) (hz : xs.length ≤ 10000000) (k : ∀ p H', Same H H' → Own H0 H' ((p, .lst xs) :: L) → Q (.ref p) H') : RNewL xs H Q := ⟨sz100 hz, fun p hp => k p _ (same_new hp) (o.new hp)⟩
theorem r_newTq {xs : List V} (o : Own H0 H L) (hz : xs.length ≤ 10000000) (k : ∀ p H', Same H H' → Own H0 H' L → H' p = some (.tup xs) → Q (.ref p) H') : RNewT xs H Q := ⟨sz100 hz, fun p hp => k p _ (same_new hp) (o.mono (same_new hp)) upd_same⟩
theorem r_catQ {a b : Addr} {xs ys : List V} (o : Own H0 H L) (ha : H a = some (.tup xs)) (hb : H b = some (.tup ys)) (hz : xs.length + ys.length ≤ 10000000) (k : ∀ p H', Same H H' → Own H0 H' L → H' p = some (.tup (xs ++ ys)) → Q (.ref p) H') : rCatA K (.ref a) (.ref b) H Q := by
  refine ⟨a, b, xs, ys, rfl, rfl, SqT.of ha, SqT.of hb, sz100 hz, fun e => ?_, fun _ e => ?_, fun _ _ p hp => k p _ (same_new hp) (o.mono (same_new hp)) upd_same⟩
  · subst e
    exact k b H (Same.refl _) o hb
  · subst e
    exact k a H (Same.refl _) o (by rw [List.append_nil]; exact ha)
theorem r_appq {l : Addr} {xs : List V} {y : V} (o : Own H0 H L) (n : Nat) (h : L[n]? = some (l, .lst xs)) (hz : xs.length < 10000000) (k : ∀ H', Stq H H' → Own H0 H' (L.set n (l, .lst (xs ++ [y]))) → Q .non H') : rAppend (.ref l) [y] H Q :=
  ⟨l, xs, y, rfl, rfl, o.at n h, sz_lt hz, k _ (Stq.set (o.at n h) fun xs h => nomatch h) (o.set n h)⟩
end
def RetLX (H : Hp) (Q : VK) (ixs : List (List Int)) : Prop := ∀ H' p zs, Same H H' → H p = none → H' p = some (.lst zs) → HxAll H' zs ixs → Q (.ref p) H'
section
variable {P : Program} {w : World} {K : PySem.W.Frag} {mg : Str → Option Value} {base : Heap}
def sp_law_allT (K : PySem.W.Frag) : Sp := fun vs H Q _ => ∃ (a : Addr) (sh : List Int), vs = [.ref a] ∧ SqT K H a (sh.map V.int) ∧ sh.length ≤ 6 ∧ (∀ z ∈ sh, 0 ≤ z ∧ z ≤ 6) ∧ RetLX H Q (allIdx sh)
theorem d_law_allT (T : Top K mg) : Def P w K mg base CX0 1 "_law_all" ["shape"] (sp_law_allT K) := by
  refine T.f__law_all.ok sc__law_all (by rintro vs H Q E ⟨a, sh, rfl, _⟩; rfl) (fun f cdv A outer s H vs Q E hr h => ?_)
  obtain ⟨a, sh, rfl, ha, hz, hb, q⟩ := h
  refine ⟨_, (pss_cons (ps_set (i := 1) sc__law_all.nd rfl (Or.inl rfl) (pe_lst (pa_cons (pe_tup pa_nil) pa_nil)))
      (pss_cons (ps_for PassesOwn.never rfl (pi_tup (pv 0)) (pg_name (i := 2) sc__law_all.nd rfl (Or.inl rfl)) (pss_cons (ps_set (i := 3) sc__law_all.nd rfl (Or.inl rfl) (pe_lst pa_nil))
      (pss_cons (ps_for PassesOwn.never rfl (pi_list (pv 1)) (pg_name (i := 4) sc__law_all.nd rfl (Or.inl rfl)) (pss_one (ps_for PassesOwn.never rfl (pi_range1 (by rfl) T.b_range (pa_cons (pv 2) pa_nil)) (pg_name (i := 5) sc__law_all.nd rfl (Or.inl rfl)) (pss_one (ps_expr (pe_bm PySem.F.plainAttrs_list PySem.F.slot_list_append PySem.F.type_list_append mt_append (pv 3) (pa_cons (pe_op (r := rCatA K) op_catA (pv 4) (pe_tup (pa_cons (pv 5) pa_nil))) pa_nil)))))))
      (pss_one (ps_set (i := 1) sc__law_all.nd rfl (Or.inl rfl) (pv 3))))))
      (pss_one (ps_ret (pv 1))))), ?_⟩
  walk_at "rd"
  refine r_newTq (Own.nil H) (Nat.zero_le _) fun t0 H1 s1 o1 h1 => ?_
  walk_at "rd"
  refine r_newLq o1 (Nat.le_of_ble_eq_true rfl) fun p H2 s2 o2 => ?_
  walk_at "rd"
  have hwb : ∀ r ∈ wholeR sh, r.2.2 ≤ 6 := by
    intro r hr
    obtain ⟨z, hz, rfl⟩ := List.mem_map.mp hr
    exact (hb z hz).2
  have hwl : (wholeR sh).length = sh.length := List.length_map ..
  refine forT (o2.oldT ha) (fun i σ' H' => ∃ (p : Addr) (zs : List V) (v2 v3 v4 v5 : Option V) (L : List (Addr × HO)), σ' = [some (.ref a), some (.ref p), v2, v3, v4, v5] ∧ HxAll H' zs (boxIdx ((wholeR sh).take i)) ∧ Own H H' ((p, .lst zs) :: L)) ?_ (fun i σ' H' _ ⟨_, _, _, _, _, _, _, _, _, o⟩ => o.oldT ha) ?_ ?_
  · exact ⟨p, _, _, _, _, _, _, rfl, .cons ⟨t0, rfl, s2 _ _ h1⟩ .nil, o2⟩
  · rintro i x σ' H' hx ⟨p, zs, v2, v3, v4, v5, L, rfl, tz, o⟩
    obtain ⟨z, hz', rfl⟩ := int_atT hx
    have hzb := hb z (List.mem_of_getElem? hz')
    have hi : i < sh.length := (List.getElem?_eq_some_iff.mp hz').1
    have hr : (wholeR sh)[i]? = some (0, 1, z) := wholeR_at hz'
    have hl1 := boxIdx_bnd hwb i (by omega)
    have hl2 := pow6 (i := i) (by omega)
    have hzl := tz.len
    walk_at "rd"
    refine r_newLq o (Nat.zero_le _) fun pm H3 s3 o3 => ?_
    walk_at "rd"
    refine forL (o3.sqL 1 rfl) (fun j σ' H' => ∃ (zm : List V) (v4 v5 : Option V), σ' = [some (.ref a), some (.ref p), some (.int z), some (.ref pm), v4, v5] ∧ HxAll H' zm (stepB ((boxIdx ((wholeR sh).take i)).take j) (0, 1, z)) ∧ Own H H' ((pm, .lst zm) :: (p, .lst zs) :: L) ∧ Stq H3 H') ?_ (fun j σ' H' _ ⟨_, _, _, _, _, o, _⟩ => o.sqL 1 rfl) ?_ ?_
    · exact ⟨_, _, _, rfl, .nil, o3, .refl _⟩
    · rintro j y σ' H4 hy ⟨zm, v4, v5, rfl, tm, o4, s4⟩
      obtain ⟨ix, a4, e4, rfl, ha4⟩ := ((tz.up (.of s3)).up s4).getV hy
      have hixl := boxIdx_mem i (by omega) ix (List.mem_of_getElem? e4)
      have hml := tm.len
      rw [stepB_len, List.length_take] at hml
      walk_at "rd"
      refine forR1 (n := z.toNat) (by omega) (by omega) (fun k σ' H' => ∃ (zm : List V) (v5 : Option V), σ' = [some (.ref a), some (.ref p), some (.int z), some (.ref pm), some (.ref a4), v5] ∧ HxAll H' zm ((stepB ((boxIdx ((wholeR sh).take i)).take j) (0, 1, z)) ++ ((rowI (0, 1, z)).take k).map fun q => ix ++ [q]) ∧ Own H H' ((pm, .lst zm) :: (p, .lst zs) :: L) ∧ Stq H4 H') ?_ ?_ ?_
      · exact ⟨zm, _, rfl, by simpa using tm, o4, .refl _⟩
      · rintro k σ' H5 hk ⟨zm', v5, rfl, tm', o5, s5⟩
        have hml' := tm'.len
        rw [List.length_append, stepB_len, List.length_map, List.length_take, List.length_take, rowI_len] at hml'
        have hml2 : zm'.length ≤ 6 * 46656 + 6 := by
          have e1 : min j (boxIdx ((wholeR sh).take i)).length * z.toNat ≤ 46656 * 6 := Nat.mul_le_mul (by omega) (by omega)
          have e2 : min k z.toNat ≤ 6 := by omega
          have e3 : zm'.length = min j (boxIdx ((wholeR sh).take i)).length * z.toNat + min k z.toNat := hml'
          omega
        walk_at "rd"
        refine r_newTq o5 (Nat.le_of_ble_eq_true rfl) fun t6 H6 s6 o6 h6 => ?_
        walk_at "rd"
        refine r_catQ (K := K) o6 ((s5.trans (.of s6)) _ _ ha4) h6 (by simp only [List.length_map, List.length_cons, List.length_nil]; omega) fun t7 H7 s7 o7 h7 => ?_
        walk_at "rd"
        refine r_appq o7 0 rfl (by omega) fun H8 s8 o8 => ?_
        walk_at "rd"
        refine ⟨_, _, rfl, ?_, o8, ((s5.trans (.of s6)).trans (.of s7)).trans s8⟩
        rw [show ∀ X : List (List Int), X ++ ((rowI (0, 1, z)).take (k + 1)).map (fun q => ix ++ [q]) = (X ++ ((rowI (0, 1, z)).take k).map (fun q => ix ++ [q])) ++ [ix ++ [0 + 1 * (k : Int)]] from fun X => by rw [rowI_take (r := (0, 1, z)) (show k < z.toNat from hk), List.map_append, List.append_assoc]; rfl]
        refine (((tm'.up (.of s6)).up (.of s7)).up s8).snoc ⟨t7, rfl, ?_⟩
        have e : ix ++ [0 + 1 * (k : Int)] = ix ++ [(k : Int)] := by rw [Int.one_mul, Int.zero_add]
        rw [e, List.map_append]
        exact s8 _ _ h7
      · rintro σ' H5 ⟨zm', v5, rfl, tm', o5, s5⟩
        refine ⟨zm', _, _, rfl, ?_, o5, s4.trans s5⟩
        rw [stepB_take e4]
        rw [List.take_of_length_le (l := rowI (0, 1, z)) (by rw [rowI_len]; exact Nat.le_refl _)] at tm'
        exact tm'
    · rintro σ' H4 ⟨zm, v4, v5, rfl, tm, o4, s4⟩
      walk_at "rd"
      refine ⟨pm, zm, _, _, _, _, _, rfl, ?_, o4⟩
      rw [boxIdx_take hr]
      rw [List.take_of_length_le (show (boxIdx ((wholeR sh).take i)).length ≤ zs.length by omega)] at tm
      exact tm
  · rintro σ' H' ⟨p, zs, v2, v3, v4, v5, L, rfl, tz, o⟩
    walk_at "rd"
    rw [List.length_map, ← hwl, List.take_length] at tz
    exact q H' p zs o.ex (o.fresh 0 rfl) (o.at 0 rfl) tz
def sp_law_manyT (K : PySem.W.Frag) : Sp := fun vs H Q _ => ∃ (a : Addr) (ns : List Int), vs = [.ref a] ∧ SqT K H a (ns.map V.int) ∧ (∀ x ∈ ns, -(2 ^ 60) ≤ x ∧ x ≤ 2 ^ 60) ∧ Q (.int (prodL ns)) H
theorem d_law_manyT (T : Top K mg) : Def P w K mg base CX0 1 "_law_many" ["shape"] (sp_law_manyT K) := by
  refine T.f__law_many.ok sc__law_many (by rintro vs H Q E ⟨a, ns, rfl, _⟩; rfl) (fun f cdv A outer s H vs Q E hr h => ?_)
  obtain ⟨a, ns, rfl, hS, hok, q⟩ := h
  refine ⟨_, (pss_cons (ps_set (i := 1) sc__law_many.nd rfl (Or.inl rfl) pe_int)
      (pss_cons (ps_for PassesOwn.never rfl (pi_tup (pv 0)) (pg_name (i := 2) sc__law_many.nd rfl (Or.inl rfl)) (pss_one (ps_set (i := 1) sc__law_many.nd rfl (Or.inl rfl) (pe_op op_mul (pv 1) (pv 2)))))
      (pss_one (ps_ret (pv 1))))), ?_⟩
  walk_at "rd"
  refine forT hS (fun i σ' H' => H' = H ∧ ∃ v, σ' = [some (.ref a), some (.int (prodL (ns.take i))), v]) ⟨rfl, _, rfl⟩ (fun i σ' H' _ ⟨e, _⟩ => by rw [e]; exact hS) ?_ ?_
  · rintro i v σ' H' hi ⟨rfl, v2, rfl⟩
    obtain ⟨x, hx, rfl⟩ := int_atT hi
    have hx0 := hok x (List.mem_of_getElem? hx)
    walk_at "rd"
    refine ⟨rfl, some (.int x), ?_⟩
    rw [prodL_take hx]
    rfl
  · rintro σ' H' ⟨rfl, v2, rfl⟩
    walk_at "rd"
    rw [List.length_map, List.take_length]
    exact q
end

section
variable {P : Program} {w : World} {K : PySem.W.Frag} {mg : Str → Option Value} {base : Heap}
def lawK : Nat := 12
theorem ok_law (hP : PrOk P) {f : Addr} {fd : FuncData} (F : Fun K "law" "law" s_law f fd) (T : Top K mg) : FnOk P w K mg base CX0 lawK f fd ["script"] (spLaw K) := by
  obtain ⟨C, C_PlainArray⟩ := T.c_PlainArray
  obtain ⟨C_TesseraError, C_InvalidShape, C_InvalidSelection, C_TooLarge, C_WrongCount, R⟩ := T.errs
  have E_TooLarge := ini_TooLarge (P := P) (w := w) (base := base) hP T.b_super (d_told T) R.c_TooLarge R.i_TooLarge
  have E_WrongCount := ini_WrongCount (P := P) (w := w) (base := base) hP T.b_super (d_told T) R.c_WrongCount R.i_WrongCount
  have G__law_stream : Def P w K mg base CX0 2 "_law_stream" ["script", "count"] (sp_stream K) := d_stream T
  have G__law_shape : Def P w K mg base CX0 1 "_law_shape" ["draws", "at", "most"] (sp_law_shape K) := d_law_shape T
  have G__law_all : Def P w K mg base CX0 1 "_law_all" ["shape"] (sp_law_allT K) := d_law_allT T
  have G__law_whole : Def P w K mg base CX0 1 "_law_whole" ["shape"] (sp_whole K) := d_law_whole T
  have G__law_many : Def P w K mg base CX0 1 "_law_many" ["shape"] (sp_law_manyT K) := d_law_manyT T
  have G__law_same_ints : Def P w K mg base CX0 3 "_law_same_ints" ["x", "due"] (sp_same_ints K) := d_same_ints T
  have G__law_is_tuple : Def P w K mg base CX0 3 "_law_is_tuple" ["x", "due"] (sp_is_tuple K) := d_is_tuple T
  have G__law_is_number : Def P w K mg base CX0 2 "_law_is_number" ["x", "due"] sp_is_number := d_is_number T
  have IZ_PlainArray : KDef P w K mg base CX0 4 C ["self", "shape", "fill"] (spZ (sp_painitE K C C_InvalidShape C_TooLarge)) := (d_painitE T R E_TooLarge C_PlainArray).toX.toZ
  have MZ_PlainArray_write : MDef P w K mg base CX0 5 C "write" ["self", "selection", "values"] (spZ (sp_pawriteE K C C_InvalidSelection C_TooLarge C_WrongCount)) := (d_pawriteE T R E_TooLarge E_WrongCount C_PlainArray).toX.toZ
  have MZ_PlainArray_resize : MDef P w K mg base CX0 8 C "resize" ["self", "shape"] (spZ (sp_paresizeE K C C_InvalidShape C_TooLarge)) := (d_paresizeE T R E_TooLarge E_WrongCount C_PlainArray).toX.toZ
  have M_PlainArray_all_values : MDef P w K mg base CX0 1 C "all_values" ["self"] (sp_paall K C) := d_paall T C_PlainArray
  refine F.ok sc_law (by rintro vs H Q E ⟨a, ss, rfl, _⟩; rfl) (fun cdv A outer s H vs Q E hr h => ?_)
  obtain ⟨a, ss, rfl, hS, hl, hb, q⟩ := h
  refine ⟨_, (pss_cons (ps_set (i := 1) sc_law.nd rfl (Or.inr rfl) (pe_callD G__law_stream (hr.mono (by decide)) (pa_cons (pv 0) (pa_cons pe_int pa_nil))))
      (pss_cons (ps_set (i := 2) sc_law.nd rfl (Or.inl rfl) (pe_callD G__law_shape (hr.mono (by decide)) (pa_cons (pv 1) (pa_cons pe_int (pa_cons pe_int pa_nil)))))
      (pss_cons (ps_set (i := 3) sc_law.nd rfl (Or.inl rfl) (pe_op op_sub (pe_op op_mod (pe_ix (r := rIxL K) ix_list (pv 1) pe_int (fun _ _ => rfl)) pe_int) pe_int))
      (pss_cons (ps_set (i := 4) sc_law.nd rfl (Or.inl rfl) (pe_makeD IZ_PlainArray C_PlainArray.at_ (hr.mono (by decide)) (pa_cons (pv 2) (pa_cons (pv 3) pa_nil))))
      (pss_cons (ps_setLc (i := 5) (own := [("k", 6)]) (g := (gName 6)) (tt := tYes) rfl sc_law.nd rfl rfl (sw_true rfl rfl rfl (by decide +kernel)) (pi_range1 (by rfl) T.b_range (pa_cons (pe_callD G__law_many (hr.mono (by decide)) (pa_cons (pv 2) pa_nil)) pa_nil)) (blkOk_by (N := N_law) (sc := defScope s_law) (by decide +kernel)) (fun _ _ _ _ _ => (pg_name (i := 6) sc_law.nd rfl (Or.inl rfl))) (fun _ _ _ _ _ => pts_nil) (fun _ _ _ _ _ => (pe_ix (r := rIxL K) ix_list (pv 1) (pe_op op_mod (pe_op op_add (pv 6) pe_int) pe_int) (fun _ _ => rfl))))
      (pss_cons (ps_expr (pe_methD (pv 4) C_PlainArray.cl MZ_PlainArray_write (hr.mono (by decide)) (pa_cons (pe_callD G__law_whole (hr.mono (by decide)) (pa_cons (pv 2) pa_nil)) (pa_cons (pv 5) pa_nil))))
      (pss_cons (ps_set (i := 7) sc_law.nd rfl (Or.inr rfl) pe_dnewT)
      (pss_cons (ps_set (i := 8) sc_law.nd rfl (Or.inl rfl) (pe_callD G__law_all (hr.mono (by decide)) (pa_cons (pv 2) pa_nil)))
      (pss_cons (ps_for PassesOwn.never rfl (pi_range1 (by rfl) T.b_range (pa_cons (pe_callB (r := Evl.rLenS K) call_len_seq (by rfl) T.b_len (by decide +kernel) (pa_cons (pv 8) pa_nil)) pa_nil)) (pg_name (i := 6) sc_law.nd rfl (Or.inr rfl)) (pss_one (ps_dput (Nat.lt_of_le_of_lt (Nat.add_le_add_left (by decide) _) hr.units) (pv 7) (pe_ix (r := rIxL K) ix_list (pv 8) (pv 6) (fun _ _ => rfl)) (pe_ix (r := rIxL K) ix_list (pv 5) (pv 6) (fun _ _ => rfl)) rfl)))
      (pss_cons (ps_for PassesOwn.never rfl (pi_range1 (by rfl) T.b_range (pa_cons (pe_op op_add pe_int (pe_op op_mod (pe_ix (r := rIxL K) ix_list (pv 1) pe_int (fun _ _ => rfl)) pe_int)) pa_nil)) (pg_name (i := 6) sc_law.nd rfl (Or.inr rfl)) (pss_cons (ps_set (i := 9) sc_law.nd rfl (Or.inl rfl) (pe_callTy (r := rTupS K) call_tuple_of (by rfl) T.b_tuple (by decide +kernel) (pa_cons (pe_lc (own := [("j", 10)]) (g := (gName 10)) (tt := tYes) rfl sc_law.nd (pi_range1 (by rfl) T.b_range (pa_cons (pe_callB (r := Evl.rLenS K) call_len_seq (by rfl) T.b_len (by decide +kernel) (pa_cons (pv 2) pa_nil)) pa_nil)) (blkOk_by (N := N_law) (sc := defScope s_law) (by decide +kernel)) (fun _ _ _ _ _ => (pg_name (i := 10) sc_law.nd rfl (Or.inl rfl))) (fun _ _ _ _ _ => pts_nil) (fun _ _ _ _ _ => (pe_op op_mod (pe_ix (r := rIxL K) ix_list (pv 1) (pe_op op_add (pe_op op_add pe_int (pe_op op_mul pe_int (pv 6))) (pv 10)) (fun _ _ => rfl)) pe_int))) pa_nil)))
      (pss_cons (ps_if (pt_cmpR (r := rNotNon) op_notN (pe_methD (pv 4) C_PlainArray.cl MZ_PlainArray_resize (hr.mono (by decide)) (pa_cons (pv 9) pa_nil)) pe_non (nomark _)) (pss_one (ps_ret pe_bl)) pss_nil)
      (pss_cons (ps_set (i := 11) sc_law.nd rfl (Or.inl rfl) pe_dnewT)
      (pss_cons (ps_for PassesOwn.never rfl (pi_list (pe_callD G__law_all (hr.mono (by decide)) (pa_cons (pv 9) pa_nil))) (pg_name (i := 12) sc_law.nd rfl (Or.inl rfl)) (pss_one (ps_dput (Nat.lt_of_le_of_lt (Nat.add_le_add_left (by decide) _) hr.units) (pv 11) (pv 12) (pe_dget2 (Nat.lt_of_le_of_lt (Nat.add_le_add_left (by decide) _) hr.units) (pv 7) (pv 12) (pv 3) ⟨rfl, rfl, rfl, rfl⟩) rfl)))
      (pss_cons (ps_set (i := 7) sc_law.nd rfl (Or.inr rfl) (pv 11))
      (pss_cons (ps_set (i := 2) sc_law.nd rfl (Or.inl rfl) (pv 9))
      (pss_cons (ps_if (pt_not (pt_val (pe_callD G__law_is_tuple (hr.mono (by decide)) (pa_cons (pe_fld (pv 4) rfl) (pa_cons (pv 2) pa_nil))))) (pss_one (ps_ret pe_bl)) pss_nil)
      (pss_one (ps_if (pt_not (pt_val (pe_callD G__law_same_ints (hr.mono (by decide)) (pa_cons (pe_methD0 (pv 4) C_PlainArray.cl M_PlainArray_all_values (hr.mono (by decide))) (pa_cons (pe_lc (own := [("index", 12)]) (g := (gName 12)) (tt := tYes) rfl sc_law.nd (pi_list (pe_callD G__law_all (hr.mono (by decide)) (pa_cons (pv 2) pa_nil))) (blkOk_by (N := N_law) (sc := defScope s_law) (by decide +kernel)) (fun _ _ _ _ _ => (pg_name (i := 12) sc_law.nd rfl (Or.inl rfl))) (fun _ _ _ _ _ => pts_nil) (fun _ _ _ _ _ => (pe_dget (Nat.lt_of_le_of_lt (Nat.add_le_add_left (by decide) _) hr.units) (pv 7) (pv 12) (fun _ _ => rfl)))) pa_nil))))) (pss_one (ps_ret pe_bl)) pss_nil))))))))))
      (pss_one (ps_ret (pe_callD G__law_is_number (hr.mono (by decide)) (pa_cons (pe_fld (pv 4) rfl) (pa_cons (pv 3) pa_nil))))))))))))))), ?_⟩
  walk_at "rd"
  refine ⟨_, _, 48, rfl, hS, by omega, fun dr hdl hd => r_ret1 (Own.nil H) fun p1 H1 o1 => ?_⟩
  walk_at "rd"
  refine ⟨p1, dr, 0, 5, rfl, o1.sqL 0 rfl, hd, by omega, by decide, fun sh hz hbs H2 u s2 t2 => ?_⟩
  obtain ⟨ash, rfl, hsh⟩ := Tp.invI (ns := sh) t2
  have hs6 : ∀ z ∈ sh, 0 ≤ z ∧ z ≤ 6 := fun z hz => by have := hbs z hz; omega
  have o2 := o1.mono s2
  have hD2 : SqL K H2 p1 (dr.map V.int) := o2.sqL 0 rfl
  have g6 := hd.gi (i := 6) (by omega) (by omega)
  have g8 := hd.gi (i := 8) (by omega) (by omega)
  walk_at "rd"
  intro x dx nx ndx nex
  have oa := o2.new (u := .own x) ndx
  have ob := oa.new (u := .ins C dx []) (show upd H2 dx (.own x) x = none by rw [upd_ne (Ne.symm nex)]; exact nx)
  have sA : Stp H2 (upd (upd H2 dx (.own x)) x (.ins C dx [])) := (Stp.of (same_new ndx)).trans (.of (same_new (by rw [upd_ne (Ne.symm nex)]; exact nx)))
  generalize upd (upd H2 dx (.own x)) x (.ins C dx []) = H3 at *
  have hN : ((allIdx sh).length : Int) = prodL sh := allIdx_len fun z hz => (hs6 z hz).1
  have hB : ∀ {sh : List Int}, sh.length ≤ 3 → (∀ z ∈ sh, 0 ≤ z ∧ z ≤ 6) → (allIdx sh).length ≤ 46656 := by
    intro sh hl hs6
    have hN1 := boxIdx_bnd (rs := wholeR sh) (fun r hr => by obtain ⟨z, hz, rfl⟩ := List.mem_map.mp hr; exact (hs6 z hz).2) sh.length (by unfold wholeR; rw [List.length_map]; exact Nat.le_refl _)
    have hN2 := pow6 (i := sh.length) (by omega)
    rw [List.take_of_length_le (by unfold wholeR; rw [List.length_map]; exact Nat.le_refl _)] at hN1
    exact Nat.le_trans hN1 hN2
  have hSh : ∀ {sh : List Int}, sh.length ≤ 3 → (∀ z ∈ sh, 0 ≤ z ∧ z ≤ 6) → isShape sh = true := by
    intro sh hl hs6
    unfold isShape
    rw [Bool.and_eq_true, decide_eq_true_eq]
    refine ⟨by omega, List.all_eq_true.mpr fun z hz => ?_⟩
    have := hs6 z hz
    exact decide_eq_true (by omega)
  have hN3 := hB hz hs6
  have hshp := hSh hz hs6
  refine ⟨x, dx, ash, sh, _, rfl, ob.at 0 rfl, sA.sq hsh, by omega, fun h => absurd (hshp.symm.trans h) (by decide), fun _ h => absurd h (by omega), fun _ _ l H4 hf hl4 hp4 hz4 => ?_⟩
  have oc := ob.chg 0 rfl hf hp4
  have od := Own.addF ob oc rfl hl4 hz4
  have sB : Stp H3 H4 := stp_frame (ob.at 0 rfl) hf
  have hsh4 := (sA.trans sB).sq hsh
  clear oa ob oc sA sB hf hl4 hp4 hz4 nx ndx nex hD2
  refine ⟨rfl, ?_⟩
  generalize gi dr 6 % 7 - 3 = fl at *
  have er : List.replicate (prodL sh).toNat (V.int fl) = (List.replicate (prodL sh).toNat fl).map V.int := (List.map_replicate ..).symm
  rw [er] at od
  walk_at "rd"
  refine ⟨ash, sh, rfl, hsh4, fun z hz => by have := hs6 z hz; omega, ?_⟩
  walk_at "rd"
  refine lcjR (K := K) (n := (allIdx sh).length) (fun j => some (.int (gi dr (((j : Int) + 7) % 48)))) od (by omega) (by omega) ?_ ?_
  · intro j p4 zs4 H' R' hj o' s' r
    refine r_name (r _ rfl (fun Qb k => k H' (Same.refl _)) fun d' H2 hd' s2 Qv qv => ?_)
    cases hd'
    have hD' : SqL K H2 p1 (dr.map V.int) := same_seqL' s2 (o'.sqL 4 rfl)
    walk_at "rd"
    exact qv _ _ (Same.refl _) (.int _)
  intro pv H5 zs5 s5 o5 t5
  rw [rfm_all] at t5
  have e5 := ints_invF t5
  subst e5
  have hvl : ((List.range (allIdx sh).length).map fun (j : Nat) => gi dr (((j : Int) + 7) % 48)).length = (allIdx sh).length := by rw [List.length_map, List.length_range]
  generalize ((List.range (allIdx sh).length).map fun (j : Nat) => gi dr (((j : Int) + 7) % 48)) = vals at *
  have hsh5 := s5.sq hsh4
  walk_at "rd"
  refine ⟨x, dx, _, rfl, o5.at 2 rfl, rfl, ?_⟩
  walk_at "rd"
  refine ⟨ash, sh, rfl, hsh5, by omega, r_retD o5 fun u6 H6 s6 o6 t6 => ?_⟩
  have hsh6 := (Stp.of s6).sq hsh5
  obtain ⟨a6, x6, rfl, _, _⟩ := Tp.inv (show Tp K H6 u6 (.tuple [.str (PySem.Str.ofString "box"), .tuple ((wholeR sh).map triI)]) from t6)
  have h0 : ∀ z ∈ sh, 0 ≤ z := fun z hz => (hs6 z hz).1
  have inW := box_in2 (wholeR_ok hs6) (List.length_map ..) (show sh.length ≤ 4 by omega)
  have hrl : (List.replicate (prodL sh).toNat fl).length = (prodL sh).toNat := List.length_replicate ..
  have hixW : (Sel.box (wholeR sh)).idx = allIdx sh := box_idx fun r hr => by obtain ⟨z, hz, rfl⟩ := List.mem_map.mp hr; exact h0 z hz
  walk_at "rd"
  refine ⟨x, l, dx, ash, pv, .int fl, .ref a6, sh, List.replicate (prodL sh).toNat fl, vals, .box (wholeR sh), rfl, o6.at 2 rfl, o6.at 1 rfl, o6.ne (i := 0) (j := 1) rfl rfl (by decide), o6.at 0 rfl, hsh6, by omega, (fun z hz => by have := hs6 z hz; omega), t6, by rw [hrl]; exact SelC.of inW, by omega, fun h => absurd (inW.1.symm.trans h) (by decide), fun _ h => absurd h (by have := inW.2.1; omega), fun _ _ h => absurd (hvl.trans (by rw [hixW])) h, fun _ _ _ H7 hf7 hl7 => ?_⟩
  have o7 := o6.chg 1 rfl hf7 hl7
  have s7 := stp_frameL (o6.at 1 rfl) hf7
  rw [hixW, put_all h0 hrl (by omega)] at o7
  have hsh7 := s7.sq hsh6
  clear hf7 hl7 t6 hrl er od o5 o6
  walk_at "rd"
  intro pd nd
  have o8 := o7.new (u := .dT []) nd
  have s8 := same_new (u := .dT []) nd
  generalize upd H7 pd (.dT []) = H8 at *
  have hsh8 := (Stp.of s8).sq hsh7
  walk_at "rd"
  refine ⟨ash, sh, rfl, hsh8, by omega, hs6, fun H9 pi zi e9 f9 a9 t9 => ?_⟩
  have o9 := o8.add e9 f9 a9
  have hsh9 := (Stp.of e9).sq hsh8
  have hzl := t9.len
  have hZ9 : SqL K H9 pi zi := o9.sqL 0 rfl
  clear o7 o8 e9 f9 a9 s8 nd
  walk_at "rd"
  have hvN : vals.length = (prodL sh).toNat := by omega
  have hvm := vals_map h0 hvN
  have hF : ∀ {j : Nat} {ix : List Int}, (allIdx sh)[j]? = some ix → gi vals (j : Int) = gi vals (rankI sh ix) := fun hj => by rw [rank_at h0 hj]
  generalize hFe : (fun ix => gi vals (rankI sh ix)) = F at hvm
  have hF : ∀ {j : Nat} {ix : List Int}, (allIdx sh)[j]? = some ix → gi vals (j : Int) = F ix := fun hj => by rw [hF hj, ← hFe]
  clear hFe
  refine forR1 (n := zi.length) rfl (by omega) (fun k σ' H' => ∃ (kvs : List (List Key × V)) (v6 v9 v10 v11 v12 : Option V), σ' = [some (.ref a), some (.ref p1), some (.ref ash), some (.int fl), some (.ref x), some (.ref pv), v6, some (.ref pd), some (.ref pi), v9, v10, v11, v12] ∧ DcF kvs ((allIdx sh).take k) F ∧ Own H H' [(pi, .lst zi), (pd, .dT kvs), (pv, .lst (vals.map V.int)), (l, .lst (vals.map V.int)), (x, .ins C dx (paF (.ref ash) (.int fl) (.ref l))), (dx, .own x), (p1, .lst (dr.map V.int))] ∧ Stq H9 H' ∧ Stp H9 H') ⟨_, _, _, _, _, _, rfl, DcF.nil F, o9, .refl _, .refl _⟩ ?_ ?_
  · rintro k σ' H' hk ⟨kvs, v6, v9, v10, v11, v12, rfl, hD, o, sq, sp⟩
    have hzk : zi[k]? = some zi[k] := List.getElem?_eq_getElem hk
    obtain ⟨ix, aj, e4, ez, haj⟩ := (t9.up sq).getV hzk
    rw [ez] at hzk
    have hV : SqL K H' pv (vals.map V.int) := o.sqL 2 rfl
    have hI : SqL K H' pi zi := o.sqL 0 rfl
    have hkl := hD.1
    rw [List.length_take] at hkl
    walk_at "rd"
    unfold sDPut
    walk_at "rd"
    refine r_ixL hI (atI_nat hzk) ?_
    refine ⟨pd, _, rfl, DPut.t (k := kx ix) (o.at 1 rfl) (by rw [kx_v]; exact haj) (by rw [sizeLine_eq]; omega), ?_⟩
    have o' := o.set (v := .dT (putK kvs (kx ix) (V.int (gi vals (k : Int))))) 1 rfl
    have hD' := hD.put ix
    rw [← hF e4] at hD'
    have e5 : (allIdx sh).take (k + 1) = (allIdx sh).take k ++ [ix] := by rw [List.take_add_one, e4]; rfl
    rw [← e5] at hD'
    exact ⟨_, _, _, _, _, _, rfl, hD', o', sq.trans (Stq.set (o.at 1 rfl) fun xs h => nomatch h), sp.trans (Stp.setD (o.at 1 rfl))⟩
  rintro σ' H10 ⟨kvs, v6, v9, v10, v11, v12, rfl, hD10, o10, _, sp10⟩
  rw [List.take_of_length_le (by omega)] at hD10
  have o10 := o10.pick [1, 3, 4, 5, 6] (by decide)
  rw [← hvm] at o10
  have hsh10 := sp10.sq hsh9
  clear o9 hZ9 hF hvm hvN
  walk_at "rd"
  refine forR1 (n := (1 + gi dr 8 % 4).toNat) (by omega) (by omega) (fun k σ' H' => ∃ (sh : List Int) (ash l pd : Addr) (kvs : List (List Key × V)) (F : List Int → Int) (v6 v8 v9 v10 v11 v12 : Option V), σ' = [some (.ref a), some (.ref p1), some (.ref ash), some (.int fl), some (.ref x), some (.ref pv), v6, some (.ref pd), v8, v9, v10, v11, v12] ∧ sh.length ≤ 3 ∧ (∀ z ∈ sh, 0 ≤ z ∧ z ≤ 6) ∧ SqT K H' ash (sh.map V.int) ∧ DcF kvs (allIdx sh) F ∧ Own H H' [(pd, .dT kvs), (l, .lst (((allIdx sh).map F).map V.int)), (x, .ins C dx (paF (.ref ash) (.int fl) (.ref l))), (dx, .own x), (p1, .lst (dr.map V.int))]) ⟨sh, ash, l, pd, kvs, F, _, _, _, _, _, _, rfl, hz, hs6, hsh10, hD10, o10⟩ ?_ ?_
  · rintro k σ' H' hk ⟨sh, ash, l, pd, kvs, F, v6, v8, v9, v10, v11, v12, rfl, hz, hs6, hsh, hD, o⟩
    have hk4 : k < 4 := by omega
    walk_at "rd"
    have hDr : SqL K H' p1 (dr.map V.int) := o.sqL 4 rfl
    refine lcjR (K := K) (n := sh.length) (fun j => some (.int (gi dr (10 + 4 * (k : Int) + (j : Int)) % 6))) o (by rw [List.length_map]) (by omega) ?_ ?_
    · intro j p4 zs4 H' R' hj o' s' r
      refine r_name (r _ rfl (fun Qb k => k H' (Same.refl _)) fun d' H2 hd' s2 Qv qv => ?_)
      cases hd'
      have hD' : SqL K H2 p1 (dr.map V.int) := same_seqL' s2 (o'.sqL 5 rfl)
      walk_at "rd"
      exact qv _ _ (Same.refl _) (.int _)
    intro po Ha zsa sa oa ta
    rw [rfm_all] at ta
    have ea := ints_invF ta
    subst ea
    have hol : ((List.range sh.length).map fun (j : Nat) => gi dr (10 + 4 * (k : Int) + (j : Int)) % 6).length = sh.length := by rw [List.length_map, List.length_range]
    have hob : ∀ z ∈ ((List.range sh.length).map fun (j : Nat) => gi dr (10 + 4 * (k : Int) + (j : Int)) % 6), 0 ≤ z ∧ z ≤ 6 := by
      intro z hz
      obtain ⟨j, _, rfl⟩ := List.mem_map.mp hz
      omega
    generalize ((List.range sh.length).map fun (j : Nat) => gi dr (10 + 4 * (k : Int) + (j : Int)) % 6) = sh2 at *
    have hsha := sa.sq hsh
    walk_at "rd"
    refine r_tupLs oa (oa.sqL 0 rfl) fun ao Hb sb ob hao => ?_
    have hshb := sb.sq hsha
    have ob := ob.pick [1, 2, 3, 4, 5] (by decide)
    have hz2 : sh2.length ≤ 3 := by omega
    have hN2 : ((allIdx sh2).length : Int) = prodL sh2 := allIdx_len fun z hz => (hob z hz).1
    have hN1 : ((allIdx sh).length : Int) = prodL sh := allIdx_len fun z hz => (hs6 z hz).1
    have hB2 := hB hz2 hob
    have hSh2 := hSh hz2 hob
    walk_at "rd"
    refine ⟨x, dx, _, rfl, ob.at 2 rfl, rfl, ?_⟩
    walk_at "rd"
    refine ⟨x, l, dx, ash, ao, fl, sh, sh2, (allIdx sh).map F, rfl, ob.at 2 rfl, ob.at 1 rfl, hshb, hao, hz, hs6, by omega, by rw [List.length_map]; omega, fun h => absurd hol h, fun _ h => absurd (hSh2.symm.trans h) (by decide), fun _ _ h => absurd h (by omega), fun _ _ _ l' Hc hfc hlc hpc hzc => ?_⟩
    have oc := ob.chg 2 rfl hfc hpc
    have od := Own.addF ob oc rfl hlc hzc
    have sc : Stp Hb Hc := stp_frame (ob.at 2 rfl) hfc
    have hao := sc.sq hao
    rw [resz_eq hol hs6 hob] at od
    have od : Own H Hc [(pd, .dT kvs), (l', .lst (((allIdx sh2).map (newF sh fl F)).map V.int)), (x, .ins C dx (paF (.ref ao) (.int fl) (.ref l'))), (dx, .own x), (p1, .lst (dr.map V.int))] := od.pick [1, 0, 3, 4, 5] (by decide)
    clear oa ob oc hfc hlc hpc hzc hshb hsha
    walk_at "rd"
    intro pl nl
    have oe := od.new (u := .dT []) nl
    have se := same_new (u := .dT []) nl
    generalize upd Hc pl (.dT []) = He at *
    have hao := (Stp.of se).sq hao
    walk_at "rd"
    refine ⟨ao, sh2, rfl, hao, by omega, hob, fun Hf pz zz ef ff af tf => ?_⟩
    have og := oe.add ef ff af
    have hao := (Stp.of ef).sq hao
    have hzz := tf.len
    clear od oe ef ff af se nl
    walk_at "rd"
    refine forL (og.sqL 0 rfl) (fun j σ' H' => ∃ (kvl : List (List Key × V)) (v12 : Option V), σ' = [some (.ref a), some (.ref p1), some (.ref ash), some (.int fl), some (.ref x), some (.ref pv), some (.int k), some (.ref pd), v8, some (.ref ao), v10, some (.ref pl), v12] ∧ DcF kvl ((allIdx sh2).take j) (newF sh fl F) ∧ Own H H' [(pz, .lst zz), (pl, .dT kvl), (pd, .dT kvs), (l', .lst (((allIdx sh2).map (newF sh fl F)).map V.int)), (x, .ins C dx (paF (.ref ao) (.int fl) (.ref l'))), (dx, .own x), (p1, .lst (dr.map V.int))] ∧ Stq Hf H' ∧ Stp Hf H') ⟨_, _, rfl, DcF.nil _, og, .refl _, .refl _⟩ (fun j σ' H' _ ⟨_, _, _, _, o, _⟩ => o.sqL 0 rfl) ?_ ?_
    · rintro j y σ' H' hy ⟨kvl, v12, rfl, hDl, o, sq, sp⟩
      obtain ⟨ix, aj, e4, rfl, haj⟩ := (tf.up sq).getV hy
      have hj := (List.getElem?_eq_some_iff.mp e4).1
      have hkl := hDl.1
      rw [List.length_take] at hkl
      walk_at "rd"
      unfold sDPut
      unfold tDGet2
      walk_at "rd"
      refine ⟨pd, rfl, .inr ⟨kvs, .inl (o.at 2 rfl)⟩, ?_⟩
      walk_at "rd"
      refine ⟨_, DGet.t (k := kx ix) (o.at 2 rfl) (by rw [kx_v]; exact haj), ?_⟩
      rw [hD.getD]
      walk_at "rd"
      refine ⟨pl, _, rfl, DPut.t (k := kx ix) (o.at 1 rfl) (by rw [kx_v]; exact haj) (by rw [sizeLine_eq]; omega), ?_⟩
      have o' := o.set (v := .dT (putK kvl (kx ix) (V.int (newF sh fl F ix)))) 1 rfl
      have hD' := hDl.put ix
      have e5 : (allIdx sh2).take (j + 1) = (allIdx sh2).take j ++ [ix] := by rw [List.take_add_one, e4]; rfl
      rw [← e5] at hD'
      exact ⟨_, _, rfl, hD', o', sq.trans (Stq.set (o.at 1 rfl) fun xs h => nomatch h), sp.trans (Stp.setD (o.at 1 rfl))⟩
    rintro σ' Hg ⟨kvl, v12, rfl, hDl, o, _, spg⟩
    rw [List.take_of_length_le (by omega)] at hDl
    have o : Own H Hg [(pl, .dT kvl), (l', .lst (((allIdx sh2).map (newF sh fl F)).map V.int)), (x, .ins C dx (paF (.ref ao) (.int fl) (.ref l'))), (dx, .own x), (p1, .lst (dr.map V.int))] := o.pick [1, 3, 4, 5, 6] (by decide)
    have hao := spg.sq hao
    walk_at "rd"
    refine ⟨x, C, dx, _, .ref ao, rfl, o.at 2 rfl, C_PlainArray.cl, C_PlainArray.a_shape, rfl, ?_⟩
    walk_at "rd"
    refine ⟨ao, ao, sh2, rfl, hao, hao, by omega, ?_⟩
    walk_at "rd"
    refine ⟨x, dx, _, rfl, o.at 2 rfl, rfl, ?_⟩
    walk_at "rd"
    refine ⟨x, l', dx, .ref ao, .int fl, _, rfl, o.at 2 rfl, o.sqL 1 rfl, r_ret1s o fun pt Hh sh' oh => ?_⟩
    have hao := sh'.sq hao
    walk_at "rd"
    refine ⟨ao, sh2, rfl, hao, by omega, hob, fun Hi pz2 zz2 ei fi ai ti => ?_⟩
    have oi := oh.add ei fi ai
    have hao := (Stp.of ei).sq hao
    have hz2l := ti.len
    clear oh ei fi ai
    walk_at "rd"
    refine lcjL (K := K) (fun i => ((allIdx sh2)[i]?).map fun ix => .int (newF sh fl F ix)) (Own.nil Hi) (fun H' p zs o' => o'.old (oi.sqL 0 rfl)) (oi.sqL 0 rfl) (by omega) ?_ ?_
    · intro i x4 p4 zs4 H' R' hx o' s' r
      obtain ⟨ix, a4, e4, rfl, ha4⟩ := ti.getV hx
      refine r_name (r _ rfl (fun Qb k => k H' (Same.refl _) |> fun z => by rw [e4] at z; exact z) fun d' H2 hd' s2 Qv qv => ?_)
      rw [e4] at hd'
      cases hd'
      unfold tDGet
      walk_at "rd"
      have hg : DGet H2 pl (.ref a4) (valV kvl (kx ix)) := DGet.t (s2 _ _ (o'.ex _ _ (oi.at 2 rfl))) (by rw [kx_v]; exact s2 _ _ (o'.ex _ _ ha4))
      rw [hDl.2 ix, if_pos (List.mem_of_getElem? e4)] at hg
      refine ⟨pl, _, rfl, hg, ?_⟩
      exact qv _ _ (Same.refl _) (.int _)
    intro pc Hj zsj sj oj tj
    have ej : (List.range zz2.length).filterMap (fun i => ((allIdx sh2)[i]?).map fun ix => PyData.int (newF sh fl F ix)) = ((allIdx sh2).map (newF sh fl F)).map PyData.int := by
      rw [hz2l, range_pick (allIdx sh2) _, List.map_map]
      rfl
    rw [ej] at tj
    have e3 := ints_invF tj
    subst e3
    have ok := oi.add oj.ex (oj.fresh 0 rfl) (oj.at 0 rfl)
    rw [show (List.map (fun x => x) ((allIdx sh2).map (newF sh fl F))) = ((allIdx sh2).map (newF sh fl F)) from List.map_id _] at ok
    have hao := sj.sq hao
    walk_at "rd"
    refine ⟨pt, pc, _, rfl, ok.at 2 rfl, ok.sqL 0 rfl, by rw [List.length_map]; omega, ?_⟩
    walk_at "rd"
    exact ⟨sh2, ao, l', pl, kvl, newF sh fl F, _, _, _, _, _, _, rfl, hz2, hob, hao, hDl, ok.pick [3, 4, 5, 6, 7] (by decide)⟩
  · rintro σ' H' ⟨sh, ash, l, pd, kvs, F, v6, v8, v9, v10, v11, v12, rfl, hz, hs6, hsh, hD, o⟩
    walk_at "rd"
    refine ⟨x, C, dx, _, .int fl, rfl, o.at 2 rfl, C_PlainArray.cl, C_PlainArray.a_fill, rfl, ?_⟩
    walk_at "rd"
    refine ⟨fl, fl, rfl, ?_⟩
    rw [decide_eq_true rfl]
    exact q _
end

theorem top_mk {K : PySem.W.Frag} {h : Heap} {mg : Str → Option Value} (X : K.In h) (G : h.Ns mainGlobals mg)
    {f_told : Addr} {od_told an_told : Option Addr} {sl_told : Array (Option Value)} {oc_told kV_told dc_told pm_told cd_told ct_told : Value}
    {f_whole : Addr} {od_whole an_whole : Option Addr} {sl_whole : Array (Option Value)} {oc_whole kV_whole dc_whole pm_whole cd_whole ct_whole : Value}
    {f_selection_size : Addr} {od_selection_size an_selection_size : Option Addr} {sl_selection_size : Array (Option Value)} {oc_selection_size kV_selection_size dc_selection_size pm_selection_size cd_selection_size ct_selection_size : Value}
    {f_fits : Addr} {od_fits an_fits : Option Addr} {sl_fits : Array (Option Value)} {oc_fits kV_fits dc_fits pm_fits cd_fits ct_fits : Value}
    {f_is_index : Addr} {od_is_index an_is_index : Option Addr} {sl_is_index : Array (Option Value)} {oc_is_index kV_is_index dc_is_index pm_is_index cd_is_index ct_is_index : Value}
    {f_box_fits : Addr} {od_box_fits an_box_fits : Option Addr} {sl_box_fits : Array (Option Value)} {oc_box_fits kV_box_fits dc_box_fits pm_box_fits cd_box_fits ct_box_fits : Value}
    {f_picked : Addr} {od_picked an_picked : Option Addr} {sl_picked : Array (Option Value)} {oc_picked kV_picked dc_picked pm_picked cd_picked ct_picked : Value}
    {f_box_indexes : Addr} {od_box_indexes an_box_indexes : Option Addr} {sl_box_indexes : Array (Option Value)} {oc_box_indexes kV_box_indexes dc_box_indexes pm_box_indexes cd_box_indexes ct_box_indexes : Value}
    {f_meeting : Addr} {od_meeting an_meeting : Option Addr} {sl_meeting : Array (Option Value)} {oc_meeting kV_meeting dc_meeting pm_meeting cd_meeting ct_meeting : Value}
    {f_is_shape : Addr} {od_is_shape an_is_shape : Option Addr} {sl_is_shape : Array (Option Value)} {oc_is_shape kV_is_shape dc_is_shape pm_is_shape cd_is_shape ct_is_shape : Value}
    {f_element_count : Addr} {od_element_count an_element_count : Option Addr} {sl_element_count : Array (Option Value)} {oc_element_count kV_element_count dc_element_count pm_element_count cd_element_count ct_element_count : Value}
    {f_rank_of : Addr} {od_rank_of an_rank_of : Option Addr} {sl_rank_of : Array (Option Value)} {oc_rank_of kV_rank_of dc_rank_of pm_rank_of cd_rank_of ct_rank_of : Value}
    {f__law_cell : Addr} {od__law_cell an__law_cell : Option Addr} {sl__law_cell : Array (Option Value)} {oc__law_cell kV__law_cell dc__law_cell pm__law_cell cd__law_cell ct__law_cell : Value}
    {f__law_draws : Addr} {od__law_draws an__law_draws : Option Addr} {sl__law_draws : Array (Option Value)} {oc__law_draws kV__law_draws dc__law_draws pm__law_draws cd__law_draws ct__law_draws : Value}
    {f__law_is_int : Addr} {od__law_is_int an__law_is_int : Option Addr} {sl__law_is_int : Array (Option Value)} {oc__law_is_int kV__law_is_int dc__law_is_int pm__law_is_int cd__law_is_int ct__law_is_int : Value}
    {f__law_ints : Addr} {od__law_ints an__law_ints : Option Addr} {sl__law_ints : Array (Option Value)} {oc__law_ints kV__law_ints dc__law_ints pm__law_ints cd__law_ints ct__law_ints : Value}
    {f__law_is_tuple : Addr} {od__law_is_tuple an__law_is_tuple : Option Addr} {sl__law_is_tuple : Array (Option Value)} {oc__law_is_tuple kV__law_is_tuple dc__law_is_tuple pm__law_is_tuple cd__law_is_tuple ct__law_is_tuple : Value}
    {f__law_is_number : Addr} {od__law_is_number an__law_is_number : Option Addr} {sl__law_is_number : Array (Option Value)} {oc__law_is_number kV__law_is_number dc__law_is_number pm__law_is_number cd__law_is_number ct__law_is_number : Value}
    {f__law_shape : Addr} {od__law_shape an__law_shape : Option Addr} {sl__law_shape : Array (Option Value)} {oc__law_shape kV__law_shape dc__law_shape pm__law_shape cd__law_shape ct__law_shape : Value}
    {f__law_all : Addr} {od__law_all an__law_all : Option Addr} {sl__law_all : Array (Option Value)} {oc__law_all kV__law_all dc__law_all pm__law_all cd__law_all ct__law_all : Value}
    {f__law_whole : Addr} {od__law_whole an__law_whole : Option Addr} {sl__law_whole : Array (Option Value)} {oc__law_whole kV__law_whole dc__law_whole pm__law_whole cd__law_whole ct__law_whole : Value}
    {f__law_same_ints : Addr} {od__law_same_ints an__law_same_ints : Option Addr} {sl__law_same_ints : Array (Option Value)} {oc__law_same_ints kV__law_same_ints dc__law_same_ints pm__law_same_ints cd__law_same_ints ct__law_same_ints : Value}
    {f__law_stream : Addr} {od__law_stream an__law_stream : Option Addr} {sl__law_stream : Array (Option Value)} {oc__law_stream kV__law_stream dc__law_stream pm__law_stream cd__law_stream ct__law_stream : Value}
    {f__law_many : Addr} {od__law_many an__law_many : Option Addr} {sl__law_many : Array (Option Value)} {oc__law_many kV__law_many dc__law_many pm__law_many cd__law_many ct__law_many : Value}
    {f_law : Addr} {od_law an_law : Option Addr} {sl_law : Array (Option Value)} {oc_law kV_law dc_law pm_law cd_law ct_law : Value}
    {K_PlainArray : Addr}
    {f_PlainArray___init__ : Addr} {od_PlainArray___init__ an_PlainArray___init__ : Option Addr} {sl_PlainArray___init__ : Array (Option Value)} {oc_PlainArray___init__ kV_PlainArray___init__ dc_PlainArray___init__ pm_PlainArray___init__ cd_PlainArray___init__ ct_PlainArray___init__ : Value}
    {f_PlainArray_all_values : Addr} {od_PlainArray_all_values an_PlainArray_all_values : Option Addr} {sl_PlainArray_all_values : Array (Option Value)} {oc_PlainArray_all_values kV_PlainArray_all_values dc_PlainArray_all_values pm_PlainArray_all_values cd_PlainArray_all_values ct_PlainArray_all_values : Value}
    {f_PlainArray_read : Addr} {od_PlainArray_read an_PlainArray_read : Option Addr} {sl_PlainArray_read : Array (Option Value)} {oc_PlainArray_read kV_PlainArray_read dc_PlainArray_read pm_PlainArray_read cd_PlainArray_read ct_PlainArray_read : Value}
    {f_PlainArray_write : Addr} {od_PlainArray_write an_PlainArray_write : Option Addr} {sl_PlainArray_write : Array (Option Value)} {oc_PlainArray_write kV_PlainArray_write dc_PlainArray_write pm_PlainArray_write cd_PlainArray_write ct_PlainArray_write : Value}
    {f_PlainArray_resize : Addr} {od_PlainArray_resize an_PlainArray_resize : Option Addr} {sl_PlainArray_resize : Array (Option Value)} {oc_PlainArray_resize kV_PlainArray_resize dc_PlainArray_resize pm_PlainArray_resize cd_PlainArray_resize ct_PlainArray_resize : Value}
    {K_TesseraError : Addr}
    {K_InvalidShape : Addr}
    {K_InvalidSelection : Addr}
    {K_TooLarge : Addr}
    {K_WrongCount : Addr}
    {nm_TooLarge qn_TooLarge : Str} {nn_TooLarge : Addr} {bs_TooLarge bm_TooLarge : List Value} {sn_TooLarge : List Str} {sb_TooLarge : List Value} {ab_TooLarge : Bool} {co_TooLarge : Option Bool} {dd_TooLarge : Option Addr} {m0_TooLarge m1_TooLarge m2_TooLarge m3_TooLarge m5_TooLarge : Option Value}
    {if_TooLarge icc_TooLarge icd_TooLarge : Addr} {iod_TooLarge ian_TooLarge : Option Addr} {isl_TooLarge : Array (Option Value)} {ioc_TooLarge ikV_TooLarge idc_TooLarge ipm_TooLarge ict_TooLarge : Value}
    {jc_TooLarge kc_TooLarge : Value} {jd_TooLarge kd_TooLarge : Option Addr} {js_TooLarge ks_TooLarge : Array (Option Value)} {kf_TooLarge : Array Value} {kt_TooLarge : Tok}
    {nm_WrongCount qn_WrongCount : Str} {nn_WrongCount : Addr} {bs_WrongCount bm_WrongCount : List Value} {sn_WrongCount : List Str} {sb_WrongCount : List Value} {ab_WrongCount : Bool} {co_WrongCount : Option Bool} {dd_WrongCount : Option Addr} {m0_WrongCount m1_WrongCount m2_WrongCount m3_WrongCount m5_WrongCount : Option Value}
    {if_WrongCount icc_WrongCount icd_WrongCount : Addr} {iod_WrongCount ian_WrongCount : Option Addr} {isl_WrongCount : Array (Option Value)} {ioc_WrongCount ikV_WrongCount idc_WrongCount ipm_WrongCount ict_WrongCount : Value}
    {jc_WrongCount kc_WrongCount : Value} {jd_WrongCount kd_WrongCount : Option Addr} {js_WrongCount ks_WrongCount : Array (Option Value)} {kf_WrongCount : Array Value} {kt_WrongCount : Tok}
    {t_BEYOND_TOLD : Tok}
    {t_GREATEST_SIZE : Tok}
    {t_MOST_DIMENSIONS : Tok}
    {t_MOST_PICKED : Tok}
    (a_told : PySem.W.nsIn K mainGlobals "told" = some (some (.ref f_told))) (l_told : K.lookup f_told = some ⟨oc_told, od_told, .func (PySem.W.fnOf "told" "told" (defArgs s_told) (defBody s_told) (defScope s_told) .none kV_told dc_told pm_told an_told cd_told ct_told), sl_told⟩) (c_told : PySem.W.codeIn K cd_told "told" = true) (k_told : PySem.W.keepIn K (.ref f_told) = true)
    (a_whole : PySem.W.nsIn K mainGlobals "whole" = some (some (.ref f_whole))) (l_whole : K.lookup f_whole = some ⟨oc_whole, od_whole, .func (PySem.W.fnOf "whole" "whole" (defArgs s_whole) (defBody s_whole) (defScope s_whole) .none kV_whole dc_whole pm_whole an_whole cd_whole ct_whole), sl_whole⟩) (c_whole : PySem.W.codeIn K cd_whole "whole" = true) (k_whole : PySem.W.keepIn K (.ref f_whole) = true)
    (a_selection_size : PySem.W.nsIn K mainGlobals "selection_size" = some (some (.ref f_selection_size))) (l_selection_size : K.lookup f_selection_size = some ⟨oc_selection_size, od_selection_size, .func (PySem.W.fnOf "selection_size" "selection_size" (defArgs s_selection_size) (defBody s_selection_size) (defScope s_selection_size) .none kV_selection_size dc_selection_size pm_selection_size an_selection_size cd_selection_size ct_selection_size), sl_selection_size⟩) (c_selection_size : PySem.W.codeIn K cd_selection_size "selection_size" = true) (k_selection_size : PySem.W.keepIn K (.ref f_selection_size) = true)
    (a_fits : PySem.W.nsIn K mainGlobals "fits" = some (some (.ref f_fits))) (l_fits : K.lookup f_fits = some ⟨oc_fits, od_fits, .func (PySem.W.fnOf "fits" "fits" (defArgs s_fits) (defBody s_fits) (defScope s_fits) .none kV_fits dc_fits pm_fits an_fits cd_fits ct_fits), sl_fits⟩) (c_fits : PySem.W.codeIn K cd_fits "fits" = true) (k_fits : PySem.W.keepIn K (.ref f_fits) = true)
    (a_is_index : PySem.W.nsIn K mainGlobals "is_index" = some (some (.ref f_is_index))) (l_is_index : K.lookup f_is_index = some ⟨oc_is_index, od_is_index, .func (PySem.W.fnOf "is_index" "is_index" (defArgs s_is_index) (defBody s_is_index) (defScope s_is_index) .none kV_is_index dc_is_index pm_is_index an_is_index cd_is_index ct_is_index), sl_is_index⟩) (c_is_index : PySem.W.codeIn K cd_is_index "is_index" = true) (k_is_index : PySem.W.keepIn K (.ref f_is_index) = true)
    (a_box_fits : PySem.W.nsIn K mainGlobals "box_fits" = some (some (.ref f_box_fits))) (l_box_fits : K.lookup f_box_fits = some ⟨oc_box_fits, od_box_fits, .func (PySem.W.fnOf "box_fits" "box_fits" (defArgs s_box_fits) (defBody s_box_fits) (defScope s_box_fits) .none kV_box_fits dc_box_fits pm_box_fits an_box_fits cd_box_fits ct_box_fits), sl_box_fits⟩) (c_box_fits : PySem.W.codeIn K cd_box_fits "box_fits" = true) (k_box_fits : PySem.W.keepIn K (.ref f_box_fits) = true)
    (a_picked : PySem.W.nsIn K mainGlobals "picked" = some (some (.ref f_picked))) (l_picked : K.lookup f_picked = some ⟨oc_picked, od_picked, .func (PySem.W.fnOf "picked" "picked" (defArgs s_picked) (defBody s_picked) (defScope s_picked) .none kV_picked dc_picked pm_picked an_picked cd_picked ct_picked), sl_picked⟩) (c_picked : PySem.W.codeIn K cd_picked "picked" = true) (k_picked : PySem.W.keepIn K (.ref f_picked) = true)
    (a_box_indexes : PySem.W.nsIn K mainGlobals "box_indexes" = some (some (.ref f_box_indexes))) (l_box_indexes : K.lookup f_box_indexes = some ⟨oc_box_indexes, od_box_indexes, .func (PySem.W.fnOf "box_indexes" "box_indexes" (defArgs s_box_indexes) (defBody s_box_indexes) (defScope s_box_indexes) .none kV_box_indexes dc_box_indexes pm_box_indexes an_box_indexes cd_box_indexes ct_box_indexes), sl_box_indexes⟩) (c_box_indexes : PySem.W.codeIn K cd_box_indexes "box_indexes" = true) (k_box_indexes : PySem.W.keepIn K (.ref f_box_indexes) = true)
    (a_meeting : PySem.W.nsIn K mainGlobals "meeting" = some (some (.ref f_meeting))) (l_meeting : K.lookup f_meeting = some ⟨oc_meeting, od_meeting, .func (PySem.W.fnOf "meeting" "meeting" (defArgs s_meeting) (defBody s_meeting) (defScope s_meeting) .none kV_meeting dc_meeting pm_meeting an_meeting cd_meeting ct_meeting), sl_meeting⟩) (c_meeting : PySem.W.codeIn K cd_meeting "meeting" = true) (k_meeting : PySem.W.keepIn K (.ref f_meeting) = true)
    (a_is_shape : PySem.W.nsIn K mainGlobals "is_shape" = some (some (.ref f_is_shape))) (l_is_shape : K.lookup f_is_shape = some ⟨oc_is_shape, od_is_shape, .func (PySem.W.fnOf "is_shape" "is_shape" (defArgs s_is_shape) (defBody s_is_shape) (defScope s_is_shape) .none kV_is_shape dc_is_shape pm_is_shape an_is_shape cd_is_shape ct_is_shape), sl_is_shape⟩) (c_is_shape : PySem.W.codeIn K cd_is_shape "is_shape" = true) (k_is_shape : PySem.W.keepIn K (.ref f_is_shape) = true)
    (a_element_count : PySem.W.nsIn K mainGlobals "element_count" = some (some (.ref f_element_count))) (l_element_count : K.lookup f_element_count = some ⟨oc_element_count, od_element_count, .func (PySem.W.fnOf "element_count" "element_count" (defArgs s_element_count) (defBody s_element_count) (defScope s_element_count) .none kV_element_count dc_element_count pm_element_count an_element_count cd_element_count ct_element_count), sl_element_count⟩) (c_element_count : PySem.W.codeIn K cd_element_count "element_count" = true) (k_element_count : PySem.W.keepIn K (.ref f_element_count) = true)
    (a_rank_of : PySem.W.nsIn K mainGlobals "rank_of" = some (some (.ref f_rank_of))) (l_rank_of : K.lookup f_rank_of = some ⟨oc_rank_of, od_rank_of, .func (PySem.W.fnOf "rank_of" "rank_of" (defArgs s_rank_of) (defBody s_rank_of) (defScope s_rank_of) .none kV_rank_of dc_rank_of pm_rank_of an_rank_of cd_rank_of ct_rank_of), sl_rank_of⟩) (c_rank_of : PySem.W.codeIn K cd_rank_of "rank_of" = true) (k_rank_of : PySem.W.keepIn K (.ref f_rank_of) = true)
    (a__law_cell : PySem.W.nsIn K mainGlobals "_law_cell" = some (some (.ref f__law_cell))) (l__law_cell : K.lookup f__law_cell = some ⟨oc__law_cell, od__law_cell, .func (PySem.W.fnOf "_law_cell" "_law_cell" (defArgs s__law_cell) (defBody s__law_cell) (defScope s__law_cell) .none kV__law_cell dc__law_cell pm__law_cell an__law_cell cd__law_cell ct__law_cell), sl__law_cell⟩) (c__law_cell : PySem.W.codeIn K cd__law_cell "_law_cell" = true) (k__law_cell : PySem.W.keepIn K (.ref f__law_cell) = true)
    (a__law_draws : PySem.W.nsIn K mainGlobals "_law_draws" = some (some (.ref f__law_draws))) (l__law_draws : K.lookup f__law_draws = some ⟨oc__law_draws, od__law_draws, .func (PySem.W.fnOf "_law_draws" "_law_draws" (defArgs s__law_draws) (defBody s__law_draws) (defScope s__law_draws) .none kV__law_draws dc__law_draws pm__law_draws an__law_draws cd__law_draws ct__law_draws), sl__law_draws⟩) (c__law_draws : PySem.W.codeIn K cd__law_draws "_law_draws" = true) (k__law_draws : PySem.W.keepIn K (.ref f__law_draws) = true)
    (a__law_is_int : PySem.W.nsIn K mainGlobals "_law_is_int" = some (some (.ref f__law_is_int))) (l__law_is_int : K.lookup f__law_is_int = some ⟨oc__law_is_int, od__law_is_int, .func (PySem.W.fnOf "_law_is_int" "_law_is_int" (defArgs s__law_is_int) (defBody s__law_is_int) (defScope s__law_is_int) .none kV__law_is_int dc__law_is_int pm__law_is_int an__law_is_int cd__law_is_int ct__law_is_int), sl__law_is_int⟩) (c__law_is_int : PySem.W.codeIn K cd__law_is_int "_law_is_int" = true) (k__law_is_int : PySem.W.keepIn K (.ref f__law_is_int) = true)
    (a__law_ints : PySem.W.nsIn K mainGlobals "_law_ints" = some (some (.ref f__law_ints))) (l__law_ints : K.lookup f__law_ints = some ⟨oc__law_ints, od__law_ints, .func (PySem.W.fnOf "_law_ints" "_law_ints" (defArgs s__law_ints) (defBody s__law_ints) (defScope s__law_ints) .none kV__law_ints dc__law_ints pm__law_ints an__law_ints cd__law_ints ct__law_ints), sl__law_ints⟩) (c__law_ints : PySem.W.codeIn K cd__law_ints "_law_ints" = true) (k__law_ints : PySem.W.keepIn K (.ref f__law_ints) = true)
    (a__law_is_tuple : PySem.W.nsIn K mainGlobals "_law_is_tuple" = some (some (.ref f__law_is_tuple))) (l__law_is_tuple : K.lookup f__law_is_tuple = some ⟨oc__law_is_tuple, od__law_is_tuple, .func (PySem.W.fnOf "_law_is_tuple" "_law_is_tuple" (defArgs s__law_is_tuple) (defBody s__law_is_tuple) (defScope s__law_is_tuple) .none kV__law_is_tuple dc__law_is_tuple pm__law_is_tuple an__law_is_tuple cd__law_is_tuple ct__law_is_tuple), sl__law_is_tuple⟩) (c__law_is_tuple : PySem.W.codeIn K cd__law_is_tuple "_law_is_tuple" = true) (k__law_is_tuple : PySem.W.keepIn K (.ref f__law_is_tuple) = true)
    (a__law_is_number : PySem.W.nsIn K mainGlobals "_law_is_number" = some (some (.ref f__law_is_number))) (l__law_is_number : K.lookup f__law_is_number = some ⟨oc__law_is_number, od__law_is_number, .func (PySem.W.fnOf "_law_is_number" "_law_is_number" (defArgs s__law_is_number) (defBody s__law_is_number) (defScope s__law_is_number) .none kV__law_is_number dc__law_is_number pm__law_is_number an__law_is_number cd__law_is_number ct__law_is_number), sl__law_is_number⟩) (c__law_is_number : PySem.W.codeIn K cd__law_is_number "_law_is_number" = true) (k__law_is_number : PySem.W.keepIn K (.ref f__law_is_number) = true)
    (a__law_shape : PySem.W.nsIn K mainGlobals "_law_shape" = some (some (.ref f__law_shape))) (l__law_shape : K.lookup f__law_shape = some ⟨oc__law_shape, od__law_shape, .func (PySem.W.fnOf "_law_shape" "_law_shape" (defArgs s__law_shape) (defBody s__law_shape) (defScope s__law_shape) .none kV__law_shape dc__law_shape pm__law_shape an__law_shape cd__law_shape ct__law_shape), sl__law_shape⟩) (c__law_shape : PySem.W.codeIn K cd__law_shape "_law_shape" = true) (k__law_shape : PySem.W.keepIn K (.ref f__law_shape) = true)
    (a__law_all : PySem.W.nsIn K mainGlobals "_law_all" = some (some (.ref f__law_all))) (l__law_all : K.lookup f__law_all = some ⟨oc__law_all, od__law_all, .func (PySem.W.fnOf "_law_all" "_law_all" (defArgs s__law_all) (defBody s__law_all) (defScope s__law_all) .none kV__law_all dc__law_all pm__law_all an__law_all cd__law_all ct__law_all), sl__law_all⟩) (c__law_all : PySem.W.codeIn K cd__law_all "_law_all" = true) (k__law_all : PySem.W.keepIn K (.ref f__law_all) = true)
    (a__law_whole : PySem.W.nsIn K mainGlobals "_law_whole" = some (some (.ref f__law_whole))) (l__law_whole : K.lookup f__law_whole = some ⟨oc__law_whole, od__law_whole, .func (PySem.W.fnOf "_law_whole" "_law_whole" (defArgs s__law_whole) (defBody s__law_whole) (defScope s__law_whole) .none kV__law_whole dc__law_whole pm__law_whole an__law_whole cd__law_whole ct__law_whole), sl__law_whole⟩) (c__law_whole : PySem.W.codeIn K cd__law_whole "_law_whole" = true) (k__law_whole : PySem.W.keepIn K (.ref f__law_whole) = true)
    (a__law_same_ints : PySem.W.nsIn K mainGlobals "_law_same_ints" = some (some (.ref f__law_same_ints))) (l__law_same_ints : K.lookup f__law_same_ints = some ⟨oc__law_same_ints, od__law_same_ints, .func (PySem.W.fnOf "_law_same_ints" "_law_same_ints" (defArgs s__law_same_ints) (defBody s__law_same_ints) (defScope s__law_same_ints) .none kV__law_same_ints dc__law_same_ints pm__law_same_ints an__law_same_ints cd__law_same_ints ct__law_same_ints), sl__law_same_ints⟩) (c__law_same_ints : PySem.W.codeIn K cd__law_same_ints "_law_same_ints" = true) (k__law_same_ints : PySem.W.keepIn K (.ref f__law_same_ints) = true)
    (a__law_stream : PySem.W.nsIn K mainGlobals "_law_stream" = some (some (.ref f__law_stream))) (l__law_stream : K.lookup f__law_stream = some ⟨oc__law_stream, od__law_stream, .func (PySem.W.fnOf "_law_stream" "_law_stream" (defArgs s__law_stream) (defBody s__law_stream) (defScope s__law_stream) .none kV__law_stream dc__law_stream pm__law_stream an__law_stream cd__law_stream ct__law_stream), sl__law_stream⟩) (c__law_stream : PySem.W.codeIn K cd__law_stream "_law_stream" = true) (k__law_stream : PySem.W.keepIn K (.ref f__law_stream) = true)
    (a__law_many : PySem.W.nsIn K mainGlobals "_law_many" = some (some (.ref f__law_many))) (l__law_many : K.lookup f__law_many = some ⟨oc__law_many, od__law_many, .func (PySem.W.fnOf "_law_many" "_law_many" (defArgs s__law_many) (defBody s__law_many) (defScope s__law_many) .none kV__law_many dc__law_many pm__law_many an__law_many cd__law_many ct__law_many), sl__law_many⟩) (c__law_many : PySem.W.codeIn K cd__law_many "_law_many" = true) (k__law_many : PySem.W.keepIn K (.ref f__law_many) = true)
    (a_law : PySem.W.nsIn K mainGlobals "law" = some (some (.ref f_law))) (l_law : K.lookup f_law = some ⟨oc_law, od_law, .func (PySem.W.fnOf "law" "law" (defArgs s_law) (defBody s_law) (defScope s_law) .none kV_law dc_law pm_law an_law cd_law ct_law), sl_law⟩) (c_law : PySem.W.codeIn K cd_law "law" = true) (k_law : PySem.W.keepIn K (.ref f_law) = true)
    (a_K_PlainArray : PySem.W.nsIn K mainGlobals "PlainArray" = some (some (.ref K_PlainArray))) (pg_K_PlainArray : PySem.W.plainGet K K_PlainArray Str.empty = true) (hd_K_PlainArray : PySem.W.hasDictIn K K_PlainArray = true) (po_K_PlainArray : PySem.W.plainOver K K_PlainArray = true) (sa_K_PlainArray : PySem.W.findIn K (.ref K_PlainArray) "__setattr__" = some (some (.builtin "object.__setattr__")))
    (n_K_PlainArray_shape : PySem.W.findIn K (.ref K_PlainArray) "shape" = some none)
    (n_K_PlainArray_fill : PySem.W.findIn K (.ref K_PlainArray) "fill" = some none)
    (n_K_PlainArray__held : PySem.W.findIn K (.ref K_PlainArray) "_held" = some none)
    (a_PlainArray___init__ : PySem.W.findIn K (.ref K_PlainArray) "__init__" = some (some (.ref f_PlainArray___init__))) (i_PlainArray___init__ : PySem.W.isFn K (.ref f_PlainArray___init__) = true) (l_PlainArray___init__ : K.lookup f_PlainArray___init__ = some ⟨oc_PlainArray___init__, od_PlainArray___init__, .func (PySem.W.fnOf "__init__" "PlainArray.__init__" (defArgs s_PlainArray___init__) (defBody s_PlainArray___init__) (defScope s_PlainArray___init__) .none kV_PlainArray___init__ dc_PlainArray___init__ pm_PlainArray___init__ an_PlainArray___init__ cd_PlainArray___init__ ct_PlainArray___init__), sl_PlainArray___init__⟩) (c_PlainArray___init__ : PySem.W.codeIn K cd_PlainArray___init__ "PlainArray.__init__" = true) (k_PlainArray___init__ : PySem.W.keepIn K (.ref f_PlainArray___init__) = true)
    (mk_K_PlainArray : PySem.W.makesIn K K_PlainArray = true) (kc_K_PlainArray : PySem.W.keepIn K (.ref K_PlainArray) = true)
    (a_PlainArray_all_values : PySem.W.findIn K (.ref K_PlainArray) "all_values" = some (some (.ref f_PlainArray_all_values))) (i_PlainArray_all_values : PySem.W.isFn K (.ref f_PlainArray_all_values) = true) (l_PlainArray_all_values : K.lookup f_PlainArray_all_values = some ⟨oc_PlainArray_all_values, od_PlainArray_all_values, .func (PySem.W.fnOf "all_values" "PlainArray.all_values" (defArgs s_PlainArray_all_values) (defBody s_PlainArray_all_values) (defScope s_PlainArray_all_values) .none kV_PlainArray_all_values dc_PlainArray_all_values pm_PlainArray_all_values an_PlainArray_all_values cd_PlainArray_all_values ct_PlainArray_all_values), sl_PlainArray_all_values⟩) (c_PlainArray_all_values : PySem.W.codeIn K cd_PlainArray_all_values "PlainArray.all_values" = true) (k_PlainArray_all_values : PySem.W.keepIn K (.ref f_PlainArray_all_values) = true)
    (a_PlainArray_read : PySem.W.findIn K (.ref K_PlainArray) "read" = some (some (.ref f_PlainArray_read))) (i_PlainArray_read : PySem.W.isFn K (.ref f_PlainArray_read) = true) (l_PlainArray_read : K.lookup f_PlainArray_read = some ⟨oc_PlainArray_read, od_PlainArray_read, .func (PySem.W.fnOf "read" "PlainArray.read" (defArgs s_PlainArray_read) (defBody s_PlainArray_read) (defScope s_PlainArray_read) .none kV_PlainArray_read dc_PlainArray_read pm_PlainArray_read an_PlainArray_read cd_PlainArray_read ct_PlainArray_read), sl_PlainArray_read⟩) (c_PlainArray_read : PySem.W.codeIn K cd_PlainArray_read "PlainArray.read" = true) (k_PlainArray_read : PySem.W.keepIn K (.ref f_PlainArray_read) = true)
    (a_PlainArray_write : PySem.W.findIn K (.ref K_PlainArray) "write" = some (some (.ref f_PlainArray_write))) (i_PlainArray_write : PySem.W.isFn K (.ref f_PlainArray_write) = true) (l_PlainArray_write : K.lookup f_PlainArray_write = some ⟨oc_PlainArray_write, od_PlainArray_write, .func (PySem.W.fnOf "write" "PlainArray.write" (defArgs s_PlainArray_write) (defBody s_PlainArray_write) (defScope s_PlainArray_write) .none kV_PlainArray_write dc_PlainArray_write pm_PlainArray_write an_PlainArray_write cd_PlainArray_write ct_PlainArray_write), sl_PlainArray_write⟩) (c_PlainArray_write : PySem.W.codeIn K cd_PlainArray_write "PlainArray.write" = true) (k_PlainArray_write : PySem.W.keepIn K (.ref f_PlainArray_write) = true)
    (a_PlainArray_resize : PySem.W.findIn K (.ref K_PlainArray) "resize" = some (some (.ref f_PlainArray_resize))) (i_PlainArray_resize : PySem.W.isFn K (.ref f_PlainArray_resize) = true) (l_PlainArray_resize : K.lookup f_PlainArray_resize = some ⟨oc_PlainArray_resize, od_PlainArray_resize, .func (PySem.W.fnOf "resize" "PlainArray.resize" (defArgs s_PlainArray_resize) (defBody s_PlainArray_resize) (defScope s_PlainArray_resize) .none kV_PlainArray_resize dc_PlainArray_resize pm_PlainArray_resize an_PlainArray_resize cd_PlainArray_resize ct_PlainArray_resize), sl_PlainArray_resize⟩) (c_PlainArray_resize : PySem.W.codeIn K cd_PlainArray_resize "PlainArray.resize" = true) (k_PlainArray_resize : PySem.W.keepIn K (.ref f_PlainArray_resize) = true)
    (ea_TesseraError : PySem.W.nsIn K mainGlobals "TesseraError" = some (some (.ref K_TesseraError)))
    (ega_TesseraError : PySem.W.findIn K (.ref K_TesseraError) "__getattribute__" = some (some (.builtin "BaseException.__getattribute__")))
    (egg_TesseraError : PySem.W.findIn K (.ref K_TesseraError) "__getattr__" = some none)
    (eex_TesseraError : PySem.W.subIn K (.ref K_TesseraError) (.type "BaseException") = some true)
    (ehd_TesseraError : PySem.W.hasDictIn K K_TesseraError = true)
    (eha_TesseraError : PySem.W.findIn K (.ref K_TesseraError) "__class__" = some (some (.builtin "object.__class__")))
    (ehm_TesseraError : PySem.W.mroIn K K_TesseraError (.type "object") = some true)
    (ety_TesseraError : PySem.W.typeIn K (.ref K_TesseraError) = some (.type "type"))
    (ea_InvalidShape : PySem.W.nsIn K mainGlobals "InvalidShape" = some (some (.ref K_InvalidShape)))
    (ega_InvalidShape : PySem.W.findIn K (.ref K_InvalidShape) "__getattribute__" = some (some (.builtin "BaseException.__getattribute__")))
    (egg_InvalidShape : PySem.W.findIn K (.ref K_InvalidShape) "__getattr__" = some none)
    (eex_InvalidShape : PySem.W.subIn K (.ref K_InvalidShape) (.type "BaseException") = some true)
    (ehd_InvalidShape : PySem.W.hasDictIn K K_InvalidShape = true)
    (eha_InvalidShape : PySem.W.findIn K (.ref K_InvalidShape) "__class__" = some (some (.builtin "object.__class__")))
    (ehm_InvalidShape : PySem.W.mroIn K K_InvalidShape (.type "object") = some true)
    (ety_InvalidShape : PySem.W.typeIn K (.ref K_InvalidShape) = some (.type "type"))
    (ea_InvalidSelection : PySem.W.nsIn K mainGlobals "InvalidSelection" = some (some (.ref K_InvalidSelection)))
    (ega_InvalidSelection : PySem.W.findIn K (.ref K_InvalidSelection) "__getattribute__" = some (some (.builtin "BaseException.__getattribute__")))
    (egg_InvalidSelection : PySem.W.findIn K (.ref K_InvalidSelection) "__getattr__" = some none)
    (eex_InvalidSelection : PySem.W.subIn K (.ref K_InvalidSelection) (.type "BaseException") = some true)
    (ehd_InvalidSelection : PySem.W.hasDictIn K K_InvalidSelection = true)
    (eha_InvalidSelection : PySem.W.findIn K (.ref K_InvalidSelection) "__class__" = some (some (.builtin "object.__class__")))
    (ehm_InvalidSelection : PySem.W.mroIn K K_InvalidSelection (.type "object") = some true)
    (ety_InvalidSelection : PySem.W.typeIn K (.ref K_InvalidSelection) = some (.type "type"))
    (ea_TooLarge : PySem.W.nsIn K mainGlobals "TooLarge" = some (some (.ref K_TooLarge)))
    (ega_TooLarge : PySem.W.findIn K (.ref K_TooLarge) "__getattribute__" = some (some (.builtin "BaseException.__getattribute__")))
    (egg_TooLarge : PySem.W.findIn K (.ref K_TooLarge) "__getattr__" = some none)
    (eex_TooLarge : PySem.W.subIn K (.ref K_TooLarge) (.type "BaseException") = some true)
    (ehd_TooLarge : PySem.W.hasDictIn K K_TooLarge = true)
    (eha_TooLarge : PySem.W.findIn K (.ref K_TooLarge) "__class__" = some (some (.builtin "object.__class__")))
    (ehm_TooLarge : PySem.W.mroIn K K_TooLarge (.type "object") = some true)
    (ety_TooLarge : PySem.W.typeIn K (.ref K_TooLarge) = some (.type "type"))
    (ea_WrongCount : PySem.W.nsIn K mainGlobals "WrongCount" = some (some (.ref K_WrongCount)))
    (ega_WrongCount : PySem.W.findIn K (.ref K_WrongCount) "__getattribute__" = some (some (.builtin "BaseException.__getattribute__")))
    (egg_WrongCount : PySem.W.findIn K (.ref K_WrongCount) "__getattr__" = some none)
    (eex_WrongCount : PySem.W.subIn K (.ref K_WrongCount) (.type "BaseException") = some true)
    (ehd_WrongCount : PySem.W.hasDictIn K K_WrongCount = true)
    (eha_WrongCount : PySem.W.findIn K (.ref K_WrongCount) "__class__" = some (some (.builtin "object.__class__")))
    (ehm_WrongCount : PySem.W.mroIn K K_WrongCount (.type "object") = some true)
    (ety_WrongCount : PySem.W.typeIn K (.ref K_WrongCount) = some (.type "type"))
    (egn : PySem.W.specialIn K (.builtin "object.__class__") "__get__" = some (some (.builtin "getset_descriptor.__get__"))) (egt : PySem.W.takesIn K (.builtin "object.__class__") = some true)
    (est : PySem.W.nsIn K PySem.cStatics "thirdparty.any" = some none)
    (exl_TooLarge : K.lookup K_TooLarge = some (excClassObj nm_TooLarge qn_TooLarge K_TooLarge nn_TooLarge bs_TooLarge bm_TooLarge true sn_TooLarge sb_TooLarge ab_TooLarge co_TooLarge dd_TooLarge m0_TooLarge m1_TooLarge m2_TooLarge m3_TooLarge m5_TooLarge "ValueError.__new__"))
    (ebm_TooLarge : PySem.HandSPX.refsVE bm_TooLarge = true)
    (esa_TooLarge : PySem.W.findIn K (.ref K_TooLarge) "__setattr__" = some (some (.builtin "object.__setattr__")))
    (ekp_TooLarge : PySem.W.keepIn K (.ref K_TooLarge) = true)
    (esi_TooLarge : PySem.W.ks_superIn K K_TooLarge K_TooLarge "__init__" = some (some (.builtin "ValueError.__init__")))
    (esv_TooLarge : PySem.W.subIn K (.ref K_TooLarge) (.type "ValueError") = some true)
    (ese_TooLarge : PySem.W.mroIn K K_TooLarge (.ref K_TooLarge) = some true)
    (ein_TooLarge : PySem.W.findIn K (.ref K_TooLarge) "__init__" = some (some (.ref if_TooLarge)))
    (eit_TooLarge : PySem.W.typeIn K (.ref if_TooLarge) = some (.type "function"))
    (eil_TooLarge : K.lookup if_TooLarge = some ⟨ioc_TooLarge, iod_TooLarge, .func (PySem.W.fnX "__init__" "TooLarge.__init__" (defArgs s_TooLarge___init__) (defBody s_TooLarge___init__) (defScope s_TooLarge___init__) [("__class__", icc_TooLarge)] .none ikV_TooLarge idc_TooLarge ipm_TooLarge ian_TooLarge (.ref icd_TooLarge) ict_TooLarge), isl_TooLarge⟩)
    (eic_TooLarge : PySem.W.codeIn K (.ref icd_TooLarge) "TooLarge.__init__" = true)
    (ecc_TooLarge : K.lookup icc_TooLarge = some ⟨jc_TooLarge, jd_TooLarge, .cell (some (.ref K_TooLarge)), js_TooLarge⟩)
    (ecd_TooLarge : K.lookup icd_TooLarge = some ⟨kc_TooLarge, kd_TooLarge, .fields kf_TooLarge, ks_TooLarge⟩)
    (eft_TooLarge : kf_TooLarge[2]? = some (.str "/claim/cut.py" kt_TooLarge))
    (en_limit_TooLarge : PySem.W.findIn K (.ref K_TooLarge) "limit" = some none)
    (exl_WrongCount : K.lookup K_WrongCount = some (excClassObj nm_WrongCount qn_WrongCount K_WrongCount nn_WrongCount bs_WrongCount bm_WrongCount true sn_WrongCount sb_WrongCount ab_WrongCount co_WrongCount dd_WrongCount m0_WrongCount m1_WrongCount m2_WrongCount m3_WrongCount m5_WrongCount "ValueError.__new__"))
    (ebm_WrongCount : PySem.HandSPX.refsVE bm_WrongCount = true)
    (esa_WrongCount : PySem.W.findIn K (.ref K_WrongCount) "__setattr__" = some (some (.builtin "object.__setattr__")))
    (ekp_WrongCount : PySem.W.keepIn K (.ref K_WrongCount) = true)
    (esi_WrongCount : PySem.W.ks_superIn K K_WrongCount K_WrongCount "__init__" = some (some (.builtin "ValueError.__init__")))
    (esv_WrongCount : PySem.W.subIn K (.ref K_WrongCount) (.type "ValueError") = some true)
    (ese_WrongCount : PySem.W.mroIn K K_WrongCount (.ref K_WrongCount) = some true)
    (ein_WrongCount : PySem.W.findIn K (.ref K_WrongCount) "__init__" = some (some (.ref if_WrongCount)))
    (eit_WrongCount : PySem.W.typeIn K (.ref if_WrongCount) = some (.type "function"))
    (eil_WrongCount : K.lookup if_WrongCount = some ⟨ioc_WrongCount, iod_WrongCount, .func (PySem.W.fnX "__init__" "WrongCount.__init__" (defArgs s_WrongCount___init__) (defBody s_WrongCount___init__) (defScope s_WrongCount___init__) [("__class__", icc_WrongCount)] .none ikV_WrongCount idc_WrongCount ipm_WrongCount ian_WrongCount (.ref icd_WrongCount) ict_WrongCount), isl_WrongCount⟩)
    (eic_WrongCount : PySem.W.codeIn K (.ref icd_WrongCount) "WrongCount.__init__" = true)
    (ecc_WrongCount : K.lookup icc_WrongCount = some ⟨jc_WrongCount, jd_WrongCount, .cell (some (.ref K_WrongCount)), js_WrongCount⟩)
    (ecd_WrongCount : K.lookup icd_WrongCount = some ⟨kc_WrongCount, kd_WrongCount, .fields kf_WrongCount, ks_WrongCount⟩)
    (eft_WrongCount : kf_WrongCount[2]? = some (.str "/claim/cut.py" kt_WrongCount))
    (en_due_WrongCount : PySem.W.findIn K (.ref K_WrongCount) "due" = some none)
    (en_given_WrongCount : PySem.W.findIn K (.ref K_WrongCount) "given" = some none)
    (epx_InvalidShape : PySem.W.excIn K K_InvalidShape [.type "ValueError", .type "Exception", .type "BaseException", .type "object"] "ValueError.__new__" = true)
    (epk_InvalidShape : PySem.W.keepIn K (.ref K_InvalidShape) = true)
    (epx_InvalidSelection : PySem.W.excIn K K_InvalidSelection [.type "ValueError", .type "Exception", .type "BaseException", .type "object"] "ValueError.__new__" = true)
    (epk_InvalidSelection : PySem.W.keepIn K (.ref K_InvalidSelection) = true)
    (es_TesseraError_TesseraError : PySem.W.subIn K (.ref K_TesseraError) (.ref K_TesseraError) = some true)
    (es_TesseraError_InvalidShape : PySem.W.subIn K (.ref K_TesseraError) (.ref K_InvalidShape) = some false)
    (es_TesseraError_InvalidSelection : PySem.W.subIn K (.ref K_TesseraError) (.ref K_InvalidSelection) = some false)
    (es_TesseraError_TooLarge : PySem.W.subIn K (.ref K_TesseraError) (.ref K_TooLarge) = some false)
    (es_TesseraError_WrongCount : PySem.W.subIn K (.ref K_TesseraError) (.ref K_WrongCount) = some false)
    (es_InvalidShape_TesseraError : PySem.W.subIn K (.ref K_InvalidShape) (.ref K_TesseraError) = some true)
    (es_InvalidShape_InvalidShape : PySem.W.subIn K (.ref K_InvalidShape) (.ref K_InvalidShape) = some true)
    (es_InvalidShape_InvalidSelection : PySem.W.subIn K (.ref K_InvalidShape) (.ref K_InvalidSelection) = some false)
    (es_InvalidShape_TooLarge : PySem.W.subIn K (.ref K_InvalidShape) (.ref K_TooLarge) = some false)
    (es_InvalidShape_WrongCount : PySem.W.subIn K (.ref K_InvalidShape) (.ref K_WrongCount) = some false)
    (es_InvalidSelection_TesseraError : PySem.W.subIn K (.ref K_InvalidSelection) (.ref K_TesseraError) = some true)
    (es_InvalidSelection_InvalidShape : PySem.W.subIn K (.ref K_InvalidSelection) (.ref K_InvalidShape) = some false)
    (es_InvalidSelection_InvalidSelection : PySem.W.subIn K (.ref K_InvalidSelection) (.ref K_InvalidSelection) = some true)
    (es_InvalidSelection_TooLarge : PySem.W.subIn K (.ref K_InvalidSelection) (.ref K_TooLarge) = some false)
    (es_InvalidSelection_WrongCount : PySem.W.subIn K (.ref K_InvalidSelection) (.ref K_WrongCount) = some false)
    (es_TooLarge_TesseraError : PySem.W.subIn K (.ref K_TooLarge) (.ref K_TesseraError) = some true)
    (es_TooLarge_InvalidShape : PySem.W.subIn K (.ref K_TooLarge) (.ref K_InvalidShape) = some false)
    (es_TooLarge_InvalidSelection : PySem.W.subIn K (.ref K_TooLarge) (.ref K_InvalidSelection) = some false)
    (es_TooLarge_TooLarge : PySem.W.subIn K (.ref K_TooLarge) (.ref K_TooLarge) = some true)
    (es_TooLarge_WrongCount : PySem.W.subIn K (.ref K_TooLarge) (.ref K_WrongCount) = some false)
    (es_WrongCount_TesseraError : PySem.W.subIn K (.ref K_WrongCount) (.ref K_TesseraError) = some true)
    (es_WrongCount_InvalidShape : PySem.W.subIn K (.ref K_WrongCount) (.ref K_InvalidShape) = some false)
    (es_WrongCount_InvalidSelection : PySem.W.subIn K (.ref K_WrongCount) (.ref K_InvalidSelection) = some false)
    (es_WrongCount_TooLarge : PySem.W.subIn K (.ref K_WrongCount) (.ref K_TooLarge) = some false)
    (es_WrongCount_WrongCount : PySem.W.subIn K (.ref K_WrongCount) (.ref K_WrongCount) = some true)
    (z_BEYOND_TOLD : PySem.W.nsIn K mainGlobals "BEYOND_TOLD" = some (some (.int 1000000000000000000000000000000 t_BEYOND_TOLD)))
    (z_GREATEST_SIZE : PySem.W.nsIn K mainGlobals "GREATEST_SIZE" = some (some (.int 1000000000 t_GREATEST_SIZE)))
    (z_MOST_DIMENSIONS : PySem.W.nsIn K mainGlobals "MOST_DIMENSIONS" = some (some (.int 4 t_MOST_DIMENSIONS)))
    (z_MOST_PICKED : PySem.W.nsIn K mainGlobals "MOST_PICKED" = some (some (.int 100000 t_MOST_PICKED)))
    (z_abs : PySem.W.nsIn K mainGlobals "abs" = some none)
    (z_all : PySem.W.nsIn K mainGlobals "all" = some none)
    (z_any : PySem.W.nsIn K mainGlobals "any" = some none)
    (z_bool : PySem.W.nsIn K mainGlobals "bool" = some none)
    (z_int : PySem.W.nsIn K mainGlobals "int" = some none)
    (z_isinstance : PySem.W.nsIn K mainGlobals "isinstance" = some none)
    (z_len : PySem.W.nsIn K mainGlobals "len" = some none)
    (z_list : PySem.W.nsIn K mainGlobals "list" = some none)
    (z_max : PySem.W.nsIn K mainGlobals "max" = some none)
    (z_min : PySem.W.nsIn K mainGlobals "min" = some none)
    (z_range : PySem.W.nsIn K mainGlobals "range" = some none)
    (z_str : PySem.W.nsIn K mainGlobals "str" = some none)
    (z_super : PySem.W.nsIn K mainGlobals "super" = some none)
    (z_tuple : PySem.W.nsIn K mainGlobals "tuple" = some none)
    (z_zip : PySem.W.nsIn K mainGlobals "zip" = some none) : Top K mg :=
  { f_told := ⟨_, _, fun_mk (st := s_told) l_told c_told k_told, PySem.W.mg_of X G a_told, (fun_mk (st := s_told) l_told c_told k_told).binds (ps := ["thing"]) fun _ _ _ _ _ _ us hl => match us, hl with | [_], _ => rfl⟩,
    f_whole := ⟨_, _, fun_mk (st := s_whole) l_whole c_whole k_whole, PySem.W.mg_of X G a_whole, (fun_mk (st := s_whole) l_whole c_whole k_whole).binds (ps := ["shape"]) fun _ _ _ _ _ _ us hl => match us, hl with | [_], _ => rfl⟩,
    f_selection_size := ⟨_, _, fun_mk (st := s_selection_size) l_selection_size c_selection_size k_selection_size, PySem.W.mg_of X G a_selection_size, (fun_mk (st := s_selection_size) l_selection_size c_selection_size k_selection_size).binds (ps := ["selection"]) fun _ _ _ _ _ _ us hl => match us, hl with | [_], _ => rfl⟩,
    f_fits := ⟨_, _, fun_mk (st := s_fits) l_fits c_fits k_fits, PySem.W.mg_of X G a_fits, (fun_mk (st := s_fits) l_fits c_fits k_fits).binds (ps := ["shape", "selection"]) fun _ _ _ _ _ _ us hl => match us, hl with | [_, _], _ => rfl⟩,
    f_is_index := ⟨_, _, fun_mk (st := s_is_index) l_is_index c_is_index k_is_index, PySem.W.mg_of X G a_is_index, (fun_mk (st := s_is_index) l_is_index c_is_index k_is_index).binds (ps := ["shape", "index"]) fun _ _ _ _ _ _ us hl => match us, hl with | [_, _], _ => rfl⟩,
    f_box_fits := ⟨_, _, fun_mk (st := s_box_fits) l_box_fits c_box_fits k_box_fits, PySem.W.mg_of X G a_box_fits, (fun_mk (st := s_box_fits) l_box_fits c_box_fits k_box_fits).binds (ps := ["shape", "ranges"]) fun _ _ _ _ _ _ us hl => match us, hl with | [_, _], _ => rfl⟩,
    f_picked := ⟨_, _, fun_mk (st := s_picked) l_picked c_picked k_picked, PySem.W.mg_of X G a_picked, (fun_mk (st := s_picked) l_picked c_picked k_picked).binds (ps := ["shape", "selection"]) fun _ _ _ _ _ _ us hl => match us, hl with | [_, _], _ => rfl⟩,
    f_box_indexes := ⟨_, _, fun_mk (st := s_box_indexes) l_box_indexes c_box_indexes k_box_indexes, PySem.W.mg_of X G a_box_indexes, (fun_mk (st := s_box_indexes) l_box_indexes c_box_indexes k_box_indexes).binds (ps := ["ranges"]) fun _ _ _ _ _ _ us hl => match us, hl with | [_], _ => rfl⟩,
    f_meeting := ⟨_, _, fun_mk (st := s_meeting) l_meeting c_meeting k_meeting, PySem.W.mg_of X G a_meeting, (fun_mk (st := s_meeting) l_meeting c_meeting k_meeting).binds (ps := ["first", "second"]) fun _ _ _ _ _ _ us hl => match us, hl with | [_, _], _ => rfl⟩,
    f_is_shape := ⟨_, _, fun_mk (st := s_is_shape) l_is_shape c_is_shape k_is_shape, PySem.W.mg_of X G a_is_shape, (fun_mk (st := s_is_shape) l_is_shape c_is_shape k_is_shape).binds (ps := ["shape"]) fun _ _ _ _ _ _ us hl => match us, hl with | [_], _ => rfl⟩,
    f_element_count := ⟨_, _, fun_mk (st := s_element_count) l_element_count c_element_count k_element_count, PySem.W.mg_of X G a_element_count, (fun_mk (st := s_element_count) l_element_count c_element_count k_element_count).binds (ps := ["shape"]) fun _ _ _ _ _ _ us hl => match us, hl with | [_], _ => rfl⟩,
    f_rank_of := ⟨_, _, fun_mk (st := s_rank_of) l_rank_of c_rank_of k_rank_of, PySem.W.mg_of X G a_rank_of, (fun_mk (st := s_rank_of) l_rank_of c_rank_of k_rank_of).binds (ps := ["shape", "index"]) fun _ _ _ _ _ _ us hl => match us, hl with | [_, _], _ => rfl⟩,
    f__law_cell := ⟨_, _, fun_mk (st := s__law_cell) l__law_cell c__law_cell k__law_cell, PySem.W.mg_of X G a__law_cell, (fun_mk (st := s__law_cell) l__law_cell c__law_cell k__law_cell).binds (ps := ["script", "k"]) fun _ _ _ _ _ _ us hl => match us, hl with | [_, _], _ => rfl⟩,
    f__law_draws := ⟨_, _, fun_mk (st := s__law_draws) l__law_draws c__law_draws k__law_draws, PySem.W.mg_of X G a__law_draws, (fun_mk (st := s__law_draws) l__law_draws c__law_draws k__law_draws).binds (ps := ["cell", "count"]) fun _ _ _ _ _ _ us hl => match us, hl with | [_, _], _ => rfl⟩,
    f__law_is_int := ⟨_, _, fun_mk (st := s__law_is_int) l__law_is_int c__law_is_int k__law_is_int, PySem.W.mg_of X G a__law_is_int, (fun_mk (st := s__law_is_int) l__law_is_int c__law_is_int k__law_is_int).binds (ps := ["x"]) fun _ _ _ _ _ _ us hl => match us, hl with | [_], _ => rfl⟩,
    f__law_ints := ⟨_, _, fun_mk (st := s__law_ints) l__law_ints c__law_ints k__law_ints, PySem.W.mg_of X G a__law_ints, (fun_mk (st := s__law_ints) l__law_ints c__law_ints k__law_ints).binds (ps := ["x", "kind"]) fun _ _ _ _ _ _ us hl => match us, hl with | [_, _], _ => rfl⟩,
    f__law_is_tuple := ⟨_, _, fun_mk (st := s__law_is_tuple) l__law_is_tuple c__law_is_tuple k__law_is_tuple, PySem.W.mg_of X G a__law_is_tuple, (fun_mk (st := s__law_is_tuple) l__law_is_tuple c__law_is_tuple k__law_is_tuple).binds (ps := ["x", "due"]) fun _ _ _ _ _ _ us hl => match us, hl with | [_, _], _ => rfl⟩,
    f__law_is_number := ⟨_, _, fun_mk (st := s__law_is_number) l__law_is_number c__law_is_number k__law_is_number, PySem.W.mg_of X G a__law_is_number, (fun_mk (st := s__law_is_number) l__law_is_number c__law_is_number k__law_is_number).binds (ps := ["x", "due"]) fun _ _ _ _ _ _ us hl => match us, hl with | [_, _], _ => rfl⟩,
    f__law_shape := ⟨_, _, fun_mk (st := s__law_shape) l__law_shape c__law_shape k__law_shape, PySem.W.mg_of X G a__law_shape, (fun_mk (st := s__law_shape) l__law_shape c__law_shape k__law_shape).binds (ps := ["draws", "at", "most"]) fun _ _ _ _ _ _ us hl => match us, hl with | [_, _, _], _ => rfl⟩,
    f__law_all := ⟨_, _, fun_mk (st := s__law_all) l__law_all c__law_all k__law_all, PySem.W.mg_of X G a__law_all, (fun_mk (st := s__law_all) l__law_all c__law_all k__law_all).binds (ps := ["shape"]) fun _ _ _ _ _ _ us hl => match us, hl with | [_], _ => rfl⟩,
    f__law_whole := ⟨_, _, fun_mk (st := s__law_whole) l__law_whole c__law_whole k__law_whole, PySem.W.mg_of X G a__law_whole, (fun_mk (st := s__law_whole) l__law_whole c__law_whole k__law_whole).binds (ps := ["shape"]) fun _ _ _ _ _ _ us hl => match us, hl with | [_], _ => rfl⟩,
    f__law_same_ints := ⟨_, _, fun_mk (st := s__law_same_ints) l__law_same_ints c__law_same_ints k__law_same_ints, PySem.W.mg_of X G a__law_same_ints, (fun_mk (st := s__law_same_ints) l__law_same_ints c__law_same_ints k__law_same_ints).binds (ps := ["x", "due"]) fun _ _ _ _ _ _ us hl => match us, hl with | [_, _], _ => rfl⟩,
    f__law_stream := ⟨_, _, fun_mk (st := s__law_stream) l__law_stream c__law_stream k__law_stream, PySem.W.mg_of X G a__law_stream, (fun_mk (st := s__law_stream) l__law_stream c__law_stream k__law_stream).binds (ps := ["script", "count"]) fun _ _ _ _ _ _ us hl => match us, hl with | [_, _], _ => rfl⟩,
    f__law_many := ⟨_, _, fun_mk (st := s__law_many) l__law_many c__law_many k__law_many, PySem.W.mg_of X G a__law_many, (fun_mk (st := s__law_many) l__law_many c__law_many k__law_many).binds (ps := ["shape"]) fun _ _ _ _ _ _ us hl => match us, hl with | [_], _ => rfl⟩,
    f_law := ⟨_, _, fun_mk (st := s_law) l_law c_law k_law, PySem.W.mg_of X G a_law, (fun_mk (st := s_law) l_law c_law k_law).binds (ps := ["script"]) fun _ _ _ _ _ _ us hl => match us, hl with | [_], _ => rfl⟩,
    c_PlainArray := ⟨K_PlainArray, { cl := ⟨pg_K_PlainArray, hd_K_PlainArray, po_K_PlainArray, sa_K_PlainArray⟩, at_ := PySem.W.mg_of X G a_K_PlainArray, a_shape := n_K_PlainArray_shape, a_fill := n_K_PlainArray_fill, a__held := n_K_PlainArray__held, i_ := ⟨_, _, fun_mk (st := s_PlainArray___init__) l_PlainArray___init__ c_PlainArray___init__ k_PlainArray___init__, ⟨mk_K_PlainArray, a_PlainArray___init__, i_PlainArray___init__, kc_K_PlainArray⟩, (fun_mk (st := s_PlainArray___init__) l_PlainArray___init__ c_PlainArray___init__ k_PlainArray___init__).binds (ps := ["self", "shape", "fill"]) fun _ _ _ _ _ _ us hl => match us, hl with | [_, _, _], _ => rfl⟩, m_all_values := ⟨_, _, fun_mk (st := s_PlainArray_all_values) l_PlainArray_all_values c_PlainArray_all_values k_PlainArray_all_values, ⟨a_PlainArray_all_values, i_PlainArray_all_values, k_PlainArray_all_values⟩, (fun_mk (st := s_PlainArray_all_values) l_PlainArray_all_values c_PlainArray_all_values k_PlainArray_all_values).binds (ps := ["self"]) fun _ _ _ _ _ _ us hl => match us, hl with | [_], _ => rfl⟩, m_read := ⟨_, _, fun_mk (st := s_PlainArray_read) l_PlainArray_read c_PlainArray_read k_PlainArray_read, ⟨a_PlainArray_read, i_PlainArray_read, k_PlainArray_read⟩, (fun_mk (st := s_PlainArray_read) l_PlainArray_read c_PlainArray_read k_PlainArray_read).binds (ps := ["self", "selection"]) fun _ _ _ _ _ _ us hl => match us, hl with | [_, _], _ => rfl⟩, m_write := ⟨_, _, fun_mk (st := s_PlainArray_write) l_PlainArray_write c_PlainArray_write k_PlainArray_write, ⟨a_PlainArray_write, i_PlainArray_write, k_PlainArray_write⟩, (fun_mk (st := s_PlainArray_write) l_PlainArray_write c_PlainArray_write k_PlainArray_write).binds (ps := ["self", "selection", "values"]) fun _ _ _ _ _ _ us hl => match us, hl with | [_, _, _], _ => rfl⟩, m_resize := ⟨_, _, fun_mk (st := s_PlainArray_resize) l_PlainArray_resize c_PlainArray_resize k_PlainArray_resize, ⟨a_PlainArray_resize, i_PlainArray_resize, k_PlainArray_resize⟩, (fun_mk (st := s_PlainArray_resize) l_PlainArray_resize c_PlainArray_resize k_PlainArray_resize).binds (ps := ["self", "shape"]) fun _ _ _ _ _ _ us hl => match us, hl with | [_, _], _ => rfl⟩ }⟩,
    errs := ⟨K_TesseraError, K_InvalidShape, K_InvalidSelection, K_TooLarge, K_WrongCount, { c_TesseraError := ⟨PySem.W.mg_of X G ea_TesseraError, ⟨ega_TesseraError, egg_TesseraError, eex_TesseraError, ehd_TesseraError⟩, ⟨ega_TesseraError, egg_TesseraError, eex_TesseraError, ehd_TesseraError, eha_TesseraError, egn, egt, ehm_TesseraError⟩, ety_TesseraError⟩, c_InvalidShape := ⟨PySem.W.mg_of X G ea_InvalidShape, ⟨ega_InvalidShape, egg_InvalidShape, eex_InvalidShape, ehd_InvalidShape⟩, ⟨ega_InvalidShape, egg_InvalidShape, eex_InvalidShape, ehd_InvalidShape, eha_InvalidShape, egn, egt, ehm_InvalidShape⟩, ety_InvalidShape⟩, c_InvalidSelection := ⟨PySem.W.mg_of X G ea_InvalidSelection, ⟨ega_InvalidSelection, egg_InvalidSelection, eex_InvalidSelection, ehd_InvalidSelection⟩, ⟨ega_InvalidSelection, egg_InvalidSelection, eex_InvalidSelection, ehd_InvalidSelection, eha_InvalidSelection, egn, egt, ehm_InvalidSelection⟩, ety_InvalidSelection⟩, c_TooLarge := ⟨PySem.W.mg_of X G ea_TooLarge, ⟨ega_TooLarge, egg_TooLarge, eex_TooLarge, ehd_TooLarge⟩, ⟨ega_TooLarge, egg_TooLarge, eex_TooLarge, ehd_TooLarge, eha_TooLarge, egn, egt, ehm_TooLarge⟩, ety_TooLarge⟩, c_WrongCount := ⟨PySem.W.mg_of X G ea_WrongCount, ⟨ega_WrongCount, egg_WrongCount, eex_WrongCount, ehd_WrongCount⟩, ⟨ega_WrongCount, egg_WrongCount, eex_WrongCount, ehd_WrongCount, eha_WrongCount, egn, egt, ehm_WrongCount⟩, ety_WrongCount⟩, i_TooLarge := ⟨⟨⟨⟨_, _, _, _, _, _, _, _, _, _, _, _, _, _, _, exl_TooLarge, ebm_TooLarge⟩, esa_TooLarge, eex_TooLarge, ety_TooLarge, ekp_TooLarge⟩, esi_TooLarge, esv_TooLarge, ese_TooLarge, est⟩, ⟨_, _, ⟨_, _, _, _, _, _, _, _, _, _, rfl, eil_TooLarge, eic_TooLarge, ⟨_, _, _, ecc_TooLarge⟩, _, _, _, _, _, ecd_TooLarge, eft_TooLarge⟩, ein_TooLarge, eit_TooLarge, .all fun us hl => match us, hl with | [_, _], _ => rfl⟩, (fun f hf => by rw [List.mem_singleton.mp hf]; exact en_limit_TooLarge)⟩, i_WrongCount := ⟨⟨⟨⟨_, _, _, _, _, _, _, _, _, _, _, _, _, _, _, exl_WrongCount, ebm_WrongCount⟩, esa_WrongCount, eex_WrongCount, ety_WrongCount, ekp_WrongCount⟩, esi_WrongCount, esv_WrongCount, ese_WrongCount, est⟩, ⟨_, _, ⟨_, _, _, _, _, _, _, _, _, _, rfl, eil_WrongCount, eic_WrongCount, ⟨_, _, _, ecc_WrongCount⟩, _, _, _, _, _, ecd_WrongCount, eft_WrongCount⟩, ein_WrongCount, eit_WrongCount, .all fun us hl => match us, hl with | [_, _, _], _ => rfl⟩, (fun f hf => by simp only [List.mem_cons, List.not_mem_nil, or_false] at hf; rcases hf with rfl | rfl <;> assumption)⟩, p_InvalidShape := ⟨epx_InvalidShape, epk_InvalidShape⟩, p_InvalidSelection := ⟨epx_InvalidSelection, epk_InvalidSelection⟩, s_TesseraError_TesseraError := es_TesseraError_TesseraError, s_TesseraError_InvalidShape := es_TesseraError_InvalidShape, s_TesseraError_InvalidSelection := es_TesseraError_InvalidSelection, s_TesseraError_TooLarge := es_TesseraError_TooLarge, s_TesseraError_WrongCount := es_TesseraError_WrongCount, s_InvalidShape_TesseraError := es_InvalidShape_TesseraError, s_InvalidShape_InvalidShape := es_InvalidShape_InvalidShape, s_InvalidShape_InvalidSelection := es_InvalidShape_InvalidSelection, s_InvalidShape_TooLarge := es_InvalidShape_TooLarge, s_InvalidShape_WrongCount := es_InvalidShape_WrongCount, s_InvalidSelection_TesseraError := es_InvalidSelection_TesseraError, s_InvalidSelection_InvalidShape := es_InvalidSelection_InvalidShape, s_InvalidSelection_InvalidSelection := es_InvalidSelection_InvalidSelection, s_InvalidSelection_TooLarge := es_InvalidSelection_TooLarge, s_InvalidSelection_WrongCount := es_InvalidSelection_WrongCount, s_TooLarge_TesseraError := es_TooLarge_TesseraError, s_TooLarge_InvalidShape := es_TooLarge_InvalidShape, s_TooLarge_InvalidSelection := es_TooLarge_InvalidSelection, s_TooLarge_TooLarge := es_TooLarge_TooLarge, s_TooLarge_WrongCount := es_TooLarge_WrongCount, s_WrongCount_TesseraError := es_WrongCount_TesseraError, s_WrongCount_InvalidShape := es_WrongCount_InvalidShape, s_WrongCount_InvalidSelection := es_WrongCount_InvalidSelection, s_WrongCount_TooLarge := es_WrongCount_TooLarge, s_WrongCount_WrongCount := es_WrongCount_WrongCount }⟩,
    g_BEYOND_TOLD := ⟨_, PySem.W.mg_of X G z_BEYOND_TOLD⟩,
    g_GREATEST_SIZE := ⟨_, PySem.W.mg_of X G z_GREATEST_SIZE⟩,
    g_MOST_DIMENSIONS := ⟨_, PySem.W.mg_of X G z_MOST_DIMENSIONS⟩,
    g_MOST_PICKED := ⟨_, PySem.W.mg_of X G z_MOST_PICKED⟩,
    b_abs := PySem.W.mg_none_of X G z_abs,
    b_all := PySem.W.mg_none_of X G z_all,
    b_any := PySem.W.mg_none_of X G z_any,
    b_bool := PySem.W.mg_none_of X G z_bool,
    b_int := PySem.W.mg_none_of X G z_int,
    b_isinstance := PySem.W.mg_none_of X G z_isinstance,
    b_len := PySem.W.mg_none_of X G z_len,
    b_list := PySem.W.mg_none_of X G z_list,
    b_max := PySem.W.mg_none_of X G z_max,
    b_min := PySem.W.mg_none_of X G z_min,
    b_range := PySem.W.mg_none_of X G z_range,
    b_str := PySem.W.mg_none_of X G z_str,
    b_super := PySem.W.mg_none_of X G z_super,
    b_tuple := PySem.W.mg_none_of X G z_tuple,
    b_zip := PySem.W.mg_none_of X G z_zip }
theorem law_mk {l : PySem.W.OpenLaw} {w : World} {K : PySem.W.Frag} {mg : Str → Option Value} {fa : Addr} {k : Nat} {sp : Sp} (hfa : mg "law" = some (.ref fa)) (T : Top K mg)
    (F : ∀ (base : Heap) (f : Addr) (fd : FuncData), Fun K "law" "law" s_law f fd → FnOk l.prog w K mg base CX0 k f fd ["script"] sp) :
    ∃ fd : FuncData, (∀ (s : Shared) (v : Value), BindsTo s fd ⟨[v], []⟩ [("script", v)]) ∧ ∀ base : Heap, K.In base → base.Ns mainGlobals mg → FnOk l.prog w K mg base CX0 k fa fd ["script"] sp := by
  obtain ⟨f, fd, FF, hm, hb⟩ := T.f_law.ex
  have e : f = fa := by rw [hm] at hfa; exact Value.ref.inj (Option.some.inj hfa)
  subst e
  have FF2 := FF
  obtain ⟨oc, od, kV, doc, pm, an, cdv, ct, osl, rfl, lk, hcd⟩ := FF2.ex
  exact ⟨_, fun s v => .of_eq rfl, fun base _ _ => F base f _ FF⟩
theorem pr_ok : PrOk PySem.Challenge.rw_tessera_k15_plain_arrays_resized.prog := ⟨rfl, rfl⟩
end My
open PySem PySem.W PyProof.Rows
set_option maxHeartbeats 0 in
theorem PySem.Challenge.cw_tessera_k15_plain_arrays_resized_holds : PySem.Challenge.rw_tessera_k15_plain_arrays_resized.Holds := by
  w_on; o_law; k_head; (case hw => w_witness2)
  k_fill
  refine L2.walk_ofB (l := PySem.Challenge.rw_tessera_k15_plain_arrays_resized) (n := 63) (k := My.lawK) (x := "script") (CX := fun _ => L2.CX0) (sp := fun w => My.spLaw _) rfl (by decide) rfl ⟨rfl, by decide, by decide⟩ (fun w h Y => PySem.W.kIn_of Y) ?F (fun w H a ns hl hb _ hS => My.law_in hl hb hS) (fun _ _ _ _ _ h => h)
  case F =>
    intro w mg fa h KX G hmg
    refine' (fun T => My.law_mk hmg T (fun base f fd F => My.ok_law My.pr_ok F T)) ?T
    refine' My.top_mk KX G ?a_told ?l_told ?c_told ?k_told ?a_whole ?l_whole ?c_whole ?k_whole ?a_selection_size ?l_selection_size ?c_selection_size ?k_selection_size ?a_fits ?l_fits ?c_fits ?k_fits ?a_is_index ?l_is_index ?c_is_index ?k_is_index ?a_box_fits ?l_box_fits ?c_box_fits ?k_box_fits ?a_picked ?l_picked ?c_picked ?k_picked ?a_box_indexes ?l_box_indexes ?c_box_indexes ?k_box_indexes ?a_meeting ?l_meeting ?c_meeting ?k_meeting ?a_is_shape ?l_is_shape ?c_is_shape ?k_is_shape ?a_element_count ?l_element_count ?c_element_count ?k_element_count ?a_rank_of ?l_rank_of ?c_rank_of ?k_rank_of ?a__law_cell ?l__law_cell ?c__law_cell ?k__law_cell ?a__law_draws ?l__law_draws ?c__law_draws ?k__law_draws ?a__law_is_int ?l__law_is_int ?c__law_is_int ?k__law_is_int ?a__law_ints ?l__law_ints ?c__law_ints ?k__law_ints ?a__law_is_tuple ?l__law_is_tuple ?c__law_is_tuple ?k__law_is_tuple ?a__law_is_number ?l__law_is_number ?c__law_is_number ?k__law_is_number ?a__law_shape ?l__law_shape ?c__law_shape ?k__law_shape ?a__law_all ?l__law_all ?c__law_all ?k__law_all ?a__law_whole ?l__law_whole ?c__law_whole ?k__law_whole ?a__law_same_ints ?l__law_same_ints ?c__law_same_ints ?k__law_same_ints ?a__law_stream ?l__law_stream ?c__law_stream ?k__law_stream ?a__law_many ?l__law_many ?c__law_many ?k__law_many ?a_law ?l_law ?c_law ?k_law ?a_K_PlainArray ?pg_K_PlainArray ?hd_K_PlainArray ?po_K_PlainArray ?sa_K_PlainArray ?n_K_PlainArray_shape ?n_K_PlainArray_fill ?n_K_PlainArray__held ?a_PlainArray___init__ ?i_PlainArray___init__ ?l_PlainArray___init__ ?c_PlainArray___init__ ?k_PlainArray___init__ ?mk_K_PlainArray ?kc_K_PlainArray ?a_PlainArray_all_values ?i_PlainArray_all_values ?l_PlainArray_all_values ?c_PlainArray_all_values ?k_PlainArray_all_values ?a_PlainArray_read ?i_PlainArray_read ?l_PlainArray_read ?c_PlainArray_read ?k_PlainArray_read ?a_PlainArray_write ?i_PlainArray_write ?l_PlainArray_write ?c_PlainArray_write ?k_PlainArray_write ?a_PlainArray_resize ?i_PlainArray_resize ?l_PlainArray_resize ?c_PlainArray_resize ?k_PlainArray_resize ?ea_TesseraError ?ega_TesseraError ?egg_TesseraError ?eex_TesseraError ?ehd_TesseraError ?eha_TesseraError ?ehm_TesseraError ?ety_TesseraError ?ea_InvalidShape ?ega_InvalidShape ?egg_InvalidShape ?eex_InvalidShape ?ehd_InvalidShape ?eha_InvalidShape ?ehm_InvalidShape ?ety_InvalidShape ?ea_InvalidSelection ?ega_InvalidSelection ?egg_InvalidSelection ?eex_InvalidSelection ?ehd_InvalidSelection ?eha_InvalidSelection ?ehm_InvalidSelection ?ety_InvalidSelection ?ea_TooLarge ?ega_TooLarge ?egg_TooLarge ?eex_TooLarge ?ehd_TooLarge ?eha_TooLarge ?ehm_TooLarge ?ety_TooLarge ?ea_WrongCount ?ega_WrongCount ?egg_WrongCount ?eex_WrongCount ?ehd_WrongCount ?eha_WrongCount ?ehm_WrongCount ?ety_WrongCount ?egn ?egt ?est ?exl_TooLarge ?ebm_TooLarge ?esa_TooLarge ?ekp_TooLarge ?esi_TooLarge ?esv_TooLarge ?ese_TooLarge ?ein_TooLarge ?eit_TooLarge ?eil_TooLarge ?eic_TooLarge ?ecc_TooLarge ?ecd_TooLarge ?eft_TooLarge ?en_limit_TooLarge ?exl_WrongCount ?ebm_WrongCount ?esa_WrongCount ?ekp_WrongCount ?esi_WrongCount ?esv_WrongCount ?ese_WrongCount ?ein_WrongCount ?eit_WrongCount ?eil_WrongCount ?eic_WrongCount ?ecc_WrongCount ?ecd_WrongCount ?eft_WrongCount ?en_due_WrongCount ?en_given_WrongCount ?epx_InvalidShape ?epk_InvalidShape ?epx_InvalidSelection ?epk_InvalidSelection ?es_TesseraError_TesseraError ?es_TesseraError_InvalidShape ?es_TesseraError_InvalidSelection ?es_TesseraError_TooLarge ?es_TesseraError_WrongCount ?es_InvalidShape_TesseraError ?es_InvalidShape_InvalidShape ?es_InvalidShape_InvalidSelection ?es_InvalidShape_TooLarge ?es_InvalidShape_WrongCount ?es_InvalidSelection_TesseraError ?es_InvalidSelection_InvalidShape ?es_InvalidSelection_InvalidSelection ?es_InvalidSelection_TooLarge ?es_InvalidSelection_WrongCount ?es_TooLarge_TesseraError ?es_TooLarge_InvalidShape ?es_TooLarge_InvalidSelection ?es_TooLarge_TooLarge ?es_TooLarge_WrongCount ?es_WrongCount_TesseraError ?es_WrongCount_InvalidShape ?es_WrongCount_InvalidSelection ?es_WrongCount_TooLarge ?es_WrongCount_WrongCount ?z_BEYOND_TOLD ?z_GREATEST_SIZE ?z_MOST_DIMENSIONS ?z_MOST_PICKED ?z_abs ?z_all ?z_any ?z_bool ?z_int ?z_isinstance ?z_len ?z_list ?z_max ?z_min ?z_range ?z_str ?z_super ?z_tuple ?z_zip
    (case a_told => k_is); (case l_told => k_is); (case c_told => k_is); (case k_told => k_is); (case a_whole => k_is); (case l_whole => k_is); (case c_whole => k_is); (case k_whole => k_is); (case a_selection_size => k_is); (case l_selection_size => k_is); (case c_selection_size => k_is); (case k_selection_size => k_is); (case a_fits => k_is); (case l_fits => k_is); (case c_fits => k_is); (case k_fits => k_is); (case a_is_index => k_is); (case l_is_index => k_is); (case c_is_index => k_is); (case k_is_index => k_is); (case a_box_fits => k_is); (case l_box_fits => k_is); (case c_box_fits => k_is); (case k_box_fits => k_is); (case a_picked => k_is); (case l_picked => k_is); (case c_picked => k_is); (case k_picked => k_is); (case a_box_indexes => k_is); (case l_box_indexes => k_is); (case c_box_indexes => k_is); (case k_box_indexes => k_is); (case a_meeting => k_is); (case l_meeting => k_is); (case c_meeting => k_is); (case k_meeting => k_is); (case a_is_shape => k_is); (case l_is_shape => k_is); (case c_is_shape => k_is); (case k_is_shape => k_is); (case a_element_count => k_is); (case l_element_count => k_is); (case c_element_count => k_is); (case k_element_count => k_is); (case a_rank_of => k_is); (case l_rank_of => k_is); (case c_rank_of => k_is); (case k_rank_of => k_is); (case a__law_cell => k_is); (case l__law_cell => k_is); (case c__law_cell => k_is); (case k__law_cell => k_is); (case a__law_draws => k_is); (case l__law_draws => k_is); (case c__law_draws => k_is); (case k__law_draws => k_is); (case a__law_is_int => k_is); (case l__law_is_int => k_is); (case c__law_is_int => k_is); (case k__law_is_int => k_is); (case a__law_ints => k_is); (case l__law_ints => k_is); (case c__law_ints => k_is); (case k__law_ints => k_is); (case a__law_is_tuple => k_is); (case l__law_is_tuple => k_is); (case c__law_is_tuple => k_is); (case k__law_is_tuple => k_is); (case a__law_is_number => k_is); (case l__law_is_number => k_is); (case c__law_is_number => k_is); (case k__law_is_number => k_is); (case a__law_shape => k_is); (case l__law_shape => k_is); (case c__law_shape => k_is); (case k__law_shape => k_is); (case a__law_all => k_is); (case l__law_all => k_is); (case c__law_all => k_is); (case k__law_all => k_is); (case a__law_whole => k_is); (case l__law_whole => k_is); (case c__law_whole => k_is); (case k__law_whole => k_is); (case a__law_same_ints => k_is); (case l__law_same_ints => k_is); (case c__law_same_ints => k_is); (case k__law_same_ints => k_is); (case a__law_stream => k_is); (case l__law_stream => k_is); (case c__law_stream => k_is); (case k__law_stream => k_is); (case a__law_many => k_is); (case l__law_many => k_is); (case c__law_many => k_is); (case k__law_many => k_is); (case a_law => k_is); (case l_law => k_is); (case c_law => k_is); (case k_law => k_is); (case a_K_PlainArray => k_is); (case pg_K_PlainArray => k_is); (case hd_K_PlainArray => k_is); (case po_K_PlainArray => k_is); (case sa_K_PlainArray => k_is); (case n_K_PlainArray_shape => k_is); (case n_K_PlainArray_fill => k_is); (case n_K_PlainArray__held => k_is); (case a_PlainArray___init__ => k_is); (case i_PlainArray___init__ => k_is); (case l_PlainArray___init__ => k_is); (case c_PlainArray___init__ => k_is); (case k_PlainArray___init__ => k_is); (case mk_K_PlainArray => k_is); (case kc_K_PlainArray => k_is); (case a_PlainArray_all_values => k_is); (case i_PlainArray_all_values => k_is); (case l_PlainArray_all_values => k_is); (case c_PlainArray_all_values => k_is); (case k_PlainArray_all_values => k_is); (case a_PlainArray_read => k_is); (case i_PlainArray_read => k_is); (case l_PlainArray_read => k_is); (case c_PlainArray_read => k_is); (case k_PlainArray_read => k_is); (case a_PlainArray_write => k_is); (case i_PlainArray_write => k_is); (case l_PlainArray_write => k_is); (case c_PlainArray_write => k_is); (case k_PlainArray_write => k_is); (case a_PlainArray_resize => k_is); (case i_PlainArray_resize => k_is); (case l_PlainArray_resize => k_is); (case c_PlainArray_resize => k_is); (case k_PlainArray_resize => k_is); (case ea_TesseraError => k_is); (case ega_TesseraError => k_is); (case egg_TesseraError => k_is); (case eex_TesseraError => k_is); (case ehd_TesseraError => k_is); (case eha_TesseraError => k_is); (case ehm_TesseraError => k_is); (case ety_TesseraError => k_is); (case ea_InvalidShape => k_is); (case ega_InvalidShape => k_is); (case egg_InvalidShape => k_is); (case eex_InvalidShape => k_is); (case ehd_InvalidShape => k_is); (case eha_InvalidShape => k_is); (case ehm_InvalidShape => k_is); (case ety_InvalidShape => k_is); (case ea_InvalidSelection => k_is); (case ega_InvalidSelection => k_is); (case egg_InvalidSelection => k_is); (case eex_InvalidSelection => k_is); (case ehd_InvalidSelection => k_is); (case eha_InvalidSelection => k_is); (case ehm_InvalidSelection => k_is); (case ety_InvalidSelection => k_is); (case ea_TooLarge => k_is); (case ega_TooLarge => k_is); (case egg_TooLarge => k_is); (case eex_TooLarge => k_is); (case ehd_TooLarge => k_is); (case eha_TooLarge => k_is); (case ehm_TooLarge => k_is); (case ety_TooLarge => k_is); (case ea_WrongCount => k_is); (case ega_WrongCount => k_is); (case egg_WrongCount => k_is); (case eex_WrongCount => k_is); (case ehd_WrongCount => k_is); (case eha_WrongCount => k_is); (case ehm_WrongCount => k_is); (case ety_WrongCount => k_is); (case egn => k_is); (case egt => k_is); (case est => k_is); (case exl_TooLarge => k_is); (case ebm_TooLarge => decide +kernel); (case esa_TooLarge => k_is); (case ekp_TooLarge => k_is); (case esi_TooLarge => ks_is); (case esv_TooLarge => k_is); (case ese_TooLarge => k_is); (case ein_TooLarge => k_is); (case eit_TooLarge => k_is); (case eil_TooLarge => k_is); (case eic_TooLarge => k_is); (case ecc_TooLarge => k_is); (case ecd_TooLarge => k_is); (case eft_TooLarge => rfl); (case en_limit_TooLarge => k_is); (case exl_WrongCount => k_is); (case ebm_WrongCount => decide +kernel); (case esa_WrongCount => k_is); (case ekp_WrongCount => k_is); (case esi_WrongCount => ks_is); (case esv_WrongCount => k_is); (case ese_WrongCount => k_is); (case ein_WrongCount => k_is); (case eit_WrongCount => k_is); (case eil_WrongCount => k_is); (case eic_WrongCount => k_is); (case ecc_WrongCount => k_is); (case ecd_WrongCount => k_is); (case eft_WrongCount => rfl); (case en_due_WrongCount => k_is); (case en_given_WrongCount => k_is); (case epx_InvalidShape => k_exc); (case epk_InvalidShape => k_is); (case epx_InvalidSelection => k_exc); (case epk_InvalidSelection => k_is); (case es_TesseraError_TesseraError => k_is); (case es_TesseraError_InvalidShape => k_is); (case es_TesseraError_InvalidSelection => k_is); (case es_TesseraError_TooLarge => k_is); (case es_TesseraError_WrongCount => k_is); (case es_InvalidShape_TesseraError => k_is); (case es_InvalidShape_InvalidShape => k_is); (case es_InvalidShape_InvalidSelection => k_is); (case es_InvalidShape_TooLarge => k_is); (case es_InvalidShape_WrongCount => k_is); (case es_InvalidSelection_TesseraError => k_is); (case es_InvalidSelection_InvalidShape => k_is); (case es_InvalidSelection_InvalidSelection => k_is); (case es_InvalidSelection_TooLarge => k_is); (case es_InvalidSelection_WrongCount => k_is); (case es_TooLarge_TesseraError => k_is); (case es_TooLarge_InvalidShape => k_is); (case es_TooLarge_InvalidSelection => k_is); (case es_TooLarge_TooLarge => k_is); (case es_TooLarge_WrongCount => k_is); (case es_WrongCount_TesseraError => k_is); (case es_WrongCount_InvalidShape => k_is); (case es_WrongCount_InvalidSelection => k_is); (case es_WrongCount_TooLarge => k_is); (case es_WrongCount_WrongCount => k_is); (case z_BEYOND_TOLD => k_is); (case z_GREATEST_SIZE => k_is); (case z_MOST_DIMENSIONS => k_is); (case z_MOST_PICKED => k_is); (case z_abs => k_is); (case z_all => k_is); (case z_any => k_is); (case z_bool => k_is); (case z_int => k_is); (case z_isinstance => k_is); (case z_len => k_is); (case z_list => k_is); (case z_max => k_is); (case z_min => k_is); (case z_range => k_is); (case z_str => k_is); (case z_super => k_is); (case z_tuple => k_is); (case z_zip => k_is)


