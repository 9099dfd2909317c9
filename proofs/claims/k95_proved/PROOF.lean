import PyProof.Rows.All
import Wide.All
import OpenK.AllK
import Wide.FinOn
import HandS.ForMost
import HandS.IsInst
import HandS.Evl
import HandS.Style
import HandS.Zip
import KE.GoesZip
import HandS.TupMul
import HandS.TupAny
import HandS.EndBits
import HandS.Rev
import HandS.Dict
import HandS.ForExc
import HandS.ExcInit
import HandS.NestedK
import HandS.FStr
import KE.KExcSuper
import KE.RegKSuper
import HandS.ExcInitHot
import HandS.RaiseFrom
import HandS.TryMany
import HandS.SuiteRaise
import HandS.ExcIs
import HandS.ExcField
import KE.KExcIs
import HandS.NestedHot
import HandS.CallLocal
import HandS.StrMore
import HandS.Text
import PyProof.StrLawsLast
import PyProof.StrLawsTight
import PyProof.MeetsStr3
import KE.GoesComp
import HandS.Deep
import PySem.Challenge.RW_tessera_k95_texts_of_expressions
set_option Elab.async false
set_option linter.all false
set_option maxRecDepth 100000
set_option maxHeartbeats 4000000
/-! Readings stepped forward over an abstract heap that a list of owned objects describes. -/
namespace RD
open PySem PySem.Spec PyProof.Rows L2

/-! ### the heap: H extends H0; the objects of L are new since H0 and stand apart -/
structure Own (H0 H : Hp) (L : List (Addr × HO)) : Prop where
  ex : Same H0 H
  fr : ∀ x ∈ L, H0 x.1 = none ∧ H x.1 = some x.2
  nd : (L.map (·.1)).Nodup
theorem Own.nil (H : Hp) : Own H H [] := ⟨Same.refl H, fun _ h => absurd h (by simp), List.nodup_nil⟩
theorem same_new {H : Hp} {p : Addr} {u : HO} (h : H p = none) : Same H (upd H p u) := fun b x e => by
  rw [upd_ne (ne_of_none e h)]
  exact e
section
variable {H0 H H' : Hp} {L : List (Addr × HO)} {p l : Addr} {u v : HO} {K : PySem.W.Frag}
theorem Own.mono (o : Own H0 H L) (e : Same H H') : Own H0 H' L := ⟨o.ex.trans e, fun x hx => ⟨(o.fr x hx).1, e _ _ (o.fr x hx).2⟩, o.nd⟩
theorem Own.add (o : Own H0 H L) (e : Same H H') (hp : H p = none) (hv : H' p = some u) : Own H0 H' ((p, u) :: L) := by
  refine ⟨o.ex.trans e, fun x hx => ?_, ?_⟩
  · rcases List.mem_cons.mp hx with rfl | hx
    · exact ⟨o.ex.free hp, hv⟩
    · exact ⟨(o.fr x hx).1, e _ _ (o.fr x hx).2⟩
  · rw [List.map_cons, List.nodup_cons]
    refine ⟨fun hm => ?_, o.nd⟩
    obtain ⟨x, hx, e1⟩ := List.mem_map.mp hm
    have := (o.fr x hx).2
    rw [e1] at this
    show False
    rw [hp] at this
    cases this
theorem Own.new (o : Own H0 H L) (hp : H p = none) : Own H0 (upd H p u) ((p, u) :: L) := o.add (same_new hp) hp upd_same
theorem Own.at (o : Own H0 H L) (i : Nat) (h : L[i]? = some (l, u)) : H l = some u := (o.fr _ (List.mem_of_getElem? h)).2
theorem Own.fresh (o : Own H0 H L) (i : Nat) (h : L[i]? = some (l, u)) : H0 l = none := (o.fr _ (List.mem_of_getElem? h)).1
theorem map_set_fst {α β : Type} : ∀ {L : List (α × β)} {i : Nat} {l : α} {u v : β}, L[i]? = some (l, u) → (L.set i (l, v)).map (·.1) = L.map (·.1)
  | [], _, _, _, _, h => by simp at h
  | x :: L, 0, l, u, v, h => by
    have e : x = (l, u) := Option.some.inj h
    subst e
    rfl
  | x :: L, i + 1, l, u, v, h => by
    show x.1 :: (L.set i (l, v)).map (·.1) = x.1 :: L.map (·.1)
    rw [map_set_fst (L := L) (i := i) (l := l) (u := u) (v := v) h]
theorem nodup_fst {α β : Type} : ∀ {L : List (α × β)} {i j : Nat} {l : α} {u v : β}, (L.map (·.1)).Nodup → L[i]? = some (l, u) → L[j]? = some (l, v) → i = j
  | L, i, j, l, u, v, hN, hi, hj => by
    refine nd_ix (l := L.map (·.1)) hN (x := l) ?_ ?_
    · rw [List.getElem?_map, hi]; rfl
    · rw [List.getElem?_map, hj]; rfl
/-- the object at l is changed; nothing else -/
theorem Own.chg (o : Own H0 H L) (i : Nat) (h : L[i]? = some (l, u)) (e : ∀ b x, b ≠ l → H b = some x → H' b = some x) (hv : H' l = some v) : Own H0 H' (L.set i (l, v)) := by
  refine ⟨fun b x hb => ?_, fun x hx => ?_, ?_⟩
  · exact e b x (ne_of_none hb (o.fresh i h)) (o.ex b x hb)
  · obtain ⟨j, hj⟩ := List.mem_iff_getElem?.mp hx
    by_cases hij : i = j
    · subst hij
      have hlt : i < L.length := (List.getElem?_eq_some_iff.mp h).1
      rw [List.getElem?_set_self hlt] at hj
      cases hj
      exact ⟨o.fresh i h, hv⟩
    · rw [List.getElem?_set_ne hij] at hj
      have hm := List.mem_of_getElem? hj
      have hne : x.1 ≠ l := fun z => hij (by
        have : L[j]? = some (l, x.2) := by rw [hj, ← z]
        exact nodup_fst o.nd h this)
      exact ⟨(o.fr x hm).1, e _ _ hne (o.fr x hm).2⟩
  · rw [map_set_fst h]
    exact o.nd
theorem Own.set (o : Own H0 H L) (i : Nat) (h : L[i]? = some (l, u)) : Own H0 (upd H l v) (L.set i (l, v)) :=
  o.chg i h (fun b x hb e => by rw [upd_ne hb]; exact e) upd_same
theorem Own.sub {L' : List (Addr × HO)} (o : Own H0 H L) (h : L'.Sublist L) : Own H0 H L' :=
  ⟨o.ex, fun x hx => o.fr x (h.subset hx), List.Sublist.nodup (h.map _) o.nd⟩
theorem Own.tl {x : Addr × HO} (o : Own H0 H (x :: L)) : Own H0 H L := o.sub (List.sublist_cons_self x L)
theorem Own.ne (o : Own H0 H L) {q : Addr} {i j : Nat} (hi : L[i]? = some (l, u)) (hj : L[j]? = some (q, v)) (h : i ≠ j) : l ≠ q := fun e => by
  subst e
  exact h (nodup_fst o.nd hi hj)
theorem Own.sqL (o : Own H0 H L) {xs : List V} (i : Nat) (h : L[i]? = some (l, .lst xs)) : SqL K H l xs := .inl (.inl (o.at i h))
theorem Own.sqT (o : Own H0 H L) {xs : List V} (i : Nat) (h : L[i]? = some (l, .tup xs)) : SqT K H l xs := .inl (.inl (o.at i h))
theorem Own.old (o : Own H0 H L) {xs : List V} (h : SqL K H0 l xs) : SqL K H l xs := o.ex.seq h
theorem same_seqT {xs : List V} (e : Same H H') (h : SqT K H l xs) : SqT K H' l xs := by
  rcases h with (h | ⟨o, h⟩) | h
  · exact .inl (.inl (e _ _ h))
  · exact .inl (.inr ⟨o, e _ _ h⟩)
  · exact .inr h
theorem Own.oldT (o : Own H0 H L) {xs : List V} (h : SqT K H0 l xs) : SqT K H l xs := same_seqT o.ex h
/-- start a new frame of ownership at H, giving up L -/
theorem Own.trans {H1 : Hp} {L1 : List (Addr × HO)} (o : Own H0 H L) (o1 : Own H H1 L1) : Own H0 H1 (L1 ++ L) := by
  refine ⟨o.ex.trans o1.ex, fun x hx => ?_, ?_⟩
  · rcases List.mem_append.mp hx with h | h
    · exact ⟨o.ex.free (o1.fr x h).1, (o1.fr x h).2⟩
    · exact ⟨(o.fr x h).1, o1.ex _ _ (o.fr x h).2⟩
  · rw [List.map_append, List.nodup_append]
    refine ⟨o1.nd, o.nd, fun a ha b hb e => ?_⟩
    subst e
    obtain ⟨x, hx, rfl⟩ := List.mem_map.mp ha
    obtain ⟨y, hy, e⟩ := List.mem_map.mp hb
    have h1 := (o1.fr x hx).1
    have h2 := (o.fr y hy).2
    rw [e, h1] at h2
    cases h2
end

/-! ### what an answer is -/
/-- a value that is no new object -/
def RetV (H : Hp) (Q : VK) (v : V) : Prop := ∀ H', Same H H' → Q v H'
/-- a new object -/
def RetO (H : Hp) (Q : VK) (u : HO) : Prop := ∀ H' p, Same H H' → H p = none → H' p = some u → Q (.ref p) H'
theorem RetO.mk {H0 H : Hp} {Q : VK} {u : HO} {L : List (Addr × HO)} {p : Addr} (q : RetO H0 Q u) (o : Own H0 H L) (i : Nat) (h : L[i]? = some (p, u)) : Q (.ref p) H := q H p o.ex (o.fresh i h) (o.at i h)
theorem RetV.mk {H0 H : Hp} {Q : VK} {v : V} {L : List (Addr × HO)} (q : RetV H0 Q v) (o : Own H0 H L) : Q v H := q H o.ex

/-! ### readings -/
def RBl (x : V) (H : Hp) (Q : Bool → Hp → Prop) : Prop := ∃ k, x = .bl k ∧ Q k H
def RPt (x : V) (H : Hp) (R : Option Int → Hp → Prop) : Prop := ∃ i, x = .int i ∧ R (some i) H
def RIf (c : Bool) (A B : Prop) : Prop := if c = true then A else B
def RNewL (xs : List V) (H : Hp) (Q : VK) : Prop := xs.length ≤ sizeLine ∧ ∀ p, H p = none → Q (.ref p) (upd H p (.lst xs))
def RNewT (xs : List V) (H : Hp) (Q : VK) : Prop := xs.length ≤ sizeLine ∧ ∀ p, H p = none → Q (.ref p) (upd H p (.tup xs))
section
variable {σ : L2.St} {H H0 : Hp} {Q : VK} {v x y : V} {ta tb te : TE} {t u : TT} {r : R2} {i j : Int} {D : Ends} {ts tz : TS} {g : TG} {K : PySem.W.Frag} {L : List (Addr × HO)}
theorem r_var {n : Nat} (h : σ[n]? = some (some v)) (q : Q v H) : tVar n σ H Q := ⟨v, h, q⟩
theorem r_c (q : Q v H) : tC v σ H Q := q
theorem r_op (q : ta σ H fun x H1 => tb σ H1 fun y H2 => r x y H2 Q) : tOp r ta tb σ H Q := q
theorem r_I0 {f : Int → Int → V} (q : Q (f i j) H) : rI0 f (.int i) (.int j) H Q := ⟨i, j, rfl, rfl, q⟩
theorem r_I {C : Int → Int → Prop} {f : Int → Int → V} (c : C i j) (q : Q (f i j) H) : rI C f (.int i) (.int j) H Q := ⟨i, j, rfl, rfl, c, q⟩
theorem r_un {f : V → Hp → VK → Prop} (q : ta σ H fun x H1 => f x H1 Q) : tUn f ta σ H Q := q
theorem r_U {f : Int → V} (q : Q (f i) H) : rU f (.int i) H Q := ⟨i, rfl, q⟩
theorem r_eqI (q : Q (.bl (decide (i = j))) H) : rEq (.int i) (.int j) H Q := ⟨rfl, by
  have e : decide ((V.int i) = .int j) = decide (i = j) := by simp
  rw [e]; exact q⟩
theorem r_neI (q : Q (.bl (!decide (i = j))) H) : rNe (.int i) (.int j) H Q := ⟨rfl, by
  have e : decide ((V.int i) = .int j) = decide (i = j) := by simp
  rw [e]; exact q⟩
theorem r_eqS {a b : Str} (q : Q (.bl (decide (a = b))) H) : rEq (.str a) (.str b) H Q := ⟨rfl, by
  have e : decide ((V.str a) = .str b) = decide (a = b) := by simp
  rw [e]; exact q⟩
theorem r_neS {a b : Str} (q : Q (.bl (!decide (a = b))) H) : rNe (.str a) (.str b) H Q := ⟨rfl, by
  have e : decide ((V.str a) = .str b) = decide (a = b) := by simp
  rw [e]; exact q⟩
theorem r_test {Q : Bool → Hp → Prop} (q : ta σ H fun x H' => RBl x H' Q) : tTest ta σ H Q := q
theorem r_tB {Q : Bool → Hp → Prop} (q : ta σ H fun x H' => RBl x H' Q) : tB ta σ H Q := q
theorem r_bl {Q : Bool → Hp → Prop} {b : Bool} (q : Q b H) : RBl (.bl b) H Q := ⟨b, rfl, q⟩
theorem r_and {Q : Bool → Hp → Prop} (q : t σ H fun c H1 => RIf c (u σ H1 Q) (Q false H1)) : tAnd t u σ H Q := q
theorem r_or {Q : Bool → Hp → Prop} (q : t σ H fun c H1 => RIf c (Q true H1) (u σ H1 Q)) : tOr t u σ H Q := q
theorem r_not {Q : Bool → Hp → Prop} (q : t σ H fun c H1 => Q (!c) H1) : tNot t σ H Q := q
theorem r_andV (q : ta σ H fun x H1 => RBl x H1 fun c H1 => RIf c (tb σ H1 Q) (Q (.bl false) H1)) : tAndV ta tb σ H Q := q
theorem r_orV (q : ta σ H fun x H1 => RBl x H1 fun c H1 => RIf c (Q (.bl true) H1) (tb σ H1 Q)) : tOrV ta tb σ H Q := q
theorem r_notV (q : ta σ H fun x H1 => RBl x H1 fun c H1 => Q (.bl (!c)) H1) : tNotV ta σ H Q := q
theorem r_ifE (q : t σ H fun c H1 => RIf c (ta σ H1 Q) (tb σ H1 Q)) : tIf t ta tb σ H Q := q
theorem r_seq (q : ts { D with nx := tz D } σ H) : tSeq ts tz D σ H := q
theorem r_asg (q : te σ H fun x H1 => g x σ H1 D.nx) : tAsg te g D σ H := q
theorem r_name {n : Nat} {R : L2.St → Hp → Prop} (q : R (σ.set n (some v)) H) : gName n v σ H R := q
theorem r_ifS (q : t σ H fun b H1 => RIf b (ts D σ H1) (tz D σ H1)) : tIfS t ts tz D σ H := q
theorem r_ret (q : te σ H D.rt) : tRet te D σ H := q
theorem r_retN (q : D.rt .non H) : tRetN D σ H := q
theorem r_drop (q : te σ H fun _ H1 => D.nx σ H1) : tDrop te D σ H := q
theorem r_next (q : D.nx σ H) : tNext D σ H := q
theorem r_break (q : D.bk σ H) : tBreak D σ H := q
theorem r_cont (q : D.ct σ H) : tCont D σ H := q
theorem r_nil {R : List V → Hp → Prop} (q : R [] H) : tNil σ H R := q
theorem r_cons {tr : TA} {R : List V → Hp → Prop} (q : te σ H fun x H1 => tr σ H1 fun xs H2 => R (x :: xs) H2) : tCons te tr σ H R := q
theorem r_tup {tr : TA} (q : tr σ H fun xs H1 => RNewT xs H1 Q) : tTup tr σ H Q := q
theorem r_lst {tr : TA} (q : tr σ H fun xs H1 => RNewL xs H1 Q) : tLst tr σ H Q := q
theorem r_CB {f : List V → Hp → VK → Prop} {tr : TA} (q : tr σ H fun vs H1 => f vs H1 Q) : tCB f tr σ H Q := q
theorem r_call {sp : Sp} {E : XK} {tr : TA} (q : tr σ H fun vs H1 => sp (vs ++ []) H1 Q E) : tCall sp [] E tr σ H Q := q
theorem r_sl {f : V → Option Int → Option Int → Hp → VK → Prop} {tl th : TO} (q : te σ H fun x H1 => tl σ H1 fun l H2 => th σ H2 fun u H3 => f x l u H3 Q) : tSl f te tl th σ H Q := q
theorem r_par {i j : Nat} {ta : TA} {D : Ends} (q : ta σ H fun vs H1 => ∃ v w, vs = [v, w] ∧ D.nx ((σ.set i (some v)).set j (some w)) H1) : tPar i j ta D σ H := q
theorem r_nopart {R : Option Int → Hp → Prop} (q : R none H) : tNoPart σ H R := q
theorem r_part {R : Option Int → Hp → Prop} (q : te σ H fun x H1 => RPt x H1 R) : tPart te σ H R := q
theorem r_pt {R : Option Int → Hp → Prop} (q : R (some i) H) : RPt (.int i) H R := ⟨i, rfl, q⟩
theorem r_aug {n : Nat} {ti : TIp} (h : σ[n]? = some (some x)) (q : te σ H fun y H1 => ti x y H1 fun z H2 => D.nx (σ.set n (some z)) H2) : tAug n te ti D σ H := ⟨x, h, q⟩
theorem r_ipI {f : Int → Int → Int} (q : Q (.int (f i j)) H) : ipI f (.int i) (.int j) H Q := ⟨i, j, rfl, rfl, q⟩
theorem r_set {to ti : TE} {s : TSet} {R : L2.St → Hp → Prop} (q : to σ H fun o H1 => ti σ H1 fun i H2 => s o i v H2 fun H3 => R σ H3) : gSub to ti s v σ H R := q

/-! ### branches -/
theorem rif {p : Prop} [Decidable p] {A B : Prop} (h1 : p → A) (h2 : ¬ p → B) : RIf (decide p) A B := by
  unfold RIf
  by_cases h : p
  · rw [if_pos (decide_eq_true h)]; exact h1 h
  · rw [if_neg (by simpa using h)]; exact h2 h
theorem rif_n {p : Prop} [Decidable p] {A B : Prop} (h1 : ¬ p → A) (h2 : p → B) : RIf (!decide p) A B := by
  unfold RIf
  by_cases h : p
  · rw [if_neg (by simpa using h)]; exact h2 h
  · rw [if_pos (by simpa using h)]; exact h1 h
theorem rif_t {A B : Prop} (h : A) : RIf true A B := by unfold RIf; rw [if_pos rfl]; exact h
theorem rif_f {A B : Prop} (h : B) : RIf false A B := by unfold RIf; rw [if_neg Bool.false_ne_true]; exact h
theorem rif_nt {A B : Prop} (h : B) : RIf (!true) A B := rif_f h
theorem rif_nf {A B : Prop} (h : A) : RIf (!false) A B := rif_t h
theorem rif_yes {p : Prop} [Decidable p] {A B : Prop} (hp : p) (h1 : A) : RIf (decide p) A B := rif (fun _ => h1) fun h => absurd hp h
theorem rif_no {p : Prop} [Decidable p] {A B : Prop} (hp : ¬ p) (h1 : B) : RIf (decide p) A B := rif (fun h => absurd h hp) fun _ => h1
theorem rif_nyes {p : Prop} [Decidable p] {A B : Prop} (hp : p) (h1 : B) : RIf (!decide p) A B := rif_n (fun h => absurd hp h) fun _ => h1
theorem rif_nno {p : Prop} [Decidable p] {A B : Prop} (hp : ¬ p) (h1 : A) : RIf (!decide p) A B := rif_n (fun _ => h1) fun h => absurd h hp
theorem rif_b {b : Bool} {A B : Prop} (h1 : b = true → A) (h2 : b = false → B) : RIf b A B := by
  cases b
  · exact rif_f (h2 rfl)
  · exact rif_t (h1 rfl)

/-! ### new objects -/
theorem sz100 {n : Nat} (h : n ≤ 10000000) : n ≤ sizeLine := Nat.le_trans h (by decide)
theorem sz_lt {n : Nat} (h : n < 10000000) : n < sizeLine := Nat.lt_of_lt_of_le h (by decide)
theorem r_newL {xs : List V} (o : Own H0 H L) (hz : xs.length ≤ 10000000) (k : ∀ p H', Own H0 H' ((p, .lst xs) :: L) → Q (.ref p) H') : RNewL xs H Q := ⟨sz100 hz, fun p hp => k p _ (o.new hp)⟩
theorem r_newT {xs : List V} (o : Own H0 H L) (hz : xs.length ≤ 10000000) (k : ∀ p H', Own H0 H' ((p, .tup xs) :: L) → Q (.ref p) H') : RNewT xs H Q := ⟨sz100 hz, fun p hp => k p _ (o.new hp)⟩

/-! ### lists -/
theorem r_ixL {p : Addr} {xs : List V} (h : SqL K H p xs) (ha : atI xs i = some v) (q : Q v H) : rIxL K (.ref p) (.int i) H Q := ⟨p, xs, i, v, rfl, rfl, h, ha, q⟩
theorem r_ixT {p : Addr} {xs : List V} (h : SqT K H p xs) (ha : atI xs i = some v) (q : Q v H) : rIxT K (.ref p) (.int i) H Q := ⟨p, xs, i, v, rfl, rfl, h, ha, q⟩
theorem r_slL {a : Addr} {xs : List V} {lo hi : Option Int} (o : Own H0 H L) (h : SqL K H a xs) (k : ∀ p H', Own H0 H' ((p, .lst (cutV xs lo hi)) :: L) → Q (.ref p) H') : rSlL K (.ref a) lo hi H Q := ⟨a, xs, rfl, h, fun p hp => k p _ (o.new hp)⟩
theorem r_cat {a b : Addr} {xs ys : List V} (o : Own H0 H L) (ha : H a = some (.lst xs)) (hb : H b = some (.lst ys)) (hz : xs.length + ys.length ≤ 10000000) (k : ∀ p H', Own H0 H' ((p, .lst (xs ++ ys)) :: L) → Q (.ref p) H') : rCat (.ref a) (.ref b) H Q :=
  ⟨a, b, xs, ys, rfl, rfl, ha, hb, sz100 hz, fun p hp => k p _ (o.new hp)⟩
theorem r_app {l : Addr} {xs : List V} (o : Own H0 H L) (n : Nat) (h : L[n]? = some (l, .lst xs)) (hz : xs.length < 10000000) (k : ∀ H', Own H0 H' (L.set n (l, .lst (xs ++ [y]))) → Q .non H') : rAppend (.ref l) [y] H Q :=
  ⟨l, xs, y, rfl, rfl, o.at n h, sz_lt hz, k _ (o.set n h)⟩
/-- l.append(e) as a statement's expression: the receiver's slot, the argument -/
theorem r_bm {T : String} {f : V → List V → Hp → VK → Prop} {tr : TA} {n : Nat} {l : Addr} (h : σ[n]? = some (some (.ref l))) (ht : tyV K T (.ref l) H) (q : tr σ H fun vs H2 => f (.ref l) vs H2 Q) : tBM K T f (tVar n) tr σ H Q := ⟨_, h, ht, q⟩
theorem ty_lst {l : Addr} {xs : List V} (h : H l = some (.lst xs)) : tyV K "list" (.ref l) H := .inl ⟨rfl, _, SqL.of h⟩
theorem r_setL {l : Addr} {xs : List V} {k : Nat} {R : Hp → Prop} (o : Own H0 H L) (n : Nat) (h : L[n]? = some (l, .lst xs)) (hj : ixN xs.length i = some k) (q : ∀ H', Own H0 H' (L.set n (l, .lst (xs.set k v))) → R H') : rSetL (.ref l) (.int i) v H R :=
  ⟨l, xs, i, k, rfl, rfl, o.at n h, hj, q _ (o.set n h)⟩
end

/-! ### isinstance, sums, == of lists -/
section
variable {σ : L2.St} {H H0 : Hp} {Q : VK} {v x y : V} {i j : Int} {K : PySem.W.Frag} {L : List (Addr × HO)}
theorem r_isi {T S : String} {b : Bool} (ht : TyX K H x (.type T)) (hk : kitB T S = some b) (q : Q (.bl b) H) : rIsi K [x, .ty S] H Q := ⟨x, .ty S, .type T, .type S, b, rfl, .ty S, ht, kit_ty hk, q⟩
theorem ty_int {i : Int} : TyX K H (.int i) (.type "int") := .base (.int i)
theorem ty_str {z : Str} : TyX K H (.str z) (.type "str") := .base (.str z)
theorem ty_non : TyX K H .non (.type "NoneType") := .base .non
theorem ty_list {l : Addr} {xs : List V} (h : H l = some (.lst xs)) : TyX K H (.ref l) (.type "list") := .base (.lst h)
theorem ty_tup {l : Addr} {xs : List V} (h : H l = some (.tup xs)) : TyX K H (.ref l) (.type "tuple") := .base (.tup h)
theorem r_sum {a : Addr} {ns : List Int} (h : SqL K H a (ns.map V.int)) (q : Q (.int ns.sum) H) : rSum K [.ref a] H Q := ⟨a, ns, rfl, h, q⟩
theorem dpAll_ints : ∀ ns : List Int, DpAll K H (ns.map V.int) (ns.map PyData.int)
  | [] => .nil
  | n :: ns => .cons (.int n) (dpAll_ints ns)
theorem dp_ints {a : Addr} {ns : List Int} (h : SqL K H a (ns.map V.int)) : Dp K H (.ref a) (.list (ns.map PyData.int)) := .lst h (dpAll_ints ns)
theorem dp_intsT {a : Addr} {ns : List Int} (h : SqT K H a (ns.map V.int)) : Dp K H (.ref a) (.tuple (ns.map PyData.int)) := .tup h (dpAll_ints ns)
end
/-! ### items -/
/-- the i-th of a list of ints -/
def gi (ns : List Int) (i : Int) : Int := ns.getD i.toNat 0
theorem at_map {α : Type} {f : α → V} {ns : List α} {i : Int} {x : α} (h0 : 0 ≤ i) (h : ns[i.toNat]? = some x) : atI (ns.map f) i = some (f x) := by
  obtain ⟨n, rfl⟩ := Int.eq_ofNat_of_zero_le h0
  refine atI_nat ?_
  have e : (Int.toNat (n : Int)) = n := rfl
  rw [e] at h
  rw [List.getElem?_map, h]
  rfl
theorem at_ints {ns : List Int} {i : Int} (h0 : 0 ≤ i) (h1 : i < ns.length) : atI (ns.map V.int) i = some (.int (gi ns i)) := by
  refine at_map h0 ?_
  unfold gi
  have : i.toNat < ns.length := by omega
  rw [List.getD_eq_getElem?_getD, List.getElem?_eq_getElem this]
  rfl
theorem gi_mem {ns : List Int} {i : Int} (h0 : 0 ≤ i) (h1 : i < ns.length) : gi ns i ∈ ns := by
  unfold gi
  have h2 : i.toNat < ns.length := by omega
  rw [List.getD_eq_getElem?_getD, List.getElem?_eq_getElem h2]
  exact List.getElem_mem h2

/-! ### equal lists of ints -/
theorem canLay_ints : ∀ ns : List Int, PyData.canLayAll0 (ns.map PyData.int) = true
  | [] => rfl
  | n :: ns => by
    show (PyData.canLay0 (.int n) && PyData.canLayAll0 (ns.map PyData.int)) = true
    rw [canLay_ints ns]
    rfl
theorem depth_ints : ∀ ns : List Int, PyData.depthAll (ns.map PyData.int) ≤ 1
  | [] => by decide
  | n :: ns => by
    have h := depth_ints ns
    show max (PyData.depth (.int n)) (PyData.depthAll (ns.map PyData.int)) ≤ 1
    exact Nat.max_le.mpr ⟨Nat.zero_le 1, h⟩
theorem shaped_ints (ns : List Int) : SeqAt.shaped (.list (ns.map PyData.int)) = true := by
  unfold SeqAt.shaped
  rw [Bool.and_eq_true]
  refine ⟨canLay_ints ns, decide_eq_true ?_⟩
  have h := depth_ints ns
  show PyData.depthAll (ns.map PyData.int) + 1 ≤ 64
  omega
theorem shaped_intsT (ns : List Int) : SeqAt.shaped (.tuple (ns.map PyData.int)) = true := by
  unfold SeqAt.shaped
  rw [Bool.and_eq_true]
  refine ⟨canLay_ints ns, decide_eq_true ?_⟩
  have h := depth_ints ns
  show PyData.depthAll (ns.map PyData.int) + 1 ≤ 64
  omega
theorem eqvAll_ints : ∀ ns ms : List Int, PyData.eqvAll (ns.map PyData.int) (ms.map PyData.int) = decide (ns = ms)
  | [], [] => by simp [PyData.eqvAll]
  | [], _ :: _ => by simp [PyData.eqvAll]
  | _ :: _, [] => by simp [PyData.eqvAll]
  | n :: ns, m :: ms => by
    show (PyData.eqv (.int n) (.int m) && PyData.eqvAll (ns.map PyData.int) (ms.map PyData.int)) = _
    rw [eqvAll_ints ns ms]
    simp [PyData.eqv, Bool.beq_eq_decide_eq]
section
variable {H : Hp} {Q : VK} {K : PySem.W.Frag} {a b : Addr} {ns ms : List Int}
theorem r_eqLL (h : SqL K H a (ns.map V.int)) (h2 : SqL K H b (ms.map V.int)) (q : Q (.bl (decide (ns = ms))) H) : rEqD K (.ref a) (.ref b) H Q :=
  ⟨_, _, dp_ints h, dp_ints h2, shaped_ints ns, shaped_ints ms, by
    have e : PyData.eqv (.list (ns.map PyData.int)) (.list (ms.map PyData.int)) = decide (ns = ms) := by rw [PyData.eqv]; exact eqvAll_ints ns ms
    rw [e]; exact q⟩
theorem r_neLL (h : SqL K H a (ns.map V.int)) (h2 : SqL K H b (ms.map V.int)) (q : Q (.bl (!decide (ns = ms))) H) : rNeD K (.ref a) (.ref b) H Q :=
  ⟨_, _, dp_ints h, dp_ints h2, shaped_ints ns, shaped_ints ms, by
    have e : PyData.eqv (.list (ns.map PyData.int)) (.list (ms.map PyData.int)) = decide (ns = ms) := by rw [PyData.eqv]; exact eqvAll_ints ns ms
    rw [e]; exact q⟩
theorem r_eqTT (h : SqT K H a (ns.map V.int)) (h2 : SqT K H b (ms.map V.int)) (q : Q (.bl (decide (ns = ms))) H) : rEqD K (.ref a) (.ref b) H Q :=
  ⟨_, _, dp_intsT h, dp_intsT h2, shaped_intsT ns, shaped_intsT ms, by
    have e : PyData.eqv (.tuple (ns.map PyData.int)) (.tuple (ms.map PyData.int)) = decide (ns = ms) := by rw [PyData.eqv]; exact eqvAll_ints ns ms
    rw [e]; exact q⟩
theorem r_eqSame (h : SqL K H a (ns.map V.int)) (h2 : SqL K H b (ns.map V.int)) (q : Q (.bl true) H) : rEqD K (.ref a) (.ref b) H Q := r_eqLL h h2 (by rw [decide_eq_true rfl]; exact q)
theorem r_neSame (h : SqL K H a (ns.map V.int)) (h2 : SqL K H b (ns.map V.int)) (q : Q (.bl false) H) : rNeD K (.ref a) (.ref b) H Q := r_neLL h h2 (by rw [decide_eq_true rfl]; exact q)
theorem r_ixI {i : Int} {p : Addr} (h : SqL K H p (ns.map V.int)) (h0 : 0 ≤ i) (h1 : i < ns.length) (q : Q (.int (gi ns i)) H) : rIxL K (.ref p) (.int i) H Q := r_ixL h (at_ints h0 h1) q
theorem r_ixqL {i : Int} {p : Addr} (h : SqL K H p (ns.map V.int)) (h0 : 0 ≤ i) (h1 : i < ns.length) (q : Q (.int (gi ns i)) H) : rIx K (.ref p) (.int i) H Q := .inl (r_ixL h (at_ints h0 h1) q)
theorem r_ixqT {i : Int} {p : Addr} (h : SqT K H p (ns.map V.int)) (h0 : 0 ≤ i) (h1 : i < ns.length) (q : Q (.int (gi ns i)) H) : rIx K (.ref p) (.int i) H Q := .inr (.inl (r_ixT h (at_ints h0 h1) q))
theorem r_ixIT {i : Int} {p : Addr} (h : SqT K H p (ns.map V.int)) (h0 : 0 ≤ i) (h1 : i < ns.length) (q : Q (.int (gi ns i)) H) : rIxT K (.ref p) (.int i) H Q := r_ixT h (at_ints h0 h1) q
/-- a written list (or one of unknown form) at a place in it -/
theorem r_ixM {i : Int} {p : Addr} {vs : List V} (h : SqL K H p vs) (h0 : 0 ≤ i) (h1 : i < vs.length) (q : ∀ v, v ∈ vs → atI vs i = some v → Q v H) : rIxL K (.ref p) (.int i) H Q := by
  obtain ⟨n, rfl⟩ := Int.eq_ofNat_of_zero_le h0
  have hn : n < vs.length := by omega
  have e : atI vs (n : Int) = some vs[n] := atI_nat (List.getElem?_eq_getElem hn)
  exact r_ixL h e (q _ (List.getElem_mem hn) e)
theorem r_ret1 {H0 : Hp} {L : List (Addr × HO)} {u : HO} (o : Own H0 H L) (k : ∀ p H', Own H0 H' ((p, u) :: L) → Q (.ref p) H') : RetO H Q u := fun H' p e f h => k p H' (o.add e f h)
theorem r_retvs {H0 : Hp} {L : List (Addr × HO)} {v : V} (o : Own H0 H L) (k : ∀ H', Same H H' → Own H0 H' L → Q v H') : RetV H Q v := fun H' e => k H' e (o.mono e)
theorem r_retv {H0 : Hp} {L : List (Addr × HO)} {v : V} (o : Own H0 H L) (k : ∀ H', Own H0 H' L → Q v H') : RetV H Q v := fun H' e => k H' (o.mono e)
end

/-! ### named relations -/
def rTupS (K : PySem.W.Frag) : List V → Hp → VK → Prop := fun xs H Q => ∃ p ys, xs = [.ref p] ∧ ((SqL K H p ys ∧ ∀ l, H l = none → Q (.ref l) (upd H l (.tup ys))) ∨ (SqT K H p ys ∧ Q (.ref p) H))
def rInt1 : List V → Hp → VK → Prop := fun xs H Q => (∃ i, xs = [.int i] ∧ Q (.int i) H) ∨ ∃ k, xs = [.bl k] ∧ Q (.int (if k then 1 else 0)) H
section
variable {H H0 : Hp} {Q : VK} {K : PySem.W.Frag} {L : List (Addr × HO)} {p : Addr} {xs : List V}
theorem r_len (h : SqL K H p xs) (q : Q (.int xs.length) H) : Evl.rLenS K [.ref p] H Q := ⟨p, xs, rfl, .inl h, q⟩
theorem r_lenT (h : SqT K H p xs) (q : Q (.int xs.length) H) : Evl.rLenS K [.ref p] H Q := ⟨p, xs, rfl, .inr h, q⟩
theorem r_list (o : Own H0 H L) (h : SqL K H p xs) (k : ∀ l H', Own H0 H' ((l, .lst xs) :: L) → Q (.ref l) H') : Evl.rListS K [.ref p] H Q := ⟨p, xs, rfl, .inl h, fun l hl => k l _ (o.new hl)⟩
theorem r_listT (o : Own H0 H L) (h : SqT K H p xs) (k : ∀ l H', Own H0 H' ((l, .lst xs) :: L) → Q (.ref l) H') : Evl.rListS K [.ref p] H Q := ⟨p, xs, rfl, .inr h, fun l hl => k l _ (o.new hl)⟩
theorem r_tupL (o : Own H0 H L) (h : SqL K H p xs) (k : ∀ l H', Own H0 H' ((l, .tup xs) :: L) → Q (.ref l) H') : rTupS K [.ref p] H Q := ⟨p, xs, rfl, .inl ⟨h, fun l hl => k l _ (o.new hl)⟩⟩
theorem r_int {i : Int} (q : Q (.int i) H) : rInt1 [.int i] H Q := .inl ⟨i, rfl, q⟩
theorem r_intB {b : Bool} (q : Q (.int (if b then 1 else 0)) H) : rInt1 [.bl b] H Q := .inr ⟨b, rfl, q⟩
end

/-! ### slices -/
theorem cut_hi (xs : List V) (n : Nat) : cutV xs none (some (n : Int)) = xs.take n := by
  unfold cutV
  rw [HT.sIx_none, HT.sIx_nat, List.drop_zero, Nat.sub_zero]
  rcases Nat.le_total n xs.length with h | h
  · rw [Nat.min_eq_left h]
  · rw [Nat.min_eq_right h, List.take_of_length_le (Nat.le_refl _), List.take_of_length_le h]
theorem cut_lo (xs : List V) (n : Nat) : cutV xs (some (n : Int)) none = xs.drop n := by
  unfold cutV
  rw [HT.sIx_none, HT.sIx_nat]
  rcases Nat.le_total n xs.length with h | h
  · rw [Nat.min_eq_left h]
    exact List.take_of_length_le (by rw [List.length_drop]; omega)
  · rw [Nat.min_eq_right h, List.drop_of_length_le h, List.drop_of_length_le (Nat.le_refl _)]
    simp
theorem cut_both (xs : List V) (a b : Nat) : cutV xs (some (a : Int)) (some (b : Int)) = (xs.drop a).take (b - a) := by
  unfold cutV
  rw [HT.sIx_nat, HT.sIx_nat]
  rcases Nat.le_total a xs.length with h | h
  · rw [Nat.min_eq_left h]
    rcases Nat.le_total b xs.length with h2 | h2
    · rw [Nat.min_eq_left h2]
    · rw [Nat.min_eq_right h2, List.take_of_length_le (by rw [List.length_drop]; omega), List.take_of_length_le (by rw [List.length_drop]; omega)]
  · rw [Nat.min_eq_right h, List.drop_of_length_le h, List.drop_of_length_le (Nat.le_refl _)]
    simp
theorem cut_all (xs : List V) : cutV xs none none = xs := by
  unfold cutV
  rw [HT.sIx_none, HT.sIx_none]
  simp

/-! ### loops -/
def RFor (J : It) (g : TG) (tb : TS) (D : Ends) (σ : L2.St) (H : Hp) : Prop := ∃ W : Nat → Nat → L2.St → Hp → Prop, (∃ m, W 0 m σ H) ∧ ∀ i m σ H, W i m σ H →
    (J.stop i H ∧ D.nx σ H) ∨ (J.go i H ∧ ∃ N : L2.St → Hp → Prop, (∀ σ' H', N σ' H' → ∃ m', m' < m ∧ W (i + 1) m' σ' H') ∧ ∀ x H', J.yld i H x H' → g x σ H' fun σ2 H2 => tb { D with nx := N, ct := N, bk := D.nx } σ2 H2)
section
variable {σ : L2.St} {H H0 : Hp} {Q : VK} {v x y : V} {ta tb te tl : TE} {t u : TT} {i j : Int} {D : Ends} {ts tz : TS} {g : TG} {K : PySem.W.Frag} {L : List (Addr × HO)} {tr : TA} {wi : TI}
theorem r_for (q : wi σ H fun J H1 => RFor J g ts D σ H1) : tFor wi g ts D σ H := q
theorem r_rng1 {R : It → Hp → Prop} (q : tr σ H fun vs H1 => ∃ j : Int, vs = [.int j] ∧ -(2 ^ 62) ≤ j ∧ j < 2 ^ 62 ∧ R (Itr 0 j.toNat) H1) : iRng1 tr σ H R := q
theorem r_rng2 {R : It → Hp → Prop} (q : tr σ H fun vs H1 => ∃ i j : Int, vs = [.int i, .int j] ∧ (-(2 ^ 62) ≤ i ∧ i < 2 ^ 62 ∧ -(2 ^ 62) ≤ j ∧ j < 2 ^ 62) ∧ R (Itr i (j - i).toNat) H1) : iRng2 tr σ H R := q
theorem r_rng3 {R : It → Hp → Prop} (q : tr σ H fun vs H1 => ∃ (i j c : Int) (n : Nat), vs = [.int i, .int j, .int c] ∧ RgC i j c n ∧ R (Itc i c n) H1) : iRng3 tr σ H R := q
theorem r_iL {R : It → Hp → Prop} (q : tl σ H fun x H1 => ∃ a, x = .ref a ∧ (∃ xs, SqL K H1 a xs) ∧ R (Itl K a) H1) : iList K tl σ H R := q
theorem r_iT {R : It → Hp → Prop} (q : tl σ H fun x H1 => ∃ a, x = .ref a ∧ (∃ xs, SqT K H1 a xs) ∧ R (Itt K a) H1) : iTup K tl σ H R := q
/-- for k in range(j): behind the argument's reading -/
theorem forR1 {n : Nat} {s : Nat} (hn : j = (n : Int)) (hb : j < 2 ^ 62) (Pv : Nat → L2.St → Hp → Prop) (h0 : Pv 0 σ H)
    (hs : ∀ i σ H, i < n → Pv i σ H → ts { D with nx := Pv (i + 1), ct := Pv (i + 1), bk := D.nx } (σ.set s (some (.int (i : Int)))) H) (hd : ∀ σ H, Pv n σ H → D.nx σ H) :
    ∃ k : Int, [V.int j] = [.int k] ∧ -(2 ^ 62) ≤ k ∧ k < 2 ^ 62 ∧ RFor (Itr 0 k.toNat) (gName s) ts D σ H := by
  refine ⟨j, rfl, by omega, hb, ?_⟩
  have e : j.toNat = n := by omega
  rw [e]
  refine for_range (lo := 0) (n := n) Pv h0 (fun i σ H hi p => ?_) hd
  have e0 : (0 : Int) + (i : Int) = (i : Int) := Int.zero_add _
  show gName s (.int ((0 : Int) + (i : Int))) σ H _
  rw [e0]
  exact hs i σ H hi p
/-- for k in range(i, j) -/
theorem forR2 {n s : Nat} (hn : (j - i).toNat = n) (hb : -(2 ^ 62) ≤ i ∧ i < 2 ^ 62 ∧ -(2 ^ 62) ≤ j ∧ j < 2 ^ 62) (Pv : Nat → L2.St → Hp → Prop) (h0 : Pv 0 σ H)
    (hs : ∀ k σ H, k < n → Pv k σ H → ts { D with nx := Pv (k + 1), ct := Pv (k + 1), bk := D.nx } (σ.set s (some (.int (i + (k : Int))))) H) (hd : ∀ σ H, Pv n σ H → D.nx σ H) :
    ∃ i' j' : Int, [V.int i, V.int j] = [.int i', .int j'] ∧ (-(2 ^ 62) ≤ i' ∧ i' < 2 ^ 62 ∧ -(2 ^ 62) ≤ j' ∧ j' < 2 ^ 62) ∧ RFor (Itr i' (j' - i').toNat) (gName s) ts D σ H := by
  refine ⟨i, j, rfl, hb, ?_⟩
  rw [hn]
  exact for_range (lo := i) (n := n) Pv h0 (fun k σ H hi p => hs k σ H hi p) hd
theorem forR3 {c : Int} {n s : Nat} (hc : RgC i j c n) (Pv : Nat → L2.St → Hp → Prop) (h0 : Pv 0 σ H)
    (hs : ∀ k σ H, k < n → Pv k σ H → ts { D with nx := Pv (k + 1), ct := Pv (k + 1), bk := D.nx } (σ.set s (some (.int (i + (k : Nat) * c)))) H) (hd : ∀ σ H, Pv n σ H → D.nx σ H) :
    ∃ (i' j' c' : Int) (n' : Nat), [V.int i, V.int j, V.int c] = [.int i', .int j', .int c'] ∧ RgC i' j' c' n' ∧ RFor (Itc i' c' n') (gName s) ts D σ H :=
  ⟨i, j, c, n, rfl, hc, for_rangeC (lo := i) (c := c) (n := n) Pv h0 (fun k σ H hi p => hs k σ H hi p) hd⟩
/-- for x in l: behind the reading of l -/
theorem forL {a : Addr} {xs : List V} (h : SqL K H a xs) (Pv : Nat → L2.St → Hp → Prop) (h0 : Pv 0 σ H) (hl : ∀ i σ H, i ≤ xs.length → Pv i σ H → SqL K H a xs)
    (hs : ∀ i x σ H, xs[i]? = some x → Pv i σ H → g x σ H fun σ2 H2 => ts { D with nx := Pv (i + 1), ct := Pv (i + 1), bk := D.nx } σ2 H2) (hd : ∀ σ H, Pv xs.length σ H → D.nx σ H) :
    ∃ a', V.ref a = .ref a' ∧ (∃ xs, SqL K H a' xs) ∧ RFor (Itl K a') g ts D σ H := ⟨a, rfl, ⟨xs, h⟩, for_list (K := K) (a := a) (xs := xs) Pv h0 hl hs hd⟩
theorem forT {a : Addr} {xs : List V} (h : SqT K H a xs) (Pv : Nat → L2.St → Hp → Prop) (h0 : Pv 0 σ H) (hl : ∀ i σ H, i ≤ xs.length → Pv i σ H → SqT K H a xs)
    (hs : ∀ i x σ H, xs[i]? = some x → Pv i σ H → g x σ H fun σ2 H2 => ts { D with nx := Pv (i + 1), ct := Pv (i + 1), bk := D.nx } σ2 H2) (hd : ∀ σ H, Pv xs.length σ H → D.nx σ H) :
    ∃ a', V.ref a = .ref a' ∧ (∃ xs, SqT K H a' xs) ∧ RFor (Itt K a') g ts D σ H := ⟨a, rfl, ⟨xs, h⟩, for_tup (K := K) (a := a) (xs := xs) Pv h0 hl hs hd⟩
/-- while -/
def RWh (c : TT) (tb : TS) (D : Ends) (σ : L2.St) (H : Hp) : Prop := tWhile c tb D σ H
theorem whileB {c : TT} (Pv : Nat → L2.St → Hp → Prop) (m : Nat) (h0 : Pv m σ H)
    (hs : ∀ m σ H, Pv m σ H → c σ H fun b H1 => RIf b (∃ N : L2.St → Hp → Prop, (∀ σ' H', N σ' H' → ∃ m', m' < m ∧ Pv m' σ' H') ∧ ts { D with nx := N, ct := N, bk := D.nx } σ H1) (D.nx σ H1)) : tWhile c ts D σ H :=
  ⟨Pv, ⟨m, h0⟩, hs⟩
/-- the body's end in such a loop: a smaller number and the word again -/
theorem wh_turn {Pv : Nat → L2.St → Hp → Prop} {m : Nat} (h : ts { D with nx := fun σ' H' => ∃ m', m' < m ∧ Pv m' σ' H', ct := fun σ' H' => ∃ m', m' < m ∧ Pv m' σ' H', bk := D.nx } σ H) :
    ∃ N : L2.St → Hp → Prop, (∀ σ' H', N σ' H' → ∃ m', m' < m ∧ Pv m' σ' H') ∧ ts { D with nx := N, ct := N, bk := D.nx } σ H := ⟨_, fun _ _ h => h, h⟩

/-! ### comprehensions -/
def RLc (J : It) (g : TG) (tt : TT) (te : TE) (vs : List Nat) (σ : L2.St) (H1 : Hp) (Q : VK) : Prop := ∀ D, H1 D = none → ∃ W : Nat → Nat → Hp → Prop, (∃ m, W 0 m (upd H1 D (.lst []))) ∧ ∀ i m H, W i m H →
  (J.stop i H ∧ Q (.ref D) H) ∨ (J.go i H ∧ ∃ Nx : Hp → Prop, (∀ H', Nx H' → ∃ m', m' < m ∧ W (i + 1) m' H') ∧ ∀ x H', J.yld i H x H' → g x (wipe σ vs) H' fun σ2 H2 => wipe σ2 vs = wipe σ vs ∧ tt σ2 H2 fun b H3 =>
    if b = true then te σ2 H3 fun y H4 => ∃ acc, H4 D = some (.lst acc) ∧ acc.length < sizeLine ∧ Nx (upd H4 D (.lst (acc ++ [y]))) else Nx H3)
theorem r_lc {tt : TT} {vs : List Nat} (q : wi σ H fun J H1 => RLc J g tt te vs σ H1 Q) : tLc wi g tt te vs σ H Q := q
/-- what a turn of a comprehension without an if is to reach -/
theorem lc_turn {H' : Hp} {zs ys : List V} {P : Addr} {k : Nat} {y : V} {σ2 : L2.St} (o : Own H0 H' ((P, .lst (ys.take k)) :: L)) (hy : ys[k]? = some y) (hz : ys.length ≤ 10000000)
    (he : ∀ Q : VK, RetV H' Q y → te σ2 H' Q) :
    tYes σ2 H' fun b H3 => if b = true then te σ2 H3 fun y H4 => ∃ acc, H4 P = some (.lst acc) ∧ acc.length < sizeLine ∧ Own H0 (upd H4 P (.lst (acc ++ [y]))) ((P, .lst (ys.take (k + 1))) :: L) else Own H0 H3 ((P, .lst (ys.take (k + 1))) :: L) := by
  refine iteT (B := Own H0 H' ((P, .lst (ys.take (k + 1))) :: L)) (he _ fun H4 s4 => ?_)
  have o4 := o.mono s4
  have hk := (List.getElem?_eq_some_iff.mp hy).1
  refine ⟨ys.take k, o4.at 0 rfl, sz_lt (by rw [List.length_take]; omega), ?_⟩
  have o5 := o4.set (v := .lst (ys.take k ++ [y])) 0 rfl
  have e : ys.take (k + 1) = ys.take k ++ [y] := by rw [List.take_add_one, hy]; rfl
  rw [e]
  exact o5
/-- [e for x in range(n)], e no new object -/
theorem lcR1 {n s : Nat} {vs : List Nat} (ys : List V) (hy : ys.length = n) (o : Own H0 H L) (hn : j = (n : Int)) (hz : n ≤ 10000000) (hw : ∀ x, wipe ((wipe σ vs).set s (some x)) vs = wipe σ vs)
    (he : ∀ (i : Nat) (y : V) (p : Addr) (zs : List V) (H' : Hp) (Q : VK), i < n → ys[i]? = some y → Own H0 H' ((p, .lst zs) :: L) → RetV H' Q y → te ((wipe σ vs).set s (some (.int (i : Int)))) H' Q)
    (k : ∀ p H', Own H0 H' ((p, .lst ys) :: L) → Q (.ref p) H') :
    ∃ k : Int, [V.int j] = [.int k] ∧ -(2 ^ 62) ≤ k ∧ k < 2 ^ 62 ∧ RLc (Itr 0 k.toNat) (gName s) tYes te vs σ H Q := by
  refine ⟨j, rfl, by omega, by omega, fun P hP => ?_⟩
  have e : j.toNat = n := by omega
  rw [e]
  refine lc_range (lo := 0) (n := n) (fun i H' => Own H0 H' ((P, .lst (ys.take i)) :: L)) (o.new hP) (fun i H' hi p => ?_) (fun H' p => k P H' (by rw [List.take_of_length_le (by omega)] at p; exact p))
  have e0 : (0 : Int) + (i : Int) = (i : Int) := Int.zero_add _
  rw [e0]
  have hlt : i < ys.length := by omega
  refine ⟨hw _, ?_⟩
  exact lc_turn (zs := []) p (List.getElem?_eq_getElem hlt) (by omega) fun Q q => he i _ P _ H' Q hi (List.getElem?_eq_getElem hlt) p q
/-- [e for x in xs], e no new object -/
theorem lcL {a : Addr} {xs : List V} {s : Nat} {vs : List Nat} (ys : List V) (hy : ys.length = xs.length) (o : Own H0 H L) (h : ∀ H' p zs, Own H0 H' ((p, .lst zs) :: L) → SqL K H' a xs) (h1 : SqL K H a xs) (hz : xs.length ≤ 10000000) (hw : ∀ x, wipe ((wipe σ vs).set s (some x)) vs = wipe σ vs)
    (he : ∀ (i : Nat) (x y : V) (p : Addr) (zs : List V) (H' : Hp) (Q : VK), xs[i]? = some x → ys[i]? = some y → Own H0 H' ((p, .lst zs) :: L) → RetV H' Q y → te ((wipe σ vs).set s (some x)) H' Q)
    (k : ∀ p H', Own H0 H' ((p, .lst ys) :: L) → Q (.ref p) H') :
    ∃ a', V.ref a = .ref a' ∧ (∃ xs, SqL K H a' xs) ∧ RLc (Itl K a') (gName s) tYes te vs σ H Q := by
  refine ⟨a, rfl, ⟨xs, h1⟩, fun P hP => ?_⟩
  refine lc_list (K := K) (a := a) (xs := xs) (fun i H' => Own H0 H' ((P, .lst (ys.take i)) :: L)) (o.new hP) (fun i H' _ p => h H' _ _ p) (fun i x H' hi p => ?_) (fun H' p => k P H' (by rw [List.take_of_length_le (by omega)] at p; exact p))
  have hlt : i < ys.length := by have := (List.getElem?_eq_some_iff.mp hi).1; omega
  refine ⟨hw _, ?_⟩
  exact lc_turn (zs := []) p (List.getElem?_eq_getElem hlt) (by omega) fun Q q => he i x _ P _ H' Q hi (List.getElem?_eq_getElem hlt) p q
end
/-! ### comprehensions of ints -/
def mapR (n : Nat) (f : Nat → Int) : List Int := (List.range n).map f
theorem mapR_len (n : Nat) (f : Nat → Int) : (mapR n f).length = n := by unfold mapR; rw [List.length_map, List.length_range]
theorem mapR_mem {n : Nat} {f : Nat → Int} {x : Int} (h : x ∈ mapR n f) : ∃ k, k < n ∧ x = f k := by
  obtain ⟨k, hk, e⟩ := List.mem_map.mp h
  exact ⟨k, List.mem_range.mp hk, e.symm⟩
theorem mapR_get {n k : Nat} {f : Nat → Int} (h : k < n) : (mapR n f)[k]? = some (f k) := by
  unfold mapR
  rw [List.getElem?_map, List.getElem?_range h]
  rfl
theorem mapR_ext {n : Nat} {f g : Nat → Int} (h : ∀ k, k < n → f k = g k) : mapR n f = mapR n g := by
  unfold mapR
  exact List.map_congr_left fun k hk => h k (List.mem_range.mp hk)
theorem RetV.here {H : Hp} {Q : VK} {v : V} (q : RetV H Q v) : Q v H := q H (Same.refl H)
section
variable {σ : L2.St} {H H0 : Hp} {Q : VK} {te : TE} {j : Int} {K : PySem.W.Frag} {L : List (Addr × HO)}
theorem lcR1I {n s : Nat} {vs : List Nat} (f : Nat → Int) (o : Own H0 H L) (hn : j = (n : Int)) (hz : n ≤ 10000000) (hw : ∀ x, wipe ((wipe σ vs).set s (some x)) vs = wipe σ vs)
    (he : ∀ (i : Nat) (p : Addr) (zs : List V) (H' : Hp) (Q : VK), i < n → Own H0 H' ((p, .lst zs) :: L) → RetV H' Q (.int (f i)) → te ((wipe σ vs).set s (some (.int (i : Int)))) H' Q)
    (k : ∀ p H', Own H0 H' ((p, .lst ((mapR n f).map V.int)) :: L) → Q (.ref p) H') :
    ∃ k : Int, [V.int j] = [.int k] ∧ -(2 ^ 62) ≤ k ∧ k < 2 ^ 62 ∧ RLc (Itr 0 k.toNat) (gName s) tYes te vs σ H Q := by
  refine lcR1 ((mapR n f).map V.int) (by rw [List.length_map, mapR_len]) o hn hz hw (fun i y p zs H' Q hi hy o' q => ?_) k
  rw [List.getElem?_map, mapR_get hi] at hy
  cases hy
  exact he i p zs H' Q hi o' q
theorem lcLI {a : Addr} {ns : List Int} {s : Nat} {vs : List Nat} (f : Int → Int) (o : Own H0 H L) (h : ∀ H' p zs, Own H0 H' ((p, .lst zs) :: L) → SqL K H' a (ns.map V.int)) (h1 : SqL K H a (ns.map V.int)) (hz : ns.length ≤ 10000000) (hw : ∀ x, wipe ((wipe σ vs).set s (some x)) vs = wipe σ vs)
    (he : ∀ (i : Nat) (x : Int) (p : Addr) (zs : List V) (H' : Hp) (Q : VK), x ∈ ns → Own H0 H' ((p, .lst zs) :: L) → RetV H' Q (.int (f x)) → te ((wipe σ vs).set s (some (.int x))) H' Q)
    (k : ∀ p H', Own H0 H' ((p, .lst ((ns.map f).map V.int)) :: L) → Q (.ref p) H') :
    ∃ a', V.ref a = .ref a' ∧ (∃ xs, SqL K H a' xs) ∧ RLc (Itl K a') (gName s) tYes te vs σ H Q := by
  refine lcL ((ns.map f).map V.int) (by rw [List.length_map, List.length_map, List.length_map]) o h h1 (by rw [List.length_map]; exact hz) hw (fun i x y p zs H' Q hx hy o' q => ?_) k
  rw [List.getElem?_map] at hx
  rw [List.getElem?_map, List.getElem?_map] at hy
  cases e : ns[i]? with
  | none => rw [e] at hx; cases hx
  | some z =>
    rw [e] at hx hy
    cases hx
    cases hy
    exact he i z p zs H' Q (List.mem_of_getElem? e) o' q
end
section
variable {H0 H : Hp} {L : List (Addr × HO)} {x y z u v : Addr × HO}
theorem Own.pick1 (o : Own H0 H L) (i : Nat) (hi : L[i]? = some x) : Own H0 H [x] := ⟨o.ex, fun q hq => by rw [List.mem_singleton.mp hq]; exact o.fr _ (List.mem_of_getElem? hi), by simp⟩
theorem Own.cons_of (o : Own H0 H L) {L' : List (Addr × HO)} (o' : Own H0 H L') (hx : x ∈ L) (hn : ∀ q ∈ L', q.1 ≠ x.1) : Own H0 H (x :: L') :=
  ⟨o.ex, fun q hq => by
    rcases List.mem_cons.mp hq with rfl | hq
    · exact o.fr _ hx
    · exact o'.fr _ hq, by
    rw [List.map_cons, List.nodup_cons]
    refine ⟨fun hm => ?_, o'.nd⟩
    obtain ⟨q, hq, e⟩ := List.mem_map.mp hm
    exact hn q hq e⟩
theorem Own.nei (o : Own H0 H L) {i j : Nat} (hi : L[i]? = some x) (hj : L[j]? = some y) (h : i ≠ j) : x.1 ≠ y.1 := fun e => h (nodup_fst (l := x.1) (u := x.2) (v := y.2) o.nd hi (by rw [hj, e]))
theorem Own.pick2 (o : Own H0 H L) (i j : Nat) (hij : i ≠ j) (hi : L[i]? = some x) (hj : L[j]? = some y) : Own H0 H [x, y] :=
  o.cons_of (o.pick1 j hj) (List.mem_of_getElem? hi) fun q hq => by rw [List.mem_singleton.mp hq]; exact (o.nei hi hj hij).symm
theorem Own.pick3 (o : Own H0 H L) (i j k : Nat) (h : i ≠ j ∧ i ≠ k ∧ j ≠ k) (hi : L[i]? = some x) (hj : L[j]? = some y) (hk : L[k]? = some z) : Own H0 H [x, y, z] :=
  o.cons_of (o.pick2 j k h.2.2 hj hk) (List.mem_of_getElem? hi) fun q hq => by
    rcases List.mem_cons.mp hq with rfl | hq
    · exact (o.nei hi hj h.1).symm
    · rw [List.mem_singleton.mp hq]; exact (o.nei hi hk h.2.1).symm
theorem Own.pick4 (o : Own H0 H L) (i j k l : Nat) (h : i ≠ j ∧ i ≠ k ∧ i ≠ l ∧ j ≠ k ∧ j ≠ l ∧ k ≠ l) (hi : L[i]? = some x) (hj : L[j]? = some y) (hk : L[k]? = some z) (hl : L[l]? = some u) : Own H0 H [x, y, z, u] :=
  o.cons_of (o.pick3 j k l h.2.2.2 hj hk hl) (List.mem_of_getElem? hi) fun q hq => by
    rcases List.mem_cons.mp hq with rfl | hq
    · exact (o.nei hi hj h.1).symm
    · rcases List.mem_cons.mp hq with rfl | hq
      · exact (o.nei hi hk h.2.1).symm
      · rw [List.mem_singleton.mp hq]; exact (o.nei hi hl h.2.2.1).symm
end

/-! ### tuples stand -/
def Stp (H H' : Hp) : Prop := ∀ a xs, Rd H a (.tup xs) → Rd H' a (.tup xs)
theorem Stp.refl (H : Hp) : Stp H H := fun _ _ h => h
theorem Stp.trans {H H1 H2 : Hp} (a : Stp H H1) (b : Stp H1 H2) : Stp H H2 := fun x xs h => b x xs (a x xs h)
theorem Stp.of {H H' : Hp} (e : Same H H') : Stp H H' := fun a xs h => by
  rcases h with h | ⟨o, h⟩
  · exact .inl (e _ _ h)
  · exact .inr ⟨o, e _ _ h⟩
theorem Stp.set {H : Hp} {l : Addr} {xs : List V} {u : HO} (h : H l = some (.lst xs)) : Stp H (upd H l u) := fun a ys r => by
  have hne : a ≠ l := by
    rintro rfl
    rcases r with r | ⟨o, r⟩ <;> rw [h] at r <;> cases r
  rcases r with r | ⟨o, r⟩
  · exact .inl (by rw [upd_ne hne]; exact r)
  · exact .inr ⟨o, by rw [upd_ne hne]; exact r⟩
theorem Stp.sq {K : PySem.W.Frag} {H H' : Hp} {a : Addr} {xs : List V} (e : Stp H H') (h : SqT K H a xs) : SqT K H' a xs := by
  rcases h with h | h
  · exact .inl (e _ _ h)
  · exact .inr h
/-! ### comprehensions with a test -/
theorem lc_turnF {H0 H H' : Hp} {L : List (Addr × HO)} {te : TE} {tt : TT} {zs : List V} {P : Addr} {o1 : Option V} {σ2 : L2.St} (o : Own H0 H' ((P, .lst zs) :: L)) (s : Stp H H') (hz : zs.length < 10000000)
    (ht : ∀ Q : Bool → Hp → Prop, (∀ H2, Same H' H2 → Q o1.isSome H2) → tt σ2 H' Q) (he : ∀ y H2, o1 = some y → Same H' H2 → ∀ Q : VK, RetV H2 Q y → te σ2 H2 Q) :
    tt σ2 H' fun b H3 => if b = true then te σ2 H3 fun y H4 => ∃ acc, H4 P = some (.lst acc) ∧ acc.length < sizeLine ∧ (Own H0 (upd H4 P (.lst (acc ++ [y]))) ((P, .lst (zs ++ o1.toList)) :: L) ∧ Stp H (upd H4 P (.lst (acc ++ [y])))) else (Own H0 H3 ((P, .lst (zs ++ o1.toList)) :: L) ∧ Stp H H3) := by
  refine ht _ fun H2 s2 => ?_
  have o2 := o.mono s2
  cases e : o1 with
  | none =>
    show Own H0 H2 ((P, .lst (zs ++ [])) :: L) ∧ Stp H H2
    rw [List.append_nil]
    exact ⟨o2, s.trans (.of s2)⟩
  | some y =>
    refine iteT (B := Own H0 H2 ((P, .lst (zs ++ [y])) :: L) ∧ Stp H H2) (he y H2 e s2 _ fun H4 s4 => ?_)
    have o4 := o2.mono s4
    exact ⟨zs, o4.at 0 rfl, sz_lt hz, o4.set (v := .lst (zs ++ [y])) 0 rfl, (s.trans ((Stp.of s2).trans (.of s4))).trans (Stp.set (o4.at 0 rfl))⟩
theorem fm_take {α β : Type} {xs : List α} {sel : α → Option β} {i : Nat} {x : α} (h : xs[i]? = some x) : (xs.take (i + 1)).filterMap sel = (xs.take i).filterMap sel ++ (sel x).toList := by
  rw [List.take_add_one, h, List.filterMap_append]
  congr 1
theorem fm_le {α β : Type} (xs : List α) (sel : α → Option β) : (xs.filterMap sel).length ≤ xs.length := List.length_filterMap_le sel xs
section
variable {σ : L2.St} {H H0 : Hp} {Q : VK} {te : TE} {tt : TT} {j : Int} {K : PySem.W.Frag} {L : List (Addr × HO)}
/-- [e for x in xs if t], what it gives by the item alone -/
theorem lcGL {a : Addr} {xs : List V} {g : TG} {vs : List Nat} (sel : V → Option V) (o : Own H0 H L) (h : ∀ H' p zs, Own H0 H' ((p, .lst zs) :: L) → SqL K H' a xs) (h1 : SqL K H a xs) (hz : xs.length < 10000000)
    (he : ∀ (i : Nat) (x : V) (p : Addr) (zs : List V) (H' : Hp) (R : L2.St → Hp → Prop), xs[i]? = some x → Own H0 H' ((p, .lst zs) :: L) → Stp H H' →
      (∀ σ2, (∀ H2, Same H' H2 → wipe σ2 vs = wipe σ vs) → (∀ Q : Bool → Hp → Prop, (∀ H2, Same H' H2 → Q (sel x).isSome H2) → tt σ2 H' Q) → (∀ y H2, sel x = some y → Same H' H2 → ∀ Q : VK, RetV H2 Q y → te σ2 H2 Q) → R σ2 H') → g x (wipe σ vs) H' R)
    (k : ∀ p H', Stp H H' → Own H0 H' ((p, .lst (xs.filterMap sel)) :: L) → Q (.ref p) H') :
    ∃ a', V.ref a = .ref a' ∧ (∃ xs, SqL K H a' xs) ∧ RLc (Itl K a') g tt te vs σ H Q := by
  refine ⟨a, rfl, ⟨xs, h1⟩, fun P hP => ?_⟩
  refine lc_list (K := K) (a := a) (xs := xs) (fun i H' => Own H0 H' ((P, .lst ((xs.take i).filterMap sel)) :: L) ∧ Stp H H') ⟨o.new hP, .of (same_new hP)⟩ (fun i H' _ p => h H' _ _ p.1) (fun i x H' hi p => ?_) (fun H' p => k P H' p.2 (by have p := p.1; rw [List.take_of_length_le (Nat.le_refl _)] at p; exact p))
  refine he i x P _ H' _ hi p.1 p.2 fun σ2 hw ht hv => ⟨hw H' (Same.refl _), ?_⟩
  rw [fm_take hi]
  refine lc_turnF p.1 p.2 ?_ ht hv
  have h2 := fm_le (xs.take i) sel
  rw [List.length_take] at h2
  omega
theorem lcGT {a : Addr} {xs : List V} {g : TG} {vs : List Nat} (sel : V → Option V) (o : Own H0 H L) (h : ∀ H' p zs, Own H0 H' ((p, .lst zs) :: L) → SqT K H' a xs) (h1 : SqT K H a xs) (hz : xs.length < 10000000)
    (he : ∀ (i : Nat) (x : V) (p : Addr) (zs : List V) (H' : Hp) (R : L2.St → Hp → Prop), xs[i]? = some x → Own H0 H' ((p, .lst zs) :: L) → Stp H H' →
      (∀ σ2, (∀ H2, Same H' H2 → wipe σ2 vs = wipe σ vs) → (∀ Q : Bool → Hp → Prop, (∀ H2, Same H' H2 → Q (sel x).isSome H2) → tt σ2 H' Q) → (∀ y H2, sel x = some y → Same H' H2 → ∀ Q : VK, RetV H2 Q y → te σ2 H2 Q) → R σ2 H') → g x (wipe σ vs) H' R)
    (k : ∀ p H', Stp H H' → Own H0 H' ((p, .lst (xs.filterMap sel)) :: L) → Q (.ref p) H') :
    ∃ a', V.ref a = .ref a' ∧ (∃ xs, SqT K H a' xs) ∧ RLc (Itt K a') g tt te vs σ H Q := by
  refine ⟨a, rfl, ⟨xs, h1⟩, fun P hP => ?_⟩
  refine lc_tup (K := K) (a := a) (xs := xs) (fun i H' => Own H0 H' ((P, .lst ((xs.take i).filterMap sel)) :: L) ∧ Stp H H') ⟨o.new hP, .of (same_new hP)⟩ (fun i H' _ p => h H' _ _ p.1) (fun i x H' hi p => ?_) (fun H' p => k P H' p.2 (by have p := p.1; rw [List.take_of_length_le (Nat.le_refl _)] at p; exact p))
  refine he i x P _ H' _ hi p.1 p.2 fun σ2 hw ht hv => ⟨hw H' (Same.refl _), ?_⟩
  rw [fm_take hi]
  refine lc_turnF p.1 p.2 ?_ ht hv
  have h2 := fm_le (xs.take i) sel
  rw [List.length_take] at h2
  omega
/-- .. over range(n) -/
theorem lcGR {n s : Nat} {vs : List Nat} (sel : Nat → Option V) (o : Own H0 H L) (hn : j = (n : Int)) (hz : n < 10000000) (hw : ∀ x, wipe ((wipe σ vs).set s (some x)) vs = wipe σ vs)
    (ht : ∀ (i : Nat) (p : Addr) (zs : List V) (H' : Hp) (Q : Bool → Hp → Prop), i < n → Own H0 H' ((p, .lst zs) :: L) → Stp H H' → (∀ H2, Same H' H2 → Q (sel i).isSome H2) → tt ((wipe σ vs).set s (some (.int (i : Int)))) H' Q)
    (he : ∀ (i : Nat) (y : V) (p : Addr) (zs : List V) (H' : Hp) (Q : VK), i < n → sel i = some y → Own H0 H' ((p, .lst zs) :: L) → Stp H H' → RetV H' Q y → te ((wipe σ vs).set s (some (.int (i : Int)))) H' Q)
    (k : ∀ p H', Stp H H' → Own H0 H' ((p, .lst ((List.range n).filterMap sel)) :: L) → Q (.ref p) H') :
    ∃ k : Int, [V.int j] = [.int k] ∧ -(2 ^ 62) ≤ k ∧ k < 2 ^ 62 ∧ RLc (Itr 0 k.toNat) (gName s) tt te vs σ H Q := by
  refine ⟨j, rfl, by omega, by omega, fun P hP => ?_⟩
  have e : j.toNat = n := by omega
  rw [e]
  refine lc_range (lo := 0) (n := n) (fun i H' => Own H0 H' ((P, .lst ((List.range i).filterMap sel)) :: L) ∧ Stp H H') ⟨o.new hP, .of (same_new hP)⟩ (fun i H' hi p => ?_) (fun H' p => k P H' p.2 p.1)
  have e0 : (0 : Int) + (i : Int) = (i : Int) := Int.zero_add _
  rw [e0]
  refine ⟨hw _, ?_⟩
  have e1 : (List.range (i + 1)).filterMap sel = (List.range i).filterMap sel ++ (sel i).toList := by
    rw [List.range_succ, List.filterMap_append]
    congr 1
  rw [e1]
  refine lc_turnF p.1 p.2 ?_ (fun Q q => ht i P _ H' Q hi p.1 p.2 q) (fun y H2 hy s2 Q q => he i y P _ H2 Q hi hy (p.1.mono s2) (p.2.trans (.of s2)) q)
  have h2 := fm_le (List.range i) sel
  rw [List.length_range] at h2
  omega
end
/-- ints chosen and mapped -/
def selI (p : Int → Bool) (f : Int → V) : V → Option V
  | .int x => if p x then some (f x) else none
  | _ => none
theorem fm_ints (p : Int → Bool) (f : Int → V) : ∀ ns : List Int, (ns.map V.int).filterMap (selI p f) = (ns.filter p).map f
  | [] => rfl
  | n :: ns => by
    show List.filterMap (selI p f) (V.int n :: ns.map V.int) = _
    have e : selI p f (V.int n) = if p n then some (f n) else none := rfl
    rw [List.filterMap_cons, List.filter_cons, fm_ints p f ns, e]
    cases p n <;> rfl
section
variable {σ : L2.St} {H H0 : Hp} {Q : VK} {te : TE} {tt : TT} {K : PySem.W.Frag} {L : List (Addr × HO)}
theorem lcLIF {a : Addr} {ns : List Int} {s : Nat} {vs : List Nat} (p : Int → Bool) (f : Int → V) (o : Own H0 H L) (h : ∀ H' p zs, Own H0 H' ((p, .lst zs) :: L) → SqL K H' a (ns.map V.int)) (h1 : SqL K H a (ns.map V.int)) (hz : ns.length < 10000000) (hw : ∀ x, wipe ((wipe σ vs).set s (some x)) vs = wipe σ vs)
    (ht : ∀ (x : Int) (q : Addr) (zs : List V) (H' : Hp) (Q : Bool → Hp → Prop), x ∈ ns → Own H0 H' ((q, .lst zs) :: L) → (∀ H2, Same H' H2 → Q (p x) H2) → tt ((wipe σ vs).set s (some (.int x))) H' Q)
    (he : ∀ (x : Int) (q : Addr) (zs : List V) (H' : Hp) (Q : VK), x ∈ ns → p x = true → Own H0 H' ((q, .lst zs) :: L) → RetV H' Q (f x) → te ((wipe σ vs).set s (some (.int x))) H' Q)
    (k : ∀ q H', Own H0 H' ((q, .lst ((ns.filter p).map f)) :: L) → Q (.ref q) H') :
    ∃ a', V.ref a = .ref a' ∧ (∃ xs, SqL K H a' xs) ∧ RLc (Itl K a') (gName s) tt te vs σ H Q := by
  refine lcGL (selI p f) o h h1 (by rw [List.length_map]; exact hz) (fun i v q zs H' R hi o' _ r => ?_) (fun q H' _ o' => k q H' (by rw [fm_ints] at o'; exact o'))
  rw [List.getElem?_map] at hi
  cases e : ns[i]? with
  | none => rw [e] at hi; cases hi
  | some x =>
    rw [e] at hi
    cases hi
    have hx := List.mem_of_getElem? e
    refine r _ (fun _ _ => hw _) (fun Q qq => ht x q zs H' Q hx o' fun H2 s2 => ?_) fun y H2 hy s2 Q qq => ?_
    · have z := qq H2 s2
      have e2 : (selI p f (V.int x)).isSome = p x := by show (if p x then some (f x) else none).isSome = p x; cases p x <;> rfl
      rw [e2] at z
      exact z
    · have hy2 : (if p x then some (f x) else none) = some y := hy
      cases hp : p x with
      | false => rw [hp] at hy2; cases hy2
      | true =>
        rw [hp] at hy2
        cases hy2
        exact he x q zs H2 Q hx hp (o'.mono s2) qq
theorem lcTIF {a : Addr} {ns : List Int} {s : Nat} {vs : List Nat} (p : Int → Bool) (f : Int → V) (o : Own H0 H L) (h : ∀ H' p zs, Own H0 H' ((p, .lst zs) :: L) → SqT K H' a (ns.map V.int)) (h1 : SqT K H a (ns.map V.int)) (hz : ns.length < 10000000) (hw : ∀ x, wipe ((wipe σ vs).set s (some x)) vs = wipe σ vs)
    (ht : ∀ (x : Int) (q : Addr) (zs : List V) (H' : Hp) (Q : Bool → Hp → Prop), x ∈ ns → Own H0 H' ((q, .lst zs) :: L) → (∀ H2, Same H' H2 → Q (p x) H2) → tt ((wipe σ vs).set s (some (.int x))) H' Q)
    (he : ∀ (x : Int) (q : Addr) (zs : List V) (H' : Hp) (Q : VK), x ∈ ns → p x = true → Own H0 H' ((q, .lst zs) :: L) → RetV H' Q (f x) → te ((wipe σ vs).set s (some (.int x))) H' Q)
    (k : ∀ q H', Own H0 H' ((q, .lst ((ns.filter p).map f)) :: L) → Q (.ref q) H') :
    ∃ a', V.ref a = .ref a' ∧ (∃ xs, SqT K H a' xs) ∧ RLc (Itt K a') (gName s) tt te vs σ H Q := by
  refine lcGT (selI p f) o h h1 (by rw [List.length_map]; exact hz) (fun i v q zs H' R hi o' _ r => ?_) (fun q H' _ o' => k q H' (by rw [fm_ints] at o'; exact o'))
  rw [List.getElem?_map] at hi
  cases e : ns[i]? with
  | none => rw [e] at hi; cases hi
  | some x =>
    rw [e] at hi
    cases hi
    have hx := List.mem_of_getElem? e
    refine r _ (fun _ _ => hw _) (fun Q qq => ht x q zs H' Q hx o' fun H2 s2 => ?_) fun y H2 hy s2 Q qq => ?_
    · have z := qq H2 s2
      have e2 : (selI p f (V.int x)).isSome = p x := by show (if p x then some (f x) else none).isSome = p x; cases p x <;> rfl
      rw [e2] at z
      exact z
    · have hy2 : (if p x then some (f x) else none) = some y := hy
      cases hp : p x with
      | false => rw [hp] at hy2; cases hy2
      | true =>
        rw [hp] at hy2
        cases hy2
        exact he x q zs H2 Q hx hp (o'.mono s2) qq
/-- without a test -/
theorem lcTIV {a : Addr} {ns : List Int} {s : Nat} {vs : List Nat} (f : Int → V) (o : Own H0 H L) (h : ∀ H' p zs, Own H0 H' ((p, .lst zs) :: L) → SqT K H' a (ns.map V.int)) (h1 : SqT K H a (ns.map V.int)) (hz : ns.length < 10000000) (hw : ∀ x, wipe ((wipe σ vs).set s (some x)) vs = wipe σ vs)
    (he : ∀ (x : Int) (q : Addr) (zs : List V) (H' : Hp) (Q : VK), x ∈ ns → Own H0 H' ((q, .lst zs) :: L) → RetV H' Q (f x) → te ((wipe σ vs).set s (some (.int x))) H' Q)
    (k : ∀ q H', Own H0 H' ((q, .lst (ns.map f)) :: L) → Q (.ref q) H') :
    ∃ a', V.ref a = .ref a' ∧ (∃ xs, SqT K H a' xs) ∧ RLc (Itt K a') (gName s) tYes te vs σ H Q :=
  lcTIF (fun _ => true) f o h h1 hz hw (fun x q zs H' Q _ _ r => r H' (Same.refl _)) (fun x q zs H' Q hx _ o' r => he x q zs H' Q hx o' r) (fun q H' o' => k q H' (by rw [List.filter_eq_self.mpr (fun _ _ => rfl)] at o'; exact o'))
end

/-! ### constants reckoned, chains, all, any, bools -/
theorem pe_powC {X : Cx} {a b c : Int} {j1 j2 : Nat} {p1 p2 pos : Pos} (hc : CPow a b) (h : a ^ b.toNat = c) : PE X (.BinOp (.Constant (.int a) j1 p1) .Pow (.Constant (.int b) j2 p2) pos) (tC (.int c)) :=
  ⟨fun pins s σ H Q I h0 => (pe_op op_pow pe_int pe_int).run pins s σ H Q I (show rI CPow (fun i j => .int (i ^ j.toNat)) (.int a) (.int b) H Q from ⟨a, b, rfl, rfl, hc, by show Q (.int (a ^ b.toNat)) H; rw [h]; exact h0⟩)⟩
section
variable {σ : L2.St} {H : Hp} {Q : VK} {ta tb tc : TE} {K : PySem.W.Frag} {i j k : Int}
theorem r_chain {r r' : R2} (q : ta σ H fun x H1 => tb σ H1 fun y H2 => r x y H2 fun z H3 => RBl z H3 fun k H3 => RIf k (tc σ H3 fun w' H4 => r' y w' H4 Q) (Q (.bl false) H3)) : tChain r r' ta tb tc σ H Q := q
theorem r_all {a : Addr} {bs : List Bool} (h : SqL K H a (bs.map V.bl)) (q : Q (.bl (bs.all id)) H) : rAll K [.ref a] H Q := ⟨a, bs, rfl, h, q⟩
theorem r_any {a : Addr} {bs : List Bool} (h : SqL K H a (bs.map V.bl)) (q : Q (.bl (bs.any id)) H) : rAny K [.ref a] H Q := ⟨a, bs, rfl, h, q⟩
theorem r_isB {a b : Bool} (q : Q (.bl (decide (a = b))) H) : rIsB (.bl a) (.bl b) H Q := ⟨a, b, rfl, rfl, q⟩
end

/-! ### items from the end -/
theorem at_neg {ns : List Int} {d : Nat} (h0 : 0 < d) (h1 : d ≤ ns.length) : atI (ns.map V.int) (-(d : Int)) = some (.int (gi ns ((ns.length : Int) - (d : Int)))) := by
  unfold atI ixN
  rw [List.length_map, if_neg (by omega), if_pos (by omega)]
  show (ns.map V.int)[(-(d : Int) + (ns.length : Int)).toNat]? = _
  rw [show (-(d : Int) + (ns.length : Int)).toNat = ns.length - d by omega, List.getElem?_map, List.getElem?_eq_getElem (show ns.length - d < ns.length by omega)]
  unfold gi
  rw [show ((ns.length : Int) - (d : Int)).toNat = ns.length - d by omega, List.getD_eq_getElem?_getD, List.getElem?_eq_getElem (show ns.length - d < ns.length by omega)]
  rfl
theorem ix_neg {n d : Nat} (h0 : 0 < d) (h1 : d ≤ n) : ixN n (-(d : Int)) = some (n - d) := by
  unfold ixN
  rw [if_neg (by omega), if_pos (by omega)]
  congr 1
  omega
theorem fm_filter {α β : Type} (p : α → Bool) (f : α → β) : ∀ l : List α, l.filterMap (fun k => if p k then some (f k) else none) = (l.filter p).map f
  | [] => rfl
  | x :: l => by
    rw [List.filterMap_cons, List.filter_cons, fm_filter p f l]
    cases p x <;> rfl
/-! ### lists of ints cut and glued -/
theorem gi_nat {ns : List Int} {k : Nat} (h : k < ns.length) : gi ns (k : Int) = ns[k] := by
  unfold gi
  rw [List.getD_eq_getElem?_getD, show ((k : Int)).toNat = k from rfl, List.getElem?_eq_getElem h]
  rfl
theorem take_drop_sum {ns : List Int} {k : Nat} {z : Int} (h : k < ns.length) : (ns.take k ++ [z] ++ ns.drop (k + 1)).sum = ns.sum - gi ns k + z := by
  have e : ns.sum = (ns.take k ++ [ns[k]] ++ ns.drop (k + 1)).sum := by
    congr 1
    rw [List.append_assoc, List.singleton_append, List.getElem_cons_drop, List.take_append_drop]
  rw [e, gi_nat h]
  simp only [List.sum_append, List.sum_cons, List.sum_nil]
  omega
theorem map_cut3 {ns : List Int} {k : Nat} {z : Int} : ((ns.map V.int).take k ++ [V.int z]) ++ (ns.map V.int).drop (k + 1) = (ns.take k ++ [z] ++ ns.drop (k + 1)).map V.int := by
  rw [List.map_append, List.map_append, List.map_take, List.map_drop]
  rfl
theorem len_cut3 {ns : List Int} {k : Nat} {z : Int} (h : k < ns.length) : (ns.take k ++ [z] ++ ns.drop (k + 1)).length = ns.length := by
  rw [List.length_append, List.length_append, List.length_take, List.length_drop]
  simp
  omega

/-! ### a value or an answer known by a word only -/
def tCutE (t : TE) : TE := fun σ H Q => ∃ R : VK, t σ H R ∧ ∀ v H', R v H' → Q v H'
def tCutT (t : TT) : TT := fun σ H Q => ∃ R : Bool → Hp → Prop, t σ H R ∧ ∀ b H', R b H' → Q b H'
theorem pe_cutE {X : Cx} {e : Expr} {t : TE} (he : PE X e t) : PE X e (tCutE t) := ⟨fun pins s σ H Q I ⟨R, h, k⟩ => thn (he.run pins s σ H R I h) fun _ _ ⟨v, H', I', r, q⟩ => ⟨v, H', I', r, k v H' q⟩⟩
theorem pt_cutT {X : Cx} {e : Expr} {t : TT} (he : PT X e t) : PT X e (tCutT t) := ⟨fun pins s σ H Q I ⟨R, h, k⟩ => thn (he.run pins s σ H R I h) fun b _ ⟨H', I', q⟩ => ⟨H', I', k b H' q⟩⟩
theorem r_cutE {σ : L2.St} {H : Hp} {Q : VK} {t : TE} (R : VK) (h : t σ H R) (k : ∀ v H', R v H' → Q v H') : tCutE t σ H Q := ⟨R, h, k⟩
theorem r_cutT {σ : L2.St} {H : Hp} {Q : Bool → Hp → Prop} {t : TT} (R : Bool → Hp → Prop) (h : t σ H R) (k : ∀ b H', R b H' → Q b H') : tCutT t σ H Q := ⟨R, h, k⟩
/-- the value is an int of which P holds; the heap stands -/
def IntR (H : Hp) (P : Int → Prop) : VK := fun v H' => H' = H ∧ ∃ m, v = .int m ∧ P m
theorem r_cutI {σ : L2.St} {H : Hp} {Q : VK} {t : TE} (P : Int → Prop) (h : t σ H (IntR H P)) (k : ∀ m, P m → Q (.int m) H) : tCutE t σ H Q := ⟨_, h, fun v H' ⟨e, m, e2, p⟩ => by subst e; subst e2; exact k m p⟩
/-- the answer is that of p; the heap stands -/
theorem r_cutB {σ : L2.St} {H : Hp} {Q : Bool → Hp → Prop} {t : TT} (c : Bool) (h : t σ H fun b H' => b = c ∧ H' = H) (k : Q c H) : tCutT t σ H Q := ⟨_, h, fun v H' ⟨e, e2⟩ => by subst e; subst e2; exact k⟩
/-- the value is v; the heap may have grown -/
theorem r_cutO {H0 : Hp} {σ : L2.St} {H : Hp} {Q : VK} {t : TE} (v : V) (L : List (Addr × HO)) (h : t σ H fun v' H' => v' = v ∧ Own H0 H' L) (k : ∀ H', Own H0 H' L → Q v H') : tCutE t σ H Q := ⟨_, h, fun v' H' ⟨e, o⟩ => by subst e; exact k H' o⟩
theorem rif_p {p : Prop} [Decidable p] {A B : Prop} (h1 : p → A) (h2 : ¬ p → B) : RIf (decide p) A B := rif h1 h2

/-! ### data of tuples: it stands while lists change -/
mutual
inductive Tp (K : PySem.W.Frag) (H : Hp) : V → PyData → Prop
  | non : Tp K H .non .none
  | bl (b : Bool) : Tp K H (.bl b) (.bool b)
  | int (i : Int) : Tp K H (.int i) (.int i)
  | str (x : Str) : Tp K H (.str x) (.str x)
  | tup {a : Addr} {xs : List V} {ds : List PyData} : SqT K H a xs → TpAll K H xs ds → Tp K H (.ref a) (.tuple ds)
inductive TpAll (K : PySem.W.Frag) (H : Hp) : List V → List PyData → Prop
  | nil : TpAll K H [] []
  | cons {v : V} {vs : List V} {d : PyData} {ds : List PyData} : Tp K H v d → TpAll K H vs ds → TpAll K H (v :: vs) (d :: ds)
end
section
variable {K : PySem.W.Frag} {H H' H0 : Hp} {Q : VK} {L : List (Addr × HO)}
mutual
theorem Tp.stp (e : Stp H H') : ∀ (d : PyData) (v : V), Tp K H v d → Tp K H' v d
  | .none, _, h => by cases h; exact .non
  | .bool b, _, h => by cases h; exact .bl b
  | .int i, _, h => by cases h; exact .int i
  | .str x, _, h => by cases h; exact .str x
  | .tuple ds, _, h => by
    cases h with
    | tup hs ha => exact .tup (e.sq hs) (TpAll.stp e ds _ ha)
  | .list _, _, h => by cases h
  | .dict _, _, h => by cases h
theorem TpAll.stp (e : Stp H H') : ∀ (ds : List PyData) (vs : List V), TpAll K H vs ds → TpAll K H' vs ds
  | [], _, h => by cases h; exact .nil
  | d :: ds, _, h => by
    cases h with
    | cons h1 h2 => exact .cons (Tp.stp e d _ h1) (TpAll.stp e ds _ h2)
end
mutual
theorem Tp.dp : ∀ (d : PyData) (v : V), Tp K H v d → Dp K H v d
  | .none, _, h => by cases h; exact .non
  | .bool b, _, h => by cases h; exact .bl b
  | .int i, _, h => by cases h; exact .int i
  | .str x, _, h => by cases h; exact .str x
  | .tuple ds, _, h => by
    cases h with
    | tup hs ha => exact .tup hs (TpAll.dp ds _ ha)
  | .list _, _, h => by cases h
  | .dict _, _, h => by cases h
theorem TpAll.dp : ∀ (ds : List PyData) (vs : List V), TpAll K H vs ds → DpAll K H vs ds
  | [], _, h => by cases h; exact .nil
  | d :: ds, _, h => by
    cases h with
    | cons h1 h2 => exact .cons (Tp.dp d _ h1) (TpAll.dp ds _ h2)
end
theorem Tp.up {v : V} {d : PyData} (h : Tp K H v d) (e : Stp H H') : Tp K H' v d := Tp.stp e d v h
theorem TpAll.up {vs : List V} {ds : List PyData} (h : TpAll K H vs ds) (e : Stp H H') : TpAll K H' vs ds := TpAll.stp e ds vs h
theorem TpAll.len : ∀ {vs : List V} {ds : List PyData}, TpAll K H vs ds → vs.length = ds.length
  | _, _, .nil => rfl
  | _, _, .cons _ h => by rw [List.length_cons, List.length_cons, TpAll.len h]
theorem TpAll.get : ∀ {vs : List V} {ds : List PyData} {i : Nat} {d : PyData}, TpAll K H vs ds → ds[i]? = some d → ∃ v, vs[i]? = some v ∧ Tp K H v d
  | _, _, _, _, .nil, h => by simp at h
  | _, _, 0, _, .cons a _, h => by simp at h; subst h; exact ⟨_, rfl, a⟩
  | _, _, i + 1, _, .cons _ t, h => by
    obtain ⟨v, h1, h2⟩ := TpAll.get (i := i) t (by simpa using h)
    exact ⟨v, by simpa using h1, h2⟩
theorem TpAll.getV : ∀ {vs : List V} {ds : List PyData} {i : Nat} {v : V}, TpAll K H vs ds → vs[i]? = some v → ∃ d, ds[i]? = some d ∧ Tp K H v d
  | _, _, _, _, .nil, h => by simp at h
  | _, _, 0, _, .cons a _, h => by simp at h; subst h; exact ⟨_, rfl, a⟩
  | _, _, i + 1, _, .cons _ t, h => by
    obtain ⟨v, h1, h2⟩ := TpAll.getV (i := i) t (by simpa using h)
    exact ⟨v, by simpa using h1, h2⟩
theorem TpAll.app : ∀ {vs ws : List V} {ds es : List PyData}, TpAll K H vs ds → TpAll K H ws es → TpAll K H (vs ++ ws) (ds ++ es)
  | _, _, _, _, .nil, h => h
  | _, _, _, _, .cons a t, h => .cons a (TpAll.app t h)
theorem TpAll.snoc {vs : List V} {ds : List PyData} {v : V} {d : PyData} (h : TpAll K H vs ds) (t : Tp K H v d) : TpAll K H (vs ++ [v]) (ds ++ [d]) := h.app (.cons t .nil)
theorem TpAll.take : ∀ {vs : List V} {ds : List PyData} (n : Nat), TpAll K H vs ds → TpAll K H (vs.take n) (ds.take n)
  | _, _, _, .nil => by simp; exact .nil
  | _, _, 0, .cons _ _ => .nil
  | _, _, n + 1, .cons a t => .cons a (TpAll.take n t)
theorem TpAll.drop : ∀ {vs : List V} {ds : List PyData} (n : Nat), TpAll K H vs ds → TpAll K H (vs.drop n) (ds.drop n)
  | _, _, _, .nil => by simp; exact .nil
  | _, _, 0, .cons a t => .cons a t
  | _, _, n + 1, .cons _ t => TpAll.drop n t
theorem TpAll.ints : ∀ ns : List Int, TpAll K H (ns.map V.int) (ns.map PyData.int)
  | [] => .nil
  | n :: ns => .cons (.int n) (TpAll.ints ns)
theorem TpAll.ints_inv : ∀ {vs : List V} {ns : List Int}, TpAll K H vs (ns.map PyData.int) → vs = ns.map V.int
  | _, [], h => by cases h; rfl
  | _, n :: ns, h => by
    cases h with
    | cons a t => cases a; rw [TpAll.ints_inv t]; rfl
theorem Tp.inv {v : V} {ds : List PyData} (h : Tp K H v (.tuple ds)) : ∃ a xs, v = .ref a ∧ SqT K H a xs ∧ TpAll K H xs ds := by
  cases h with
  | tup hs ha => exact ⟨_, _, rfl, hs, ha⟩
theorem Tp.invI {v : V} {ns : List Int} (h : Tp K H v (.tuple (ns.map PyData.int))) : ∃ a, v = .ref a ∧ SqT K H a (ns.map V.int) := by
  obtain ⟨a, xs, rfl, hs, ha⟩ := h.inv
  rw [TpAll.ints_inv ha] at hs
  exact ⟨a, rfl, hs⟩
theorem Tp.intsT {a : Addr} {ns : List Int} (h : SqT K H a (ns.map V.int)) : Tp K H (.ref a) (.tuple (ns.map PyData.int)) := .tup h (TpAll.ints ns)
theorem Tp.int_inv {v : V} {n : Int} (h : Tp K H v (.int n)) : v = .int n := by cases h; rfl
theorem Tp.str_inv {v : V} {n : Str} (h : Tp K H v (.str n)) : v = .str n := by cases h; rfl
/-- t[i] of such a tuple -/
theorem r_ixTp {v : V} {ds : List PyData} {i : Nat} {d : PyData} (h : Tp K H v (.tuple ds)) (hd : ds[i]? = some d) (k : ∀ u, Tp K H u d → Q u H) : rIxT K v (.int (i : Int)) H Q := by
  obtain ⟨a, xs, rfl, hs, ha⟩ := h.inv
  obtain ⟨u, hu, t⟩ := ha.get hd
  exact r_ixT hs (atI_nat hu) (k u t)
theorem r_ixTpI {v : V} {ds : List PyData} {i : Nat} {n : Int} (h : Tp K H v (.tuple ds)) (hd : ds[i]? = some (.int n)) (q : Q (.int n) H) : rIxT K v (.int (i : Int)) H Q := r_ixTp h hd fun u t => by cases t; exact q
/-- a value of such data that a call hands back -/
def RetD (K : PySem.W.Frag) (H : Hp) (Q : VK) (d : PyData) : Prop := ∀ H' v, Same H H' → Tp K H' v d → Q v H'
theorem r_retD {v : PyData} (o : Own H0 H L) (k : ∀ u H', Same H H' → Own H0 H' L → Tp K H' u v → Q u H') : RetD K H Q v := fun H' u e t => k u H' e (o.mono e) t
theorem RetD.mk {v : V} {d : PyData} (q : RetD K H0 Q d) (o : Own H0 H L) (t : Tp K H v d) : Q v H := q H v o.ex t
/-! the rules that tell that tuples stand -/
theorem r_newLs {xs : List V} (o : Own H0 H L) (hz : xs.length ≤ 10000000) (k : ∀ p H', Stp H H' → Own H0 H' ((p, .lst xs) :: L) → Q (.ref p) H') : RNewL xs H Q := ⟨sz100 hz, fun p hp => k p _ (.of (same_new hp)) (o.new hp)⟩
theorem r_newTs {xs : List V} (o : Own H0 H L) (hz : xs.length ≤ 10000000) (k : ∀ p H', Stp H H' → Own H0 H' L → SqT K H' p xs → Q (.ref p) H') : RNewT xs H Q := ⟨sz100 hz, fun p hp => k p _ (.of (same_new hp)) (o.mono (same_new hp)) (SqT.of upd_same)⟩
theorem r_newTi {xs : List V} (ns : List Int) (e : xs = ns.map V.int) (o : Own H0 H L) (hz : ns.length ≤ 10000000) (k : ∀ p H', Stp H H' → Own H0 H' L → SqT K H' p (ns.map V.int) → Q (.ref p) H') : RNewT xs H Q := by
  subst e
  exact r_newTs o (by rw [List.length_map]; exact hz) k
theorem r_newTp {xs : List V} {ds : List PyData} (o : Own H0 H L) (ha : TpAll K H xs ds) (hz : xs.length ≤ 10000000) (k : ∀ p H', Stp H H' → Own H0 H' L → Tp K H' (.ref p) (.tuple ds) → Q (.ref p) H') : RNewT xs H Q :=
  r_newTs o hz fun p H' s o' h => k p H' s o' (.tup h (ha.up s))
theorem r_apps {l : Addr} {xs : List V} {y : V} (o : Own H0 H L) (n : Nat) (h : L[n]? = some (l, .lst xs)) (hz : xs.length < 10000000) (k : ∀ H', Stp H H' → Own H0 H' (L.set n (l, .lst (xs ++ [y]))) → Q .non H') : rAppend (.ref l) [y] H Q :=
  ⟨l, xs, y, rfl, rfl, o.at n h, sz_lt hz, k _ (Stp.set (o.at n h)) (o.set n h)⟩
theorem r_setLs {l : Addr} {xs : List V} {k : Nat} {i : Int} {v : V} {R : Hp → Prop} (o : Own H0 H L) (n : Nat) (h : L[n]? = some (l, .lst xs)) (hj : ixN xs.length i = some k) (q : ∀ H', Stp H H' → Own H0 H' (L.set n (l, .lst (xs.set k v))) → R H') : rSetL (.ref l) (.int i) v H R :=
  ⟨l, xs, i, k, rfl, rfl, o.at n h, hj, q _ (Stp.set (o.at n h)) (o.set n h)⟩
theorem r_tupLs {p : Addr} {xs : List V} (o : Own H0 H L) (h : SqL K H p xs) (k : ∀ l H', Stp H H' → Own H0 H' L → SqT K H' l xs → Q (.ref l) H') : rTupS K [.ref p] H Q :=
  ⟨p, xs, rfl, .inl ⟨h, fun l hl => k l _ (.of (same_new hl)) (o.mono (same_new hl)) (SqT.of upd_same)⟩⟩
theorem r_ret1s {u : HO} (o : Own H0 H L) (k : ∀ p H', Stp H H' → Own H0 H' ((p, u) :: L) → Q (.ref p) H') : RetO H Q u := fun H' p e f h => k p H' (.of e) (o.add e f h)
theorem r_slLs {a : Addr} {xs : List V} {lo hi : Option Int} (o : Own H0 H L) (h : SqL K H a xs) (k : ∀ p H', Stp H H' → Own H0 H' ((p, .lst (cutV xs lo hi)) :: L) → Q (.ref p) H') : rSlL K (.ref a) lo hi H Q := ⟨a, xs, rfl, h, fun p hp => k p _ (.of (same_new hp)) (o.new hp)⟩
theorem r_cats {a b : Addr} {xs ys : List V} (o : Own H0 H L) (ha : H a = some (.lst xs)) (hb : H b = some (.lst ys)) (hz : xs.length + ys.length ≤ 10000000) (k : ∀ p H', Stp H H' → Own H0 H' ((p, .lst (xs ++ ys)) :: L) → Q (.ref p) H') : rCat (.ref a) (.ref b) H Q :=
  ⟨a, b, xs, ys, rfl, rfl, ha, hb, sz100 hz, fun p hp => k p _ (.of (same_new hp)) (o.new hp)⟩
theorem r_lists {p : Addr} {xs : List V} (o : Own H0 H L) (h : SqL K H p xs) (k : ∀ l H', Stp H H' → Own H0 H' ((l, .lst xs) :: L) → Q (.ref l) H') : Evl.rListS K [.ref p] H Q := ⟨p, xs, rfl, .inl h, fun l hl => k l _ (.of (same_new hl)) (o.new hl)⟩
theorem r_listTs {p : Addr} {xs : List V} (o : Own H0 H L) (h : SqT K H p xs) (k : ∀ l H', Stp H H' → Own H0 H' ((l, .lst xs) :: L) → Q (.ref l) H') : Evl.rListS K [.ref p] H Q := ⟨p, xs, rfl, .inr h, fun l hl => k l _ (.of (same_new hl)) (o.new hl)⟩
theorem r_eqTp {v u : V} {d e : PyData} (h : Tp K H v d) (h2 : Tp K H u e) (s1 : SeqAt.shaped d = true) (s2 : SeqAt.shaped e = true) (q : Q (.bl (PyData.eqv d e)) H) : rEqD K v u H Q := ⟨d, e, h.dp, h2.dp, s1, s2, q⟩
end

theorem ty_sqT {K : PySem.W.Frag} {H : Hp} {a : Addr} {xs : List V} (h : SqT K H a xs) : TyX K H (.ref a) (.type "tuple") := by
  rcases h with (h | ⟨o, h⟩) | ⟨o, its, n, h1, h2, _⟩
  · exact .base (.tup h)
  · exact .fTuple h
  · exact .kTuple h1 h2
theorem ty_sqL {K : PySem.W.Frag} {H : Hp} {a : Addr} {xs : List V} (h : SqL K H a xs) : TyX K H (.ref a) (.type "list") := by
  rcases h with (h | ⟨o, h⟩) | ⟨o, its, n, h1, h2, _⟩
  · exact .base (.lst h)
  · exact .base (.frz h)
  · exact .kList h1 h2
/-! ### zip -/
section
variable {σ : L2.St} {H : Hp} {K : PySem.W.Frag} {tr : TA} {D : Ends} {ts : TS} {g : TG}
def RZipA (K : PySem.W.Frag) (vs : List V) (H1 : Hp) (R : It → Hp → Prop) : Prop := ∃ a b xs ys, vs = [.ref a, .ref b] ∧ ((SqL K H1 a xs ∧ SqL K H1 b ys ∧ R (Itz K a b) H1) ∨ (SqT K H1 a xs ∧ SqT K H1 b ys ∧ R (RZ.ItzT K a b) H1))
theorem r_zipA {R : It → Hp → Prop} (q : tr σ H fun vs H1 => RZipA K vs H1 R) : RZ.iZipA K tr σ H R := q
theorem forZT {a b : Addr} {xs ys : List V} (ha : SqT K H a xs) (hb : SqT K H b ys) (hl : xs.length = ys.length) (Pv : Nat → L2.St → Hp → Prop) (h0 : Pv 0 σ H) (hq : ∀ i σ H, Pv i σ H → SqT K H a xs ∧ SqT K H b ys)
    (hs : ∀ (i : Nat) (x y : V) (T : Addr) (σ : L2.St) (H : Hp), xs[i]? = some x → ys[i]? = some y → Pv i σ H → H T = none → g (.ref T) σ (upd H T (.tup [x, y])) fun σ2 H2 => ts { D with nx := Pv (i + 1), ct := Pv (i + 1), bk := D.nx } σ2 H2) (hd : ∀ σ H, Pv xs.length σ H → D.nx σ H) :
    RZipA K [.ref a, .ref b] H fun J H1 => RFor J g ts D σ H1 := ⟨a, b, xs, ys, rfl, .inr ⟨ha, hb, RZ.for_zipT hl Pv h0 hq hs hd⟩⟩
theorem forZL {a b : Addr} {xs ys : List V} (ha : SqL K H a xs) (hb : SqL K H b ys) (hl : xs.length = ys.length) (Pv : Nat → L2.St → Hp → Prop) (h0 : Pv 0 σ H) (hq : ∀ i σ H, Pv i σ H → SqL K H a xs ∧ SqL K H b ys)
    (hs : ∀ (i : Nat) (x y : V) (T : Addr) (σ : L2.St) (H : Hp), xs[i]? = some x → ys[i]? = some y → Pv i σ H → H T = none → g (.ref T) σ (upd H T (.tup [x, y])) fun σ2 H2 => ts { D with nx := Pv (i + 1), ct := Pv (i + 1), bk := D.nx } σ2 H2) (hd : ∀ σ H, Pv xs.length σ H → D.nx σ H) :
    RZipA K [.ref a, .ref b] H fun J H1 => RFor J g ts D σ H1 := ⟨a, b, xs, ys, rfl, .inl ⟨ha, hb, RZ.for_zipL hl Pv h0 hq hs hd⟩⟩
/-- x, y = t: the target of a walk over pairs -/
theorem r_gTup2 {a : Addr} {x y : V} {i j : Nat} {R : L2.St → Hp → Prop} (h : SqT K H a [x, y]) (q : R ((σ.set i (some x)).set j (some y)) H) : gTup K 2 (gCons (gName i) (gCons (gName j) gNil)) (.ref a) σ H R :=
  ⟨a, [x, y], rfl, h, rfl, x, [y], rfl, y, [], rfl, rfl, q⟩
theorem r_gTup3 {a : Addr} {x y z : V} {i j k : Nat} {R : L2.St → Hp → Prop} (h : SqT K H a [x, y, z]) (q : R (((σ.set i (some x)).set j (some y)).set k (some z)) H) : gTup K 3 (gCons (gName i) (gCons (gName j) (gCons (gName k) gNil))) (.ref a) σ H R :=
  ⟨a, [x, y, z], rfl, h, rfl, x, [y, z], rfl, y, [z], rfl, z, [], rfl, rfl, q⟩
def rMax2 : List V → Hp → VK → Prop := fun xs H Q => ∃ i j, xs = [.int i, .int j] ∧ Q (.int (if j > i then j else i)) H
def rMin2 : List V → Hp → VK → Prop := fun xs H Q => ∃ i j, xs = [.int i, .int j] ∧ Q (.int (if j < i then j else i)) H
theorem r_max2 {i j : Int} {Q : VK} (q : Q (.int (if j > i then j else i)) H) : rMax2 [.int i, .int j] H Q := ⟨i, j, rfl, q⟩
theorem r_min2 {i j : Int} {Q : VK} (q : Q (.int (if j < i then j else i)) H) : rMin2 [.int i, .int j] H Q := ⟨i, j, rfl, q⟩
def rIsNon : R2 := fun x y H Q => y = .non ∧ Q (.bl (decide (x = .non))) H
def rNotNon : R2 := fun x y H Q => y = .non ∧ Q (.bl (!decide (x = .non))) H
theorem r_isNonN {Q : VK} (q : Q (.bl true) H) : rIsNon .non .non H Q := ⟨rfl, by rw [decide_eq_true rfl]; exact q⟩
theorem r_isNonR {a : Addr} {Q : VK} (q : Q (.bl false) H) : rIsNon (.ref a) .non H Q := ⟨rfl, by rw [decide_eq_false (by simp)]; exact q⟩
theorem r_isNonI {a : Int} {Q : VK} (q : Q (.bl false) H) : rIsNon (.int a) .non H Q := ⟨rfl, by rw [decide_eq_false (by simp)]; exact q⟩
theorem r_notNonN {Q : VK} (q : Q (.bl false) H) : rNotNon .non .non H Q := ⟨rfl, by rw [decide_eq_true rfl]; exact q⟩
theorem r_notNonR {a : Addr} {Q : VK} (q : Q (.bl true) H) : rNotNon (.ref a) .non H Q := ⟨rfl, by rw [decide_eq_false (by simp)]; exact q⟩
theorem r_notNonI {a : Int} {Q : VK} (q : Q (.bl true) H) : rNotNon (.int a) .non H Q := ⟨rfl, by rw [decide_eq_false (by simp)]; exact q⟩
end

/-! ### texts -/
def rAddStr : R2 := fun x y H Q => ∃ i j, x = .str i ∧ y = .str j ∧ i.length + j.length ≤ sizeLine ∧ Q (.str (i ++ j)) H
def rIntS : List V → Hp → VK → Prop := fun xs H Q => ∃ a n, xs = [.str a] ∧ PySem.intText? a = some n ∧ a.length ≤ 640 ∧ Q (.int n) H
def rLenStr : List V → Hp → VK → Prop := fun xs H Q => ∃ z, xs = [.str z] ∧ z.length ≤ sizeLine ∧ Q (.int z.length) H
section
variable {σ : L2.St} {H H0 : Hp} {Q : VK} {K : PySem.W.Frag} {L : List (Addr × HO)} {te : TE} {tt : TT}
theorem r_addS {a b : Str} (hz : a.length + b.length ≤ 10000000) (q : Q (.str (a ++ b)) H) : rAddStr (.str a) (.str b) H Q := ⟨a, b, rfl, rfl, sz100 hz, q⟩
theorem r_lenS {a : Str} (hz : a.length ≤ 10000000) (q : Q (.int a.length) H) : rLenStr [.str a] H Q := ⟨a, rfl, sz100 hz, q⟩
theorem r_slS {a : Str} {lo hi : Option Int} (hz : a.length ≤ 10000000) (q : Q (.str (cutS a lo hi)) H) : rSlS (.str a) lo hi H Q := ⟨a, rfl, sz100 hz, q⟩
theorem cutS_len (a : Str) (lo hi : Option Int) : (cutS a lo hi).length ≤ a.length := by
  unfold cutS
  show (List.toArray _).size ≤ a.cps.size
  rw [List.size_toArray, List.length_take, List.length_drop, Array.length_toList]
  omega
theorem addS_len (a b : Str) : (a ++ b).length = a.length + b.length := by
  show (a.cps ++ b.cps).size = a.cps.size + b.cps.size
  exact Array.size_append
theorem r_in {neg : Bool} {x : V} {p : Addr} {xs : List V} (h : SqL K H p xs ∨ SqT K H p xs) (hx : flatV x = true) (ha : xs.all flatV = true) (q : Q (.bl (if neg then !inV x xs else inV x xs)) H) : rIn K neg x (.ref p) H Q := ⟨p, xs, rfl, h, hx, ha, q⟩
theorem r_inY {x : V} {p : Addr} {xs : List V} (h : SqL K H p xs ∨ SqT K H p xs) (hx : flatV x = true) (ha : xs.all flatV = true) (q : Q (.bl (inV x xs)) H) : rIn K false x (.ref p) H Q := r_in h hx ha q
theorem r_inN {x : V} {p : Addr} {xs : List V} (h : SqL K H p xs ∨ SqT K H p xs) (hx : flatV x = true) (ha : xs.all flatV = true) (q : Q (.bl (!inV x xs)) H) : rIn K true x (.ref p) H Q := r_in h hx ha q
theorem r_ixS {p : Addr} {zs : List Str} {i : Int} (h : SqL K H p (zs.map V.str)) (h0 : 0 ≤ i) (h1 : i < zs.length) (q : ∀ z, z ∈ zs → zs[i.toNat]? = some z → Q (.str z) H) : rIxL K (.ref p) (.int i) H Q := by
  have h2 : i.toNat < zs.length := by omega
  have e := List.getElem?_eq_getElem h2
  exact r_ixL h (at_map h0 e) (q _ (List.getElem_mem h2) e)
theorem flat_strs (zs : List Str) : (zs.map V.str).all flatV = true := by
  rw [List.all_map, List.all_eq_true]
  intro _ _
  rfl
/-- [e for x in t], over a tuple, by the item -/
theorem lcTV {a : Addr} {xs : List V} {s : Nat} {vs : List Nat} (f : V → V) (o : Own H0 H L) (h : ∀ H' p zs, Own H0 H' ((p, .lst zs) :: L) → SqT K H' a xs) (h1 : SqT K H a xs) (hz : xs.length < 10000000) (hw : ∀ x, wipe ((wipe σ vs).set s (some x)) vs = wipe σ vs)
    (he : ∀ (i : Nat) (x : V) (q : Addr) (zs : List V) (H' : Hp) (Q : VK), xs[i]? = some x → Own H0 H' ((q, .lst zs) :: L) → Stp H H' → RetV H' Q (f x) → te ((wipe σ vs).set s (some x)) H' Q)
    (k : ∀ q H', Stp H H' → Own H0 H' ((q, .lst (xs.map f)) :: L) → Q (.ref q) H') :
    ∃ a', V.ref a = .ref a' ∧ (∃ xs, SqT K H a' xs) ∧ RLc (Itt K a') (gName s) tYes te vs σ H Q :=
  lcGT (fun v => some (f v)) o h h1 hz (fun i x p zs H' R hi o' s' r => r _ (fun _ _ => hw _) (fun Q q => q H' (Same.refl _)) fun y H2 hy s2 Q q => by
    cases hy
    exact he i x p zs H2 Q hi (o'.mono s2) (s'.trans (.of s2)) q) (fun q H' s' o' => k q H' s' (by rw [show (fun v => some (f v)) = some ∘ f from rfl, List.filterMap_eq_map] at o'; exact o'))
theorem lcLV {a : Addr} {xs : List V} {s : Nat} {vs : List Nat} (f : V → V) (o : Own H0 H L) (h : ∀ H' p zs, Own H0 H' ((p, .lst zs) :: L) → SqL K H' a xs) (h1 : SqL K H a xs) (hz : xs.length < 10000000) (hw : ∀ x, wipe ((wipe σ vs).set s (some x)) vs = wipe σ vs)
    (he : ∀ (i : Nat) (x : V) (q : Addr) (zs : List V) (H' : Hp) (Q : VK), xs[i]? = some x → Own H0 H' ((q, .lst zs) :: L) → Stp H H' → RetV H' Q (f x) → te ((wipe σ vs).set s (some x)) H' Q)
    (k : ∀ q H', Stp H H' → Own H0 H' ((q, .lst (xs.map f)) :: L) → Q (.ref q) H') :
    ∃ a', V.ref a = .ref a' ∧ (∃ xs, SqL K H a' xs) ∧ RLc (Itl K a') (gName s) tYes te vs σ H Q :=
  lcGL (fun v => some (f v)) o h h1 hz (fun i x p zs H' R hi o' s' r => r _ (fun _ _ => hw _) (fun Q q => q H' (Same.refl _)) fun y H2 hy s2 Q q => by
    cases hy
    exact he i x p zs H2 Q hi (o'.mono s2) (s'.trans (.of s2)) q) (fun q H' s' o' => k q H' s' (by rw [show (fun v => some (f v)) = some ∘ f from rfl, List.filterMap_eq_map] at o'; exact o'))
/-- .. with a test, over a list -/
theorem lcLVF {a : Addr} {xs : List V} {s : Nat} {vs : List Nat} (sel : V → Option V) (o : Own H0 H L) (h : ∀ H' p zs, Own H0 H' ((p, .lst zs) :: L) → SqL K H' a xs) (h1 : SqL K H a xs) (hz : xs.length < 10000000) (hw : ∀ x, wipe ((wipe σ vs).set s (some x)) vs = wipe σ vs)
    (ht : ∀ (i : Nat) (x : V) (q : Addr) (zs : List V) (H' : Hp) (Q : Bool → Hp → Prop), xs[i]? = some x → Own H0 H' ((q, .lst zs) :: L) → Stp H H' → (∀ H2, Same H' H2 → Q (sel x).isSome H2) → tt ((wipe σ vs).set s (some x)) H' Q)
    (he : ∀ (i : Nat) (x y : V) (q : Addr) (zs : List V) (H' : Hp) (Q : VK), xs[i]? = some x → sel x = some y → Own H0 H' ((q, .lst zs) :: L) → Stp H H' → RetV H' Q y → te ((wipe σ vs).set s (some x)) H' Q)
    (k : ∀ q H', Stp H H' → Own H0 H' ((q, .lst (xs.filterMap sel)) :: L) → Q (.ref q) H') :
    ∃ a', V.ref a = .ref a' ∧ (∃ xs, SqL K H a' xs) ∧ RLc (Itl K a') (gName s) tt te vs σ H Q :=
  lcGL sel o h h1 hz (fun i x p zs H' R hi o' s' r => r _ (fun _ _ => hw _) (fun Q q => ht i x p zs H' Q hi o' s' q) fun y H2 hy s2 Q q => he i x y p zs H2 Q hi hy (o'.mono s2) (s'.trans (.of s2)) q) k
end
/-- a written tuple of the module -/
theorem sqT_top {K : PySem.W.Frag} {p : Addr} {od : Option Addr} {its : Array Value} {n : Nat} {sl : Array (Option Value)} {xs : List V} (l : K.lookup p = some ⟨.type "tuple", od, .seq its n, sl⟩) (hz : its.size ≤ sizeLine) (hv : Vals xs its.toList) : ∀ H : Hp, SqT K H p xs :=
  fun _ => .inr ⟨_, its, n, l, rfl, rfl, hz, hv⟩

/-! ### [e for p in range(n) for q in range(lo, hi, c)] -/
def RLc2 (J : It) (g : TG) (tt : TT) (wi1 : TI) (g1 : TG) (tt1 : TT) (te : TE) (vs vs1 : List Nat) (σ : L2.St) (H1 : Hp) (Q : VK) : Prop := ∀ D, H1 D = none → ∃ W : Nat → Nat → Hp → Prop, (∃ m, W 0 m (upd H1 D (.lst []))) ∧ ∀ i m H, W i m H →
  (J.stop i H ∧ Q (.ref D) H) ∨ (J.go i H ∧ ∃ Nx : Hp → Prop, (∀ H', Nx H' → ∃ m', m' < m ∧ W (i + 1) m' H') ∧ ∀ x H', J.yld i H x H' → g x (wipe σ vs) H' fun σ2 H2 => wipe σ2 vs = wipe σ vs ∧ tt σ2 H2 fun b H3 =>
    if b = true then wi1 σ2 H3 fun J1 H4 => ∃ W1 : Nat → Nat → Hp → Prop, (∃ m, W1 0 m H4) ∧ ∀ j k H, W1 j k H →
      (J1.stop j H ∧ Nx H) ∨ (J1.go j H ∧ ∃ Nx1 : Hp → Prop, (∀ H', Nx1 H' → ∃ k', k' < k ∧ W1 (j + 1) k' H') ∧ ∀ x H', J1.yld j H x H' → g1 x (wipe σ2 vs1) H' fun σ3 H5 => wipe σ3 vs1 = wipe σ2 vs1 ∧ tt1 σ3 H5 fun b H6 =>
        if b = true then te σ3 H6 fun y H7 => ∃ acc, H7 D = some (.lst acc) ∧ acc.length < sizeLine ∧ Nx1 (upd H7 D (.lst (acc ++ [y]))) else Nx1 H6)
    else Nx H3)
theorem r_lc2 {σ : L2.St} {H : Hp} {Q : VK} {wi wi1 : TI} {g g1 : TG} {tt tt1 : TT} {te : TE} {vs vs1 : List Nat} (q : wi σ H fun J H1 => RLc2 J g tt wi1 g1 tt1 te vs vs1 σ H1 Q) : tLc2 wi g tt wi1 g1 tt1 te vs vs1 σ H Q := q
theorem lc2R3 {σ : L2.St} {H H0 : Hp} {Q : VK} {L : List (Addr × HO)} {te : TE} {wi1 : TI} {j c : Int} {n s s1 : Nat} {vs vs1 : List Nat} (lo : Nat → Int) (m : Nat → Nat) (o : Own H0 H L) (hn : j = (n : Int)) (hz : n ≤ 10000000)
    (hzz : ((List.range n).flatMap fun p => (List.range (m p)).map fun (k : Nat) => V.int (lo p + (k : Int) * c)).length < 10000000)
    (hw : ∀ x, wipe ((wipe σ vs).set s (some x)) vs = wipe σ vs) (hw1 : ∀ x y, wipe ((wipe ((wipe σ vs).set s (some x)) vs1).set s1 (some y)) vs1 = wipe ((wipe σ vs).set s (some x)) vs1)
    (hin : ∀ (p : Nat) (H' : Hp) (R : It → Hp → Prop), p < n → R (Itc (lo p) c (m p)) H' → wi1 ((wipe σ vs).set s (some (.int (p : Int)))) H' R)
    (he : ∀ (x : V) (z : Int) (H' : Hp) (Q : VK), Q (.int z) H' → te ((wipe ((wipe σ vs).set s (some x)) vs1).set s1 (some (.int z))) H' Q)
    (k : ∀ p H', Own H0 H' ((p, .lst ((List.range n).flatMap fun p => (List.range (m p)).map fun (k : Nat) => V.int (lo p + (k : Int) * c))) :: L) → Q (.ref p) H') :
    ∃ k : Int, [V.int j] = [.int k] ∧ -(2 ^ 62) ≤ k ∧ k < 2 ^ 62 ∧ RLc2 (Itr 0 k.toNat) (gName s) tYes wi1 (gName s1) tYes te vs vs1 σ H Q := by
  have hout : ∀ i, i ≤ n → ((List.range i).flatMap fun p => (List.range (m p)).map fun (k : Nat) => V.int (lo p + (k : Int) * c)).length ≤ ((List.range n).flatMap fun p => (List.range (m p)).map fun (k : Nat) => V.int (lo p + (k : Int) * c)).length := fun i hi => by
    have e : List.range n = List.range i ++ (List.range (n - i)).map (i + ·) := by
      rw [← List.range_add]
      congr 1
      omega
    rw [e, List.flatMap_append, List.length_append]
    omega
  refine ⟨j, rfl, by omega, by omega, fun D hD => ?_⟩
  have e : j.toNat = n := by omega
  rw [e]
  refine ⟨fun i mm H' => mm = n - i ∧ i ≤ n ∧ Own H0 H' ((D, .lst ((List.range i).flatMap fun p => (List.range (m p)).map fun (k : Nat) => V.int (lo p + (k : Int) * c))) :: L), ⟨n, rfl, Nat.zero_le _, o.new hD⟩, ?_⟩
  rintro i mm H' ⟨rfl, hi, o'⟩
  by_cases hlt : i < n
  · refine .inr ⟨hlt, fun H2 => Own H0 H2 ((D, .lst ((List.range (i + 1)).flatMap fun p => (List.range (m p)).map fun (k : Nat) => V.int (lo p + (k : Int) * c))) :: L), fun H2 p2 => ⟨n - (i + 1), by omega, rfl, hlt, p2⟩, ?_⟩
    rintro x H2 ⟨rfl, rfl⟩
    have e0 : (0 : Int) + (i : Int) = (i : Int) := Int.zero_add _
    rw [e0]
    refine ⟨hw _, ?_⟩
    refine iteT (B := Own H0 H2 ((D, .lst ((List.range (i + 1)).flatMap fun p => (List.range (m p)).map fun (k : Nat) => V.int (lo p + (k : Int) * c))) :: L)) (hin i H2 _ hlt ?_)
    have hs : (List.range (i + 1)).flatMap (fun p => (List.range (m p)).map fun (k : Nat) => V.int (lo p + (k : Int) * c)) = (List.range i).flatMap (fun p => (List.range (m p)).map fun (k : Nat) => V.int (lo p + (k : Int) * c)) ++ (List.range (m i)).map fun (k : Nat) => V.int (lo i + (k : Int) * c) := by
      rw [List.range_succ, List.flatMap_append]
      simp
    rw [hs]
    have hl2 := hout (i + 1) hlt
    rw [hs, List.length_append, List.length_map, List.length_range] at hl2
    refine ⟨fun j2 k2 H3 => k2 = m i - j2 ∧ j2 ≤ m i ∧ Own H0 H3 ((D, .lst ((List.range i).flatMap (fun p => (List.range (m p)).map fun (k : Nat) => V.int (lo p + (k : Int) * c)) ++ (List.range j2).map fun (k : Nat) => V.int (lo i + (k : Int) * c))) :: L), ⟨m i, rfl, Nat.zero_le _, by rw [show ((List.range 0).map fun (k : Nat) => V.int (lo i + ((k : Nat) : Int) * c)) = [] from rfl, List.append_nil]; exact o'⟩, ?_⟩
    rintro j2 k2 H3 ⟨rfl, hj, o3⟩
    by_cases hlt2 : j2 < m i
    · refine .inr ⟨hlt2, fun H4 => Own H0 H4 ((D, .lst ((List.range i).flatMap (fun p => (List.range (m p)).map fun (k : Nat) => V.int (lo p + (k : Int) * c)) ++ (List.range (j2 + 1)).map fun (k : Nat) => V.int (lo i + (k : Int) * c))) :: L), fun H4 p4 => ⟨m i - (j2 + 1), by omega, rfl, hlt2, p4⟩, ?_⟩
      rintro x H4 ⟨rfl, rfl⟩
      refine ⟨hw1 _ _, ?_⟩
      refine iteT (B := Own H0 H4 ((D, .lst ((List.range i).flatMap (fun p => (List.range (m p)).map fun (k : Nat) => V.int (lo p + (k : Int) * c)) ++ (List.range (j2 + 1)).map fun (k : Nat) => V.int (lo i + (k : Int) * c))) :: L)) (he _ _ H4 _ ⟨_, o3.at 0 rfl, sz_lt ?_, ?_⟩)
      · rw [List.length_append, List.length_map, List.length_range]
        omega
      · have o5 := o3.set (v := .lst (((List.range i).flatMap (fun p => (List.range (m p)).map fun (k : Nat) => V.int (lo p + (k : Int) * c)) ++ (List.range j2).map fun (k : Nat) => V.int (lo i + (k : Int) * c)) ++ [V.int (lo i + (j2 : Int) * c)])) 0 rfl
        rw [List.range_succ, List.map_append, ← List.append_assoc]
        exact o5
    · refine .inl ⟨show m i ≤ j2 by omega, ?_⟩
      have ej : j2 = m i := by omega
      rw [ej] at o3
      exact o3
  · refine .inl ⟨show n ≤ i by omega, ?_⟩
    have ei : i = n := by omega
    rw [ei] at o'
    exact k D _ o'

theorem fm_some {α β : Type} (f : α → Option β) (g : α → β) : ∀ (l : List α), (∀ k ∈ l, f k = some (g k)) → l.filterMap f = l.map g
  | [], _ => rfl
  | x :: l, h => by
    rw [List.filterMap_cons, h x List.mem_cons_self, List.map_cons, fm_some f g l fun k hk => h k (List.mem_cons_of_mem _ hk)]
/-! ### xs[lo:hi:c] -/
def stpV (xs : List V) (lo hi : Option Int) (c : Int) : List V := (sliceRange (sliceBounds lo hi (some c) xs.length).1 (sliceBounds lo hi (some c) xs.length).2.1 (sliceBounds lo hi (some c) xs.length).2.2).filterMap (xs[·]?)
theorem vals_pick {xs : List V} {us : List Value} (r : Vals xs us) : ∀ is : List Nat, Vals (is.filterMap (xs[·]?)) (is.filterMap (us[·]?))
  | [] => .nil
  | i :: is => by
    rw [List.filterMap_cons, List.filterMap_cons]
    cases h : xs[i]? with
    | none =>
      rw [r.none_of h]
      exact vals_pick r is
    | some x =>
      obtain ⟨u, hu, ru⟩ := r.get h
      rw [hu]
      exact .cons ru (vals_pick r is)
def tSl3 (K : PySem.W.Frag) (te : TE) (tl th ts : TO) : TE := fun σ H Q => te σ H fun x H1 => tl σ H1 fun l H2 => th σ H2 fun u H3 => ts σ H3 fun c H4 => ∃ a xs i, x = .ref a ∧ c = some i ∧ i ≠ 0 ∧ SqL K H4 a xs ∧ (stpV xs l u i).length ≤ sizeLine ∧ ∀ p, H4 p = none → Q (.ref p) (upd H4 p (.lst (stpV xs l u i)))
theorem pe_sl3 {X : Cx} {e : Expr} {lo hi : Option Expr} {st : Expr} {te : TE} {tl th ts : TO} {p2 pos : Pos} (he : PE X e te) (hl : PO X lo tl) (hu : PO X hi th) (hst : PO X (some st) ts) : PE X (.Subscript e (.Slice lo hi (some st) p2) pos) (tSl3 X.K te tl th ts) := by
  refine ⟨fun pins s σ H Q I h => ?_⟩
  refine Subscript_ (thn (he.run pins s σ H _ I h) fun v s1 ⟨x, H1, I1, r1, q1⟩ => ?_)
  refine wpAny_Slice (thn (hl.run pins s1 σ H1 _ I1 q1) fun vl s2 ⟨l, H2, I2, pl, q2⟩ => ?_)
  refine thn (hu.run pins s2 σ H2 _ I2 q2) fun vu s3 ⟨u, H3, I3, pu, q3⟩ => ?_
  refine thn (hst.run pins s3 σ H3 _ I3 q3) fun vs s4 ⟨c, H4, I4, ps, q4⟩ => ?_
  obtain ⟨a, xs, i, ex, ec, h0, hx, hzz, q⟩ := q4
  subst ex
  subst ec
  cases r1
  have I5 : Inv X pins σ H4 { s4 with heap := s4.heap.push { cls := .type "slice", data := .fields #[vl, vu, vs] } } := I4.kept (t' := s4.toks) fun b ob q => Heap.get?_push_of_some _ q
  obtain ⟨its, r, ht, hz⟩ := I5.list hx
  have hlen := r.length
  show wpAny (model X.prog X.w) X.A (subscriptTail e (.Slice lo hi (some st) p2) (.ref a) (.ref s4.heap.objs.size)) (EP X pins σ Q) X.xe { s4 with heap := s4.heap.push { cls := .type "slice", data := .fields #[vl, vu, vs] } }
  refine tail_any (ops := [.ref a, .ref s4.heap.objs.size]) ht.isList.typeIs (PySem.slot_list_getitem.lookup) ?_ (by with_unfolding_all rfl)
  refine wpAny_getItem_list_slice ht.isList (Heap.IsSliceOf.new _ vl vu vs) pl pu ps (fun z => h0 (Option.some.inj z)) ?_ (by rw [List.size_toArray]; omega)
  have ep : slicePick its.toArray l u (some i) = ((sliceRange (sliceBounds l u (some i) xs.length).1 (sliceBounds l u (some i) xs.length).2.1 (sliceBounds l u (some i) xs.length).2.2).filterMap (its[·]?)).toArray := by
    unfold slicePick
    rw [List.size_toArray, ← hlen]
    simp only [List.getElem?_toArray]
  rw [ep]
  refine ⟨.ref _, _, I5.laid (t' := s4.toks) (o := .lst (stpV xs l u i)) (fun b ob q => Heap.get?_push_of_some _ q) (Nat.le_refl _) ?_, rfl, q _ (I5.hok.fresh (Nat.le_refl _))⟩
  exact ⟨hzz, _, 0, vals_pick r _, Heap.get?_push_size _ rfl⟩
def RSl3 (K : PySem.W.Frag) (x : V) (l u c : Option Int) (H : Hp) (Q : VK) : Prop := ∃ a xs i, x = .ref a ∧ c = some i ∧ i ≠ 0 ∧ SqL K H a xs ∧ (stpV xs l u i).length ≤ sizeLine ∧ ∀ p, H p = none → Q (.ref p) (upd H p (.lst (stpV xs l u i)))
theorem r_sl3 {K : PySem.W.Frag} {σ : L2.St} {H : Hp} {Q : VK} {te : TE} {tl th ts : TO} (q : te σ H fun x H1 => tl σ H1 fun l H2 => th σ H2 fun u H3 => ts σ H3 fun c H4 => RSl3 K x l u c H4 Q) : tSl3 K te tl th ts σ H Q := q
theorem r_slc {K : PySem.W.Frag} {H H0 : Hp} {Q : VK} {L : List (Addr × HO)} {a : Addr} {xs : List V} {l u : Option Int} {i : Int} (o : Own H0 H L) (h : SqL K H a xs) (h0 : i ≠ 0) (hz : (stpV xs l u i).length ≤ 10000000) (k : ∀ p H', Stp H H' → Own H0 H' ((p, .lst (stpV xs l u i)) :: L) → Q (.ref p) H') : RSl3 K (.ref a) l u (some i) H Q :=
  ⟨a, xs, i, rfl, rfl, h0, h, sz100 hz, fun p hp => k p _ (.of (same_new hp)) (o.new hp)⟩
theorem flat_rep {α : Type} : ∀ (n : Nat) (x : α), (List.replicate n [x]).flatten = List.replicate n x
  | 0, _ => rfl
  | n + 1, x => by rw [List.replicate_succ, List.flatten_cons, flat_rep n x]; rfl
/-- a list times an int -/
theorem r_rep {H H0 : Hp} {Q : VK} {L : List (Addr × HO)} {a : Addr} {x : V} {i : Int} {n : Nat} (o : Own H0 H L) (ha : H a = some (.lst [x])) (hi : i.toNat = n) (hk : -(2 ^ 63) ≤ i ∧ i < 2 ^ 63) (hz : n ≤ 10000000) (k : ∀ p H', Stp H H' → Own H0 H' ((p, .lst (List.replicate n x)) :: L) → Q (.ref p) H') : rRep (.ref a) (.int i) H Q := by
  refine ⟨a, i, [x], rfl, rfl, ha, hk.1, hk.2, sz100 (by rw [hi]; simp; exact hz), fun p hp => ?_⟩
  have e : (List.replicate i.toNat [x]).flatten = List.replicate n x := by
    rw [hi]
    exact flat_rep n x
  rw [e]
  exact k p _ (.of (same_new hp)) (o.new hp)

/-! ### defs -/
/-- the def x of the text stands at its name -/
structure FunAt (K : PySem.W.Frag) (mg : Str → Option Value) (x : Str) (st : Stmt) (ps : List Str) : Prop where
  ex : ∃ f fd, Fun K x x st f fd ∧ mg x = some (.ref f) ∧ Binds K fd ps []
/-- .. and keeps a promise -/
structure Def (P : Program) (w : World) (K : PySem.W.Frag) (mg : Str → Option Value) (base : Heap) (CX : CXT) (k : Nat) (x : Str) (ps : List Str) (sp : Sp) : Prop where
  ex : ∃ f fd, FnOk P w K mg base CX k f fd ps sp ∧ mg x = some (.ref f) ∧ PySem.W.keepIn K (.ref f) = true ∧ Binds K fd ps []
section
variable {P : Program} {w : World} {K : PySem.W.Frag} {mg : Str → Option Value} {base : Heap}
theorem FunAt.ok {x : Str} {st : Stmt} {N ps : List Str} {k : Nat} {sp : Sp} (F : FunAt K mg x st ps) (S : FnScope N ps (defScope st)) (len : ∀ vs H Q E, sp vs H Q E → vs.length = ps.length)
    (hbody : ∀ (f : Addr) (cdv : Value) (A : Around) (outer : List Env) (s : Shared) (H : Hp) (vs : List V) (Q : VK) (E : XK), Room k (A.deeper (envOfC x (defScope st) s.heap.objs.size f cdv)) → sp vs H Q E →
      ∃ t, PSs (cxOf CX0 P w K mg base N x (defScope st) f cdv A outer s H E).nox (defBody st) t ∧ t { nx := fun _ H' => Q .non H', rt := Q } (start N vs) H) : Def P w K mg base CX0 (k + 1) x ps sp := by
  obtain ⟨f, fd, F, hm, hb⟩ := F.ex
  exact ⟨f, fd, F.ok S len (hbody f), hm, F.kp, hb⟩
theorem Def.imp {CX : CXT} {k : Nat} {x : Str} {ps : List Str} {sp sp' : Sp} (F : Def P w K mg base CX k x ps sp) (h : ∀ vs H Q E, sp' vs H Q E → sp vs H Q E) : Def P w K mg base CX k x ps sp' := by
  obtain ⟨f, fd, F, r⟩ := F.ex
  exact ⟨f, fd, F.imp h, r⟩
theorem Def.mono {CX : CXT} {k j : Nat} {x : Str} {ps : List Str} {sp : Sp} (F : Def P w K mg base CX k x ps sp) (h : k ≤ j) : Def P w K mg base CX j x ps sp := by
  obtain ⟨f, fd, F, r⟩ := F.ex
  exact ⟨f, fd, F.mono h, r⟩
end
theorem pe_callD {X : Cx} {k : Nat} {ps : List Str} {sp : Sp} {x : Str} {p pos : Pos} {e : Expr} {es : List Expr} {t : TA} (G : Def X.prog X.w X.K X.mg X.base CX0 k x ps sp) (hr : Room k X.A) (ha : PA X (e :: es) t) (hg : Gl X x := by rfl)
    (hdb : (x == ("__debug__" : Str)) = false := by decide) (he : starEach (e :: es) X.env = (false, eval e X.env) :: starEach es X.env := by rfl) (hpl : (backTo pos (starEach es X.env)).any (·.1) = false := by rfl) : PE X (.Call (.Name x p) (e :: es) [] pos) (tCall sp [] E0 t) := by
  obtain ⟨f, fd, F, hm, hk, hb⟩ := G.ex
  exact pe_call F hr hg hm hk hb .nil pass0 ha hdb he hpl
/-! ### own classes -/
structure MethAt (K : PySem.W.Frag) (C : Addr) (m qn : Str) (st : Stmt) (ps : List Str) : Prop where
  ex : ∃ f fd, Fun K m qn st f fd ∧ Meth K C m f ∧ Binds K fd ps []
structure MkAt (K : PySem.W.Frag) (C : Addr) (qn : Str) (st : Stmt) (ps : List Str) : Prop where
  ex : ∃ f fd, Fun K "__init__" qn st f fd ∧ Mk K C f ∧ Binds K fd ps []
structure MDef (P : Program) (w : World) (K : PySem.W.Frag) (mg : Str → Option Value) (base : Heap) (CX : CXT) (k : Nat) (C : Addr) (m : Str) (ps : List Str) (sp : Sp) : Prop where
  ex : ∃ f fd, FnOk P w K mg base CX k f fd ps sp ∧ Meth K C m f ∧ Binds K fd ps []
structure KDef (P : Program) (w : World) (K : PySem.W.Frag) (mg : Str → Option Value) (base : Heap) (CX : CXT) (k : Nat) (C : Addr) (ps : List Str) (sp : Sp) : Prop where
  ex : ∃ f fd, FnOk P w K mg base CX k f fd ps sp ∧ Mk K C f ∧ Binds K fd ps []
section
variable {P : Program} {w : World} {K : PySem.W.Frag} {mg : Str → Option Value} {base : Heap}
theorem MethAt.ok {C : Addr} {m qn : Str} {st : Stmt} {N ps : List Str} {k : Nat} {sp : Sp} (F : MethAt K C m qn st ps) (S : FnScope N ps (defScope st)) (len : ∀ vs H Q E, sp vs H Q E → vs.length = ps.length)
    (hbody : ∀ (f : Addr) (cdv : Value) (A : Around) (outer : List Env) (s : Shared) (H : Hp) (vs : List V) (Q : VK) (E : XK), Room k (A.deeper (envOfC qn (defScope st) s.heap.objs.size f cdv)) → sp vs H Q E →
      ∃ t, PSs (cxOf CX0 P w K mg base N qn (defScope st) f cdv A outer s H E).nox (defBody st) t ∧ t { nx := fun _ H' => Q .non H', rt := Q } (start N vs) H) : MDef P w K mg base CX0 (k + 1) C m ps sp := by
  obtain ⟨f, fd, F, hm, hb⟩ := F.ex
  exact ⟨f, fd, F.ok S len (hbody f), hm, hb⟩
theorem MkAt.ok {C : Addr} {qn : Str} {st : Stmt} {N ps : List Str} {k : Nat} {sp : Sp} (F : MkAt K C qn st ps) (S : FnScope N ps (defScope st)) (len : ∀ vs H Q E, sp vs H Q E → vs.length = ps.length)
    (hbody : ∀ (f : Addr) (cdv : Value) (A : Around) (outer : List Env) (s : Shared) (H : Hp) (vs : List V) (Q : VK) (E : XK), Room k (A.deeper (envOfC qn (defScope st) s.heap.objs.size f cdv)) → sp vs H Q E →
      ∃ t, PSs (cxOf CX0 P w K mg base N qn (defScope st) f cdv A outer s H E).nox (defBody st) t ∧ t { nx := fun _ H' => Q .non H', rt := Q } (start N vs) H) : KDef P w K mg base CX0 (k + 1) C ps sp := by
  obtain ⟨f, fd, F, hm, hb⟩ := F.ex
  exact ⟨f, fd, F.ok S len (hbody f), hm, hb⟩
end
theorem pe_makeD {X : Cx} {k : Nat} {ps : List Str} {sp : Sp} {C : Addr} {x : Str} {p pos : Pos} {e : Expr} {es : List Expr} {t : TA} (G : KDef X.prog X.w X.K X.mg X.base CX0 k C ps sp) (hm : X.mg x = some (.ref C)) (hr : Room (k + 1) X.A) (ha : PA X (e :: es) t) (hg : Gl X x := by rfl)
    (hdb : (x == ("__debug__" : Str)) = false := by decide) (he : starEach (e :: es) X.env = (false, eval e X.env) :: starEach es X.env := by rfl) (hpl : (backTo pos (starEach es X.env)).any (·.1) = false := by rfl) : PE X (.Call (.Name x p) (e :: es) [] pos) (tMake C sp [] E0 t) := by
  obtain ⟨f, fd, F, M, hb⟩ := G.ex
  exact pe_make M F hr hg hm hb .nil pass0 ha hdb he hpl
theorem pe_methD {X : Cx} {k : Nat} {ps : List Str} {sp : Sp} {C : Addr} {m : Str} {o e : Expr} {es : List Expr} {apos pos : Pos} {ta : TE} {t : TA} {pl : Sem Bool} (he : PE X o ta) (c : Cls X.K C) (G : MDef X.prog X.w X.K X.mg X.base CX0 k C m ps sp) (hr : Room k X.A) (ha : PA X (e :: es) t)
    (hst : starEach (e :: es) X.env = (false, eval e X.env) :: starEach es X.env := by rfl) (hpl : (backTo pos (starEach es X.env)).any (·.1) = false := by rfl)
    (ht : eval (.Call (.Attribute o m apos) (e :: es) [] pos) X.env = (do
      let ov ← eval o X.env
      standAt apos.atName
      let (f, first) ← holding [ov] (getMethod ov m pl)
      callWith pos f first (backTo pos (starEach (e :: es) X.env)) (backToKw pos (keywordEach [] X.env))) := by rfl) :
    PE X (.Call (.Attribute o m apos) (e :: es) [] pos) (tMeth C m sp [] E0 ta t) := by
  obtain ⟨f, fd, F, M, hb⟩ := G.ex
  exact pe_meth he c M F hr hb .nil pass0 ha hst hpl ht
theorem r_make {C : Addr} {sp : Sp} {E : XK} {t : TA} {σ : L2.St} {H : Hp} {Q : VK} (q : t σ H fun vs H1 => ∀ x dx, H1 x = none → H1 dx = none → dx ≠ x → sp (.ref x :: (vs ++ [])) (upd (upd H1 dx (.own x)) x (.ins C dx [])) (fun v H2 => v = .non ∧ Q (.ref x) H2) E) : tMake C sp [] E t σ H Q := q
theorem r_meth {C : Addr} {m : Str} {sp : Sp} {E : XK} {ta : TE} {t : TA} {σ : L2.St} {H : Hp} {Q : VK} (q : ta σ H fun x H1 => ∃ a dx fs, x = .ref a ∧ H1 a = some (.ins C dx fs) ∧ fs.lookup m = none ∧ t σ H1 fun vs H2 => sp (x :: (vs ++ [])) H2 Q E) : tMeth C m sp [] E ta t σ H Q := q
theorem r_fldq {K : PySem.W.Frag} {ta : TE} {f : Str} {σ : L2.St} {H : Hp} {Q : VK} (q : ta σ H fun x H1 => ∃ a C dx fs v, x = .ref a ∧ H1 a = some (.ins C dx fs) ∧ Cls K C ∧ NoAttr K C f ∧ fs.lookup f = some v ∧ Q v H1) : tFld K ta f σ H Q := q
theorem r_sfld {K : PySem.W.Frag} {ta tv : TE} {f : Str} {D : Ends} {σ : L2.St} {H : Hp} (q : tv σ H fun y H1 => ta σ H1 fun x H2 => ∃ a C dx fs, x = .ref a ∧ H2 a = some (.ins C dx fs) ∧ Cls K C ∧ NoAttr K C f ∧ fs.length < 1000 ∧ D.nx σ (upd H2 a (.ins C dx (putF f y fs)))) : sFld K ta tv f D σ H := q
/-! ### the same rules, K told -/
theorem pg_tupK {X : Cx} {K : PySem.W.Frag} {es : List Expr} {k : Nat} {t : TGs} {n : Nat} {pos : Pos} (hK : X.K = K) (hc : X.calm = true) (h : PGs X es t)
    (hn : (assignEach es X.env).length = n := by rfl) (hst : (assignEach es X.env).findIdx? (·.1) = none := by rfl) : PG X (.Tuple es k pos) (gTup K n t) := by
  subst hK
  exact pg_tup hc h hn hst
theorem pe_bmK {X : Cx} {K : PySem.W.Frag} {o e : Expr} {es : List Expr} {to : TE} {t : TA} {name : Str} {apos cpos : Pos} {T id : String} {r : V → List V → Hp → VK → Prop} (hK : X.K = K) (pa : PlainAttrs T) (slot : Slot T name id) (hty : typeOf (.builtin id) = pure (.type "method_descriptor")) (hm : MtR X id r) (ho : PE X o to) (ha : PA X (e :: es) t)
    (hbase : attributeBase o name X.env (eval o X.env) = eval o X.env := by rfl) (hfew : ((backTo cpos (starEach (e :: es) X.env)).all (fun x => !x.1) && (backToKw cpos (keywordEach [] X.env)).all (fun x => x.1.isSome) && decide ((e :: es).length + ([] : List Keyword).length + (if ([] : List Keyword).isEmpty then 0 else 1) < 30)) = true := by rfl)
    (hline : (apos.endLine == cpos.line) = true := by rfl) (hst : starEach (e :: es) X.env = (false, eval e X.env) :: starEach es X.env := by rfl) (hpl : (backTo cpos (starEach es X.env)).any (·.1) = false := by rfl) : PE X (.Call (.Attribute o name apos) (e :: es) [] cpos) (tBM K T r to t) := by
  subst hK
  exact pe_bm pa slot hty hm ho ha hbase hfew hline hst hpl
theorem r_ext {H H0 : Hp} {Q : VK} {L : List (Addr × HO)} {l b : Addr} {xs zs : List V} (o : Own H0 H L) (n m : Nat) (h : L[n]? = some (l, .lst xs)) (h2 : L[m]? = some (b, .lst zs)) (hz : xs.length + zs.length ≤ 10000000) (k : ∀ H', Own H0 H' (L.set n (l, .lst (xs ++ zs))) → Q .non H') : rExtend (.ref l) [.ref b] H Q :=
  ⟨l, b, xs, zs, rfl, rfl, o.at n h, o.at m h2, sz100 hz, k _ (o.set n h)⟩
theorem take_flat {α β : Type} {f : α → List β} {zs : List α} {i : Nat} {z : α} (h : zs[i]? = some z) : (zs.take (i + 1)).flatMap f = (zs.take i).flatMap f ++ f z := by
  rw [List.take_add_one, h, List.flatMap_append]
  simp
theorem get_ints {ns : List Int} {i : Nat} {x : V} (h : (ns.map V.int)[i]? = some x) : ∃ z, ns[i]? = some z ∧ x = .int z := by
  rw [List.getElem?_map] at h
  cases h2 : ns[i]? with
  | none => rw [h2] at h; cases h
  | some v => rw [h2] at h; cases h; exact ⟨v, rfl, rfl⟩
theorem r_bmE {K : PySem.W.Frag} {T : String} {f : V → List V → Hp → VK → Prop} {te : TE} {tr : TA} {σ : L2.St} {H : Hp} {Q : VK} (q : te σ H fun x H1 => tyV K T x H1 ∧ tr σ H1 fun vs H2 => f x vs H2 Q) : tBM K T f te tr σ H Q := q
theorem pe_callD0 {X : Cx} {k : Nat} {sp : Sp} {x : Str} {p pos : Pos} (G : Def X.prog X.w X.K X.mg X.base CX0 k x [] sp) (hr : Room k X.A) (hg : Gl X x := by rfl) (hdb : (x == ("__debug__" : Str)) = false := by decide) : PE X (.Call (.Name x p) [] [] pos) (tCall sp [] E0 tNil) := by
  obtain ⟨f, fd, F, hm, hk, hb⟩ := G.ex
  exact pe_call0 F hr hg hm hk hb .nil pass0 hdb
theorem pe_methD0 {X : Cx} {k : Nat} {ps : List Str} {sp : Sp} {C : Addr} {m : Str} {o : Expr} {apos pos : Pos} {ta : TE} {pl : Sem Bool} (he : PE X o ta) (c : Cls X.K C) (G : MDef X.prog X.w X.K X.mg X.base CX0 k C m ps sp) (hr : Room k X.A)
    (ht : eval (.Call (.Attribute o m apos) [] [] pos) X.env = (do
      let ov ← eval o X.env
      standAt apos.atName
      let (f, first) ← holding [ov] (getMethod ov m pl)
      callWith pos f first (backTo pos (starEach [] X.env)) (backToKw pos (keywordEach [] X.env))) := by rfl) :
    PE X (.Call (.Attribute o m apos) [] [] pos) (tMeth C m sp [] E0 ta tNil) := by
  obtain ⟨f, fd, F, M, hb⟩ := G.ex
  exact pe_meth0 he c M F hr hb .nil pass0 ht
end RD
namespace My
open PySem PySem.Spec PyProof.Rows L2 RD
local macro_rules | `(tactic| walk_at "sq") => `(tactic| (first
  | assumption
  | exact Own.sqL (by assumption) 0 (by exact rfl)
  | exact Own.sqL (by assumption) 1 (by exact rfl)
  | exact Own.sqL (by assumption) 2 (by exact rfl)
  | exact Own.sqL (by assumption) 3 (by exact rfl)
  | exact Own.sqL (by assumption) 4 (by exact rfl)
  | exact Own.sqL (by assumption) 5 (by exact rfl)
  | exact Own.sqL (by assumption) 6 (by exact rfl)
  | exact Own.sqL (by assumption) 7 (by exact rfl)
  | exact Own.sqL (by assumption) 8 (by exact rfl)
  | exact Own.sqL (by assumption) 9 (by exact rfl)
  | exact Own.sqL (by assumption) 10 (by exact rfl)
  | exact Own.sqL (by assumption) 11 (by exact rfl)
  | exact Own.sqL (by assumption) 12 (by exact rfl)
  | exact Own.sqL (by assumption) 13 (by exact rfl)
  | exact Own.sqL (by assumption) 14 (by exact rfl)
  | exact Own.sqL (by assumption) 15 (by exact rfl)
  | exact Own.sqL (by assumption) 16 (by exact rfl)
  | exact Own.old (by assumption) (by assumption)))
local macro_rules | `(tactic| walk_at "sqT") => `(tactic| (first
  | assumption
  | exact Own.sqT (by assumption) 0 (by exact rfl)
  | exact Own.sqT (by assumption) 1 (by exact rfl)
  | exact Own.sqT (by assumption) 2 (by exact rfl)
  | exact Own.sqT (by assumption) 3 (by exact rfl)
  | exact Own.sqT (by assumption) 4 (by exact rfl)
  | exact Own.sqT (by assumption) 5 (by exact rfl)
  | exact Own.sqT (by assumption) 6 (by exact rfl)
  | exact Own.sqT (by assumption) 7 (by exact rfl)
  | exact Own.sqT (by assumption) 8 (by exact rfl)
  | exact Own.sqT (by assumption) 9 (by exact rfl)
  | exact Own.sqT (by assumption) 10 (by exact rfl)
  | exact Own.sqT (by assumption) 11 (by exact rfl)
  | exact Own.sqT (by assumption) 12 (by exact rfl)
  | exact Own.sqT (by assumption) 13 (by exact rfl)
  | exact Own.sqT (by assumption) 14 (by exact rfl)
  | exact Own.sqT (by assumption) 15 (by exact rfl)
  | exact Own.sqT (by assumption) 16 (by exact rfl)
  | exact Own.oldT (by assumption) (by assumption)))
local macro_rules | `(tactic| walk_at "at") => `(tactic| (first
  | assumption
  | exact Own.at (by assumption) 0 (by exact rfl)
  | exact Own.at (by assumption) 1 (by exact rfl)
  | exact Own.at (by assumption) 2 (by exact rfl)
  | exact Own.at (by assumption) 3 (by exact rfl)
  | exact Own.at (by assumption) 4 (by exact rfl)
  | exact Own.at (by assumption) 5 (by exact rfl)
  | exact Own.at (by assumption) 6 (by exact rfl)
  | exact Own.at (by assumption) 7 (by exact rfl)
  | exact Own.at (by assumption) 8 (by exact rfl)
  | exact Own.at (by assumption) 9 (by exact rfl)
  | exact Own.at (by assumption) 10 (by exact rfl)
  | exact Own.at (by assumption) 11 (by exact rfl)
  | exact Own.at (by assumption) 12 (by exact rfl)
  | exact Own.at (by assumption) 13 (by exact rfl)
  | exact Own.at (by assumption) 14 (by exact rfl)
  | exact Own.at (by assumption) 15 (by exact rfl)
  | exact Own.at (by assumption) 16 (by exact rfl)))
/-! ### the words -/
local macro_rules | `(tactic| walk_at "rd1") => `(tactic| (first
  | with_reducible refine r_seq ?_
  | with_reducible refine r_asg ?_
  | with_reducible refine r_name ?_
  | ((with_reducible refine r_var (v := ?_) ?h ?_); (case h => exact rfl))
  | with_reducible refine r_c ?_
  | with_reducible refine r_op ?_
  | with_reducible refine r_I0 ?_
  | with_reducible refine r_un ?_
  | with_reducible refine r_U ?_
  | with_reducible refine r_eqI ?_
  | with_reducible refine r_neI ?_
  | with_reducible refine r_eqS ?_
  | with_reducible refine r_neS ?_
  | with_reducible refine r_test ?_
  | with_reducible refine r_tB ?_
  | with_reducible refine r_bl ?_
  | with_reducible refine r_and ?_
  | with_reducible refine r_or ?_
  | with_reducible refine r_not ?_
  | with_reducible refine r_andV ?_
  | with_reducible refine r_orV ?_
  | with_reducible refine r_notV ?_
  | with_reducible refine r_ifE ?_
  | with_reducible refine r_ifS ?_
  | with_reducible refine r_ret ?_
  | with_reducible refine r_retN ?_
  | with_reducible refine r_drop ?_
  | with_reducible refine r_next ?_
  | with_reducible refine r_break ?_
  | with_reducible refine r_cont ?_
  | with_reducible refine r_nil ?_
  | with_reducible refine r_cons ?_
  | with_reducible refine r_tup ?_
  | with_reducible refine r_lst ?_
  | with_reducible refine r_CB ?_
  | with_reducible refine r_call ?_
  | with_reducible refine r_sl ?_
  | with_reducible refine r_par ?_
  | with_reducible refine r_make ?_
  | with_reducible refine r_meth ?_
  | with_reducible refine r_fldq ?_
  | with_reducible refine r_sfld ?_
  | with_reducible refine r_nopart ?_
  | with_reducible refine r_part ?_
  | with_reducible refine r_pt ?_
  | ((with_reducible refine r_aug (x := ?_) ?h ?_); (case h => exact rfl))
  | with_reducible refine r_ipI ?_
  | ((with_reducible refine r_isi (T := ?_) (b := true) ?t ?k ?_); (case t => first | exact ty_int | exact ty_str | exact ty_non | exact ty_list (by walk_at "at") | exact ty_tup (by walk_at "at") | exact ty_sqT (by assumption) | exact ty_sqL (by assumption)); (case k => decide +kernel))
  | ((with_reducible refine r_isi (T := ?_) (b := false) ?t ?k ?_); (case t => first | exact ty_int | exact ty_str | exact ty_non | exact ty_list (by walk_at "at") | exact ty_tup (by walk_at "at") | exact ty_sqT (by assumption) | exact ty_sqL (by assumption)); (case k => decide +kernel))
  | with_reducible refine rif_t ?_
  | with_reducible refine rif_f ?_
  | with_reducible refine rif_nt ?_
  | with_reducible refine rif_nf ?_
  | with_reducible refine r_for ?_
  | with_reducible refine r_rng1 ?_
  | with_reducible refine r_rng2 ?_
  | with_reducible refine r_rng3 ?_
  | with_reducible refine r_iL ?_
  | with_reducible refine r_iT ?_
  | with_reducible refine r_lc ?_
  | with_reducible refine r_lc2 ?_
  | with_reducible refine r_sl3 ?_
  | ((with_reducible refine r_I ?c ?_); (case c => first | exact ⟨by decide, by decide⟩ | exact ⟨by decide, by decide, by decide⟩ | exact ⟨by decide, by decide, by omega⟩ | (show (0 : Int) < _; decide) | exact .inr ⟨by decide, by decide⟩ | exact .inl ⟨by decide, by decide⟩ | assumption | exact .inl ⟨by omega, by omega⟩ | exact .inr ⟨by omega, by omega⟩ | (show (0 : Int) < _; omega) | exact ⟨by omega, by omega⟩))
  | ((with_reducible refine r_bm (l := ?_) ?h ?t ?_); (case h => exact rfl); (case t => exact ty_lst (by walk_at "at")))
  | with_reducible refine r_int ?_
  | ((with_reducible refine r_lenS ?z ?_); (case z => first | omega | (simp; done)))
  | ((with_reducible refine r_slS ?z ?_); (case z => omega))
  | ((with_reducible refine r_addS ?z ?_); (case z => omega))
  | with_reducible refine r_zipA ?_
  | with_reducible refine r_max2 ?_
  | with_reducible refine r_min2 ?_
  | with_reducible refine r_isNonN ?_
  | with_reducible refine r_isNonR ?_
  | with_reducible refine r_isNonI ?_
  | with_reducible refine r_notNonN ?_
  | with_reducible refine r_notNonR ?_
  | with_reducible refine r_notNonI ?_
  | with_reducible refine r_chain ?_
  | with_reducible refine r_isB ?_
  | ((with_reducible refine r_ixI (ns := ?_) ?h ?b0 ?b1 ?_); (case h => walk_at "sq"); (case b0 => omega); (case b1 => first | omega | (simp; done) | (simp; omega)))
  | ((with_reducible refine r_ixIT (ns := ?_) ?h ?b0 ?b1 ?_); (case h => walk_at "sqT"); (case b0 => omega); (case b1 => first | omega | (simp; done) | (simp; omega)))
  | ((with_reducible refine r_ixqL (ns := ?_) ?h ?b0 ?b1 ?_); (case h => walk_at "sq"); (case b0 => omega); (case b1 => first | omega | (simp; done) | (simp; omega)))
  | ((with_reducible refine r_ixqT (ns := ?_) ?h ?b0 ?b1 ?_); (case h => walk_at "sqT"); (case b0 => omega); (case b1 => first | omega | (simp; done) | (simp; omega)))
  | ((with_reducible refine r_sum (ns := ?_) ?h ?_); (case h => walk_at "sq"))
  | ((with_reducible refine r_eqSame (ns := ?_) ?h ?h2 ?_); (case h => walk_at "sq"); (case h2 => walk_at "sq"))
  | ((with_reducible refine r_neSame (ns := ?_) ?h ?h2 ?_); (case h => walk_at "sq"); (case h2 => walk_at "sq"))
  | with_reducible refine r_intB ?_
  | ((with_reducible refine r_len (xs := ?_) ?h ?_); (case h => walk_at "sq"))
  | ((with_reducible refine r_lenT (xs := ?_) ?h ?_); (case h => walk_at "sqT"))
  | ((with_reducible refine r_gTup2 (x := ?_) (y := ?_) ?h ?_); (case h => walk_at "sqT"))
  | with_reducible refine r_bmE ?_
  | with_reducible refine r_set ?_))
local macro_rules | `(tactic| walk_at "rd") => `(tactic| (repeat' (walk_at "rd1")))
/-! ### zip of two or three sequences, each a list (false) or a tuple (true) -/
section
variable {prog : Program} {w : World} {A : Around} {E : Value → Shared → Prop} {s : Shared}
def HIt (k : Bool) (h : Heap) (it l : Addr) (i : Nat) : Prop := match k with | true => h.IsTupleIter it l i | false => h.IsListIter it l i
def HSq (k : Bool) (h : Heap) (l : Addr) (xs : Array Value) : Prop := match k with | true => h.IsTuple l xs | false => h.IsList l xs
def itTy (k : Bool) : String := match k with | true => "tuple_iterator" | false => "list_iterator"
def SqK (K : PySem.W.Frag) (k : Bool) (H : Hp) (a : Addr) (xs : List V) : Prop := match k with | true => SqT K H a xs | false => SqL K H a xs
theorem HIt.at {k : Bool} {h h' : Heap} {it l : Addr} {i : Nat} (x : HIt k h it l i) (e : ∀ o, h.get? it = some o → h'.get? it = some o) : HIt k h' it l i := by
  cases k
  · exact Heap.IsListIter.at x e
  · exact Heap.IsTupleIter.at x e
theorem HIt.obj {k : Bool} {h : Heap} {it l : Addr} {i : Nat} (x : HIt k h it l i) : ∃ o, h.get? it = some o ∧ ∀ v, o.data ≠ .cell v := by
  cases k
  · obtain ⟨o, e, _, d⟩ := (show h.IsListIter it l i from x)
    exact ⟨o, e, fun v z => by rw [d] at z; cases z⟩
  · obtain ⟨o, e, _, d⟩ := (show h.IsTupleIter it l i from x)
    exact ⟨o, e, fun v z => by rw [d] at z; cases z⟩
theorem HIt.lt {k : Bool} {h : Heap} {it l : Addr} {i : Nat} (x : HIt k h it l i) : it < h.objs.size := by
  obtain ⟨o, e, _⟩ := x.obj
  exact Heap.lt_size e
theorem HSq.lt {k : Bool} {h : Heap} {l : Addr} {xs : Array Value} (x : HSq k h l xs) : l < h.objs.size := by
  cases k
  · obtain ⟨o, e, _⟩ := (show h.IsList l xs from x)
    exact Heap.lt_size e
  · obtain ⟨o, e, _⟩ := (show h.IsTuple l xs from x)
    exact Heap.lt_size e
theorem drawsK (k : Bool) (hh : A.handled = none) {it l : Addr} (hne : l ≠ it) (items : Array Value) :
    Draws prog w A it [it, l] items.size (fun i v => items[i]? = some v) (fun i h => HIt k h it l i ∧ HSq k h l items) := by
  cases k
  · exact Draws.list hh it l hne items
  · refine ⟨fun i h st => ?_, fun i h h' st hk => ?_, fun i s Q E hi st hQ => ?_, fun s Q E st hE => ?_⟩
    · obtain ⟨o, ho, _⟩ := HIt.obj st.1
      exact ⟨o, ho⟩
    · exact ⟨st.1.at fun o e => hk it (by simp) o e, Heap.IsTuple.at st.2 fun o e => hk l (by simp) o e⟩
    · have st2 := (show s.heap.IsTuple l items from st.2)
      refine RZ.nextOf_tuple_item st.1 st2 (x := items[i]) (by simp [hi]) fun h1 it1 sb => ?_
      exact hQ _ h1 s.toks (by simp [hi]) ⟨it1, Heap.IsTuple.extBut st2 sb.extBut hne⟩ sb
    · exact RZ.nextOf_tuple_end hh st.1 st.2 (by simp) hE
def itO (k : Bool) (l : Addr) : Obj := { cls := .type (itTy k), data := .fields #[.ref l, .int 0 0] }
theorem iterK {k : Bool} {l : Addr} {items : Array Value} {Q : Value → Shared → Prop} (hl : HSq k s.heap l items) (h : Q (.ref s.heap.objs.size) { s with heap := s.heap.push (itO k l) }) : wpAny (model prog w) A (pyIter (.ref l)) Q E s := by
  cases k
  · exact wpAny_pyIter_list hl h
  · exact wpAny_pyIter_tuple hl h
theorem HSq.push {k : Bool} {h : Heap} {l : Addr} {xs : Array Value} (x : HSq k h l xs) (o : Obj) : HSq k (h.push o) l xs := by
  cases k
  · exact Heap.IsList.push x o
  · exact Heap.IsTuple.push x o
theorem HIt.mk0 {k : Bool} {h : Heap} {it l : Addr} (e : h.get? it = some (itO k l)) : HIt k h it l 0 := by
  cases k
  · exact ⟨_, e, rfl, rfl⟩
  · exact ⟨_, e, rfl, rfl⟩
def zA (h : Heap) (k1 : Bool) (l1 : Addr) : Heap := h.push (itO k1 l1)
def zB (h : Heap) (k1 k2 : Bool) (l1 l2 : Addr) : Heap := (zA h k1 l1).push (itO k2 l2)
def zC (h : Heap) (k1 k2 : Bool) (l1 l2 : Addr) : Heap := (zB h k1 k2 l1 l2).push { cls := .type "tuple", data := .seq #[.ref h.objs.size, .ref (zA h k1 l1).objs.size] }
def zD (h : Heap) (k1 k2 : Bool) (l1 l2 : Addr) : Heap := (zC h k1 k2 l1 l2).push { cls := .type "tuple", data := .seq #[.none, .none] }
def zE (h : Heap) (k1 k2 : Bool) (l1 l2 : Addr) : Heap := (zD h k1 k2 l1 l2).push { cls := .type "zip", data := .fields #[.none, .bool false, .bool false, .ref (zB h k1 k2 l1 l2).objs.size, .ref (zC h k1 k2 l1 l2).objs.size] }
theorem zip_new2 (k1 k2 : Bool) (l1 l2 : Addr) (xs ys : Array Value) :
    Meets (Builtin.«zip.__new__» ⟨[.type "zip", .ref l1, .ref l2], []⟩) (fun _ R s => HSq k1 s.heap l1 xs ∧ HSq k2 s.heap l2 ys ∧
      R (.ok (.ret (.ref (zD s.heap k1 k2 l1 l2).objs.size))) { s with heap := zE s.heap k1 k2 l1 l2 }) :=
  .of_wp fun prog w A R s h => by
    obtain ⟨hp, g, d, tk, os⟩ := s
    obtain ⟨q1, q2, h⟩ := h
    have hsub := sub_zip
    have p1 : HSq k1 (Shared.heap ⟨hp, g, d, tk, os⟩) l1 xs := q1
    have p2 : HSq k2 (Shared.heap ⟨hp.push (itO k1 l1), g, d, tk, os⟩) l2 ys := HSq.push q2 _
    wp_walk using iterK p1, iterK p2
    exact ⟨_, rfl, h⟩
theorem zip_call2 {k1 k2 : Bool} {l1 l2 : Addr} {xs ys : Array Value} {Q : Value → Shared → Prop} (q1 : HSq k1 s.heap l1 xs) (q2 : HSq k2 s.heap l2 ys)
    (h : ∀ h' n, n = s.heap.objs.size → IsZip h' (n + 4) (n + 2) (n + 3) .none → IsTupOf2 h' (n + 2) (.ref n) (.ref (n + 1)) → IsTupOf2 h' (n + 3) .none .none → HIt k1 h' n l1 0 → HIt k2 h' (n + 1) l2 0 →
      (∀ c o, s.heap.get? c = some o → h'.get? c = some o) → Q (.ref (n + 4)) { s with heap := h' }) :
    wpAny (model prog w) A (call (.type "zip") [.ref l1, .ref l2]) Q E s := by
  refine callType_new F.called_zip (by decide) (F.typeCall_zip_2 _ _) (F.newCall_zip_2 _ _) (fun obj => F.args_object_init_3 obj _ _) F.entry_zip_new (zip_new2 k1 k2 l1 l2 xs ys) ⟨q1, q2, ?_⟩
  have eA : (zA s.heap k1 l1).objs.size = s.heap.objs.size + 1 := Heap.size_push ..
  have eB : (zB s.heap k1 k2 l1 l2).objs.size = s.heap.objs.size + 2 := by unfold zB; rw [Heap.size_push, eA]
  have eC : (zC s.heap k1 k2 l1 l2).objs.size = s.heap.objs.size + 3 := by unfold zC; rw [Heap.size_push, eB]
  have eD : (zD s.heap k1 k2 l1 l2).objs.size = s.heap.objs.size + 4 := by unfold zD; rw [Heap.size_push, eC]
  have uE : ∀ c o, (zD s.heap k1 k2 l1 l2).get? c = some o → (zE s.heap k1 k2 l1 l2).get? c = some o := fun c o e => Heap.get?_push_of_some _ e
  have uD : ∀ c o, (zC s.heap k1 k2 l1 l2).get? c = some o → (zE s.heap k1 k2 l1 l2).get? c = some o := fun c o e => uE c o (Heap.get?_push_of_some _ e)
  have uC : ∀ c o, (zB s.heap k1 k2 l1 l2).get? c = some o → (zE s.heap k1 k2 l1 l2).get? c = some o := fun c o e => uD c o (Heap.get?_push_of_some _ e)
  have uB : ∀ c o, (zA s.heap k1 l1).get? c = some o → (zE s.heap k1 k2 l1 l2).get? c = some o := fun c o e => uC c o (Heap.get?_push_of_some _ e)
  have uA : ∀ c o, s.heap.get? c = some o → (zE s.heap k1 k2 l1 l2).get? c = some o := fun c o e => uB c o (Heap.get?_push_of_some _ e)
  have gE : (zE s.heap k1 k2 l1 l2).get? (zD s.heap k1 k2 l1 l2).objs.size = some _ := Heap.get?_push_size _ rfl
  have gD : (zE s.heap k1 k2 l1 l2).get? (zC s.heap k1 k2 l1 l2).objs.size = some _ := uE _ _ (Heap.get?_push_size _ rfl)
  have gC : (zE s.heap k1 k2 l1 l2).get? (zB s.heap k1 k2 l1 l2).objs.size = some _ := uD _ _ (Heap.get?_push_size _ rfl)
  have gB : (zE s.heap k1 k2 l1 l2).get? (zA s.heap k1 l1).objs.size = some _ := uC _ _ (Heap.get?_push_size _ rfl)
  have gA : (zE s.heap k1 k2 l1 l2).get? s.heap.objs.size = some _ := uB _ _ (Heap.get?_push_size _ rfl)
  rw [eD, eB, eC] at gE
  rw [eB, eA] at gC
  rw [eC] at gD
  rw [eA] at gB
  show _ ∧ _
  rw [eD]
  exact ⟨⟨_, gE, rfl⟩, h _ _ rfl gE gC gD (HIt.mk0 gA) (HIt.mk0 gB) uA⟩
theorem typeCall_zip3 (a b c : Value) : checkTypeCall "zip" ⟨[a, b, c], []⟩ = pure () := by kernel_rfl
theorem newCall_zip3 (a b c : Value) : checkBuiltinCall "zip.__new__" ⟨[.type "zip", a, b, c], []⟩ = pure () := by kernel_rfl
theorem args_object_init4 (a b c d : Value) : argsOk "object.__init__" ⟨[a, b, c, d], []⟩ := by
  unfold argsOk
  rw [signature?_of (id := "object.__init__") (n := ['_', '_', 't', 'i', 'n', 'i', '_', '_']) (o := ['t', 'c', 'e', 'j', 'b', 'o']) (by kernel_rfl) F.owner_object]
  kernel_rfl
def yB (h : Heap) (k1 k2 k3 : Bool) (l1 l2 l3 : Addr) : Heap := (zB h k1 k2 l1 l2).push (itO k3 l3)
def yC (h : Heap) (k1 k2 k3 : Bool) (l1 l2 l3 : Addr) : Heap := (yB h k1 k2 k3 l1 l2 l3).push { cls := .type "tuple", data := .seq #[.ref h.objs.size, .ref (zA h k1 l1).objs.size, .ref (zB h k1 k2 l1 l2).objs.size] }
def yD (h : Heap) (k1 k2 k3 : Bool) (l1 l2 l3 : Addr) : Heap := (yC h k1 k2 k3 l1 l2 l3).push { cls := .type "tuple", data := .seq #[.none, .none, .none] }
def yE (h : Heap) (k1 k2 k3 : Bool) (l1 l2 l3 : Addr) : Heap := (yD h k1 k2 k3 l1 l2 l3).push { cls := .type "zip", data := .fields #[.none, .bool false, .bool false, .ref (yB h k1 k2 k3 l1 l2 l3).objs.size, .ref (yC h k1 k2 k3 l1 l2 l3).objs.size] }
theorem zip_new3 (k1 k2 k3 : Bool) (l1 l2 l3 : Addr) (xs ys zs : Array Value) :
    Meets (Builtin.«zip.__new__» ⟨[.type "zip", .ref l1, .ref l2, .ref l3], []⟩) (fun _ R s => HSq k1 s.heap l1 xs ∧ HSq k2 s.heap l2 ys ∧ HSq k3 s.heap l3 zs ∧
      R (.ok (.ret (.ref (yD s.heap k1 k2 k3 l1 l2 l3).objs.size))) { s with heap := yE s.heap k1 k2 k3 l1 l2 l3 }) :=
  .of_wp fun prog w A R s h => by
    obtain ⟨hp, g, d, tk, os⟩ := s
    obtain ⟨q1, q2, q3, h⟩ := h
    have hsub := sub_zip
    have p1 : HSq k1 (Shared.heap ⟨hp, g, d, tk, os⟩) l1 xs := q1
    have p2 : HSq k2 (Shared.heap ⟨hp.push (itO k1 l1), g, d, tk, os⟩) l2 ys := HSq.push q2 _
    have p3 : HSq k3 (Shared.heap ⟨(hp.push (itO k1 l1)).push (itO k2 l2), g, d, tk, os⟩) l3 zs := HSq.push (HSq.push q3 _) _
    wp_walk using iterK p1, iterK p2, iterK p3
    exact ⟨_, rfl, h⟩
theorem zip_call3 {k1 k2 k3 : Bool} {l1 l2 l3 : Addr} {xs ys zs : Array Value} {Q : Value → Shared → Prop} (q1 : HSq k1 s.heap l1 xs) (q2 : HSq k2 s.heap l2 ys) (q3 : HSq k3 s.heap l3 zs)
    (h : ∀ h' n, n = s.heap.objs.size → IsZip h' (n + 5) (n + 3) (n + 4) .none → IsTupOf3 h' (n + 3) (.ref n) (.ref (n + 1)) (.ref (n + 2)) → IsTupOf3 h' (n + 4) .none .none .none → HIt k1 h' n l1 0 → HIt k2 h' (n + 1) l2 0 → HIt k3 h' (n + 2) l3 0 →
      (∀ c o, s.heap.get? c = some o → h'.get? c = some o) → Q (.ref (n + 5)) { s with heap := h' }) :
    wpAny (model prog w) A (call (.type "zip") [.ref l1, .ref l2, .ref l3]) Q E s := by
  refine callType_new F.called_zip (by decide) (typeCall_zip3 _ _ _) (newCall_zip3 _ _ _) (fun obj => args_object_init4 obj _ _ _) F.entry_zip_new (zip_new3 k1 k2 k3 l1 l2 l3 xs ys zs) ⟨q1, q2, q3, ?_⟩
  have eA : (zA s.heap k1 l1).objs.size = s.heap.objs.size + 1 := Heap.size_push ..
  have eB : (zB s.heap k1 k2 l1 l2).objs.size = s.heap.objs.size + 2 := by unfold zB; rw [Heap.size_push, eA]
  have eF : (yB s.heap k1 k2 k3 l1 l2 l3).objs.size = s.heap.objs.size + 3 := by unfold yB; rw [Heap.size_push, eB]
  have eC : (yC s.heap k1 k2 k3 l1 l2 l3).objs.size = s.heap.objs.size + 4 := by unfold yC; rw [Heap.size_push, eF]
  have eD : (yD s.heap k1 k2 k3 l1 l2 l3).objs.size = s.heap.objs.size + 5 := by unfold yD; rw [Heap.size_push, eC]
  have uE : ∀ c o, (yD s.heap k1 k2 k3 l1 l2 l3).get? c = some o → (yE s.heap k1 k2 k3 l1 l2 l3).get? c = some o := fun c o e => Heap.get?_push_of_some _ e
  have uD : ∀ c o, (yC s.heap k1 k2 k3 l1 l2 l3).get? c = some o → (yE s.heap k1 k2 k3 l1 l2 l3).get? c = some o := fun c o e => uE c o (Heap.get?_push_of_some _ e)
  have uF : ∀ c o, (yB s.heap k1 k2 k3 l1 l2 l3).get? c = some o → (yE s.heap k1 k2 k3 l1 l2 l3).get? c = some o := fun c o e => uD c o (Heap.get?_push_of_some _ e)
  have uC : ∀ c o, (zB s.heap k1 k2 l1 l2).get? c = some o → (yE s.heap k1 k2 k3 l1 l2 l3).get? c = some o := fun c o e => uF c o (Heap.get?_push_of_some _ e)
  have uB : ∀ c o, (zA s.heap k1 l1).get? c = some o → (yE s.heap k1 k2 k3 l1 l2 l3).get? c = some o := fun c o e => uC c o (Heap.get?_push_of_some _ e)
  have uA : ∀ c o, s.heap.get? c = some o → (yE s.heap k1 k2 k3 l1 l2 l3).get? c = some o := fun c o e => uB c o (Heap.get?_push_of_some _ e)
  have gE : (yE s.heap k1 k2 k3 l1 l2 l3).get? (yD s.heap k1 k2 k3 l1 l2 l3).objs.size = some _ := Heap.get?_push_size _ rfl
  have gD : (yE s.heap k1 k2 k3 l1 l2 l3).get? (yC s.heap k1 k2 k3 l1 l2 l3).objs.size = some _ := uE _ _ (Heap.get?_push_size _ rfl)
  have gC : (yE s.heap k1 k2 k3 l1 l2 l3).get? (yB s.heap k1 k2 k3 l1 l2 l3).objs.size = some _ := uD _ _ (Heap.get?_push_size _ rfl)
  have gF : (yE s.heap k1 k2 k3 l1 l2 l3).get? (zB s.heap k1 k2 l1 l2).objs.size = some _ := uF _ _ (Heap.get?_push_size _ rfl)
  have gB : (yE s.heap k1 k2 k3 l1 l2 l3).get? (zA s.heap k1 l1).objs.size = some _ := uC _ _ (Heap.get?_push_size _ rfl)
  have gA : (yE s.heap k1 k2 k3 l1 l2 l3).get? s.heap.objs.size = some _ := uB _ _ (Heap.get?_push_size _ rfl)
  rw [eD, eF, eC] at gE
  rw [eF, eA, eB] at gC
  rw [eC] at gD
  rw [eB] at gF
  rw [eA] at gB
  show _ ∧ _
  rw [eD]
  exact ⟨⟨_, gE, rfl⟩, h _ _ rfl gE gC gD (HIt.mk0 gA) (HIt.mk0 gB) (HIt.mk0 gF) uA⟩
end
section
variable {X : Cx} {pins : List (Addr × Obj)} {σ : L2.St} {H : Hp} {s : Shared}
theorem seqK {k : Bool} {a : Addr} {xs : List V} (I : Inv X pins σ H s) (h : SqK X.K k H a xs) : ∃ its : List Value, Vals xs its ∧ HSq k s.heap a its.toArray := by
  cases k
  · obtain ⟨its, r, p, _⟩ := I.list (show SqL X.K H a xs from h)
    exact ⟨its, r, p.isList⟩
  · obtain ⟨its, r, p, _⟩ := I.tuple (show SqT X.K H a xs from h)
    exact ⟨its, r, p⟩
theorem seqK_inj {k : Bool} {a : Addr} {xs ys : List V} (I : Inv X pins σ H s) (h : SqK X.K k H a xs) (h' : SqK X.K k H a ys) : xs = ys := by
  cases k
  · exact I.list_inj (show SqL X.K H a xs from h) h'
  · exact I.tuple_inj (show SqT X.K H a xs from h) h'
theorem hd_in1 {A : Around} (h : A.handled = none) : A.in1.handled = none := h
end
/-- two sequences as they stand at each turn, the items in new pairs -/
def It2 (K : PySem.W.Frag) (k1 k2 : Bool) (a b : Addr) : It :=
  ⟨fun i H => ∃ (xs ys : List V), SqK K k1 H a xs ∧ SqK K k2 H b ys ∧ i < xs.length ∧ i < ys.length,
    fun i H v H' => ∃ T x y, v = .ref T ∧ H T = none ∧ H' = upd H T (.tup [x, y]) ∧ (∀ xs, SqK K k1 H a xs → xs[i]? = some x) ∧ (∀ ys, SqK K k2 H b ys → ys[i]? = some y),
    fun i H => ∃ xs ys : List V, SqK K k1 H a xs ∧ SqK K k2 H b ys ∧ i ≤ xs.length ∧ i ≤ ys.length ∧ (i = xs.length ∨ i = ys.length)⟩
structure Ap2 (n z TI TO i1 i2 a b : Addr) : Prop where
  e0 : i1 = n
  e1 : i2 = n + 1
  e2 : TI = n + 2
  e3 : TO = n + 3
  e4 : z = n + 4
  la : a < n
  lb : b < n
theorem nin2 {z i a : Nat} (h : z ≠ i ∧ z ≠ a) : z ∉ [i, a] := by
  intro h2
  rcases List.mem_cons.mp h2 with e | h2
  · exact h.1 e
  · exact h.2 (List.mem_singleton.mp h2)
theorem sepN (n a b : Nat) (la : a < n) (lb : b < n) : ZipSep2 (n + 4) (n + 2) (n + 3) n (n + 1) [n, a] [n + 1, b] where
  TIz := show @Ne Nat _ _ by omega
  TOz := show @Ne Nat _ _ by omega
  TITO := show @Ne Nat _ _ by omega
  TIi1 := show @Ne Nat _ _ by omega
  mem1 := List.mem_cons_self
  zf1 := nin2 (by omega)
  Tf1 := nin2 (by omega)
  TIi2 := show @Ne Nat _ _ by omega
  mem2 := List.mem_cons_self
  zf2 := nin2 (by omega)
  Tf2 := nin2 (by omega)
  sep1_2 := nin2 (by omega)
  sep2_1 := nin2 (by omega)
theorem Ap2.sep {n z TI TO i1 i2 a b : Addr} (D : Ap2 n z TI TO i1 i2 a b) : ZipSep2 z TI TO i1 i2 [i1, a] [i2, b] := by
  obtain ⟨rfl, rfl, rfl, rfl, rfl, la, lb⟩ := D
  exact sepN _ a b la lb
theorem Ap2.na {n z TI TO i1 i2 a b : Addr} (D : Ap2 n z TI TO i1 i2 a b) : a ≠ i1 := by
  rw [D.e0]
  exact Nat.ne_of_lt D.la
theorem Ap2.nb {n z TI TO i1 i2 a b : Addr} (D : Ap2 n z TI TO i1 i2 a b) : b ≠ i2 := by
  rw [D.e1]
  exact Nat.ne_of_lt (Nat.lt_succ_of_lt D.lb)
theorem vals_of : ∀ {xs : List V} {us : List Value} {i : Nat} {u : Value}, Vals xs us → us[i]? = some u → ∃ x, xs[i]? = some x ∧ RelV x u
  | _, _, _, _, .nil, e => by simp at e
  | _, _, 0, _, .cons r _, e => by
    have e' := Option.some.inj e
    subst e'
    exact ⟨_, rfl, r⟩
  | _, _, i + 1, u, .cons _ t, e => by
    obtain ⟨x, h1, h2⟩ := vals_of (i := i) (u := u) t e
    exact ⟨x, h1, h2⟩
theorem turn2 {P : Program} {w : World} {K : PySem.W.Frag} {k1 k2 : Bool} {elts : List Expr} {kk : Nat} {tpos : Pos} {n a b z TI TO i1 i2 : Addr} (D : Ap2 n z TI TO i1 i2 a b) :
    Turn P w K (.Tuple elts kk tpos) (It2 K k1 k2 a b) [z, TI, TO, i1, i2] z (fun i h => IsZip h z TI TO .none ∧ IsTupOf2 h TI (.ref i1) (.ref i2) ∧ (∃ x y, IsTupOf2 h TO x y) ∧ HIt k1 h i1 a i ∧ HIt k2 h i2 b i) := by
  have S := D.sep
  have na := D.na
  have nb := D.nb
  refine ⟨by simp, fun i h st c hc => ?_, fun i h h' st k => ?_, ?_, ?_, fun A i s Q E st h => wpAny_pyIter_zip st.1 h⟩
  · obtain ⟨z1, z2, ⟨x, y, z3⟩, z4, z5⟩ := st
    simp only [List.mem_cons, List.not_mem_nil, or_false] at hc
    rcases hc with q | q | q | q | q <;> rw [q]
    · exact ⟨_, z1, fun v q => nomatch q⟩
    · exact ⟨_, z2, fun v q => nomatch q⟩
    · exact ⟨_, z3, fun v q => nomatch q⟩
    · exact z4.obj
    · exact z5.obj
  · obtain ⟨z1, z2, ⟨x, y, z3⟩, z4, z5⟩ := st
    exact ⟨k z (by simp) _ z1, k TI (by simp) _ z2, ⟨x, y, k TO (by simp) _ z3⟩, z4.at fun o q => k i1 (by simp) o q, z5.at fun o q => k i2 (by simp) o q⟩
  · intro X hP hw hK hc i pins s σ H E I hf st hg
    subst hP hw hK
    obtain ⟨z1, z2, ⟨x0, y0, z3⟩, z4, z5⟩ := st
    obtain ⟨xs, ys, sx, sy, hx, hy⟩ := hg
    obtain ⟨its, rv, p⟩ := seqK I sx
    obtain ⟨its2, rv2, p2⟩ := seqK I sy
    have hh := hd_in1 (I.ok.hd hc)
    have l1 := rv.length
    have l2 := rv2.length
    have zlt : z < s.heap.objs.size := Heap.lt_size z1
    have lti : ∀ c ∈ [z, TI, TO, i1, i2], c < s.heap.objs.size := fun c hcm => by
      simp only [List.mem_cons, List.not_mem_nil, or_false] at hcm
      rcases hcm with q | q | q | q | q <;> rw [q]
      · exact zlt
      · exact Heap.lt_size z2
      · exact Heap.lt_size z3
      · exact z4.lt
      · exact z5.lt
    refine wpAny_pyNext_zipD2_item S (drawsK k1 hh na its.toArray) (drawsK k2 hh nb its2.toArray) z1 z2 z3 ⟨z4, p⟩ ⟨z5, p2⟩ (by simp; omega) (by simp; omega) fun u1 u2 h' tk hu1 hu2 g1 g2 g3 g4 g5 g6 g7 => ?_
    refine ⟨_, rfl, wpAny_letOwnedTupleGo_zip (s := { s with heap := h', toks := tk }) g1 fun h2 y1 sb => ?_⟩
    have hu1' : its[i]? = some u1 := by simpa using hu1
    have hu2' : its2[i]? = some u2 := by simpa using hu2
    obtain ⟨x, hx1, r1⟩ := vals_of rv hu1'
    obtain ⟨y, hy1, r2⟩ := vals_of rv2 hu2'
    have eT : h2.get? s.heap.objs.size = some { cls := .type "tuple", data := .seq #[u1, u2] } := (sb.2 _ (Nat.ne_of_gt zlt)).trans g5
    have new : ObjOk X.prog X.w (upd H s.heap.objs.size (.tup [x, y])) h2 s.heap.objs.size (.tup [x, y]) :=
      ⟨by show 2 ≤ sizeLine; decide, [u1, u2], .cons r1 (.cons r2 .nil), ⟨_, eT, rfl, _, rfl⟩⟩
    have kept : ∀ c o, c ∉ [z, TI, TO, i1, i2] → s.heap.get? c = some o → h2.get? c = some o := fun c o hb q => by
      simp only [List.mem_cons, List.not_mem_nil, or_false, not_or] at hb
      exact (sb.2 c hb.1).trans (g7 c o hb.1 hb.2.2.1 hb.2.2.2.1 hb.2.2.2.2 q)
    have I1 : Inv X pins σ (upd H s.heap.objs.size (.tup [x, y])) { s with heap := h2, toks := tk } := I.turnedNew (t' := tk) kept hf (Nat.le_refl _) new
    refine ⟨.ref s.heap.objs.size, _, I1, rfl, ⟨_, x, y, rfl, I.hok.fresh (Nat.le_refl _), rfl, fun l hl => by rw [seqK_inj I hl sx]; exact hx1, fun l hl => by rw [seqK_inj I hl sy]; exact hy1⟩, ⟨y1, ?_, ⟨u1, u2, ?_⟩, ?_, ?_⟩, fun c hcm => ?_⟩
    · exact (sb.2 _ S.TIz).trans (g7 _ _ S.TIz S.TITO S.TIi1 S.TIi2 z2)
    · exact (sb.2 _ S.TOz).trans g2
    · exact g3.1.at fun o q => (sb.2 _ S.zi1.symm).trans q
    · exact g4.1.at fun o q => (sb.2 _ S.zi2.symm).trans q
    · rw [upd_ne (Nat.ne_of_lt (lti c hcm))]
      exact (hf c hcm).1
  · intro X hP hw hK hc i pins s σ H E I hf st hg
    subst hP hw hK
    obtain ⟨z1, z2, ⟨x0, y0, z3⟩, z4, z5⟩ := st
    obtain ⟨xs, ys, sx, sy, hx, hy, he⟩ := hg
    obtain ⟨its, rv, p⟩ := seqK I sx
    obtain ⟨its2, rv2, p2⟩ := seqK I sy
    have hh := hd_in1 (I.ok.hd hc)
    have l1 := rv.length
    have l2 := rv2.length
    refine wpAny_pyNext_zipD2_end S (drawsK k1 hh na its.toArray) (drawsK k2 hh nb its2.toArray) z1 z2 z3 ⟨z4, p⟩ ⟨z5, p2⟩ (by simp; omega) (by simp; omega) (by simp; omega) fun h' tk g7 => ⟨rfl, ?_⟩
    refine I.turnedL (t' := tk) (ch := [z, TI, TO, i1, i2]) (fun c o hb q => ?_) hf
    simp only [List.mem_cons, List.not_mem_nil, or_false, not_or] at hb
    exact g7 c o hb.1 hb.2.2.1 hb.2.2.2.1 hb.2.2.2.2 q
def iZip2 (K : PySem.W.Frag) (k1 k2 : Bool) (ta : TA) : TI := fun σ H R => ta σ H fun vs H1 => ∃ a b xs ys, vs = [.ref a, .ref b] ∧ SqK K k1 H1 a xs ∧ SqK K k2 H1 b ys ∧ R (It2 K k1 k2 a b) H1
theorem pi_zip2 {X : Cx} {k1 k2 : Bool} {e e2 : Expr} {ta : TA} {p pos tpos : Pos} {elts : List Expr} {kk : Nat} (hg : Gl X "zip") (hm : X.mg "zip" = none) (ha : PA X [e, e2] ta)
    (hst : starEach [e, e2] X.env = (false, eval e X.env) :: starEach [e2] X.env := by rfl) (hpl : (backTo pos (starEach [e2] X.env)).any (·.1) = false := by rfl) :
    PI X (.Tuple elts kk tpos) (.Call (.Name "zip" p) [e, e2] [] pos) (iZip2 X.K k1 k2 ta) := by
  refine ⟨fun pins s σ H R I h => ?_⟩
  refine Call_ (ld_blt I hg hm PyProof.Rows.boot_zip (PyProof.Rows.callWith_type1 (thn (ha.run pos pins s σ H _ I h) fun us s1 ⟨vs, H1, I1, r1, q1⟩ => ?_) hst hpl))
  obtain ⟨a, b, xs, ys, ex, qx, qy, q⟩ := q1
  subst ex
  obtain ⟨its, rv, p1⟩ := seqK I1 qx
  obtain ⟨its2, rv2, p2⟩ := seqK I1 qy
  cases r1 with
  | cons r rr =>
    cases rr with
    | cons r' rr =>
      cases rr
      cases r
      cases r'
      refine zip_call2 p1 p2 fun h' n en g1 g2 g3 g4 g5 hk => wpAny_pyIter_zip g1 ?_
      have I2 : Inv X pins σ H1 { s1 with heap := h' } := I1.kept (t' := s1.toks) hk
      refine ⟨n + 4, [n + 4, n + 2, n + 3, n, n + 1], _, _, H1, rfl, I2, turn2 (n := n) ⟨rfl, rfl, rfl, rfl, rfl, by rw [en]; exact p1.lt, by rw [en]; exact p2.lt⟩, ⟨g1, g2, ⟨_, _, g3⟩, g4, g5⟩, fun c hcm => ?_, q⟩
      have hle : s1.heap.objs.size ≤ c := by
        simp only [List.mem_cons, List.not_mem_nil, or_false] at hcm
        have en' : (n : Nat) = s1.heap.objs.size := en
        rcases hcm with z | z | z | z | z <;> rw [z] <;> omega
      exact I1.fpOk hle (I1.hok.fresh hle)
/-! ### comprehensions whose items are data of tuples -/
theorem bools_inv {K : PySem.W.Frag} {H : Hp} : ∀ {vs : List V} {bs : List Bool}, TpAll K H vs (bs.map PyData.bool) → vs = bs.map V.bl
  | _, [], h => by cases h; rfl
  | _, b :: bs, h => by
    cases h with
    | cons a t => cases a; rw [bools_inv t]; rfl
theorem strs_inv {K : PySem.W.Frag} {H : Hp} : ∀ {vs : List V} {bs : List Str}, TpAll K H vs (bs.map PyData.str) → vs = bs.map V.str
  | _, [], h => by cases h; rfl
  | _, b :: bs, h => by
    cases h with
    | cons a t => cases a; rw [strs_inv t]; rfl
theorem bools_invF {K : PySem.W.Frag} {H : Hp} {α : Type} {vs : List V} {l : List α} {f : α → Bool} (h : TpAll K H vs (l.map fun x => PyData.bool (f x))) : vs = (l.map f).map V.bl := by
  refine bools_inv (K := K) (H := H) (bs := l.map f) ?_
  rw [List.map_map]
  exact h
theorem ints_invF {K : PySem.W.Frag} {H : Hp} {α : Type} {vs : List V} {l : List α} {f : α → Int} (h : TpAll K H vs (l.map fun x => PyData.int (f x))) : vs = (l.map f).map V.int := by
  refine TpAll.ints_inv (K := K) (H := H) (ns := l.map f) ?_
  rw [List.map_map]
  exact h
theorem TpAll.bools {K : PySem.W.Frag} {H : Hp} : ∀ bs : List Bool, TpAll K H (bs.map V.bl) (bs.map PyData.bool)
  | [] => .nil
  | b :: bs => .cons (.bl b) (TpAll.bools bs)
theorem TpAll.strs {K : PySem.W.Frag} {H : Hp} : ∀ bs : List Str, TpAll K H (bs.map V.str) (bs.map PyData.str)
  | [] => .nil
  | b :: bs => .cons (.str b) (TpAll.strs bs)
theorem rfm_all {α : Type} (n : Nat) (f : Nat → α) : (List.range n).filterMap (fun i => some (f i)) = (List.range n).map f := congrFun List.filterMap_eq_map _
theorem rfm_succ {α : Type} (n : Nat) (f : Nat → Option α) : (List.range (n + 1)).filterMap f = (List.range n).filterMap f ++ (f n).toList := by
  rw [List.range_succ, List.filterMap_append]
  congr 1
theorem range_map_get {α β : Type} (xs : List α) (f : α → β) (g : Nat → β) (h : ∀ i x, xs[i]? = some x → g i = f x) : (List.range xs.length).map g = xs.map f := by
  apply List.ext_getElem?
  intro i
  rw [List.getElem?_map, List.getElem?_map]
  by_cases hi : i < xs.length
  · rw [List.getElem?_range hi, List.getElem?_eq_getElem hi]
    exact congrArg some (h i _ (List.getElem?_eq_getElem hi))
  · rw [List.getElem?_eq_none (by rw [List.length_range]; omega), List.getElem?_eq_none (by omega)]
    rfl
theorem range_pick1 {α β : Type} (xs : List α) (f : α → β) : ∀ n, n ≤ xs.length → (List.range n).filterMap (fun i => (xs[i]?).map f) = (xs.take n).map f
  | 0, _ => rfl
  | n + 1, h => by
    rw [rfm_succ, range_pick1 xs f n (by omega), List.take_add_one, List.map_append, List.getElem?_eq_getElem (show n < xs.length by omega)]
    rfl
theorem range_pick {α β : Type} (xs : List α) (f : α → β) : (List.range xs.length).filterMap (fun i => (xs[i]?).map f) = xs.map f := by
  rw [range_pick1 xs f _ (Nat.le_refl _), List.take_length]
theorem gi_get {ns : List Int} {i : Nat} {x : Int} (h : ns[i]? = some x) : gi ns (i : Int) = x := by
  obtain ⟨h1, h2⟩ := List.getElem?_eq_some_iff.mp h
  rw [gi_nat h1]
  exact h2
section
variable {σ : L2.St} {H H0 : Hp} {Q : VK} {te : TE} {tt : TT} {g : TG} {j : Int} {K : PySem.W.Frag} {L : List (Addr × HO)} {J : It} {vs : List Nat}
/-- what a turn's target is to reach: the test and the item there -/
def CGo (K : PySem.W.Frag) (tt : TT) (te : TE) (vs : List Nat) (σ : L2.St) (od : Option PyData) (H' : Hp) (R : L2.St → Hp → Prop) : Prop :=
  ∀ σ2, wipe σ2 vs = wipe σ vs → (∀ Qb : Bool → Hp → Prop, (∀ H2, Same H' H2 → Qb od.isSome H2) → tt σ2 H' Qb) → (∀ d H2, od = some d → Same H' H2 → ∀ Qv : VK, RetD K H2 Qv d → te σ2 H2 Qv) → R σ2 H'
theorem lcJ (n : Nat) (sel : Nat → Option PyData) (o : Own H0 H L) (hz : n < 10000000)
    (hst : ∀ H' p zs, Own H0 H' ((p, .lst zs) :: L) → Stp H H' → J.stop n H')
    (hgo : ∀ i H' p zs, i < n → Own H0 H' ((p, .lst zs) :: L) → Stp H H' → J.go i H')
    (he : ∀ (i : Nat) (x : V) (p : Addr) (zs : List V) (H' H1 : Hp) (R : L2.St → Hp → Prop), i < n → Own H0 H' ((p, .lst zs) :: L) → Stp H H' → J.yld i H' x H1 → (Same H' H1 → CGo K tt te vs σ (sel i) H1 R) → g x (wipe σ vs) H1 R)
    (hs : ∀ i H' x H1, J.yld i H' x H1 → Same H' H1)
    (k : ∀ p H' zs, Stp H H' → Own H0 H' ((p, .lst zs) :: L) → TpAll K H' zs ((List.range n).filterMap sel) → Q (.ref p) H') : RLc J g tt te vs σ H Q := by
  intro P hP
  refine ⟨fun i m H' => m = n - i ∧ i ≤ n ∧ ∃ zs, Own H0 H' ((P, .lst zs) :: L) ∧ Stp H H' ∧ TpAll K H' zs ((List.range i).filterMap sel), ⟨n, rfl, Nat.zero_le _, [], o.new hP, .of (same_new hP), .nil⟩, ?_⟩
  rintro i m H' ⟨rfl, hi, zs, o', s', t'⟩
  by_cases hlt : i < n
  · refine .inr ⟨hgo i H' P zs hlt o' s', fun H2 => ∃ zs, Own H0 H2 ((P, .lst zs) :: L) ∧ Stp H H2 ∧ TpAll K H2 zs ((List.range (i + 1)).filterMap sel), fun H2 p2 => ⟨n - (i + 1), by omega, rfl, hlt, p2⟩, fun x H1 hy => ?_⟩
    have s1 := hs i H' x H1 hy
    refine he i x P zs H' H1 _ hlt o' s' hy fun _ σ2 hw ht hv => ⟨hw, ?_⟩
    have o1 := o'.mono s1
    refine ht _ fun H2 s2 => ?_
    have o2 := o1.mono s2
    have t2 := (t'.up (.of s1)).up (Stp.of s2)
    have hl := t2.len
    have hl2 := fm_le (List.range i) sel
    rw [List.length_range] at hl2
    cases e : sel i with
    | none =>
      show ∃ zs, _
      rw [rfm_succ, e]
      exact ⟨zs, o2, (s'.trans (.of s1)).trans (.of s2), by rw [Option.toList_none, List.append_nil]; exact t2⟩
    | some d =>
      refine iteT (B := ∃ zs, Own H0 H2 ((P, .lst zs) :: L) ∧ Stp H H2 ∧ TpAll K H2 zs ((List.range (i + 1)).filterMap sel)) (hv d H2 e s2 _ fun H4 v s4 tv => ?_)
      have o4 := o2.mono s4
      have s5 := Stp.set (u := .lst (zs ++ [v])) (o4.at 0 rfl)
      refine ⟨zs, o4.at 0 rfl, sz_lt (by omega), zs ++ [v], o4.set (v := .lst (zs ++ [v])) 0 rfl, (((s'.trans (.of s1)).trans (.of s2)).trans (.of s4)).trans s5, ?_⟩
      rw [rfm_succ, e]
      exact (((t2.up (.of s4)).snoc tv).up s5)
  · refine .inl ⟨?_, ?_⟩
    · have e : i = n := by omega
      subst e
      exact hst H' P zs o' s'
    · have e : i = n := by omega
      subst e
      exact k P H' zs s' o' t'
/-- over a tuple -/
theorem lcjT {a : Addr} {xs : List V} (sel : Nat → Option PyData) (o : Own H0 H L) (h1 : SqT K H a xs) (hz : xs.length < 10000000)
    (he : ∀ (i : Nat) (x : V) (p : Addr) (zs : List V) (H' : Hp) (R : L2.St → Hp → Prop), xs[i]? = some x → Own H0 H' ((p, .lst zs) :: L) → Stp H H' → CGo K tt te vs σ (sel i) H' R → g x (wipe σ vs) H' R)
    (k : ∀ p H' zs, Stp H H' → Own H0 H' ((p, .lst zs) :: L) → TpAll K H' zs ((List.range xs.length).filterMap sel) → Q (.ref p) H') :
    ∃ a', V.ref a = .ref a' ∧ (∃ xs, SqT K H a' xs) ∧ RLc (Itt K a') g tt te vs σ H Q := by
  refine ⟨a, rfl, ⟨xs, h1⟩, lcJ xs.length sel o hz (fun H' p zs _ s' => ⟨xs, s'.sq h1, Nat.le_refl _⟩) (fun i H' p zs hi _ s' => ⟨xs, _, s'.sq h1, List.getElem?_eq_getElem hi⟩) (fun i x p zs H' H1 R hi o' s' hy r => ?_) (fun i H' x H1 hy => by rw [hy.1]; exact Same.refl _) k⟩
  obtain ⟨e, hx⟩ := hy
  subst e
  exact he i x p zs H1 R (hx xs (s'.sq h1)) o' s' (r (Same.refl _))
/-- over a list -/
theorem lcjL {a : Addr} {xs : List V} (sel : Nat → Option PyData) (o : Own H0 H L) (h : ∀ H' p zs, Own H0 H' ((p, .lst zs) :: L) → SqL K H' a xs) (h1 : SqL K H a xs) (hz : xs.length < 10000000)
    (he : ∀ (i : Nat) (x : V) (p : Addr) (zs : List V) (H' : Hp) (R : L2.St → Hp → Prop), xs[i]? = some x → Own H0 H' ((p, .lst zs) :: L) → Stp H H' → CGo K tt te vs σ (sel i) H' R → g x (wipe σ vs) H' R)
    (k : ∀ p H' zs, Stp H H' → Own H0 H' ((p, .lst zs) :: L) → TpAll K H' zs ((List.range xs.length).filterMap sel) → Q (.ref p) H') :
    ∃ a', V.ref a = .ref a' ∧ (∃ xs, SqL K H a' xs) ∧ RLc (Itl K a') g tt te vs σ H Q := by
  refine ⟨a, rfl, ⟨xs, h1⟩, lcJ xs.length sel o hz (fun H' p zs o' _ => ⟨xs, h H' p zs o', Nat.le_refl _⟩) (fun i H' p zs hi o' s' => ⟨xs, _, h H' p zs o', List.getElem?_eq_getElem hi⟩) (fun i x p zs H' H1 R hi o' s' hy r => ?_) (fun i H' x H1 hy => by rw [hy.1]; exact Same.refl _) k⟩
  obtain ⟨e, hx⟩ := hy
  subst e
  exact he i x p zs H1 R (hx xs (h H1 p zs o')) o' s' (r (Same.refl _))
/-- over range(n) -/
theorem lcjR {n : Nat} (sel : Nat → Option PyData) (o : Own H0 H L) (hn : j = (n : Int)) (hz : n < 10000000)
    (he : ∀ (i : Nat) (p : Addr) (zs : List V) (H' : Hp) (R : L2.St → Hp → Prop), i < n → Own H0 H' ((p, .lst zs) :: L) → Stp H H' → CGo K tt te vs σ (sel i) H' R → g (.int (i : Int)) (wipe σ vs) H' R)
    (k : ∀ p H' zs, Stp H H' → Own H0 H' ((p, .lst zs) :: L) → TpAll K H' zs ((List.range n).filterMap sel) → Q (.ref p) H') :
    ∃ k : Int, [V.int j] = [.int k] ∧ -(2 ^ 62) ≤ k ∧ k < 2 ^ 62 ∧ RLc (Itr 0 k.toNat) g tt te vs σ H Q := by
  refine ⟨j, rfl, by omega, by omega, ?_⟩
  have e : j.toNat = n := by omega
  rw [e]
  refine lcJ n sel o hz (fun H' p zs _ _ => Nat.le_refl _) (fun i H' p zs hi _ _ => hi) (fun i x p zs H' H1 R hi o' s' hy r => ?_) (fun i H' x H1 hy => by rw [hy.1]; exact Same.refl _) k
  obtain ⟨e, rfl⟩ := hy
  subst e
  have e0 : (0 : Int) + (i : Int) = (i : Int) := Int.zero_add _
  rw [e0]
  exact he i p zs H1 R hi o' s' (r (Same.refl _))
/-- over zip of two tuples, the shorter one ends it -/
theorem lcjZ {a b : Addr} {xs ys : List V} {n : Nat} (sel : Nat → Option PyData) (o : Own H0 H L) (h1 : SqT K H a xs) (h2 : SqT K H b ys) (hn : n = min xs.length ys.length) (hz : n < 10000000)
    (he : ∀ (i : Nat) (x y : V) (T : Addr) (p : Addr) (zs : List V) (H' : Hp) (R : L2.St → Hp → Prop), xs[i]? = some x → ys[i]? = some y → SqT K H' T [x, y] → Own H0 H' ((p, .lst zs) :: L) → Stp H H' → CGo K tt te vs σ (sel i) H' R → g (.ref T) (wipe σ vs) H' R)
    (k : ∀ p H' zs, Stp H H' → Own H0 H' ((p, .lst zs) :: L) → TpAll K H' zs ((List.range n).filterMap sel) → Q (.ref p) H') :
    RZipA K [.ref a, .ref b] H fun J H1 => RLc J g tt te vs σ H1 Q := by
  refine ⟨a, b, xs, ys, rfl, .inr ⟨h1, h2, lcJ n sel o hz (fun H' p zs _ s' => ⟨xs, ys, s'.sq h1, s'.sq h2, by omega⟩) (fun i H' p zs hi _ s' => ⟨xs, ys, _, _, s'.sq h1, s'.sq h2, List.getElem?_eq_getElem (by omega), List.getElem?_eq_getElem (by omega)⟩) (fun i x p zs H' H1 R hi o' s' hy r => ?_) (fun i H' x H1 hy => ?_) k⟩⟩
  · obtain ⟨T, u, v, rfl, hT, rfl, f1, f2⟩ := hy
    have s1 : Same H' (upd H' T (.tup [u, v])) := same_new hT
    exact he i u v T p zs _ R (f1 xs (s'.sq h1)) (f2 ys (s'.sq h2)) (SqT.of upd_same) (o'.mono s1) (s'.trans (.of s1)) (r s1)
  · obtain ⟨T, u, v, rfl, hT, rfl, f1, f2⟩ := hy
    exact same_new hT
/-- over zip of two lists -/
theorem lcjZL {a b : Addr} {xs ys : List V} {n : Nat} (sel : Nat → Option PyData) (o : Own H0 H L) (h : ∀ H' p zs, Own H0 H' ((p, .lst zs) :: L) → SqL K H' a xs ∧ SqL K H' b ys) (h1 : SqL K H a xs) (h2 : SqL K H b ys) (hn : n = min xs.length ys.length) (hz : n < 10000000)
    (he : ∀ (i : Nat) (x y : V) (T : Addr) (p : Addr) (zs : List V) (H' : Hp) (R : L2.St → Hp → Prop), xs[i]? = some x → ys[i]? = some y → SqT K H' T [x, y] → Own H0 H' ((p, .lst zs) :: L) → Stp H H' → CGo K tt te vs σ (sel i) H' R → g (.ref T) (wipe σ vs) H' R)
    (k : ∀ p H' zs, Stp H H' → Own H0 H' ((p, .lst zs) :: L) → TpAll K H' zs ((List.range n).filterMap sel) → Q (.ref p) H') :
    RZipA K [.ref a, .ref b] H fun J H1 => RLc J g tt te vs σ H1 Q := by
  refine ⟨a, b, xs, ys, rfl, .inl ⟨h1, h2, lcJ n sel o hz (fun H' p zs o' s' => ⟨xs, ys, (h H' p zs o').1, (h H' p zs o').2, by omega⟩) (fun i H' p zs hi o' s' => ⟨xs, ys, _, _, (h H' p zs o').1, (h H' p zs o').2, List.getElem?_eq_getElem (by omega), List.getElem?_eq_getElem (by omega)⟩) (fun i x p zs H' H1 R hi o' s' hy r => ?_) (fun i H' x H1 hy => ?_) k⟩⟩
  · obtain ⟨T, u, v, rfl, hT, rfl, f1, f2⟩ := hy
    have s1 : Same H' (upd H' T (.tup [u, v])) := same_new hT
    exact he i u v T p zs _ R (f1 xs (h H' p zs o').1) (f2 ys (h H' p zs o').2) (SqT.of upd_same) (o'.mono s1) (s'.trans (.of s1)) (r s1)
  · obtain ⟨T, u, v, rfl, hT, rfl, f1, f2⟩ := hy
    exact same_new hT
/-- enumerate(list) -/
theorem lcjE {a : Addr} {xs : List V} (sel : Nat → Option PyData) (o : Own H0 H L) (h : ∀ H' p zs, Own H0 H' ((p, .lst zs) :: L) → SqL K H' a xs) (h1 : SqL K H a xs) (hz : xs.length < 10000000)
    (he : ∀ (i : Nat) (x : V) (T : Addr) (p : Addr) (zs : List V) (H' : Hp) (R : L2.St → Hp → Prop), xs[i]? = some x → SqT K H' T [.int (i : Int), x] → Own H0 H' ((p, .lst zs) :: L) → Stp H H' → CGo K tt te vs σ (sel i) H' R → g (.ref T) (wipe σ vs) H' R)
    (k : ∀ p H' zs, Stp H H' → Own H0 H' ((p, .lst zs) :: L) → TpAll K H' zs ((List.range xs.length).filterMap sel) → Q (.ref p) H') :
    ∃ a' xs', [V.ref a] = [.ref a'] ∧ SqL K H a' xs' ∧ RLc (Ite K a') g tt te vs σ H Q := by
  refine ⟨a, xs, rfl, h1, lcJ xs.length sel o hz (fun H' p zs o' _ => ⟨xs, h H' p zs o', Nat.le_refl _⟩) (fun i H' p zs hi o' s' => ⟨xs, _, h H' p zs o', List.getElem?_eq_getElem hi⟩) (fun i x p zs H' H1 R hi o' s' hy r => ?_) (fun i H' x H1 hy => ?_) k⟩
  · obtain ⟨T, u, rfl, hT, rfl, f1⟩ := hy
    have s1 : Same H' (upd H' T (.tup [.int (i : Nat), u])) := same_new hT
    exact he i u T p zs _ R (f1 xs (h H' p zs o')) (SqT.of upd_same) (o'.mono s1) (s'.trans (.of s1)) (r s1)
  · obtain ⟨T, u, rfl, hT, rfl, f1⟩ := hy
    exact same_new hT
end
/-- three sequences as they stand at each turn, the items in new triples -/
def It3 (K : PySem.W.Frag) (k1 k2 k3 : Bool) (a b d : Addr) : It :=
  ⟨fun i H => ∃ (xs ys zs : List V), SqK K k1 H a xs ∧ SqK K k2 H b ys ∧ SqK K k3 H d zs ∧ i < xs.length ∧ i < ys.length ∧ i < zs.length,
    fun i H v H' => ∃ T x y u, v = .ref T ∧ H T = none ∧ H' = upd H T (.tup [x, y, u]) ∧ (∀ xs, SqK K k1 H a xs → xs[i]? = some x) ∧ (∀ ys, SqK K k2 H b ys → ys[i]? = some y) ∧ (∀ zs, SqK K k3 H d zs → zs[i]? = some u),
    fun i H => ∃ xs ys zs : List V, SqK K k1 H a xs ∧ SqK K k2 H b ys ∧ SqK K k3 H d zs ∧ i ≤ xs.length ∧ i ≤ ys.length ∧ i ≤ zs.length ∧ (i = xs.length ∨ i = ys.length ∨ i = zs.length)⟩
structure Ap3 (n z TI TO i1 i2 i3 a b d : Addr) : Prop where
  e0 : i1 = n
  e1 : i2 = n + 1
  e5 : i3 = n + 2
  e2 : TI = n + 3
  e3 : TO = n + 4
  e4 : z = n + 5
  la : a < n
  lb : b < n
  ld : d < n
theorem sepN3 (n a b d : Nat) (la : a < n) (lb : b < n) (ld : d < n) : ZipSep3 (n + 5) (n + 3) (n + 4) n (n + 1) (n + 2) [n, a] [n + 1, b] [n + 2, d] where
  TIz := show @Ne Nat _ _ by omega
  TOz := show @Ne Nat _ _ by omega
  TITO := show @Ne Nat _ _ by omega
  TIi1 := show @Ne Nat _ _ by omega
  mem1 := List.mem_cons_self
  zf1 := nin2 (by omega)
  Tf1 := nin2 (by omega)
  TIi2 := show @Ne Nat _ _ by omega
  mem2 := List.mem_cons_self
  zf2 := nin2 (by omega)
  Tf2 := nin2 (by omega)
  TIi3 := show @Ne Nat _ _ by omega
  mem3 := List.mem_cons_self
  zf3 := nin2 (by omega)
  Tf3 := nin2 (by omega)
  sep1_2 := nin2 (by omega)
  sep1_3 := nin2 (by omega)
  sep2_1 := nin2 (by omega)
  sep2_3 := nin2 (by omega)
  sep3_1 := nin2 (by omega)
  sep3_2 := nin2 (by omega)
theorem Ap3.sep {n z TI TO i1 i2 i3 a b d : Addr} (D : Ap3 n z TI TO i1 i2 i3 a b d) : ZipSep3 z TI TO i1 i2 i3 [i1, a] [i2, b] [i3, d] := by
  obtain ⟨rfl, rfl, rfl, rfl, rfl, rfl, la, lb, ld⟩ := D
  exact sepN3 _ a b d la lb ld
theorem Ap3.na {n z TI TO i1 i2 i3 a b d : Addr} (D : Ap3 n z TI TO i1 i2 i3 a b d) : a ≠ i1 := by
  rw [D.e0]
  exact Nat.ne_of_lt D.la
theorem Ap3.nb {n z TI TO i1 i2 i3 a b d : Addr} (D : Ap3 n z TI TO i1 i2 i3 a b d) : b ≠ i2 := by
  rw [D.e1]
  exact Nat.ne_of_lt (Nat.lt_succ_of_lt D.lb)
theorem Ap3.nd {n z TI TO i1 i2 i3 a b d : Addr} (D : Ap3 n z TI TO i1 i2 i3 a b d) : d ≠ i3 := by
  rw [D.e5]
  exact Nat.ne_of_lt (Nat.lt_succ_of_lt (Nat.lt_succ_of_lt D.ld))
theorem turn3 {P : Program} {w : World} {K : PySem.W.Frag} {k1 k2 k3 : Bool} {elts : List Expr} {kk : Nat} {tpos : Pos} {n a b d z TI TO i1 i2 i3 : Addr} (D : Ap3 n z TI TO i1 i2 i3 a b d) :
    Turn P w K (.Tuple elts kk tpos) (It3 K k1 k2 k3 a b d) [z, TI, TO, i1, i2, i3] z (fun i h => IsZip h z TI TO .none ∧ IsTupOf3 h TI (.ref i1) (.ref i2) (.ref i3) ∧ (∃ x y u, IsTupOf3 h TO x y u) ∧ HIt k1 h i1 a i ∧ HIt k2 h i2 b i ∧ HIt k3 h i3 d i) := by
  have S := D.sep
  have na := D.na
  have nb := D.nb
  have nd := D.nd
  refine ⟨by simp, fun i h st c hc => ?_, fun i h h' st k => ?_, ?_, ?_, fun A i s Q E st h => wpAny_pyIter_zip st.1 h⟩
  · obtain ⟨z1, z2, ⟨x, y, u, z3⟩, z4, z5, z6⟩ := st
    simp only [List.mem_cons, List.not_mem_nil, or_false] at hc
    rcases hc with q | q | q | q | q | q <;> rw [q]
    · exact ⟨_, z1, fun v q => nomatch q⟩
    · exact ⟨_, z2, fun v q => nomatch q⟩
    · exact ⟨_, z3, fun v q => nomatch q⟩
    · exact z4.obj
    · exact z5.obj
    · exact z6.obj
  · obtain ⟨z1, z2, ⟨x, y, u, z3⟩, z4, z5, z6⟩ := st
    exact ⟨k z (by simp) _ z1, k TI (by simp) _ z2, ⟨x, y, u, k TO (by simp) _ z3⟩, z4.at fun o q => k i1 (by simp) o q, z5.at fun o q => k i2 (by simp) o q, z6.at fun o q => k i3 (by simp) o q⟩
  · intro X hP hw hK hc i pins s σ H E I hf st hg
    subst hP hw hK
    obtain ⟨z1, z2, ⟨x0, y0, u0, z3⟩, z4, z5, z6⟩ := st
    obtain ⟨xs, ys, zs, sx, sy, sz, hx, hy, hz⟩ := hg
    obtain ⟨its, rv, p⟩ := seqK I sx
    obtain ⟨its2, rv2, p2⟩ := seqK I sy
    obtain ⟨its3, rv3, p3⟩ := seqK I sz
    have hh := hd_in1 (I.ok.hd hc)
    have l1 := rv.length
    have l2 := rv2.length
    have l3 := rv3.length
    have zlt : z < s.heap.objs.size := Heap.lt_size z1
    have lti : ∀ c ∈ [z, TI, TO, i1, i2, i3], c < s.heap.objs.size := fun c hcm => by
      simp only [List.mem_cons, List.not_mem_nil, or_false] at hcm
      rcases hcm with q | q | q | q | q | q <;> rw [q]
      · exact zlt
      · exact Heap.lt_size z2
      · exact Heap.lt_size z3
      · exact z4.lt
      · exact z5.lt
      · exact z6.lt
    refine wpAny_pyNext_zipD3_item S (drawsK k1 hh na its.toArray) (drawsK k2 hh nb its2.toArray) (drawsK k3 hh nd its3.toArray) z1 z2 z3 ⟨z4, p⟩ ⟨z5, p2⟩ ⟨z6, p3⟩ (by simp; omega) (by simp; omega) (by simp; omega) fun u1 u2 u3 h' tk hu1 hu2 hu3 g1 g2 g3 g4 g8 g5 g6 g7 => ?_
    refine ⟨_, rfl, wpAny_letOwnedTupleGo_zip (s := { s with heap := h', toks := tk }) g1 fun h2 y1 sb => ?_⟩
    have hu1' : its[i]? = some u1 := by simpa using hu1
    have hu2' : its2[i]? = some u2 := by simpa using hu2
    have hu3' : its3[i]? = some u3 := by simpa using hu3
    obtain ⟨x, hx1, r1⟩ := vals_of rv hu1'
    obtain ⟨y, hy1, r2⟩ := vals_of rv2 hu2'
    obtain ⟨u, hz1, r3⟩ := vals_of rv3 hu3'
    have eT : h2.get? s.heap.objs.size = some { cls := .type "tuple", data := .seq #[u1, u2, u3] } := (sb.2 _ (Nat.ne_of_gt zlt)).trans g5
    have new : ObjOk X.prog X.w (upd H s.heap.objs.size (.tup [x, y, u])) h2 s.heap.objs.size (.tup [x, y, u]) :=
      ⟨by show 3 ≤ sizeLine; decide, [u1, u2, u3], .cons r1 (.cons r2 (.cons r3 .nil)), ⟨_, eT, rfl, _, rfl⟩⟩
    have kept : ∀ c o, c ∉ [z, TI, TO, i1, i2, i3] → s.heap.get? c = some o → h2.get? c = some o := fun c o hb q => by
      simp only [List.mem_cons, List.not_mem_nil, or_false, not_or] at hb
      exact (sb.2 c hb.1).trans (g7 c o hb.1 hb.2.2.1 hb.2.2.2.1 hb.2.2.2.2.1 hb.2.2.2.2.2 q)
    have I1 : Inv X pins σ (upd H s.heap.objs.size (.tup [x, y, u])) { s with heap := h2, toks := tk } := I.turnedNew (t' := tk) kept hf (Nat.le_refl _) new
    refine ⟨.ref s.heap.objs.size, _, I1, rfl, ⟨_, x, y, u, rfl, I.hok.fresh (Nat.le_refl _), rfl, fun l hl => by rw [seqK_inj I hl sx]; exact hx1, fun l hl => by rw [seqK_inj I hl sy]; exact hy1, fun l hl => by rw [seqK_inj I hl sz]; exact hz1⟩, ⟨y1, ?_, ⟨u1, u2, u3, ?_⟩, ?_, ?_, ?_⟩, fun c hcm => ?_⟩
    · exact (sb.2 _ S.TIz).trans (g7 _ _ S.TIz S.TITO S.TIi1 S.TIi2 S.TIi3 z2)
    · exact (sb.2 _ S.TOz).trans g2
    · exact g3.1.at fun o q => (sb.2 _ S.zi1.symm).trans q
    · exact g4.1.at fun o q => (sb.2 _ S.zi2.symm).trans q
    · exact g8.1.at fun o q => (sb.2 _ S.zi3.symm).trans q
    · rw [upd_ne (Nat.ne_of_lt (lti c hcm))]
      exact (hf c hcm).1
  · intro X hP hw hK hc i pins s σ H E I hf st hg
    subst hP hw hK
    obtain ⟨z1, z2, ⟨x0, y0, u0, z3⟩, z4, z5, z6⟩ := st
    obtain ⟨xs, ys, zs, sx, sy, sz, hx, hy, hz, he⟩ := hg
    obtain ⟨its, rv, p⟩ := seqK I sx
    obtain ⟨its2, rv2, p2⟩ := seqK I sy
    obtain ⟨its3, rv3, p3⟩ := seqK I sz
    have hh := hd_in1 (I.ok.hd hc)
    have l1 := rv.length
    have l2 := rv2.length
    have l3 := rv3.length
    refine wpAny_pyNext_zipD3_end S (drawsK k1 hh na its.toArray) (drawsK k2 hh nb its2.toArray) (drawsK k3 hh nd its3.toArray) z1 z2 z3 ⟨z4, p⟩ ⟨z5, p2⟩ ⟨z6, p3⟩ (by simp; omega) (by simp; omega) (by simp; omega) (by simp; omega) fun h' tk g7 => ⟨rfl, ?_⟩
    refine I.turnedL (t' := tk) (ch := [z, TI, TO, i1, i2, i3]) (fun c o hb q => ?_) hf
    simp only [List.mem_cons, List.not_mem_nil, or_false, not_or] at hb
    exact g7 c o hb.1 hb.2.2.1 hb.2.2.2.1 hb.2.2.2.2.1 hb.2.2.2.2.2 q
def iZip3 (K : PySem.W.Frag) (k1 k2 k3 : Bool) (ta : TA) : TI := fun σ H R => ta σ H fun vs H1 => ∃ a b d xs ys zs, vs = [.ref a, .ref b, .ref d] ∧ SqK K k1 H1 a xs ∧ SqK K k2 H1 b ys ∧ SqK K k3 H1 d zs ∧ R (It3 K k1 k2 k3 a b d) H1
theorem pi_zip3 {X : Cx} {k1 k2 k3 : Bool} {e e2 e3 : Expr} {ta : TA} {p pos tpos : Pos} {elts : List Expr} {kk : Nat} (hg : Gl X "zip") (hm : X.mg "zip" = none) (ha : PA X [e, e2, e3] ta)
    (hst : starEach [e, e2, e3] X.env = (false, eval e X.env) :: starEach [e2, e3] X.env := by rfl) (hpl : (backTo pos (starEach [e2, e3] X.env)).any (·.1) = false := by rfl) :
    PI X (.Tuple elts kk tpos) (.Call (.Name "zip" p) [e, e2, e3] [] pos) (iZip3 X.K k1 k2 k3 ta) := by
  refine ⟨fun pins s σ H R I h => ?_⟩
  refine Call_ (ld_blt I hg hm PyProof.Rows.boot_zip (PyProof.Rows.callWith_type1 (thn (ha.run pos pins s σ H _ I h) fun us s1 ⟨vs, H1, I1, r1, q1⟩ => ?_) hst hpl))
  obtain ⟨a, b, d, xs, ys, zs, ex, qx, qy, qz, q⟩ := q1
  subst ex
  obtain ⟨its, rv, p1⟩ := seqK I1 qx
  obtain ⟨its2, rv2, p2⟩ := seqK I1 qy
  obtain ⟨its3, rv3, p3⟩ := seqK I1 qz
  cases r1 with
  | cons r rr =>
    cases rr with
    | cons r' rr =>
      cases rr with
      | cons r'' rr =>
        cases rr
        cases r
        cases r'
        cases r''
        refine zip_call3 p1 p2 p3 fun h' n en g1 g2 g3 g4 g5 g6 hk => wpAny_pyIter_zip g1 ?_
        have I2 : Inv X pins σ H1 { s1 with heap := h' } := I1.kept (t' := s1.toks) hk
        refine ⟨n + 5, [n + 5, n + 3, n + 4, n, n + 1, n + 2], _, _, H1, rfl, I2, turn3 (n := n) ⟨rfl, rfl, rfl, rfl, rfl, rfl, by rw [en]; exact p1.lt, by rw [en]; exact p2.lt, by rw [en]; exact p3.lt⟩, ⟨g1, g2, ⟨_, _, _, g3⟩, g4, g5, g6⟩, fun c hcm => ?_, q⟩
        have hle : s1.heap.objs.size ≤ c := by
          simp only [List.mem_cons, List.not_mem_nil, or_false] at hcm
          have en' : (n : Nat) = s1.heap.objs.size := en
          rcases hcm with z | z | z | z | z | z <;> rw [z] <;> omega
        exact I1.fpOk hle (I1.hok.fresh hle)
section
variable {σ : L2.St} {H H0 : Hp} {Q : VK} {te : TE} {tt : TT} {g : TG} {K : PySem.W.Frag} {L : List (Addr × HO)} {vs : List Nat} {tr : TA}
def RZ2 (K : PySem.W.Frag) (k1 k2 : Bool) (vs : List V) (H1 : Hp) (R : It → Hp → Prop) : Prop := ∃ a b xs ys, vs = [.ref a, .ref b] ∧ SqK K k1 H1 a xs ∧ SqK K k2 H1 b ys ∧ R (It2 K k1 k2 a b) H1
def RZ3 (K : PySem.W.Frag) (k1 k2 k3 : Bool) (vs : List V) (H1 : Hp) (R : It → Hp → Prop) : Prop := ∃ a b d xs ys zs, vs = [.ref a, .ref b, .ref d] ∧ SqK K k1 H1 a xs ∧ SqK K k2 H1 b ys ∧ SqK K k3 H1 d zs ∧ R (It3 K k1 k2 k3 a b d) H1
theorem r_z2 {k1 k2 : Bool} {R : It → Hp → Prop} (q : tr σ H fun vs H1 => RZ2 K k1 k2 vs H1 R) : iZip2 K k1 k2 tr σ H R := q
theorem r_z3 {k1 k2 k3 : Bool} {R : It → Hp → Prop} (q : tr σ H fun vs H1 => RZ3 K k1 k2 k3 vs H1 R) : iZip3 K k1 k2 k3 tr σ H R := q
/-- a comprehension over zip of two; sa, sb: that they stand -/
theorem lcj2 {k1 k2 : Bool} {a b : Addr} {xs ys : List V} {n : Nat} (sel : Nat → Option PyData) (o : Own H0 H L) (hq : ∀ H' p zs, Own H0 H' ((p, .lst zs) :: L) → Stp H H' → SqK K k1 H' a xs ∧ SqK K k2 H' b ys) (h1 : SqK K k1 H a xs) (h2 : SqK K k2 H b ys) (hn : n = min xs.length ys.length) (hz : n < 10000000)
    (he : ∀ (i : Nat) (x y : V) (T : Addr) (p : Addr) (zs : List V) (H' : Hp) (R : L2.St → Hp → Prop), xs[i]? = some x → ys[i]? = some y → SqT K H' T [x, y] → Own H0 H' ((p, .lst zs) :: L) → Stp H H' → CGo K tt te vs σ (sel i) H' R → g (.ref T) (wipe σ vs) H' R)
    (k : ∀ p H' zs, Stp H H' → Own H0 H' ((p, .lst zs) :: L) → TpAll K H' zs ((List.range n).filterMap sel) → Q (.ref p) H') :
    RZ2 K k1 k2 [.ref a, .ref b] H fun J H1 => RLc J g tt te vs σ H1 Q := by
  refine ⟨a, b, xs, ys, rfl, h1, h2, lcJ n sel o hz (fun H' p zs o' s' => ⟨xs, ys, (hq H' p zs o' s').1, (hq H' p zs o' s').2, by omega, by omega, by omega⟩) (fun i H' p zs hi o' s' => ⟨xs, ys, (hq H' p zs o' s').1, (hq H' p zs o' s').2, by omega, by omega⟩) (fun i x p zs H' H1 R hi o' s' hy r => ?_) (fun i H' x H1 hy => ?_) k⟩
  · obtain ⟨T, u, v, rfl, hT, rfl, f1, f2⟩ := hy
    have s1 : Same H' (upd H' T (.tup [u, v])) := same_new hT
    exact he i u v T p zs _ R (f1 xs (hq H' p zs o' s').1) (f2 ys (hq H' p zs o' s').2) (SqT.of upd_same) (o'.mono s1) (s'.trans (.of s1)) (r s1)
  · obtain ⟨T, u, v, rfl, hT, rfl, f1, f2⟩ := hy
    exact same_new hT
theorem lcj3 {k1 k2 k3 : Bool} {a b d : Addr} {xs ys us : List V} {n : Nat} (sel : Nat → Option PyData) (o : Own H0 H L) (hq : ∀ H' p zs, Own H0 H' ((p, .lst zs) :: L) → Stp H H' → SqK K k1 H' a xs ∧ SqK K k2 H' b ys ∧ SqK K k3 H' d us) (h1 : SqK K k1 H a xs) (h2 : SqK K k2 H b ys) (h3 : SqK K k3 H d us) (hn : n = min (min xs.length ys.length) us.length) (hz : n < 10000000)
    (he : ∀ (i : Nat) (x y u : V) (T : Addr) (p : Addr) (zs : List V) (H' : Hp) (R : L2.St → Hp → Prop), xs[i]? = some x → ys[i]? = some y → us[i]? = some u → SqT K H' T [x, y, u] → Own H0 H' ((p, .lst zs) :: L) → Stp H H' → CGo K tt te vs σ (sel i) H' R → g (.ref T) (wipe σ vs) H' R)
    (k : ∀ p H' zs, Stp H H' → Own H0 H' ((p, .lst zs) :: L) → TpAll K H' zs ((List.range n).filterMap sel) → Q (.ref p) H') :
    RZ3 K k1 k2 k3 [.ref a, .ref b, .ref d] H fun J H1 => RLc J g tt te vs σ H1 Q := by
  refine ⟨a, b, d, xs, ys, us, rfl, h1, h2, h3, lcJ n sel o hz (fun H' p zs o' s' => ?_) (fun i H' p zs hi o' s' => ?_) (fun i x p zs H' H1 R hi o' s' hy r => ?_) (fun i H' x H1 hy => ?_) k⟩
  · obtain ⟨q1, q2, q3⟩ := hq H' p zs o' s'
    exact ⟨xs, ys, us, q1, q2, q3, by omega, by omega, by omega, by omega⟩
  · obtain ⟨q1, q2, q3⟩ := hq H' p zs o' s'
    exact ⟨xs, ys, us, q1, q2, q3, by omega, by omega, by omega⟩
  · obtain ⟨q1, q2, q3⟩ := hq H' p zs o' s'
    obtain ⟨T, u, v, w, rfl, hT, rfl, f1, f2, f3⟩ := hy
    have s1 : Same H' (upd H' T (.tup [u, v, w])) := same_new hT
    exact he i u v w T p zs _ R (f1 xs q1) (f2 ys q2) (f3 us q3) (SqT.of upd_same) (o'.mono s1) (s'.trans (.of s1)) (r s1)
  · obtain ⟨T, u, v, w, rfl, hT, rfl, f1, f2, f3⟩ := hy
    exact same_new hT
end
/-! ### enumerate of any sequence -/
def eA (h : Heap) (k : Bool) (l : Addr) : Heap := h.push (itO k l)
def eB (h : Heap) (k : Bool) (l : Addr) : Heap := (eA h k l).push { cls := .type "enumerate", data := .fields #[.none, .bool false, .ref h.objs.size, rawInt 0, .none, .none] }
theorem enum_newK (k : Bool) (l : Addr) (items : Array Value) :
    Meets (Builtin.«enumerate.__new__» ⟨[.type "enumerate", .ref l], []⟩) (fun _ R s => HSq k s.heap l items ∧ (∃ o : Obj, s.heap.get? l = some o ∧ o.cls = .type (if k then "tuple" else "list") ∧ ∃ n, o.data = .seq items n) ∧
      R (.ok (.ret (.ref (eA s.heap k l).objs.size))) { s with heap := eB s.heap k l }) :=
  .of_wp fun prog w A R s h => by
    obtain ⟨hp, g, d, tk, os⟩ := s
    obtain ⟨q1, ⟨⟨c, dct, dt, sl⟩, hl, hc, n, hd⟩, h⟩ := h
    have hsub := sub_enumerate
    have p1 : HSq k (Shared.heap ⟨hp, g, d, tk, os⟩) l items := q1
    cases hc
    cases hd
    cases k
    all_goals
      wp_walk
      refine wpAny_stack_any fun st => wpAny_pure ?_
      split
      · rename_i c _ _ _ _ _
        cases (c == Value.type "enumerate")
        · wp_walk using wpAny_loadPart' hl, iterK p1
          exact ⟨_, rfl, h⟩
        · wp_walk using wpAny_loadPart' hl, iterK p1
          exact ⟨_, rfl, h⟩
      · wp_walk using wpAny_loadPart' hl, iterK p1
        exact ⟨_, rfl, h⟩
theorem HSq.obj {k : Bool} {h : Heap} {l : Addr} {xs : Array Value} (x : HSq k h l xs) : ∃ o : Obj, h.get? l = some o ∧ o.cls = .type (if k then "tuple" else "list") ∧ ∃ n, o.data = .seq xs n := by
  cases k
  · exact (show h.IsList l xs from x)
  · exact (show h.IsTuple l xs from x)
section
variable {prog : Program} {w : World} {A : Around} {E : Value → Shared → Prop} {s : Shared}
theorem enum_callK {k : Bool} {l : Addr} {items : Array Value} {Q : Value → Shared → Prop} (q1 : HSq k s.heap l items)
    (h : ∀ h' n, n = s.heap.objs.size → IsEnum h' (n + 1) n 0 .none → HIt k h' n l 0 → (∀ b o, s.heap.get? b = some o → h'.get? b = some o) → Q (.ref (n + 1)) { s with heap := h' }) :
    wpAny (model prog w) A (call (.type "enumerate") [.ref l]) Q E s := by
  refine callType_new F.called_enumerate (by decide) (F.typeCall_enumerate_1 _) (F.newCall_enumerate_1 _) (fun obj => F.args_object_init_2 obj _) F.entry_enumerate_new (enum_newK k l items) ⟨q1, q1.obj, ?_⟩
  have e1 : (eA s.heap k l).objs.size = s.heap.objs.size + 1 := Heap.size_push ..
  have uB : ∀ c o, (eA s.heap k l).get? c = some o → (eB s.heap k l).get? c = some o := fun c o e => Heap.get?_push_of_some _ e
  have g1 : (eB s.heap k l).get? (eA s.heap k l).objs.size = some _ := Heap.get?_push_size _ rfl
  rw [e1] at g1
  show _ ∧ _
  rw [e1]
  exact ⟨⟨_, g1, rfl⟩, h _ _ rfl g1 (HIt.mk0 (uB _ _ (Heap.get?_push_size _ rfl))) fun c o e => uB c o (Heap.get?_push_of_some _ e)⟩
end
/-- the sequence at a, each item in a new pair with its place -/
def ItE (K : PySem.W.Frag) (k : Bool) (a : Addr) : It :=
  ⟨fun i H => ∃ (xs : List V), SqK K k H a xs ∧ i < xs.length, fun i H v H' => ∃ T x, v = .ref T ∧ H T = none ∧ H' = upd H T (.tup [.int (i : Nat), x]) ∧ ∀ xs, SqK K k H a xs → xs[i]? = some x, fun i H => ∃ xs : List V, SqK K k H a xs ∧ i = xs.length⟩
theorem turnE {P : Program} {w : World} {K : PySem.W.Frag} {k : Bool} {elts : List Expr} {kk : Nat} {tpos : Pos} {a e it : Addr} (na : a ≠ it) (ne : e ≠ it) (nea : e ≠ a) :
    Turn P w K (.Tuple elts kk tpos) (ItE K k a) [e, it] e (fun i h => (∃ old, IsEnum h e it ((i : Nat) : Int) old) ∧ HIt k h it a i) := by
  refine ⟨by simp, fun i h st b hb => ?_, fun i h h' st kp => ?_, ?_, ?_, fun A i s Q E st h => by obtain ⟨⟨_, he⟩, _⟩ := st; exact wpAny_pyIter_enum he h⟩
  · obtain ⟨⟨old, he⟩, hi⟩ := st
    rcases List.mem_cons.mp hb with q | q
    · rw [q]; exact ⟨_, he, fun v q => nomatch q⟩
    · rw [List.mem_singleton.mp q]; exact hi.obj
  · obtain ⟨⟨old, he⟩, hi⟩ := st
    exact ⟨⟨old, kp e (by simp) _ he⟩, hi.at fun o q => kp it (by simp) o q⟩
  · intro X hP hw hK hc i pins s σ H E I hf st hg
    subst hP hw hK
    obtain ⟨⟨old, he⟩, hi⟩ := st
    obtain ⟨xs, sx, hx⟩ := hg
    obtain ⟨its, rv, p⟩ := seqK I sx
    have hh := hd_in1 (I.ok.hd hc)
    have l1 := rv.length
    have elt : e < s.heap.objs.size := Heap.lt_size he
    have ilt : it < s.heap.objs.size := hi.lt
    refine wpAny_pyNext_enum_itemD (drawsK k hh na its.toArray) he ⟨hi, p⟩ (by simp; omega) ne (nin2 ⟨ne, nea⟩) fun u h' tk hu ho st' hT hsz hk => ?_
    refine ⟨_, rfl, wpAny_letOwnedTupleGo_enum (s := { s with heap := h', toks := tk + 1 }) ho fun h2 he2 sb => ?_⟩
    have hu' : its[i]? = some u := by simpa using hu
    obtain ⟨x, hx1, r1⟩ := vals_of rv hu'
    have eT : h2.get? s.heap.objs.size = some { cls := .type "tuple", data := .seq #[.int i tk, u] } := (sb.2 _ (Nat.ne_of_gt elt)).trans hT
    have new : ObjOk X.prog X.w (upd H s.heap.objs.size (.tup [.int (i : Nat), x])) h2 s.heap.objs.size (.tup [.int (i : Nat), x]) :=
      ⟨by show 2 ≤ sizeLine; decide, [.int i tk, u], .cons ⟨_, rfl⟩ (.cons r1 .nil), ⟨_, eT, rfl, _, rfl⟩⟩
    have kept : ∀ c o, c ∉ [e, it] → s.heap.get? c = some o → h2.get? c = some o := fun c o hb q => by
      simp only [List.mem_cons, List.not_mem_nil, or_false, not_or] at hb
      exact (sb.2 c hb.1).trans (hk c o hb.1 hb.2 q)
    have I1 : Inv X pins σ (upd H s.heap.objs.size (.tup [.int (i : Nat), x])) { s with heap := h2, toks := tk + 1 } := I.turnedNew (t' := tk + 1) kept hf (Nat.le_refl _) new
    refine ⟨.ref s.heap.objs.size, _, I1, rfl, ⟨_, x, rfl, I.hok.fresh (Nat.le_refl _), rfl, fun l hl => by rw [seqK_inj I hl sx]; exact hx1⟩, ⟨⟨u, ?_⟩, st'.1.at fun o q => (sb.2 it (Ne.symm ne)).trans q⟩, fun c hcm => ?_⟩
    · have e1 : ((i + 1 : Nat) : Int) = (i : Int) + 1 := by omega
      rw [e1]
      exact he2
    · have clt : c < s.heap.objs.size := by
        rcases List.mem_cons.mp hcm with q | q
        · rw [q]; exact elt
        · rw [List.mem_singleton.mp q]; exact ilt
      rw [upd_ne (Nat.ne_of_lt clt)]
      exact (hf c hcm).1
  · intro X hP hw hK hc i pins s σ H E I hf st hg
    subst hP hw hK
    obtain ⟨⟨old, he⟩, hi⟩ := st
    obtain ⟨xs, sx, hx⟩ := hg
    obtain ⟨its, rv, p⟩ := seqK I sx
    have hh := hd_in1 (I.ok.hd hc)
    have l1 := rv.length
    have ei : i = its.toArray.size := by simp; omega
    refine wpAny_pyNext_enum_endD (drawsK k hh na its.toArray) he ⟨by rw [← ei]; exact hi, p⟩ fun h' eb => ⟨rfl, ?_⟩
    refine I.turnedL (t' := s.toks) (ch := [e, it]) (fun c o hb q => ?_) hf
    simp only [List.mem_cons, List.not_mem_nil, or_false, not_or] at hb
    exact eb c o hb.2 q
def iEnumK (K : PySem.W.Frag) (k : Bool) (ta : TA) : TI := fun σ H R => ta σ H fun vs H1 => ∃ a xs, vs = [.ref a] ∧ SqK K k H1 a xs ∧ R (ItE K k a) H1
theorem pi_enumK {X : Cx} {k : Bool} {e : Expr} {ta : TA} {p pos tpos : Pos} {elts : List Expr} {kk : Nat} (hg : Gl X "enumerate") (hm : X.mg "enumerate" = none) (ha : PA X [e] ta) (hst : starEach [e] X.env = [(false, eval e X.env)] := by rfl) :
    PI X (.Tuple elts kk tpos) (.Call (.Name "enumerate" p) [e] [] pos) (iEnumK X.K k ta) := by
  refine ⟨fun pins s σ H R I h => ?_⟩
  refine Call_ (ld_blt I hg hm boot_enumerate (PyProof.Rows.callWith_type1 (thn (ha.run pos pins s σ H _ I h) fun us s1 ⟨vs, H1, I1, r1, q1⟩ => ?_) hst rfl))
  obtain ⟨a, xs, ex, hq, q⟩ := q1
  subst ex
  obtain ⟨its, rv, p1⟩ := seqK I1 hq
  cases r1 with
  | cons r rr =>
    cases rr
    cases r
    refine enum_callK p1 fun h' n en g1 g2 hk => wpAny_pyIter_enum g1 ?_
    have I2 : Inv X pins σ H1 { s1 with heap := h' } := I1.kept (t' := s1.toks) hk
    have al : a < n := by rw [en]; exact p1.lt
    refine ⟨n + 1, [n + 1, n], _, _, H1, rfl, I2, turnE (Nat.ne_of_lt al) (Nat.succ_ne_self _) (Nat.ne_of_gt (Nat.lt_succ_of_lt al)), ⟨⟨.none, g1⟩, g2⟩, fun c hcm => ?_, q⟩
    have hle : s1.heap.objs.size ≤ c := by
      rcases List.mem_cons.mp hcm with z | z
      · rw [z, en]; exact Nat.le_succ _
      · rw [List.mem_singleton.mp z, en]; exact Nat.le_refl _
    exact I1.fpOk hle (I1.hok.fresh hle)
section
variable {σ : L2.St} {H H0 : Hp} {Q : VK} {te : TE} {tt : TT} {g : TG} {K : PySem.W.Frag} {L : List (Addr × HO)} {vs : List Nat} {tr : TA}
def REn (K : PySem.W.Frag) (k : Bool) (vs : List V) (H1 : Hp) (R : It → Hp → Prop) : Prop := ∃ a xs, vs = [.ref a] ∧ SqK K k H1 a xs ∧ R (ItE K k a) H1
theorem r_en {k : Bool} {R : It → Hp → Prop} (q : tr σ H fun vs H1 => REn K k vs H1 R) : iEnumK K k tr σ H R := q
theorem lcjEn {k : Bool} {a : Addr} {xs : List V} (sel : Nat → Option PyData) (o : Own H0 H L) (hq : ∀ H' p zs, Own H0 H' ((p, .lst zs) :: L) → Stp H H' → SqK K k H' a xs) (h1 : SqK K k H a xs) (hz : xs.length < 10000000)
    (he : ∀ (i : Nat) (x : V) (T : Addr) (p : Addr) (zs : List V) (H' : Hp) (R : L2.St → Hp → Prop), xs[i]? = some x → SqT K H' T [.int (i : Int), x] → Own H0 H' ((p, .lst zs) :: L) → Stp H H' → CGo K tt te vs σ (sel i) H' R → g (.ref T) (wipe σ vs) H' R)
    (kd : ∀ p H' zs, Stp H H' → Own H0 H' ((p, .lst zs) :: L) → TpAll K H' zs ((List.range xs.length).filterMap sel) → Q (.ref p) H') :
    REn K k [.ref a] H fun J H1 => RLc J g tt te vs σ H1 Q := by
  refine ⟨a, xs, rfl, h1, lcJ xs.length sel o hz (fun H' p zs o' s' => ⟨xs, hq H' p zs o' s', rfl⟩) (fun i H' p zs hi o' s' => ⟨xs, hq H' p zs o' s', hi⟩) (fun i x p zs H' H1 R hi o' s' hy r => ?_) (fun i H' x H1 hy => ?_) kd⟩
  · obtain ⟨T, u, rfl, hT, rfl, f1⟩ := hy
    have s1 : Same H' (upd H' T (.tup [.int (i : Nat), u])) := same_new hT
    exact he i u T p zs _ R (f1 xs (hq H' p zs o' s')) (SqT.of upd_same) (o'.mono s1) (s'.trans (.of s1)) (r s1)
  · obtain ⟨T, u, rfl, hT, rfl, f1⟩ := hy
    exact same_new hT
end
/-! ### a tuple times an int: once is the tuple itself, not at all the empty one -/
theorem tup_mul1 (l : Addr) (items : Array Value) (n : Nat) (dd : Option Addr) (sl : Array (Option Value)) (u : Tok) :
    Meets (Builtin.«tuple.__mul__» ⟨[.ref l, .int 1 u], []⟩) (fun _ R s => s.heap.get? l = some { cls := .type "tuple", dict := dd, data := .seq items n, slots := sl } ∧ R (.ok (.ret (.ref l))) s) :=
  .of_wp fun prog w A R s h => by
    obtain ⟨hp, g, d, tk, os⟩ := s
    obtain ⟨hl, h⟩ := h
    have f1 := AutoSeq1.idx_int
    have c1 : (items.isEmpty || (1 : Int) == 1) = true := by simp
    wp_walk using wpAny_loadPart' hl
    exact ⟨_, rfl, h⟩
theorem tup_mul0 (l : Addr) (items : Array Value) (n : Nat) (dd : Option Addr) (sl : Array (Option Value)) (u : Tok) (c1 : items.isEmpty = false) :
    Meets (Builtin.«tuple.__mul__» ⟨[.ref l, .int 0 u], []⟩) (fun _ R s => s.heap.get? l = some { cls := .type "tuple", dict := dd, data := .seq items n, slots := sl } ∧
      R (.ok (.ret (.ref s.heap.objs.size))) { s with heap := s.heap.push { cls := .type "tuple", data := .seq #[] } }) :=
  .of_wp fun prog w A R s h => by
    obtain ⟨hp, g, d, tk, os⟩ := s
    obtain ⟨hl, h⟩ := h
    have f1 := AutoSeq1.idx_int
    have c2 : (items.isEmpty || (0 : Int) == 1) = false := by rw [c1]; rfl
    wp_walk using wpAny_loadPart' hl
    repeat (first
      | (refine wpAny_ite_false (decide_eq_false (by rw [c2]; exact Bool.false_ne_true)) ?_; wp_walk using wpAny_loadPart' hl))
    exact ⟨_, rfl, h⟩
def rRepA (K : PySem.W.Frag) : R2 := fun x y H Q => ∃ l k xs, x = .ref l ∧ y = .int k ∧ SqT K H l xs ∧ xs ≠ [] ∧ 0 ≤ k ∧ k ≤ 1000 ∧ xs.length ≤ 1000 ∧ (k = 1 → Q (.ref l) H) ∧ (k ≠ 1 → ∀ p, H p = none → Q (.ref p) (upd H p (.tup (List.replicate k.toNat xs).flatten)))
theorem op_repA {X : Cx} : OpR X (binaryOp .Mult) (rRepA X.K) := by
  intro pins s σ H x y v u Q I rx ry h
  obtain ⟨l, k, xs, rfl, rfl, hT, hne, h1, h2, hz, q1, q⟩ := h
  by_cases hk1 : k = 1
  · subst hk1
    cases rx
    obtain ⟨t, rfl⟩ := ry
    obtain ⟨its, r, ⟨⟨cls, dd, data, sl⟩, ho, hc, n, hd⟩, hs⟩ := I.tuple hT
    simp only at hc hd
    subst hc hd
    refine wpAny_binaryOp_repeat_ref (T := "tuple") (U := "int") (by decide) ⟨_, ho, rfl⟩ (fun s' => typeIs_int s' 1 t) noFill_tuple_mul F.fills_int_mul F.slot_int_rmul repeat_tuple F.slot_int_index.lookup
      (call_meets F.slot_int_rmul (typeIs_int s 1 t) F.entry_int_rmul (F.args_int_rmul_2 _ _) (int_rmul_tuple 1 t l its.toArray n dd sl)
        ⟨ho, rfl, ⟨_, ho, rfl⟩, call_meets F.slot_tuple_mul ⟨_, ho, rfl⟩ F.entry_tuple_mul (F.args_tuple_mul_2 _ _) (tup_mul1 l its.toArray n dd sl t) ⟨ho, ?_⟩⟩)
    exact ⟨.ref l, H, I, rfl, q1 rfl⟩
  by_cases hk0 : k = 0
  · subst hk0
    cases rx
    obtain ⟨t, rfl⟩ := ry
    obtain ⟨its, r, ⟨⟨cls, dd, data, sl⟩, ho, hc, n, hd⟩, hs⟩ := I.tuple hT
    simp only at hc hd
    subst hc hd
    have hi : its.toArray.isEmpty = false := by
      have hl := r.length
      cases its with
      | nil => exact absurd (List.eq_nil_of_length_eq_zero hl) hne
      | cons a b => rfl
    refine wpAny_binaryOp_repeat_ref (T := "tuple") (U := "int") (by decide) ⟨_, ho, rfl⟩ (fun s' => typeIs_int s' 0 t) noFill_tuple_mul F.fills_int_mul F.slot_int_rmul repeat_tuple F.slot_int_index.lookup
      (call_meets F.slot_int_rmul (typeIs_int s 0 t) F.entry_int_rmul (F.args_int_rmul_2 _ _) (int_rmul_tuple 0 t l its.toArray n dd sl)
        ⟨ho, rfl, ⟨_, ho, rfl⟩, call_meets F.slot_tuple_mul ⟨_, ho, rfl⟩ F.entry_tuple_mul (F.args_tuple_mul_2 _ _) (tup_mul0 l its.toArray n dd sl t hi) ⟨ho, ?_⟩⟩)
    refine ⟨.ref s.heap.objs.size, _, I.laid (t' := s.toks) (o := .tup []) (fun b ob q => Heap.get?_push_of_some _ q) (Nat.le_refl _) ?_, rfl, q hk1 _ (I.hok.fresh (Nat.le_refl _))⟩
    exact ⟨Nat.zero_le _, _, .nil, IsTup.new _ _⟩
  · exact op_repT pins s σ H _ _ v u Q I rx ry ⟨l, k, xs, rfl, rfl, hT, hne, by omega, h2, hz, q hk1⟩
section
variable {H0 H : Hp} {Q : VK} {K : PySem.W.Frag} {L : List (Addr × HO)}
/-- (x,) * n -/
theorem r_repA {a : Addr} {x : V} {i : Int} {n : Nat} (o : Own H0 H L) (ha : SqT K H a [x]) (hi : i = (n : Int)) (hn : n ≤ 1000) (k : ∀ p H', Stp H H' → Own H0 H' L → SqT K H' p (List.replicate n x) → Q (.ref p) H') : rRepA K (.ref a) (.int i) H Q := by
  subst hi
  refine ⟨a, _, [x], rfl, rfl, ha, by simp, by omega, by omega, by simp, fun e => ?_, fun e p hp => ?_⟩
  · have en : n = 1 := by omega
    subst en
    exact k a H (.refl _) o ha
  · have e2 : (List.replicate (n : Int).toNat [x]).flatten = List.replicate n x := by
      rw [show (n : Int).toNat = n from rfl]
      exact flat_rep n x
    rw [e2]
    exact k p _ (.of (same_new hp)) (o.mono (same_new hp)) (SqT.of upd_same)
/-- t[lo:hi] -/
theorem r_slA {a : Addr} {xs : List V} {lo hi : Option Int} (o : Own H0 H L) (ha : SqT K H a xs) (k : ∀ p H', Stp H H' → Own H0 H' L → SqT K H' p (cutV xs lo hi) → Q (.ref p) H') : rSlA K (.ref a) lo hi H Q := by
  refine ⟨a, xs, rfl, ha, fun e => ?_, fun _ p hp => k p _ (.of (same_new hp)) (o.mono (same_new hp)) (SqT.of upd_same)⟩
  refine k a H (.refl _) o ?_
  have e2 : cutV xs lo hi = xs := by
    unfold cutV
    rw [e.1, e.2]
    simp
  rw [e2]
  exact ha
/-- t + u -/
theorem r_catA {a b : Addr} {xs ys : List V} (o : Own H0 H L) (ha : SqT K H a xs) (hb : SqT K H b ys) (hz : xs.length + ys.length ≤ 10000000) (k : ∀ p H', Stp H H' → Own H0 H' L → SqT K H' p (xs ++ ys) → Q (.ref p) H') : rCatA K (.ref a) (.ref b) H Q := by
  refine ⟨a, b, xs, ys, rfl, rfl, ha, hb, sz100 hz, fun e => ?_, fun _ e => ?_, fun _ _ p hp => k p _ (.of (same_new hp)) (o.mono (same_new hp)) (SqT.of upd_same)⟩
  · subst e
    exact k b H (.refl _) o hb
  · subst e
    exact k a H (.refl _) o (by rw [List.append_nil]; exact ha)
end
/-! ### walks with K told (within comprehensions) -/
theorem pi_listK {X : Cx} {K : PySem.W.Frag} {tg e : Expr} {te : TE} (hK : X.K = K) (he : PE X e te) : PI X tg e (iList K te) := by
  subst hK
  exact pi_list he
theorem pi_tupK {X : Cx} {K : PySem.W.Frag} {tg e : Expr} {te : TE} (hK : X.K = K) (he : PE X e te) : PI X tg e (iTup K te) := by
  subst hK
  exact pi_tup he
theorem pi_zip2K {X : Cx} {K : PySem.W.Frag} {k1 k2 : Bool} {e e2 : Expr} {ta : TA} {p pos tpos : Pos} {elts : List Expr} {kk : Nat} (hK : X.K = K) (hg : Gl X "zip") (hm : X.mg "zip" = none) (ha : PA X [e, e2] ta)
    (hst : starEach [e, e2] X.env = (false, eval e X.env) :: starEach [e2] X.env := by rfl) (hpl : (backTo pos (starEach [e2] X.env)).any (·.1) = false := by rfl) :
    PI X (.Tuple elts kk tpos) (.Call (.Name "zip" p) [e, e2] [] pos) (iZip2 K k1 k2 ta) := by
  subst hK
  exact pi_zip2 hg hm ha hst hpl
theorem pi_zip3K {X : Cx} {K : PySem.W.Frag} {k1 k2 k3 : Bool} {e e2 e3 : Expr} {ta : TA} {p pos tpos : Pos} {elts : List Expr} {kk : Nat} (hK : X.K = K) (hg : Gl X "zip") (hm : X.mg "zip" = none) (ha : PA X [e, e2, e3] ta)
    (hst : starEach [e, e2, e3] X.env = (false, eval e X.env) :: starEach [e2, e3] X.env := by rfl) (hpl : (backTo pos (starEach [e2, e3] X.env)).any (·.1) = false := by rfl) :
    PI X (.Tuple elts kk tpos) (.Call (.Name "zip" p) [e, e2, e3] [] pos) (iZip3 K k1 k2 k3 ta) := by
  subst hK
  exact pi_zip3 hg hm ha hst hpl
theorem pi_enumKK {X : Cx} {K : PySem.W.Frag} {k : Bool} {e : Expr} {ta : TA} {p pos tpos : Pos} {elts : List Expr} {kk : Nat} (hK : X.K = K) (hg : Gl X "enumerate") (hm : X.mg "enumerate" = none) (ha : PA X [e] ta) (hst : starEach [e] X.env = [(false, eval e X.env)] := by rfl) :
    PI X (.Tuple elts kk tpos) (.Call (.Name "enumerate" p) [e] [] pos) (iEnumK K k ta) := by
  subst hK
  exact pi_enumK hg hm ha hst
/-! ### own errors whose __init__ calls super().__init__ -/
/-- what is asked of the program as a whole -/
structure PrOk (P : Program) : Prop where
  file : P.main.file = "/claim/cut.py"
  top : (P.main.scope.names.lookup ("super" : Str)).isSome = false
/-- the def at fI is the __init__ of the class at C and closes over it -/
structure SupAt (K : PySem.W.Frag) (C : Addr) (qn : Str) (st : Stmt) (fI : Addr) (fd : FuncData) : Prop where
  ex : ∃ (oc : Value) (od : Option Addr) (kV doc pm : Value) (an : Option Addr) (cda cc : Addr) (ct : Value) (osl : Array (Option Value)),
    fd = PySem.W.fnX "__init__" qn (defArgs st) (defBody st) (defScope st) [("__class__", cc)] .none kV doc pm an (.ref cda) ct ∧ K.lookup fI = some ⟨oc, od, .func fd, osl⟩ ∧ PySem.W.codeIn K (.ref cda) qn = true ∧
    (∃ (cl : Value) (cld : Option Addr) (csl : Array (Option Value)), K.lookup cc = some ⟨cl, cld, .cell (some (.ref C)), csl⟩) ∧
    ∃ (cl : Value) (cld : Option Addr) (csl : Array (Option Value)) (fs : Array Value) (tf : Tok), K.lookup cda = some ⟨cl, cld, .fields fs, csl⟩ ∧ fs[2]? = some (.str "/claim/cut.py" tf)
/-- what else the written part says of the class -/
structure SupC (K : PySem.W.Frag) (C : Addr) : Prop where
  oex : OexC K C
  ini : PySem.W.ks_superIn K C C "__init__" = some (some (.builtin "ValueError.__init__"))
  sub : PySem.W.subIn K (.ref C) (.type "ValueError") = some true
  self : PySem.W.mroIn K C (.ref C) = some true
  stat : PySem.W.nsIn K PySem.cStatics "thirdparty.any" = some none
theorem mw_call1 {M : Model} {A : Around} {E : Value → Shared → Prop} {s : Shared} {u x : Addr} {i : String} {pos : Pos} {env : Env} {e : Expr} {Q : Value → Shared → Prop} (hst : starEach [e] env = [(false, eval e env)])
    (h : wpAny M A (spliced (backTo pos (starEach [e] env))) (fun vs s₁ => PySem.W.KxsAt i u x s₁.heap ∧ wpAny M A (call (.ref u) vs) Q E s₁) E s) : wpAny M A (callWith pos (.ref u) [] (backTo pos (starEach [e] env)) []) Q E s := by
  rw [hst] at h ⊢
  exact PySem.W.kxs_callWith (i := i) (x := x) rfl (Calls.evalArgs_plain h)
theorem cls_obj {K : PySem.W.Frag} {C : Addr} {cd : ClassData} (h : PySem.W.clsIn K C = some cd) : ∃ o, K.lookup C = some o ∧ o.data = .cls cd := by
  unfold PySem.W.clsIn at h
  split at h
  · rename_i c d cd' sl ho
    cases h
    exact ⟨_, ho, rfl⟩
  · cases h
section
variable {P : Program} {w : World} {K : PySem.W.Frag} {mg : Str → Option Value} {base : Heap}
abbrev supF (qn : Str) (st : Stmt) (cda cc : Addr) : NdefX.NF := ⟨"__init__", qn, defArgs st, [], defScope st, [("__class__", cc)], cda⟩
theorem SupAt.ok {C fI : Addr} {qn : Str} {st : Stmt} {N ps : List Str} {k : Nat} {sp : Sp} {fd : FuncData} {p0 p1 p2 p3 p4 : Pos} {msg : Expr} {pl : Env → Sem Bool} {rest : List Stmt} {ar : Arg} (S : SupAt K C qn st fI fd) (hP : PrOk P) (U : SupC K C) (Z : NdefX.NScope N ps ["__class__"] (defScope st))
    (hsup : mg "super" = none) (har : ((defArgs st).posonlyargs ++ (defArgs st).args).head? = some ar) (han : ps.head? = some ar.arg)
    (hks : (defScope st).names.lookup ("super" : Str) = some .globalImplicit)
    (hB : defBody st = .Expr (.Call (.Attribute (.Call (.Name "super" p0) [] [] p1) "__init__" p2) [msg] [] p3) p4 :: rest)
    (hst : ∀ env : Env, starEach [msg] env = [(false, eval msg env)]) (hsw : ∀ env : Env, swapsWith (.Call (.Attribute (.Call (.Name "super" p0) [] [] p1) "__init__" p2) [msg] [] p3) none p4.line env = pure false)
    (hev : ∀ env : Env, eval (.Call (.Attribute (.Call (.Name "super" p0) [] [] p1) "__init__" p2) [msg] [] p3) env = (do
      let ov ← attributeBase (.Call (.Name "super" p0) [] [] p1) "__init__" env (eval (.Call (.Name "super" p0) [] [] p1) env)
      standAt p2.atName
      let (f, first) ← holding [ov] (getMethod ov "__init__" (pl env))
      callWith p3 f first (backTo p3 (starEach [msg] env)) []))
    (len : ∀ vs H Q E, sp vs H Q E → vs.length = ps.length)
    (hbody : ∀ (cda cc : Addr) (A : Around) (outer : List Env) (s : Shared) (H : Hp) (vs : List V) (Q : VK) (E : XK), Room k (A.deeper (NdefX.envF (supF qn st cda cc) fI s.heap.objs.size)) → sp vs H Q E →
      ∃ (a : Addr) (vs2 : List V) (tm : TE) (tr : TS), vs = .ref a :: vs2 ∧ H a = some (exo a C none) ∧ PE (NdefX.ncx CX0 P w K mg base N (supF qn st cda cc) fI A outer s H E) msg tm ∧ PSs (NdefX.ncx CX0 P w K mg base N (supF qn st cda cc) fI A outer s H E) rest tr ∧
        tm (NdefX.startF N vs [none]) H fun x H1 => (∃ v, [x] = [v]) ∧ H1 a = some (exo a C none) ∧ tr { nx := fun _ H' => Q .non H', rt := Q } (NdefX.startF N vs [none]) H1) :
    FnOk P w K mg base CX0 (k + 1) fI fd ps sp := by
  obtain ⟨oc, od, kV, doc, pm, an, cda, cc, ct, osl, rfl, lk, hcd, ⟨cl1, cld1, csl1, hcc⟩, cl2, cld2, csl2, fs, tf, hcda, hfs⟩ := S.ex
  refine ⟨len, fun A outer s H args us vs Q E hr e0 hb r hsp => ?_⟩
  have KX : K.In s.heap := e0.mod.kin.keeps fun b o e => (e0.bs b o e).1
  have lim : s.heap.NoLimit := e0.mod.nolimit.keeps fun b o e => (e0.bs b o e).1
  have hl := len _ _ _ _ hsp
  have ccH : H cc = none := (e0.bs cc _ (e0.mod.kin _ _ hcc)).2
  have CA : NdefX.CellsAt [("__class__", cc)] ["__class__"] [none] s.heap H := by
    have look : ∀ y c, List.lookup y [(("__class__" : Str), cc)] = some c → y = "__class__" ∧ c = cc := fun y c h => by
      by_cases e : y = "__class__"
      · subst e
        simp [List.lookup] at h
        exact ⟨rfl, h.symm⟩
      · have e2 : (y == ("__class__" : Str)) = false := by simpa using e
        simp [List.lookup, e2] at h
    refine ⟨rfl, fun y c h => ?_, fun x y c h1 h2 => ?_, fun i y h => ?_⟩
    · obtain ⟨rfl, rfl⟩ := look y c h
      exact ⟨ccH, _, _, KX _ _ hcc, rfl⟩
    · rw [(look x c h1).1, (look y c h2).1]
    · match i, h with
      | 0, h =>
        have e : y = "__class__" := (Option.some.inj h).symm
        subst e
        exact ⟨cc, by simp [List.lookup], fun v z => by cases z⟩
  obtain ⟨a, vs2, tm, tr, hvs, ha, hm, htr, hq⟩ := hbody cda cc A outer s H vs Q E (hr.deeper _) hsp
  refine PySem.ks_codeAny_call_defAt (binds := ps.zip us) hr.depth (KX _ _ lk) rfl lim (PySem.W.codeRec_of KX hcd) rfl hb Z.nocell (fun ⟨n, _⟩ hy => Z.par n (List.of_mem_zip hy).1) (fun h₀ hns kp => ?_) Z.co Z.gen Z.kind
  have I := NdefX.inv_startN (f := fI) (F := supF qn st cda cc) (CX := CX0) (E := E) (tk := s.toks + (ps.zip us).length) Z hr.hd e0 hl r CA hns kp
  have q0 : ∃ us2, us = .ref a :: us2 := by
    subst hvs
    cases r with
    | @cons _ u0 _ ur r0 r1 =>
      obtain rfl : u0 = Value.ref a := r0
      exact ⟨ur, rfl⟩
  obtain ⟨us2, hus⟩ := q0
  obtain ⟨p', ps2, hps⟩ : ∃ p' ps2, ps = p' :: ps2 := by
    cases ps with
    | nil => cases han
    | cons p' ps2 => exact ⟨p', ps2, rfl⟩
  have hp' : p' = ar.arg := by
    rw [hps] at han
    exact Option.some.inj han
  have ndP : ps.Nodup := by
    have q := Z.nd.sublist (List.take_sublist (ps.length + 1) N)
    rw [show N.take (ps.length + 1) = ps ++ [("__class__" : Str)] from Z.pre] at q
    exact (List.nodup_append.mp q).1
  have hself : (ps.zip us).reverse.lookup ar.arg = some (.ref a) := by
    refine NdefX.zip_look (i := 0) ndP ?_ ?_
    · rw [hps, hp']; rfl
    · rw [hus]; rfl
  have hself2 : (defScope st).names.lookup ar.arg = some .local := by
    rw [← hp']
    exact Z.par p' (by rw [hps]; exact List.mem_cons_self ..)
  refine PySem.ks_wpAt_mono (Q := SP (NdefX.ncx CX0 P w K mg base N (supF qn st cda cc) fI A outer s H E) [] { nx := fun _ H' => Q .non H', rt := Q }) (E := (NdefX.ncx CX0 P w K mg base N (supF qn st cda cc) fI A outer s H E).xe) ?_ (fun fl s' hs => ?_) fun _ _ z => z
  · show PySem.wpAt _ _ _ (execs (defBody st) _) _ _ _
    obtain ⟨oD, hD0, hD2⟩ : ∃ o, K.lookup C = some o ∧ ∃ cd, o.data = .cls cd ∧ PySem.W.clsIn K C = some cd := by
      have q := U.self
      unfold PySem.W.mroIn at q
      cases z : PySem.W.clsIn K C with
      | none => rw [z] at q; cases q
      | some cd =>
        obtain ⟨o, h1, h2⟩ := cls_obj z
        exact ⟨o, h1, cd, h2, rfl⟩
    obtain ⟨cd, hD3, hD4⟩ := hD2
    have K1 := I.kIn
    obtain ⟨t1, ho⟩ := exo_at I.hok ha
    have gN := I.mod.glob.keeps I.bk
    obtain ⟨mb, hmb1, hmb2⟩ := I.mod.blt
    have bN := hmb1.keeps I.bk
    rw [hB]
    refine PySem.ks_wpAt_execs_cons ?_
    refine PySem.ks_wpAt_Expr_any ?_ (by show ((defScope st).kind == .module && _) = false; rw [Z.kind]; rfl) (hsw _)
    refine PySem.ks_wpAt_MethodCall ?_ (hev _)
    refine PySem.ks_wpAt_super_base hks (Z.frk _ (List.mem_singleton.mpr rfl)) (by decide) rfl (K1 _ _ lk) rfl har rfl (K1 _ _ hcda) rfl hfs (by rw [hP.file]; exact beq_self_eq_true _) hP.top ?_
    refine PySem.W.ks_loadName_global Z.kind hks (Calls.loadGlobal_builtin gN hsup bN ((hmb2 _ (by decide)).trans (by kernel_rfl)) ⟨rfl, ?_⟩)
    refine wpAny_loadName_free Z.kind (Z.frk _ (List.mem_singleton.mpr rfl)) (show List.lookup ("__class__" : Str) [(("__class__" : Str), cc)] = some cc by simp [List.lookup]) ⟨_, K1 _ _ hcc, rfl⟩ ?_
    refine wpAny_loadName_local Z.kind hself2 hns hself ?_
    refine PySem.ks_wpAny_isType_cls (K1 _ _ hD0) hD3 ⟨rfl, ?_⟩
    refine PySem.ks_wpAny_call_super (K1 _ _ hD0) hD3 ho rfl (fun c z => by cases z) (PySem.W.looks_mroIn K1 U.self) (fun h1 e1 k1 => ?_)
    have I1 := I.kept (t' := s.toks + (ps.zip us).length) k1
    have J1 : PySem.W.InstAt h1 a _ C none := ⟨k1 _ _ ho, rfl, rfl, trivial⟩
    have hf : PySem.W.alongIn K "__init__" ((cd.mro.dropWhile (· != .ref C)).drop 1) = some (some (.builtin "ValueError.__init__")) := by
      have q := U.ini
      unfold PySem.W.ks_superIn at q
      rw [hD4] at q
      exact q
    refine PySem.W.kxs_getMethod PySem.W.kxs_ValueError e1 (PySem.W.looks_opaque I1.kIn U.stat) (l₀ := cd.mro) (fun A Q E s k q => wpAny_bind ((PySem.W.looks_clsIn I1.kIn hD4) A _ E s k (wpAny_pure q))) rfl I1.kIn hf (J1.type.andThen (PySem.W.looks_subIn I1.kIn U.sub)) (PySem.W.ks_ne I1.kIn J1 hD4) (by decide) ?_
    have I2 := I1.kept (t' := s.toks + (ps.zip us).length + 1) (h' := h1.push (PySem.W.kxs_mw "ValueError.__init__" a)) (fun b o q => Heap.get?_push_of_some _ q)
    have I3 := I2.pins_of (pins' := [(h1.objs.size, PySem.W.kxs_mw "ValueError.__init__" a)]) (fun p hp => by
      rw [List.mem_singleton.mp hp]
      exact ⟨Heap.get?_push_size _ rfl, I1.hok.fresh (Nat.le_refl _), Nat.ne_of_gt I1.lt, I1.nofs (Nat.le_refl _), fun v z => by cases z⟩)
    refine mw_call1 (i := "ValueError.__init__") (x := a) (hst _) ?_
    have hst0 := hst (NdefX.ncx CX0 P w K mg base N (supF qn st cda cc) fI A outer s H E).env
    refine thn ((pa_cons hm pa_nil hst0).run p3 _ _ _ H (fun us2 H1 => (∃ v, us2 = [v]) ∧ H1 a = some (exo a C none) ∧ tr { nx := fun _ H' => Q .non H', rt := Q } (NdefX.startF N vs [none]) H1) I3 ?_) fun us3 s3 hh => ?_
    · exact hq
    obtain ⟨vs3, H1, I4, r4, ⟨v3, hv3⟩, ha1, hq1⟩ := hh
    subst hv3
    have hlen : us3.length ≤ sizeLine := by
      rw [← Paired.length r4]
      exact (by decide : 1 ≤ sizeLine)
    have hu : s3.heap.get? h1.objs.size = some (PySem.W.kxs_mw "ValueError.__init__" a) := (I4.pin _ (List.mem_append_right _ (List.mem_singleton.mpr rfl))).1
    refine ⟨hu, ?_⟩
    obtain ⟨t3, ho3⟩ := exo_at I4.hok ha1
    obtain ⟨nm, qq, nn, bs, bm, sn, sub, ab, col, dd, z0, z1, z2, z3, z5, hC, hbm⟩ := U.oex.cls
    obtain ⟨hp3, g3, d3, tk3, os3⟩ := s3
    have fin : ∀ h', (∀ b o, b ≠ a → hp3.get? b = some o → h'.get? b = some o) → h'.get? a = some (PySem.W.excObj C hp3.objs.size none .none) →
        PySem.wpAt (model P w) (A.deeper (NdefX.envF (supF qn st cda cc) fI s.heap.objs.size)) (.func (.Expr (.Call (.Attribute (.Call (.Name "super" p0) [] [] p1) "__init__" p2) [msg] [] p3) p4 :: rest) (NdefX.envF (supF qn st cda cc) fI s.heap.objs.size))
          (execs rest (NdefX.envF (supF qn st cda cc) fI s.heap.objs.size)) (SP (NdefX.ncx CX0 P w K mg base N (supF qn st cda cc) fI A outer s H E) [] { nx := fun _ H' => Q .non H', rt := Q }) (NdefX.ncx CX0 P w K mg base N (supF qn st cda cc) fI A outer s H E).xe ⟨h', g3, d3, tk3, os3⟩ := fun h' k hx => by
      have J := I4.write (t' := tk3) (x := a) (e := a) (o := exo a C none) (by rw [ha1]; exact True.intro) (.inl rfl) k ⟨_, hx⟩ (exo_ok hx)
      have eu : upd H1 a (exo a C none) = H1 := funext fun b => by
        by_cases hb : b = a
        · rw [hb, upd_same, ha1]
        · exact upd_ne hb
      rw [eu] at J
      exact PySem.wpAt_of_wpAny (htr.run [] _ _ H1 _ (J.pins_of (pins' := []) fun p hp => absurd hp (by simp)) hq1)
    refine wpAny_call (codeAny_of_tree (show wpAny _ _ (callAny (.ref h1.objs.size) ⟨us3, []⟩) _ _ _ from ?_))
    simp only [callAny]
    refine wpAny_bind (wpAny_load hu ?_)
    simp only [PySem.W.kxs_mw, show (Value.type "method-wrapper" == Value.type "method" || Value.type "method-wrapper" == Value.type "builtin_function_or_method" || Value.type "method-wrapper" == Value.type "method-wrapper") = true by decide, if_true]
    refine PySem.W.KFB.if_so (by decide) (wpAny_bind (PySem.W.check_bound_init F.excBase_ValueError.toExcCallFacts (I4.kIn _ _ hC) ho3 rfl (wpAny_bind (wpAny_pure (wpAny_pure ?_)))))
    refine ⟨plainId_quiet F.excBase_ValueError.init.plain _, codeAny_builtin F.excBase_ValueError.initEntry (PySem.W.exc_init_tree (cls := .ref C) (t0 := t3) (dv := none) (c2 := .none) (c3 := .none) (b4 := .bool false) ho3 hlen fun h' k hx _ => ?_)⟩
    exact fin h' k hx
  · have fin : ∀ {σ' : L2.St} {H' : Hp} {v : V} {u : Value}, Inv (NdefX.ncx CX0 P w K mg base N (supF qn st cda cc) fI A outer s H E) [] σ' H' s' → L2.RelV v u → Q v H' → CE outer P w H s Q u s' :=
      fun {σ' H' v u} J rv q => ⟨v, H', J.os, J.bare, J.base, J.hok, rv, q⟩
    cases fl with
    | ret u =>
      obtain ⟨v, σ', H', J, rv, q⟩ := hs
      exact fin J rv q
    | next =>
      obtain ⟨σ', H', J, q⟩ := hs
      exact fin (v := V.non) (u := Value.none) J rfl q
    | brk =>
      obtain ⟨_, _, _, q⟩ := hs
      exact False.elim q
    | cont =>
      obtain ⟨_, _, _, q⟩ := hs
      exact False.elim q
end

/-! ### messages -/
/-- what a message may show -/
def Tell (v : V) : Prop := (∃ i : Int, v = .int i ∧ i.natAbs.log2 < 1920) ∨ ∃ y : Str, v = .str y ∧ y.length ≤ 1000000
theorem tell_small {i : Int} (h : -(2 ^ 64) < i ∧ i < 2 ^ 64) : Tell (.int i) := .inl ⟨i, rfl, by
  have h1 : i.natAbs < 2 ^ 64 := by omega
  by_cases h0 : i.natAbs = 0
  · rw [h0]; decide
  · exact Nat.lt_trans ((Nat.log2_lt h0).mpr h1) (by decide)⟩
/-- a part: a text, or what a slot holds -/
inductive Mp where
  | c (x : Str) | v (i : Nat) | t (sp : Sp) (E : XK) (i : Nat)
def Mp.te : Mp → TE
  | .c x => tC (.str x)
  | .v i => tFmt (tVar i)
  | .t sp E i => tFmt (tCall sp [] E (tCons (tVar i) tNil))
def Mp.Ok (σ : L2.St) : Mp → Prop
  | .c x => x.length ≤ 1000
  | .v i => ∃ v, σ[i]? = some (some v) ∧ Tell v
  | .t sp E i => ∃ v, σ[i]? = some (some v) ∧ ∀ (H : Hp) (Q : VK), (∀ y : Str, y.length ≤ 1000000 → Q (.str y) H) → sp [v] H Q E
theorem str_cat (a b : Str) : (a ++ b).length = a.length + b.length := by
  show (a.cps ++ b.cps).size = _
  rw [Array.size_append]
  rfl
theorem js_ok {σ : L2.St} {H : Hp} {Q : Str → Hp → Prop} (q : ∀ y, Q y H) : ∀ (ps : List Mp) (acc : Str), (∀ p ∈ ps, p.Ok σ) → acc.length + ps.length * 1001000 ≤ 10000000 → tJs (ps.map Mp.te) acc σ H Q
  | [], acc, _, _ => q acc
  | .c x :: ps, acc, h, hz => by
    have hx : x.length ≤ 1000 := h _ List.mem_cons_self
    rw [List.length_cons] at hz
    have e := str_cat acc x
    exact ⟨x, rfl, sz100 (by omega), js_ok q ps _ (fun p hp => h p (List.mem_cons_of_mem _ hp)) (by omega)⟩
  | .v i :: ps, acc, h, hz => by
    obtain ⟨v, hv, ht⟩ := h _ List.mem_cons_self
    rw [List.length_cons] at hz
    have hr : ∀ p ∈ ps, p.Ok σ := fun p hp => h p (List.mem_cons_of_mem _ hp)
    rcases ht with ⟨j, rfl, hj⟩ | ⟨y, rfl, hy⟩
    · have e := str_cat acc (Str.ofString (toString j))
      have el : (Str.ofString (toString j)).length ≤ 1921 := by
        rw [PySem.ofString_length]
        exact int_text_length_le (by decide) hj
      exact ⟨.int j, hv, .inr ⟨j, rfl, hj, _, rfl, sz100 (by omega), js_ok q ps _ hr (by omega)⟩⟩
    · have e := str_cat acc y
      exact ⟨.str y, hv, .inl ⟨y, rfl, sz100 (by omega), y, rfl, sz100 (by omega), js_ok q ps _ hr (by omega)⟩⟩
  | .t sp E i :: ps, acc, h, hz => by
    obtain ⟨v, hv, ht⟩ := h _ List.mem_cons_self
    rw [List.length_cons] at hz
    have hr : ∀ p ∈ ps, p.Ok σ := fun p hp => h p (List.mem_cons_of_mem _ hp)
    refine ⟨v, hv, ht _ _ fun y hy => ?_⟩
    have e := str_cat acc y
    exact .inl ⟨y, rfl, sz100 (by omega), y, rfl, sz100 (by omega), js_ok q ps _ hr (by omega)⟩
/-! ### one field, two fields -/
def sp_i1 (C : Addr) (f : Str) : Sp := fun vs H Q _ => ∃ (a : Addr) (v : V), vs = [.ref a, v] ∧ Tell v ∧ H a = some (exo a C none) ∧ ∀ dx, H dx = none → dx ≠ a → Q .non (upd (upd H dx (exd dx [(f, v)])) a (exo a C (some dx)))
def sp_i2 (C : Addr) (f g : Str) : Sp := fun vs H Q _ => ∃ (a : Addr) (v u : V), vs = [.ref a, v, u] ∧ Tell v ∧ Tell u ∧ H a = some (exo a C none) ∧
  ∀ dx, H dx = none → dx ≠ a → Q .non (upd (upd (upd H dx (exd dx [(f, v)])) a (exo a C (some dx))) dx (exd dx [(g, u), (f, v)]))
/-- such an error made -/
def tErr (C : Addr) (fs : List Str) (ta : TA) : L2.St → Hp → XK → Prop := fun σ H Q => ta σ H fun vs H1 => vs.length = fs.length ∧ (∀ v ∈ vs, Tell v) ∧ ∀ d, H1 d = none → Q (.ref C) (some d) (upd H1 d (.xd (fs.zip vs).reverse))
theorem err_heap {H : Hp} {a d : Addr} {fs : List (Str × V)} (ha : H a = none) (hd : d ≠ a) {H2 : Hp} (e1 : ∀ b, b ≠ a → b ≠ d → H2 b = H b) : upd (del H2 a) d (.xd fs) = upd H d (.xd fs) := by
  funext b
  by_cases hb : b = d
  · rw [hb, upd_same, upd_same]
  · rw [upd_ne hb, upd_ne hb]
    by_cases hc : b = a
    · rw [hc, del_same, ha]
    · rw [del_ne hc, e1 b hc hb]
theorem upd_two {H : Hp} {a d b : Addr} {o u : HO} (h1 : b ≠ a) (h2 : b ≠ d) : upd (upd H d u) a o b = H b := by rw [upd_ne h1, upd_ne h2]
section
variable {X : Cx} {C fI : Addr} {x f g : Str} {k : Nat} {fd : FuncData} {e : Expr} {es : List Expr} {ta : TA} {p pos : Pos}
/-- C(e, ..) where nothing is handled -/
theorem pmk_oexN {ps : List Str} {sp : Sp} {R : XK → List V → Hp → Prop} (hR : ∀ Q vs H1, R Q vs H1 → vs.length ≤ 1000 ∧ ∀ a, H1 a = none → sp (.ref a :: vs) (upd H1 a (exo a C none))
      (fun v H2 => v = .non ∧ ∃ (d : Addr) (fs : List (Str × V)), H2 a = some (exo a C (some d)) ∧ H2 d = some (exd d fs) ∧ H1 d = none ∧ Q (.ref C) (some d) (upd (del H2 a) d (.xd fs))) (fun _ _ _ => False)) (T : OexC X.K C) (iC : PySem.W.findIn X.K (.ref C) "__init__" = some (some (.ref fI))) (tI : PySem.W.typeIn X.K (.ref fI) = some (.type "function"))
    (F1 : FnOk X.prog X.w X.K X.mg X.base CX0 k fI fd ps sp) (hr : Room (k + 1) X.A) (hb : Binds X.K fd ps []) (hg : Gl X x) (hm : X.mg x = some (.ref C)) (ha : PA X (e :: es) ta)
    (hdb : (x == ("__debug__" : Str)) = false) (he : starEach (e :: es) X.env = (false, eval e X.env) :: starEach es X.env) (hpl : (backTo pos (starEach es X.env)).any (·.1) = false) :
    L2N.PMk X (.Call (.Name x p) (e :: es) [] pos) (fun σ H Q => ta σ H fun vs H1 => R Q vs H1) := by
  intro pins s σ H Q I h
  obtain ⟨nm, q, N, bs, bm, sn, sub, ab, col, dd, z0, z1, z2, z3, z5, hC, hbm⟩ := T.cls
  refine wpAny_Call_Name_kw (ld_glob I hg hm (PySem.W.callWith_K (h₀ := X.base) I.ok.mod.kin T.kC (thn (ha.run pos pins s σ H _ I h) fun us s1 hh => ?_) he hpl) hdb)
  obtain ⟨vs, H1, I1, r1, hh⟩ := hh
  obtain ⟨hz, q1⟩ := hR _ _ _ hh
  refine ⟨I1.kIn, show wpAny _ _ (call (.ref C) us) _ _ _ from ?_⟩
  obtain ⟨hp, g, dr, tk, os⟩ := s1
  have hsz : hp.objs.size ≤ hp.objs.size + 1 := Nat.le_add_right _ 1
  have hq := q1 (hp.objs.size + 1) (I1.hok.fresh hsz)
  have kk : ∀ b o, hp.get? b = some o → ((hp.push (PySem.W.kdv_tup us)).push (PySem.HandSPX.excO C hp.objs.size)).get? b = some o := fun b o z => Heap.get?_push_of_some _ (Heap.get?_push_of_some _ z)
  have hget : ((hp.push (PySem.W.kdv_tup us)).push (PySem.HandSPX.excO C hp.objs.size)).get? (hp.objs.size + 1) = some (PySem.HandSPX.excO C hp.objs.size) := by heap_get
  have I2 := I1.laid (t' := tk) (a := hp.objs.size + 1) (o := exo (hp.objs.size + 1) C none) (h' := (hp.push (PySem.W.kdv_tup us)).push (PySem.HandSPX.excO C hp.objs.size)) kk hsz (exo_ok hget)
  have r2 : Vals (V.ref (hp.objs.size + 1) :: vs) (Value.ref (hp.objs.size + 1) :: us) := .cons rfl r1
  have hl : (Value.ref (hp.objs.size + 1) :: us).length = ps.length := by
    rw [← r2.length]
    exact F1.len _ _ _ _ hq
  have hus : us.length ≤ sizeLine := by
    have e3 := Paired.length r1
    exact sz100 (by omega)
  have b2 := hb _ (Value.ref (hp.objs.size + 1) :: us) I2.kIn (by rw [List.append_nil]; exact hl)
  rw [List.append_nil] at b2
  refine wpAny_call (PySem.HandSPX.call_own F.excBase_ValueError (fun Y => PySem.HandSPX.refsVE_contains Y bm hbm) (I1.kIn _ _ hC) (PySem.W.looks_findIn I1.kIn iC) (fun self => PySem.W.bind_fn I1.kIn self tI) hus
    (codeAny_mono (F1.run _ X.stack _ _ ⟨Value.ref (hp.objs.size + 1) :: us, []⟩ (Value.ref (hp.objs.size + 1) :: us) _ _ (fun _ _ _ => False) (hr.make C us []) (I2.env0.make C us []) b2 r2 hq) fun r s2 hq2 => ?_))
  cases r with
  | error er => exact absurd hq2 (fun z => z)
  | ok fl =>
    cases fl with
    | ret u =>
      obtain ⟨v, H2, os2, bare2, un2, hok2, rv, ev, d, fs, ea, ed, hd1, q2⟩ := hq2
      subst ev
      obtain ⟨h2, g2, d2, t2, os3⟩ := s2
      obtain ⟨t0, G, J, kG, ge, hoe, na⟩ := mk_end0 (d2 := d2) (t2 := t2) I1 hsz kk un2 hok2 os2 bare2 ea ed hd1
      exact ⟨rv, hp.objs.size + 1, _, _, ⟨G, g2, d2, t2, os3⟩, _, .ref C, some d, rfl, J, kG, ge, hoe, ⟨rfl, rfl, fun vs hv => by cases hv; rfl⟩, rfl, rfl, na, rfl, bare2, raises_own T.exC T.tyC, q2⟩
    | next => exact hq2.elim
    | brk => exact hq2.elim
    | cont => exact hq2.elim
end

/-! ### what the top says of error classes -/
structure ErrCls (K : PySem.W.Frag) (mg : Str → Option Value) (C : Addr) (x : Str) : Prop where
  at_ : mg x = some (.ref C)
  xf : XfC K C
  ex : ExcC K C
  ty : PySem.W.typeIn K (.ref C) = some (.type "type")
structure ErrIni (K : PySem.W.Frag) (C : Addr) (qn : Str) (st : Stmt) (ps fs : List Str) : Prop where
  sup : SupC K C
  ini : ∃ fI fd, SupAt K C qn st fI fd ∧ PySem.W.findIn K (.ref C) "__init__" = some (some (.ref fI)) ∧ PySem.W.typeIn K (.ref fI) = some (.type "function") ∧ Binds K fd ps []
  no : ∀ f ∈ fs, PySem.W.findIn K (.ref C) f = some none
/-- C's __init__ keeps sp -/
structure EDef (P : Program) (w : World) (K : PySem.W.Frag) (mg : Str → Option Value) (base : Heap) (C : Addr) (x : Str) (ps : List Str) (sp : Sp) : Prop where
  at_ : mg x = some (.ref C)
  oex : OexC K C
  ini : ∃ fI fd, FnOk P w K mg base CX0 2 fI fd ps sp ∧ PySem.W.findIn K (.ref C) "__init__" = some (some (.ref fI)) ∧ PySem.W.typeIn K (.ref fI) = some (.type "function") ∧ Binds K fd ps []
theorem _root_.L2H.RoomH.units {k : Nat} {A : Around} (r : L2H.RoomH k A) : A.units + 64 < cLine := by
  have := r.un
  omega
theorem ErrCls.exm {K : PySem.W.Frag} {mg : Str → Option Value} {C : Addr} {x : Str} {cls : Value} {b : Bool} (E : ErrCls K mg C x) (h : PySem.W.subIn K cls (.ref C) = some b) : PySem.W.exmOne K cls (.ref C) = some b := PySem.W.exm_ref E.ex.hs E.ex.hd E.ty h
theorem ErrCls.kit {K : PySem.W.Frag} {mg : Str → Option Value} {C D : Addr} {x : Str} {b : Bool} (E : ErrCls K mg C x) (h : PySem.W.subIn K (.ref D) (.ref C) = some b) (hb : D = C → b = true) : PySem.W.kitOne K (.ref D) (.ref C) = some b := by
  unfold PySem.W.kitOne
  by_cases e : D = C
  · rw [if_pos (by rw [e]; exact beq_self_eq_true _), hb e]
  · rw [if_neg (by simpa using e)]
    show (if ((PySem.W.clsIn K C).isSome && PySem.W.typeIn K (.ref C) == some (.type "type")) = true then PySem.W.subIn K (.ref D) (.ref C) else none) = some b
    obtain ⟨cd, hc, _⟩ := PySem.W.any_some E.ex.hd
    rw [hc, E.ty, h]
    rfl
theorem ErrCls.kitF {K : PySem.W.Frag} {mg : Str → Option Value} {C D : Addr} {x : Str} (E : ErrCls K mg C x) (h : PySem.W.subIn K (.ref D) (.ref C) = some false) (hs : PySem.W.subIn K (.ref D) (.ref D) = some true) : PySem.W.kitOne K (.ref D) (.ref C) = some false := E.kit h fun e => by
  rw [e] at h hs
  rw [hs] at h
  cases h
theorem ErrCls.kitT {K : PySem.W.Frag} {mg : Str → Option Value} {C D : Addr} {x : Str} (E : ErrCls K mg C x) (h : PySem.W.subIn K (.ref D) (.ref C) = some true) : PySem.W.kitOne K (.ref D) (.ref C) = some true := E.kit h fun _ => rfl
theorem sz2 (vs : List V) (h : vs.length ≤ 2) : vs.length ≤ 1000 := by omega
section
variable {X : Cx} {C : Addr} {x f g : Str} {e : Expr} {es : List Expr} {ta : TA} {p pos : Pos}
theorem pmk_e1 {n : Str} (G : EDef X.prog X.w X.K X.mg X.base C x ["self", n] (sp_i1 C f)) (hr : Room 3 X.A) (ha : PA X (e :: es) ta) (hg : Gl X x := by rfl) (hdb : (x == ("__debug__" : Str)) = false := by decide)
    (he : starEach (e :: es) X.env = (false, eval e X.env) :: starEach es X.env := by rfl) (hpl : (backTo pos (starEach es X.env)).any (·.1) = false := by rfl) : L2N.PMk X (.Call (.Name x p) (e :: es) [] pos) (tErr C [f] ta) := by
  obtain ⟨fI, fd, F1, iC, tI, hb⟩ := G.ini
  refine pmk_oexN (R := fun Q vs H1 => vs.length = 1 ∧ (∀ v ∈ vs, Tell v) ∧ ∀ d, H1 d = none → Q (.ref C) (some d) (upd H1 d (.xd (([f] : List Str).zip vs).reverse))) (fun Q vs H1 hh => ?_) G.oex iC tI F1 hr hb hg G.at_ ha hdb he hpl
  obtain ⟨hl, ht, q⟩ := hh
  match vs, hl with
  | [v], _ =>
    refine ⟨sz2 _ (Nat.le_of_ble_eq_true rfl), fun a na => ⟨a, v, rfl, ht v List.mem_cons_self, upd_same, fun dx h1 h2 => ⟨rfl, dx, [(f, v)], upd_same, by rw [upd_ne h2, upd_same], ?_, ?_⟩⟩⟩
    · rw [upd_ne h2] at h1
      exact h1
    · rw [upd_ne h2] at h1
      rw [err_heap na h2 (H := H1) (fun b b1 b2 => by rw [upd_ne b1, upd_ne b2, upd_ne b1])]
      exact q dx h1
theorem pmk_e2 {n m : Str} (G : EDef X.prog X.w X.K X.mg X.base C x ["self", n, m] (sp_i2 C f g)) (hr : Room 3 X.A) (ha : PA X (e :: es) ta) (hg : Gl X x := by rfl) (hdb : (x == ("__debug__" : Str)) = false := by decide)
    (he : starEach (e :: es) X.env = (false, eval e X.env) :: starEach es X.env := by rfl) (hpl : (backTo pos (starEach es X.env)).any (·.1) = false := by rfl) : L2N.PMk X (.Call (.Name x p) (e :: es) [] pos) (tErr C [f, g] ta) := by
  obtain ⟨fI, fd, F1, iC, tI, hb⟩ := G.ini
  refine pmk_oexN (R := fun Q vs H1 => vs.length = 2 ∧ (∀ v ∈ vs, Tell v) ∧ ∀ d, H1 d = none → Q (.ref C) (some d) (upd H1 d (.xd (([f, g] : List Str).zip vs).reverse))) (fun Q vs H1 hh => ?_) G.oex iC tI F1 hr hb hg G.at_ ha hdb he hpl
  obtain ⟨hl, ht, q⟩ := hh
  match vs, hl with
  | [v, u], _ =>
    refine ⟨sz2 _ (Nat.le_of_ble_eq_true rfl), fun a na => ⟨a, v, u, rfl, ht v List.mem_cons_self, ht u (List.mem_cons_of_mem _ List.mem_cons_self), upd_same, fun dx h1 h2 => ⟨rfl, dx, [(g, u), (f, v)], ?_, upd_same, ?_, ?_⟩⟩⟩
    · rw [upd_ne (Ne.symm h2), upd_same]
    · rw [upd_ne h2] at h1
      exact h1
    · rw [upd_ne h2] at h1
      rw [err_heap na h2 (H := H1) (fun b b1 b2 => by rw [upd_ne b2, upd_ne b1, upd_ne b2, upd_ne b1])]
      exact q dx h1
end
/-! ### defs that raise -/
section
variable {P : Program} {w : World} {K : PySem.W.Frag} {mg : Str → Option Value} {base : Heap}
theorem _root_.RD.FunAt.okN {x : Str} {st : Stmt} {N ps : List Str} {k : Nat} {sp : Sp} (F : FunAt K mg x st ps) (S : FnScope N ps (defScope st)) (len : ∀ vs H Q E, sp vs H Q E → vs.length = ps.length)
    (hbody : ∀ (f : Addr) (cdv : Value) (A : Around) (outer : List Env) (s : Shared) (H : Hp) (vs : List V) (Q : VK) (E : XK), Room k (A.deeper (envOfC x (defScope st) s.heap.objs.size f cdv)) → sp vs H Q E →
      ∃ t, PSs (cxOf (L2N.CX P w) P w K mg base N x (defScope st) f cdv A outer s H E) (defBody st) t ∧ t { nx := fun _ H' => Q .non H', rt := Q } (start N vs) H) : Def P w K mg base (L2N.CX P w) (k + 1) x ps sp := by
  obtain ⟨f, fd, F, hm, hb⟩ := F.ex
  have kp := F.kp
  obtain ⟨oc, od, kV, doc, pm, an, cdv, ct, osl, rfl, lk, hcd⟩ := F.ex
  exact ⟨f, _, fn_of lk hcd S len fun A outer s H vs Q E hr hsp => hbody f cdv A outer s H vs Q E hr hsp, hm, kp, hb⟩
theorem cx_of_cxn {outer : List Env} {H : Hp} {s : Shared} {E : XK} {u : Value} {s2 : Shared} (h : L2N.CX P w outer H s E u s2) : L2.CX P w outer H s E u s2 := by
  obtain ⟨a, B, H2, cls, d, e1, fl, r⟩ := h
  exact ⟨a, B, H2, cls, d, e1, L2H.flyingZ_imp (fun _ z => z.zc) fl, r⟩
theorem _root_.RD.Def.toX {x : Str} {ps : List Str} {k : Nat} {sp : Sp} (G : Def P w K mg base (L2N.CX P w) k x ps sp) : Def P w K mg base (L2.CX P w) k x ps sp := by
  obtain ⟨f, fd, F, r⟩ := G.ex
  refine ⟨f, fd, ⟨F.len, fun A outer s H args us vs Q E hr e0 hb hv hs => codeAny_mono (F.run A outer s H args us vs Q E hr e0 hb hv hs) fun r s2 hq => ?_⟩, r⟩
  cases r with
  | error e => exact cx_of_cxn hq
  | ok fl => cases fl <;> exact hq
end
section
variable {X : Cx} {k : Nat} {ps : List Str} {sp : Sp} {x : Str} {p pos : Pos} {e : Expr} {es : List Expr} {t : TA} {W : WX}
/-- a call that may raise -/
theorem pe_callX (G : Def X.prog X.w X.K X.mg X.base (L2.CX X.prog X.w) k x ps sp) (tk : L2.Takes X W) (hr : Room k X.A) (ha : PA X (e :: es) t) (hg : Gl X x := by rfl)
    (hdb : (x == ("__debug__" : Str)) = false := by decide) (he : starEach (e :: es) X.env = (false, eval e X.env) :: starEach es X.env := by rfl) (hpl : (backTo pos (starEach es X.env)).any (·.1) = false := by rfl) : PE X (.Call (.Name x p) (e :: es) [] pos) (tCallS sp (WE W) t) := by
  obtain ⟨f, fd, F, hm, hk, hb⟩ := G.ex
  exact pe_callS F hr hg hm hk hb (fun σ => L2.passAt tk σ) ha hdb he hpl
theorem pe_callN (G : Def X.prog X.w X.K X.mg X.base (L2N.CX X.prog X.w) k x ps sp) (tk : L2N.Takes X W) (hr : Room k X.A) (ha : PA X (e :: es) t) (hg : Gl X x := by rfl)
    (hdb : (x == ("__debug__" : Str)) = false := by decide) (he : starEach (e :: es) X.env = (false, eval e X.env) :: starEach es X.env := by rfl) (hpl : (backTo pos (starEach es X.env)).any (·.1) = false := by rfl) : PE X (.Call (.Name x p) (e :: es) [] pos) (tCallS sp (WE W) t) := by
  obtain ⟨f, fd, F, hm, hk, hb⟩ := G.ex
  exact pe_callS F hr hg hm hk hb (fun σ => L2N.passAt tk σ) ha hdb he hpl
end
/-! ### in an except suite -/
/-- what a def promises wherever it is called: nothing in it asks what is handled -/
structure FnW (P : Program) (w : World) (K : PySem.W.Frag) (mg : Str → Option Value) (base : Heap) (k : Nat) (f : Addr) (fd : FuncData) (ps : List Str) (sp : Sp) : Prop where
  len : ∀ vs H Q E, sp vs H Q E → vs.length = ps.length
  run : ∀ (A : Around) (outer : List Env) (s : Shared) (H : Hp) (args : Args) (us : List Value) (vs : List V) (Q : VK) (E : XK), L2H.RoomH k A → Env0 P w K mg base A outer s H → BindsTo s fd args (ps.zip us) → Vals vs us → sp vs H Q E →
    codeAny (model P w) A (.call (.ref f) args) (CR CX0 outer P w H s Q E) s
structure DefW (P : Program) (w : World) (K : PySem.W.Frag) (mg : Str → Option Value) (base : Heap) (k : Nat) (x : Str) (ps : List Str) (sp : Sp) : Prop where
  ex : ∃ f fd, FnW P w K mg base k f fd ps sp ∧ mg x = some (.ref f) ∧ PySem.W.keepIn K (.ref f) = true ∧ Binds K fd ps []
def cxW (P : Program) (w : World) (K : PySem.W.Frag) (mg : Str → Option Value) (base : Heap) (N : List Str) (qual : Str) (scope : Scope) (f : Addr) (cd : Value) (A : Around) (outer : List Env) (s : Shared) (H : Hp) (E : XK) : Cx :=
  { cxOf CX0 P w K mg base N qual scope f cd A outer s H E with calm := false, xe := fun _ _ => False }
theorem env0_mark {P : Program} {w : World} {K : PySem.W.Frag} {mg : Str → Option Value} {base : Heap} {A : Around} {outer : List Env} {s : Shared} {H : Hp} (e : Env0 P w K mg base A outer s H) : Env0 P w K mg base { A with handled := none } outer s H :=
  ⟨e.frames, e.mod, e.bs, e.bsz, e.funs, e.frf, e.hok, e.bare⟩
theorem _root_.RD.FunAt.okW {P : Program} {w : World} {K : PySem.W.Frag} {mg : Str → Option Value} {base : Heap} {x : Str} {st : Stmt} {N ps : List Str} {k : Nat} {sp : Sp} (F : FunAt K mg x st ps) (S : FnScope N ps (defScope st)) (len : ∀ vs H Q E, sp vs H Q E → vs.length = ps.length)
    (hbody : ∀ (f : Addr) (cdv : Value) (A : Around) (outer : List Env) (s : Shared) (H : Hp) (vs : List V) (Q : VK) (E : XK), L2H.RoomH k (A.deeper (envOfC x (defScope st) s.heap.objs.size f cdv)) → sp vs H Q E →
      ∃ t, PSs (cxW P w K mg base N x (defScope st) f cdv A outer s H E) (defBody st) t ∧ t { nx := fun _ H' => Q .non H', rt := Q } (start N vs) H) : DefW P w K mg base (k + 1) x ps sp := by
  obtain ⟨f, fd, F, hm, hbd⟩ := F.ex
  have kp := F.kp
  obtain ⟨oc, od, kV, doc, pm, an, cdv, ct, osl, rfl, lk, hcd⟩ := F.ex
  refine ⟨f, _, ⟨len, fun A outer s H args us vs Q E hr e0 hb r hsp => ?_⟩, hm, kp, hbd⟩
  have hl := len _ _ _ _ hsp
  have inS := e0.mod.kin.keeps fun b o e => (e0.bs b o e).1
  have lim := e0.mod.nolimit.keeps fun b o e => (e0.bs b o e).1
  have hkind : ∀ y ∈ ps.zip us, (defScope st).names.lookup y.1 = some .local ∨ ((defScope st).names.lookup y.1 = some .cell ∧ ((cellsFrom (s.heap.objs.size + 1) (defScope st).names []).lookup y.1).isSome = true) := fun ⟨n, v⟩ hy => (S.par n (List.of_mem_zip hy).1).imp id fun q => ⟨q, PySem.W.cellsFrom_some _ _ _ (.inl q)⟩
  refine codeAny_call_function hr.depth (inS _ _ lk) rfl S.co S.gen rfl (PySem.W.codeRec_of inS hcd) (hb _ _ _ _ (wpAny_newFunctionEnv_cells S.kind hkind fun env he s1 ic => ?_))
  subst he
  refine ⟨lim.keeps ic.toInCall.keep, codeAny_func ?_⟩
  obtain ⟨t, ht, hq⟩ := hbody f cdv A outer s H vs Q E (hr.deeper _) hsp
  have J : Inv (cxOf CX0 P w K mg base N x (defScope st) f cdv { A with handled := none } outer s H E) [] (start N vs) H s1 := inv_start S rfl (env0_mark e0) hl r ic
  have I : Inv (cxW P w K mg base N x (defScope st) f cdv A outer s H E) [] (start N vs) H s1 :=
    ⟨⟨J.ok.mod, J.ok.kind, J.ok.glob, J.ok.blt, J.ok.above, J.ok.inj, J.ok.has, J.ok.cab, fun z => (by cases z), Around.frames_deeper e0.frames, J.ok.stk, J.ok.exf, J.ok.bs, J.ok.bsz, J.ok.noex, J.ok.exfs, J.ok.funs, J.ok.frf⟩, J.os, J.bare, J.base, J.loc, J.cell, J.free, J.freeC, J.pin, J.hok, J.len⟩
  refine wpAny_mono (ht.run [] s1 (start N vs) H _ I hq) (fun fl s2 hs => ?_) fun e s2 hs => False.elim hs
  have fin : ∀ {σ2 : L2.St} {H2 : Hp} {v : V} {u : Value}, Inv (cxW P w K mg base N x (defScope st) f cdv A outer s H E) [] σ2 H2 s2 → RelV v u → Q v H2 → CE outer P w H s Q u s2 := fun {σ2 H2 v u} J2 rv q => ⟨v, H2, J2.os, J2.bare, J2.base, J2.hok, rv, q⟩
  cases fl with
  | ret u =>
    obtain ⟨v, σ2, H2, J2, rv, q⟩ := hs
    exact fin J2 rv q
  | next =>
    obtain ⟨σ2, H2, J2, q⟩ := hs
    exact fin (v := V.non) (u := Value.none) J2 rfl q
  | brk => exact hs.elim fun _ h => h.elim fun _ h => h.2.elim
  | cont => exact hs.elim fun _ h => h.elim fun _ h => h.2.elim
section
variable {X : Cx} {k : Nat} {ps : List Str} {sp : Sp} {x : Str} {p pos : Pos} {e : Expr} {es : List Expr} {t : TA}
theorem pe_callW (G : DefW X.prog X.w X.K X.mg X.base k x ps sp) (hr : L2H.RoomH k X.A) (ha : PA X (e :: es) t) (hg : Gl X x := by rfl)
    (hdb : (x == ("__debug__" : Str)) = false := by decide) (he : starEach (e :: es) X.env = (false, eval e X.env) :: starEach es X.env := by rfl) (hpl : (backTo pos (starEach es X.env)).any (·.1) = false := by rfl) : PE X (.Call (.Name x p) (e :: es) [] pos) (tCall sp [] E0 t) := by
  obtain ⟨f, fd, F, hm, hk, hb⟩ := G.ex
  refine ⟨fun pins s σ H Q I h => ?_⟩
  refine wpAny_Call_Name_kw (ld_glob I hg hm (PySem.W.callWith_K (h₀ := X.base) I.ok.mod.kin hk (thn (ha.run pos pins s σ H _ I h) fun us s1 hh => ?_) he hpl) hdb)
  obtain ⟨vs, H1, I1, r, q⟩ := hh
  rw [List.append_nil] at q
  have b := hb s1 us I1.kIn (by rw [List.append_nil, ← r.length]; exact F.len _ _ _ _ q)
  rw [List.append_nil] at b
  refine ⟨I1.kIn, wpAny_call (codeAny_mono (F.run X.A X.stack s1 H1 ⟨us, []⟩ us vs Q E0 hr I1.env0 b r q) fun r s2 hq => ?_)⟩
  cases r with
  | error e => exact hq.elim
  | ok fl =>
    cases fl with
    | ret u => exact I1.after hq
    | next => exact hq.elim
    | brk => exact hq.elim
    | cont => exact hq.elim
end
/-- isinstance(e, c), e the caught error (at a; its class cls, its dict d) -/
def rIsED (K : PySem.W.Frag) (a : Addr) (cls : Value) (d : Option Addr) : List V → Hp → VK → Prop := fun xs H Q => ∃ (D : Addr) (c : V) (cv : Value) (b : Bool) (dd : Addr) (fs : List (Str × V)), xs = [.ref a, c] ∧ cls = .ref D ∧ ExcC K D ∧ d = some dd ∧ H dd = some (.xd fs) ∧
  (∀ u, RelV c u → u = cv) ∧ PySem.W.kitOne K (.ref D) cv = some b ∧ Q (.bl b) H
theorem call_isED {X : Cx} {a : Addr} {cls : Value} {d : Option Addr} {oe : Obj} {pn : List (Addr × Obj)} (hz : Zc cls d oe) (hf : ∃ vs, oe.data = .fields vs) : CallR (X.suite a ((a, oe) :: pn)) (.builtin "isinstance") (rIsED X.K a cls d) := by
  intro pins s σ H xs us Q I r h
  obtain ⟨D, c, cv, b, dd, fs, rfl, hcl, T, hdd, hxd, hcv, e, q⟩ := h
  cases r with
  | cons rx rr =>
    cases rr with
    | cons rt rr =>
      cases rr
      cases rx
      have ec := hcv _ rt
      subst ec
      subst hcl
      subst hdd
      obtain ⟨hget, _⟩ := I.pin (a, oe) (List.mem_append.mpr (.inl List.mem_cons_self))
      obtain ⟨vs, hv⟩ := hf
      have hx : ObjOk X.prog X.w H s.heap dd (.xd fs) := I.hok dd _ hxd
      obtain ⟨mA, hns, _⟩ := hx
      obtain ⟨od, ho, _⟩ := lookIn_ns hns
      have J : PySem.W.InstAt s.heap a oe D (some od) := ⟨hget, hz.1, by unfold PySem.W.notCls; rw [hv], by rw [hz.2]; exact ho⟩
      obtain ⟨cd, hcc, _⟩ := PySem.W.any_some T.hd
      exact PySem.W.kia_one (PySem.W.kitx_exc (by rw [hcc]; rfl) T.hg T.hk T.hs T.ha T.hn T.ht T.hm) I.kIn J e (fun z => nomatch z) fun tk => ⟨.bl b, H, I.kept (t' := tk) fun _ _ z => z, rfl, q⟩
/-- e.f of the caught error -/
def tXfD (K : PySem.W.Frag) (a : Addr) (cls : Value) (d : Option Addr) (f : Str) (te : TE) : TE := fun σ H Q => te σ H fun x H1 => x = .ref a ∧ ∃ (D dd : Addr) (fs : List (Str × V)) (v : V), cls = .ref D ∧ XfC K D ∧ PySem.W.findIn K (.ref D) f = some none ∧ d = some dd ∧ H1 dd = some (.xd fs) ∧ fs.lookup f = some v ∧ Q v H1
theorem pe_xfD {X : Cx} {a : Addr} {oe : Obj} {cls : Value} {d : Option Addr} {pn : List (Addr × Obj)} {e : Expr} {te : TE} {pos : Pos} {n : Str}
    (hz : Zc cls d oe) (hf : ∃ vs, oe.data = .fields vs) (he : PE (X.suite a ((a, oe) :: pn)) e te) (hb : attributeBase e n X.env (eval e X.env) = eval e X.env := by rfl) :
    PE (X.suite a ((a, oe) :: pn)) (.Attribute e n pos) (tXfD X.K a cls d n te) := by
  refine ⟨fun pins s σ H Q I h => attr_of hb (thn (he.run pins s σ H _ I h) fun u s1 hh => ?_)⟩
  obtain ⟨x, H1, I1, rx, ex, D, dd, fs, v, ec, T, hno, ed, ea, l, q⟩ := hh
  subst ex
  obtain rfl : u = Value.ref a := rx
  subst ec
  subst ed
  obtain ⟨ha, _⟩ := I1.pin (a, oe) (List.mem_append_left _ List.mem_cons_self)
  obtain ⟨vs, hd⟩ := hf
  have hx : ObjOk X.prog X.w H1 s1.heap dd (.xd fs) := I1.hok dd _ ea
  obtain ⟨mA, hns, hr⟩ := hx
  obtain ⟨od, ho, hl⟩ := lookIn_ns hns
  obtain ⟨u, hu, ru⟩ := RelO.some_of (v := v) (o := mA n) (by rw [← l]; exact hr n)
  have J : PySem.W.InstAt s1.heap a oe D (some od) := ⟨ha, hz.1, by unfold PySem.W.notCls; rw [hd], by rw [hz.2]; exact ho⟩
  exact HandSPX.exc_get I1.kIn J T.ga T.gg T.exC (PySem.W.findObj_own T.hdC hno rfl (by rw [hl, hu])) (handed_of ru) ⟨v, H1, I1.tok _, ru, q⟩

/-! ### named readings -/
def tRaise (t : L2.St → Hp → XK → Prop) (W : WX) : TS := fun _ σ H => t σ H fun cls d H' => W cls d σ H'
theorem ps_raiseE {X : Cx} {W : WX} {e : Expr} {t : L2.St → Hp → XK → Prop} {pos : Pos} (hc : X.calm = true) (tk : L2N.Takes X W) (he : L2N.PMk X e t) : PS X (.Raise (some e) none pos) (tRaise t W) := L2N.ps_raise hc tk he
def tTryA (K : PySem.W.Frag) (c : Value) (i : Nat) (ts : Addr → Value → Option Addr → TS) (tb : WX → TS) : TS := fun D σ H => tb (wAs K c i ts (fun _ _ _ _ => False) D) D σ H
theorem ps_tryA {X : Cx} {x n : Str} {c : Value} {i : Nat} {body suite : List Stmt} {b₀ : Stmt} {np pos pos' : Pos} {tb : WX → TS} {ts : Addr → Value → Option Addr → TS} (hs : X.stack = X.env :: X.outer) (hf : X.env.frame = some X.env.locals) (hN : X.N.Nodup) (hi : X.N[i]? = some n) (hln : X.env.kindOf n = some .local) (hc : Names X x c)
    (hb : ∀ (W : WX) (pn : List (Addr × Obj)) (xe : Value → Shared → Prop), L2.Takes (X.tr pn xe) W → PassesOwn (model X.prog X.w) X.A X.env xe → PSs (X.tr pn xe) body (tb W))
    (hsu : ∀ (a : Addr) (oe : Obj) (cls : Value) (d : Option Addr) (pn : List (Addr × Obj)), Zc cls d oe → (∃ vs, oe.data = .fields vs) → PSs (X.suite a ((a, oe) :: pn)) (b₀ :: suite) (ts a cls d)) :
    PS X (.Try body [.ExceptHandler (some (.Name x np)) (some n) (b₀ :: suite) pos'] [] [] pos) (tTryA X.K c i ts tb) := L2.ps_try_as hs hf hN hi hln hc L2.takes0 hb hsu
theorem r_tryA {K : PySem.W.Frag} {c : Value} {i : Nat} {ts : Addr → Value → Option Addr → TS} {tb : WX → TS} {D : Ends} {σ : L2.St} {H : Hp} (q : tb (wAs K c i ts (fun _ _ _ _ => False) D) D σ H) : tTryA K c i ts tb D σ H := q
theorem r_callS {sp : Sp} {E : L2.St → XK} {t : TA} {σ : L2.St} {H : Hp} {Q : VK} (q : t σ H fun vs H1 => sp vs H1 Q (E σ)) : tCallS sp E t σ H Q := q
theorem r_raise {C : Addr} {fs : List Str} {ta : TA} {W : WX} {D : Ends} {σ : L2.St} {H : Hp} (q : ta σ H fun vs H1 => vs.length = fs.length ∧ (∀ v ∈ vs, Tell v) ∧ ∀ d, H1 d = none → W (.ref C) (some d) σ (upd H1 d (.xd (fs.zip vs).reverse))) : tRaise (tErr C fs ta) W D σ H := q
/-- the clause takes it -/
theorem w_yes {K : PySem.W.Frag} {cls c : Value} {d : Option Addr} {i : Nat} {ts : Addr → Value → Option Addr → TS} {Wout : WX} {D : Ends} {σ : L2.St} {H : Hp} (hb : PySem.W.exmOne K cls c = some true)
    (q : ∀ a, H a = none → ts a cls d { nx := fun σ' H' => D.nx (σ'.set i none) H', rt := D.rt, bk := fun σ' H' => D.bk (σ'.set i none) H', ct := fun σ' H' => D.ct (σ'.set i none) H' } (σ.set i (some (.ref a))) H) : wAs K c i ts Wout D cls d σ H := ⟨true, hb, fun _ => q, fun z => by cases z⟩
theorem r_isED {K : PySem.W.Frag} {a D C dd : Addr} {b : Bool} {fs : List (Str × V)} {H : Hp} {Q : VK} (T : ExcC K D) (hx : H dd = some (.xd fs)) (hk : PySem.W.kitOne K (.ref D) (.ref C) = some b) (q : Q (.bl b) H) : rIsED K a (.ref D) (some dd) [.ref a, .ref C] H Q :=
  ⟨D, .ref C, .ref C, b, dd, fs, rfl, rfl, T, rfl, hx, fun u h => h, hk, q⟩
theorem r_xfD {K : PySem.W.Frag} {a : Addr} {cls : Value} {d : Option Addr} {f : Str} {te : TE} {σ : L2.St} {H : Hp} {Q : VK} (q : te σ H fun x H1 => x = .ref a ∧ ∃ (D dd : Addr) (fs : List (Str × V)) (v : V), cls = .ref D ∧ XfC K D ∧ PySem.W.findIn K (.ref D) f = some none ∧ d = some dd ∧ H1 dd = some (.xd fs) ∧ fs.lookup f = some v ∧ Q v H1) : tXfD K a cls d f te σ H Q := q
/-- an error's dict beside the tracked heap -/
theorem _root_.RD.Own.xd {H0 H : Hp} {L : List (Addr × HO)} {d : Addr} {fs : List (Str × V)} (o : Own H0 H L) (hd : H d = none) : Own H0 (upd H d (.xd fs)) ((d, .xd fs) :: L) := o.new hd

/-! ### a def that may raise, called where it does not -/
def spZ (sp : Sp) : Sp := fun vs H Q _ => sp vs H Q (fun _ _ _ => False)
section
variable {P : Program} {w : World} {K : PySem.W.Frag} {mg : Str → Option Value} {base : Heap}
theorem _root_.RD.Def.toZ {x : Str} {ps : List Str} {k : Nat} {sp : Sp} (G : Def P w K mg base (L2.CX P w) k x ps sp) : Def P w K mg base CX0 k x ps (spZ sp) := by
  obtain ⟨f, fd, F, r⟩ := G.ex
  refine ⟨f, fd, ⟨fun vs H Q E h => F.len vs H Q _ h, fun A outer s H args us vs Q E hr e0 hb hv hs => codeAny_mono (F.run A outer s H args us vs Q (fun _ _ _ => False) hr e0 hb hv hs) fun r s2 hq => ?_⟩, r⟩
  cases r with
  | error e =>
    obtain ⟨a, B, H2, cls, d, e1, fl, h1, h2, h3, h4, h5, h6⟩ := hq
    exact h6
  | ok fl => cases fl <;> exact hq
end

/-! ### own errors raised in an except suite -/
section
variable {P : Program} {w : World} {K : PySem.W.Frag} {mg : Str → Option Value} {base : Heap}
theorem SupAt.okH {C fI : Addr} {qn : Str} {st : Stmt} {N ps : List Str} {k : Nat} {sp : Sp} {fd : FuncData} {p0 p1 p2 p3 p4 : Pos} {msg : Expr} {pl : Env → Sem Bool} {rest : List Stmt} {ar : Arg} (S : SupAt K C qn st fI fd) (hP : PrOk P) (U : SupC K C) (Z : NdefX.NScope N ps ["__class__"] (defScope st))
    (hsup : mg "super" = none) (har : ((defArgs st).posonlyargs ++ (defArgs st).args).head? = some ar) (han : ps.head? = some ar.arg)
    (hks : (defScope st).names.lookup ("super" : Str) = some .globalImplicit)
    (hB : defBody st = .Expr (.Call (.Attribute (.Call (.Name "super" p0) [] [] p1) "__init__" p2) [msg] [] p3) p4 :: rest)
    (hst : ∀ env : Env, starEach [msg] env = [(false, eval msg env)]) (hsw : ∀ env : Env, swapsWith (.Call (.Attribute (.Call (.Name "super" p0) [] [] p1) "__init__" p2) [msg] [] p3) none p4.line env = pure false)
    (hev : ∀ env : Env, eval (.Call (.Attribute (.Call (.Name "super" p0) [] [] p1) "__init__" p2) [msg] [] p3) env = (do
      let ov ← attributeBase (.Call (.Name "super" p0) [] [] p1) "__init__" env (eval (.Call (.Name "super" p0) [] [] p1) env)
      standAt p2.atName
      let (f, first) ← holding [ov] (getMethod ov "__init__" (pl env))
      callWith p3 f first (backTo p3 (starEach [msg] env)) []))
    (len : ∀ vs H Q E, sp vs H Q E → vs.length = ps.length)
    (hbody : ∀ (cda cc : Addr) (A : Around) (outer : List Env) (s : Shared) (H : Hp) (vs : List V) (Q : VK) (E : XK) (pp : Addr × Obj), L2H.RoomH k (A.deeper (NdefX.envF (supF qn st cda cc) fI s.heap.objs.size)) → sp vs H Q E →
      ∃ (a : Addr) (vs2 : List V) (tm : TE) (tr : TS), vs = .ref a :: vs2 ∧ H a = some (exo a C none) ∧ PE (NdefX.ncxH CX0 P w K mg base N (supF qn st cda cc) fI A outer s H E pp) msg tm ∧ PSs (NdefX.ncxH CX0 P w K mg base N (supF qn st cda cc) fI A outer s H E pp) rest tr ∧
        tm (NdefX.startF N vs [none]) H fun x H1 => (∃ v, [x] = [v]) ∧ H1 a = some (exo a C none) ∧ tr { nx := fun _ H' => Q .non H', rt := Q } (NdefX.startF N vs [none]) H1) :
    L2H.FnH P w K mg base CX0 (k + 1) fI fd ps sp := by
  obtain ⟨oc, od, kV, doc, pm, an, cda, cc, ct, osl, rfl, lk, hcd, ⟨cl1, cld1, csl1, hcc⟩, cl2, cld2, csl2, fs, tf, hcda, hfs⟩ := S.ex
  refine ⟨len, fun A outer s H args us vs Q E pp hr hhot hpin e0 hb r hsp => ?_⟩
  have KX : K.In s.heap := e0.mod.kin.keeps fun b o e => (e0.bs b o e).1
  have lim : s.heap.NoLimit := e0.mod.nolimit.keeps fun b o e => (e0.bs b o e).1
  have hl := len _ _ _ _ hsp
  have ccH : H cc = none := (e0.bs cc _ (e0.mod.kin _ _ hcc)).2
  have CA : NdefX.CellsAt [("__class__", cc)] ["__class__"] [none] s.heap H := by
    have look : ∀ y c, List.lookup y [(("__class__" : Str), cc)] = some c → y = "__class__" ∧ c = cc := fun y c h => by
      by_cases e : y = "__class__"
      · subst e
        simp [List.lookup] at h
        exact ⟨rfl, h.symm⟩
      · have e2 : (y == ("__class__" : Str)) = false := by simpa using e
        simp [List.lookup, e2] at h
    refine ⟨rfl, fun y c h => ?_, fun x y c h1 h2 => ?_, fun i y h => ?_⟩
    · obtain ⟨rfl, rfl⟩ := look y c h
      exact ⟨ccH, _, _, KX _ _ hcc, rfl⟩
    · rw [(look x c h1).1, (look y c h2).1]
    · match i, h with
      | 0, h =>
        have e : y = "__class__" := (Option.some.inj h).symm
        subst e
        exact ⟨cc, by simp [List.lookup], fun v z => by cases z⟩
  obtain ⟨a, vs2, tm, tr, hvs, ha, hm, htr, hq⟩ := hbody cda cc A outer s H vs Q E pp (hr.deeper _) hsp
  refine PySem.ks_codeAny_call_defAt (binds := ps.zip us) hr.depth (KX _ _ lk) rfl lim (PySem.W.codeRec_of KX hcd) rfl hb Z.nocell (fun ⟨n, _⟩ hy => Z.par n (List.of_mem_zip hy).1) (fun h₀ hns kp => ?_) Z.co Z.gen Z.kind
  have I := NdefX.inv_startNH (f := fI) (F := supF qn st cda cc) (CX := CX0) (E := E) (tk := s.toks + (ps.zip us).length) Z hpin e0 hl r CA hns kp
  have q0 : ∃ us2, us = .ref a :: us2 := by
    subst hvs
    cases r with
    | @cons _ u0 _ ur r0 r1 =>
      obtain rfl : u0 = Value.ref a := r0
      exact ⟨ur, rfl⟩
  obtain ⟨us2, hus⟩ := q0
  obtain ⟨p', ps2, hps⟩ : ∃ p' ps2, ps = p' :: ps2 := by
    cases ps with
    | nil => cases han
    | cons p' ps2 => exact ⟨p', ps2, rfl⟩
  have hp' : p' = ar.arg := by
    rw [hps] at han
    exact Option.some.inj han
  have ndP : ps.Nodup := by
    have q := Z.nd.sublist (List.take_sublist (ps.length + 1) N)
    rw [show N.take (ps.length + 1) = ps ++ [("__class__" : Str)] from Z.pre] at q
    exact (List.nodup_append.mp q).1
  have hself : (ps.zip us).reverse.lookup ar.arg = some (.ref a) := by
    refine NdefX.zip_look (i := 0) ndP ?_ ?_
    · rw [hps, hp']; rfl
    · rw [hus]; rfl
  have hself2 : (defScope st).names.lookup ar.arg = some .local := by
    rw [← hp']
    exact Z.par p' (by rw [hps]; exact List.mem_cons_self ..)
  refine PySem.ks_wpAt_mono (Q := SP (NdefX.ncxH CX0 P w K mg base N (supF qn st cda cc) fI A outer s H E pp) [] { nx := fun _ H' => Q .non H', rt := Q }) (E := (NdefX.ncxH CX0 P w K mg base N (supF qn st cda cc) fI A outer s H E pp).xe) ?_ (fun fl s' hs => ?_) fun _ _ z => z
  · show PySem.wpAt _ _ _ (execs (defBody st) _) _ _ _
    obtain ⟨oD, hD0, hD2⟩ : ∃ o, K.lookup C = some o ∧ ∃ cd, o.data = .cls cd ∧ PySem.W.clsIn K C = some cd := by
      have q := U.self
      unfold PySem.W.mroIn at q
      cases z : PySem.W.clsIn K C with
      | none => rw [z] at q; cases q
      | some cd =>
        obtain ⟨o, h1, h2⟩ := cls_obj z
        exact ⟨o, h1, cd, h2, rfl⟩
    obtain ⟨cd, hD3, hD4⟩ := hD2
    have K1 := I.kIn
    obtain ⟨t1, ho⟩ := exo_at I.hok ha
    have gN := I.mod.glob.keeps I.bk
    obtain ⟨mb, hmb1, hmb2⟩ := I.mod.blt
    have bN := hmb1.keeps I.bk
    rw [hB]
    refine PySem.ks_wpAt_execs_cons ?_
    refine PySem.ks_wpAt_Expr_any ?_ (by show ((defScope st).kind == .module && _) = false; rw [Z.kind]; rfl) (hsw _)
    refine PySem.ks_wpAt_MethodCall ?_ (hev _)
    refine PySem.ks_wpAt_super_base hks (Z.frk _ (List.mem_singleton.mpr rfl)) (by decide) rfl (K1 _ _ lk) rfl har rfl (K1 _ _ hcda) rfl hfs (by rw [hP.file]; exact beq_self_eq_true _) hP.top ?_
    refine PySem.W.ks_loadName_global Z.kind hks (Calls.loadGlobal_builtin gN hsup bN ((hmb2 _ (by decide)).trans (by kernel_rfl)) ⟨rfl, ?_⟩)
    refine wpAny_loadName_free Z.kind (Z.frk _ (List.mem_singleton.mpr rfl)) (show List.lookup ("__class__" : Str) [(("__class__" : Str), cc)] = some cc by simp [List.lookup]) ⟨_, K1 _ _ hcc, rfl⟩ ?_
    refine wpAny_loadName_local Z.kind hself2 hns hself ?_
    refine PySem.ks_wpAny_isType_cls (K1 _ _ hD0) hD3 ⟨rfl, ?_⟩
    refine PySem.ks_wpAny_call_super (K1 _ _ hD0) hD3 ho rfl (fun c z => by cases z) (PySem.W.looks_mroIn K1 U.self) (fun h1 e1 k1 => ?_)
    have I1 := I.kept (t' := s.toks + (ps.zip us).length) k1
    have J1 : PySem.W.InstAt h1 a _ C none := ⟨k1 _ _ ho, rfl, rfl, trivial⟩
    have hf : PySem.W.alongIn K "__init__" ((cd.mro.dropWhile (· != .ref C)).drop 1) = some (some (.builtin "ValueError.__init__")) := by
      have q := U.ini
      unfold PySem.W.ks_superIn at q
      rw [hD4] at q
      exact q
    refine PySem.W.kxs_getMethod PySem.W.kxs_ValueError e1 (PySem.W.looks_opaque I1.kIn U.stat) (l₀ := cd.mro) (fun A Q E s k q => wpAny_bind ((PySem.W.looks_clsIn I1.kIn hD4) A _ E s k (wpAny_pure q))) rfl I1.kIn hf (J1.type.andThen (PySem.W.looks_subIn I1.kIn U.sub)) (PySem.W.ks_ne I1.kIn J1 hD4) (by decide) ?_
    have I2 := I1.kept (t' := s.toks + (ps.zip us).length + 1) (h' := h1.push (PySem.W.kxs_mw "ValueError.__init__" a)) (fun b o q => Heap.get?_push_of_some _ q)
    have I3 := I2.pins_of (pins' := [(h1.objs.size, PySem.W.kxs_mw "ValueError.__init__" a)]) (fun p hp => by
      rw [List.mem_singleton.mp hp]
      exact ⟨Heap.get?_push_size _ rfl, I1.hok.fresh (Nat.le_refl _), Nat.ne_of_gt I1.lt, I1.nofs (Nat.le_refl _), fun v z => by cases z⟩)
    refine mw_call1 (i := "ValueError.__init__") (x := a) (hst _) ?_
    have hst0 := hst (NdefX.ncxH CX0 P w K mg base N (supF qn st cda cc) fI A outer s H E pp).env
    refine thn ((pa_cons hm pa_nil hst0).run p3 _ _ _ H (fun us2 H1 => (∃ v, us2 = [v]) ∧ H1 a = some (exo a C none) ∧ tr { nx := fun _ H' => Q .non H', rt := Q } (NdefX.startF N vs [none]) H1) I3 ?_) fun us3 s3 hh => ?_
    · exact hq
    obtain ⟨vs3, H1, I4, r4, ⟨v3, hv3⟩, ha1, hq1⟩ := hh
    subst hv3
    have hlen : us3.length ≤ sizeLine := by
      rw [← Paired.length r4]
      exact (by decide : 1 ≤ sizeLine)
    have hu : s3.heap.get? h1.objs.size = some (PySem.W.kxs_mw "ValueError.__init__" a) := (I4.pin _ (List.mem_append_right _ (List.mem_singleton.mpr rfl))).1
    refine ⟨hu, ?_⟩
    obtain ⟨t3, ho3⟩ := exo_at I4.hok ha1
    obtain ⟨nm, qq, nn, bs, bm, sn, sub, ab, col, dd, z0, z1, z2, z3, z5, hC, hbm⟩ := U.oex.cls
    obtain ⟨hp3, g3, d3, tk3, os3⟩ := s3
    have fin : ∀ h', (∀ b o, b ≠ a → hp3.get? b = some o → h'.get? b = some o) → h'.get? a = some (PySem.W.excObj C hp3.objs.size none .none) →
        PySem.wpAt (model P w) (A.deeper (NdefX.envF (supF qn st cda cc) fI s.heap.objs.size)) (.func (.Expr (.Call (.Attribute (.Call (.Name "super" p0) [] [] p1) "__init__" p2) [msg] [] p3) p4 :: rest) (NdefX.envF (supF qn st cda cc) fI s.heap.objs.size))
          (execs rest (NdefX.envF (supF qn st cda cc) fI s.heap.objs.size)) (SP (NdefX.ncxH CX0 P w K mg base N (supF qn st cda cc) fI A outer s H E pp) [] { nx := fun _ H' => Q .non H', rt := Q }) (NdefX.ncxH CX0 P w K mg base N (supF qn st cda cc) fI A outer s H E pp).xe ⟨h', g3, d3, tk3, os3⟩ := fun h' k hx => by
      have J := I4.write (t' := tk3) (x := a) (e := a) (o := exo a C none) (by rw [ha1]; exact True.intro) (.inl rfl) k ⟨_, hx⟩ (exo_ok hx)
      have eu : upd H1 a (exo a C none) = H1 := funext fun b => by
        by_cases hb : b = a
        · rw [hb, upd_same, ha1]
        · exact upd_ne hb
      rw [eu] at J
      exact PySem.wpAt_of_wpAny (htr.run [] _ _ H1 _ (J.pins_of (pins' := []) fun p hp => absurd hp (by simp)) hq1)
    refine wpAny_call (codeAny_of_tree (show wpAny _ _ (callAny (.ref h1.objs.size) ⟨us3, []⟩) _ _ _ from ?_))
    simp only [callAny]
    refine wpAny_bind (wpAny_load hu ?_)
    simp only [PySem.W.kxs_mw, show (Value.type "method-wrapper" == Value.type "method" || Value.type "method-wrapper" == Value.type "builtin_function_or_method" || Value.type "method-wrapper" == Value.type "method-wrapper") = true by decide, if_true]
    refine PySem.W.KFB.if_so (by decide) (wpAny_bind (PySem.W.check_bound_init F.excBase_ValueError.toExcCallFacts (I4.kIn _ _ hC) ho3 rfl (wpAny_bind (wpAny_pure (wpAny_pure ?_)))))
    refine ⟨plainId_quiet F.excBase_ValueError.init.plain _, codeAny_builtin F.excBase_ValueError.initEntry (PySem.W.exc_init_tree (cls := .ref C) (t0 := t3) (dv := none) (c2 := .none) (c3 := .none) (b4 := .bool false) ho3 hlen fun h' k hx _ => ?_)⟩
    exact fin h' k hx
  · have fin : ∀ {σ' : L2.St} {H' : Hp} {v : V} {u : Value}, Inv (NdefX.ncxH CX0 P w K mg base N (supF qn st cda cc) fI A outer s H E pp) [] σ' H' s' → L2.RelV v u → Q v H' → CE outer P w H s Q u s' :=
      fun {σ' H' v u} J rv q => ⟨v, H', J.os, J.bare, J.base, J.hok, rv, q⟩
    cases fl with
    | ret u =>
      obtain ⟨v, σ', H', J, rv, q⟩ := hs
      exact fin J rv q
    | next =>
      obtain ⟨σ', H', J, q⟩ := hs
      exact fin (v := V.non) (u := Value.none) J rfl q
    | brk =>
      obtain ⟨_, _, _, q⟩ := hs
      exact False.elim q
    | cont =>
      obtain ⟨_, _, _, q⟩ := hs
      exact False.elim q
end
/-- C's __init__ keeps sp where something is handled, too -/
structure EDefH (P : Program) (w : World) (K : PySem.W.Frag) (mg : Str → Option Value) (base : Heap) (C : Addr) (x : Str) (ps : List Str) (sp : Sp) : Prop where
  at_ : mg x = some (.ref C)
  oex : OexC K C
  ini : ∃ fI fd, L2H.FnH P w K mg base CX0 2 fI fd ps sp ∧ PySem.W.findIn K (.ref C) "__init__" = some (some (.ref fI)) ∧ PySem.W.typeIn K (.ref fI) = some (.type "function") ∧ Binds K fd ps []
theorem pmk_zc {X : Cx} {e : Expr} {t : L2.St → Hp → XK → Prop} (h : L2N.PMk X e t) : L2.PMk X e t := fun pins s σ H Q I q => thn (h pins s σ H Q I q) fun _ _ ⟨a, oe, vs, sI, H', cls, d, e1, J, k, hne, ha, hz, r⟩ => ⟨a, oe, vs, sI, H', cls, d, e1, J, k, hne, ha, hz.zc, r⟩
theorem ps_raiseX {X : Cx} {W : WX} {e : Expr} {t : L2.St → Hp → XK → Prop} {pos : Pos} (hc : X.calm = true) (tk : L2.Takes X W) (he : L2N.PMk X e t) : PS X (.Raise (some e) none pos) (tRaise t W) := L2.ps_raise hc tk (pmk_zc he)
theorem ps_raiseF {X : Cx} {W : WX} {e : Expr} {t : L2.St → Hp → XK → Prop} {j : Nat} {cpos pos : Pos} (hc : L2H.HotC X) (tk : L2.Takes X W) (he : L2H.PMk5 X e t) : PS X (.Raise (some e) (some (.Constant .none j cpos)) pos) (tRaise t W) := L2H.ps_raiseHN hc tk he
/-- arguments known by a word only -/
def tCutA (t : TA) : TA := fun σ H R => ∃ S : List V → Hp → Prop, t σ H S ∧ ∀ vs H1, S vs H1 → R vs H1
theorem pa_cut {X : Cx} {es : List Expr} {t : TA} (h : PA X es t) : PA X es (tCutA t) := ⟨fun pos pins s σ H R I ⟨S, h1, k⟩ => thn (h.run pos pins s σ H S I h1) fun us s1 ⟨vs, H1, I1, r, q⟩ => ⟨vs, H1, I1, r, k vs H1 q⟩⟩
section
variable {X : Cx} {C : Addr} {x f g : Str} {e : Expr} {es : List Expr} {ta : TA} {p pos : Pos}
theorem pmk5_e1 {n : Str} (G : EDefH X.prog X.w X.K X.mg X.base C x ["self", n] (sp_i1 C f)) (hr : L2H.RoomH 3 X.A) (hc : L2H.HotC X) (ha : PA X (e :: es) ta) (hg : Gl X x := by rfl) (hdb : (x == ("__debug__" : Str)) = false := by decide)
    (he : starEach (e :: es) X.env = (false, eval e X.env) :: starEach es X.env := by rfl) (hpl : (backTo pos (starEach es X.env)).any (·.1) = false := by rfl) : L2H.PMk5 X (.Call (.Name x p) (e :: es) [] pos) (tErr C [f] ta) := by
  obtain ⟨fI, fd, F1, iC, tI, hb⟩ := G.ini
  intro pins s σ H Q I h
  refine L2H.pmk5_oexH G.oex iC tI F1 hr hc hb pass0 hg G.at_ (pa_cut ha) hdb he hpl pins s σ H Q I ⟨_, h, fun vs H1 hh => ?_⟩
  obtain ⟨hl, ht, q⟩ := hh
  match vs, hl with
  | [v], _ =>
    refine ⟨sz2 _ (Nat.le_of_ble_eq_true rfl), fun a na => ⟨a, v, rfl, ht v List.mem_cons_self, upd_same, fun dx h1 h2 => ⟨rfl, dx, [(f, v)], upd_same, by rw [upd_ne h2, upd_same], ?_, ?_⟩⟩⟩
    · rw [upd_ne h2] at h1
      exact h1
    · rw [upd_ne h2] at h1
      rw [err_heap na h2 (H := H1) (fun b b1 b2 => by rw [upd_ne b1, upd_ne b2, upd_ne b1])]
      exact q dx h1
end
section
variable {P : Program} {w : World} {K : PySem.W.Frag} {mg : Str → Option Value} {base : Heap}
theorem _root_.RD.FunAt.okX {x : Str} {st : Stmt} {N ps : List Str} {k : Nat} {sp : Sp} (F : FunAt K mg x st ps) (S : FnScope N ps (defScope st)) (len : ∀ vs H Q E, sp vs H Q E → vs.length = ps.length)
    (hbody : ∀ (f : Addr) (cdv : Value) (A : Around) (outer : List Env) (s : Shared) (H : Hp) (vs : List V) (Q : VK) (E : XK), Room k (A.deeper (envOfC x (defScope st) s.heap.objs.size f cdv)) → sp vs H Q E →
      ∃ t, PSs (cxOf (L2.CX P w) P w K mg base N x (defScope st) f cdv A outer s H E) (defBody st) t ∧ t { nx := fun _ H' => Q .non H', rt := Q } (start N vs) H) : Def P w K mg base (L2.CX P w) (k + 1) x ps sp := by
  obtain ⟨f, fd, F, hm, hb⟩ := F.ex
  have kp := F.kp
  obtain ⟨oc, od, kV, doc, pm, an, cdv, ct, osl, rfl, lk, hcd⟩ := F.ex
  exact ⟨f, _, fn_of lk hcd S len fun A outer s H vs Q E hr hsp => hbody f cdv A outer s H vs Q E hr hsp, hm, kp, hb⟩
end
/-! a try whose suite raises -/
def tTryO (K : PySem.W.Frag) (c : Value) (ts : Addr → Value → Option Addr → TS) (Wout : WX) (tb : WX → TS) : TS := fun D σ H => tb (wOnly K c ts Wout D) D σ H
theorem ps_tryO {X : Cx} {x : Str} {c : Value} {body suite : List Stmt} {b₀ : Stmt} {np pos pos' : Pos} {tb : WX → TS} {ts : Addr → Value → Option Addr → TS} {Wout : WX} (hs : X.stack = X.env :: X.outer) (hf : X.env.frame = some X.env.locals) (hc : Names X x c) (hpa : ∀ hd : Option Value, PassesOwnAt (model X.prog X.w) (X.A.mark hd) X.A X.env X.xe) (tk : L2.Takes X Wout)
    (hb : ∀ (W : WX) (pn : List (Addr × Obj)) (xe : Value → Shared → Prop), L2N.Takes (X.tr pn xe) W → PassesOwn (model X.prog X.w) X.A X.env xe → PSs (X.tr pn xe) body (tb W))
    (hsu : ∀ (a : Addr) (oe : Obj) (cls : Value) (d : Option Addr) (pn : List (Addr × Obj)), L2N.Zn cls d oe → (∃ vs, oe.data = .fields vs) → L2.Takes (L2H.suiteX X a ((a, oe) :: pn)) Wout → L2H.HotC (L2H.suiteX X a ((a, oe) :: pn)) →
      PSs (L2H.suiteX X a ((a, oe) :: pn)) (b₀ :: suite) (ts a cls d)) :
    PS X (.Try body [.ExceptHandler (some (.Name x np)) none (b₀ :: suite) pos'] [] [] pos) (tTryO X.K c ts Wout tb) := L2H.ps_try_onlyX hs hf hc hpa tk (fun W pn xe t1 _ po => hb W pn xe t1 po) hsu
theorem r_tryO {K : PySem.W.Frag} {c : Value} {ts : Addr → Value → Option Addr → TS} {Wout : WX} {tb : WX → TS} {D : Ends} {σ : L2.St} {H : Hp} (q : tb (wOnly K c ts Wout D) D σ H) : tTryO K c ts Wout tb D σ H := q
theorem wo_yes {K : PySem.W.Frag} {cls c : Value} {d : Option Addr} {ts : Addr → Value → Option Addr → TS} {Wout : WX} {D : Ends} {σ : L2.St} {H : Hp} (hb : PySem.W.exmOne K cls c = some true) (q : ∀ a, H a = none → ts a cls d D σ H) : wOnly K c ts Wout D cls d σ H := ⟨true, hb, fun _ => q, fun z => by cases z⟩
/-! a call of a def that a local name holds, which may raise -/
structure HeldX (P : Program) (w : World) (K : PySem.W.Frag) (mg : Str → Option Value) (base : Heap) (CX : CXT) (k : Nat) (f : Addr) (sp : Sp) : Prop where
  ex : ∃ (fd : FuncData) (ps : List Str), FnOk P w K mg base CX k f fd ps sp ∧ PySem.W.keepIn K (.ref f) = true ∧ Binds K fd ps []
def tCallLS (i : Nat) (f : Addr) (sp : Sp) (E : L2.St → XK) (t : TA) : TE := fun σ H Q => σ[i]? = some (some (.ref f)) ∧ t σ H fun vs H1 => sp vs H1 Q (E σ)
theorem r_callLS {i : Nat} {f : Addr} {sp : Sp} {E : L2.St → XK} {t : TA} {σ : L2.St} {H : Hp} {Q : VK} (h : σ[i]? = some (some (.ref f))) (q : t σ H fun vs H1 => sp vs H1 Q (E σ)) : tCallLS i f sp E t σ H Q := ⟨h, q⟩
section
variable {X : Cx} {k i : Nat} {f : Addr} {sp : Sp} {x : Str} {p pos : Pos} {e : Expr} {es : List Expr} {t : TA} {W : WX}
theorem pe_callLN (G : HeldX X.prog X.w X.K X.mg X.base (L2N.CX X.prog X.w) k f sp) (tk : L2N.Takes X W) (hr : Room k X.A) (hN : X.N[i]? = some x) (hv : Vis X.env.scope x) (ha : PA X (e :: es) t)
    (hdb : (x == ("__debug__" : Str)) = false := by decide) (hcd : (x == ("__classdict__" : Str)) = false := by decide)
    (he : starEach (e :: es) X.env = (false, eval e X.env) :: starEach es X.env := by rfl) (hpl : (backTo pos (starEach es X.env)).any (·.1) = false := by rfl) : PE X (.Call (.Name x p) (e :: es) [] pos) (tCallLS i f sp (WE W) t) := by
  obtain ⟨fd, ps, F, hk, hb⟩ := G.ex
  refine ⟨fun pins s σ H Q I h => ?_⟩
  obtain ⟨hs, ht⟩ := h
  refine wpAny_Call_Name_kw (thn ((pe_var (pos := p) hN hv hdb hcd).run pins s σ H (fun v H1 => v = .ref f ∧ H1 = H) I ⟨.ref f, hs, rfl, rfl⟩) fun u s1 ⟨v, H1, I1, r1, q1⟩ => ?_)
  obtain ⟨rfl, rfl⟩ := q1
  cases r1
  refine PySem.W.callWith_K (h₀ := X.base) I.ok.mod.kin hk (thn (ha.run pos pins s1 σ _ _ I1 ht) fun us s2 ⟨vs, H2, I2, r, q⟩ => ⟨I2.kIn, ?_⟩) he hpl
  exact run_fnS F hr hb (L2N.passAt tk σ) I2 r q
end
/-! ### what a raised error is told by -/
/-- an error of the class at C with these fields, where the heap was H -/
def RetE (H : Hp) (E : XK) (C : Addr) (fs : List (Str × V)) : Prop := ∀ H' d, Same H H' → H d = none → H' d = some (.xd fs) → E (.ref C) (some d) H'
section
variable {H H0 H' : Hp} {E : XK} {C d : Addr} {fs : List (Str × V)} {L : List (Addr × HO)}
theorem RetE.mk (q : RetE H0 E C fs) (o : Own H0 H L) (hd : H d = none) : E (.ref C) (some d) (upd H d (.xd fs)) := q _ d (o.new (u := .xd fs) hd).ex (o.ex.free hd) upd_same
theorem r_retE (o : Own H0 H L) (k : ∀ d H', H d = none → Own H0 H' ((d, .xd fs) :: L) → E (.ref C) (some d) H') : RetE H E C fs := fun H' d s hd hx => k d H' hd (o.add s hd hx)
end
theorem ps_whileT {X : Cx} {pn : List (Addr × Obj)} {xe : Value → Shared → Prop} {c : Expr} {body : List Stmt} {tc : TT} {tb : TS} {pos : Pos} (hp : PassesOwn (model X.prog X.w) X.A X.env xe) (hc : PT (X.tr pn xe) c tc) (hb : PSs (X.tr pn xe) body tb) : PS (X.tr pn xe) (.While c body [] pos) (tWhile tc tb) := ps_while hp hc hb

/-! ### own error classes without __init__ -/
section
structure ErrPl (K : PySem.W.Frag) (C : Addr) : Prop where
  x : PySem.W.excIn K C [.type "ValueError", .type "Exception", .type "BaseException", .type "object"] "ValueError.__new__" = true
  k : PySem.W.keepIn K (.ref C) = true
def tErr0 (C : Addr) : L2.St → Hp → XK → Prop := fun _ H Q => Q (.ref C) none H
theorem pmk_e0 {X : Cx} {C : Addr} {x m : Str} {j : Nat} {p p2 pos : Pos} (E : ErrCls X.K X.mg C x) (I : ErrPl X.K C) (hg : Gl X x := by rfl) (hdb : (x == ("__debug__" : Str)) = false := by decide) :
    L2N.PMk X (.Call (.Name x p) [.Constant (.str m) j p2] [] pos) (tErr0 C) := L2N.pmk_own PySem.F.excBase_ValueError I.x E.at_ I.k (raises_own E.ex.hs E.ty) hg hdb
theorem r_raise0 {C : Addr} {W : WX} {D : Ends} {σ : L2.St} {H : Hp} (q : W (.ref C) none σ H) : tRaise (tErr0 C) W D σ H := q
def rIsEB (K : PySem.W.Frag) (a : Addr) (cls : Value) (d : Option Addr) : List V → Hp → VK → Prop := fun xs H Q => ∃ (D : Addr), cls = .ref D ∧ d = none ∧ ExcC K D ∧ rIsE K D a xs H Q
theorem call_isEB {X : Cx} {a : Addr} {cls : Value} {d : Option Addr} {oe : Obj} {pn : List (Addr × Obj)} (hz : Zc cls d oe) (hf : ∃ vs, oe.data = .fields vs) : CallR (X.suite a ((a, oe) :: pn)) (.builtin "isinstance") (rIsEB X.K a cls d) := by
  intro pins s σ H xs us Q I r h
  obtain ⟨D, rfl, rfl, T, h⟩ := h
  exact call_isE T hz hf pins s σ H xs us Q I r h
theorem r_isE0 {K : PySem.W.Frag} {a D C : Addr} {b : Bool} {H : Hp} {Q : VK} (T : ExcC K D) (hk : PySem.W.kitOne K (.ref D) (.ref C) = some b) (q : Q (.bl b) H) : rIsEB K a (.ref D) none [.ref a, .ref C] H Q :=
  ⟨D, rfl, rfl, T, .ref C, .ref C, b, rfl, (fun u h => by cases h; rfl), hk, q⟩
def RetE0 (H : Hp) (E : XK) (C : Addr) : Prop := ∀ H', Same H H' → E (.ref C) none H'
theorem RetE0.mk {H0 H : Hp} {E : XK} {C : Addr} {L : List (Addr × HO)} (q : RetE0 H0 E C) (o : Own H0 H L) : E (.ref C) none H := q _ o.ex
theorem r_retE0 {H0 H : Hp} {E : XK} {C : Addr} {L : List (Addr × HO)} (o : Own H0 H L) (k : ∀ H', Own H0 H' L → E (.ref C) none H') : RetE0 H E C := fun H' s => k H' (o.mono s)
end
theorem r_retE0s {H0 H : Hp} {E : XK} {C : Addr} {L : List (Addr × HO)} (o : Own H0 H L) (k : ∀ H', Same H H' → Own H0 H' L → E (.ref C) none H') : RetE0 H E C := fun H' s => k H' s (o.mono s)

/-! ### own error classes without __init__, raised from None in an except suite -/
section
variable {X : Cx} {C : Addr}
theorem pmk5_e0 {x m : Str} {j : Nat} {p p2 pos : Pos} (E : ErrCls X.K X.mg C x) (q0 : ErrPl X.K C) (hg : Gl X x := by rfl) (hdb : (x == ("__debug__" : Str)) = false := by decide) :
    L2H.PMk5 X (.Call (.Name x p) [.Constant (.str m) j p2] [] pos) (tErr0 C) := by
  intro pins s σ H Q I h
  have ha : PA X [.Constant (.str m) j p2] (tCons (tC (.str m)) tNil) := pa_cons pe_str pa_nil
  refine wpAny_Call_Name_kw (ld_glob I hg E.at_ (PySem.W.callWith_K (h₀ := X.base) I.ok.mod.kin q0.k (thn (ha.run pos pins s σ H (fun vs H1 => vs = [V.str m] ∧ H = H1) I ⟨rfl, rfl⟩) fun us t1 hh => ?_)) hdb)
  obtain ⟨vs, H1, J, r1, rfl, e2⟩ := hh
  rw [← e2] at J
  refine ⟨J.kIn, ?_⟩
  obtain ⟨u, rfl⟩ : ∃ u, us = [u] := by
    cases r1 with
    | cons _ rn => cases rn; exact ⟨_, rfl⟩
  show wpAny _ _ (call (.ref C) [u]) _ _ _
  obtain ⟨bm, N, nm, qn, bs, hdct, sn, sub, ab, col, dd, k0, k1, k2, k3, k5, mN, hC, hN, hni, T⟩ := exc_obj J.kIn q0.x
  exact wpAny_call_exc_subT PySem.F.excBase_ValueError T hC hN hni (fun h' a hm => L2H.mk_of5 J hm (raises_own E.ex.hs E.ty) h (J.hok.gone hm.new)) (by show 1 ≤ sizeLine; rw [sizeLine_eq]; omega)
end

local macro_rules | `(tactic| walk_at "rd1") => `(tactic| (first
  | with_reducible refine r_tryA ?_
  | with_reducible refine r_tryO ?_
  | with_reducible refine r_callS ?_
  | with_reducible refine r_xfD ?_
  | ((with_reducible refine r_callLS ?h ?_); (case h => exact rfl))))
local macro_rules | `(tactic| walk_at "rd1") => `(tactic| (first
  | with_reducible refine r_z2 ?_
  | with_reducible refine r_z3 ?_
  | with_reducible refine r_en ?_
  | ((with_reducible refine r_gTup3 (x := ?_) (y := ?_) (z := ?_) ?h ?_); (case h => walk_at "sqT"))))
/-! ### a dict of the module: texts as keys, whole numbers as values -/
def DEs (P : Params) : List DictEntry → List (Str × Int) → Prop
  | [], [] => True
  | e :: r, p :: q => (∃ t u, e = ⟨PyData.keyHash P p.1, .str p.1 t, .int p.2 u⟩) ∧ DEs P r q
  | _, _ => False
def KDs (K : PySem.W.Frag) (w : World) (a : Addr) (kvs : List (Str × Int)) : Prop := ∃ es n, K.lookup a = some ⟨.type "dict", none, .dict es n, #[]⟩ ∧ DEs w.params es.toList kvs ∧ (a == sysModules) = false
theorem DEs.lit {P : Params} : ∀ {es : List DictEntry} {kvs : List (Str × Int)}, DEs P es kvs → PySem.W.KeysLit P es
  | [], _, _ => trivial
  | e :: r, p :: q, ⟨⟨t, u, h⟩, h2⟩ => ⟨⟨p.1, t, by rw [h], by rw [h]⟩, h2.lit⟩
  | _ :: _, [], h => h.elim
theorem DEs.find {P : Params} (z : Str) : ∀ {es : List DictEntry} {kvs : List (Str × Int)}, DEs P es kvs → (kvs.lookup z = none ∧ (es.find? fun e => Value.isStrOf z e.key) = none) ∨ ∃ v e u, kvs.lookup z = some v ∧ (es.find? fun e => Value.isStrOf z e.key) = some e ∧ e.val = .int v u
  | [], [], _ => .inl ⟨rfl, rfl⟩
  | e :: r, p :: q, ⟨⟨t, u, h⟩, h2⟩ => by
    have hk : Value.isStrOf z e.key = decide (z = p.1) := by
      rw [h, Bool.eq_iff_iff, decide_eq_true_eq]
      show (p.1 == z) = true ↔ z = p.1
      rw [beq_iff_eq]
      exact eq_comm
    by_cases hz : z = p.1
    · refine .inr ⟨p.2, e, u, ?_, ?_, by rw [h]⟩
      · rw [List.lookup_cons, show (z == p.1) = true by rw [hz]; exact beq_self_eq_true _]
      · rw [List.find?_cons_of_pos (by rw [hk]; exact decide_eq_true hz)]
    · have e1 : (p :: q).lookup z = q.lookup z := by rw [List.lookup_cons, show (z == p.1) = false from beq_false_of_ne hz]
      rw [e1, List.find?_cons_of_neg (by rw [hk]; simp [hz])]
      exact h2.find z
  | [], _ :: _, h => h.elim
  | _ :: _, [], h => h.elim
section
variable {X : Cx} {pins : List (Addr × Obj)} {σ : L2.St} {H : Hp} {s : Shared}
theorem KDs.map {a : Addr} {kvs : List (Str × Int)} {prog : Program} {w : World} {K : PySem.W.Frag} (D : KDs K w a kvs) {h : Heap} (hk : K.In h) (z : Str) : ∃ f, h.MapOf (strKind prog w) a f ∧ ((kvs.lookup z = none ∧ f z = none) ∨ ∃ v u, kvs.lookup z = some v ∧ f z = some (.int v u)) := by
  obtain ⟨es, n, hl, hd, low⟩ := D
  refine ⟨_, PySem.W.mapOf_K hk hl hd.lit, ?_⟩
  show (_ ∧ findBy Value.isStrOf es z = none) ∨ ∃ v u, _ ∧ findBy Value.isStrOf es z = some (.int v u)
  obtain ⟨l⟩ := es
  unfold findBy
  rw [List.find?_toArray]
  rcases hd.find z with ⟨h1, h2⟩ | ⟨v, e, u, h1, h2, h3⟩
  · exact .inl ⟨h1, by rw [show (l.find? fun e => Value.isStrOf z e.key) = none from h2]; rfl⟩
  · exact .inr ⟨v, u, h1, by rw [show (l.find? fun e => Value.isStrOf z e.key) = some e from h2]; exact congrArg some h3⟩
def rInKD (K : PySem.W.Frag) (w : World) : R2 := fun x y H Q => ∃ z a kvs, x = .str z ∧ y = .ref a ∧ KDs K w a kvs ∧ Q (.bl (kvs.lookup z).isSome) H
theorem op_inKD : OpR X (compareOp .In) (rInKD X.K X.w) := by
  intro pins s σ H x y v u Q I rx ry h
  obtain ⟨z, a, kvs, rfl, rfl, D, q⟩ := h
  obtain ⟨t, rfl⟩ := rx
  cases ry
  obtain ⟨f, hm, hf⟩ := D.map (prog := X.prog) I.kIn z
  obtain ⟨_, _, _, _, low⟩ := D
  refine wpAny_in_of (PySem.strKind_is X.prog X.w z t) low hm ?_
  have e : (f z).isSome = (kvs.lookup z).isSome := by
    rcases hf with ⟨h1, h2⟩ | ⟨v, u, h1, h2⟩ <;> rw [h1, h2] <;> rfl
  rw [e]
  exact ⟨.bl _, H, I.tok _, rfl, q⟩
def tKGet (K : PySem.W.Frag) (w : World) (td ty tx : TE) : TE := fun σ H Q => td σ H fun x H1 => ∃ a kvs, x = .ref a ∧ KDs K w a kvs ∧ ty σ H1 fun y H2 => tx σ H2 fun z H3 => ∃ k i, y = .str k ∧ z = .int i ∧ Q (.int ((kvs.lookup k).getD i)) H3
theorem pe_kget {o e f : Expr} {apos cpos : Pos} {td ty tx : TE} (ho : PE X o td) (he : PE X e ty) (hf : PE X f tx) (m : M2 X o "get" apos e f cpos) : PE X (.Call (.Attribute o "get" apos) [e, f] [] cpos) (tKGet X.K X.w td ty tx) := by
  refine ⟨fun pins s σ H Q I h => ?_⟩
  refine wpAny_Call_method m.base m.few m.line PySem.F.plainAttrs_dict PySem.F.slot_dict_get PySem.F.type_dict_get (thn (ho.run pins s σ H _ I h) fun u s1 ⟨x, H1, I1, rx, hh⟩ => ?_)
  obtain ⟨a, kvs, rfl, D, q1⟩ := hh
  obtain rfl : u = Value.ref a := rx
  obtain ⟨f0, hm0, _⟩ := D.map (prog := X.prog) I1.kIn Str.empty
  have D1 := D
  obtain ⟨es, n, hl, hd, low⟩ := D1
  refine ⟨hm0.typeIs, fun b q => ?_, ?_⟩
  · cases q
    exact ⟨_, I1.kIn _ _ hl, rfl⟩
  rw [m.trees]
  refine Calls.callWith_builtin rfl (Calls.evalArgs_plain (Calls.spliced_cons (thn (he.run pins s1 σ H1 _ I1 q1) fun iv s2 hy => Calls.spliced_cons ?_)))
  obtain ⟨y, H2, I2, ry, q2⟩ := hy
  refine thn (hf.run pins s2 σ H2 _ I2 q2) fun fv s3 hz => Calls.spliced_nil ?_
  obtain ⟨z, H3, I3, rz, k, i, rfl, rfl, q3⟩ := hz
  obtain ⟨t, rfl⟩ := ry
  obtain ⟨t2, rfl⟩ := rz
  obtain ⟨f, hm, hf⟩ := D.map (prog := X.prog) I3.kIn k
  refine call_meetsIn PySem.F.slot_dict_get hm.typeIs PySem.F.entry_dict_get (PySem.F.args_dict_get_3 _ _ _) (meets_dict_get_default (strKind X.prog X.w) a (PySem.strKind_is X.prog X.w k t) low (.int i t2)) ⟨_, hm, ?_⟩
  rcases hf with ⟨h1, h2⟩ | ⟨v, u, h1, h2⟩
  · rw [h1] at q3
    rw [h2]
    exact ⟨.int i, H3, I3.tok _, ⟨t2, rfl⟩, q3⟩
  · rw [h1] at q3
    rw [h2]
    exact ⟨.int v, H3, I3.tok _, ⟨u, rfl⟩, q3⟩
end

/-! ### texts by their codes -/
def tx (cs : List Nat) : Str := ⟨cs.toArray⟩
theorem tx_len (cs : List Nat) : (tx cs).length = cs.length := by
  show cs.toArray.size = _
  simp
theorem tx_cat (a b : List Nat) : tx a ++ tx b = tx (a ++ b) := by
  show (⟨a.toArray ++ b.toArray⟩ : Str) = ⟨(a ++ b).toArray⟩
  rw [List.append_toArray]
theorem tx_inj {a b : List Nat} : tx a = tx b ↔ a = b := ⟨fun h => by
  have h2 := congrArg (fun x : Str => x.cps.toList) h
  exact h2, fun h => by rw [h]⟩
theorem tx_of (x : Str) : tx x.cps.toList = x := by
  cases x
  simp [tx]
theorem tx_nil : PySem.Str.ofString "" = tx [] := by decide
theorem join_tx : ∀ cs : List Nat, Str.join (tx []) (cs.map fun c => tx [c]) = tx cs
  | [] => rfl
  | [c] => rfl
  | c :: d :: cs => by
    show tx [c] ++ tx [] ++ Str.join (tx []) ((d :: cs).map fun c => tx [c]) = _
    rw [join_tx (d :: cs), tx_cat, tx_cat]
    rfl
theorem join_ones (cs : List Nat) : Txt.join (PySem.Str.ofString "") (cs.map fun c => tx [c]) = tx cs := by
  rw [tx_nil, show Txt.join (tx []) (cs.map fun c => tx [c]) = Str.join (tx []) (cs.map fun c => tx [c]) from TL.join_eq _ _, join_tx]
section
variable {σ : L2.St} {H H0 : Hp} {Q : VK} {K : PySem.W.Frag} {L : List (Addr × HO)} {te : TE} {tt : TT} {g : TG} {ts : TS} {D : Ends}
theorem r_iS {R : It → Hp → Prop} (q : te σ H fun v H1 => ∃ x, v = .str x ∧ R (Its x) H1) : iStr te σ H R := q
/-- for c in text -/
theorem forS {cs : List Nat} (Pv : Nat → L2.St → Hp → Prop) (h0 : Pv 0 σ H) (hs : ∀ i c σ H, cs[i]? = some c → Pv i σ H → g (.str (tx [c])) σ H fun σ2 H2 => ts { D with nx := Pv (i + 1), ct := Pv (i + 1), bk := D.nx } σ2 H2) (hd : ∀ σ H, Pv cs.length σ H → D.nx σ H) :
    ∃ x, V.str (tx cs) = .str x ∧ RFor (Its x) g ts D σ H := by
  have hsz : (tx cs).cps.size = cs.length := tx_len cs
  refine ⟨_, rfl, fun i m σ H => m = cs.length - i ∧ i ≤ cs.length ∧ Pv i σ H, ⟨cs.length, rfl, Nat.zero_le _, h0⟩, ?_⟩
  rintro i m σ H ⟨rfl, hi, p⟩
  by_cases h : i < cs.length
  · refine .inr ⟨show i < (tx cs).cps.size by omega, Pv (i + 1), fun σ' H' p' => ⟨cs.length - (i + 1), by omega, rfl, h, p'⟩, ?_⟩
    rintro x H' ⟨rfl, c, hc, rfl⟩
    refine hs i c σ H' ?_ p
    have h2 : cs.toArray[i]? = some c := hc
    rw [List.getElem?_toArray] at h2
    exact h2
  · refine .inl ⟨show (tx cs).cps.size ≤ i by omega, ?_⟩
    have e : i = cs.length := by omega
    rw [e] at p
    exact hd σ H p
/-- [e for c in text if t] -/
theorem lcSF {cs : List Nat} {s : Nat} {vs : List Nat} (sel : Nat → Option V) (o : Own H0 H L) (hz : cs.length < 10000000) (hw : ∀ x, wipe ((wipe σ vs).set s (some x)) vs = wipe σ vs)
    (ht : ∀ (c : Nat) (q : Addr) (zs : List V) (H' : Hp) (Q : Bool → Hp → Prop), c ∈ cs → Own H0 H' ((q, .lst zs) :: L) → (∀ H2, Same H' H2 → Q (sel c).isSome H2) → tt ((wipe σ vs).set s (some (.str (tx [c])))) H' Q)
    (he : ∀ (c : Nat) (y : V) (q : Addr) (zs : List V) (H' : Hp) (Q : VK), c ∈ cs → sel c = some y → Own H0 H' ((q, .lst zs) :: L) → RetV H' Q y → te ((wipe σ vs).set s (some (.str (tx [c])))) H' Q)
    (k : ∀ q H', Stp H H' → Own H0 H' ((q, .lst (cs.filterMap sel)) :: L) → Q (.ref q) H') :
    ∃ x, V.str (tx cs) = .str x ∧ RLc (Its x) (gName s) tt te vs σ H Q := by
  have hsz : (tx cs).cps.size = cs.length := tx_len cs
  refine ⟨_, rfl, fun P hP => ?_⟩
  refine ⟨fun i m H' => m = cs.length - i ∧ i ≤ cs.length ∧ Own H0 H' ((P, .lst ((cs.take i).filterMap sel)) :: L) ∧ Stp H H', ⟨cs.length, rfl, Nat.zero_le _, o.new hP, .of (same_new hP)⟩, ?_⟩
  rintro i m H' ⟨rfl, hi, o', s'⟩
  by_cases h : i < cs.length
  · refine .inr ⟨show i < (tx cs).cps.size by omega, fun H2 => Own H0 H2 ((P, .lst ((cs.take (i + 1)).filterMap sel)) :: L) ∧ Stp H H2, fun H2 p2 => ⟨cs.length - (i + 1), by omega, rfl, h, p2⟩, ?_⟩
    rintro x H2 ⟨rfl, c, hc, rfl⟩
    have h2 : cs.toArray[i]? = some c := hc
    rw [List.getElem?_toArray] at h2
    refine ⟨hw _, ?_⟩
    have hfm := fm_le (cs.take i) sel
    rw [List.length_take] at hfm
    have e1 : (cs.take (i + 1)).filterMap sel = (cs.take i).filterMap sel ++ (sel c).toList := by
      rw [List.take_add_one, h2, List.filterMap_append]
      congr 1
    rw [e1]
    exact lc_turnF o' s' (by omega) (fun Q q => ht c P _ H2 Q (List.mem_of_getElem? h2) o' q) fun y H3 hy s3 Q q => he c y P _ H3 Q (List.mem_of_getElem? h2) hy (o'.mono s3) q
  · refine .inl ⟨show (tx cs).cps.size ≤ i by omega, ?_⟩
    have e : i = cs.length := by omega
    rw [e, List.take_length] at o'
    exact k P H' s' o'
theorem lcS {cs : List Nat} {s : Nat} {vs : List Nat} (f : Nat → V) (o : Own H0 H L) (hz : cs.length < 10000000) (hw : ∀ x, wipe ((wipe σ vs).set s (some x)) vs = wipe σ vs)
    (he : ∀ (c : Nat) (q : Addr) (zs : List V) (H' : Hp) (Q : VK), c ∈ cs → Own H0 H' ((q, .lst zs) :: L) → RetV H' Q (f c) → te ((wipe σ vs).set s (some (.str (tx [c])))) H' Q)
    (k : ∀ q H', Stp H H' → Own H0 H' ((q, .lst (cs.map f)) :: L) → Q (.ref q) H') :
    ∃ x, V.str (tx cs) = .str x ∧ RLc (Its x) (gName s) tYes te vs σ H Q :=
  lcSF (fun c => some (f c)) o hz hw (fun c q zs H' Q _ _ r => r H' (Same.refl _)) (fun c y q zs H' Q hc hy o' r => he c q zs H' Q hc o' (by cases hy; exact r)) (fun q H' s' o' => k q H' s' (by rw [show cs.filterMap (fun c => some (f c)) = cs.map f from congrFun List.filterMap_eq_map cs] at o'; exact o'))
/-- [e for x in ints], e no new object -/
theorem lcLIV {a : Addr} {ns : List Int} {s : Nat} {vs : List Nat} (f : Int → V) (o : Own H0 H L) (h : ∀ H' p zs, Own H0 H' ((p, .lst zs) :: L) → SqL K H' a (ns.map V.int)) (h1 : SqL K H a (ns.map V.int)) (hz : ns.length < 10000000) (hw : ∀ x, wipe ((wipe σ vs).set s (some x)) vs = wipe σ vs)
    (he : ∀ (x : Int) (q : Addr) (zs : List V) (H' : Hp) (Q : VK), x ∈ ns → Own H0 H' ((q, .lst zs) :: L) → RetV H' Q (f x) → te ((wipe σ vs).set s (some (.int x))) H' Q)
    (k : ∀ q H', Own H0 H' ((q, .lst (ns.map f)) :: L) → Q (.ref q) H') :
    ∃ a', V.ref a = .ref a' ∧ (∃ xs, SqL K H a' xs) ∧ RLc (Itl K a') (gName s) tYes te vs σ H Q :=
  lcLIF (fun _ => true) f o h h1 hz hw (fun x q zs H' Q _ _ r => r H' (Same.refl _)) (fun x q zs H' Q hx _ o' r => he x q zs H' Q hx o' r) (fun q H' o' => k q H' (by rw [List.filter_eq_self.mpr (fun _ _ => rfl)] at o'; exact o'))
/-- text[i] -/
theorem r_ixStr {cs : List Nat} {i : Int} {c : Nat} (h0 : 0 ≤ i) (hc : cs[i.toNat]? = some c) (hz : cs.length ≤ 10000000) (q : Q (.str (tx [c])) H) : rIxS (.str (tx cs)) (.int i) H Q := by
  obtain ⟨n, rfl⟩ := Int.eq_ofNat_of_zero_le h0
  exact ⟨_, _, c, rfl, rfl, sz100 (by rw [tx_len]; exact hz), atI_nat hc, q⟩
theorem r_joinE {f : V → List V → Hp → VK → Prop} {to : TE} (q : to σ H fun x H1 => (∃ a, x = .str a) ∧ te σ H1 fun y H2 => f x [y] H2 Q) : tM1 f to te σ H Q := q
theorem r_bmS {T : String} {f : L2.St → V → List V → Hp → VK → Prop} {to : TE} {tr : TA} (q : to σ H fun x H1 => tyV K T x H1 ∧ tr σ H1 fun vs H2 => f σ x vs H2 Q) : tBMS K T f to tr σ H Q := q
theorem ty_strV {z : Str} : tyV K "str" (.str z) H := (rfl : "str" = "str")
theorem sum_ones : ∀ cs : List Nat, ((cs.map fun c => tx [c]).map (·.length)).sum = cs.length
  | [] => rfl
  | c :: cs => by
    rw [List.map_cons, List.map_cons, List.sum_cons, sum_ones cs, tx_len]
    show 1 + cs.length = cs.length + 1
    omega
end

/-! ### rpartition, startswith -/
def rp (x : Str) : Str := match Builtin.Str.lastOccurrence x (tx [47]) 0 x.length with
  | some i => Builtin.Str.strSub x 0 i
  | none => Str.empty
/-- x.rpartition("/")[0] as a rule: the tuple -/
theorem mt_rpart {X : Cx} : MtR X "str.rpartition" (fun x xs H Q => ∃ a b, x = .str a ∧ xs = [.str b] ∧ b = tx [47] ∧ a.length ≤ sizeLine ∧ ∀ p, H p = none → ∀ y z, Q (.ref p) (upd H p (.tup [.str (rp a), .str y, .str z]))) := by
  intro pins s σ H x xs v us Q I rx rs h
  obtain ⟨a, b, rfl, rfl, hb, hz, h⟩ := h
  obtain ⟨t, rfl⟩ := rx
  cases rs with
  | cons r1 rs =>
    cases rs
    obtain ⟨u, rfl⟩ := r1
    subst hb
    refine call_meets F.slot_str_rpartition (typeIs_str _ _ _) F.entry_str_rpartition (F.args_str_rpartition_2 _ _) (meets_str_rpartition a (tx [47]) t u (by decide) hz) ?_
    unfold rp at h
    revert h
    cases Builtin.Str.lastOccurrence a (tx [47]) 0 a.length with
    | none => intro h; exact laid_parts I fun p hp => h p hp _ _
    | some i => intro h; exact laid_parts I fun p hp => h p hp _ _
theorem join_snoc (sep : Str) (b : Str) (l : Str) : ∀ r : List Str, ∀ b, Str.join sep (b :: r ++ [l]) = Str.join sep (b :: r) ++ sep ++ l
  | [], b => rfl
  | c :: r, b => by
    show b ++ sep ++ Str.join sep (c :: r ++ [l]) = b ++ sep ++ Str.join sep (c :: r) ++ sep ++ l
    rw [join_snoc sep b l r c]
    show (⟨_⟩ : Str) = ⟨_⟩
    congr 1
    show (b.cps ++ sep.cps) ++ (((Str.join sep (c :: r)).cps ++ sep.cps) ++ l.cps) = (((b.cps ++ sep.cps) ++ (Str.join sep (c :: r)).cps) ++ sep.cps) ++ l.cps
    simp only [Array.append_assoc]
theorem rp_none {x : Str} (h : 47 ∉ x.cps.toList) : rp x = Str.empty := by
  unfold rp
  rcases StrLaws.last_spec x (tx [47]) with ⟨h1, _⟩ | ⟨i, h1, ha, _⟩
  · rw [h1]
  · exact absurd (List.mem_of_getElem? ((StrLaws.subAt_one x 47 i).mp ha)) h
theorem rp_some (a l : List Nat) (h : 47 ∉ l) : rp (tx (a ++ [47] ++ l)) = tx a := by
  unfold rp
  have hx : (tx (a ++ [47] ++ l)).cps.toList = a ++ [47] ++ l := rfl
  have hn : (a ++ [47] ++ l)[a.length]? = some 47 := by simp
  rcases StrLaws.last_spec (tx (a ++ [47] ++ l)) (tx [47]) with ⟨_, h1⟩ | ⟨i, h1, ha, hk⟩
  · exact absurd ((StrLaws.subAt_one (tx (a ++ [47] ++ l)) 47 a.length).mpr (by rw [hx]; exact hn)) (h1 _)
  · rw [h1]
    have hi := (StrLaws.subAt_one (tx (a ++ [47] ++ l)) 47 i).mp ha
    rw [hx] at hi
    have e : i = a.length := by
      rcases Nat.lt_trichotomy i a.length with h2 | h2 | h2
      · exact absurd ((StrLaws.subAt_one (tx (a ++ [47] ++ l)) 47 a.length).mpr (by rw [hx]; exact hn)) (hk _ h2)
      · exact h2
      · rw [List.getElem?_append_right (by rw [List.length_append]; exact h2)] at hi
        exact absurd (List.mem_of_getElem? hi) h
    rw [e]
    show (⟨(tx (a ++ [47] ++ l)).cps.extract 0 a.length⟩ : Str) = ⟨a.toArray⟩
    congr 1
    apply Array.ext'
    rw [Array.toList_extract]
    show ((a ++ [47] ++ l).drop 0).take (a.length - 0) = a
    rw [List.drop_zero, Nat.sub_zero, List.append_assoc, List.take_left']
    rfl
theorem rp_join (x : Str) : rp x = Str.join (tx [47]) (Txt.split x (tx [47])).dropLast := by
  have hj := StrLaws.join_split x (tx [47])
  have hf := StrLaws.split_free x 47
  have e0 : Txt.split x ⟨#[47]⟩ = Txt.split x (tx [47]) := rfl
  rw [e0] at hf
  generalize Txt.split x (tx [47]) = parts at hj hf ⊢
  rcases List.eq_nil_or_concat parts with rfl | ⟨ini, l, rfl⟩
  · rw [← hj]
    exact rp_none (by show 47 ∉ []; exact List.not_mem_nil)
  · rw [List.concat_eq_append] at hj hf ⊢
    rw [List.dropLast_concat]
    have hl := hf l (List.mem_append_right _ List.mem_cons_self)
    cases ini with
    | nil =>
      rw [← hj]
      exact rp_none hl
    | cons b r =>
      rw [join_snoc _ b] at hj
      rw [← hj, ← tx_of (Str.join (tx [47]) (b :: r)), ← tx_of l, tx_cat, tx_cat]
      exact rp_some _ _ hl
theorem sw_tx (a b : List Nat) : Txt.startswith (tx a) (tx b) = decide (a.take b.length = b) := by
  unfold Txt.startswith Builtin.Str.subAt
  rw [tx_len, tx_len, Nat.zero_add]
  have e : ((tx a).cps.extract 0 b.length == (tx b).cps) = decide (a.take b.length = b) := by
    rw [Bool.eq_iff_iff, beq_iff_eq, decide_eq_true_eq]
    constructor
    · intro h
      have h2 := congrArg Array.toList h
      rw [Array.toList_extract] at h2
      have h3 : ((a.drop 0).take (b.length - 0)) = b := h2
      rw [List.drop_zero, Nat.sub_zero] at h3
      exact h3
    · intro h
      apply Array.ext'
      rw [Array.toList_extract]
      show ((a.drop 0).take (b.length - 0)) = b
      rw [List.drop_zero, Nat.sub_zero]
      exact h
  rw [e]
  by_cases h : b.length ≤ a.length
  · rw [decide_eq_true h, Bool.true_and]
  · rw [decide_eq_false h, Bool.false_and, decide_eq_false]
    intro h2
    have h3 := congrArg List.length h2
    rw [List.length_take] at h3
    omega
theorem join_mem (sep : Str) : ∀ (ps : List Str) (p : Str), p ∈ ps → p.length ≤ (Str.join sep ps).length
  | [], p, h => by cases h
  | [x], p, h => by rw [List.mem_singleton.mp h]; exact Nat.le_refl _
  | x :: y :: r, p, h => by
    show p.length ≤ (x ++ sep ++ Str.join sep (y :: r)).length
    rw [addS_len, addS_len]
    rcases List.mem_cons.mp h with rfl | h
    · omega
    · have := join_mem sep (y :: r) p h
      omega
theorem split_mem {x p : Str} (h : p ∈ Txt.split x (tx [47])) : p.length ≤ x.length := by
  have := join_mem (tx [47]) _ p h
  rw [StrLaws.join_split] at this
  exact this
theorem split_len (x : Str) : (Txt.split x (tx [47])).length ≤ x.length + 2 := PyProof.Rows.split_le x (tx [47])

/-! ### comprehensions whose texts are known by a word only -/
section
variable {σ : L2.St} {H H0 : Hp} {Q : VK} {K : PySem.W.Frag} {L : List (Addr × HO)} {te : TE} {j : Int}
theorem lcR1S {n s : Nat} {vs : List Nat} (Pz : Str → Prop) (o : Own H0 H L) (hn : j = (n : Int)) (hz : n ≤ 1000000) (hw : ∀ x, wipe ((wipe σ vs).set s (some x)) vs = wipe σ vs)
    (he : ∀ (i : Nat) (p : Addr) (zs : List V) (H' : Hp) (Q : VK), i < n → Own H0 H' ((p, .lst zs) :: L) → (∀ z, Pz z → RetV H' Q (.str z)) → te ((wipe σ vs).set s (some (.int (i : Int)))) H' Q)
    (k : ∀ p H' (zs : List Str), zs.length = n → (∀ z ∈ zs, Pz z) → Own H0 H' ((p, .lst (zs.map V.str)) :: L) → Q (.ref p) H') :
    ∃ k : Int, [V.int j] = [.int k] ∧ -(2 ^ 62) ≤ k ∧ k < 2 ^ 62 ∧ RLc (Itr 0 k.toNat) (gName s) tYes te vs σ H Q := by
  refine ⟨j, rfl, by omega, by omega, fun P hP => ?_⟩
  have e : j.toNat = n := by omega
  rw [e]
  refine lc_range (lo := 0) (n := n) (fun i H' => ∃ zs : List Str, zs.length = i ∧ (∀ z ∈ zs, Pz z) ∧ Own H0 H' ((P, .lst (zs.map V.str)) :: L)) ⟨[], rfl, (by intro z hz; cases hz), o.new hP⟩ (fun i H' hi p => ?_) (fun H' ⟨zs, h1, h2, o'⟩ => k P H' zs h1 h2 o')
  obtain ⟨zs, hl, hp, o'⟩ := p
  have e0 : (0 : Int) + (i : Int) = (i : Int) := Int.zero_add _
  rw [e0]
  refine ⟨hw _, ?_⟩
  refine iteT (B := ∃ zs : List Str, zs.length = i + 1 ∧ (∀ z ∈ zs, Pz z) ∧ Own H0 H' ((P, .lst (zs.map V.str)) :: L)) (he i P _ H' _ hi o' fun z hz H4 s4 => ?_)
  have o4 := o'.mono s4
  refine ⟨zs.map V.str, o4.at 0 rfl, sz_lt (by rw [List.length_map]; omega), zs ++ [z], by rw [List.length_append, hl]; rfl, ?_, ?_⟩
  · intro x hx
    rcases List.mem_append.mp hx with hx | hx
    · exact hp x hx
    · rw [List.mem_singleton.mp hx]; exact hz
  · have o5 := o4.set (v := .lst (zs.map V.str ++ [V.str z])) 0 rfl
    rw [List.map_append]
    exact o5
end

def topS (i : Nat) : Stmt := PySem.Challenge.pw_tessera_k95_texts_of_expressions.main.body.getD i (.Pass ⟨0, 0, 0, 0⟩)
abbrev s_told : Stmt := topS 2
abbrev N_told : List Str := ["thing"]
theorem sc_told : FnScope N_told ["thing"] (defScope s_told) := ⟨rfl, rfl, rfl, by decide +kernel, rfl, by decide +kernel, by decide +kernel⟩
abbrev s_is_name : Stmt := topS 11
abbrev N_is_name : List Str := ["name", "character"]
theorem sc_is_name : FnScope N_is_name ["name"] (defScope s_is_name) := ⟨rfl, rfl, rfl, by decide +kernel, rfl, by decide +kernel, by decide +kernel⟩
abbrev s_is_path : Stmt := topS 12
abbrev N_is_path : List Str := ["path", "names", "name"]
theorem sc_is_path : FnScope N_is_path ["path"] (defScope s_is_path) := ⟨rfl, rfl, rfl, by decide +kernel, rfl, by decide +kernel, by decide +kernel⟩
abbrev s_require : Stmt := topS 17
abbrev N_require : List Str := ["holds"]
theorem sc_require : FnScope N_require ["holds"] (defScope s_require) := ⟨rfl, rfl, rfl, by decide +kernel, rfl, by decide +kernel, by decide +kernel⟩
abbrev s_is_integer_word : Stmt := topS 18
abbrev N_is_integer_word : List Str := ["word", "digits"]
theorem sc_is_integer_word : FnScope N_is_integer_word ["word"] (defScope s_is_integer_word) := ⟨rfl, rfl, rfl, by decide +kernel, rfl, by decide +kernel, by decide +kernel⟩
abbrev s_integer_in : Stmt := topS 19
abbrev N_integer_in : List Str := ["word"]
theorem sc_integer_in : FnScope N_integer_in ["word"] (defScope s_integer_in) := ⟨rfl, rfl, rfl, by decide +kernel, rfl, by decide +kernel, by decide +kernel⟩
abbrev s_integers_in : Stmt := topS 20
abbrev N_integers_in : List Str := ["words", "word"]
theorem sc_integers_in : FnScope N_integers_in ["words"] (defScope s_integers_in) := ⟨rfl, rfl, rfl, by decide +kernel, rfl, by decide +kernel, by decide +kernel⟩
abbrev s_parts_of : Stmt := topS 27
abbrev N_parts_of : List Str := ["expression"]
theorem sc_parts_of : FnScope N_parts_of ["expression"] (defScope s_parts_of) := ⟨rfl, rfl, rfl, by decide +kernel, rfl, by decide +kernel, by decide +kernel⟩
abbrev s_format_expression : Stmt := topS 28
abbrev N_format_expression : List Str := ["expression"]
theorem sc_format_expression : FnScope N_format_expression ["expression"] (defScope s_format_expression) := ⟨rfl, rfl, rfl, by decide +kernel, rfl, by decide +kernel, by decide +kernel⟩
abbrev s_words_of : Stmt := topS 29
abbrev N_words_of : List Str := ["expression", "name", "words", "part", "offset"]
theorem sc_words_of : FnScope N_words_of ["expression"] (defScope s_words_of) := ⟨rfl, rfl, rfl, by decide +kernel, rfl, by decide +kernel, by decide +kernel⟩
abbrev s_parse_expression : Stmt := topS 30
abbrev N_parse_expression : List Str := ["text", "words", "expression", "behind"]
theorem sc_parse_expression : FnScope N_parse_expression ["text"] (defScope s_parse_expression) := ⟨rfl, rfl, rfl, by decide +kernel, rfl, by decide +kernel, by decide +kernel⟩
abbrev s_word_at : Stmt := topS 31
abbrev N_word_at : List Str := ["words", "at"]
theorem sc_word_at : FnScope N_word_at ["words", "at"] (defScope s_word_at) := ⟨rfl, rfl, rfl, by decide +kernel, rfl, by decide +kernel, by decide +kernel⟩
abbrev s_expression_at : Stmt := topS 32
abbrev N_expression_at : List Str := ["words", "at", "levels", "word", "path"]
theorem sc_expression_at : FnScope N_expression_at ["words", "at", "levels"] (defScope s_expression_at) := ⟨rfl, rfl, rfl, by decide +kernel, rfl, by decide +kernel, by decide +kernel⟩
abbrev s_composed_at : Stmt := topS 33
abbrev N_composed_at : List Str := ["words", "at", "levels", "name", "parts", "behind", "offsets"]
theorem sc_composed_at : FnScope N_composed_at ["words", "at", "levels"] (defScope s_composed_at) := ⟨rfl, rfl, rfl, by decide +kernel, rfl, by decide +kernel, by decide +kernel⟩
abbrev s_parts_at : Stmt := topS 34
abbrev N_parts_at : List Str := ["words", "at", "levels", "count", "parts", "behind", "_", "part"]
theorem sc_parts_at : FnScope N_parts_at ["words", "at", "levels", "count"] (defScope s_parts_at) := ⟨rfl, rfl, rfl, by decide +kernel, rfl, by decide +kernel, by decide +kernel⟩
abbrev s_offsets_at : Stmt := topS 35
abbrev N_offsets_at : List Str := ["words", "at", "behind"]
theorem sc_offsets_at : FnScope N_offsets_at ["words", "at"] (defScope s_offsets_at) := ⟨rfl, rfl, rfl, by decide +kernel, rfl, by decide +kernel, by decide +kernel⟩
abbrev s__law_cell : Stmt := topS 37
abbrev N__law_cell : List Str := ["script", "k"]
theorem sc__law_cell : FnScope N__law_cell ["script", "k"] (defScope s__law_cell) := ⟨rfl, rfl, rfl, by decide +kernel, rfl, by decide +kernel, by decide +kernel⟩
abbrev s__law_draws : Stmt := topS 38
abbrev N__law_draws : List Str := ["cell", "count", "rows", "left", "k", "mixed"]
theorem sc__law_draws : FnScope N__law_draws ["cell", "count"] (defScope s__law_draws) := ⟨rfl, rfl, rfl, by decide +kernel, rfl, by decide +kernel, by decide +kernel⟩
abbrev s__law_is_text : Stmt := topS 39
abbrev N__law_is_text : List Str := ["x", "due"]
theorem sc__law_is_text : FnScope N__law_is_text ["x", "due"] (defScope s__law_is_text) := ⟨rfl, rfl, rfl, by decide +kernel, rfl, by decide +kernel, by decide +kernel⟩
abbrev s__law_stream : Stmt := topS 40
abbrev N__law_stream : List Str := ["script", "count", "rows", "k"]
theorem sc__law_stream : FnScope N__law_stream ["script", "count"] (defScope s__law_stream) := ⟨rfl, rfl, rfl, by decide +kernel, rfl, by decide +kernel, by decide +kernel⟩
abbrev s__law_letters : Stmt := topS 41
abbrev N__law_letters : List Str := []
theorem sc__law_letters : FnScope N__law_letters [] (defScope s__law_letters) := ⟨rfl, rfl, rfl, by decide +kernel, rfl, by decide +kernel, by decide +kernel⟩
abbrev s__law_is_name_due : Stmt := topS 42
abbrev N__law_is_name_due : List Str := ["name", "sign"]
theorem sc__law_is_name_due : FnScope N__law_is_name_due ["name"] (defScope s__law_is_name_due) := ⟨rfl, rfl, rfl, by decide +kernel, rfl, by decide +kernel, by decide +kernel⟩
abbrev s__law_is_path_due : Stmt := topS 43
abbrev N__law_is_path_due : List Str := ["path", "names", "name"]
theorem sc__law_is_path_due : FnScope N__law_is_path_due ["path"] (defScope s__law_is_path_due) := ⟨rfl, rfl, rfl, by decide +kernel, rfl, by decide +kernel, by decide +kernel⟩
abbrev s__law_expression : Stmt := topS 44
abbrev N__law_expression : List Str := ["draws", "at", "deep", "dimensions", "draw", "way", "parts", "k"]
theorem sc__law_expression : FnScope N__law_expression ["draws", "at", "deep", "dimensions"] (defScope s__law_expression) := ⟨rfl, rfl, rfl, by decide +kernel, rfl, by decide +kernel, by decide +kernel⟩
abbrev s__law_parts : Stmt := topS 45
abbrev N__law_parts : List Str := ["expression"]
theorem sc__law_parts : FnScope N__law_parts ["expression"] (defScope s__law_parts) := ⟨rfl, rfl, rfl, by decide +kernel, rfl, by decide +kernel, by decide +kernel⟩
abbrev s__law_depth : Stmt := topS 46
abbrev N__law_depth : List Str := ["expression", "part"]
theorem sc__law_depth : FnScope N__law_depth ["expression"] (defScope s__law_depth) := ⟨rfl, rfl, rfl, by decide +kernel, rfl, by decide +kernel, by decide +kernel⟩
abbrev s__law_words : Stmt := topS 47
abbrev N__law_words : List Str := ["expression", "words", "part", "number"]
theorem sc__law_words : FnScope N__law_words ["expression"] (defScope s__law_words) := ⟨rfl, rfl, rfl, by decide +kernel, rfl, by decide +kernel, by decide +kernel⟩
abbrev s__law_integer_word : Stmt := topS 48
abbrev N__law_integer_word : List Str := ["word", "digits", "sign"]
theorem sc__law_integer_word : FnScope N__law_integer_word ["word"] (defScope s__law_integer_word) := ⟨rfl, rfl, rfl, by decide +kernel, rfl, by decide +kernel, by decide +kernel⟩
abbrev s__law_parsed : Stmt := topS 49
abbrev N__law_parsed : List Str := ["words", "stack", "word", "group", "made"]
theorem sc__law_parsed : FnScope N__law_parsed ["words"] (defScope s__law_parsed) := ⟨rfl, rfl, rfl, by decide +kernel, rfl, by decide +kernel, by decide +kernel⟩
abbrev s__law_atom : Stmt := topS 50
abbrev N__law_atom : List Str := ["item"]
theorem sc__law_atom : FnScope N__law_atom ["item"] (defScope s__law_atom) := ⟨rfl, rfl, rfl, by decide +kernel, rfl, by decide +kernel, by decide +kernel⟩
abbrev s__law_grouped : Stmt := topS 51
abbrev N__law_grouped : List Str := ["group", "parts", "item", "part"]
theorem sc__law_grouped : FnScope N__law_grouped ["group"] (defScope s__law_grouped) := ⟨rfl, rfl, rfl, by decide +kernel, rfl, by decide +kernel, by decide +kernel⟩
abbrev s_law : Stmt := topS 52
abbrev N_law : List Str := ["script", "draws", "expression", "goal", "k", "words", "deep", "text", "at", "way", "due", "told_v", "e"]
theorem sc_law : FnScope N_law ["script"] (defScope s_law) := ⟨rfl, rfl, rfl, by decide +kernel, rfl, by decide +kernel, by decide +kernel⟩
structure Errs (K : PySem.W.Frag) (mg : Str → Option Value) (C_TesseraError C_InvalidDump C_InvalidExpression C_BadWord : Addr) : Prop where
  c_TesseraError : ErrCls K mg C_TesseraError "TesseraError"
  c_InvalidDump : ErrCls K mg C_InvalidDump "InvalidDump"
  c_InvalidExpression : ErrCls K mg C_InvalidExpression "InvalidExpression"
  c_BadWord : ErrCls K mg C_BadWord "BadWord"
  p_InvalidExpression : ErrPl K C_InvalidExpression
  p_BadWord : ErrPl K C_BadWord
  s_TesseraError_TesseraError : PySem.W.subIn K (.ref C_TesseraError) (.ref C_TesseraError) = some true
  s_TesseraError_InvalidDump : PySem.W.subIn K (.ref C_TesseraError) (.ref C_InvalidDump) = some false
  s_TesseraError_InvalidExpression : PySem.W.subIn K (.ref C_TesseraError) (.ref C_InvalidExpression) = some false
  s_TesseraError_BadWord : PySem.W.subIn K (.ref C_TesseraError) (.ref C_BadWord) = some false
  s_InvalidDump_TesseraError : PySem.W.subIn K (.ref C_InvalidDump) (.ref C_TesseraError) = some true
  s_InvalidDump_InvalidDump : PySem.W.subIn K (.ref C_InvalidDump) (.ref C_InvalidDump) = some true
  s_InvalidDump_InvalidExpression : PySem.W.subIn K (.ref C_InvalidDump) (.ref C_InvalidExpression) = some false
  s_InvalidDump_BadWord : PySem.W.subIn K (.ref C_InvalidDump) (.ref C_BadWord) = some false
  s_InvalidExpression_TesseraError : PySem.W.subIn K (.ref C_InvalidExpression) (.ref C_TesseraError) = some true
  s_InvalidExpression_InvalidDump : PySem.W.subIn K (.ref C_InvalidExpression) (.ref C_InvalidDump) = some false
  s_InvalidExpression_InvalidExpression : PySem.W.subIn K (.ref C_InvalidExpression) (.ref C_InvalidExpression) = some true
  s_InvalidExpression_BadWord : PySem.W.subIn K (.ref C_InvalidExpression) (.ref C_BadWord) = some false
  s_BadWord_TesseraError : PySem.W.subIn K (.ref C_BadWord) (.ref C_TesseraError) = some true
  s_BadWord_InvalidDump : PySem.W.subIn K (.ref C_BadWord) (.ref C_InvalidDump) = some false
  s_BadWord_InvalidExpression : PySem.W.subIn K (.ref C_BadWord) (.ref C_InvalidExpression) = some false
  s_BadWord_BadWord : PySem.W.subIn K (.ref C_BadWord) (.ref C_BadWord) = some true
structure Top (w : World) (K : PySem.W.Frag) (mg : Str → Option Value) : Prop where
  f_told : FunAt K mg "told" s_told ["thing"]
  f_is_name : FunAt K mg "is_name" s_is_name ["name"]
  f_is_path : FunAt K mg "is_path" s_is_path ["path"]
  f_require : FunAt K mg "require" s_require ["holds"]
  f_is_integer_word : FunAt K mg "is_integer_word" s_is_integer_word ["word"]
  f_integer_in : FunAt K mg "integer_in" s_integer_in ["word"]
  f_integers_in : FunAt K mg "integers_in" s_integers_in ["words"]
  f_parts_of : FunAt K mg "parts_of" s_parts_of ["expression"]
  f_format_expression : FunAt K mg "format_expression" s_format_expression ["expression"]
  f_words_of : FunAt K mg "words_of" s_words_of ["expression"]
  f_parse_expression : FunAt K mg "parse_expression" s_parse_expression ["text"]
  f_word_at : FunAt K mg "word_at" s_word_at ["words", "at"]
  f_expression_at : FunAt K mg "expression_at" s_expression_at ["words", "at", "levels"]
  f_composed_at : FunAt K mg "composed_at" s_composed_at ["words", "at", "levels"]
  f_parts_at : FunAt K mg "parts_at" s_parts_at ["words", "at", "levels", "count"]
  f_offsets_at : FunAt K mg "offsets_at" s_offsets_at ["words", "at"]
  f__law_cell : FunAt K mg "_law_cell" s__law_cell ["script", "k"]
  f__law_draws : FunAt K mg "_law_draws" s__law_draws ["cell", "count"]
  f__law_is_text : FunAt K mg "_law_is_text" s__law_is_text ["x", "due"]
  f__law_stream : FunAt K mg "_law_stream" s__law_stream ["script", "count"]
  f__law_letters : FunAt K mg "_law_letters" s__law_letters []
  f__law_is_name_due : FunAt K mg "_law_is_name_due" s__law_is_name_due ["name"]
  f__law_is_path_due : FunAt K mg "_law_is_path_due" s__law_is_path_due ["path"]
  f__law_expression : FunAt K mg "_law_expression" s__law_expression ["draws", "at", "deep", "dimensions"]
  f__law_parts : FunAt K mg "_law_parts" s__law_parts ["expression"]
  f__law_depth : FunAt K mg "_law_depth" s__law_depth ["expression"]
  f__law_words : FunAt K mg "_law_words" s__law_words ["expression"]
  f__law_integer_word : FunAt K mg "_law_integer_word" s__law_integer_word ["word"]
  f__law_parsed : FunAt K mg "_law_parsed" s__law_parsed ["words"]
  f__law_atom : FunAt K mg "_law_atom" s__law_atom ["item"]
  f__law_grouped : FunAt K mg "_law_grouped" s__law_grouped ["group"]
  f_law : FunAt K mg "law" s_law ["script"]
  errs : ∃ C_TesseraError C_InvalidDump C_InvalidExpression C_BadWord, Errs K mg C_TesseraError C_InvalidDump C_InvalidExpression C_BadWord
  g_BEGIN : ∃ t, mg "BEGIN" = some (.str (PySem.Str.ofString "(") t)
  g_BEYOND_TOLD : ∃ t, mg "BEYOND_TOLD" = some (.int 1000000000000000000000000000000 t)
  g_DEEPEST : ∃ t, mg "DEEPEST" = some (.int 12 t)
  g_END : ∃ t, mg "END" = some (.str (PySem.Str.ofString ")") t)
  g_LONGEST_NAME : ∃ t, mg "LONGEST_NAME" = some (.int 12 t)
  g_MOST_DIGITS : ∃ t, mg "MOST_DIGITS" = some (.int 30 t)
  g_MOST_NAMES : ∃ t, mg "MOST_NAMES" = some (.int 6 t)
  g_NAME_CHARACTERS : ∃ t, mg "NAME_CHARACTERS" = some (.str (PySem.Str.ofString "abcdefghijklmnopqrstuvwxyz0123456789") t)
  g_PART_COUNTS : ∃ a, mg "PART_COUNTS" = some (.ref a) ∧ KDs K w a [(PySem.Str.ofString "add", 2), (PySem.Str.ofString "sub", 2), (PySem.Str.ofString "mul", 2), (PySem.Str.ofString "min", 2), (PySem.Str.ofString "max", 2), (PySem.Str.ofString "less", 2), (PySem.Str.ofString "pick", 3)]
  g_PATH_SIGN : ∃ t, mg "PATH_SIGN" = some (.str (PySem.Str.ofString "@") t)
  g_SLASH : ∃ t, mg "SLASH" = some (.str (PySem.Str.ofString "/") t)
  g_SPACE : ∃ t, mg "SPACE" = some (.str (PySem.Str.ofString " ") t)
  b_abs : mg "abs" = none
  b_all : mg "all" = none
  b_int : mg "int" = none
  b_isinstance : mg "isinstance" = none
  b_len : mg "len" = none
  b_list : mg "list" = none
  b_max : mg "max" = none
  b_range : mg "range" = none
  b_str : mg "str" = none
  b_tuple : mg "tuple" = none
/-! ### the law's helpers -/
def Dr (ns : List Int) : Prop := ∀ x ∈ ns, 0 ≤ x ∧ x < 4096
theorem Dr.gi {ns : List Int} (d : Dr ns) {i : Int} (h0 : 0 ≤ i) (h1 : i < ns.length) : 0 ≤ gi ns i ∧ gi ns i < 4096 := d _ (gi_mem h0 h1)
theorem Dr.app {ns : List Int} (d : Dr ns) {x : Int} (h0 : 0 ≤ x) (h1 : x < 4096) : Dr (ns ++ [x]) := fun y hy => by
  rcases List.mem_append.mp hy with h | h
  · exact d y h
  · rw [List.mem_singleton.mp h]; exact ⟨h0, h1⟩
theorem Dr.app2 {ns ms : List Int} (d : Dr ns) (e : Dr ms) : Dr (ns ++ ms) := fun y hy => by
  rcases List.mem_append.mp hy with h | h
  · exact d y h
  · exact e y h
theorem Dr.take {ns : List Int} (d : Dr ns) (n : Nat) : Dr (ns.take n) := fun y hy => d y (List.mem_of_mem_take hy)
section
variable {P : Program} {w : World} {K : PySem.W.Frag} {mg : Str → Option Value} {base : Heap}
def sp_cell (K : PySem.W.Frag) : Sp := fun vs H Q _ => ∃ (a : Addr) (ns : List Int) (i : Int), vs = [.ref a, .int i] ∧ SqL K H a (ns.map V.int) ∧ 0 ≤ i ∧ Q (.int (gi ns i)) H
theorem d_cell (T : Top w K mg) : Def P w K mg base CX0 1 "_law_cell" ["script", "k"] (sp_cell K) := by
  refine T.f__law_cell.ok sc__law_cell (by rintro vs H Q E ⟨a, ns, i, rfl, _⟩; rfl) (fun f cdv A outer s H vs Q E hr h => ?_)
  obtain ⟨a, ns, i, rfl, hS, h0, q⟩ := h
  refine ⟨_, (pss_cons (ps_if (pt_cmpR op_lt (pv 1) (pe_callB (r := Evl.rLenS K) call_len_seq (by rfl) T.b_len (by decide +kernel) (pa_cons (pv 0) pa_nil)) (nomark _)) (pss_one (ps_ret (pe_ix (r := rIxL K) ix_list (pv 0) (pv 1) (fun _ _ => rfl)))) pss_nil)
      (pss_one (ps_ret pe_int))), ?_⟩
  walk_at "rd"
  refine rif (fun h => ?_) fun h => ?_
  · walk_at "rd"
    rw [List.length_map] at h
    exact r_ixL hS (at_ints h0 h) q
  · walk_at "rd"
    rw [List.length_map] at h
    have e : gi ns i = 0 := by
      unfold gi
      rw [List.getD_eq_getElem?_getD, List.getElem?_eq_none (by omega)]
      rfl
    rw [e] at q
    exact q
def sp_draws : Sp := fun vs H Q _ => ∃ (c : Int) (n : Nat), vs = [.int c, .int n] ∧ n ≤ 1000 ∧ ∀ ns : List Int, ns.length = n → Dr ns → RetO H Q (.lst (ns.map V.int))
theorem d_draws (T : Top w K mg) : Def P w K mg base CX0 1 "_law_draws" ["cell", "count"] sp_draws := by
  refine T.f__law_draws.ok sc__law_draws (by rintro vs H Q E ⟨c, n, rfl, _⟩; rfl) (fun f cdv A outer s H vs Q E hr h => ?_)
  obtain ⟨c, n, rfl, hn, q⟩ := h
  refine ⟨_, (pss_cons (ps_set (i := 2) sc__law_draws.nd rfl (Or.inl rfl) (pe_lst pa_nil))
      (pss_cons (ps_set (i := 3) sc__law_draws.nd rfl (Or.inl rfl) (pv 0))
      (pss_cons (ps_for PassesOwn.never rfl (pi_range1 (by rfl) T.b_range (pa_cons (pv 1) pa_nil)) (pg_name (i := 4) sc__law_draws.nd rfl (Or.inl rfl)) (pss_one (ps_if (pt_cutT (PW.pt (pw_and (pt_cmpR op_ge (pv 0) (pe_powC (c := 1000000000000000000) ⟨by decide, by decide, by decide⟩ (by decide +kernel)) (nomark _)) (pw_and1 (pt_cmpR op_gt (pv 3) pe_int (nomark _)))))) (pss_cons (ps_expr (pe_bm PySem.F.plainAttrs_list PySem.F.slot_list_append PySem.F.type_list_append mt_append (pv 2) (pa_cons (pe_op op_mod (pe_callTy (r := rInt1) call_int1 (by rfl) T.b_int (by decide +kernel) (pa_cons (pv 3) pa_nil)) pe_int) pa_nil)))
      (pss_one (ps_set (i := 3) sc__law_draws.nd rfl (Or.inl rfl) (pe_op op_fdiv (pv 3) pe_int)))) (pss_cons (ps_set (i := 5) sc__law_draws.nd rfl (Or.inl rfl) (pe_op op_mod (pe_callTy (r := rInt1) call_int1 (by rfl) T.b_int (by decide +kernel) (pa_cons (pe_op op_add (pe_op op_mul (pv 0) pe_int) (pe_op op_mul (pe_op op_add (pv 4) pe_int) pe_int)) pa_nil)) pe_int))
      (pss_cons (ps_set (i := 5) sc__law_draws.nd rfl (Or.inl rfl) (pe_op op_mod (pe_callTy (r := rInt1) call_int1 (by rfl) T.b_int (by decide +kernel) (pa_cons (pe_op op_add (pe_op op_add (pe_op op_mul (pv 5) (pv 5)) (pe_op op_mul (pv 5) pe_int)) (pe_op op_mul (pv 4) pe_int)) pa_nil)) pe_int))
      (pss_cons (ps_set (i := 5) sc__law_draws.nd rfl (Or.inl rfl) (pe_op op_mod (pe_callTy (r := rInt1) call_int1 (by rfl) T.b_int (by decide +kernel) (pa_cons (pe_op op_add (pe_op op_add (pe_op op_mul (pv 5) (pv 5)) (pv 0)) (pe_op op_mul pe_int (pv 4))) pa_nil)) pe_int))
      (pss_one (ps_expr (pe_bm PySem.F.plainAttrs_list PySem.F.slot_list_append PySem.F.type_list_append mt_append (pv 2) (pa_cons (pe_op op_mod (pe_op op_fdiv (pv 5) pe_int) pe_int) pa_nil))))))))))
      (pss_one (ps_ret (pv 2)))))), ?_⟩
  walk_at "rd"
  refine r_newL (Own.nil H) (Nat.zero_le _) fun l H1 o1 => ?_
  walk_at "rd"
  refine forR1 (n := n) rfl (by omega) (fun i σ H' => ∃ (left : Int) (v1 v2 : Option V) (ns : List Int), σ = [some (.int c), some (.int n), some (.ref l), some (.int left), v1, v2] ∧ ns.length = i ∧ Dr ns ∧ Own H H' [(l, .lst (ns.map V.int))])
    ⟨c, none, none, [], rfl, rfl, fun _ h => absurd h (by simp), o1⟩ ?_ ?_
  · rintro i σ H' hi ⟨left, v1, v2, ns, rfl, hl, hd, o⟩
    have hz : (ns.map V.int).length < 10000000 := by rw [List.length_map]; omega
    walk_at "rd"
    refine r_cutT (fun _ H2 => H2 = H') ?_ ?_
    · walk_at "rd"
      refine rif (fun h1 => ?_) fun h1 => ?_ <;> walk_at "rd" <;> rfl
    rintro b _ rfl
    refine rif_b (fun _ => ?_) fun _ => ?_ <;> walk_at "rd"
    · refine r_app o 0 rfl hz fun H2 o2 => ?_
      walk_at "rd"
      refine ⟨_, _, _, ns ++ [_], rfl, ?_, ?_, (by rw [List.map_append]; exact o2)⟩
      · rw [List.length_append]; simp [hl]
      · exact hd.app (by omega) (by omega)
    · refine r_app o 0 rfl hz fun H2 o2 => ?_
      refine ⟨_, _, _, ns ++ [_], rfl, ?_, ?_, (by rw [List.map_append]; exact o2)⟩
      · rw [List.length_append]; simp [hl]
      · exact hd.app (by omega) (by omega)
  · rintro σ H' ⟨left, v1, v2, ns, rfl, hl, hd, o⟩
    walk_at "rd"
    exact (q ns hl hd).mk o 0 rfl
def sp_stream (K : PySem.W.Frag) : Sp := fun vs H Q _ => ∃ (a : Addr) (ss : List Int) (n : Nat), vs = [.ref a, .int n] ∧ SqL K H a (ss.map V.int) ∧ n ≤ 1000 ∧ ∀ ns : List Int, ns.length = n → Dr ns → RetO H Q (.lst (ns.map V.int))
theorem d_stream (T : Top w K mg) : Def P w K mg base CX0 2 "_law_stream" ["script", "count"] (sp_stream K) := by
  have G__law_cell : Def P w K mg base CX0 1 "_law_cell" ["script", "k"] (sp_cell K) := d_cell T
  have G__law_draws : Def P w K mg base CX0 1 "_law_draws" ["cell", "count"] sp_draws := d_draws T
  refine T.f__law_stream.ok sc__law_stream (by rintro vs H Q E ⟨a, ss, n, rfl, _⟩; rfl) (fun f cdv A outer s H vs Q E hr h => ?_)
  obtain ⟨a, ss, n, rfl, hS, hn, q⟩ := h
  refine ⟨_, (pss_cons (ps_set (i := 2) sc__law_stream.nd rfl (Or.inl rfl) (pe_lst pa_nil))
      (pss_cons (ps_for PassesOwn.never rfl (pi_range1 (by rfl) T.b_range (pa_cons (pe_op op_add pe_int (pe_op op_fdiv (pv 1) pe_int)) pa_nil)) (pg_name (i := 3) sc__law_stream.nd rfl (Or.inl rfl)) (pss_one (ps_set (i := 2) sc__law_stream.nd rfl (Or.inl rfl) (pe_op op_cat (pv 2) (pe_callD G__law_draws (hr.mono (by decide)) (pa_cons (pe_op op_add (pe_callD G__law_cell (hr.mono (by decide)) (pa_cons (pv 0) (pa_cons (pv 3) pa_nil))) (pe_op op_mul pe_int (pv 3))) (pa_cons pe_int pa_nil)))))))
      (pss_one (ps_ret (pe_slice (r := rSlL K) sl_list (pv 2) po_none (po_some (pv 1))))))), ?_⟩
  walk_at "rd"
  refine r_newL (Own.nil H) (Nat.zero_le _) fun l H1 o1 => ?_
  walk_at "rd"
  refine forR1 (n := 1 + n / 16) (by omega) (by omega) (fun i σ H' => ∃ (p : Addr) (v : Option V) (ns : List Int) (L : List (Addr × HO)), σ = [some (.ref a), some (.int n), some (.ref p), v] ∧ ns.length = 16 * i ∧ Dr ns ∧ Own H H' ((p, .lst (ns.map V.int)) :: L))
    ⟨l, none, [], [], rfl, rfl, fun _ h => absurd h (by simp), o1⟩ ?_ ?_
  · rintro i σ H' hi ⟨p, v, ns, L, rfl, hl, hd, o⟩
    walk_at "rd"
    refine ⟨_, _, _, rfl, o.old hS, by omega, ?_⟩
    walk_at "rd"
    refine ⟨_, 16, rfl, by omega, fun ms hm hdm H2 p2 s2 f2 e2 => ?_⟩
    have o2 := o.add s2 f2 e2
    refine r_cat o2 (o2.at 1 rfl) (o2.at 0 rfl) (by rw [List.length_map, List.length_map]; omega) fun p3 H3 o3 => ?_
    walk_at "rd"
    rw [← List.map_append] at o3
    refine ⟨p3, _, _, _, rfl, ?_, hd.app2 hdm, o3⟩
    rw [List.length_append]
    omega
  · rintro σ H' ⟨p, v, ns, L, rfl, hl, hd, o⟩
    walk_at "rd"
    refine r_slL o (o.sqL 0 rfl) fun p3 H3 o3 => ?_
    rw [cut_hi, ← List.map_take] at o3
    refine (q _ ?_ (hd.take n)).mk o3 0 rfl
    rw [List.length_take]
    omega
def spLaw (K : PySem.W.Frag) : Sp := fun vs H Q _ => ∃ (a : Addr) (ss : List Int), vs = [.ref a] ∧ SqL K H a (ss.map V.int) ∧ ss.length ≤ 63 ∧ (∀ z ∈ ss, PySem.Builtin.Int.intBits z ≤ 1048576) ∧ ∀ H', Q (.bl true) H'
theorem law_in {a : Addr} {ss : List Int} {H : Hp} (hl : ss.length ≤ 63) (hb : ∀ z ∈ ss, PySem.Builtin.Int.intBits z ≤ 1048576) (hS : SqL K H a (ss.map V.int)) : spLaw K [.ref a] H (fun v _ => v = .bl true) fun _ _ _ => False :=
  ⟨a, ss, rfl, hS, hl, hb, fun _ => rfl⟩
end

/-! told: how a message tells an integer -/
theorem call_strIS {X : Cx} : CallR X (.type "str") (fun xs H Q => (∃ i, xs = [.int i] ∧ i.natAbs.log2 < 1920 ∧ Q (.str (toString i)) H) ∨ ∃ a, xs = [.str a] ∧ Q (.str a) H) := by
  intro pins s σ H xs us Q I r h
  rcases h with ⟨i, rfl, hz, q⟩ | ⟨a, rfl, q⟩
  · obtain ⟨u, rfl, t, rfl⟩ := vals1 r
    exact PySem.P.str_of_int hz ⟨.str _, H, I.tok _, ⟨_, rfl⟩, q⟩
  · obtain ⟨u, rfl, t, rfl⟩ := vals1 r
    exact PySem.P.str_of_str ⟨.str a, H, I, ⟨t, rfl⟩, q⟩
section
variable {P : Program} {w : World} {K : PySem.W.Frag} {mg : Str → Option Value} {base : Heap}
def sp_told : Sp := fun vs H Q _ => ∃ v : V, vs = [v] ∧ Tell v ∧ ∀ y : Str, y.length ≤ 1000000 → Q (.str y) H
theorem sp_told_t {v : V} (h : Tell v) (H : Hp) (Q : VK) (E : XK) (q : ∀ y : Str, y.length ≤ 1000000 → Q (.str y) H) : sp_told [v] H Q E := ⟨v, rfl, h, q⟩
theorem msg_len {i : Int} (h : i.natAbs.log2 < 1920) : (Str.ofString (toString i)).length ≤ 1000000 := by
  rw [PySem.ofString_length]
  exact Nat.le_trans (int_text_length_le (by decide) h) (by decide)
theorem d_told (T : Top w K mg) : Def P w K mg base CX0 1 "told" ["thing"] sp_told := by
  obtain ⟨t1, g_BEYOND_TOLD⟩ := T.g_BEYOND_TOLD
  refine T.f_told.ok sc_told (by rintro vs H Q E ⟨i, rfl, _⟩; rfl) (fun f cdv A outer s H vs Q E hr h => ?_)
  obtain ⟨v, rfl, hv, q⟩ := h
  refine ⟨_, (pss_cons (ps_if (PW.pt (pw_and (pt_val (pe_callB (r := rIsi K) call_isi (by rfl) T.b_isinstance (by decide +kernel) (pa_cons (pv 0) (pa_cons (pe_bltn (v := .ty "int") (by rfl) T.b_int (by decide +kernel) rfl) pa_nil)))) (pw_and1 (pt_cmpR op_ge (pe_callB call_abs (by rfl) T.b_abs (by decide +kernel) (pa_cons (pv 0) pa_nil)) (pe_glob (v := .int 1000000000000000000000000000000) rfl g_BEYOND_TOLD ⟨_, rfl⟩) (nomark _))))) (pss_one (ps_ret pe_str)) pss_nil)
      (pss_one (ps_ret (pe_callTy call_strIS (by rfl) T.b_str (by decide +kernel) (pa_cons (pv 0) pa_nil))))), ?_⟩
  rcases hv with ⟨i, rfl, hi⟩ | ⟨y, rfl, hy⟩
  · walk_at "rd"
    refine ⟨i, rfl, ?_⟩
    walk_at "rd"
    refine rif (fun h1 => ?_) fun h1 => ?_
    · walk_at "rd"
      exact q _ (by decide)
    · walk_at "rd"
      exact .inl ⟨i, rfl, hi, q _ (msg_len hi)⟩
  · walk_at "rd"
    exact .inr ⟨y, rfl, q _ hy⟩
theorem w_told (T : Top w K mg) : DefW P w K mg base 1 "told" ["thing"] sp_told := by
  obtain ⟨t1, g_BEYOND_TOLD⟩ := T.g_BEYOND_TOLD
  refine T.f_told.okW sc_told (by rintro vs H Q E ⟨i, rfl, _⟩; rfl) (fun f cdv A outer s H vs Q E hr h => ?_)
  obtain ⟨v, rfl, hv, q⟩ := h
  refine ⟨_, (pss_cons (ps_if (PW.pt (pw_and (pt_val (pe_callB (r := rIsi K) call_isi (by rfl) T.b_isinstance (by decide +kernel) (pa_cons (pv 0) (pa_cons (pe_bltn (v := .ty "int") (by rfl) T.b_int (by decide +kernel) rfl) pa_nil)))) (pw_and1 (pt_cmpR op_ge (pe_callB call_abs (by rfl) T.b_abs (by decide +kernel) (pa_cons (pv 0) pa_nil)) (pe_glob (v := .int 1000000000000000000000000000000) rfl g_BEYOND_TOLD ⟨_, rfl⟩) (nomark _))))) (pss_one (ps_ret pe_str)) pss_nil)
      (pss_one (ps_ret (pe_callTy call_strIS (by rfl) T.b_str (by decide +kernel) (pa_cons (pv 0) pa_nil))))), ?_⟩
  rcases hv with ⟨i, rfl, hi⟩ | ⟨y, rfl, hy⟩
  · walk_at "rd"
    refine ⟨i, rfl, ?_⟩
    walk_at "rd"
    refine rif (fun h1 => ?_) fun h1 => ?_
    · walk_at "rd"
      exact q _ (by decide)
    · walk_at "rd"
      exact .inl ⟨i, rfl, hi, q _ (msg_len hi)⟩
  · walk_at "rd"
    exact .inr ⟨y, rfl, q _ hy⟩
end

theorem cutS_to (cs : List Nat) (n : Nat) : cutS (tx cs) none (some (n : Int)) = tx (cs.take n) := by
  unfold cutS
  rw [HT.sIx_nat, HT.sIx_none, Nat.sub_zero, tx_len]
  show tx ((cs.drop 0).take (min n cs.length)) = _
  rw [List.drop_zero, tx_inj]
  by_cases h : n ≤ cs.length
  · rw [Nat.min_eq_left h]
  · rw [Nat.min_eq_right (by omega), List.take_of_length_le (Nat.le_refl _), List.take_of_length_le (by omega)]
/-- the codes of names, and of paths -/
def NmC (c : Nat) : Prop := (48 ≤ c ∧ c ≤ 57) ∨ (97 ≤ c ∧ c ≤ 122)
def PtC (c : Nat) : Prop := c = 47 ∨ NmC c
instance (c : Nat) : Decidable (NmC c) := by unfold NmC; infer_instance
instance (c : Nat) : Decidable (PtC c) := by unfold PtC; infer_instance
def PathOk (p : List Nat) : Prop := (∀ c ∈ p, PtC c) ∧ p.length ≤ 40 ∧ (p = [] ∨ ∃ x t, p = x :: t ∧ 48 ≤ x)
def keyI (p : List Nat) : List Int := p.map fun (c : Nat) => (c : Int)
theorem keyI_inj {p q : List Nat} : keyI p = keyI q ↔ p = q := by
  constructor
  · intro h
    have h2 := congrArg (List.map Int.toNat) h
    unfold keyI at h2
    rw [List.map_map, List.map_map] at h2
    have e : (Int.toNat ∘ fun (c : Nat) => (c : Int)) = id := rfl
    rw [e, List.map_id, List.map_id] at h2
    exact h2
  · rintro rfl; rfl
theorem key_take (p : List Nat) (n : Nat) : (keyI p).take n = keyI (p.take n) := (List.map_take ..).symm
theorem key_app (p q : List Nat) : keyI (p ++ q) = keyI p ++ keyI q := List.map_append
theorem key_len (p : List Nat) : (keyI p).length = p.length := List.length_map _
theorem NmOk {p : List Nat} (h : ∀ c ∈ p, NmC c) : ∀ c ∈ p, PtC c := fun c hc => .inr (h c hc)
theorem ok_cat {p q : List Nat} (hp : ∀ c ∈ p, PtC c) (hq : ∀ c ∈ q, PtC c) : ∀ c ∈ p ++ q, PtC c := fun c hc => by
  rcases List.mem_append.mp hc with h | h
  · exact hp c h
  · exact hq c h
theorem nm_head {p : List Nat} (h : ∀ c ∈ p, NmC c) (hl : 1 ≤ p.length) (q : List Nat) : p ++ q = [] ∨ ∃ x t, p ++ q = x :: t ∧ 48 ≤ x := by
  cases p with
  | nil => simp at hl
  | cons x t =>
    refine .inr ⟨x, t ++ q, rfl, ?_⟩
    have := h x List.mem_cons_self
    unfold NmC at this
    omega
def LTS : Str := PySem.Str.ofString "abcdefghijklmnopqrstuvwxyz0123456789"
theorem lts_len : LTS.length = 36 := by decide +kernel
theorem lts_at : ∀ j, j < 36 → NmC (LTS.cps.toList.getD j 0) := by decide +kernel
theorem lts_get {j : Nat} (h : j < 36) : ∃ c, LTS.cps.toList[j]? = some c ∧ LTS.cps.toList.getD j 0 = c ∧ NmC c := by
  have h1 := lts_at j h
  have h2 : j < LTS.cps.toList.length := by rw [show LTS.cps.toList.length = 36 by decide +kernel]; exact h
  rw [List.getD_eq_getElem?_getD, List.getElem?_eq_getElem h2] at h1
  exact ⟨_, List.getElem?_eq_getElem h2, by rw [List.getD_eq_getElem?_getD, List.getElem?_eq_getElem h2]; rfl, h1⟩
theorem lts_idx0 : ∀ c, c < 123 → NmC c → Txt.index0 LTS (tx [c]) = some (if c < 58 then c - 48 + 26 else c - 97) := by decide +kernel
theorem lts_idx {c : Nat} (h : NmC c) : Txt.index0 LTS (tx [c]) = some (if c < 58 then c - 48 + 26 else c - 97) := lts_idx0 c (by have := h; unfold NmC at this; omega) h
theorem digs_in : ∀ c, c < 123 → decide (c ∈ (PySem.Str.ofString "0123456789").cps.toList) = decide (48 ≤ c ∧ c ≤ 57) := by decide +kernel
theorem dec_tx (a b : List Nat) : decide (tx a = tx b) = decide (a = b) := decide_eq_decide.mpr tx_inj

theorem top_mk {w : World} {K : PySem.W.Frag} {h : Heap} {mg : Str → Option Value} (X : K.In h) (G : h.Ns mainGlobals mg)
    {f_told : Addr} {od_told an_told : Option Addr} {sl_told : Array (Option Value)} {oc_told kV_told dc_told pm_told cd_told ct_told : Value}
    {f_is_name : Addr} {od_is_name an_is_name : Option Addr} {sl_is_name : Array (Option Value)} {oc_is_name kV_is_name dc_is_name pm_is_name cd_is_name ct_is_name : Value}
    {f_is_path : Addr} {od_is_path an_is_path : Option Addr} {sl_is_path : Array (Option Value)} {oc_is_path kV_is_path dc_is_path pm_is_path cd_is_path ct_is_path : Value}
    {f_require : Addr} {od_require an_require : Option Addr} {sl_require : Array (Option Value)} {oc_require kV_require dc_require pm_require cd_require ct_require : Value}
    {f_is_integer_word : Addr} {od_is_integer_word an_is_integer_word : Option Addr} {sl_is_integer_word : Array (Option Value)} {oc_is_integer_word kV_is_integer_word dc_is_integer_word pm_is_integer_word cd_is_integer_word ct_is_integer_word : Value}
    {f_integer_in : Addr} {od_integer_in an_integer_in : Option Addr} {sl_integer_in : Array (Option Value)} {oc_integer_in kV_integer_in dc_integer_in pm_integer_in cd_integer_in ct_integer_in : Value}
    {f_integers_in : Addr} {od_integers_in an_integers_in : Option Addr} {sl_integers_in : Array (Option Value)} {oc_integers_in kV_integers_in dc_integers_in pm_integers_in cd_integers_in ct_integers_in : Value}
    {f_parts_of : Addr} {od_parts_of an_parts_of : Option Addr} {sl_parts_of : Array (Option Value)} {oc_parts_of kV_parts_of dc_parts_of pm_parts_of cd_parts_of ct_parts_of : Value}
    {f_format_expression : Addr} {od_format_expression an_format_expression : Option Addr} {sl_format_expression : Array (Option Value)} {oc_format_expression kV_format_expression dc_format_expression pm_format_expression cd_format_expression ct_format_expression : Value}
    {f_words_of : Addr} {od_words_of an_words_of : Option Addr} {sl_words_of : Array (Option Value)} {oc_words_of kV_words_of dc_words_of pm_words_of cd_words_of ct_words_of : Value}
    {f_parse_expression : Addr} {od_parse_expression an_parse_expression : Option Addr} {sl_parse_expression : Array (Option Value)} {oc_parse_expression kV_parse_expression dc_parse_expression pm_parse_expression cd_parse_expression ct_parse_expression : Value}
    {f_word_at : Addr} {od_word_at an_word_at : Option Addr} {sl_word_at : Array (Option Value)} {oc_word_at kV_word_at dc_word_at pm_word_at cd_word_at ct_word_at : Value}
    {f_expression_at : Addr} {od_expression_at an_expression_at : Option Addr} {sl_expression_at : Array (Option Value)} {oc_expression_at kV_expression_at dc_expression_at pm_expression_at cd_expression_at ct_expression_at : Value}
    {f_composed_at : Addr} {od_composed_at an_composed_at : Option Addr} {sl_composed_at : Array (Option Value)} {oc_composed_at kV_composed_at dc_composed_at pm_composed_at cd_composed_at ct_composed_at : Value}
    {f_parts_at : Addr} {od_parts_at an_parts_at : Option Addr} {sl_parts_at : Array (Option Value)} {oc_parts_at kV_parts_at dc_parts_at pm_parts_at cd_parts_at ct_parts_at : Value}
    {f_offsets_at : Addr} {od_offsets_at an_offsets_at : Option Addr} {sl_offsets_at : Array (Option Value)} {oc_offsets_at kV_offsets_at dc_offsets_at pm_offsets_at cd_offsets_at ct_offsets_at : Value}
    {f__law_cell : Addr} {od__law_cell an__law_cell : Option Addr} {sl__law_cell : Array (Option Value)} {oc__law_cell kV__law_cell dc__law_cell pm__law_cell cd__law_cell ct__law_cell : Value}
    {f__law_draws : Addr} {od__law_draws an__law_draws : Option Addr} {sl__law_draws : Array (Option Value)} {oc__law_draws kV__law_draws dc__law_draws pm__law_draws cd__law_draws ct__law_draws : Value}
    {f__law_is_text : Addr} {od__law_is_text an__law_is_text : Option Addr} {sl__law_is_text : Array (Option Value)} {oc__law_is_text kV__law_is_text dc__law_is_text pm__law_is_text cd__law_is_text ct__law_is_text : Value}
    {f__law_stream : Addr} {od__law_stream an__law_stream : Option Addr} {sl__law_stream : Array (Option Value)} {oc__law_stream kV__law_stream dc__law_stream pm__law_stream cd__law_stream ct__law_stream : Value}
    {f__law_letters : Addr} {od__law_letters an__law_letters : Option Addr} {sl__law_letters : Array (Option Value)} {oc__law_letters kV__law_letters dc__law_letters pm__law_letters cd__law_letters ct__law_letters : Value}
    {f__law_is_name_due : Addr} {od__law_is_name_due an__law_is_name_due : Option Addr} {sl__law_is_name_due : Array (Option Value)} {oc__law_is_name_due kV__law_is_name_due dc__law_is_name_due pm__law_is_name_due cd__law_is_name_due ct__law_is_name_due : Value}
    {f__law_is_path_due : Addr} {od__law_is_path_due an__law_is_path_due : Option Addr} {sl__law_is_path_due : Array (Option Value)} {oc__law_is_path_due kV__law_is_path_due dc__law_is_path_due pm__law_is_path_due cd__law_is_path_due ct__law_is_path_due : Value}
    {f__law_expression : Addr} {od__law_expression an__law_expression : Option Addr} {sl__law_expression : Array (Option Value)} {oc__law_expression kV__law_expression dc__law_expression pm__law_expression cd__law_expression ct__law_expression : Value}
    {f__law_parts : Addr} {od__law_parts an__law_parts : Option Addr} {sl__law_parts : Array (Option Value)} {oc__law_parts kV__law_parts dc__law_parts pm__law_parts cd__law_parts ct__law_parts : Value}
    {f__law_depth : Addr} {od__law_depth an__law_depth : Option Addr} {sl__law_depth : Array (Option Value)} {oc__law_depth kV__law_depth dc__law_depth pm__law_depth cd__law_depth ct__law_depth : Value}
    {f__law_words : Addr} {od__law_words an__law_words : Option Addr} {sl__law_words : Array (Option Value)} {oc__law_words kV__law_words dc__law_words pm__law_words cd__law_words ct__law_words : Value}
    {f__law_integer_word : Addr} {od__law_integer_word an__law_integer_word : Option Addr} {sl__law_integer_word : Array (Option Value)} {oc__law_integer_word kV__law_integer_word dc__law_integer_word pm__law_integer_word cd__law_integer_word ct__law_integer_word : Value}
    {f__law_parsed : Addr} {od__law_parsed an__law_parsed : Option Addr} {sl__law_parsed : Array (Option Value)} {oc__law_parsed kV__law_parsed dc__law_parsed pm__law_parsed cd__law_parsed ct__law_parsed : Value}
    {f__law_atom : Addr} {od__law_atom an__law_atom : Option Addr} {sl__law_atom : Array (Option Value)} {oc__law_atom kV__law_atom dc__law_atom pm__law_atom cd__law_atom ct__law_atom : Value}
    {f__law_grouped : Addr} {od__law_grouped an__law_grouped : Option Addr} {sl__law_grouped : Array (Option Value)} {oc__law_grouped kV__law_grouped dc__law_grouped pm__law_grouped cd__law_grouped ct__law_grouped : Value}
    {f_law : Addr} {od_law an_law : Option Addr} {sl_law : Array (Option Value)} {oc_law kV_law dc_law pm_law cd_law ct_law : Value}
    {K_TesseraError : Addr}
    {K_InvalidDump : Addr}
    {K_InvalidExpression : Addr}
    {K_BadWord : Addr}
    {t_BEGIN : Tok}
    {t_BEYOND_TOLD : Tok}
    {t_DEEPEST : Tok}
    {t_END : Tok}
    {t_LONGEST_NAME : Tok}
    {t_MOST_DIGITS : Tok}
    {t_MOST_NAMES : Tok}
    {t_NAME_CHARACTERS : Tok}
    {p_PART_COUNTS : Addr} {es_PART_COUNTS : Array DictEntry} {n_PART_COUNTS : Nat}
    {t_PATH_SIGN : Tok}
    {t_SLASH : Tok}
    {t_SPACE : Tok}
    (a_told : PySem.W.nsIn K mainGlobals "told" = some (some (.ref f_told))) (l_told : K.lookup f_told = some ⟨oc_told, od_told, .func (PySem.W.fnOf "told" "told" (defArgs s_told) (defBody s_told) (defScope s_told) .none kV_told dc_told pm_told an_told cd_told ct_told), sl_told⟩) (c_told : PySem.W.codeIn K cd_told "told" = true) (k_told : PySem.W.keepIn K (.ref f_told) = true)
    (a_is_name : PySem.W.nsIn K mainGlobals "is_name" = some (some (.ref f_is_name))) (l_is_name : K.lookup f_is_name = some ⟨oc_is_name, od_is_name, .func (PySem.W.fnOf "is_name" "is_name" (defArgs s_is_name) (defBody s_is_name) (defScope s_is_name) .none kV_is_name dc_is_name pm_is_name an_is_name cd_is_name ct_is_name), sl_is_name⟩) (c_is_name : PySem.W.codeIn K cd_is_name "is_name" = true) (k_is_name : PySem.W.keepIn K (.ref f_is_name) = true)
    (a_is_path : PySem.W.nsIn K mainGlobals "is_path" = some (some (.ref f_is_path))) (l_is_path : K.lookup f_is_path = some ⟨oc_is_path, od_is_path, .func (PySem.W.fnOf "is_path" "is_path" (defArgs s_is_path) (defBody s_is_path) (defScope s_is_path) .none kV_is_path dc_is_path pm_is_path an_is_path cd_is_path ct_is_path), sl_is_path⟩) (c_is_path : PySem.W.codeIn K cd_is_path "is_path" = true) (k_is_path : PySem.W.keepIn K (.ref f_is_path) = true)
    (a_require : PySem.W.nsIn K mainGlobals "require" = some (some (.ref f_require))) (l_require : K.lookup f_require = some ⟨oc_require, od_require, .func (PySem.W.fnOf "require" "require" (defArgs s_require) (defBody s_require) (defScope s_require) .none kV_require dc_require pm_require an_require cd_require ct_require), sl_require⟩) (c_require : PySem.W.codeIn K cd_require "require" = true) (k_require : PySem.W.keepIn K (.ref f_require) = true)
    (a_is_integer_word : PySem.W.nsIn K mainGlobals "is_integer_word" = some (some (.ref f_is_integer_word))) (l_is_integer_word : K.lookup f_is_integer_word = some ⟨oc_is_integer_word, od_is_integer_word, .func (PySem.W.fnOf "is_integer_word" "is_integer_word" (defArgs s_is_integer_word) (defBody s_is_integer_word) (defScope s_is_integer_word) .none kV_is_integer_word dc_is_integer_word pm_is_integer_word an_is_integer_word cd_is_integer_word ct_is_integer_word), sl_is_integer_word⟩) (c_is_integer_word : PySem.W.codeIn K cd_is_integer_word "is_integer_word" = true) (k_is_integer_word : PySem.W.keepIn K (.ref f_is_integer_word) = true)
    (a_integer_in : PySem.W.nsIn K mainGlobals "integer_in" = some (some (.ref f_integer_in))) (l_integer_in : K.lookup f_integer_in = some ⟨oc_integer_in, od_integer_in, .func (PySem.W.fnOf "integer_in" "integer_in" (defArgs s_integer_in) (defBody s_integer_in) (defScope s_integer_in) .none kV_integer_in dc_integer_in pm_integer_in an_integer_in cd_integer_in ct_integer_in), sl_integer_in⟩) (c_integer_in : PySem.W.codeIn K cd_integer_in "integer_in" = true) (k_integer_in : PySem.W.keepIn K (.ref f_integer_in) = true)
    (a_integers_in : PySem.W.nsIn K mainGlobals "integers_in" = some (some (.ref f_integers_in))) (l_integers_in : K.lookup f_integers_in = some ⟨oc_integers_in, od_integers_in, .func (PySem.W.fnOf "integers_in" "integers_in" (defArgs s_integers_in) (defBody s_integers_in) (defScope s_integers_in) .none kV_integers_in dc_integers_in pm_integers_in an_integers_in cd_integers_in ct_integers_in), sl_integers_in⟩) (c_integers_in : PySem.W.codeIn K cd_integers_in "integers_in" = true) (k_integers_in : PySem.W.keepIn K (.ref f_integers_in) = true)
    (a_parts_of : PySem.W.nsIn K mainGlobals "parts_of" = some (some (.ref f_parts_of))) (l_parts_of : K.lookup f_parts_of = some ⟨oc_parts_of, od_parts_of, .func (PySem.W.fnOf "parts_of" "parts_of" (defArgs s_parts_of) (defBody s_parts_of) (defScope s_parts_of) .none kV_parts_of dc_parts_of pm_parts_of an_parts_of cd_parts_of ct_parts_of), sl_parts_of⟩) (c_parts_of : PySem.W.codeIn K cd_parts_of "parts_of" = true) (k_parts_of : PySem.W.keepIn K (.ref f_parts_of) = true)
    (a_format_expression : PySem.W.nsIn K mainGlobals "format_expression" = some (some (.ref f_format_expression))) (l_format_expression : K.lookup f_format_expression = some ⟨oc_format_expression, od_format_expression, .func (PySem.W.fnOf "format_expression" "format_expression" (defArgs s_format_expression) (defBody s_format_expression) (defScope s_format_expression) .none kV_format_expression dc_format_expression pm_format_expression an_format_expression cd_format_expression ct_format_expression), sl_format_expression⟩) (c_format_expression : PySem.W.codeIn K cd_format_expression "format_expression" = true) (k_format_expression : PySem.W.keepIn K (.ref f_format_expression) = true)
    (a_words_of : PySem.W.nsIn K mainGlobals "words_of" = some (some (.ref f_words_of))) (l_words_of : K.lookup f_words_of = some ⟨oc_words_of, od_words_of, .func (PySem.W.fnOf "words_of" "words_of" (defArgs s_words_of) (defBody s_words_of) (defScope s_words_of) .none kV_words_of dc_words_of pm_words_of an_words_of cd_words_of ct_words_of), sl_words_of⟩) (c_words_of : PySem.W.codeIn K cd_words_of "words_of" = true) (k_words_of : PySem.W.keepIn K (.ref f_words_of) = true)
    (a_parse_expression : PySem.W.nsIn K mainGlobals "parse_expression" = some (some (.ref f_parse_expression))) (l_parse_expression : K.lookup f_parse_expression = some ⟨oc_parse_expression, od_parse_expression, .func (PySem.W.fnOf "parse_expression" "parse_expression" (defArgs s_parse_expression) (defBody s_parse_expression) (defScope s_parse_expression) .none kV_parse_expression dc_parse_expression pm_parse_expression an_parse_expression cd_parse_expression ct_parse_expression), sl_parse_expression⟩) (c_parse_expression : PySem.W.codeIn K cd_parse_expression "parse_expression" = true) (k_parse_expression : PySem.W.keepIn K (.ref f_parse_expression) = true)
    (a_word_at : PySem.W.nsIn K mainGlobals "word_at" = some (some (.ref f_word_at))) (l_word_at : K.lookup f_word_at = some ⟨oc_word_at, od_word_at, .func (PySem.W.fnOf "word_at" "word_at" (defArgs s_word_at) (defBody s_word_at) (defScope s_word_at) .none kV_word_at dc_word_at pm_word_at an_word_at cd_word_at ct_word_at), sl_word_at⟩) (c_word_at : PySem.W.codeIn K cd_word_at "word_at" = true) (k_word_at : PySem.W.keepIn K (.ref f_word_at) = true)
    (a_expression_at : PySem.W.nsIn K mainGlobals "expression_at" = some (some (.ref f_expression_at))) (l_expression_at : K.lookup f_expression_at = some ⟨oc_expression_at, od_expression_at, .func (PySem.W.fnOf "expression_at" "expression_at" (defArgs s_expression_at) (defBody s_expression_at) (defScope s_expression_at) .none kV_expression_at dc_expression_at pm_expression_at an_expression_at cd_expression_at ct_expression_at), sl_expression_at⟩) (c_expression_at : PySem.W.codeIn K cd_expression_at "expression_at" = true) (k_expression_at : PySem.W.keepIn K (.ref f_expression_at) = true)
    (a_composed_at : PySem.W.nsIn K mainGlobals "composed_at" = some (some (.ref f_composed_at))) (l_composed_at : K.lookup f_composed_at = some ⟨oc_composed_at, od_composed_at, .func (PySem.W.fnOf "composed_at" "composed_at" (defArgs s_composed_at) (defBody s_composed_at) (defScope s_composed_at) .none kV_composed_at dc_composed_at pm_composed_at an_composed_at cd_composed_at ct_composed_at), sl_composed_at⟩) (c_composed_at : PySem.W.codeIn K cd_composed_at "composed_at" = true) (k_composed_at : PySem.W.keepIn K (.ref f_composed_at) = true)
    (a_parts_at : PySem.W.nsIn K mainGlobals "parts_at" = some (some (.ref f_parts_at))) (l_parts_at : K.lookup f_parts_at = some ⟨oc_parts_at, od_parts_at, .func (PySem.W.fnOf "parts_at" "parts_at" (defArgs s_parts_at) (defBody s_parts_at) (defScope s_parts_at) .none kV_parts_at dc_parts_at pm_parts_at an_parts_at cd_parts_at ct_parts_at), sl_parts_at⟩) (c_parts_at : PySem.W.codeIn K cd_parts_at "parts_at" = true) (k_parts_at : PySem.W.keepIn K (.ref f_parts_at) = true)
    (a_offsets_at : PySem.W.nsIn K mainGlobals "offsets_at" = some (some (.ref f_offsets_at))) (l_offsets_at : K.lookup f_offsets_at = some ⟨oc_offsets_at, od_offsets_at, .func (PySem.W.fnOf "offsets_at" "offsets_at" (defArgs s_offsets_at) (defBody s_offsets_at) (defScope s_offsets_at) .none kV_offsets_at dc_offsets_at pm_offsets_at an_offsets_at cd_offsets_at ct_offsets_at), sl_offsets_at⟩) (c_offsets_at : PySem.W.codeIn K cd_offsets_at "offsets_at" = true) (k_offsets_at : PySem.W.keepIn K (.ref f_offsets_at) = true)
    (a__law_cell : PySem.W.nsIn K mainGlobals "_law_cell" = some (some (.ref f__law_cell))) (l__law_cell : K.lookup f__law_cell = some ⟨oc__law_cell, od__law_cell, .func (PySem.W.fnOf "_law_cell" "_law_cell" (defArgs s__law_cell) (defBody s__law_cell) (defScope s__law_cell) .none kV__law_cell dc__law_cell pm__law_cell an__law_cell cd__law_cell ct__law_cell), sl__law_cell⟩) (c__law_cell : PySem.W.codeIn K cd__law_cell "_law_cell" = true) (k__law_cell : PySem.W.keepIn K (.ref f__law_cell) = true)
    (a__law_draws : PySem.W.nsIn K mainGlobals "_law_draws" = some (some (.ref f__law_draws))) (l__law_draws : K.lookup f__law_draws = some ⟨oc__law_draws, od__law_draws, .func (PySem.W.fnOf "_law_draws" "_law_draws" (defArgs s__law_draws) (defBody s__law_draws) (defScope s__law_draws) .none kV__law_draws dc__law_draws pm__law_draws an__law_draws cd__law_draws ct__law_draws), sl__law_draws⟩) (c__law_draws : PySem.W.codeIn K cd__law_draws "_law_draws" = true) (k__law_draws : PySem.W.keepIn K (.ref f__law_draws) = true)
    (a__law_is_text : PySem.W.nsIn K mainGlobals "_law_is_text" = some (some (.ref f__law_is_text))) (l__law_is_text : K.lookup f__law_is_text = some ⟨oc__law_is_text, od__law_is_text, .func (PySem.W.fnOf "_law_is_text" "_law_is_text" (defArgs s__law_is_text) (defBody s__law_is_text) (defScope s__law_is_text) .none kV__law_is_text dc__law_is_text pm__law_is_text an__law_is_text cd__law_is_text ct__law_is_text), sl__law_is_text⟩) (c__law_is_text : PySem.W.codeIn K cd__law_is_text "_law_is_text" = true) (k__law_is_text : PySem.W.keepIn K (.ref f__law_is_text) = true)
    (a__law_stream : PySem.W.nsIn K mainGlobals "_law_stream" = some (some (.ref f__law_stream))) (l__law_stream : K.lookup f__law_stream = some ⟨oc__law_stream, od__law_stream, .func (PySem.W.fnOf "_law_stream" "_law_stream" (defArgs s__law_stream) (defBody s__law_stream) (defScope s__law_stream) .none kV__law_stream dc__law_stream pm__law_stream an__law_stream cd__law_stream ct__law_stream), sl__law_stream⟩) (c__law_stream : PySem.W.codeIn K cd__law_stream "_law_stream" = true) (k__law_stream : PySem.W.keepIn K (.ref f__law_stream) = true)
    (a__law_letters : PySem.W.nsIn K mainGlobals "_law_letters" = some (some (.ref f__law_letters))) (l__law_letters : K.lookup f__law_letters = some ⟨oc__law_letters, od__law_letters, .func (PySem.W.fnOf "_law_letters" "_law_letters" (defArgs s__law_letters) (defBody s__law_letters) (defScope s__law_letters) .none kV__law_letters dc__law_letters pm__law_letters an__law_letters cd__law_letters ct__law_letters), sl__law_letters⟩) (c__law_letters : PySem.W.codeIn K cd__law_letters "_law_letters" = true) (k__law_letters : PySem.W.keepIn K (.ref f__law_letters) = true)
    (a__law_is_name_due : PySem.W.nsIn K mainGlobals "_law_is_name_due" = some (some (.ref f__law_is_name_due))) (l__law_is_name_due : K.lookup f__law_is_name_due = some ⟨oc__law_is_name_due, od__law_is_name_due, .func (PySem.W.fnOf "_law_is_name_due" "_law_is_name_due" (defArgs s__law_is_name_due) (defBody s__law_is_name_due) (defScope s__law_is_name_due) .none kV__law_is_name_due dc__law_is_name_due pm__law_is_name_due an__law_is_name_due cd__law_is_name_due ct__law_is_name_due), sl__law_is_name_due⟩) (c__law_is_name_due : PySem.W.codeIn K cd__law_is_name_due "_law_is_name_due" = true) (k__law_is_name_due : PySem.W.keepIn K (.ref f__law_is_name_due) = true)
    (a__law_is_path_due : PySem.W.nsIn K mainGlobals "_law_is_path_due" = some (some (.ref f__law_is_path_due))) (l__law_is_path_due : K.lookup f__law_is_path_due = some ⟨oc__law_is_path_due, od__law_is_path_due, .func (PySem.W.fnOf "_law_is_path_due" "_law_is_path_due" (defArgs s__law_is_path_due) (defBody s__law_is_path_due) (defScope s__law_is_path_due) .none kV__law_is_path_due dc__law_is_path_due pm__law_is_path_due an__law_is_path_due cd__law_is_path_due ct__law_is_path_due), sl__law_is_path_due⟩) (c__law_is_path_due : PySem.W.codeIn K cd__law_is_path_due "_law_is_path_due" = true) (k__law_is_path_due : PySem.W.keepIn K (.ref f__law_is_path_due) = true)
    (a__law_expression : PySem.W.nsIn K mainGlobals "_law_expression" = some (some (.ref f__law_expression))) (l__law_expression : K.lookup f__law_expression = some ⟨oc__law_expression, od__law_expression, .func (PySem.W.fnOf "_law_expression" "_law_expression" (defArgs s__law_expression) (defBody s__law_expression) (defScope s__law_expression) .none kV__law_expression dc__law_expression pm__law_expression an__law_expression cd__law_expression ct__law_expression), sl__law_expression⟩) (c__law_expression : PySem.W.codeIn K cd__law_expression "_law_expression" = true) (k__law_expression : PySem.W.keepIn K (.ref f__law_expression) = true)
    (a__law_parts : PySem.W.nsIn K mainGlobals "_law_parts" = some (some (.ref f__law_parts))) (l__law_parts : K.lookup f__law_parts = some ⟨oc__law_parts, od__law_parts, .func (PySem.W.fnOf "_law_parts" "_law_parts" (defArgs s__law_parts) (defBody s__law_parts) (defScope s__law_parts) .none kV__law_parts dc__law_parts pm__law_parts an__law_parts cd__law_parts ct__law_parts), sl__law_parts⟩) (c__law_parts : PySem.W.codeIn K cd__law_parts "_law_parts" = true) (k__law_parts : PySem.W.keepIn K (.ref f__law_parts) = true)
    (a__law_depth : PySem.W.nsIn K mainGlobals "_law_depth" = some (some (.ref f__law_depth))) (l__law_depth : K.lookup f__law_depth = some ⟨oc__law_depth, od__law_depth, .func (PySem.W.fnOf "_law_depth" "_law_depth" (defArgs s__law_depth) (defBody s__law_depth) (defScope s__law_depth) .none kV__law_depth dc__law_depth pm__law_depth an__law_depth cd__law_depth ct__law_depth), sl__law_depth⟩) (c__law_depth : PySem.W.codeIn K cd__law_depth "_law_depth" = true) (k__law_depth : PySem.W.keepIn K (.ref f__law_depth) = true)
    (a__law_words : PySem.W.nsIn K mainGlobals "_law_words" = some (some (.ref f__law_words))) (l__law_words : K.lookup f__law_words = some ⟨oc__law_words, od__law_words, .func (PySem.W.fnOf "_law_words" "_law_words" (defArgs s__law_words) (defBody s__law_words) (defScope s__law_words) .none kV__law_words dc__law_words pm__law_words an__law_words cd__law_words ct__law_words), sl__law_words⟩) (c__law_words : PySem.W.codeIn K cd__law_words "_law_words" = true) (k__law_words : PySem.W.keepIn K (.ref f__law_words) = true)
    (a__law_integer_word : PySem.W.nsIn K mainGlobals "_law_integer_word" = some (some (.ref f__law_integer_word))) (l__law_integer_word : K.lookup f__law_integer_word = some ⟨oc__law_integer_word, od__law_integer_word, .func (PySem.W.fnOf "_law_integer_word" "_law_integer_word" (defArgs s__law_integer_word) (defBody s__law_integer_word) (defScope s__law_integer_word) .none kV__law_integer_word dc__law_integer_word pm__law_integer_word an__law_integer_word cd__law_integer_word ct__law_integer_word), sl__law_integer_word⟩) (c__law_integer_word : PySem.W.codeIn K cd__law_integer_word "_law_integer_word" = true) (k__law_integer_word : PySem.W.keepIn K (.ref f__law_integer_word) = true)
    (a__law_parsed : PySem.W.nsIn K mainGlobals "_law_parsed" = some (some (.ref f__law_parsed))) (l__law_parsed : K.lookup f__law_parsed = some ⟨oc__law_parsed, od__law_parsed, .func (PySem.W.fnOf "_law_parsed" "_law_parsed" (defArgs s__law_parsed) (defBody s__law_parsed) (defScope s__law_parsed) .none kV__law_parsed dc__law_parsed pm__law_parsed an__law_parsed cd__law_parsed ct__law_parsed), sl__law_parsed⟩) (c__law_parsed : PySem.W.codeIn K cd__law_parsed "_law_parsed" = true) (k__law_parsed : PySem.W.keepIn K (.ref f__law_parsed) = true)
    (a__law_atom : PySem.W.nsIn K mainGlobals "_law_atom" = some (some (.ref f__law_atom))) (l__law_atom : K.lookup f__law_atom = some ⟨oc__law_atom, od__law_atom, .func (PySem.W.fnOf "_law_atom" "_law_atom" (defArgs s__law_atom) (defBody s__law_atom) (defScope s__law_atom) .none kV__law_atom dc__law_atom pm__law_atom an__law_atom cd__law_atom ct__law_atom), sl__law_atom⟩) (c__law_atom : PySem.W.codeIn K cd__law_atom "_law_atom" = true) (k__law_atom : PySem.W.keepIn K (.ref f__law_atom) = true)
    (a__law_grouped : PySem.W.nsIn K mainGlobals "_law_grouped" = some (some (.ref f__law_grouped))) (l__law_grouped : K.lookup f__law_grouped = some ⟨oc__law_grouped, od__law_grouped, .func (PySem.W.fnOf "_law_grouped" "_law_grouped" (defArgs s__law_grouped) (defBody s__law_grouped) (defScope s__law_grouped) .none kV__law_grouped dc__law_grouped pm__law_grouped an__law_grouped cd__law_grouped ct__law_grouped), sl__law_grouped⟩) (c__law_grouped : PySem.W.codeIn K cd__law_grouped "_law_grouped" = true) (k__law_grouped : PySem.W.keepIn K (.ref f__law_grouped) = true)
    (a_law : PySem.W.nsIn K mainGlobals "law" = some (some (.ref f_law))) (l_law : K.lookup f_law = some ⟨oc_law, od_law, .func (PySem.W.fnOf "law" "law" (defArgs s_law) (defBody s_law) (defScope s_law) .none kV_law dc_law pm_law an_law cd_law ct_law), sl_law⟩) (c_law : PySem.W.codeIn K cd_law "law" = true) (k_law : PySem.W.keepIn K (.ref f_law) = true)
    (ea_TesseraError : PySem.W.nsIn K mainGlobals "TesseraError" = some (some (.ref K_TesseraError)))
    (ega_TesseraError : PySem.W.findIn K (.ref K_TesseraError) "__getattribute__" = some (some (.builtin "BaseException.__getattribute__")))
    (egg_TesseraError : PySem.W.findIn K (.ref K_TesseraError) "__getattr__" = some none)
    (eex_TesseraError : PySem.W.subIn K (.ref K_TesseraError) (.type "BaseException") = some true)
    (ehd_TesseraError : PySem.W.hasDictIn K K_TesseraError = true)
    (eha_TesseraError : PySem.W.findIn K (.ref K_TesseraError) "__class__" = some (some (.builtin "object.__class__")))
    (ehm_TesseraError : PySem.W.mroIn K K_TesseraError (.type "object") = some true)
    (ety_TesseraError : PySem.W.typeIn K (.ref K_TesseraError) = some (.type "type"))
    (ea_InvalidDump : PySem.W.nsIn K mainGlobals "InvalidDump" = some (some (.ref K_InvalidDump)))
    (ega_InvalidDump : PySem.W.findIn K (.ref K_InvalidDump) "__getattribute__" = some (some (.builtin "BaseException.__getattribute__")))
    (egg_InvalidDump : PySem.W.findIn K (.ref K_InvalidDump) "__getattr__" = some none)
    (eex_InvalidDump : PySem.W.subIn K (.ref K_InvalidDump) (.type "BaseException") = some true)
    (ehd_InvalidDump : PySem.W.hasDictIn K K_InvalidDump = true)
    (eha_InvalidDump : PySem.W.findIn K (.ref K_InvalidDump) "__class__" = some (some (.builtin "object.__class__")))
    (ehm_InvalidDump : PySem.W.mroIn K K_InvalidDump (.type "object") = some true)
    (ety_InvalidDump : PySem.W.typeIn K (.ref K_InvalidDump) = some (.type "type"))
    (ea_InvalidExpression : PySem.W.nsIn K mainGlobals "InvalidExpression" = some (some (.ref K_InvalidExpression)))
    (ega_InvalidExpression : PySem.W.findIn K (.ref K_InvalidExpression) "__getattribute__" = some (some (.builtin "BaseException.__getattribute__")))
    (egg_InvalidExpression : PySem.W.findIn K (.ref K_InvalidExpression) "__getattr__" = some none)
    (eex_InvalidExpression : PySem.W.subIn K (.ref K_InvalidExpression) (.type "BaseException") = some true)
    (ehd_InvalidExpression : PySem.W.hasDictIn K K_InvalidExpression = true)
    (eha_InvalidExpression : PySem.W.findIn K (.ref K_InvalidExpression) "__class__" = some (some (.builtin "object.__class__")))
    (ehm_InvalidExpression : PySem.W.mroIn K K_InvalidExpression (.type "object") = some true)
    (ety_InvalidExpression : PySem.W.typeIn K (.ref K_InvalidExpression) = some (.type "type"))
    (ea_BadWord : PySem.W.nsIn K mainGlobals "BadWord" = some (some (.ref K_BadWord)))
    (ega_BadWord : PySem.W.findIn K (.ref K_BadWord) "__getattribute__" = some (some (.builtin "BaseException.__getattribute__")))
    (egg_BadWord : PySem.W.findIn K (.ref K_BadWord) "__getattr__" = some none)
    (eex_BadWord : PySem.W.subIn K (.ref K_BadWord) (.type "BaseException") = some true)
    (ehd_BadWord : PySem.W.hasDictIn K K_BadWord = true)
    (eha_BadWord : PySem.W.findIn K (.ref K_BadWord) "__class__" = some (some (.builtin "object.__class__")))
    (ehm_BadWord : PySem.W.mroIn K K_BadWord (.type "object") = some true)
    (ety_BadWord : PySem.W.typeIn K (.ref K_BadWord) = some (.type "type"))
    (egn : PySem.W.specialIn K (.builtin "object.__class__") "__get__" = some (some (.builtin "getset_descriptor.__get__"))) (egt : PySem.W.takesIn K (.builtin "object.__class__") = some true)
    (epx_InvalidExpression : PySem.W.excIn K K_InvalidExpression [.type "ValueError", .type "Exception", .type "BaseException", .type "object"] "ValueError.__new__" = true)
    (epk_InvalidExpression : PySem.W.keepIn K (.ref K_InvalidExpression) = true)
    (epx_BadWord : PySem.W.excIn K K_BadWord [.type "ValueError", .type "Exception", .type "BaseException", .type "object"] "ValueError.__new__" = true)
    (epk_BadWord : PySem.W.keepIn K (.ref K_BadWord) = true)
    (es_TesseraError_TesseraError : PySem.W.subIn K (.ref K_TesseraError) (.ref K_TesseraError) = some true)
    (es_TesseraError_InvalidDump : PySem.W.subIn K (.ref K_TesseraError) (.ref K_InvalidDump) = some false)
    (es_TesseraError_InvalidExpression : PySem.W.subIn K (.ref K_TesseraError) (.ref K_InvalidExpression) = some false)
    (es_TesseraError_BadWord : PySem.W.subIn K (.ref K_TesseraError) (.ref K_BadWord) = some false)
    (es_InvalidDump_TesseraError : PySem.W.subIn K (.ref K_InvalidDump) (.ref K_TesseraError) = some true)
    (es_InvalidDump_InvalidDump : PySem.W.subIn K (.ref K_InvalidDump) (.ref K_InvalidDump) = some true)
    (es_InvalidDump_InvalidExpression : PySem.W.subIn K (.ref K_InvalidDump) (.ref K_InvalidExpression) = some false)
    (es_InvalidDump_BadWord : PySem.W.subIn K (.ref K_InvalidDump) (.ref K_BadWord) = some false)
    (es_InvalidExpression_TesseraError : PySem.W.subIn K (.ref K_InvalidExpression) (.ref K_TesseraError) = some true)
    (es_InvalidExpression_InvalidDump : PySem.W.subIn K (.ref K_InvalidExpression) (.ref K_InvalidDump) = some false)
    (es_InvalidExpression_InvalidExpression : PySem.W.subIn K (.ref K_InvalidExpression) (.ref K_InvalidExpression) = some true)
    (es_InvalidExpression_BadWord : PySem.W.subIn K (.ref K_InvalidExpression) (.ref K_BadWord) = some false)
    (es_BadWord_TesseraError : PySem.W.subIn K (.ref K_BadWord) (.ref K_TesseraError) = some true)
    (es_BadWord_InvalidDump : PySem.W.subIn K (.ref K_BadWord) (.ref K_InvalidDump) = some false)
    (es_BadWord_InvalidExpression : PySem.W.subIn K (.ref K_BadWord) (.ref K_InvalidExpression) = some false)
    (es_BadWord_BadWord : PySem.W.subIn K (.ref K_BadWord) (.ref K_BadWord) = some true)
    (z_BEGIN : PySem.W.nsIn K mainGlobals "BEGIN" = some (some (.str (PySem.Str.ofString "(") t_BEGIN)))
    (z_BEYOND_TOLD : PySem.W.nsIn K mainGlobals "BEYOND_TOLD" = some (some (.int 1000000000000000000000000000000 t_BEYOND_TOLD)))
    (z_DEEPEST : PySem.W.nsIn K mainGlobals "DEEPEST" = some (some (.int 12 t_DEEPEST)))
    (z_END : PySem.W.nsIn K mainGlobals "END" = some (some (.str (PySem.Str.ofString ")") t_END)))
    (z_LONGEST_NAME : PySem.W.nsIn K mainGlobals "LONGEST_NAME" = some (some (.int 12 t_LONGEST_NAME)))
    (z_MOST_DIGITS : PySem.W.nsIn K mainGlobals "MOST_DIGITS" = some (some (.int 30 t_MOST_DIGITS)))
    (z_MOST_NAMES : PySem.W.nsIn K mainGlobals "MOST_NAMES" = some (some (.int 6 t_MOST_NAMES)))
    (z_NAME_CHARACTERS : PySem.W.nsIn K mainGlobals "NAME_CHARACTERS" = some (some (.str (PySem.Str.ofString "abcdefghijklmnopqrstuvwxyz0123456789") t_NAME_CHARACTERS)))
    (z_PART_COUNTS : PySem.W.nsIn K mainGlobals "PART_COUNTS" = some (some (.ref p_PART_COUNTS))) (l_PART_COUNTS : K.lookup p_PART_COUNTS = some ⟨.type "dict", none, .dict es_PART_COUNTS n_PART_COUNTS, #[]⟩) (d_PART_COUNTS : DEs w.params es_PART_COUNTS.toList [(PySem.Str.ofString "add", 2), (PySem.Str.ofString "sub", 2), (PySem.Str.ofString "mul", 2), (PySem.Str.ofString "min", 2), (PySem.Str.ofString "max", 2), (PySem.Str.ofString "less", 2), (PySem.Str.ofString "pick", 3)]) (y_PART_COUNTS : (p_PART_COUNTS == sysModules) = false)
    (z_PATH_SIGN : PySem.W.nsIn K mainGlobals "PATH_SIGN" = some (some (.str (PySem.Str.ofString "@") t_PATH_SIGN)))
    (z_SLASH : PySem.W.nsIn K mainGlobals "SLASH" = some (some (.str (PySem.Str.ofString "/") t_SLASH)))
    (z_SPACE : PySem.W.nsIn K mainGlobals "SPACE" = some (some (.str (PySem.Str.ofString " ") t_SPACE)))
    (z_abs : PySem.W.nsIn K mainGlobals "abs" = some none)
    (z_all : PySem.W.nsIn K mainGlobals "all" = some none)
    (z_int : PySem.W.nsIn K mainGlobals "int" = some none)
    (z_isinstance : PySem.W.nsIn K mainGlobals "isinstance" = some none)
    (z_len : PySem.W.nsIn K mainGlobals "len" = some none)
    (z_list : PySem.W.nsIn K mainGlobals "list" = some none)
    (z_max : PySem.W.nsIn K mainGlobals "max" = some none)
    (z_range : PySem.W.nsIn K mainGlobals "range" = some none)
    (z_str : PySem.W.nsIn K mainGlobals "str" = some none)
    (z_tuple : PySem.W.nsIn K mainGlobals "tuple" = some none) : Top w K mg :=
  { f_told := ⟨_, _, fun_mk (st := s_told) l_told c_told k_told, PySem.W.mg_of X G a_told, (fun_mk (st := s_told) l_told c_told k_told).binds (ps := ["thing"]) fun _ _ _ _ _ _ us hl => match us, hl with | [_], _ => rfl⟩,
    f_is_name := ⟨_, _, fun_mk (st := s_is_name) l_is_name c_is_name k_is_name, PySem.W.mg_of X G a_is_name, (fun_mk (st := s_is_name) l_is_name c_is_name k_is_name).binds (ps := ["name"]) fun _ _ _ _ _ _ us hl => match us, hl with | [_], _ => rfl⟩,
    f_is_path := ⟨_, _, fun_mk (st := s_is_path) l_is_path c_is_path k_is_path, PySem.W.mg_of X G a_is_path, (fun_mk (st := s_is_path) l_is_path c_is_path k_is_path).binds (ps := ["path"]) fun _ _ _ _ _ _ us hl => match us, hl with | [_], _ => rfl⟩,
    f_require := ⟨_, _, fun_mk (st := s_require) l_require c_require k_require, PySem.W.mg_of X G a_require, (fun_mk (st := s_require) l_require c_require k_require).binds (ps := ["holds"]) fun _ _ _ _ _ _ us hl => match us, hl with | [_], _ => rfl⟩,
    f_is_integer_word := ⟨_, _, fun_mk (st := s_is_integer_word) l_is_integer_word c_is_integer_word k_is_integer_word, PySem.W.mg_of X G a_is_integer_word, (fun_mk (st := s_is_integer_word) l_is_integer_word c_is_integer_word k_is_integer_word).binds (ps := ["word"]) fun _ _ _ _ _ _ us hl => match us, hl with | [_], _ => rfl⟩,
    f_integer_in := ⟨_, _, fun_mk (st := s_integer_in) l_integer_in c_integer_in k_integer_in, PySem.W.mg_of X G a_integer_in, (fun_mk (st := s_integer_in) l_integer_in c_integer_in k_integer_in).binds (ps := ["word"]) fun _ _ _ _ _ _ us hl => match us, hl with | [_], _ => rfl⟩,
    f_integers_in := ⟨_, _, fun_mk (st := s_integers_in) l_integers_in c_integers_in k_integers_in, PySem.W.mg_of X G a_integers_in, (fun_mk (st := s_integers_in) l_integers_in c_integers_in k_integers_in).binds (ps := ["words"]) fun _ _ _ _ _ _ us hl => match us, hl with | [_], _ => rfl⟩,
    f_parts_of := ⟨_, _, fun_mk (st := s_parts_of) l_parts_of c_parts_of k_parts_of, PySem.W.mg_of X G a_parts_of, (fun_mk (st := s_parts_of) l_parts_of c_parts_of k_parts_of).binds (ps := ["expression"]) fun _ _ _ _ _ _ us hl => match us, hl with | [_], _ => rfl⟩,
    f_format_expression := ⟨_, _, fun_mk (st := s_format_expression) l_format_expression c_format_expression k_format_expression, PySem.W.mg_of X G a_format_expression, (fun_mk (st := s_format_expression) l_format_expression c_format_expression k_format_expression).binds (ps := ["expression"]) fun _ _ _ _ _ _ us hl => match us, hl with | [_], _ => rfl⟩,
    f_words_of := ⟨_, _, fun_mk (st := s_words_of) l_words_of c_words_of k_words_of, PySem.W.mg_of X G a_words_of, (fun_mk (st := s_words_of) l_words_of c_words_of k_words_of).binds (ps := ["expression"]) fun _ _ _ _ _ _ us hl => match us, hl with | [_], _ => rfl⟩,
    f_parse_expression := ⟨_, _, fun_mk (st := s_parse_expression) l_parse_expression c_parse_expression k_parse_expression, PySem.W.mg_of X G a_parse_expression, (fun_mk (st := s_parse_expression) l_parse_expression c_parse_expression k_parse_expression).binds (ps := ["text"]) fun _ _ _ _ _ _ us hl => match us, hl with | [_], _ => rfl⟩,
    f_word_at := ⟨_, _, fun_mk (st := s_word_at) l_word_at c_word_at k_word_at, PySem.W.mg_of X G a_word_at, (fun_mk (st := s_word_at) l_word_at c_word_at k_word_at).binds (ps := ["words", "at"]) fun _ _ _ _ _ _ us hl => match us, hl with | [_, _], _ => rfl⟩,
    f_expression_at := ⟨_, _, fun_mk (st := s_expression_at) l_expression_at c_expression_at k_expression_at, PySem.W.mg_of X G a_expression_at, (fun_mk (st := s_expression_at) l_expression_at c_expression_at k_expression_at).binds (ps := ["words", "at", "levels"]) fun _ _ _ _ _ _ us hl => match us, hl with | [_, _, _], _ => rfl⟩,
    f_composed_at := ⟨_, _, fun_mk (st := s_composed_at) l_composed_at c_composed_at k_composed_at, PySem.W.mg_of X G a_composed_at, (fun_mk (st := s_composed_at) l_composed_at c_composed_at k_composed_at).binds (ps := ["words", "at", "levels"]) fun _ _ _ _ _ _ us hl => match us, hl with | [_, _, _], _ => rfl⟩,
    f_parts_at := ⟨_, _, fun_mk (st := s_parts_at) l_parts_at c_parts_at k_parts_at, PySem.W.mg_of X G a_parts_at, (fun_mk (st := s_parts_at) l_parts_at c_parts_at k_parts_at).binds (ps := ["words", "at", "levels", "count"]) fun _ _ _ _ _ _ us hl => match us, hl with | [_, _, _, _], _ => rfl⟩,
    f_offsets_at := ⟨_, _, fun_mk (st := s_offsets_at) l_offsets_at c_offsets_at k_offsets_at, PySem.W.mg_of X G a_offsets_at, (fun_mk (st := s_offsets_at) l_offsets_at c_offsets_at k_offsets_at).binds (ps := ["words", "at"]) fun _ _ _ _ _ _ us hl => match us, hl with | [_, _], _ => rfl⟩,
    f__law_cell := ⟨_, _, fun_mk (st := s__law_cell) l__law_cell c__law_cell k__law_cell, PySem.W.mg_of X G a__law_cell, (fun_mk (st := s__law_cell) l__law_cell c__law_cell k__law_cell).binds (ps := ["script", "k"]) fun _ _ _ _ _ _ us hl => match us, hl with | [_, _], _ => rfl⟩,
    f__law_draws := ⟨_, _, fun_mk (st := s__law_draws) l__law_draws c__law_draws k__law_draws, PySem.W.mg_of X G a__law_draws, (fun_mk (st := s__law_draws) l__law_draws c__law_draws k__law_draws).binds (ps := ["cell", "count"]) fun _ _ _ _ _ _ us hl => match us, hl with | [_, _], _ => rfl⟩,
    f__law_is_text := ⟨_, _, fun_mk (st := s__law_is_text) l__law_is_text c__law_is_text k__law_is_text, PySem.W.mg_of X G a__law_is_text, (fun_mk (st := s__law_is_text) l__law_is_text c__law_is_text k__law_is_text).binds (ps := ["x", "due"]) fun _ _ _ _ _ _ us hl => match us, hl with | [_, _], _ => rfl⟩,
    f__law_stream := ⟨_, _, fun_mk (st := s__law_stream) l__law_stream c__law_stream k__law_stream, PySem.W.mg_of X G a__law_stream, (fun_mk (st := s__law_stream) l__law_stream c__law_stream k__law_stream).binds (ps := ["script", "count"]) fun _ _ _ _ _ _ us hl => match us, hl with | [_, _], _ => rfl⟩,
    f__law_letters := ⟨_, _, fun_mk (st := s__law_letters) l__law_letters c__law_letters k__law_letters, PySem.W.mg_of X G a__law_letters, (fun_mk (st := s__law_letters) l__law_letters c__law_letters k__law_letters).binds (ps := []) fun _ _ _ _ _ _ us hl => match us, hl with | [], _ => rfl⟩,
    f__law_is_name_due := ⟨_, _, fun_mk (st := s__law_is_name_due) l__law_is_name_due c__law_is_name_due k__law_is_name_due, PySem.W.mg_of X G a__law_is_name_due, (fun_mk (st := s__law_is_name_due) l__law_is_name_due c__law_is_name_due k__law_is_name_due).binds (ps := ["name"]) fun _ _ _ _ _ _ us hl => match us, hl with | [_], _ => rfl⟩,
    f__law_is_path_due := ⟨_, _, fun_mk (st := s__law_is_path_due) l__law_is_path_due c__law_is_path_due k__law_is_path_due, PySem.W.mg_of X G a__law_is_path_due, (fun_mk (st := s__law_is_path_due) l__law_is_path_due c__law_is_path_due k__law_is_path_due).binds (ps := ["path"]) fun _ _ _ _ _ _ us hl => match us, hl with | [_], _ => rfl⟩,
    f__law_expression := ⟨_, _, fun_mk (st := s__law_expression) l__law_expression c__law_expression k__law_expression, PySem.W.mg_of X G a__law_expression, (fun_mk (st := s__law_expression) l__law_expression c__law_expression k__law_expression).binds (ps := ["draws", "at", "deep", "dimensions"]) fun _ _ _ _ _ _ us hl => match us, hl with | [_, _, _, _], _ => rfl⟩,
    f__law_parts := ⟨_, _, fun_mk (st := s__law_parts) l__law_parts c__law_parts k__law_parts, PySem.W.mg_of X G a__law_parts, (fun_mk (st := s__law_parts) l__law_parts c__law_parts k__law_parts).binds (ps := ["expression"]) fun _ _ _ _ _ _ us hl => match us, hl with | [_], _ => rfl⟩,
    f__law_depth := ⟨_, _, fun_mk (st := s__law_depth) l__law_depth c__law_depth k__law_depth, PySem.W.mg_of X G a__law_depth, (fun_mk (st := s__law_depth) l__law_depth c__law_depth k__law_depth).binds (ps := ["expression"]) fun _ _ _ _ _ _ us hl => match us, hl with | [_], _ => rfl⟩,
    f__law_words := ⟨_, _, fun_mk (st := s__law_words) l__law_words c__law_words k__law_words, PySem.W.mg_of X G a__law_words, (fun_mk (st := s__law_words) l__law_words c__law_words k__law_words).binds (ps := ["expression"]) fun _ _ _ _ _ _ us hl => match us, hl with | [_], _ => rfl⟩,
    f__law_integer_word := ⟨_, _, fun_mk (st := s__law_integer_word) l__law_integer_word c__law_integer_word k__law_integer_word, PySem.W.mg_of X G a__law_integer_word, (fun_mk (st := s__law_integer_word) l__law_integer_word c__law_integer_word k__law_integer_word).binds (ps := ["word"]) fun _ _ _ _ _ _ us hl => match us, hl with | [_], _ => rfl⟩,
    f__law_parsed := ⟨_, _, fun_mk (st := s__law_parsed) l__law_parsed c__law_parsed k__law_parsed, PySem.W.mg_of X G a__law_parsed, (fun_mk (st := s__law_parsed) l__law_parsed c__law_parsed k__law_parsed).binds (ps := ["words"]) fun _ _ _ _ _ _ us hl => match us, hl with | [_], _ => rfl⟩,
    f__law_atom := ⟨_, _, fun_mk (st := s__law_atom) l__law_atom c__law_atom k__law_atom, PySem.W.mg_of X G a__law_atom, (fun_mk (st := s__law_atom) l__law_atom c__law_atom k__law_atom).binds (ps := ["item"]) fun _ _ _ _ _ _ us hl => match us, hl with | [_], _ => rfl⟩,
    f__law_grouped := ⟨_, _, fun_mk (st := s__law_grouped) l__law_grouped c__law_grouped k__law_grouped, PySem.W.mg_of X G a__law_grouped, (fun_mk (st := s__law_grouped) l__law_grouped c__law_grouped k__law_grouped).binds (ps := ["group"]) fun _ _ _ _ _ _ us hl => match us, hl with | [_], _ => rfl⟩,
    f_law := ⟨_, _, fun_mk (st := s_law) l_law c_law k_law, PySem.W.mg_of X G a_law, (fun_mk (st := s_law) l_law c_law k_law).binds (ps := ["script"]) fun _ _ _ _ _ _ us hl => match us, hl with | [_], _ => rfl⟩,
    errs := ⟨K_TesseraError, K_InvalidDump, K_InvalidExpression, K_BadWord, { c_TesseraError := ⟨PySem.W.mg_of X G ea_TesseraError, ⟨ega_TesseraError, egg_TesseraError, eex_TesseraError, ehd_TesseraError⟩, ⟨ega_TesseraError, egg_TesseraError, eex_TesseraError, ehd_TesseraError, eha_TesseraError, egn, egt, ehm_TesseraError⟩, ety_TesseraError⟩, c_InvalidDump := ⟨PySem.W.mg_of X G ea_InvalidDump, ⟨ega_InvalidDump, egg_InvalidDump, eex_InvalidDump, ehd_InvalidDump⟩, ⟨ega_InvalidDump, egg_InvalidDump, eex_InvalidDump, ehd_InvalidDump, eha_InvalidDump, egn, egt, ehm_InvalidDump⟩, ety_InvalidDump⟩, c_InvalidExpression := ⟨PySem.W.mg_of X G ea_InvalidExpression, ⟨ega_InvalidExpression, egg_InvalidExpression, eex_InvalidExpression, ehd_InvalidExpression⟩, ⟨ega_InvalidExpression, egg_InvalidExpression, eex_InvalidExpression, ehd_InvalidExpression, eha_InvalidExpression, egn, egt, ehm_InvalidExpression⟩, ety_InvalidExpression⟩, c_BadWord := ⟨PySem.W.mg_of X G ea_BadWord, ⟨ega_BadWord, egg_BadWord, eex_BadWord, ehd_BadWord⟩, ⟨ega_BadWord, egg_BadWord, eex_BadWord, ehd_BadWord, eha_BadWord, egn, egt, ehm_BadWord⟩, ety_BadWord⟩, p_InvalidExpression := ⟨epx_InvalidExpression, epk_InvalidExpression⟩, p_BadWord := ⟨epx_BadWord, epk_BadWord⟩, s_TesseraError_TesseraError := es_TesseraError_TesseraError, s_TesseraError_InvalidDump := es_TesseraError_InvalidDump, s_TesseraError_InvalidExpression := es_TesseraError_InvalidExpression, s_TesseraError_BadWord := es_TesseraError_BadWord, s_InvalidDump_TesseraError := es_InvalidDump_TesseraError, s_InvalidDump_InvalidDump := es_InvalidDump_InvalidDump, s_InvalidDump_InvalidExpression := es_InvalidDump_InvalidExpression, s_InvalidDump_BadWord := es_InvalidDump_BadWord, s_InvalidExpression_TesseraError := es_InvalidExpression_TesseraError, s_InvalidExpression_InvalidDump := es_InvalidExpression_InvalidDump, s_InvalidExpression_InvalidExpression := es_InvalidExpression_InvalidExpression, s_InvalidExpression_BadWord := es_InvalidExpression_BadWord, s_BadWord_TesseraError := es_BadWord_TesseraError, s_BadWord_InvalidDump := es_BadWord_InvalidDump, s_BadWord_InvalidExpression := es_BadWord_InvalidExpression, s_BadWord_BadWord := es_BadWord_BadWord }⟩,
    g_BEGIN := ⟨_, PySem.W.mg_of X G z_BEGIN⟩,
    g_BEYOND_TOLD := ⟨_, PySem.W.mg_of X G z_BEYOND_TOLD⟩,
    g_DEEPEST := ⟨_, PySem.W.mg_of X G z_DEEPEST⟩,
    g_END := ⟨_, PySem.W.mg_of X G z_END⟩,
    g_LONGEST_NAME := ⟨_, PySem.W.mg_of X G z_LONGEST_NAME⟩,
    g_MOST_DIGITS := ⟨_, PySem.W.mg_of X G z_MOST_DIGITS⟩,
    g_MOST_NAMES := ⟨_, PySem.W.mg_of X G z_MOST_NAMES⟩,
    g_NAME_CHARACTERS := ⟨_, PySem.W.mg_of X G z_NAME_CHARACTERS⟩,
    g_PART_COUNTS := ⟨_, PySem.W.mg_of X G z_PART_COUNTS, _, _, l_PART_COUNTS, d_PART_COUNTS, y_PART_COUNTS⟩,
    g_PATH_SIGN := ⟨_, PySem.W.mg_of X G z_PATH_SIGN⟩,
    g_SLASH := ⟨_, PySem.W.mg_of X G z_SLASH⟩,
    g_SPACE := ⟨_, PySem.W.mg_of X G z_SPACE⟩,
    b_abs := PySem.W.mg_none_of X G z_abs,
    b_all := PySem.W.mg_none_of X G z_all,
    b_int := PySem.W.mg_none_of X G z_int,
    b_isinstance := PySem.W.mg_none_of X G z_isinstance,
    b_len := PySem.W.mg_none_of X G z_len,
    b_list := PySem.W.mg_none_of X G z_list,
    b_max := PySem.W.mg_none_of X G z_max,
    b_range := PySem.W.mg_none_of X G z_range,
    b_str := PySem.W.mg_none_of X G z_str,
    b_tuple := PySem.W.mg_none_of X G z_tuple }
theorem law_mk {l : PySem.W.OpenLaw} {w : World} {K : PySem.W.Frag} {mg : Str → Option Value} {fa : Addr} {k : Nat} {sp : Sp} (hfa : mg "law" = some (.ref fa)) (T : Top w K mg)
    (F : ∀ (base : Heap) (f : Addr) (fd : FuncData), Fun K "law" "law" s_law f fd → FnOk l.prog w K mg base CX0 k f fd ["script"] sp) :
    ∃ fd : FuncData, (∀ (s : Shared) (v : Value), BindsTo s fd ⟨[v], []⟩ [("script", v)]) ∧ ∀ base : Heap, K.In base → base.Ns mainGlobals mg → FnOk l.prog w K mg base CX0 k fa fd ["script"] sp := by
  obtain ⟨f, fd, FF, hm, hb⟩ := T.f_law.ex
  have e : f = fa := by rw [hm] at hfa; exact Value.ref.inj (Option.some.inj hfa)
  subst e
  have FF2 := FF
  obtain ⟨oc, od, kV, doc, pm, an, cdv, ct, osl, rfl, lk, hcd⟩ := FF2.ex
  exact ⟨_, fun s v => .of_eq rfl, fun base _ _ => F base f _ FF⟩
def LawGoal (P : Program) : Prop := ∀ (w : World) (K : PySem.W.Frag) (mg : Str → Option Value), Top w K mg → ∀ (base : Heap) (f : Addr) (fd : FuncData), Fun K "law" "law" s_law f fd → FnOk P w K mg base CX0 46 f fd ["script"] (spLaw K)
section
open PySem.W
set_option maxHeartbeats 0 in
open_top top_ for PySem.Challenge.rw_tessera_k95_texts_of_expressions
set_option maxHeartbeats 0 in
theorem head_ok (GL : My.LawGoal PySem.Challenge.rw_tessera_k95_texts_of_expressions.prog) : PySem.Challenge.rw_tessera_k95_texts_of_expressions.Holds := by
  refine My.top_ ?_
  k_fill
  refine L2.walk_ofB (l := PySem.Challenge.rw_tessera_k95_texts_of_expressions) (n := 63) (k := 46) (x := "script") (CX := fun _ => L2.CX0) (sp := fun w => My.spLaw _) rfl (by decide) rfl ⟨rfl, by decide, by decide⟩ (fun w h Y => PySem.W.kIn_of Y) ?F (fun w H a ns hl hb _ hS => My.law_in hl hb hS) (fun _ _ _ _ _ h => h)
  case F =>
    intro w mg fa h KX G hmg
    refine' (fun T => My.law_mk (l := PySem.Challenge.rw_tessera_k95_texts_of_expressions) hmg T (fun base f fd F => GL _ _ _ T base f fd F)) ?T
    refine' My.top_mk KX G ?a_told ?l_told ?c_told ?k_told ?a_is_name ?l_is_name ?c_is_name ?k_is_name ?a_is_path ?l_is_path ?c_is_path ?k_is_path ?a_require ?l_require ?c_require ?k_require ?a_is_integer_word ?l_is_integer_word ?c_is_integer_word ?k_is_integer_word ?a_integer_in ?l_integer_in ?c_integer_in ?k_integer_in ?a_integers_in ?l_integers_in ?c_integers_in ?k_integers_in ?a_parts_of ?l_parts_of ?c_parts_of ?k_parts_of ?a_format_expression ?l_format_expression ?c_format_expression ?k_format_expression ?a_words_of ?l_words_of ?c_words_of ?k_words_of ?a_parse_expression ?l_parse_expression ?c_parse_expression ?k_parse_expression ?a_word_at ?l_word_at ?c_word_at ?k_word_at ?a_expression_at ?l_expression_at ?c_expression_at ?k_expression_at ?a_composed_at ?l_composed_at ?c_composed_at ?k_composed_at ?a_parts_at ?l_parts_at ?c_parts_at ?k_parts_at ?a_offsets_at ?l_offsets_at ?c_offsets_at ?k_offsets_at ?a__law_cell ?l__law_cell ?c__law_cell ?k__law_cell ?a__law_draws ?l__law_draws ?c__law_draws ?k__law_draws ?a__law_is_text ?l__law_is_text ?c__law_is_text ?k__law_is_text ?a__law_stream ?l__law_stream ?c__law_stream ?k__law_stream ?a__law_letters ?l__law_letters ?c__law_letters ?k__law_letters ?a__law_is_name_due ?l__law_is_name_due ?c__law_is_name_due ?k__law_is_name_due ?a__law_is_path_due ?l__law_is_path_due ?c__law_is_path_due ?k__law_is_path_due ?a__law_expression ?l__law_expression ?c__law_expression ?k__law_expression ?a__law_parts ?l__law_parts ?c__law_parts ?k__law_parts ?a__law_depth ?l__law_depth ?c__law_depth ?k__law_depth ?a__law_words ?l__law_words ?c__law_words ?k__law_words ?a__law_integer_word ?l__law_integer_word ?c__law_integer_word ?k__law_integer_word ?a__law_parsed ?l__law_parsed ?c__law_parsed ?k__law_parsed ?a__law_atom ?l__law_atom ?c__law_atom ?k__law_atom ?a__law_grouped ?l__law_grouped ?c__law_grouped ?k__law_grouped ?a_law ?l_law ?c_law ?k_law ?ea_TesseraError ?ega_TesseraError ?egg_TesseraError ?eex_TesseraError ?ehd_TesseraError ?eha_TesseraError ?ehm_TesseraError ?ety_TesseraError ?ea_InvalidDump ?ega_InvalidDump ?egg_InvalidDump ?eex_InvalidDump ?ehd_InvalidDump ?eha_InvalidDump ?ehm_InvalidDump ?ety_InvalidDump ?ea_InvalidExpression ?ega_InvalidExpression ?egg_InvalidExpression ?eex_InvalidExpression ?ehd_InvalidExpression ?eha_InvalidExpression ?ehm_InvalidExpression ?ety_InvalidExpression ?ea_BadWord ?ega_BadWord ?egg_BadWord ?eex_BadWord ?ehd_BadWord ?eha_BadWord ?ehm_BadWord ?ety_BadWord ?egn ?egt ?epx_InvalidExpression ?epk_InvalidExpression ?epx_BadWord ?epk_BadWord ?es_TesseraError_TesseraError ?es_TesseraError_InvalidDump ?es_TesseraError_InvalidExpression ?es_TesseraError_BadWord ?es_InvalidDump_TesseraError ?es_InvalidDump_InvalidDump ?es_InvalidDump_InvalidExpression ?es_InvalidDump_BadWord ?es_InvalidExpression_TesseraError ?es_InvalidExpression_InvalidDump ?es_InvalidExpression_InvalidExpression ?es_InvalidExpression_BadWord ?es_BadWord_TesseraError ?es_BadWord_InvalidDump ?es_BadWord_InvalidExpression ?es_BadWord_BadWord ?z_BEGIN ?z_BEYOND_TOLD ?z_DEEPEST ?z_END ?z_LONGEST_NAME ?z_MOST_DIGITS ?z_MOST_NAMES ?z_NAME_CHARACTERS ?z_PART_COUNTS ?l_PART_COUNTS ?d_PART_COUNTS ?y_PART_COUNTS ?z_PATH_SIGN ?z_SLASH ?z_SPACE ?z_abs ?z_all ?z_int ?z_isinstance ?z_len ?z_list ?z_max ?z_range ?z_str ?z_tuple
    (case a_told => k_is); (case l_told => k_is); (case c_told => k_is); (case k_told => k_is); (case a_is_name => k_is); (case l_is_name => k_is); (case c_is_name => k_is); (case k_is_name => k_is); (case a_is_path => k_is); (case l_is_path => k_is); (case c_is_path => k_is); (case k_is_path => k_is); (case a_require => k_is); (case l_require => k_is); (case c_require => k_is); (case k_require => k_is); (case a_is_integer_word => k_is); (case l_is_integer_word => k_is); (case c_is_integer_word => k_is); (case k_is_integer_word => k_is); (case a_integer_in => k_is); (case l_integer_in => k_is); (case c_integer_in => k_is); (case k_integer_in => k_is); (case a_integers_in => k_is); (case l_integers_in => k_is); (case c_integers_in => k_is); (case k_integers_in => k_is); (case a_parts_of => k_is); (case l_parts_of => k_is); (case c_parts_of => k_is); (case k_parts_of => k_is); (case a_format_expression => k_is); (case l_format_expression => k_is); (case c_format_expression => k_is); (case k_format_expression => k_is); (case a_words_of => k_is); (case l_words_of => k_is); (case c_words_of => k_is); (case k_words_of => k_is); (case a_parse_expression => k_is); (case l_parse_expression => k_is); (case c_parse_expression => k_is); (case k_parse_expression => k_is); (case a_word_at => k_is); (case l_word_at => k_is); (case c_word_at => k_is); (case k_word_at => k_is); (case a_expression_at => k_is); (case l_expression_at => k_is); (case c_expression_at => k_is); (case k_expression_at => k_is); (case a_composed_at => k_is); (case l_composed_at => k_is); (case c_composed_at => k_is); (case k_composed_at => k_is); (case a_parts_at => k_is); (case l_parts_at => k_is); (case c_parts_at => k_is); (case k_parts_at => k_is); (case a_offsets_at => k_is); (case l_offsets_at => k_is); (case c_offsets_at => k_is); (case k_offsets_at => k_is); (case a__law_cell => k_is); (case l__law_cell => k_is); (case c__law_cell => k_is); (case k__law_cell => k_is); (case a__law_draws => k_is); (case l__law_draws => k_is); (case c__law_draws => k_is); (case k__law_draws => k_is); (case a__law_is_text => k_is); (case l__law_is_text => k_is); (case c__law_is_text => k_is); (case k__law_is_text => k_is); (case a__law_stream => k_is); (case l__law_stream => k_is); (case c__law_stream => k_is); (case k__law_stream => k_is); (case a__law_letters => k_is); (case l__law_letters => k_is); (case c__law_letters => k_is); (case k__law_letters => k_is); (case a__law_is_name_due => k_is); (case l__law_is_name_due => k_is); (case c__law_is_name_due => k_is); (case k__law_is_name_due => k_is); (case a__law_is_path_due => k_is); (case l__law_is_path_due => k_is); (case c__law_is_path_due => k_is); (case k__law_is_path_due => k_is); (case a__law_expression => k_is); (case l__law_expression => k_is); (case c__law_expression => k_is); (case k__law_expression => k_is); (case a__law_parts => k_is); (case l__law_parts => k_is); (case c__law_parts => k_is); (case k__law_parts => k_is); (case a__law_depth => k_is); (case l__law_depth => k_is); (case c__law_depth => k_is); (case k__law_depth => k_is); (case a__law_words => k_is); (case l__law_words => k_is); (case c__law_words => k_is); (case k__law_words => k_is); (case a__law_integer_word => k_is); (case l__law_integer_word => k_is); (case c__law_integer_word => k_is); (case k__law_integer_word => k_is); (case a__law_parsed => k_is); (case l__law_parsed => k_is); (case c__law_parsed => k_is); (case k__law_parsed => k_is); (case a__law_atom => k_is); (case l__law_atom => k_is); (case c__law_atom => k_is); (case k__law_atom => k_is); (case a__law_grouped => k_is); (case l__law_grouped => k_is); (case c__law_grouped => k_is); (case k__law_grouped => k_is); (case a_law => k_is); (case l_law => k_is); (case c_law => k_is); (case k_law => k_is); (case ea_TesseraError => k_is); (case ega_TesseraError => k_is); (case egg_TesseraError => k_is); (case eex_TesseraError => k_is); (case ehd_TesseraError => k_is); (case eha_TesseraError => k_is); (case ehm_TesseraError => k_is); (case ety_TesseraError => k_is); (case ea_InvalidDump => k_is); (case ega_InvalidDump => k_is); (case egg_InvalidDump => k_is); (case eex_InvalidDump => k_is); (case ehd_InvalidDump => k_is); (case eha_InvalidDump => k_is); (case ehm_InvalidDump => k_is); (case ety_InvalidDump => k_is); (case ea_InvalidExpression => k_is); (case ega_InvalidExpression => k_is); (case egg_InvalidExpression => k_is); (case eex_InvalidExpression => k_is); (case ehd_InvalidExpression => k_is); (case eha_InvalidExpression => k_is); (case ehm_InvalidExpression => k_is); (case ety_InvalidExpression => k_is); (case ea_BadWord => k_is); (case ega_BadWord => k_is); (case egg_BadWord => k_is); (case eex_BadWord => k_is); (case ehd_BadWord => k_is); (case eha_BadWord => k_is); (case ehm_BadWord => k_is); (case ety_BadWord => k_is); (case egn => k_is); (case egt => k_is); (case epx_InvalidExpression => k_exc); (case epk_InvalidExpression => k_is); (case epx_BadWord => k_exc); (case epk_BadWord => k_is); (case es_TesseraError_TesseraError => k_is); (case es_TesseraError_InvalidDump => k_is); (case es_TesseraError_InvalidExpression => k_is); (case es_TesseraError_BadWord => k_is); (case es_InvalidDump_TesseraError => k_is); (case es_InvalidDump_InvalidDump => k_is); (case es_InvalidDump_InvalidExpression => k_is); (case es_InvalidDump_BadWord => k_is); (case es_InvalidExpression_TesseraError => k_is); (case es_InvalidExpression_InvalidDump => k_is); (case es_InvalidExpression_InvalidExpression => k_is); (case es_InvalidExpression_BadWord => k_is); (case es_BadWord_TesseraError => k_is); (case es_BadWord_InvalidDump => k_is); (case es_BadWord_InvalidExpression => k_is); (case es_BadWord_BadWord => k_is); (case z_BEGIN => k_is); (case z_BEYOND_TOLD => k_is); (case z_DEEPEST => k_is); (case z_END => k_is); (case z_LONGEST_NAME => k_is); (case z_MOST_DIGITS => k_is); (case z_MOST_NAMES => k_is); (case z_NAME_CHARACTERS => k_is); (case z_PART_COUNTS => k_is); (case l_PART_COUNTS => k_is); (case d_PART_COUNTS => exact ⟨⟨_, _, rfl⟩, ⟨_, _, rfl⟩, ⟨_, _, rfl⟩, ⟨_, _, rfl⟩, ⟨_, _, rfl⟩, ⟨_, _, rfl⟩, ⟨_, _, rfl⟩, trivial⟩); (case y_PART_COUNTS => rfl); (case z_PATH_SIGN => k_is); (case z_SLASH => k_is); (case z_SPACE => k_is); (case z_abs => k_is); (case z_all => k_is); (case z_int => k_is); (case z_isinstance => k_is); (case z_len => k_is); (case z_list => k_is); (case z_max => k_is); (case z_range => k_is); (case z_str => k_is); (case z_tuple => k_is)
end

section
/-! ### expressions and their words -/
abbrev Wd5 := List Nat
inductive Ex where
  | num (n : Int)
  | path (p : Wd5)
  | two (nm : Wd5) (a b : Ex)
  | pick (a b c : Ex)
  | shift (a : Ex) (os : List Int)
deriving DecidableEq
def wB : Wd5 := [40]
def wE : Wd5 := [41]
def wShift : Wd5 := [115, 104, 105, 102, 116]
def wPick : Wd5 := [112, 105, 99, 107]
def TWO : List Wd5 := [[97, 100, 100], [115, 117, 98], [109, 117, 108], [109, 105, 110], [109, 97, 120], [108, 101, 115, 115]]
/-- what the two parsers ask of words: whole numbers, paths -/
structure Wds where
  iw : Wd5 → Bool
  inV : Wd5 → Option Int
  dec : Int → Wd5
  sm : Int → Prop
  pt : Wd5 → Bool
  inI : ∀ w n, inV w = some n ↔ w = dec n ∧ sm n
  iwI : ∀ n, iw (dec n) = true
  iwE : iw wE = false
  decB : ∀ n, dec n ≠ wB
  decE : ∀ n, dec n ≠ wE
  decA : ∀ n t, dec n ≠ 64 :: t
variable (S : Wds)
def Ex.words : Ex → List Wd5
  | .num n => [S.dec n]
  | .path p => [64 :: p]
  | .two nm a b => wB :: nm :: (a.words ++ (b.words ++ [wE]))
  | .pick a b c => wB :: wPick :: (a.words ++ (b.words ++ (c.words ++ [wE])))
  | .shift a os => wB :: wShift :: (a.words ++ (os.map S.dec ++ [wE]))
def Ex.Ok : Ex → Prop
  | .num n => S.sm n
  | .path p => S.pt p = true
  | .two nm a b => nm ∈ TWO ∧ a.Ok ∧ b.Ok
  | .pick a b c => a.Ok ∧ b.Ok ∧ c.Ok
  | .shift a os => a.Ok ∧ ∀ o ∈ os, S.sm o
def Ex.dep : Ex → Nat
  | .num _ => 1
  | .path _ => 1
  | .two _ a b => 1 + max a.dep b.dep
  | .pick a b c => 1 + max a.dep (max b.dep c.dep)
  | .shift a _ => 1 + a.dep
/-- count parts, one behind the other -/
def pN (f : List Wd5 → Option (Ex × List Wd5)) : Nat → List Wd5 → Option (List Ex × List Wd5)
  | 0, ws => some ([], ws)
  | n + 1, ws => (f ws).bind fun p => (pN f n p.2).map fun q => (p.1 :: q.1, q.2)
/-- the numbers of a shift, as many as stand there -/
def pO (ws : List Wd5) : Option (List Int × List Wd5) := ((ws.takeWhile S.iw).mapM S.inV).map fun os => (os, ws.dropWhile S.iw)
def cnt (nm : Wd5) : Option Nat := if nm = wShift then some 1 else if nm ∈ TWO then some 2 else if nm = wPick then some 3 else none
def mkE (nm : Wd5) (os : List Int) : List Ex → Option Ex
  | [a] => if nm = wShift then some (.shift a os) else none
  | [a, b] => if nm ∈ TWO then some (.two nm a b) else none
  | [a, b, c] => if nm = wPick then some (.pick a b c) else none
  | _ => none
def pEnd (e : Option Ex) : List Wd5 → Option (Ex × List Wd5)
  | [] => none
  | w :: ws => if w = wE then e.map fun e => (e, ws) else none
def pC (f : List Wd5 → Option (Ex × List Wd5)) : List Wd5 → Option (Ex × List Wd5)
  | [] => none
  | nm :: ws => (cnt nm).bind fun n => (pN f n ws).bind fun p => if nm = wShift then (pO S p.2).bind fun q => pEnd (mkE nm q.1 p.1) q.2 else pEnd (mkE nm [] p.1) p.2
def pE : Nat → List Wd5 → Option (Ex × List Wd5)
  | 0, _ => none
  | _ + 1, [] => none
  | L + 1, w :: ws => if w = wB then pC S (pE L) ws else match w with
    | 64 :: p => if S.pt p then some (.path p, ws) else none
    | _ => (S.inV w).map fun n => (.num n, ws)
theorem pEnd_cons (o : Option Ex) (w : Wd5) (ws : List Wd5) : pEnd o (w :: ws) = if w = wE then o.map fun e => (e, ws) else none := rfl
theorem pC_cons (f : List Wd5 → Option (Ex × List Wd5)) (nm : Wd5) (ws : List Wd5) : pC S f (nm :: ws) = (cnt nm).bind fun n => (pN f n ws).bind fun p => if nm = wShift then (pO S p.2).bind fun q => pEnd (mkE nm q.1 p.1) q.2 else pEnd (mkE nm [] p.1) p.2 := rfl
theorem pE_cons (L : Nat) (w : Wd5) (ws : List Wd5) : pE S (L + 1) (w :: ws) = if w = wB then pC S (pE S L) ws else match w with
    | 64 :: p => if S.pt p then some (.path p, ws) else none
    | _ => (S.inV w).map fun n => (.num n, ws) := rfl
theorem pEnd_iff {o : Option Ex} {ws r : List Wd5} {e : Ex} : pEnd o ws = some (e, r) ↔ o = some e ∧ ws = wE :: r := by
  cases ws with
  | nil => simp [pEnd]
  | cons w ws =>
    rw [pEnd_cons]
    by_cases h : w = wE
    · rw [if_pos h]
      cases o with
      | none => simp
      | some x => simp [h]
    · rw [if_neg h]
      simp [h]
theorem take_dec (os : List Int) (r : List Wd5) : (os.map S.dec ++ wE :: r).takeWhile S.iw = os.map S.dec ∧ (os.map S.dec ++ wE :: r).dropWhile S.iw = wE :: r := by
  induction os with
  | nil => simp [S.iwE]
  | cons o os ih => simp [S.iwI, ih.1, ih.2]
theorem mapM_iff : ∀ (ws : List Wd5) (os : List Int), ws.mapM S.inV = some os ↔ ws = os.map S.dec ∧ ∀ o ∈ os, S.sm o
  | [], os => by cases os <;> simp
  | w :: ws, os => by
    rw [List.mapM_cons]
    cases h : S.inV w with
    | none =>
      constructor
      · intro h2; cases h2
      · rintro ⟨h2, h3⟩
        cases os with
        | nil => cases h2
        | cons o os =>
          rw [List.map_cons] at h2
          injection h2 with h4 h5
          rw [(S.inI w o).mpr ⟨h4, h3 o List.mem_cons_self⟩] at h
          cases h
    | some n =>
      have hn := (S.inI w n).mp h
      constructor
      · intro h2
        cases h3 : ws.mapM S.inV with
        | none => simp [h3] at h2
        | some ns =>
          have h4 := (mapM_iff ws ns).mp h3
          simp [h3] at h2
          subst h2
          refine ⟨by rw [List.map_cons, ← hn.1, ← h4.1], fun o ho => ?_⟩
          rcases List.mem_cons.mp ho with rfl | ho
          · exact hn.2
          · exact h4.2 o ho
      · rintro ⟨h2, h3⟩
        cases os with
        | nil => cases h2
        | cons o os =>
          rw [List.map_cons] at h2
          injection h2 with h4 h5
          have e : n = o := by
            have h6 := (S.inI w o).mpr ⟨h4, h3 o List.mem_cons_self⟩
            rw [h] at h6
            exact Option.some.inj h6
          have h7 := (mapM_iff ws os).mpr ⟨h5, fun x hx => h3 x (List.mem_cons_of_mem _ hx)⟩
          simp [h7, e]
theorem pO_iff {ws r : List Wd5} {os : List Int} : pO S ws = some (os, wE :: r) ↔ (∀ o ∈ os, S.sm o) ∧ ws = os.map S.dec ++ wE :: r := by
  unfold pO
  constructor
  · intro h
    cases h2 : (ws.takeWhile S.iw).mapM S.inV with
    | none => rw [h2] at h; cases h
    | some ns =>
      rw [h2] at h
      have h3 := (mapM_iff S _ _).mp h2
      have h4 : ns = os ∧ ws.dropWhile S.iw = wE :: r := by simpa using h
      refine ⟨fun o ho => h3.2 o (by rw [h4.1]; exact ho), ?_⟩
      rw [← h4.1, ← h3.1, ← h4.2, List.takeWhile_append_dropWhile]
  · rintro ⟨h, rfl⟩
    obtain ⟨h1, h2⟩ := take_dec S os r
    rw [h1, h2, (mapM_iff S _ os).mpr ⟨rfl, h⟩]
    rfl
theorem two_ne {nm : Wd5} (h : nm ∈ TWO) : nm ≠ wShift ∧ nm ≠ wPick := by
  revert nm; decide
theorem cnt_two {nm : Wd5} (h : nm ∈ TWO) : cnt nm = some 2 := by
  unfold cnt
  rw [if_neg (two_ne h).1, if_pos h]
/-- the program's parser, in the words of the grammar -/
theorem pE_iff : ∀ (L : Nat) (ws r : List Wd5) (e : Ex), pE S L ws = some (e, r) ↔ e.Ok S ∧ e.dep ≤ L ∧ ws = e.words S ++ r
  | 0, ws, r, e => by
    unfold pE
    constructor
    · intro h; cases h
    · rintro ⟨_, h, _⟩
      cases e <;> simp [Ex.dep] at h
  | L + 1, [], r, e => by
    unfold pE
    constructor
    · intro h; cases h
    · rintro ⟨_, _, h⟩
      cases e <;> simp [Ex.words] at h
  | L + 1, w :: ws, r, e => by
    have ih := pE_iff L
    rw [pE_cons]
    by_cases hw : w = wB
    · rw [if_pos hw]
      subst hw
      constructor
      · intro h
        cases ws with
        | nil => cases h
        | cons nm ws =>
          rw [pC_cons] at h
          by_cases h1 : nm = wShift
          · subst h1
            rw [show cnt wShift = some 1 from rfl, Option.bind_some] at h
            unfold pN at h
            cases h2 : pE S L ws with
            | none => rw [h2] at h; cases h
            | some p =>
              obtain ⟨a, r1⟩ := p
              rw [h2] at h
              have h3 := (ih _ _ _).mp h2
              have h : (pO S r1).bind (fun q => pEnd (mkE wShift q.1 [a]) q.2) = some (e, r) := by simpa [pN] using h
              cases h4 : pO S r1 with
              | none => rw [h4] at h; cases h
              | some q =>
                rw [h4] at h
                have h5 := pEnd_iff.mp h
                obtain ⟨os, r2⟩ := q
                have h6 : r2 = wE :: r := h5.2
                subst h6
                have h7 := (pO_iff S).mp h4
                have h8 : e = .shift a os := by
                  have := h5.1
                  simp [mkE] at this
                  exact this.symm
                subst h8
                refine ⟨⟨h3.1, h7.1⟩, by simp only [Ex.dep]; omega, ?_⟩
                rw [h3.2.2, h7.2]
                simp [Ex.words]
          by_cases h2 : nm ∈ TWO
          · rw [cnt_two h2, Option.bind_some] at h
            simp only [if_neg h1] at h
            cases h3 : pE S L ws with
            | none => simp [pN, h3] at h
            | some p =>
              obtain ⟨a, r1⟩ := p
              cases h4 : pE S L r1 with
              | none => simp [pN, h3, h4] at h
              | some p2 =>
                obtain ⟨b, r2⟩ := p2
                have h5 := (ih _ _ _).mp h3
                have h6 := (ih _ _ _).mp h4
                have h : pEnd (mkE nm [] [a, b]) r2 = some (e, r) := by simpa [pN, h3, h4] using h
                have h7 := pEnd_iff.mp h
                have h8 : e = .two nm a b := by
                  have := h7.1
                  simp [mkE, h2] at this
                  exact this.symm
                subst h8
                refine ⟨⟨h2, h5.1, h6.1⟩, by simp only [Ex.dep]; omega, ?_⟩
                rw [h5.2.2, h6.2.2, h7.2]
                simp [Ex.words]
          by_cases h9 : nm = wPick
          · subst h9
            rw [show cnt wPick = some 3 from rfl, Option.bind_some] at h
            simp only [if_neg h1] at h
            cases h3 : pE S L ws with
            | none => simp [pN, h3] at h
            | some p =>
              obtain ⟨a, r1⟩ := p
              cases h4 : pE S L r1 with
              | none => simp [pN, h3, h4] at h
              | some p2 =>
                obtain ⟨b, r2⟩ := p2
                cases h5 : pE S L r2 with
                | none => simp [pN, h3, h4, h5] at h
                | some p3 =>
                  obtain ⟨c, r3⟩ := p3
                  have g5 := (ih _ _ _).mp h3
                  have g6 := (ih _ _ _).mp h4
                  have g7 := (ih _ _ _).mp h5
                  have h : pEnd (mkE wPick [] [a, b, c]) r3 = some (e, r) := by simpa [pN, h3, h4, h5] using h
                  have h7 := pEnd_iff.mp h
                  have h8 : e = .pick a b c := by
                    have := h7.1
                    simp [mkE] at this
                    exact this.symm
                  subst h8
                  refine ⟨⟨g5.1, g6.1, g7.1⟩, by simp only [Ex.dep]; omega, ?_⟩
                  rw [g5.2.2, g6.2.2, g7.2.2, h7.2]
                  simp [Ex.words]
          · have : cnt nm = none := by unfold cnt; rw [if_neg h1, if_neg h2, if_neg h9]
            rw [this] at h
            cases h
      · rintro ⟨h1, h2, h3⟩
        cases e with
        | num n =>
          simp [Ex.words] at h3
          exact absurd h3.1.symm (S.decB n)
        | path p =>
          simp [Ex.words, wB] at h3
        | two nm a b =>
          simp only [Ex.dep] at h2
          have h3 : ws = nm :: (a.words S ++ (b.words S ++ wE :: r)) := by simpa [Ex.words] using h3
          subst h3
          have ha := (ih _ (b.words S ++ wE :: r) a).mpr ⟨h1.2.1, by omega, rfl⟩
          have hb := (ih _ (wE :: r) b).mpr ⟨h1.2.2, by omega, rfl⟩
          rw [pC_cons]
          rw [cnt_two h1.1, Option.bind_some]
          simp [pN, ha, hb, if_neg (two_ne h1.1).1, mkE, h1.1, pEnd]
        | pick a b c =>
          simp only [Ex.dep] at h2
          have h3 : ws = wPick :: (a.words S ++ (b.words S ++ (c.words S ++ wE :: r))) := by simpa [Ex.words] using h3
          subst h3
          have ha := (ih _ (b.words S ++ (c.words S ++ wE :: r)) a).mpr ⟨h1.1, by omega, rfl⟩
          have hb := (ih _ (c.words S ++ wE :: r) b).mpr ⟨h1.2.1, by omega, rfl⟩
          have hc := (ih _ (wE :: r) c).mpr ⟨h1.2.2, by omega, rfl⟩
          rw [pC_cons]
          rw [show cnt wPick = some 3 from rfl, Option.bind_some]
          simp [pN, ha, hb, hc, show wPick ≠ wShift by decide, mkE, pEnd]
        | shift a os =>
          simp only [Ex.dep] at h2
          have h3 : ws = wShift :: (a.words S ++ (os.map S.dec ++ wE :: r)) := by simpa [Ex.words] using h3
          subst h3
          have ha := (ih _ (os.map S.dec ++ wE :: r) a).mpr ⟨h1.1, by omega, rfl⟩
          have ho := (pO_iff S).mpr ⟨h1.2, (rfl : os.map S.dec ++ wE :: r = _)⟩
          rw [pC_cons]
          rw [show cnt wShift = some 1 from rfl, Option.bind_some]
          simp [pN, ha, ho, mkE, pEnd]
    · rw [if_neg hw]
      constructor
      · intro h
        split at h
        · split at h
          · cases h
            rename_i p hp
            exact ⟨hp, by simp [Ex.dep], rfl⟩
          · cases h
        · cases h1 : S.inV w with
          | none => rw [h1] at h; cases h
          | some n =>
            rw [h1] at h
            cases h
            have h2 := (S.inI w n).mp h1
            exact ⟨h2.2, by simp [Ex.dep], by rw [h2.1]; rfl⟩
      · rintro ⟨h1, h2, h3⟩
        cases e with
        | num n =>
          have h4 : w = S.dec n ∧ ws = r := by simpa [Ex.words] using h3
          obtain ⟨rfl, rfl⟩ := h4
          have h5 := (S.inI (S.dec n) n).mpr ⟨rfl, h1⟩
          split
          · rename_i p hp
            exact absurd hp (S.decA n p)
          · rw [h5]; rfl
        | path p =>
          have h4 : w = 64 :: p ∧ ws = r := by simpa [Ex.words] using h3
          obtain ⟨rfl, rfl⟩ := h4
          have h1 : S.pt p = true := h1
          simp [h1]
        | two nm a b => exact absurd (by simpa [Ex.words] using (List.cons.inj h3).1) hw
        | pick a b c => exact absurd (by simpa [Ex.words] using (List.cons.inj h3).1) hw
        | shift a os => exact absurd (by simpa [Ex.words] using (List.cons.inj h3).1) hw
/-! ### the law's parser -/
inductive It where
  | wd (w : Wd5)
  | ex (e : Ex)
deriving DecidableEq
def It.flat : It → List Wd5
  | .wd w => [w]
  | .ex e => e.words S
def It.Ok : It → Prop
  | .wd _ => True
  | .ex e => e.Ok S
def atomI : It → Option Ex
  | .ex e => some e
  | .wd w => match w with
    | 64 :: p => if S.pt p then some (.path p) else none
    | _ => (S.inV w).map .num
def isT : It → Bool
  | .ex _ => true
  | .wd (64 :: _) => true
  | .wd _ => false
def numOf : Ex → Int
  | .num n => n
  | _ => 0
def grp : List It → Option Ex
  | .wd nm :: items => (items.mapM (atomI S)).bind fun parts => if nm = wShift then match parts with
    | [] => none
    | a :: ps => if (items.drop 1).any isT then none else some (.shift a (ps.map numOf))
    else mkE nm [] parts
  | _ => none
def popB : List It → List It → Option (List It × List It)
  | [], _ => none
  | x :: st, g => if x = .wd wB then some (g, st) else popB st (x :: g)
def stepP (st : List It) (w : Wd5) : Option (List It) :=
  if w = wB then some (.wd wB :: st) else if w = wE then (popB st []).bind fun p => (grp S p.1).map fun e => .ex e :: p.2 else some (.wd w :: st)
def runP : List Wd5 → List It → Option (List It)
  | [], st => some st
  | w :: ws, st => (stepP S st w).bind (runP ws)
def lawP (ws : List Wd5) : Option Ex := (runP S ws []).bind fun st => match st with
  | [x] => if x = .wd wB then none else atomI S x
  | _ => none
theorem atom_sound {x : It} {e : Ex} (hx : x.Ok S) (h : atomI S x = some e) : e.Ok S ∧ x.flat S = e.words S := by
  cases x with
  | ex e' => cases h; exact ⟨hx, rfl⟩
  | wd w =>
    unfold atomI at h
    dsimp only at h
    split at h
    · split at h
      · cases h
        rename_i p hp
        exact ⟨hp, rfl⟩
      · cases h
    · cases h1 : S.inV w with
      | none => rw [h1] at h; cases h
      | some n =>
        rw [h1] at h
        cases h
        have h2 := (S.inI w n).mp h1
        exact ⟨h2.2, by rw [h2.1]; rfl⟩
theorem atoms_sound : ∀ (xs : List It) (es : List Ex), (∀ x ∈ xs, x.Ok S) → xs.mapM (atomI S) = some es → (∀ e ∈ es, e.Ok S) ∧ xs.flatMap (It.flat S) = es.flatMap (Ex.words S) ∧ xs.length = es.length
  | [], es, _, h => by simp at h; subst h; simp
  | x :: xs, es, hx, h => by
    rw [List.mapM_cons] at h
    cases h1 : atomI S x with
    | none => rw [h1] at h; cases h
    | some e =>
      cases h2 : xs.mapM (atomI S) with
      | none => simp [h1, h2] at h
      | some es' =>
        have h3 : e :: es' = es := by simpa [h1, h2] using h
        subst h3
        have h4 := atom_sound S (hx x List.mem_cons_self) h1
        have h5 := atoms_sound xs es' (fun y hy => hx y (List.mem_cons_of_mem _ hy)) h2
        refine ⟨fun y hy => ?_, by rw [List.flatMap_cons, List.flatMap_cons, h4.2, h5.2.1], by simp [h5.2.2]⟩
        rcases List.mem_cons.mp hy with rfl | hy
        · exact h4.1
        · exact h5.1 y hy
theorem nums_sound : ∀ (xs : List It) (es : List Ex), xs.any isT = false → xs.mapM (atomI S) = some es → (∀ o ∈ es.map numOf, S.sm o) ∧ xs.flatMap (It.flat S) = (es.map numOf).map S.dec
  | [], es, _, h => by simp at h; subst h; simp
  | x :: xs, es, ht, h => by
    rw [List.any_cons, Bool.or_eq_false_iff] at ht
    rw [List.mapM_cons] at h
    cases h1 : atomI S x with
    | none => rw [h1] at h; cases h
    | some e =>
      cases h2 : xs.mapM (atomI S) with
      | none => simp [h1, h2] at h
      | some es' =>
        have h3 : e :: es' = es := by simpa [h1, h2] using h
        subst h3
        have h5 := nums_sound xs es' ht.2 h2
        have h4 : ∃ n, e = .num n ∧ S.sm n ∧ x = .wd (S.dec n) := by
          cases x with
          | ex e' => cases ht.1
          | wd w =>
            unfold atomI at h1
            dsimp only at h1
            split at h1
            · cases ht.1
            · cases h6 : S.inV w with
              | none => rw [h6] at h1; cases h1
              | some n =>
                rw [h6] at h1
                cases h1
                have h7 := (S.inI w n).mp h6
                exact ⟨n, rfl, h7.2, by rw [h7.1]⟩
        obtain ⟨n, rfl, hn, rfl⟩ := h4
        refine ⟨fun o ho => ?_, ?_⟩
        · rw [List.map_cons] at ho
          rcases List.mem_cons.mp ho with rfl | ho
          · exact hn
          · exact h5.1 o ho
        · rw [List.flatMap_cons, h5.2]; rfl
theorem mkE_len {nm : Wd5} {os : List Int} {es : List Ex} {e : Ex} (h1 : nm ≠ wShift) (h : mkE nm os es = some e) (hok : ∀ x ∈ es, x.Ok S) : e.Ok S ∧ e.words S = wB :: nm :: (es.flatMap (Ex.words S) ++ [wE]) := by
  match es, h with
  | [], h => cases h
  | [a], h => simp [mkE, h1] at h
  | [a, b], h =>
    by_cases h2 : nm ∈ TWO
    · have h : e = .two nm a b := by simpa [mkE, h2] using h.symm
      subst h
      exact ⟨⟨h2, hok a (by simp), hok b (by simp)⟩, by simp [Ex.words]⟩
    · simp [mkE, h2] at h
  | [a, b, c], h =>
    by_cases h2 : nm = wPick
    · subst h2
      have h : e = .pick a b c := by simpa [mkE] using h.symm
      subst h
      exact ⟨⟨hok a (by simp), hok b (by simp), hok c (by simp)⟩, by simp [Ex.words]⟩
    · simp [mkE, h2] at h
  | _ :: _ :: _ :: _ :: _, h => cases h
theorem grp_sound {g : List It} {e : Ex} (hg : ∀ x ∈ g, x.Ok S) (h : grp S g = some e) : e.Ok S ∧ e.words S = wB :: (g.flatMap (It.flat S) ++ [wE]) := by
  match g, h with
  | [], h => cases h
  | .ex _ :: _, h => cases h
  | .wd nm :: items, h =>
    unfold grp at h
    dsimp only at h
    cases h1 : items.mapM (atomI S) with
    | none => rw [h1] at h; cases h
    | some parts =>
      rw [h1, Option.bind_some] at h
      have hi : ∀ x ∈ items, x.Ok S := fun x hx => hg x (List.mem_cons_of_mem _ hx)
      have h2 := atoms_sound S items parts hi h1
      by_cases h3 : nm = wShift
      · rw [if_pos h3] at h
        subst h3
        cases parts with
        | nil => cases h
        | cons a ps =>
          cases items with
          | nil => simp at h1
          | cons i is =>
            dsimp only at h
            rw [List.drop_succ_cons, List.drop_zero] at h
            cases ht : is.any isT with
            | true => rw [ht] at h; cases h
            | false =>
              rw [ht] at h
              have h : Ex.shift a (ps.map numOf) = e := by simpa using h
              subst h
              rw [List.mapM_cons] at h1
              cases h4 : atomI S i with
              | none => rw [h4] at h1; cases h1
              | some a' =>
                cases h5 : is.mapM (atomI S) with
                | none => simp [h4, h5] at h1
                | some ps' =>
                  have h6 : a' = a ∧ ps' = ps := by simpa [h4, h5] using h1
                  obtain ⟨rfl, rfl⟩ := h6
                  have h7 := atom_sound S (hi i List.mem_cons_self) h4
                  have h8 := nums_sound S is ps' ht h5
                  refine ⟨⟨h7.1, h8.1⟩, ?_⟩
                  rw [List.flatMap_cons, List.flatMap_cons, h7.2, h8.2]
                  simp [Ex.words, It.flat]
      · rw [if_neg h3] at h
        have h4 := mkE_len S h3 h h2.1
        refine ⟨h4.1, ?_⟩
        rw [h4.2, List.flatMap_cons, h2.2.1]
        simp [It.flat]
theorem popB_sound : ∀ (st g g' st' : List It), popB st g = some (g', st') → ∃ xs, st = xs ++ .wd wB :: st' ∧ g' = xs.reverse ++ g
  | [], g, g', st', h => by cases h
  | x :: st, g, g', st', h => by
    unfold popB at h
    by_cases h1 : x = .wd wB
    · rw [if_pos h1] at h
      cases h
      exact ⟨[], by rw [h1]; rfl, rfl⟩
    · rw [if_neg h1] at h
      obtain ⟨xs, h2, h3⟩ := popB_sound st (x :: g) g' st' h
      exact ⟨x :: xs, by rw [h2]; rfl, by rw [h3]; simp⟩
theorem popB_all : ∀ (xs st g : List It), (∀ x ∈ xs, x ≠ .wd wB) → popB (xs ++ .wd wB :: st) g = some (xs.reverse ++ g, st)
  | [], st, g, _ => by simp [popB]
  | x :: xs, st, g, h => by
    show (if x = .wd wB then some (g, xs ++ .wd wB :: st) else popB (xs ++ .wd wB :: st) (x :: g)) = _
    rw [if_neg (h x List.mem_cons_self), popB_all xs st (x :: g) fun y hy => h y (List.mem_cons_of_mem _ hy)]
    simp
theorem step_sound {st st' : List It} {w : Wd5} (hst : ∀ x ∈ st, x.Ok S) (h : stepP S st w = some st') : (∀ x ∈ st', x.Ok S) ∧ st'.reverse.flatMap (It.flat S) = st.reverse.flatMap (It.flat S) ++ [w] := by
  unfold stepP at h
  have push : ∀ w', (∀ x ∈ It.wd w' :: st, x.Ok S) := fun w' x hx => by
    rcases List.mem_cons.mp hx with rfl | hx
    · trivial
    · exact hst x hx
  by_cases h1 : w = wB
  · rw [if_pos h1] at h
    cases h
    refine ⟨push wB, ?_⟩
    rw [List.reverse_cons, List.flatMap_append, h1]
    simp [It.flat]
  rw [if_neg h1] at h
  by_cases h2 : w = wE
  · rw [if_pos h2] at h
    cases h3 : popB st [] with
    | none => rw [h3] at h; cases h
    | some p =>
      obtain ⟨g, st2⟩ := p
      rw [h3] at h
      cases h4 : grp S g with
      | none => simp [h4] at h
      | some e =>
        have h5 : It.ex e :: st2 = st' := by simpa [h4] using h
        subst h5
        obtain ⟨xs, h6, h7⟩ := popB_sound _ _ _ _ h3
        have hg : ∀ x ∈ g, x.Ok S := fun x hx => hst x (by
          rw [h7, List.append_nil] at hx
          rw [h6]
          exact List.mem_append_left _ (List.mem_reverse.mp hx))
        have h8 := grp_sound S hg h4
        refine ⟨fun x hx => ?_, ?_⟩
        · rcases List.mem_cons.mp hx with rfl | hx
          · exact h8.1
          · exact hst x (by rw [h6]; exact List.mem_append_right _ (List.mem_cons_of_mem _ hx))
        · rw [h6, h2]
          rw [List.append_nil] at h7
          rw [List.reverse_cons, List.flatMap_append, List.reverse_append, List.reverse_cons, List.flatMap_append, List.flatMap_append, ← h7]
          simp [It.flat, h8.2]
  · rw [if_neg h2] at h
    cases h
    refine ⟨push w, ?_⟩
    rw [List.reverse_cons, List.flatMap_append]
    simp [It.flat]
theorem run_sound : ∀ (ws : List Wd5) (st st' : List It), (∀ x ∈ st, x.Ok S) → runP S ws st = some st' → (∀ x ∈ st', x.Ok S) ∧ st'.reverse.flatMap (It.flat S) = st.reverse.flatMap (It.flat S) ++ ws
  | [], st, st', hst, h => by cases h; exact ⟨hst, by simp⟩
  | w :: ws, st, st', hst, h => by
    unfold runP at h
    cases h1 : stepP S st w with
    | none => rw [h1] at h; cases h
    | some st1 =>
      rw [h1] at h
      have h2 := step_sound S hst h1
      have h3 := run_sound ws st1 st' h2.1 h
      refine ⟨h3.1, ?_⟩
      rw [h3.2, h2.2]
      simp
def itemOf : Ex → It
  | .num n => .wd (S.dec n)
  | .path p => .wd (64 :: p)
  | e => .ex e
theorem item_ne (e : Ex) : itemOf S e ≠ .wd wB := by
  cases e with
  | num n => intro h; exact S.decB n (It.wd.inj h)
  | path p => intro h; exact absurd (It.wd.inj h) (by simp [wB])
  | two nm a b => intro h; cases h
  | pick a b c => intro h; cases h
  | shift a os => intro h; cases h
theorem atom_num {n : Int} (h : S.sm n) : atomI S (.wd (S.dec n)) = some (.num n) := by
  have h5 := (S.inI (S.dec n) n).mpr ⟨rfl, h⟩
  unfold atomI
  dsimp only
  split
  · rename_i p hp
    exact absurd hp (S.decA n p)
  · rw [h5]; rfl
theorem atom_item {e : Ex} (h : e.Ok S) : atomI S (itemOf S e) = some e := by
  cases e with
  | num n => exact atom_num S h
  | path p =>
    have h : S.pt p = true := h
    show (if S.pt p then some (Ex.path p) else none) = _
    rw [if_pos h]
  | two nm a b => rfl
  | pick a b c => rfl
  | shift a os => rfl
theorem atoms_num : ∀ (os : List Int), (∀ o ∈ os, S.sm o) → (os.map fun o => It.wd (S.dec o)).mapM (atomI S) = some (os.map .num)
  | [], _ => rfl
  | o :: os, h => by
    rw [List.map_cons, List.mapM_cons, atom_num S (h o List.mem_cons_self), atoms_num os fun x hx => h x (List.mem_cons_of_mem _ hx)]
    rfl
theorem notT (n : Int) : isT (.wd (S.dec n)) = false := by
  unfold isT
  split
  · rename_i h; cases h
  · rename_i p hp
    exact absurd (It.wd.inj hp) (S.decA n p)
  · rfl
theorem run_app : ∀ (ws ws' : List Wd5) (st : List It), runP S (ws ++ ws') st = (runP S ws st).bind (runP S ws')
  | [], ws', st => rfl
  | w :: ws, ws', st => by
    rw [List.cons_append]
    unfold runP
    cases h : stepP S st w with
    | none => rfl
    | some st1 => exact run_app ws ws' st1
theorem step_wd {w : Wd5} (st : List It) (h1 : w ≠ wB) (h2 : w ≠ wE) : stepP S st w = some (.wd w :: st) := by
  unfold stepP
  rw [if_neg h1, if_neg h2]
theorem step_end {xs st : List It} {e : Ex} (h : ∀ x ∈ xs, x ≠ .wd wB) (hg : grp S xs.reverse = some e) : stepP S (xs ++ .wd wB :: st) wE = some (.ex e :: st) := by
  unfold stepP
  rw [if_neg (by decide), if_pos rfl, popB_all xs st [] h, Option.bind_some, List.append_nil, hg]
  rfl
theorem run_nums : ∀ (os : List Int) (st : List It), runP S (os.map S.dec) st = some ((os.map fun o => It.wd (S.dec o)).reverse ++ st)
  | [], st => rfl
  | o :: os, st => by
    rw [List.map_cons]
    unfold runP
    rw [step_wd S st (S.decB o) (S.decE o), Option.bind_some, run_nums os]
    simp
theorem two_be {nm : Wd5} (h : nm ∈ TWO) : nm ≠ wB ∧ nm ≠ wE := by
  revert nm; decide
theorem run_words : ∀ (e : Ex) (st : List It), e.Ok S → runP S (e.words S) st = some (itemOf S e :: st)
  | .num n, st, h => by
    show (stepP S st (S.dec n)).bind _ = _
    rw [step_wd S st (S.decB n) (S.decE n)]
    rfl
  | .path p, st, h => by
    show (stepP S st (64 :: p)).bind _ = _
    rw [step_wd S st (by simp [wB]) (by simp [wE])]
    rfl
  | .two nm a b, st, h => by
    show (stepP S st wB).bind (fun s => (stepP S s nm).bind (runP S (a.words S ++ (b.words S ++ [wE])))) = _
    rw [show stepP S st wB = some (.wd wB :: st) from rfl, Option.bind_some, step_wd S _ (two_be h.1).1 (two_be h.1).2, Option.bind_some, run_app, run_words a _ h.2.1, Option.bind_some, run_app, run_words b _ h.2.2, Option.bind_some]
    show (stepP S ([itemOf S b, itemOf S a, .wd nm] ++ .wd wB :: st) wE).bind _ = _
    rw [step_end S (e := .two nm a b) ?_ ?_]
    · rfl
    · intro x hx
      simp only [List.mem_cons, List.not_mem_nil, or_false] at hx
      rcases hx with rfl | rfl | rfl
      · exact item_ne S b
      · exact item_ne S a
      · intro h2; exact (two_be h.1).1 (It.wd.inj h2)
    · show grp S [.wd nm, itemOf S a, itemOf S b] = _
      simp [grp, List.mapM_cons, atom_item S h.2.1, atom_item S h.2.2, if_neg (two_ne h.1).1, mkE, h.1]
  | .pick a b c, st, h => by
    show (stepP S st wB).bind (fun s => (stepP S s wPick).bind (runP S (a.words S ++ (b.words S ++ (c.words S ++ [wE]))))) = _
    rw [show stepP S st wB = some (.wd wB :: st) from rfl, Option.bind_some, step_wd S _ (by decide) (by decide), Option.bind_some, run_app, run_words a _ h.1, Option.bind_some, run_app, run_words b _ h.2.1, Option.bind_some, run_app, run_words c _ h.2.2, Option.bind_some]
    show (stepP S ([itemOf S c, itemOf S b, itemOf S a, .wd wPick] ++ .wd wB :: st) wE).bind _ = _
    rw [step_end S (e := .pick a b c) ?_ ?_]
    · rfl
    · intro x hx
      simp only [List.mem_cons, List.not_mem_nil, or_false] at hx
      rcases hx with rfl | rfl | rfl | rfl
      · exact item_ne S c
      · exact item_ne S b
      · exact item_ne S a
      · intro h2; exact absurd (It.wd.inj h2) (by decide)
    · show grp S [.wd wPick, itemOf S a, itemOf S b, itemOf S c] = _
      simp [grp, List.mapM_cons, atom_item S h.1, atom_item S h.2.1, atom_item S h.2.2, show wPick ≠ wShift by decide, mkE]
  | .shift a os, st, h => by
    show (stepP S st wB).bind (fun s => (stepP S s wShift).bind (runP S (a.words S ++ (os.map S.dec ++ [wE])))) = _
    rw [show stepP S st wB = some (.wd wB :: st) from rfl, Option.bind_some, step_wd S _ (by decide) (by decide), Option.bind_some, run_app, run_words a _ h.1, Option.bind_some, run_app, run_nums S os, Option.bind_some]
    show (stepP S ((os.map fun o => It.wd (S.dec o)).reverse ++ (itemOf S a :: .wd wShift :: .wd wB :: st)) wE).bind _ = _
    rw [show (os.map fun o => It.wd (S.dec o)).reverse ++ (itemOf S a :: .wd wShift :: .wd wB :: st) = ((os.map fun o => It.wd (S.dec o)).reverse ++ [itemOf S a, .wd wShift]) ++ .wd wB :: st by simp, step_end S (e := .shift a os) ?_ ?_]
    · rfl
    · intro x hx
      rcases List.mem_append.mp hx with hx | hx
      · obtain ⟨o, _, rfl⟩ := List.mem_map.mp (List.mem_reverse.mp hx)
        intro h2
        exact S.decB o (It.wd.inj h2)
      · simp only [List.mem_cons, List.not_mem_nil, or_false] at hx
        rcases hx with rfl | rfl
        · exact item_ne S a
        · intro h2; exact absurd (It.wd.inj h2) (by decide)
    · rw [List.reverse_append, List.reverse_reverse]
      show grp S (.wd wShift :: itemOf S a :: os.map fun o => It.wd (S.dec o)) = _
      have hn : (os.map fun o => It.wd (S.dec o)).any isT = false := by
        rw [List.any_eq_false]
        intro x hx
        obtain ⟨o, _, rfl⟩ := List.mem_map.mp hx
        rw [notT S o]
        decide
      unfold grp
      dsimp only
      rw [List.mapM_cons, atom_item S h.1, atoms_num S os h.2]
      simp only [List.drop_succ_cons, List.drop_zero]
      show (if wShift = wShift then (if (os.map fun o => It.wd (S.dec o)).any isT then none else some (Ex.shift a ((os.map Ex.num).map numOf))) else mkE wShift [] (a :: os.map Ex.num)) = _
      rw [if_pos rfl, hn, List.map_map]
      simp [Function.comp_def, numOf]
/-- the law's parser, in the words of the grammar -/
theorem lawP_iff (ws : List Wd5) (e : Ex) : lawP S ws = some e ↔ e.Ok S ∧ ws = e.words S := by
  unfold lawP
  constructor
  · intro h
    cases h1 : runP S ws [] with
    | none => rw [h1] at h; cases h
    | some st =>
      rw [h1, Option.bind_some] at h
      have h2 := run_sound S ws [] st (fun x hx => by cases hx) h1
      match st, h, h2 with
      | [], h, _ => cases h
      | [x], h, h2 =>
        dsimp only at h
        split at h
        · cases h
        · have h3 := atom_sound S (h2.1 x List.mem_cons_self) h
          refine ⟨h3.1, ?_⟩
          have h4 := h2.2
          simp at h4
          rw [← h4, h3.2]
      | _ :: _ :: _, h, _ => cases h
  · rintro ⟨h, rfl⟩
    rw [run_words S e [] h, Option.bind_some]
    dsimp only
    rw [if_neg (item_ne S e), atom_item S h]
/-- both parsers say the same -/
theorem both (L : Nat) (ws : List Wd5) (e : Ex) : pE S L ws = some (e, []) ↔ lawP S ws = some e ∧ e.dep ≤ L := by
  rw [pE_iff, lawP_iff, List.append_nil]
  exact ⟨fun h => ⟨⟨h.1, h.2.2⟩, h.2.1⟩, fun h => ⟨h.1.1, h.2, h.1.2⟩⟩
end

/-! ### whole numbers as words -/
section
open PySem
def dN (m : Nat) : Wd5 := (Nat.toDigits 10 m).map Char.toNat
def dec5 (n : Int) : Wd5 := if n < 0 then 45 :: dN n.natAbs else dN n.natAbs
def digs : Wd5 → Wd5
  | 45 :: t => t
  | w => w
def dgB (cs : List Nat) : Bool := cs.all fun c => decide (48 ≤ c ∧ c ≤ 57)
def iw5 (w : Wd5) : Bool := match digs w with
  | [] => false
  | c :: t => if c = 48 then decide (w = [48]) else dgB (c :: t)
def inV5 (w : Wd5) : Option Int := if iw5 w = true ∧ (digs w).length ≤ 30 then intText? ⟨w.toArray⟩ else none
def sm5 (n : Int) : Prop := n.natAbs < 10 ^ 30
theorem dgB_iff {cs : List Nat} : dgB cs = true ↔ NumText.AllDigits cs := by
  unfold dgB NumText.AllDigits
  rw [List.all_eq_true]
  exact ⟨fun h c hc => of_decide_eq_true (h c hc), fun h c hc => decide_eq_true (h c hc)⟩
theorem dN_all (m : Nat) : NumText.AllDigits (dN m) := by
  intro c hc
  obtain ⟨ch, h1, rfl⟩ := List.mem_map.mp hc
  have h2 := Nat.isDigit_of_mem_toDigits (by decide) (by decide) h1
  unfold Char.isDigit at h2
  simp only [Bool.and_eq_true, decide_eq_true_eq] at h2
  have h3 : (48 : UInt32).toNat ≤ ch.val.toNat := h2.1
  have h4 : ch.val.toNat ≤ (57 : UInt32).toNat := h2.2
  exact ⟨h3, h4⟩
theorem dN_back (m : Nat) : NumText.digitsVal (dN m) = m := W.KIN.val_back m
theorem dN_len (m : Nat) : 1 ≤ (dN m).length := by unfold dN; rw [List.length_map]; exact toDigits_len_ge 10 m
theorem dN_inj {a b : Nat} (h : dN a = dN b) : a = b := by rw [← dN_back a, ← dN_back b, h]
theorem toNat_ofNat {cs : List Nat} (h : NumText.AllDigits cs) : (cs.map Char.ofNat).map Char.toNat = cs := by
  rw [List.map_map]
  conv => rhs; rw [← List.map_id cs]
  refine List.map_congr_left fun c hc => ?_
  have h1 := h c hc
  have h2 : ∀ c : Nat, c < 58 → (Char.ofNat c).toNat = c := by decide
  exact h2 c (by omega)
theorem dN_val {c : Nat} {t : List Nat} (h : NumText.AllDigits (c :: t)) (h0 : c ≠ 48) : dN (NumText.digitsVal (c :: t)) = c :: t := by
  unfold dN
  rw [NumText.toDigits_digitsVal t.length (c :: t) rfl h (.inr ⟨c, t, rfl, by have := h c List.mem_cons_self; omega⟩), toNat_ofNat h]
theorem dN_head {m c : Nat} {t : List Nat} (h : dN m = c :: t) (hm : m ≠ 0) : c ≠ 48 := by
  rintro rfl
  have h1 := NumText.toDigits_all _ (dN_all m)
  rw [dN_back, h] at h1
  have e : (48 :: t).dropWhile (fun x => x == 48) = t.dropWhile fun x => x == 48 := by simp
  rw [e] at h1
  have hl : (t.dropWhile fun x => x == 48).length ≤ t.length := (List.dropWhile_sublist _).length_le
  have h2 : dN m = (Nat.toDigits 10 m).map Char.toNat := rfl
  cases h3 : t.dropWhile fun x => x == 48 with
  | nil =>
    rw [h3] at h1
    have h1 : Nat.toDigits 10 m = ['0'] := h1
    have h4 : dN m = dN 0 := by rw [h2, h1]; rfl
    exact hm (dN_inj h4)
  | cons x r =>
    rw [h3] at h1 hl
    have h1 : Nat.toDigits 10 m = (x :: r).map Char.ofNat := h1
    have h5 := congrArg List.length h
    rw [h2, List.length_map, h1, List.length_map] at h5
    simp only [List.length_cons] at h5 hl
    omega
theorem dN_ne45 {m : Nat} {t : List Nat} : dN m ≠ 45 :: t := fun h => by
  have := dN_all m 45 (by rw [h]; exact List.mem_cons_self)
  omega
theorem digs_dN (m : Nat) : digs (dN m) = dN m := by
  unfold digs
  split
  · rename_i t h; exact absurd h dN_ne45
  · rfl
theorem iw_dN {m : Nat} (pre : Wd5) (hp : digs pre = dN m) (h : m ≠ 0 ∨ pre = [48]) : iw5 pre = true := by
  unfold iw5
  rw [hp]
  cases h1 : dN m with
  | nil => have := dN_len m; rw [h1] at this; simp at this
  | cons c t =>
    dsimp only
    rcases h with h | rfl
    · rw [if_neg (dN_head h1 h), ← h1]
      exact dgB_iff.mpr (dN_all m)
    · split
      · rfl
      · rw [← h1]; exact dgB_iff.mpr (dN_all m)
theorem iw_dec (n : Int) : iw5 (dec5 n) = true := by
  unfold dec5
  by_cases h : n < 0
  · rw [if_pos h]
    exact iw_dN (m := n.natAbs) _ rfl (.inl (by omega))
  · rw [if_neg h]
    by_cases h0 : n = 0
    · subst h0; decide
    · exact iw_dN (m := n.natAbs) _ (digs_dN _) (.inl (by omega))
theorem sm_len {m : Nat} : m < 10 ^ 30 ↔ (dN m).length ≤ 30 := by
  unfold dN
  rw [List.length_map]
  constructor
  · exact PyProof.Rows.digits10_le (by decide)
  · intro h
    refine Nat.lt_of_not_le fun h2 => ?_
    have := PyProof.Rows.digits10_ge h2
    omega
theorem digs_dec (n : Int) : digs (dec5 n) = dN n.natAbs := by
  unfold dec5
  by_cases h : n < 0
  · rw [if_pos h]; rfl
  · rw [if_neg h]; exact digs_dN _
theorem int_dec {n : Int} (h : sm5 n) : intText? ⟨(dec5 n).toArray⟩ = some n := by
  have hl := sm_len.mp h
  have h1 := dN_len n.natAbs
  have hne : dN n.natAbs ≠ [] := fun e => by rw [e] at h1; simp at h1
  unfold dec5
  by_cases h2 : n < 0
  · rw [if_pos h2, intText_neg (cs := dN n.natAbs) rfl (dN_all _) hne (by show (45 :: dN n.natAbs).toArray.size ≤ 4300; simp; omega), dN_back]
    congr 1
    omega
  · rw [if_neg h2, intText_digits (dN_all _) hne (by show (dN n.natAbs).toArray.size ≤ 4300; simp; omega)]
    show some ((NumText.digitsVal (dN n.natAbs) : Nat) : Int) = _
    rw [dN_back]
    congr 1
    omega
theorem inI5 (w : Wd5) (n : Int) : inV5 w = some n ↔ w = dec5 n ∧ sm5 n := by
  constructor
  · intro h
    unfold inV5 at h
    split at h
    · rename_i h1
      obtain ⟨h1, h2⟩ := h1
      unfold iw5 at h1
      cases h3 : digs w with
      | nil => rw [h3] at h1; cases h1
      | cons c t =>
        rw [h3] at h1 h2
        dsimp only at h1
        by_cases h4 : c = 48
        · rw [if_pos h4] at h1
          have h5 := of_decide_eq_true h1
          subst h5
          have h6 : intText? ⟨([48] : List Nat).toArray⟩ = some 0 := int_dec (n := 0) (show (0 : Int).natAbs < 10 ^ 30 by decide)
          rw [h6] at h
          cases h
          exact ⟨by decide, show (0 : Int).natAbs < 10 ^ 30 by decide⟩
        · rw [if_neg h4] at h1
          have h5 := dgB_iff.mp h1
          have h6 := dN_val h5 h4
          have h7 : NumText.digitsVal (c :: t) ≠ 0 := fun e => by
            rw [e] at h6
            have : dN 0 = [48] := by decide
            rw [this] at h6
            exact h4 (List.cons.inj h6).1.symm
          have h8 : NumText.digitsVal (c :: t) < 10 ^ 30 := sm_len.mpr (by rw [h6]; exact h2)
          unfold digs at h3
          split at h3
          · rename_i t2
            subst h3
            rw [intText_neg (cs := c :: t) rfl h5 (by simp) (by show (45 :: c :: t).toArray.size ≤ 4300; simp at h2 ⊢; omega)] at h
            cases h
            refine ⟨?_, ?_⟩
            · unfold dec5
              rw [if_pos (by omega), Int.natAbs_neg, Int.natAbs_natCast, h6]
            · unfold sm5
              rw [Int.natAbs_neg, Int.natAbs_natCast]
              exact h8
          · subst h3
            rw [intText_digits (x := ⟨(c :: t).toArray⟩) h5 (by simp) (by show (c :: t).toArray.size ≤ 4300; simp at h2 ⊢; omega)] at h
            cases h
            refine ⟨?_, ?_⟩
            · unfold dec5
              rw [if_neg (by omega), Int.natAbs_natCast]
              exact h6.symm
            · unfold sm5
              rw [Int.natAbs_natCast]
              exact h8
    · cases h
  · rintro ⟨rfl, h⟩
    unfold inV5
    rw [if_pos ⟨iw_dec n, by rw [digs_dec]; exact sm_len.mp h⟩]
    exact int_dec h
theorem dec_mem (n : Int) : ∀ c ∈ dec5 n, c = 45 ∨ (48 ≤ c ∧ c ≤ 57) := fun c hc => by
  unfold dec5 at hc
  by_cases h : n < 0
  · rw [if_pos h] at hc
    rcases List.mem_cons.mp hc with rfl | hc
    · exact .inl rfl
    · exact .inr (dN_all _ c hc)
  · rw [if_neg h] at hc
    exact .inr (dN_all _ c hc)
def wds5 (pt : Wd5 → Bool) : Wds where
  iw := iw5
  inV := inV5
  dec := dec5
  sm := sm5
  pt := pt
  inI := inI5
  iwI := iw_dec
  iwE := by decide
  decB := fun n h => by have := dec_mem n 40 (by rw [h]; decide); omega
  decE := fun n h => by have := dec_mem n 41 (by rw [h]; decide); omega
  decA := fun n t h => by have := dec_mem n 64 (by rw [h]; exact List.mem_cons_self); omega
theorem dig_asc : ∀ c : Nat, c < 128 → Unicode.isDigit c = decide (48 ≤ c ∧ c ≤ 57) := by decide +kernel
end

section
variable {P : Program} {w : World} {K : PySem.W.Frag} {mg : Str → Option Value} {base : Heap}
def sp_letters : Sp := fun vs H Q _ => vs = [] ∧ Q (.str LTS) H
theorem d_letters (T : Top w K mg) : Def P w K mg base CX0 1 "_law_letters" [] sp_letters := by
  refine T.f__law_letters.ok sc__law_letters (by rintro vs H Q E ⟨rfl, _⟩; rfl) (fun f cdv A outer s H vs Q E hr h => ?_)
  obtain ⟨rfl, q⟩ := h
  refine ⟨_, (pss_one (ps_ret pe_str)), ?_⟩
  walk_at "rd"
  exact q
end

def nmB (cs : List Nat) : Bool := decide (1 ≤ cs.length ∧ cs.length ≤ 12) && cs.all (fun c => decide (c ∈ LTS.cps.toList))
def ptsB (x : Str) : Bool := decide ((Txt.split x (tx [47])).length ≤ 6) && (Txt.split x (tx [47])).all (fun p => nmB p.cps.toList)
def ptB (cs : List Nat) : Bool := if cs = [] then true else ptsB (tx cs)
def liesB (a b : List Nat) : Bool := if b = [] then !decide (a = []) else decide (a.take (b.length + 1) = b ++ [47])
theorem tx_sl : PySem.Str.ofString "/" = tx [47] := by decide
section
variable {P : Program} {w : World} {K : PySem.W.Frag} {mg : Str → Option Value} {base : Heap}
def sp_is_name : Sp := fun vs H Q _ => ∃ (cs : List Nat), vs = [.str (tx cs)] ∧ cs.length ≤ 1000 ∧ RetV H Q (.bl (nmB cs))
theorem d_is_name (T : Top w K mg) : Def P w K mg base CX0 1 "is_name" ["name"] sp_is_name := by
  obtain ⟨t1, g_LONGEST_NAME⟩ := T.g_LONGEST_NAME
  obtain ⟨t2, g_NAME_CHARACTERS⟩ := T.g_NAME_CHARACTERS
  refine T.f_is_name.ok sc_is_name (by rintro vs H Q E ⟨cs, rfl, _⟩; rfl) (fun f cdv A outer s H vs Q E hr h => ?_)
  obtain ⟨cs, rfl, hl, q⟩ := h
  refine ⟨_, (pss_cons (ps_if (pt_not (pt_chain op_le op_le pe_int (pe_callB (r := rLenStr) call_len_str (by rfl) T.b_len (by decide +kernel) (pa_cons (pv 0) pa_nil)) (pe_glob (v := .int 12) rfl g_LONGEST_NAME ⟨_, rfl⟩))) (pss_one (ps_ret pe_bl)) pss_nil)
      (pss_one (ps_ret (pe_callB (r := rAll K) (cr_all rfl) (by rfl) T.b_all (by decide +kernel) (pa_cons (pe_lc (own := [("character", 1)]) (g := (gName 1)) (tt := tYes) rfl sc_is_name.nd (pi_str (pv 0)) (blkOk_by (N := N_is_name) (sc := defScope s_is_name) (by decide +kernel)) (fun _ _ _ _ _ => (pg_name (i := 1) sc_is_name.nd rfl (Or.inl rfl))) (fun _ _ _ _ _ => pts_nil) (fun _ _ _ _ _ => (pe_cmpR op_in_sign (pv 1) (pe_glob (v := .str (PySem.Str.ofString "abcdefghijklmnopqrstuvwxyz0123456789")) rfl g_NAME_CHARACTERS ⟨_, rfl⟩) rfl))) pa_nil))))), ?_⟩
  walk_at "rd"
  refine r_lenS (by rw [tx_len]; omega) ?_
  rw [tx_len]
  walk_at "rd"
  unfold nmB at q
  by_cases h1 : 1 ≤ cs.length
  · refine rif_yes (by omega) ?_
    walk_at "rd"
    by_cases h2 : cs.length ≤ 12
    · refine rif_nyes (by omega) ?_
      rw [decide_eq_true ⟨h1, h2⟩, Bool.true_and] at q
      walk_at "rd"
      refine r_iS ?_
      walk_at "rd"
      refine lcS (fun c => .bl (decide (c ∈ LTS.cps.toList))) (Own.nil H) (by omega) (fun x => rfl) ?_ fun p1 H1 s1 o1 => ?_
      · intro c p zs H' Q' hc o' q'
        walk_at "rd"
        exact ⟨c, _, rfl, rfl, q'.here⟩
      rw [show (cs.map fun c => V.bl (decide (c ∈ LTS.cps.toList))) = (cs.map fun c => decide (c ∈ LTS.cps.toList)).map V.bl by rw [List.map_map]; rfl] at o1
      walk_at "rd"
      refine r_all (o1.sqL 0 rfl) ?_
      rw [List.all_map]
      exact q _ o1.ex
    · refine rif_nno (by omega) ?_
      rw [decide_eq_false (fun h => h2 h.2), Bool.false_and] at q
      walk_at "rd"
      exact q.here
  · refine rif_no (by omega) ?_
    rw [decide_eq_false (fun h => h1 h.1), Bool.false_and] at q
    walk_at "rd"
    exact q.here
def sp_is_path : Sp := fun vs H Q _ => ∃ (cs : List Nat), vs = [.str (tx cs)] ∧ cs.length ≤ 1000 ∧ RetV H Q (.bl (ptB cs))
theorem d_is_path (T : Top w K mg) : Def P w K mg base CX0 2 "is_path" ["path"] sp_is_path := by
  obtain ⟨t1, g_MOST_NAMES⟩ := T.g_MOST_NAMES
  obtain ⟨t2, g_SLASH⟩ := T.g_SLASH
  have G_is_name : Def P w K mg base CX0 1 "is_name" ["name"] sp_is_name := d_is_name T
  refine T.f_is_path.ok sc_is_path (by rintro vs H Q E ⟨cs, rfl, _⟩; rfl) (fun f cdv A outer s H vs Q E hr h => ?_)
  obtain ⟨cs, rfl, hl, q⟩ := h
  refine ⟨_, (pss_cons (ps_if (pt_cmpR op_eq (pv 0) pe_str (nomark _)) (pss_one (ps_ret pe_bl)) pss_nil)
      (pss_cons (ps_set (i := 1) sc_is_path.nd rfl (Or.inl rfl) (pe_split (pv 0) (pe_glob (v := .str (PySem.Str.ofString "/")) rfl g_SLASH ⟨_, rfl⟩)))
      (pss_one (ps_ret (pe_and (pe_cmpR op_le (pe_callB (r := Evl.rLenS K) call_len_seq (by rfl) T.b_len (by decide +kernel) (pa_cons (pv 1) pa_nil)) (pe_glob (v := .int 6) rfl g_MOST_NAMES ⟨_, rfl⟩) (nomark _)) (pe_one (pe_callB (r := rAll K) (cr_all rfl) (by rfl) T.b_all (by decide +kernel) (pa_cons (pe_lc (own := [("name", 2)]) (g := (gName 2)) (tt := tYes) rfl sc_is_path.nd (pi_list (pv 1)) (blkOk_by (N := N_is_path) (sc := defScope s_is_path) (by decide +kernel)) (fun _ _ _ _ _ => (pg_name (i := 2) sc_is_path.nd rfl (Or.inl rfl))) (fun _ _ _ _ _ => pts_nil) (fun _ _ _ _ _ => (pe_callD G_is_name (hr.mono (by decide)) (pa_cons (pv 2) pa_nil)))) pa_nil)))))))), ?_⟩
  walk_at "rd"
  rw [tx_nil, dec_tx]
  by_cases hc : cs = []
  · refine rif_yes hc ?_
    walk_at "rd"
    unfold ptB at q
    rw [if_pos hc] at q
    exact q.here
  · refine rif_no hc ?_
    walk_at "rd"
    unfold ptB ptsB at q
    rw [if_neg hc] at q
    rw [tx_sl]
    refine r_joinE ?_
    walk_at "rd"
    refine ⟨⟨_, rfl⟩, ?_⟩
    walk_at "rd"
    have hpl := split_len (tx cs)
    have hpm : ∀ p ∈ Txt.split (tx cs) (tx [47]), p.length ≤ cs.length := fun p hp => by have := split_mem hp; rw [tx_len] at this; exact this
    rw [tx_len] at hpl
    refine ⟨_, _, rfl, rfl, rfl, sz100 (by rw [tx_len]; omega), fun p1 hp1 => ?_⟩
    have o1 := (Own.nil H).new (u := .lst ((Txt.split (tx cs) (tx [47])).map V.str)) hp1
    generalize Txt.split (tx cs) (tx [47]) = ps at q hpl hpm o1 ⊢
    generalize upd H p1 (.lst (ps.map V.str)) = H1 at o1 ⊢
    walk_at "rd"
    rw [List.length_map]
    by_cases h6 : ps.length ≤ 6
    · refine rif_yes (by omega) ?_
      rw [decide_eq_true h6, Bool.true_and] at q
      walk_at "rd"
      refine lcLV (fun v => match v with | .str s => .bl (nmB s.cps.toList) | v => v) o1 (fun H' p zs o' => o'.sqL 1 rfl) (o1.sqL 0 rfl) (by rw [List.length_map]; omega) (fun x => rfl) ?_ fun p2 H2 s2 o2 => ?_
      · intro i x p zs H' Q' hx o' s' q'
        obtain ⟨y, hy, rfl⟩ : ∃ y, y ∈ ps ∧ V.str y = x := List.mem_map.mp (List.mem_of_getElem? hx)
        have q' : RetV H' Q' (.bl (nmB y.cps.toList)) := q'
        walk_at "rd"
        have hyl := hpm y hy
        exact ⟨y.cps.toList, by rw [tx_of]; rfl, by show y.cps.size ≤ _; have : y.length = y.cps.size := rfl; omega, q'⟩
      rw [show ((ps.map V.str).map fun v => match v with | .str s => V.bl (nmB s.cps.toList) | v => v) = (ps.map fun p => nmB p.cps.toList).map V.bl by rw [List.map_map, List.map_map]; rfl] at o2
      walk_at "rd"
      refine r_all (o2.sqL 0 rfl) ?_
      rw [List.all_map]
      exact q _ o2.ex
    · refine rif_no (by omega) ?_
      rw [decide_eq_false h6, Bool.false_and] at q
      exact q _ o1.ex
end

/-! ### the program's words -/
theorem isd_tx {w : Wd5} (h : ∀ c ∈ w, c < 128) : Txt.isdigit (tx w) = (decide (0 < w.length) && dgB w) := by
  unfold Txt.isdigit
  rw [tx_len]
  congr 1
  unfold dgB
  show w.toArray.all PySem.Unicode.isDigit = _
  rw [List.all_toArray]
  rw [Bool.eq_iff_iff, List.all_eq_true, List.all_eq_true]
  exact ⟨fun h1 c hc => by rw [← dig_asc c (h c hc)]; exact h1 c hc, fun h1 c hc => by rw [dig_asc c (h c hc)]; exact h1 c hc⟩
def dropK (k : Nat) : Wd5 → Wd5
  | [] => []
  | c :: t => if c = k then t else c :: t
theorem digs_drop (w : Wd5) : digs w = dropK 45 w := by
  unfold digs
  split
  · rfl
  · rename_i h
    cases w with
    | nil => rfl
    | cons c t =>
      show c :: t = if c = 45 then t else c :: t
      rw [if_neg]
      rintro rfl
      exact h t rfl
theorem rp_tx (k : Nat) (w : Wd5) : Txt.removeprefix (tx w) (tx [k]) = tx (dropK k w) := by
  unfold Txt.removeprefix
  have e : PySem.Builtin.Str.subAt (tx w) (tx [k]) 0 = decide (w.take 1 = [k]) := by
    unfold PySem.Builtin.Str.subAt
    rw [tx_len, Nat.zero_add]
    rw [Bool.eq_iff_iff, beq_iff_eq, decide_eq_true_eq]
    constructor
    · intro h
      have h2 := congrArg Array.toList h
      rw [Array.toList_extract] at h2
      have h3 : ((w.drop 0).take ([k].length - 0)) = [k] := h2
      exact h3
    · intro h
      apply Array.ext'
      rw [Array.toList_extract]
      show ((w.drop 0).take ([k].length - 0)) = [k]
      exact h
  rw [e]
  cases w with
  | nil => rfl
  | cons c t =>
    show Txt.affix (tx (c :: t)) (if decide ([c] = [k]) = true then some ((tx [k]).length, (tx (c :: t)).length) else none) = tx (if c = k then t else c :: t)
    by_cases h : c = k
    · subst h
      rw [if_pos (decide_eq_true rfl), if_pos rfl, tx_len, tx_len]
      show (if (t.length + 1 - 1 == (tx (c :: t)).length) = true then tx (c :: t) else PySem.Builtin.Str.strSub (tx (c :: t)) 1 (t.length + 1)) = tx t
      rw [tx_len, if_neg (by rw [beq_iff_eq, List.length_cons]; omega)]
      show (⟨(tx (c :: t)).cps.extract 1 (t.length + 1)⟩ : Str) = tx t
      congr 1
      apply Array.ext'
      rw [Array.toList_extract]
      show (((c :: t).drop 1).take (t.length + 1 - 1)) = t
      rw [List.drop_succ_cons, List.drop_zero, Nat.add_sub_cancel, List.take_length]
    · rw [if_neg (by rw [decide_eq_true_eq]; intro h2; exact h (List.cons.inj h2).1), if_neg h]
      rfl
theorem tx_mi : PySem.Str.ofString "-" = tx [45] := by decide
theorem tx_ze : PySem.Str.ofString "0" = tx [48] := by decide
theorem dropK_len (k : Nat) (w : Wd5) : (dropK k w).length ≤ w.length := by
  cases w with
  | nil => exact Nat.le_refl _
  | cons c t =>
    show (if c = k then t else c :: t).length ≤ _
    split
    · rw [List.length_cons]; omega
    · exact Nat.le_refl _
theorem dropK_mem {k c : Nat} {w : Wd5} (h : c ∈ dropK k w) : c ∈ w := by
  cases w with
  | nil => exact h
  | cons d t =>
    have h : c ∈ (if d = k then t else d :: t) := h
    split at h
    · exact List.mem_cons_of_mem _ h
    · exact h
theorem iw5_eq (w : Wd5) : iw5 w = if (digs w).take 1 = [48] then decide (w = [48]) else decide (0 < (digs w).length) && dgB (digs w) := by
  unfold iw5
  cases h : digs w with
  | nil => rfl
  | cons c t =>
    dsimp only
    by_cases h1 : c = 48
    · rw [if_pos h1, if_pos (by rw [h1]; rfl)]
    · rw [if_neg h1, if_neg (by intro h2; exact h1 (List.cons.inj h2).1), decide_eq_true (by simp), Bool.true_and]
theorem len_digs (w : Wd5) : w.length ≤ (digs w).length + 1 := by
  unfold digs
  split
  · exact Nat.le_refl _
  · exact Nat.le_succ _
theorem iw_int {w : Wd5} (h1 : iw5 w = true) (h2 : (digs w).length ≤ 30) : ∃ n, PySem.intText? ⟨w.toArray⟩ = some n := by
  unfold iw5 at h1
  cases h3 : digs w with
  | nil => rw [h3] at h1; cases h1
  | cons c t =>
    rw [h3] at h1 h2
    dsimp only at h1
    by_cases h4 : c = 48
    · rw [if_pos h4] at h1
      have h5 := of_decide_eq_true h1
      subst h5
      exact ⟨0, int_dec (n := 0) (show (0 : Int).natAbs < 10 ^ 30 by decide)⟩
    · rw [if_neg h4] at h1
      have h5 := dgB_iff.mp h1
      unfold digs at h3
      split at h3
      · subst h3
        exact ⟨_, PySem.intText_neg (cs := c :: t) rfl h5 (by simp) (by show (45 :: c :: t).toArray.size ≤ 4300; simp at h2 ⊢; omega)⟩
      · subst h3
        exact ⟨_, PySem.intText_digits (x := ⟨(c :: t).toArray⟩) h5 (by simp) (by show (c :: t).toArray.size ≤ 4300; simp at h2 ⊢; omega)⟩
section
variable {P : Program} {w : World} {K : PySem.W.Frag} {mg : Str → Option Value} {base : Heap}
def sp_iw : Sp := fun vs H Q _ => ∃ (cs : Wd5), vs = [.str (tx cs)] ∧ cs.length ≤ 1000 ∧ (∀ c ∈ cs, c < 128) ∧ RetV H Q (.bl (iw5 cs))
theorem d_iw (T : Top w K mg) : Def P w K mg base CX0 1 "is_integer_word" ["word"] sp_iw := by
  refine T.f_is_integer_word.ok sc_is_integer_word (by rintro vs H Q E ⟨cs, rfl, _⟩; rfl) (fun f cdv A outer s H vs Q E hr h => ?_)
  obtain ⟨cs, rfl, hl, ha, q⟩ := h
  refine ⟨_, (pss_cons (ps_set (i := 1) sc_is_integer_word.nd rfl (Or.inl rfl) (pe_bmK (K := K) rfl PySem.F.plainAttrs_str PySem.F.slot_str_removeprefix PySem.F.type_str_removeprefix mt_removeprefix (pv 0) (pa_cons pe_str pa_nil)))
      (pss_cons (ps_if (pt_val (pe_bmK (K := K) rfl PySem.F.plainAttrs_str PySem.F.slot_str_startswith PySem.F.type_str_startswith mt_startswith (pv 1) (pa_cons pe_str pa_nil))) (pss_one (ps_ret (pe_cmpR op_eq (pv 0) pe_str (nomark _)))) pss_nil)
      (pss_one (ps_ret (pe_m0 PySem.F.slot_str_isdigit PySem.F.type_str_isdigit mt_isdigit (pv 1)))))), ?_⟩
  walk_at "rd"
  rw [tx_mi, tx_ze]
  refine ⟨ty_strV, ?_⟩
  walk_at "rd"
  refine ⟨_, _, rfl, rfl, by rw [tx_len]; exact Nat.le_trans hl (by decide), ?_⟩
  rw [rp_tx, ← digs_drop]
  walk_at "rd"
  refine ⟨ty_strV, ?_⟩
  walk_at "rd"
  refine ⟨_, _, rfl, rfl, ?_⟩
  rw [sw_tx]
  rw [iw5_eq] at q
  walk_at "rd"
  refine rif (fun h => ?_) fun h => ?_
  · rw [if_pos (show (digs cs).take 1 = [48] from h), ← dec_tx] at q
    walk_at "rd"
    exact q.here
  · rw [if_neg (show ¬ (digs cs).take 1 = [48] from h), ← isd_tx (w := digs cs) (fun c hc => ha c (by rw [digs_drop] at hc; exact dropK_mem hc))] at q
    walk_at "rd"
    exact ⟨_, rfl, ⟨_, rfl⟩, _, rfl, rfl, trivial, q.here⟩
def sp_req (C : Addr) : Sp := fun vs H Q E => ∃ b : Bool, vs = [.bl b] ∧ (b = true → Q .non H) ∧ (b = false → RetE0 H E C)
theorem d_req {C_TesseraError C_InvalidDump C_InvalidExpression C_BadWord : Addr} (T : Top w K mg) (R : Errs K mg C_TesseraError C_InvalidDump C_InvalidExpression C_BadWord) : Def P w K mg base (L2N.CX P w) 1 "require" ["holds"] (sp_req C_BadWord) := by
  refine T.f_require.okN sc_require (by rintro vs H Q E ⟨b, rfl, _⟩; rfl) (fun f cdv A outer s H vs Q E hr h => ?_)
  obtain ⟨b, rfl, q, qe⟩ := h
  refine ⟨_, (pss_one (ps_if (pt_not (pt_val (pv 0))) (pss_one (ps_raiseE rfl (L2N.takes_of rfl rfl rfl rfl) (pmk_e0 R.c_BadWord R.p_BadWord))) pss_nil)), ?_⟩
  cases b with
  | true =>
    walk_at "rd"
    exact q rfl
  | false =>
    walk_at "rd"
    refine r_raise0 ?_
    exact qe rfl _ (Same.refl _)
/-- a whole number in a word -/
def sp_inV (C : Addr) : Sp := fun vs H Q E => ∃ (cs : Wd5), vs = [.str (tx cs)] ∧ cs.length ≤ 1000 ∧ (∀ c ∈ cs, c < 128) ∧ (∀ n, inV5 cs = some n → RetV H Q (.int n)) ∧ (inV5 cs = none → RetE0 H E C)
theorem d_inV {C_TesseraError C_InvalidDump C_InvalidExpression C_BadWord : Addr} (T : Top w K mg) (R : Errs K mg C_TesseraError C_InvalidDump C_InvalidExpression C_BadWord) : Def P w K mg base (L2N.CX P w) 2 "integer_in" ["word"] (sp_inV C_BadWord) := by
  have G_require : Def P w K mg base (L2N.CX P w) 1 "require" ["holds"] (sp_req C_BadWord) := d_req T R
  have G_is_integer_word : Def P w K mg base CX0 1 "is_integer_word" ["word"] sp_iw := d_iw T
  obtain ⟨t1, g_MOST_DIGITS⟩ := T.g_MOST_DIGITS
  refine T.f_integer_in.okN sc_integer_in (by rintro vs H Q E ⟨cs, rfl, _⟩; rfl) (fun f cdv A outer s H vs Q E hr h => ?_)
  obtain ⟨cs, rfl, hl, ha, q, qe⟩ := h
  refine ⟨_, (pss_cons (ps_expr (pe_callN G_require (L2N.takes_of rfl rfl rfl rfl) (hr.mono (by decide)) (pa_cons (pe_and (pe_callD G_is_integer_word (hr.mono (by decide)) (pa_cons (pv 0) pa_nil)) (pe_one (pe_cmpR op_le (pe_callB (r := rLenStr) call_len_str (by rfl) T.b_len (by decide +kernel) (pa_cons (pe_bmK (K := K) rfl PySem.F.plainAttrs_str PySem.F.slot_str_removeprefix PySem.F.type_str_removeprefix mt_removeprefix (pv 0) (pa_cons pe_str pa_nil)) pa_nil)) (pe_glob (v := .int 30) rfl g_MOST_DIGITS ⟨_, rfl⟩) (nomark _)))) pa_nil)))
      (pss_one (ps_ret (pe_callTy (r := rIntS) call_int_str (by rfl) T.b_int (by decide +kernel) (pa_cons (pv 0) pa_nil))))), ?_⟩
  walk_at "rd"
  rw [tx_mi]
  refine ⟨cs, rfl, hl, ha, fun H1 s1 => ?_⟩
  walk_at "rd"
  unfold inV5 at q qe
  cases hi : iw5 cs with
  | false =>
    walk_at "rd"
    refine ⟨false, rfl, (fun h => by cases h), fun _ H2 s2 => ?_⟩
    exact qe (if_neg (by rintro ⟨h, _⟩; rw [hi] at h; cases h)) _ (s1.trans s2)
  | true =>
    walk_at "rd"
    refine ⟨ty_strV, ?_⟩
    walk_at "rd"
    refine ⟨_, _, rfl, rfl, by rw [tx_len]; exact Nat.le_trans hl (by decide), ?_⟩
    rw [rp_tx, ← digs_drop]
    have hdl := dropK_len 45 cs
    rw [← digs_drop] at hdl
    walk_at "rd"
    refine r_lenS (a := tx (digs cs)) (by rw [tx_len]; omega) ?_
    rw [tx_len]
    walk_at "rd"
    refine ⟨_, rfl, fun hb => ?_, fun hb => ?_⟩
    · have hb : (digs cs).length ≤ 30 := by have := of_decide_eq_true hb; omega
      obtain ⟨n, hn⟩ := iw_int hi hb
      have hll := len_digs cs
      have q := q n (by rw [if_pos ⟨hi, hb⟩]; exact hn)
      walk_at "rd"
      refine ⟨_, n, rfl, hn, by show (tx cs).length ≤ 640; rw [tx_len]; omega, ?_⟩
      exact q _ s1
    · have hb := of_decide_eq_false hb
      exact fun H2 s2 => qe (if_neg (fun h => hb (by have := h.2; omega))) _ (s1.trans s2)
/-- the words of a text -/
def txs (ws : List Wd5) : List V := ws.map fun w => V.str (tx w)
def sp_word (K : PySem.W.Frag) (C : Addr) : Sp := fun vs H Q E => ∃ (a : Addr) (ws : List Wd5) (i : Nat), vs = [.ref a, .int (i : Int)] ∧ SqL K H a (txs ws) ∧ ws.length ≤ 1000000 ∧ (∀ w, ws[i]? = some w → RetV H Q (.str (tx w))) ∧ (ws.length ≤ i → RetE0 H E C)
theorem d_word {C_TesseraError C_InvalidDump C_InvalidExpression C_BadWord : Addr} (T : Top w K mg) (R : Errs K mg C_TesseraError C_InvalidDump C_InvalidExpression C_BadWord) : Def P w K mg base (L2N.CX P w) 2 "word_at" ["words", "at"] (sp_word K C_BadWord) := by
  have G_require : Def P w K mg base (L2N.CX P w) 1 "require" ["holds"] (sp_req C_BadWord) := d_req T R
  refine T.f_word_at.okN sc_word_at (by rintro vs H Q E ⟨a, ws, i, rfl, _⟩; rfl) (fun f cdv A outer s H vs Q E hr h => ?_)
  obtain ⟨a, ws, i, rfl, hS, hl, q, qe⟩ := h
  refine ⟨_, (pss_cons (ps_expr (pe_callN G_require (L2N.takes_of rfl rfl rfl rfl) (hr.mono (by decide)) (pa_cons (pe_cmpR op_lt (pv 1) (pe_callB (r := Evl.rLenS K) call_len_seq (by rfl) T.b_len (by decide +kernel) (pa_cons (pv 0) pa_nil)) (nomark _)) pa_nil)))
      (pss_one (ps_ret (pe_ix (r := rIxL K) ix_list (pv 0) (pv 1) (fun _ _ => rfl))))), ?_⟩
  have hll : (txs ws).length = ws.length := List.length_map _
  walk_at "rd"
  rw [hll]
  refine ⟨_, rfl, fun hb => ?_, fun hb => ?_⟩
  · have hb : i < ws.length := by have := of_decide_eq_true hb; omega
    walk_at "rd"
    refine r_ixL hS (v := .str (tx ws[i])) ?_ ?_
    · exact at_map (f := fun w => V.str (tx w)) (show (0 : Int) ≤ (i : Int) by omega) (List.getElem?_eq_getElem hb)
    walk_at "rd"
    exact q _ (List.getElem?_eq_getElem hb) _ (Same.refl _)
  · have hb := of_decide_eq_false hb
    exact qe (by omega)
end

/-! ### a comprehension whose element may raise out of a call -/
section
variable {X : Cx} {pins : List (Addr × Obj)} {σ : L2.St} {H : Hp} {s : Shared} {W : WX}
/-- the block, with what its exceptions end in -/
abbrev blkE (X : Cx) (s : Shared) (H : Hp) (scope : Scope) (cenv : Env) (fp : List Addr) (xe : Value → Shared → Prop) : Cx := { X.blk s H scope cenv fp with xe := xe }
theorem inv_xe {a : Value → Shared → Prop} (I : Inv X pins σ H s) : Inv { X with xe := a } pins σ H s :=
  ⟨⟨I.ok.mod, I.ok.kind, I.ok.glob, I.ok.blt, I.ok.above, I.ok.inj, I.ok.has, I.ok.cab, I.ok.hd, I.ok.frames, I.ok.stk, I.ok.exf, I.ok.bs, I.ok.bsz, I.ok.noex, I.ok.exfs, I.ok.funs, I.ok.frf⟩, I.os, I.bare, I.base, I.loc, I.cell, I.free, I.freeC, I.pin, I.hok, I.len⟩
theorem note_same (u : Value) {c e : Env} (h : c.frame = e.frame) : noteFrame u c = noteFrame u e := by
  unfold noteFrame PySem.frameOf; rw [h]
def TakesB (X : Cx) (W : WX) : Prop := ∀ σ, PassesAt (L2N.CX X.prog X.w) X σ (WE W σ)
theorem pe_callBk {k : Nat} {ps : List Str} {sp : Sp} {x : Str} {p pos : Pos} {e : Expr} {es : List Expr} {t : TA} (G : Def X.prog X.w X.K X.mg X.base (L2N.CX X.prog X.w) k x ps sp) (tk : TakesB X W) (hr : Room k X.A) (ha : PA X (e :: es) t) (hg : Gl X x := by rfl)
    (hdb : (x == ("__debug__" : Str)) = false := by decide) (he : starEach (e :: es) X.env = (false, eval e X.env) :: starEach es X.env := by rfl) (hpl : (backTo pos (starEach es X.env)).any (·.1) = false := by rfl) : PE X (.Call (.Name x p) (e :: es) [] pos) (tCallS sp (WE W) t) := by
  obtain ⟨f, fd, F, hm, hk, hb⟩ := G.ex
  exact pe_callS F hr hg hm hk hb tk ha hdb he hpl
theorem takes_blk {scope : Scope} {cenv : Env} {fp : List Addr} (I3 : Inv X pins σ H s) (hst : X.stack = X.env :: X.outer) (hf : X.env.frame = some X.env.locals) (tk : L2N.Takes X W) (hcf : cenv.frame = X.env.frame) (hcl : s.heap.objs.size ≤ cenv.locals) (f3 : ∀ b ∈ fp, FpOk X pins H b) :
    TakesB (blkE X s H scope cenv fp (notedBy (model X.prog X.w) X.A cenv (CompFails (model X.prog X.w) X.A X.xe cenv))) (fun cls d _ H' => W cls d σ H') := by
  intro σ1 pins1 H1 s1 u s' I c
  obtain ⟨a, B, H', cls, d, rfl, fl, hok, ub, na, os, ag, hW⟩ := c
  have fl : HandSPX.FlyingZ B X.stack a (L2N.Zn cls d) s'.heap := fl
  have ub : UB (frs X.stack) H1 H' s1.heap B s'.heap := ub
  have hfr : X.A.frames = some (X.env :: X.outer) := by rw [I3.ok.frames, hst]
  have lowC : ∀ b o, s.heap.get? b = some o → b ≠ cenv.locals := fun b o e z => absurd (Heap.lt_size e) (by rw [z]; exact Nat.not_lt.mpr hcl)
  have frC : ∀ b ∈ frs X.stack, ∃ o, s.heap.get? b = some o ∧ ∀ vs, o.data ≠ .fields vs := fun b hb => by
    obtain ⟨_, o, e, hnf⟩ := I3.stack.mem hb
    exact ⟨o, e, hnf⟩
  have hCn : cenv.locals ∉ frs X.stack := fun hm => by
    obtain ⟨o, e, _⟩ := frC _ hm
    exact lowC _ _ e rfl
  obtain ⟨m, hn, _⟩ := I.loc
  have hn : s1.heap.Ns cenv.locals m := hn
  obtain ⟨oC, es, ep, hoC, hdC, r⟩ := hn
  have nC1 : H1 cenv.locals = none := I.free
  have bC : B.get? cenv.locals = some oC := ub.keep _ _ hoC nC1 hCn
  have nC : H' cenv.locals = none := ub.free _ _ hoC nC1
  show wpAny (model X.prog X.w) X.A (noteFrame (.ref a) cenv) _ _ s'
  rw [note_same _ hcf]
  rw [hst] at fl
  refine PXN.looks_onZ L2N.Zn.steady hfr hf fl fun h1 hh up1 => ?_
  obtain ⟨q1, q2, q3, q4⟩ := hh
  have oC1 : h1.get? cenv.locals = some oC := q1 _ _ bC
  refine ⟨m, ⟨oC, es, ep, oC1, hdC, r⟩, fun h2 m2 hn2 sb => ?_⟩
  obtain ⟨oe, vs, T, oT, ts, he, hz, hd, g1, hnT, hTe, hT, hdT, g3⟩ := q4
  have aC : a ≠ cenv.locals := fun z => by rw [z, oC1] at he; cases he; rw [hdC] at hd; cases hd
  have TC : T ≠ cenv.locals := fun z => by rw [z, oC1] at hT; cases hT; rw [hdC] at hdT; cases hdT
  have same : ∀ b, b ≠ cenv.locals → h2.get? b = h1.get? b := fun b hb => sb.2 b hb
  generalize hB0 : PySem.W.hideAll B [cenv.locals] = B0
  have d0 : ∀ b o, B0.get? b = some o → B.get? b = some o ∧ b ≠ cenv.locals := fun b o e => by
    rw [← hB0] at e
    refine ⟨PySem.W.of_hideAll _ e, fun z => ?_⟩
    rw [PySem.W.hideAll_none [cenv.locals] (by rw [z]; exact List.mem_singleton.mpr rfl)] at e
    cases e
  have d1 : ∀ b o, B.get? b = some o → b ≠ cenv.locals → B0.get? b = some o := fun b o e hb => by
    rw [← hB0]
    exact PySem.W.hideAll_get _ e fun hm => hb (List.mem_singleton.mp hm)
  have dn : ∀ b, B.get? b = none → B0.get? b = none := fun b e => by
    cases q : B0.get? b with
    | none => rfl
    | some o => rw [(d0 b o q).1] at e; cases e
  have held : HandSPX.HeldZ B0 (X.env :: X.outer) a (L2N.Zn cls d) X.env.locals h2 := by
    refine ⟨fun b o e => (same b (d0 b o e).2).trans (q1 b o (d0 b o e).1), dn a q2, ?_, oe, vs, T, oT, ts, (same a aC).trans he, hz, hd, g1, dn T hnT, hTe, (same T TC).trans hT, hdT, g3⟩
    have f2 : h2.FunFrames B (X.env :: X.outer) := Heap.FunFrames.sameBut sb hn2 q3
    exact funFrames_none f2 fun L hL => dn L (f2.mem hL).1
  unfold PySem.passOn
  refine wpAny_bind (wpAny_field ((same a aC).trans he) hd g1 ?_)
  rw [if_neg (show ¬ ((Value.ref T == Value.none) = true) from by simp), hcf, hf]
  refine wpAny_bind (HandSPX.setFlight_onZ held fun h3 hh3 up3 => wpAny_throw (tk _ _ ?_))
  obtain ⟨G, k1, k2⟩ := restrict h3 fun b => (B0.get? b).isSome || decide (b ∈ frs X.stack)
  have st3 : B0.StaysIn h3 := hh3.1
  have gB : ∀ b o, B0.get? b = some o → G.get? b = some o := fun b o e => (k1 b (by rw [e]; rfl)).trans (st3 b o e)
  have gF : ∀ b ∈ frs X.stack, G.get? b = h3.get? b := fun b hb => k1 b (by rw [decide_eq_true hb, Bool.or_true])
  have og : ∀ b o, G.get? b = some o → h3.get? b = some o ∧ (B0.get? b = some o ∨ b ∈ frs X.stack) := fun b o e => by
    cases q : ((B0.get? b).isSome || decide (b ∈ frs X.stack)) with
    | false => rw [k2 b q] at e; cases e
    | true =>
      rw [k1 b q] at e
      rcases (Bool.or_eq_true _ _).mp q with z | z
      · obtain ⟨o', q'⟩ := Option.isSome_iff_exists.mp z
        have z2 := st3 b o' q'
        rw [e] at z2; cases z2
        exact ⟨e, .inl q'⟩
      · exact ⟨e, .inr (of_decide_eq_true z)⟩
  have slot : ∀ b o, s.heap.get? b = some o → b ∈ frs X.stack → b ∉ fp → ∃ sl, G.get? b = some { o with slots := sl } := fun b o e hb hx => by
    obtain ⟨o', e', hnf⟩ := frC b hb
    rw [e] at e'; cases e'
    obtain ⟨l1, e1⟩ := I.base.slot b o e (I3.stkFree b hb) hb hx
    obtain ⟨l2, e2⟩ := ub.slot b _ e1 hb
    obtain ⟨l3, e3⟩ := up1 b _ e2 hnf
    obtain ⟨l4, e4⟩ := up3 b _ ((same b (lowC b o e)).trans e3) hnf
    exact ⟨l4, (gF b hb).trans e4⟩
  have hokG : HOk X.prog X.w H' G := fun b o q => (hok b o q).stay (fun c u hc e => gB c u (d1 c u e fun z => by
    rw [z] at hc
    rcases hc with hc | hc
    · rw [← hc, nC] at q; cases q
    · rw [nC] at hc; cases hc)) (fun _ r => r) fun _ _ r => r
  have un : Un (frs X.stack) fp H H' s.heap G := by
    refine ⟨fun b o e n hb hx => ?_, fun b o e _ hb hx => slot b o e hb hx, fun b o e n hx => ?_, fun b o e hx => ?_, fun b xs e => ub.tups b xs (I.base.tups b xs e), fun b o v e => ub.frzs b o v (I.base.frzs b o v e), fun b ps e => ?_⟩
    · have e1 : s1.heap.get? b = some o := I.base.keep b o e n hb hx
      exact gB b o (d1 b o (ub.keep b o e1 (I.base.free b o e n hx) hb) (lowC b o e))
    · by_cases hb : b ∈ frs X.stack
      · obtain ⟨l1, e1⟩ := I.base.slot b o e n hb hx
        exact ub.free b _ e1 (I.base.free b o e n hx)
      · exact ub.free b o (I.base.keep b o e n hb hx) (I.base.free b o e n hx)
    · by_cases hb : b ∈ frs X.stack
      · obtain ⟨l, e1⟩ := slot b o e hb hx
        exact ⟨_, e1⟩
      · obtain ⟨o1, e1⟩ := I.base.there b o e hx
        obtain ⟨o2, e2⟩ := ub.there b o1 e1 hb
        exact ⟨o2, gB b o2 (d1 b o2 e2 (lowC b o e))⟩
    · obtain ⟨m1, e1⟩ := I.base.tbls b ps e
      obtain ⟨m2, e2⟩ := ub.tbls b _ e1
      exact ⟨m1 ++ m2, by rw [e2, Array.append_assoc]⟩
  have os2 : s'.os = s.os := os.trans I.os
  have J : Inv X pins σ H' { s with heap := G, gens := s'.gens, drawn := s'.drawn, toks := s'.toks } := I3.call (ch := fp) un hokG ag fun b hb => ⟨(f3 b hb).2.2.2.1, (f3 b hb).2.1, (f3 b hb).2.2.2.2.1, (f3 b hb).2.2.2.2.2⟩
  refine ⟨a, B0, _, pins, σ, H', cls, d, rfl, J, fun b o e hb => ?_, Heap.UpToSlots.of_keeps fun b o e => (og b o e).1, .inr (.inr (by rw [hst]; exact hh3)), na, os2, ag, hW⟩
  rcases (og b o e).2 with z | z
  · exact z
  · exact absurd z hb
end

section
variable {X : Cx}
def tLcE (W : WX) (wi : TI) (g : TG) (tt : TT) (te : WX → TE) (vs : List Nat) : TE := fun σ H Q => tLc wi g tt (te fun cls d _ H' => W cls d σ H') vs σ H Q
theorem pe_lcE {W : WX} {elt tg iter : Expr} {ifs : List Expr} {scope : Scope} {own : List (Str × Nat)} {pos : Pos} {wi : TI} {g : TG} {tt : TT} {te : WX → TE} (hst : X.stack = X.env :: X.outer) (hfm : X.env.frame = some X.env.locals) (tk : L2N.Takes X W)
    (hc : X.calm = true) (hN : X.N.Nodup) (hi : PI X tg iter wi) (ok : BlkOk X.N X.env.scope scope own)
    (hg : ∀ (s : Shared) (H : Hp) (C : Addr) (cl : List (Str × Addr)) (fp : List Addr) (xe : Value → Shared → Prop), PG (blkE X s H scope (compEnvC scope cl C X.env) fp xe) tg g)
    (ht : ∀ (s : Shared) (H : Hp) (C : Addr) (cl : List (Str × Addr)) (fp : List Addr) (xe : Value → Shared → Prop), PTs (blkE X s H scope (compEnvC scope cl C X.env) fp xe) ifs tt)
    (he : ∀ (s : Shared) (H : Hp) (C : Addr) (cl : List (Str × Addr)) (fp : List Addr) (xe : Value → Shared → Prop) (W' : WX), TakesB (blkE X s H scope (compEnvC scope cl C X.env) fp xe) W' → PE (blkE X s H scope (compEnvC scope cl C X.env) fp xe) elt (te W'))
    (hs : ∀ x, foldedSetIterable iter X.env x = pure x := by intro _; rfl) :
    PE X (.ListComp elt [⟨tg, iter, ifs, 0⟩] scope pos) (tLcE W wi g tt te (own.map (·.2))) := by
  refine ⟨fun pins s σ H Q I h => ?_⟩
  rw [eval_ListComp]
  have hfree : ∀ y ∈ scope.names, y.2 = .free → ∃ c, X.env.cells.lookup y.1 = some c := fun y hy e => (ok.free y hy e).elim (fun k => I.ok.has _ (.inl k)) fun k => I.ok.has _ (.inr k)
  refine comprehension_at (use := none) rfl hs (closure_ok hfree) ok.kind (fun y hy e => (ok.uniq y hy).trans (by rw [e])) (thn (hi.run pins s σ H _ I h) fun xv t1 hx => thn hx fun itv t2 h2 => ?_)
  obtain ⟨it, fp, tn, J, H2, rfl, I2, T, st2, f2, q⟩ := h2
  refine wpAny_newObj_type (newEnv_comp ?_) (by show 0 ≤ sizeLine; decide)
  generalize hD : t2.heap.objs.size = D
  have hDn : H2 D = none := I2.hok.fresh (Nat.le_of_eq hD)
  obtain ⟨Wm, ⟨m0, w0⟩, turn⟩ := q D hDn
  generalize ht3 : ({ t2 with heap := t2.heap.push { cls := .type "list", data := .seq ([] : List Value).toArray } } : Shared) = t3
  have e3 : t3.heap = t2.heap.push { cls := .type "list", data := .seq ([] : List Value).toArray } := by rw [← ht3]
  have I3 : Inv X pins σ (upd H2 D (.lst [])) t3 := by
    rw [← ht3]
    exact I2.laid (t' := t2.toks) (fun b o e => Heap.get?_push_of_some _ e) (Nat.le_of_eq hD) ⟨Nat.zero_le _, [], 0, .nil, by rw [← hD]; exact Heap.get?_push_size _ rfl⟩
  have f3 : ∀ b ∈ fp, FpOk X pins (upd H2 D (.lst [])) b ∧ b < t3.heap.objs.size := fun b hb => by
    obtain ⟨o, e, _⟩ := T.obj _ _ st2 b hb
    have hlt := Heap.lt_size e
    exact ⟨⟨by rw [upd_ne (by rw [← hD]; exact Nat.ne_of_lt hlt)]; exact (f2 b hb).1, (f2 b hb).2⟩, by rw [e3, Heap.size_push]; exact Nat.lt_succ_of_lt hlt⟩
  have st3 : tn 0 t3.heap := T.keep _ _ _ st2 fun b _ o e => (by rw [e3]; exact Heap.get?_push_of_some _ e)
  have I4 := block_start I3 ok hN f3
  generalize hH3 : upd H2 D (.lst []) = H3 at I3 I4 w0 f3
  show codeAny _ _ (.compStart (.ListComp elt [⟨tg, iter, ifs, 0⟩] scope pos) 0 (.ref it) (.ref D) (compEnvC scope (cellsFrom (t3.heap.objs.size + 1) scope.names (cloFrom X.env.cells scope.names [])) t3.heap.objs.size X.env)) (compEnds (model X.prog X.w) X.A X.xe none (EP X pins σ Q) (.ref D) (compEnvC scope (cellsFrom (t3.heap.objs.size + 1) scope.names (cloFrom X.env.cells scope.names [])) t3.heap.objs.size X.env)) { t3 with heap := pushCells (t3.heap.push { cls := .type "dict", data := .dict #[] }) scope.names }
  generalize hcl : cellsFrom (t3.heap.objs.size + 1) scope.names (cloFrom X.env.cells scope.names []) = cl at I4 ⊢
  have cL : (compEnvC scope cl t3.heap.objs.size X.env).locals = t3.heap.objs.size := rfl
  have cF : (compEnvC scope cl t3.heap.objs.size X.env).frame = X.env.frame := rfl
  generalize hxe : notedBy (model X.prog X.w) X.A (compEnvC scope cl t3.heap.objs.size X.env) (CompFails (model X.prog X.w) X.A X.xe (compEnvC scope cl t3.heap.objs.size X.env)) = xe
  have tkB : TakesB (blkE X t3 H3 scope (compEnvC scope cl t3.heap.objs.size X.env) fp xe) (fun cls d _ H' => W cls d σ H') := by
    rw [← hxe]
    exact takes_blk I3 hst hfm tk cF (Nat.le_of_eq cL.symm) fun b hb => (f3 b hb).1
  have pg := hg t3 H3 t3.heap.objs.size cl fp xe
  have pt := ht t3 H3 t3.heap.objs.size cl fp xe
  have pe := he t3 H3 t3.heap.objs.size cl fp xe _ tkB
  have nfp : ∀ b ∈ fp, H3 b = none := fun b hb => (f3 b hb).1.1
  generalize compEnvC scope cl t3.heap.objs.size X.env = ce at I4 pg pt pe cL cF hxe tkB ⊢
  have I4 := inv_xe (a := xe) I4
  generalize ht4 : ({ t3 with heap := pushCells (t3.heap.push { cls := .type "dict", data := .dict #[] }) scope.names } : Shared) = t4 at I4 ⊢
  have st4 : tn 0 t4.heap := T.keep _ _ _ st3 fun b _ o e => (by rw [← ht4]; exact pushCells_keeps _ _ _ _ (Heap.get?_push_of_some _ e))
  have stat : ∀ {σ' : L2.St} {H' : Hp} {t' : Shared}, Inv (blkE X t3 H3 scope ce fp xe) [] σ' H' t' → (∀ b ∈ fp, H' b = none) → ∀ b ∈ fp, FpOk (blkE X t3 H3 scope ce fp xe) [] H' b := fun {σ' H' t'} I' hn b hb =>
    ⟨hn b hb, (I'.ok.exf b hb).1, I'.ok.exfs b hb, .inl hb, fun x c e => (I'.ok.exf b hb).2 x c e, fun p hp => (nomatch (show p ∈ ([] : List (Addr × Obj)) ++ [] from hp))⟩
  have rE : ∀ (u : Value) (t' : Shared), notedBy (model X.prog X.w) X.A ce (CompFails (model X.prog X.w) X.A X.xe ce) u t' → notedBy (model X.prog X.w) X.A ce (fun e t'' => compEnds (model X.prog X.w) X.A X.xe none (EP X pins σ Q) (.ref D) ce (.error e) t'') u t' := fun u t' z => z
  have mono : ∀ {α : Type} {m : Sem α} {P P' : α → Shared → Prop} {t' : Shared}, wpAny (model X.prog X.w) X.A m P xe t' → (∀ v t'', P v t'' → P' v t'') → wpAny (model X.prog X.w) X.A m P' (notedBy (model X.prog X.w) X.A ce fun e t'' => compEnds (model X.prog X.w) X.A X.xe none (EP X pins σ Q) (.ref D) ce (.error e) t'') t' := fun h1 h2 => wpAny_mono h1 h2 fun u t'' z => rE u t'' (by rw [hxe]; exact z)
  have loop : codeAny (model X.prog X.w) X.A (.compLoop (.ListComp elt [⟨tg, iter, ifs, 0⟩] scope pos) 0 (.ref it) (.ref D) ce) (compEnds (model X.prog X.w) X.A X.xe none (EP X pins σ Q) (.ref D) ce) t4 := by
    refine compLoop_any (fun n t' => ∃ i H', Inv (blkE X t3 H3 scope ce fp xe) [] (wipe σ (own.map (·.2))) H' t' ∧ tn i t'.heap ∧ (∀ b ∈ fp, H' b = none) ∧ Wm i n H') ?_ m0 ⟨0, H3, I4, st4, nfp, w0⟩
    rintro n t5 ⟨i, H5, I5, st5, n5, w5⟩
    rcases turn i n H5 w5 with ⟨stop, qq⟩ | ⟨go, Nx, hNx, step⟩
    · refine thnF (T.done (blkE X t3 H3 scope ce fp xe) rfl rfl rfl hc i [] t5 _ H5 (fun _ _ => False) I5 (stat I5 n5) st5 stop) fun r t6 ⟨hr, I6⟩ => ?_
      subst hr
      have I7 : Inv X pins σ H5 t6 := I3.call' (ch := fp) I6.os I6.base I6.hok I6.bare fun b hb => (let z := (f3 b hb).1.2; ⟨z.2.2.1, z.1, z.2.2.2.1, z.2.2.2.2⟩)
      have nC : H5 ce.locals = none := I6.free
      obtain ⟨m, hn, _⟩ := I6.loc
      have hn : t6.heap.Ns ce.locals m := hn
      rw [cL] at nC
      have fk : FpOk X pins H5 t3.heap.objs.size := I3.fpOk (Nat.le_refl _) nC
      obtain ⟨g0, g1, g2, g3, g4, g5⟩ := fk
      refine ⟨m, hn, fun h'' sb => ⟨.ref D, H5, I7.turned (t' := t6.toks) (fun b o hb e => (sb.2 b (by rw [cL]; exact hb)).trans e) g0 g1 g3 g4 g5, rfl, qq⟩⟩
    · refine thnF (T.item (blkE X t3 H3 scope ce fp xe) rfl rfl rfl hc i [] t5 _ H5 (fun _ _ => False) I5 (stat I5 n5) st5 go) fun r t6 ⟨u, hr, h6⟩ => ?_
      subst hr
      refine thnF h6 fun _ t7 ⟨x, H7, I7, r7, y7, st7, n7⟩ => ?_
      have I7' := I7.pinned (stat I7 n7) (T.obj _ _ st7)
      refine mono (pg.run _ t7 _ H7 x u _ I7' r7 (step x H7 y7)) fun _ t8 ⟨σ8, H8, I8, hw8, q8⟩ => ?_
      refine mono (pt.run _ t8 σ8 H8 _ I8 q8) fun b t9 ⟨H9, I9, q9⟩ => ?_
      have fin : ∀ {t' : Shared} {H' : Hp}, Inv (blkE X t3 H3 scope ce fp xe) ([] ++ pinsAt fp t7.heap) σ8 H' t' → Nx H' → ∃ m, m < n ∧ ∃ i H', Inv (blkE X t3 H3 scope ce fp xe) [] (wipe σ (own.map (·.2))) H' t' ∧ tn i t'.heap ∧ (∀ b ∈ fp, H' b = none) ∧ Wm i m H' := fun {t' H'} I' nx => by
        obtain ⟨m', hm, w'⟩ := hNx H' nx
        have pin' : ∀ b ∈ fp, ∀ o, t7.heap.get? b = some o → t'.heap.get? b = some o ∧ H' b = none := fun b hb o e => by
          have z := I'.pin (b, o) (List.mem_append_right _ (List.mem_append_right _ (mem_pinsAt hb e)))
          exact ⟨z.1, z.2.1⟩
        refine ⟨m', hm, i + 1, H', (I'.unpinned (pins := [])).weak (by rw [← hw8, wipe_length]) (fun j v e => (wipe_some (by rw [hw8]; exact e)).1), T.keep _ _ _ st7 fun b hb o e => (pin' b hb o e).1, fun b hb => ?_, w'⟩
        obtain ⟨o, e, _⟩ := T.obj _ _ st7 b hb
        exact (pin' b hb o e).2
      cases b with
      | false => exact fin I9 (by simpa using q9)
      | true =>
        simp only [if_true] at q9 ⊢
        refine mono (pe.run _ t9 σ8 H9 _ I9 q9) fun z t10 ⟨yv, H10, I10, r10, acc, hD10, hz10, nx⟩ => ?_
        exact app_ok (X := blkE X t3 H3 scope ce fp xe) I10 hD10 hz10 r10 fun t11 I11 => fin I11 nx
  exact codeAny_compStart_list loop (T.self X.A 0 _ _ _ st4 loop)
end

/-! ### a comprehension whose answer is known by a word of its own -/
section
variable {σ : L2.St} {H0 H : Hp} {Q : VK} {K : PySem.W.Frag} {L : List (Addr × HO)} {g : TG} {tt : TT} {te : TE} {vs : List Nat}
theorem lcW {a : Addr} {xs : List V} (W : Nat → List V → Hp → Prop) (o : Own H0 H L) (h : ∀ H' p zs, Own H0 H' ((p, .lst zs) :: L) → SqL K H' a xs) (h1 : SqL K H a xs) (hz : xs.length < 10000000)
    (hW : ∀ i zs H1 H2, Stp H1 H2 → W i zs H1 → W i zs H2) (h0 : W 0 [] H)
    (he : ∀ (i : Nat) (x : V) (p : Addr) (zs : List V) (H' : Hp) (Y : VK) (N : Hp → Prop), xs[i]? = some x → Own H0 H' ((p, .lst zs) :: L) → Stp H H' → W i zs H' →
      (∀ y H4, Own H0 H4 ((p, .lst zs) :: L) → Stp H' H4 → W (i + 1) (zs ++ [y]) H4 → Y y H4) → (∀ H4, Own H0 H4 ((p, .lst zs) :: L) → Stp H' H4 → W (i + 1) zs H4 → N H4) →
      g x (wipe σ vs) H' fun σ2 H2 => wipe σ2 vs = wipe σ vs ∧ tt σ2 H2 fun b H3 => RIf b (te σ2 H3 Y) (N H3))
    (k : ∀ p H' zs, Stp H H' → Own H0 H' ((p, .lst zs) :: L) → W xs.length zs H' → Q (.ref p) H') :
    ∃ a', V.ref a = .ref a' ∧ (∃ xs, SqL K H a' xs) ∧ RLc (Itl K a') g tt te vs σ H Q := by
  refine ⟨a, rfl, ⟨xs, h1⟩, fun D hD => ?_⟩
  refine lc_list (K := K) (a := a) (xs := xs) (fun i H' => ∃ zs, zs.length ≤ i ∧ Own H0 H' ((D, .lst zs) :: L) ∧ Stp H H' ∧ W i zs H') ⟨[], Nat.le_refl _, o.new hD, .of (same_new hD), hW _ _ _ _ (.of (same_new hD)) h0⟩ (fun i H' _ ⟨zs, _, o', _⟩ => h H' D zs o') (fun i x H' hi p => ?_) (fun H' ⟨zs, _, o', s', w'⟩ => k D H' zs s' o' w')
  obtain ⟨zs, hl, o', s', w'⟩ := p
  have hlt := (List.getElem?_eq_some_iff.mp hi).1
  refine he i x D zs H' _ _ hi o' s' w' (fun y H4 o4 s4 w4 => ?_) (fun H4 o4 s4 w4 => ⟨zs, by omega, o4, s'.trans s4, w4⟩)
  have sS : Stp H4 (upd H4 D (.lst (zs ++ [y]))) := Stp.set (o4.at 0 rfl)
  exact ⟨zs, o4.at 0 rfl, sz_lt (by omega), zs ++ [y], by rw [List.length_append]; simp; exact hl, o4.set 0 rfl, (s'.trans s4).trans sS, hW _ _ _ _ sS w4⟩
end
theorem r_gTup4 {K : PySem.W.Frag} {H : Hp} {σ : L2.St} {a : Addr} {x y z u : V} {i j k l : Nat} {R : L2.St → Hp → Prop} (h : SqT K H a [x, y, z, u]) (q : R ((((σ.set i (some x)).set j (some y)).set k (some z)).set l (some u)) H) : gTup K 4 (gCons (gName i) (gCons (gName j) (gCons (gName k) (gCons (gName l) gNil)))) (.ref a) σ H R :=
  ⟨a, [x, y, z, u], rfl, h, rfl, x, [y, z, u], rfl, y, [z, u], rfl, z, [u], rfl, u, [], rfl, rfl, q⟩
/-- a list times two -/
theorem r_rep2 {H H0 : Hp} {Q : VK} {L : List (Addr × HO)} {a : Addr} {xs : List V} (o : Own H0 H L) (ha : H a = some (.lst xs)) (hz : xs.length ≤ 1000000) (k : ∀ p H', Stp H H' → Own H0 H' ((p, .lst (xs ++ xs)) :: L) → Q (.ref p) H') : rRep (.ref a) (.int 2) H Q := by
  refine ⟨a, 2, xs, rfl, rfl, ha, by decide, by decide, sz100 (by show xs.length * 2 ≤ _; omega), fun p hp => ?_⟩
  have e : (List.replicate (2 : Int).toNat xs).flatten = xs ++ xs := by show (xs ++ (xs ++ [])) = _; rw [List.append_nil]
  rw [e]
  exact k p _ (.of (same_new hp)) (o.new hp)

/-! ### the program's parser -/
theorem r_lcE {W : WX} {wi : TI} {g : TG} {tt : TT} {te : WX → TE} {vs : List Nat} {σ : L2.St} {H : Hp} {Q : VK} (q : wi σ H fun J H1 => RLc J g tt (te fun cls d _ H' => W cls d σ H') vs σ H1 Q) : tLcE W wi g tt te vs σ H Q := q
def wOk (w : Wd5) : Prop := w.length ≤ 1000 ∧ ∀ c ∈ w, c < 128
theorem mapM_snoc {α β : Type} (f : α → Option β) : ∀ (l : List α) (x : α), (l ++ [x]).mapM f = (l.mapM f).bind fun ys => (f x).map fun y => ys ++ [y]
  | [], x => by cases h : f x <;> simp [h]
  | a :: l, x => by
    rw [List.cons_append, List.mapM_cons, List.mapM_cons, mapM_snoc f l x]
    cases f a <;> cases l.mapM f <;> cases f x <;> rfl
theorem mapM_take_none {α β : Type} (f : α → Option β) {l : List α} {n : Nat} (h : (l.take n).mapM f = none) : l.mapM f = none := by
  have e : l = l.take n ++ l.drop n := (List.take_append_drop n l).symm
  rw [e]
  generalize l.take n = a at h
  generalize l.drop n = b
  induction a with
  | nil => cases h
  | cons x a ih =>
    rw [List.cons_append, List.mapM_cons]
    rw [List.mapM_cons] at h
    cases hx : f x with
    | none => rfl
    | some y =>
      rw [hx] at h
      cases ha : a.mapM f with
      | none => rw [ih ha]; rfl
      | some ys => rw [ha] at h; cases h
theorem txs_at {ws : List Wd5} {i : Nat} {x : V} (h : (txs ws)[i]? = some x) : ∃ w, ws[i]? = some w ∧ x = .str (tx w) := by
  unfold txs at h
  rw [List.getElem?_map] at h
  cases hw : ws[i]? with
  | none => rw [hw] at h; cases h
  | some w => rw [hw] at h; cases h; exact ⟨w, rfl, rfl⟩
section
variable {P : Program} {w : World} {K : PySem.W.Frag} {mg : Str → Option Value} {base : Heap}
def iT (os : List Int) : PyData := .tuple (os.map PyData.int)
def sp_ins (K : PySem.W.Frag) (C : Addr) : Sp := fun vs H Q E => ∃ (a : Addr) (ws : List Wd5), vs = [.ref a] ∧ SqL K H a (txs ws) ∧ ws.length ≤ 1000000 ∧ (∀ w ∈ ws, wOk w) ∧ (∀ os, ws.mapM inV5 = some os → RetD K H Q (iT os)) ∧ (ws.mapM inV5 = none → RetE0 H E C)
theorem d_ins {C_TesseraError C_InvalidDump C_InvalidExpression C_BadWord : Addr} (T : Top w K mg) (R : Errs K mg C_TesseraError C_InvalidDump C_InvalidExpression C_BadWord) : Def P w K mg base (L2N.CX P w) 3 "integers_in" ["words"] (sp_ins K C_BadWord) := by
  have G_integer_in : Def P w K mg base (L2N.CX P w) 2 "integer_in" ["word"] (sp_inV C_BadWord) := d_inV T R
  refine T.f_integers_in.okN sc_integers_in (by rintro vs H Q E ⟨a, ws, rfl, _⟩; rfl) (fun f cdv A outer s H vs Q E hr h => ?_)
  obtain ⟨a, ws, rfl, hS, hl, hw, q, qe⟩ := h
  refine ⟨_, (pss_one (ps_ret (pe_callTy (r := rTupS K) call_tuple_of (by rfl) T.b_tuple (by decide +kernel) (pa_cons (pe_lcE (own := [("word", 1)]) (g := (gName 1)) (tt := tYes) rfl rfl (L2N.takes_of rfl rfl rfl rfl) rfl sc_integers_in.nd (pi_list (pv 0)) (blkOk_by (N := N_integers_in) (sc := defScope s_integers_in) (by decide +kernel)) (fun _ _ _ _ _ _ => (pg_name (i := 1) sc_integers_in.nd rfl (Or.inl rfl))) (fun _ _ _ _ _ _ => pts_nil) (fun _ _ _ _ _ _ W9 tkB => (pe_callBk G_integer_in tkB (hr.mono (by decide)) (pa_cons (pv 1) pa_nil)))) pa_nil)))), ?_⟩
  walk_at "rd"
  refine r_lcE ?_
  walk_at "rd"
  have hll : (txs ws).length = ws.length := List.length_map _
  refine lcW (fun i zs _ => ∃ os : List Int, (ws.take i).mapM inV5 = some os ∧ zs = os.map V.int) (Own.nil H) (fun H' p zs o' => o'.old hS) hS (by omega) (fun _ _ _ _ _ h => h) ⟨[], rfl, rfl⟩ (fun i x p zs H' Y N hx o' s' hW hY hN => ?_) (fun p H' zs s' o' hW => ?_)
  · obtain ⟨os, h1, rfl⟩ := hW
    obtain ⟨cs, hcs, rfl⟩ := txs_at hx
    have hc := hw cs (List.mem_of_getElem? hcs)
    have e1 : ws.take (i + 1) = ws.take i ++ [cs] := by rw [List.take_add_one, hcs]; rfl
    walk_at "rd"
    refine ⟨rfl, ?_⟩
    refine rif_t ?_
    walk_at "rd"
    refine ⟨cs, rfl, hc.1, hc.2, fun n hn H4 s4 => ?_, fun hn => ?_⟩
    · exact hY _ _ (o'.mono s4) (.of s4) ⟨os ++ [n], by rw [e1, mapM_snoc, h1, hn]; rfl, by rw [List.map_append]; rfl⟩
    · have hne : (ws.take (i + 1)).mapM inV5 = none := by rw [e1, mapM_snoc, h1, hn]; rfl
      exact fun H4 s4 => qe (mapM_take_none inV5 hne) _ (o'.ex.trans s4)
  · obtain ⟨os, h1, rfl⟩ := hW
    rw [hll, List.take_length] at h1
    walk_at "rd"
    refine r_tupLs o' (o'.sqL 0 rfl) fun l H2 s2 o2 t2 => ?_
    exact (q os h1).mk o2 (Tp.intsT t2)
end

theorem tw_at {α : Type} {p : α → Bool} : ∀ (l : List α) (j : Nat), j ≤ l.length → (∀ x ∈ l.take j, p x = true) → (∀ x, l[j]? = some x → p x = false) → l.takeWhile p = l.take j ∧ l.dropWhile p = l.drop j
  | [], j, _, _, _ => by simp
  | x :: l, 0, _, _, h => by
    have h2 := h x rfl
    simp [h2]
  | x :: l, j + 1, hj, h1, h2 => by
    have hx : p x = true := h1 x (by simp)
    have ih := tw_at l j (by simpa using hj) (fun y hy => h1 y (by simp [hy])) (fun y hy => h2 y (by simpa using hy))
    simp [hx, ih.1, ih.2]
abbrev S5 : Wds := wds5 ptB
theorem r_cutS {σ : L2.St} {H : Hp} {Q : Bool → Hp → Prop} {t : TT} (c : Bool) (h : t σ H fun b H' => b = c ∧ Same H H') (k : ∀ H', Same H H' → Q c H') : tCutT t σ H Q := ⟨_, h, fun v H' ⟨e, e2⟩ => by subst e; exact k H' e2⟩
theorem ref_beq_nat (a b c : Nat) (h : a ≤ b) : (a : Int) + ((b - a : Nat) : Int) = (b : Int) := by omega
section
variable {P : Program} {w : World} {K : PySem.W.Frag} {mg : Str → Option Value} {base : Heap}
def sp_off (K : PySem.W.Frag) (C : Addr) : Sp := fun vs H Q E => ∃ (a : Addr) (ws : List Wd5) (i : Nat), vs = [.ref a, .int (i : Int)] ∧ SqL K H a (txs ws) ∧ ws.length ≤ 1000000 ∧ (∀ w ∈ ws, wOk w) ∧ i ≤ ws.length ∧
  (∀ os r, pO S5 (ws.drop i) = some (os, r) → RetD K H Q (.tuple [iT os, .int ((ws.length - r.length : Nat) : Int)])) ∧ (pO S5 (ws.drop i) = none → RetE0 H E C)
theorem d_off {C_TesseraError C_InvalidDump C_InvalidExpression C_BadWord : Addr} (T : Top w K mg) (R : Errs K mg C_TesseraError C_InvalidDump C_InvalidExpression C_BadWord) : Def P w K mg base (L2N.CX P w) 4 "offsets_at" ["words", "at"] (sp_off K C_BadWord) := by
  have G_integers_in : Def P w K mg base (L2N.CX P w) 3 "integers_in" ["words"] (sp_ins K C_BadWord) := d_ins T R
  have G_is_integer_word : Def P w K mg base CX0 1 "is_integer_word" ["word"] sp_iw := d_iw T
  refine T.f_offsets_at.okN sc_offsets_at (by rintro vs H Q E ⟨a, ws, i, rfl, _⟩; rfl) (fun f cdv A outer s H vs Q E hr h => ?_)
  obtain ⟨a, ws, i, rfl, hS, hl, hw, hi, q, qe⟩ := h
  refine ⟨_, (pss_cons (ps_set (i := 2) sc_offsets_at.nd rfl (Or.inl rfl) (pv 1))
      (pss_cons (ps_while (passes_of rfl) (pt_cutT (PW.pt (pw_and (pt_cmpR op_lt (pv 2) (pe_callB (r := Evl.rLenS K) call_len_seq (by rfl) T.b_len (by decide +kernel) (pa_cons (pv 0) pa_nil)) (nomark _)) (pw_and1 (pt_val (pe_callD G_is_integer_word (hr.mono (by decide)) (pa_cons (pe_ix (r := rIxL K) ix_list (pv 0) (pv 2) (fun _ _ => rfl)) pa_nil))))))) (pss_one (ps_set (i := 2) sc_offsets_at.nd rfl (Or.inl rfl) (pe_op op_add (pv 2) pe_int))))
      (pss_one (ps_ret (pe_tup (pa_cons (pe_callN G_integers_in (L2N.takes_of rfl rfl rfl rfl) (hr.mono (by decide)) (pa_cons (pe_slice (r := rSlL K) sl_list (pv 0) (po_some (pv 1)) (po_some (pv 2))) pa_nil)) (pa_cons (pv 2) pa_nil))))))), ?_⟩
  have hll : (txs ws).length = ws.length := List.length_map _
  walk_at "rd"
  refine whileB (fun m σ' H' => ∃ j : Nat, m = ws.length - (i + j) ∧ i + j ≤ ws.length ∧ σ' = [some (.ref a), some (.int (i : Int)), some (.int ((i + j : Nat) : Int))] ∧ Same H H' ∧ ∀ w ∈ (ws.drop i).take j, iw5 w = true) (ws.length - i) ⟨0, by omega, hi, rfl, Same.refl _, by simp⟩ ?_
  rintro m σ' H' ⟨j, rfl, hij, rfl, s', hall⟩
  have hS' : SqL K H' a (txs ws) := s'.seq hS
  have el : ∀ w, ws[i + j]? = some w → (ws.drop i)[j]? = some w := fun w h => by rw [List.getElem?_drop]; exact h
  obtain ⟨c, hc⟩ : ∃ c : Bool, c = (match ws[i + j]? with | some w => iw5 w | none => false) := ⟨_, rfl⟩
  walk_at "rd"
  refine r_cutS c ?_ fun H2 s2 => ?_
  · walk_at "rd"
    rw [hll]
    by_cases h1 : i + j < ws.length
    · have hg := List.getElem?_eq_getElem h1
      have hwm := hw _ (List.mem_of_getElem? hg)
      rw [hg] at hc
      refine rif_yes (by omega) ?_
      walk_at "rd"
      refine r_ixL hS' (v := .str (tx ws[i + j])) ?_ ?_
      · exact at_map (f := fun w => V.str (tx w)) (show (0 : Int) ≤ ((i + j : Nat) : Int) by omega) hg
      walk_at "rd"
      exact ⟨_, rfl, hwm.1, hwm.2, fun H3 s3 => ⟨_, rfl, hc.symm, s3⟩⟩
    · rw [List.getElem?_eq_none (by omega)] at hc
      refine rif_no (by omega) ?_
      exact ⟨hc.symm, Same.refl _⟩
  cases c with
  | true =>
    have h1 : i + j < ws.length := by
      by_cases h1 : i + j < ws.length
      · exact h1
      · rw [List.getElem?_eq_none (by omega)] at hc; cases hc
    have hg := List.getElem?_eq_getElem h1
    rw [hg] at hc
    refine rif_t (wh_turn ?_)
    walk_at "rd"
    refine ⟨ws.length - (i + (j + 1)), by omega, j + 1, rfl, by omega, rfl, s'.trans s2, fun w hw2 => ?_⟩
    rw [List.take_add_one, el _ hg] at hw2
    rcases List.mem_append.mp hw2 with h | h
    · exact hall w h
    · rw [List.mem_singleton.mp h]; exact hc.symm
  | false =>
    have tw := tw_at (p := iw5) (ws.drop i) j (by rw [List.length_drop]; omega) hall (fun x hx => by rw [List.getElem?_drop] at hx; rw [hx] at hc; exact hc.symm)
    have o0 : Own H H2 [] := (Own.nil H).mono (s'.trans s2)
    refine rif_f ?_
    walk_at "rd"
    refine r_slLs o0 (o0.old hS) fun p H3 s3 o3 => ?_
    have e1 : cutV (txs ws) (some (i : Int)) (some ((i + j : Nat) : Int)) = txs ((ws.drop i).take j) := by
      rw [cut_both, Nat.add_sub_cancel_left]
      unfold txs
      rw [← List.map_drop, ← List.map_take]
    rw [e1] at o3
    walk_at "rd"
    have e2 : ∀ os, ((ws.drop i).take j).mapM inV5 = some os → pO S5 (ws.drop i) = some (os, ws.drop (i + j)) := fun os h => by
      unfold pO
      show ((((ws.drop i).takeWhile iw5).mapM inV5).map fun os => (os, (ws.drop i).dropWhile iw5)) = _
      rw [tw.1, tw.2, h, List.drop_drop]
      rfl
    refine ⟨p, _, rfl, o3.sqL 0 rfl, by rw [List.length_take, List.length_drop]; omega, fun w hm => hw w (List.mem_of_mem_drop (List.mem_of_mem_take hm)), fun os h => r_retD o3 fun u H4 s4 o4 t4 => ?_, fun h => ?_⟩
    · have q := q os _ (e2 os h)
      rw [List.length_drop, show ws.length - (ws.length - (i + j)) = i + j by omega] at q
      walk_at "rd"
      refine r_newTp o4 (.cons t4 (.cons (.int _) .nil)) (by show (2 : Nat) ≤ _; decide) fun p5 H5 s5 o5 t5 => ?_
      exact q.mk o5 t5
    · refine fun H4 s4 => qe ?_ _ (o3.ex.trans s4)
      unfold pO
      show ((((ws.drop i).takeWhile iw5).mapM inV5).map fun os => (os, (ws.drop i).dropWhile iw5)) = _
      rw [tw.1, h]
      rfl
end

section
variable {P : Program} {w : World} {K : PySem.W.Frag} {mg : Str → Option Value} {base : Heap}
theorem r_gLst2 {H : Hp} {σ : L2.St} {a : Addr} {x y : V} {i j : Nat} {R : L2.St → Hp → Prop} (h : SqL K H a [x, y]) (q : R ((σ.set i (some x)).set j (some y)) H) : gLst K 2 (gCons (gName i) (gCons (gName j) gNil)) (.ref a) σ H R :=
  ⟨a, [x, y], rfl, h, rfl, x, [y], rfl, y, [], rfl, rfl, q⟩
theorem def_none {x : Str} {st : Stmt} {ps : List Str} {k : Nat} (F : FunAt K mg x st ps) : Def P w K mg base CX0 k x ps (fun _ _ _ _ => False) := by
  obtain ⟨f, fd, F, hm, hbd⟩ := F.ex
  exact ⟨f, fd, ⟨fun vs H Q E h => h.elim, fun A outer s H args us vs Q E hr e0 hb hv hs => hs.elim⟩, hm, F.kp, hbd⟩
end

/-! ### expressions as data -/
def datE : Ex → PyData
  | .num n => .tuple [.str (PySem.Str.ofString "number"), .int n]
  | .path p => .tuple [.str (PySem.Str.ofString "path"), .str (tx p)]
  | .two nm a b => .tuple [.str (tx nm), datE a, datE b]
  | .pick a b c => .tuple [.str (tx wPick), datE a, datE b, datE c]
  | .shift a os => .tuple [.str (tx wShift), datE a, iT os]
theorem pE_suf {L : Nat} {ws r : List Wd5} {e : Ex} (h : pE S5 L ws = some (e, r)) : r = ws.drop (ws.length - r.length) ∧ r.length ≤ ws.length := by
  obtain ⟨_, _, h3⟩ := (pE_iff S5 L ws r e).mp h
  rw [h3, List.length_append, Nat.add_sub_cancel, List.drop_left]
  exact ⟨rfl, Nat.le_add_left _ _⟩
theorem pN_snoc (f : List Wd5 → Option (Ex × List Wd5)) : ∀ (k : Nat) (ws : List Wd5), pN f (k + 1) ws = (pN f k ws).bind fun q => (f q.2).map fun p => (q.1 ++ [p.1], p.2)
  | 0, ws => by cases h : f ws <;> simp [pN, h]
  | k + 1, ws => by
    show ((f ws).bind fun p => (pN f (k + 1) p.2).map fun q => (p.1 :: q.1, q.2)) = (((f ws).bind fun p => (pN f k p.2).map fun q => (p.1 :: q.1, q.2))).bind _
    cases h : f ws with
    | none => rfl
    | some p =>
      simp only [Option.bind_some]
      rw [pN_snoc f k p.2]
      cases h2 : pN f k p.2 with
      | none => rfl
      | some q => cases h3 : f q.2 <;> simp [h3]
theorem pN_none (f : List Wd5 → Option (Ex × List Wd5)) {k : Nat} {ws : List Wd5} (h : pN f k ws = none) : ∀ n, k ≤ n → pN f n ws = none := by
  intro n hn
  obtain ⟨d, rfl⟩ := Nat.exists_eq_add_of_le hn
  induction d with
  | zero => exact h
  | succ d ih => rw [← Nat.add_assoc, pN_snoc, ih (Nat.le_add_right _ _)]; rfl
theorem pN_len (f : List Wd5 → Option (Ex × List Wd5)) : ∀ (k : Nat) (ws r : List Wd5) (es : List Ex), pN f k ws = some (es, r) → es.length = k
  | 0, ws, r, es, h => by cases h; rfl
  | k + 1, ws, r, es, h => by
    rw [pN_snoc] at h
    cases h2 : pN f k ws with
    | none => rw [h2] at h; cases h
    | some q =>
      cases h3 : f q.2 with
      | none => rw [h2] at h; simp [h3] at h
      | some p =>
        rw [h2] at h
        simp [h3] at h
        rw [← h.1, List.length_append, pN_len f k ws q.2 q.1 h2]; rfl
section
variable {P : Program} {w : World} {K : PySem.W.Frag} {mg : Str → Option Value} {base : Heap}
def WsL (K : PySem.W.Frag) (H : Hp) (a : Addr) (ws : List Wd5) : Prop := SqL K H a (txs ws) ∧ ws.length ≤ 1000000 ∧ ∀ w ∈ ws, wOk w
/-- an expression at the place, below n levels -/
def sp_exp (K : PySem.W.Frag) (C : Addr) (n : Nat) : Sp := fun vs H Q E => ∃ (a : Addr) (ws : List Wd5) (i L : Nat), L < n ∧ vs = [.ref a, .int (i : Int), .int (L : Int)] ∧ WsL K H a ws ∧
  (∀ e r, pE S5 L (ws.drop i) = some (e, r) → RetD K H Q (.tuple [datE e, .int ((ws.length - r.length : Nat) : Int)])) ∧ (pE S5 L (ws.drop i) = none → RetE0 H E C)
def sp_parts (K : PySem.W.Frag) (C : Addr) (n : Nat) : Sp := fun vs H Q E => ∃ (a : Addr) (ws : List Wd5) (i L k : Nat), L < n ∧ vs = [.ref a, .int (i : Int), .int (L : Int), .int (k : Int)] ∧ WsL K H a ws ∧ i ≤ ws.length ∧ k ≤ 3 ∧
  (∀ es r, pN (pE S5 L) k (ws.drop i) = some (es, r) → r = ws.drop (ws.length - r.length) → r.length ≤ ws.length → ∀ H' x l us, Same H H' → H l = none → H' l = some (.lst us) → SqT K H' x [.ref l, .int ((ws.length - r.length : Nat) : Int)] → TpAll K H' us (es.map datE) → Q (.ref x) H') ∧
  (pN (pE S5 L) k (ws.drop i) = none → RetE0 H E C)
def sp_comp (K : PySem.W.Frag) (C : Addr) (n : Nat) : Sp := fun vs H Q E => ∃ (a : Addr) (ws : List Wd5) (i L : Nat), L < n ∧ vs = [.ref a, .int (i : Int), .int (L : Int)] ∧ WsL K H a ws ∧
  (∀ e r, pC S5 (pE S5 L) (ws.drop i) = some (e, r) → RetD K H Q (.tuple [datE e, .int ((ws.length - r.length : Nat) : Int)])) ∧ (pC S5 (pE S5 L) (ws.drop i) = none → RetE0 H E C)
theorem d_parts {C_TesseraError C_InvalidDump C_InvalidExpression C_BadWord : Addr} (T : Top w K mg) (R : Errs K mg C_TesseraError C_InvalidDump C_InvalidExpression C_BadWord) (n : Nat) (G_expression_at : Def P w K mg base (L2N.CX P w) (5 + 3 * n) "expression_at" ["words", "at", "levels"] (sp_exp K C_BadWord n)) :
    Def P w K mg base (L2N.CX P w) (6 + 3 * n) "parts_at" ["words", "at", "levels", "count"] (sp_parts K C_BadWord n) := by
  rw [show 6 + 3 * n = (5 + 3 * n) + 1 by omega]
  refine T.f_parts_at.okN sc_parts_at (by rintro vs H Q E ⟨a, ws, i, L, k, _, rfl, _⟩; rfl) (fun f cdv A outer s H vs Q E hr h => ?_)
  obtain ⟨a, ws, i, L, k, hL, rfl, ⟨hS, hl, hw⟩, hi, hk, q, qe⟩ := h
  refine ⟨_, (pss_cons (ps_set (i := 4) sc_parts_at.nd rfl (Or.inl rfl) (pe_lst pa_nil))
      (pss_cons (ps_set (i := 5) sc_parts_at.nd rfl (Or.inl rfl) (pv 1))
      (pss_cons (ps_for (passes_of rfl) rfl (pi_range1 (by rfl) T.b_range (pa_cons (pv 3) pa_nil)) (pg_name (i := 6) sc_parts_at.nd rfl (Or.inl rfl)) (pss_cons (ps_asg (pe_callN G_expression_at (L2N.takes_of rfl rfl rfl rfl) (hr.mono (by omega)) (pa_cons (pv 0) (pa_cons (pv 5) (pa_cons (pv 2) pa_nil)))) (pg_tup (n := 2) rfl (pgs_cons (pg_name (i := 7) sc_parts_at.nd rfl (Or.inl rfl)) (pgs_cons (pg_name (i := 5) sc_parts_at.nd rfl (Or.inl rfl)) pgs_nil))))
      (pss_one (ps_expr (pe_bm PySem.F.plainAttrs_list PySem.F.slot_list_append PySem.F.type_list_append mt_append (pv 4) (pa_cons (pv 7) pa_nil))))))
      (pss_one (ps_ret (pe_tup (pa_cons (pv 4) (pa_cons (pv 5) pa_nil)))))))), ?_⟩
  have hr : Room (5 + 3 * n) (A.deeper (envOfC "parts_at" (defScope s_parts_at) s.heap.objs.size f cdv)) := hr
  have hdl : ws.length - (ws.drop i).length = i := by rw [List.length_drop]; omega
  walk_at "rd"
  refine r_newL (Own.nil H) (by decide) fun p1 H1 o1 => ?_
  walk_at "rd"
  refine forR1 (n := k) rfl (by omega) (fun j σ' H' => ∃ (es : List Ex) (r : List Wd5) (us : List V) (v6 v7 : Option V), σ' = [some (.ref a), some (.int (i : Int)), some (.int (L : Int)), some (.int (k : Int)), some (.ref p1), some (.int ((ws.length - r.length : Nat) : Int)), v6, v7] ∧ Own H H' [(p1, .lst us)] ∧ TpAll K H' us (es.map datE) ∧
    pN (pE S5 L) j (ws.drop i) = some (es, r) ∧ r = ws.drop (ws.length - r.length) ∧ r.length ≤ ws.length) ⟨[], ws.drop i, [], none, none, by rw [hdl]; rfl, o1, .nil, rfl, by rw [hdl], by rw [List.length_drop]; omega⟩ ?_ ?_
  · rintro j σ' H' hj ⟨es, r, us, v6, v7, rfl, o', t', h1, h2, h3⟩
    have hlen := pN_len _ _ _ _ _ h1
    have hul := t'.len
    rw [List.length_map] at hul
    walk_at "rd"
    refine ⟨a, ws, ws.length - r.length, L, hL, rfl, ⟨o'.old hS, hl, hw⟩, ?_, ?_⟩
    · rw [← h2]
      intro e r2 he
      obtain ⟨h4, h5⟩ := pE_suf he
      have h6 : r2 = ws.drop (ws.length - r2.length) := by
        rw [h4, h2, List.drop_drop, List.length_drop, List.length_drop]
        congr 1
        omega
      refine r_retD o' fun u H2 s2 o2 t2 => ?_
      obtain ⟨x, xs, rfl, hx, hxs⟩ := t2.inv
      cases hxs with
      | cons ha hxs =>
        cases hxs with
        | cons hb hxs =>
          cases hxs
          cases hb
          refine r_gTup2 hx ?_
          walk_at "rd"
          refine r_apps o2 0 rfl (by omega) fun H3 s3 o3 => ?_
          exact ⟨es ++ [e], r2, _, _, _, rfl, o3, by rw [List.map_append]; exact ((t'.up (.of s2)).snoc ha).up s3, by rw [pN_snoc, h1]; simp [he], h6, by omega⟩
    · rw [← h2]
      intro he H2 s2
      refine qe (pN_none _ (k := j + 1) ?_ _ hj) _ (o'.ex.trans s2)
      rw [pN_snoc, h1]
      simp [he]
  · rintro σ' H' ⟨es, r, us, v6, v7, rfl, o', t', h1, h2, h3⟩
    walk_at "rd"
    refine r_newTs (K := K) o' (by show (2 : Nat) ≤ _; decide) fun x H2 s2 o2 x2 => ?_
    exact q es r h1 h2 h3 _ _ _ us o2.ex (o2.fresh 0 rfl) (o2.at 0 rfl) x2 (t'.up s2)
end

def PCS : List (Str × Int) := [(PySem.Str.ofString "add", 2), (PySem.Str.ofString "sub", 2), (PySem.Str.ofString "mul", 2), (PySem.Str.ofString "min", 2), (PySem.Str.ofString "max", 2), (PySem.Str.ofString "less", 2), (PySem.Str.ofString "pick", 3)]
theorem PCS_tx : PCS = [(tx [97, 100, 100], 2), (tx [115, 117, 98], 2), (tx [109, 117, 108], 2), (tx [109, 105, 110], 2), (tx [109, 97, 120], 2), (tx [108, 101, 115, 115], 2), (tx wPick, 3)] := by decide
theorem tx_shift : PySem.Str.ofString "shift" = tx wShift := by decide
theorem tx_begin : PySem.Str.ofString "(" = tx wB := by decide
theorem tx_end : PySem.Str.ofString ")" = tx wE := by decide
theorem tx_at : PySem.Str.ofString "@" = tx [64] := by decide
theorem lookup_tx (nm k : Wd5) (v : Int) (r : List (Str × Int)) : List.lookup (tx nm) ((tx k, v) :: r) = if nm = k then some v else List.lookup (tx nm) r := by
  rw [List.lookup_cons]
  by_cases h : nm = k
  · rw [if_pos h, h, show (tx k == tx k) = true from beq_self_eq_true _]
  · rw [if_neg h, show (tx nm == tx k) = false from beq_false_of_ne fun e => h (tx_inj.mp e)]
theorem pcs_cnt (nm : Wd5) : (nm ≠ wShift → (PCS.lookup (tx nm)).isSome = (cnt nm).isSome) ∧ (∀ n, cnt nm = some n → (PCS.lookup (tx nm)).getD 1 = (n : Int)) := by
  rw [PCS_tx]
  simp only [lookup_tx]
  unfold cnt TWO
  by_cases h0 : nm = wShift
  · subst h0
    refine ⟨fun h => absurd rfl h, fun n hn => ?_⟩
    rw [if_pos rfl] at hn
    cases hn
    decide
  by_cases h1 : nm = [97, 100, 100]
  · subst h1; exact ⟨fun _ => by decide, fun n hn => by cases hn; decide⟩
  by_cases h2 : nm = [115, 117, 98]
  · subst h2; exact ⟨fun _ => by decide, fun n hn => by cases hn; decide⟩
  by_cases h3 : nm = [109, 117, 108]
  · subst h3; exact ⟨fun _ => by decide, fun n hn => by cases hn; decide⟩
  by_cases h4 : nm = [109, 105, 110]
  · subst h4; exact ⟨fun _ => by decide, fun n hn => by cases hn; decide⟩
  by_cases h5 : nm = [109, 97, 120]
  · subst h5; exact ⟨fun _ => by decide, fun n hn => by cases hn; decide⟩
  by_cases h6 : nm = [108, 101, 115, 115]
  · subst h6; exact ⟨fun _ => by decide, fun n hn => by cases hn; decide⟩
  by_cases h7 : nm = wPick
  · subst h7; exact ⟨fun _ => by decide, fun n hn => by cases hn; decide⟩
  · simp [h0, h1, h2, h3, h4, h5, h6, h7]
theorem suf_trans {α : Type} {ws r r4 : List α} {a b : Nat} (h1 : r = ws.drop a) (h2 : r4 = r.drop b) (e : a + b = ws.length - r4.length) : r4 = ws.drop (ws.length - r4.length) := by
  rw [← e, h2, h1, List.drop_drop]
theorem cnt_shift : cnt wShift = some 1 := rfl
theorem mkE_ok {nm : Wd5} {os : List Int} {es : List Ex} (h : cnt nm = some es.length) : ∃ e, mkE nm os es = some e ∧ datE e = .tuple (.str (tx nm) :: (es.map datE ++ if nm = wShift then [iT os] else [])) := by
  unfold cnt at h
  by_cases h0 : nm = wShift
  · rw [if_pos h0] at h
    match es, h with
    | [a], _ => exact ⟨.shift a os, by simp [mkE, h0], by rw [if_pos h0, h0]; rfl⟩
    | [], h => cases h
    | _ :: _ :: es, h => cases h
  rw [if_neg h0] at h
  by_cases h1 : nm ∈ TWO
  · rw [if_pos h1] at h
    match es, h with
    | [a, b], _ => exact ⟨.two nm a b, by simp [mkE, h1], by rw [if_neg h0]; rfl⟩
    | [], h => cases h
    | [_], h => cases h
    | _ :: _ :: _ :: es, h => simp at h
  rw [if_neg h1] at h
  by_cases h2 : nm = wPick
  · rw [if_pos h2] at h
    match es, h with
    | [a, b, c], _ => exact ⟨.pick a b c, by simp [mkE, h2], by rw [if_neg h0, h2]; rfl⟩
    | [], h => cases h
    | [_], h => cases h
    | [_, _], h => cases h
    | _ :: _ :: _ :: _ :: es, h => simp at h
  · rw [if_neg h2] at h; cases h
section
variable {P : Program} {w : World} {K : PySem.W.Frag} {mg : Str → Option Value} {base : Heap}
theorem d_comp {C_TesseraError C_InvalidDump C_InvalidExpression C_BadWord : Addr} (T : Top w K mg) (R : Errs K mg C_TesseraError C_InvalidDump C_InvalidExpression C_BadWord) (n : Nat) (G_parts_at : Def P w K mg base (L2N.CX P w) (6 + 3 * n) "parts_at" ["words", "at", "levels", "count"] (sp_parts K C_BadWord n)) :
    Def P w K mg base (L2N.CX P w) (7 + 3 * n) "composed_at" ["words", "at", "levels"] (sp_comp K C_BadWord n) := by
  rw [show 7 + 3 * n = (6 + 3 * n) + 1 by omega]
  have G_require : Def P w K mg base (L2N.CX P w) 1 "require" ["holds"] (sp_req C_BadWord) := d_req T R
  have G_word_at : Def P w K mg base (L2N.CX P w) 2 "word_at" ["words", "at"] (sp_word K C_BadWord) := d_word T R
  have G_offsets_at : Def P w K mg base (L2N.CX P w) 4 "offsets_at" ["words", "at"] (sp_off K C_BadWord) := d_off T R
  obtain ⟨a_PART_COUNTS, g_PART_COUNTS, kd⟩ := T.g_PART_COUNTS
  obtain ⟨t1, g_END⟩ := T.g_END
  refine T.f_composed_at.okN sc_composed_at (by rintro vs H Q E ⟨a, ws, i, L, _, rfl, _⟩; rfl) (fun f cdv A outer s H vs Q E hr h => ?_)
  obtain ⟨a, ws, i, L, hL, rfl, ⟨hS, hl, hw⟩, q, qe⟩ := h
  refine ⟨_, (pss_cons (ps_set (i := 3) sc_composed_at.nd rfl (Or.inl rfl) (pe_callN G_word_at (L2N.takes_of rfl rfl rfl rfl) (hr.mono (by omega)) (pa_cons (pv 0) (pa_cons (pv 1) pa_nil))))
      (pss_cons (ps_expr (pe_callN G_require (L2N.takes_of rfl rfl rfl rfl) (hr.mono (by omega)) (pa_cons (pe_cutE (pe_or (pe_cmpR op_eq (pv 3) pe_str (nomark _)) (pe_one (pe_cmpR (r := rInKD K w) op_inKD (pv 3) (pe_glob (v := .ref a_PART_COUNTS) rfl g_PART_COUNTS rfl) rfl)))) pa_nil)))
      (pss_cons (ps_asg (pe_callN G_parts_at (L2N.takes_of rfl rfl rfl rfl) (hr.mono (by omega)) (pa_cons (pv 0) (pa_cons (pe_op op_add (pv 1) pe_int) (pa_cons (pv 2) (pa_cons (pe_kget (pe_glob (v := .ref a_PART_COUNTS) rfl g_PART_COUNTS rfl) (pv 3) pe_int ⟨rfl, rfl, rfl, rfl⟩) pa_nil))))) (pg_tup (n := 2) rfl (pgs_cons (pg_name (i := 4) sc_composed_at.nd rfl (Or.inl rfl)) (pgs_cons (pg_name (i := 5) sc_composed_at.nd rfl (Or.inl rfl)) pgs_nil))))
      (Evl.pss_cut (ps_if (pt_cmpR op_eq (pv 3) pe_str (nomark _)) (pss_cons (ps_asg (pe_callN G_offsets_at (L2N.takes_of rfl rfl rfl rfl) (hr.mono (by omega)) (pa_cons (pv 0) (pa_cons (pv 5) pa_nil))) (pg_tup (n := 2) rfl (pgs_cons (pg_name (i := 6) sc_composed_at.nd rfl (Or.inl rfl)) (pgs_cons (pg_name (i := 5) sc_composed_at.nd rfl (Or.inl rfl)) pgs_nil))))
      (pss_one (ps_expr (pe_bm PySem.F.plainAttrs_list PySem.F.slot_list_append PySem.F.type_list_append mt_append (pv 4) (pa_cons (pv 6) pa_nil))))) pss_nil)
      (pss_cons (ps_expr (pe_callN G_require (L2N.takes_of rfl rfl rfl rfl) (hr.mono (by omega)) (pa_cons (pe_cmpR op_eq (pe_callN G_word_at (L2N.takes_of rfl rfl rfl rfl) (hr.mono (by omega)) (pa_cons (pv 0) (pa_cons (pv 5) pa_nil))) (pe_glob (v := .str (PySem.Str.ofString ")")) rfl g_END ⟨_, rfl⟩) (nomark _)) pa_nil)))
      (pss_one (ps_ret (pe_tup (pa_cons (pe_callTy (r := rTupS K) call_tuple_of (by rfl) T.b_tuple (by decide +kernel) (pa_cons (pe_op op_cat (pe_lst (pa_cons (pv 3) pa_nil)) (pv 4)) pa_nil)) (pa_cons (pe_op op_add (pv 5) pe_int) pa_nil)))))))))), ?_⟩
  have hr : Room (6 + 3 * n) (A.deeper (envOfC "composed_at" (defScope s_composed_at) s.heap.objs.size f cdv)) := hr
  walk_at "rd"
  refine ⟨a, ws, i, rfl, hS, hl, fun nm hnm H1 s1 => ?_, fun hlen => qe (by rw [List.drop_eq_nil_of_le hlen]; rfl)⟩
  have hi : i < ws.length := (List.getElem?_eq_some_iff.mp hnm).1
  have hdrop : ws.drop i = nm :: ws.drop (i + 1) := by rw [List.drop_eq_getElem_cons hi, (List.getElem?_eq_some_iff.mp hnm).2]
  rw [hdrop, pC_cons] at q qe
  have o1 := (Own.nil H).mono s1
  have hS1 := o1.old hS
  have hpc := pcs_cnt nm
  walk_at "rd"
  refine r_cutO (H0 := H1) (.bl (cnt nm).isSome) [] ?_ fun H2 o2 => ?_
  · walk_at "rd"
    rw [tx_shift, dec_tx]
    refine rif (fun h => ?_) fun h => ?_
    · exact ⟨by rw [h]; rfl, Own.nil H1⟩
    · walk_at "rd"
      refine ⟨_, _, _, rfl, rfl, kd, ?_⟩
      exact ⟨by rw [show [(PySem.Str.ofString "add", (2 : Int)), (PySem.Str.ofString "sub", 2), (PySem.Str.ofString "mul", 2), (PySem.Str.ofString "min", 2), (PySem.Str.ofString "max", 2), (PySem.Str.ofString "less", 2), (PySem.Str.ofString "pick", 3)] = PCS from rfl, hpc.1 h], Own.nil H1⟩
  have o2 := o1.mono o2.ex
  walk_at "rd"
  cases hk : cnt nm with
  | none =>
    rw [hk] at qe
    exact ⟨false, rfl, (fun h => by cases h), fun _ H3 s3 => qe rfl _ (o2.ex.trans s3)⟩
  | some k =>
  rw [hk] at q qe
  have hk3 : k ≤ 3 := by
    unfold cnt at hk
    split at hk
    · cases hk; decide
    · split at hk
      · cases hk; decide
      · split at hk
        · cases hk; decide
        · cases hk
  refine ⟨true, rfl, fun _ => ?_, fun h => by cases h⟩
  walk_at "rd"
  refine ⟨_, _, rfl, kd, ?_⟩
  walk_at "rd"
  refine ⟨_, _, rfl, rfl, ?_⟩
  rw [show ([(PySem.Str.ofString "add", (2 : Int)), (PySem.Str.ofString "sub", 2), (PySem.Str.ofString "mul", 2), (PySem.Str.ofString "min", 2), (PySem.Str.ofString "max", 2), (PySem.Str.ofString "less", 2), (PySem.Str.ofString "pick", 3)] : List (Str × Int)) = PCS from rfl, hpc.2 k hk]
  walk_at "rd"
  refine ⟨a, ws, i + 1, L, k, hL, rfl, ⟨o2.old hS, hl, hw⟩, hi, hk3, fun es r hes h2 h3 H3 x l us s3 hl3 hu hx t3 => ?_, fun hno H3 s3 => qe (by rw [Option.bind_some, hno]; rfl) _ (o2.ex.trans s3)⟩
  have o3 := o2.add s3 hl3 hu
  have hlen := pN_len _ _ _ _ _ hes
  have hul := t3.len
  rw [List.length_map] at hul
  rw [Option.bind_some, hes, Option.bind_some] at q qe
  refine r_gTup2 hx ?_
  obtain ⟨os, hos⟩ : ∃ os : List Int, nm ≠ wShift → os = [] := ⟨[], fun _ => rfl⟩
  refine ⟨fun σ4 H4 => ∃ (os : List Int) (r4 : List Wd5) (us4 : List V) (v6 : Option V), σ4 = [some (.ref a), some (.int (i : Int)), some (.int (L : Int)), some (.str (tx nm)), some (.ref l), some (.int ((ws.length - r4.length : Nat) : Int)), v6] ∧ Own H H4 [(l, .lst us4)] ∧
    TpAll K H4 us4 (es.map datE ++ if nm = wShift then [iT os] else []) ∧ r4 = ws.drop (ws.length - r4.length) ∧ r4.length ≤ ws.length ∧
    (∀ e r, pEnd (mkE nm os es) r4 = some (e, r) → RetD K H Q (.tuple [datE e, .int ((ws.length - r.length : Nat) : Int)])) ∧ (pEnd (mkE nm os es) r4 = none → RetE0 H E C_BadWord), ?_, ?_⟩
  · walk_at "rd"
    rw [tx_shift, dec_tx]
    refine rif (fun h => ?_) fun h => ?_
    · rw [if_pos h] at q qe
      walk_at "rd"
      refine ⟨a, ws, ws.length - r.length, rfl, o3.old hS, hl, hw, Nat.sub_le _ _, fun os r4 hos => ?_, fun hno H4 s4 => ?_⟩
      · rw [← h2] at hos
        rw [hos, Option.bind_some] at q qe
        have hsf : r4 = ws.drop (ws.length - r4.length) ∧ r4.length ≤ ws.length := by
          have e1 : ((r.takeWhile iw5).mapM inV5).map (fun os => (os, r.dropWhile iw5)) = some (os, r4) := hos
          have e2 : r4 = r.dropWhile iw5 := by
            cases hm : (r.takeWhile iw5).mapM inV5 with
            | none => rw [hm] at e1; cases e1
            | some z => rw [hm] at e1; cases e1; rfl
          have e3 : r = r.takeWhile iw5 ++ r4 := by rw [e2, List.takeWhile_append_dropWhile]
          have e4 : r4 = r.drop (r.length - r4.length) := by
            have := congrArg List.length e3
            rw [List.length_append] at this
            have e6 : (r.takeWhile iw5 ++ r4).drop (r.takeWhile iw5).length = r4 := List.drop_left
            rw [← e3] at e6
            rw [show r.length - r4.length = (r.takeWhile iw5).length by omega]
            exact e6.symm
          have e5 : r4.length ≤ r.length := by
            have := congrArg List.length e3
            rw [List.length_append] at this
            omega
          exact ⟨suf_trans h2 e4 (by omega), by omega⟩
        refine r_retD o3 fun u H4 s4 o4 t4 => ?_
        obtain ⟨y, ys, rfl, hy, hys⟩ := t4.inv
        cases hys with
        | cons ha hys =>
          cases hys with
          | cons hb hys =>
            cases hys
            cases hb
            refine r_gTup2 hy ?_
            walk_at "rd"
            refine r_apps o4 0 rfl (by omega) fun H5 s5 o5 => ?_
            exact ⟨os, r4, _, _, rfl, o5, by rw [if_pos h]; exact ((t3.up (.of s4)).snoc ha).up s5, hsf.1, hsf.2, q, qe⟩
      · rw [← h2] at hno
        rw [hno] at qe
        exact qe rfl _ (o3.ex.trans s4)
    · rw [if_neg h] at q qe
      walk_at "rd"
      exact ⟨[], r, us, none, rfl, o3, by rw [if_neg h, List.append_nil]; exact t3, h2, h3, q, qe⟩
  rintro σ4 H4 ⟨os, r4, us4, v6, rfl, o4, t4, h4, h5, q, qe⟩
  obtain ⟨e5, he5, hd5⟩ := mkE_ok (nm := nm) (os := os) (es := es) (by rw [hk, hlen])
  rw [he5] at q qe
  walk_at "rd"
  refine ⟨a, ws, ws.length - r4.length, rfl, o4.old hS, hl, fun w5 hw5 H5 s5 => ?_, fun hlen5 => ?_⟩
  · have hr4 : r4 = w5 :: r4.drop 1 := by
      have hlt := (List.getElem?_eq_some_iff.mp hw5).1
      have h7 : ws.drop (ws.length - r4.length) = w5 :: ws.drop (ws.length - r4.length + 1) := by rw [List.drop_eq_getElem_cons hlt, (List.getElem?_eq_some_iff.mp hw5).2]
      rw [← h4] at h7
      rw [h7]
      rfl
    rw [hr4, pEnd_cons] at q qe
    have o5 := o4.mono s5
    walk_at "rd"
    rw [tx_end, dec_tx]
    refine ⟨_, rfl, fun hb => ?_, fun hb => ?_⟩
    · have hb := of_decide_eq_true hb
      rw [if_pos hb] at q
      have q := q e5 (r4.drop 1) rfl
      have t6 := t4.up (.of s5)
      walk_at "rd"
      refine r_newLs o5 (by show (1 : Nat) ≤ _; decide) fun p7 H7 s7 o7 => ?_
      walk_at "rd"
      refine r_cats o7 (o7.at 0 rfl) (o7.at 1 rfl) (by have := t4.len; rw [List.length_append, List.length_map] at this; simp at this ⊢; split at this <;> simp at this <;> omega) fun p8 H8 s8 o8 => ?_
      walk_at "rd"
      refine r_tupLs o8 (o8.sqL 0 rfl) fun p9 H9 s9 o9 t9 => ?_
      walk_at "rd"
      have td : Tp K H9 (.ref p9) (datE e5) := by
        rw [hd5]
        exact .tup t9 (.cons (.str _) (((t6.up s7).up s8).up s9))
      refine r_newTp o9 (.cons td (.cons (.int _) .nil)) (by show (2 : Nat) ≤ _; decide) fun p10 H10 s10 o10 t10 => ?_
      have hl1 : 1 ≤ r4.length := by rw [hr4]; simp
      rw [List.length_drop, show ((ws.length - (r4.length - 1) : Nat) : Int) = ((ws.length - r4.length : Nat) : Int) + 1 by omega] at q
      exact q.mk o10 t10
    · have hb := of_decide_eq_false hb
      rw [if_neg hb] at qe
      exact fun H6 s6 => qe rfl _ (o5.ex.trans s6)
  · have h0 : r4 = [] := by rw [h4, List.drop_eq_nil_of_le hlen5]
    rw [h0] at qe
    exact fun H6 s6 => qe rfl _ (o4.ex.trans s6)
end

theorem pE_comp (L : Nat) (ws : List Wd5) : pE S5 (L + 1) (wB :: ws) = pC S5 (pE S5 L) ws := by rw [pE_cons, if_pos rfl]
theorem pE_path (L : Nat) (p : Wd5) (ws : List Wd5) : pE S5 (L + 1) ((64 :: p) :: ws) = if S5.pt p = true then some (.path p, ws) else none := by
  rw [pE_cons, if_neg (fun h => by cases (List.cons.inj h).1)]
  rfl
theorem pE_num (L : Nat) (cs : Wd5) (ws : List Wd5) (hB : ¬ cs = wB) (hA : ¬ cs.take [64].length = [64]) : pE S5 (L + 1) (cs :: ws) = (inV5 cs).map fun n => (.num n, ws) := by
  rw [pE_cons, if_neg hB]
  split
  · exact absurd rfl hA
  · rfl
section
variable {P : Program} {w : World} {K : PySem.W.Frag} {mg : Str → Option Value} {base : Heap}
theorem def_noneN {x : Str} {st : Stmt} {ps : List Str} {k : Nat} {sp : Sp} (F : FunAt K mg x st ps) (hsp : ∀ vs H Q E, sp vs H Q E → False) : Def P w K mg base (L2N.CX P w) k x ps sp := by
  obtain ⟨f, fd, F, hm, hbd⟩ := F.ex
  exact ⟨f, fd, ⟨fun vs H Q E h => (hsp _ _ _ _ h).elim, fun A outer s H args us vs Q E hr e0 hb hv hs => (hsp _ _ _ _ hs).elim⟩, hm, F.kp, hbd⟩
theorem d_exp {C_TesseraError C_InvalidDump C_InvalidExpression C_BadWord : Addr} (T : Top w K mg) (R : Errs K mg C_TesseraError C_InvalidDump C_InvalidExpression C_BadWord) : ∀ n : Nat, Def P w K mg base (L2N.CX P w) (5 + 3 * n) "expression_at" ["words", "at", "levels"] (sp_exp K C_BadWord n) := by
  intro n
  have G_require : Def P w K mg base (L2N.CX P w) 1 "require" ["holds"] (sp_req C_BadWord) := d_req T R
  have G_word_at : Def P w K mg base (L2N.CX P w) 2 "word_at" ["words", "at"] (sp_word K C_BadWord) := d_word T R
  have G_integer_in : Def P w K mg base (L2N.CX P w) 2 "integer_in" ["word"] (sp_inV C_BadWord) := d_inV T R
  have G_is_path : Def P w K mg base CX0 2 "is_path" ["path"] sp_is_path := d_is_path T
  obtain ⟨t1, g_BEGIN⟩ := T.g_BEGIN
  obtain ⟨t2, g_PATH_SIGN⟩ := T.g_PATH_SIGN
  induction n with
  | zero => exact def_noneN T.f_expression_at fun vs H Q E ⟨_, _, _, _, h, _⟩ => absurd h (Nat.not_lt_zero _)
  | succ n ih =>
    have G_composed_at := d_comp T R n (d_parts T R n ih)
    rw [show 5 + 3 * (n + 1) = (7 + 3 * n) + 1 by omega]
    refine T.f_expression_at.okN sc_expression_at (by rintro vs H Q E ⟨a, ws, i, L, _, rfl, _⟩; rfl) (fun f cdv A outer s H vs Q E hr h => ?_)
    obtain ⟨a, ws, i, L, hL, rfl, ⟨hS, hl, hw⟩, q, qe⟩ := h
    refine ⟨_, (pss_cons (ps_expr (pe_callN G_require (L2N.takes_of rfl rfl rfl rfl) (hr.mono (by omega)) (pa_cons (pe_cmpR op_gt (pv 2) pe_int (nomark _)) pa_nil)))
      (pss_cons (ps_set (i := 3) sc_expression_at.nd rfl (Or.inl rfl) (pe_callN G_word_at (L2N.takes_of rfl rfl rfl rfl) (hr.mono (by omega)) (pa_cons (pv 0) (pa_cons (pv 1) pa_nil))))
      (pss_cons (ps_if (pt_cmpR op_eq (pv 3) (pe_glob (v := .str (PySem.Str.ofString "(")) rfl g_BEGIN ⟨_, rfl⟩) (nomark _)) (pss_one (ps_ret (pe_callN G_composed_at (L2N.takes_of rfl rfl rfl rfl) (hr.mono (by omega)) (pa_cons (pv 0) (pa_cons (pe_op op_add (pv 1) pe_int) (pa_cons (pe_op op_sub (pv 2) pe_int) pa_nil)))))) pss_nil)
      (pss_cons (ps_if (pt_val (pe_bmK (K := K) rfl PySem.F.plainAttrs_str PySem.F.slot_str_startswith PySem.F.type_str_startswith mt_startswith (pv 3) (pa_cons (pe_glob (v := .str (PySem.Str.ofString "@")) rfl g_PATH_SIGN ⟨_, rfl⟩) pa_nil))) (pss_cons (ps_set (i := 4) sc_expression_at.nd rfl (Or.inl rfl) (pe_bmK (K := K) rfl PySem.F.plainAttrs_str PySem.F.slot_str_removeprefix PySem.F.type_str_removeprefix mt_removeprefix (pv 3) (pa_cons (pe_glob (v := .str (PySem.Str.ofString "@")) rfl g_PATH_SIGN ⟨_, rfl⟩) pa_nil)))
      (pss_cons (ps_expr (pe_callN G_require (L2N.takes_of rfl rfl rfl rfl) (hr.mono (by omega)) (pa_cons (pe_callD G_is_path (hr.mono (by omega)) (pa_cons (pv 4) pa_nil)) pa_nil)))
      (pss_one (ps_ret (pe_tup (pa_cons (pe_tup (pa_cons pe_str (pa_cons (pv 4) pa_nil))) (pa_cons (pe_op op_add (pv 1) pe_int) pa_nil))))))) pss_nil)
      (pss_one (ps_ret (pe_tup (pa_cons (pe_tup (pa_cons pe_str (pa_cons (pe_callN G_integer_in (L2N.takes_of rfl rfl rfl rfl) (hr.mono (by omega)) (pa_cons (pv 3) pa_nil)) pa_nil))) (pa_cons (pe_op op_add (pv 1) pe_int) pa_nil))))))))), ?_⟩
    have hr : Room (7 + 3 * n) (A.deeper (envOfC "expression_at" (defScope s_expression_at) s.heap.objs.size f cdv)) := hr
    walk_at "rd"
    refine ⟨_, rfl, fun hb => ?_, fun hb => ?_⟩
    case refine_2 =>
      have h0 : L = 0 := by have := of_decide_eq_false hb; omega
      subst h0
      exact qe rfl
    obtain ⟨L, rfl⟩ : ∃ M, L = M + 1 := ⟨L - 1, by have := of_decide_eq_true hb; omega⟩
    walk_at "rd"
    refine ⟨a, ws, i, rfl, hS, hl, fun cs hcs H1 s1 => ?_, fun hlen => qe (by rw [List.drop_eq_nil_of_le hlen]; rfl)⟩
    have hi : i < ws.length := (List.getElem?_eq_some_iff.mp hcs).1
    have hdrop : ws.drop i = cs :: ws.drop (i + 1) := by rw [List.drop_eq_getElem_cons hi, (List.getElem?_eq_some_iff.mp hcs).2]
    have hdl : ((ws.length - (ws.drop (i + 1)).length : Nat) : Int) = (i : Int) + 1 := by rw [List.length_drop]; omega
    rw [hdrop] at q qe
    have hc := hw cs (List.mem_of_getElem? hcs)
    have o1 := (Own.nil H).mono s1
    walk_at "rd"
    rw [tx_begin, dec_tx]
    refine rif (fun hB => ?_) fun hB => ?_
    · subst hB
      rw [pE_comp] at q qe
      walk_at "rd"
      refine ⟨a, ws, i + 1, L, by omega, ?_, ⟨o1.old hS, hl, hw⟩, ?_, ?_⟩
      · rw [show (((L + 1 : Nat) : Int) - 1) = (L : Int) by omega]; rfl
      · intro e r he H2 v s2 t2
        exact q e r he _ _ (o1.ex.trans s2) t2
      · intro he H2 s2
        exact qe he _ (o1.ex.trans s2)
    · walk_at "rd"
      refine ⟨ty_strV, ?_⟩
      walk_at "rd"
      refine ⟨_, _, rfl, rfl, ?_⟩
      rw [tx_at, sw_tx]
      walk_at "rd"
      refine rif (fun hA => ?_) fun hA => ?_
      · obtain ⟨p, rfl⟩ : ∃ p, cs = 64 :: p := by
          cases cs with
          | nil => cases hA
          | cons c p =>
            have hA : [c] = [64] := hA
            exact ⟨p, by rw [(List.cons.inj hA).1]⟩
        rw [pE_path] at q qe
        walk_at "rd"
        refine ⟨ty_strV, ?_⟩
        walk_at "rd"
        refine ⟨_, _, rfl, rfl, by rw [tx_len]; exact Nat.le_trans hc.1 (by decide), ?_⟩
        rw [rp_tx, show dropK 64 (64 :: p) = p from if_pos (c := (64 : Nat) = 64) (t := p) (e := 64 :: p) rfl]
        walk_at "rd"
        refine ⟨p, rfl, by have := hc.1; rw [List.length_cons] at this; omega, fun H2 s2 => ?_⟩
        walk_at "rd"
        refine ⟨_, rfl, fun hp => ?_, fun hp => ?_⟩
        · rw [if_pos (show S5.pt p = true from hp)] at q
          have q := q _ _ rfl
          rw [hdl] at q
          have o2 := o1.mono s2
          walk_at "rd"
          refine r_newTp (K := K) o2 (.cons (.str _) (.cons (.str _) .nil)) (by show (2 : Nat) ≤ _; decide) fun x3 H3 s3 o3 t3 => ?_
          walk_at "rd"
          refine r_newTp o3 (.cons t3 (.cons (.int _) .nil)) (by show (2 : Nat) ≤ _; decide) fun x4 H4 s4 o4 t4 => ?_
          exact q.mk o4 t4
        · rw [if_neg (show ¬ S5.pt p = true from fun h => by rw [show S5.pt p = ptB p from rfl, hp] at h; cases h)] at qe
          exact fun H3 s3 => qe rfl _ ((o1.ex.trans s2).trans s3)
      · rw [pE_num _ _ _ hB hA] at q qe
        walk_at "rd"
        refine ⟨cs, rfl, hc.1, hc.2, fun n0 hn0 H2 s2 => ?_, fun hn0 H2 s2 => ?_⟩
        · rw [hn0] at q
          have q := q _ _ rfl
          rw [hdl] at q
          have o2 := o1.mono s2
          walk_at "rd"
          refine r_newTp (K := K) o2 (.cons (.str _) (.cons (.int _) .nil)) (by show (2 : Nat) ≤ _; decide) fun x3 H3 s3 o3 t3 => ?_
          walk_at "rd"
          refine r_newTp o3 (.cons t3 (.cons (.int _) .nil)) (by show (2 : Nat) ≤ _; decide) fun x4 H4 s4 o4 t4 => ?_
          exact q.mk o4 t4
        · rw [hn0] at qe
          exact qe rfl _ (o1.ex.trans s2)
end

def sp5 (cs : List Nat) : List Wd5 := (Txt.split (tx cs) (tx [32])).map fun s => s.cps.toList
theorem txs_sp5 (cs : List Nat) : txs (sp5 cs) = (Txt.split (tx cs) (tx [32])).map V.str := by
  unfold txs sp5
  rw [List.map_map]
  exact List.map_congr_left fun s _ => congrArg V.str (tx_of s)
theorem tx_spc : PySem.Str.ofString " " = tx [32] := by decide
section
variable {P : Program} {w : World} {K : PySem.W.Frag} {mg : Str → Option Value} {base : Heap}
def sp_parse (K : PySem.W.Frag) (C : Addr) : Sp := fun vs H Q E => ∃ (cs : List Nat), vs = [.str (tx cs)] ∧ cs.length ≤ 100000 ∧ (∀ w ∈ sp5 cs, wOk w) ∧
  (∀ e, pE S5 12 (sp5 cs) = some (e, []) → RetD K H Q (datE e)) ∧ ((∀ e, pE S5 12 (sp5 cs) ≠ some (e, [])) → RetE0 H E C)
theorem d_parse {C_TesseraError C_InvalidDump C_InvalidExpression C_BadWord : Addr} (T : Top w K mg) (R : Errs K mg C_TesseraError C_InvalidDump C_InvalidExpression C_BadWord) : Def P w K mg base (L2.CX P w) 45 "parse_expression" ["text"] (sp_parse K C_InvalidExpression) := by
  have G_require : Def P w K mg base (L2N.CX P w) 1 "require" ["holds"] (sp_req C_BadWord) := d_req T R
  have G_expression_at : Def P w K mg base (L2N.CX P w) 44 "expression_at" ["words", "at", "levels"] (sp_exp K C_BadWord 13) := d_exp T R 13
  obtain ⟨t1, g_SPACE⟩ := T.g_SPACE
  obtain ⟨t2, g_DEEPEST⟩ := T.g_DEEPEST
  refine T.f_parse_expression.okX sc_parse_expression (by rintro vs H Q E ⟨cs, rfl, _⟩; rfl) (fun f cdv A outer s H vs Q E hr h => ?_)
  obtain ⟨cs, rfl, hl, hw, q, qe⟩ := h
  refine ⟨_, (pss_cons (ps_set (i := 1) sc_parse_expression.nd rfl (Or.inl rfl) (pe_split (pv 0) (pe_glob (v := .str (PySem.Str.ofString " ")) rfl g_SPACE ⟨_, rfl⟩)))
      (pss_cons (ps_tryO (Wout := fun cls d _ H => E cls d H) rfl rfl ⟨rfl, by decide, Or.inl R.c_BadWord.at_⟩ (fun hd => L2H.passesAt_of rfl hd) (L2.takes_of rfl rfl rfl rfl) (fun W pn xe tk po => (pss_cons (ps_asg (pe_callN G_expression_at tk (hr.mono (by decide)) (pa_cons (pv 1) (pa_cons pe_int (pa_cons (pe_glob (v := .int 12) rfl g_DEEPEST ⟨_, rfl⟩) pa_nil)))) (pg_tupK (K := K) (n := 2) rfl rfl (pgs_cons (pg_name (i := 2) sc_parse_expression.nd rfl (Or.inl rfl)) (pgs_cons (pg_name (i := 3) sc_parse_expression.nd rfl (Or.inl rfl)) pgs_nil))))
      (pss_one (ps_expr (pe_callN G_require tk (hr.mono (by decide)) (pa_cons (pe_cmpR op_eq (pv 3) (pe_callB (r := Evl.rLenS K) call_len_seq (by rfl) T.b_len (by decide +kernel) (pa_cons (pv 1) pa_nil)) (nomark _)) pa_nil)))))) (fun a oe cls d pn hz hf tkS hot => (pss_one (ps_raiseF hot tkS (pmk5_e0 R.c_InvalidExpression R.p_InvalidExpression)))))
      (pss_one (ps_ret (pv 2))))), ?_⟩
  walk_at "rd"
  rw [tx_spc]
  refine r_joinE ?_
  walk_at "rd"
  refine ⟨⟨_, rfl⟩, ?_⟩
  walk_at "rd"
  have hpl := PyProof.Rows.split_le (tx cs) (tx [32])
  rw [tx_len] at hpl
  refine ⟨_, _, rfl, rfl, rfl, sz100 (by rw [tx_len]; omega), fun p1 hp1 => ?_⟩
  have o1 := (Own.nil H).new (u := .lst ((Txt.split (tx cs) (tx [32])).map V.str)) hp1
  have hsl : (sp5 cs).length = (Txt.split (tx cs) (tx [32])).length := List.length_map _
  rw [← txs_sp5] at o1 ⊢
  rw [← hsl] at hpl
  generalize sp5 cs = ws at q qe hw hpl o1 ⊢
  generalize upd H p1 (.lst (txs ws)) = H1 at o1 ⊢
  walk_at "rd"
  have hw0 : ws.drop 0 = ws := rfl
  refine ⟨p1, ws, 0, 12, by decide, rfl, ⟨o1.sqL 0 rfl, by omega, hw⟩, fun e r her => ?_, fun hno H2 s2 => ?_⟩
  · rw [hw0] at her
    have hr2 := (pE_suf her).2
    refine r_retD o1 fun u H2 s2 o2 t2 => ?_
    obtain ⟨x, xs, rfl, hx, hxs⟩ := t2.inv
    cases hxs with
    | cons ha hxs =>
      cases hxs with
      | cons hb hxs =>
        cases hxs
        cases hb
        refine r_gTup2 hx ?_
        walk_at "rd"
        rw [show (txs ws).length = ws.length from List.length_map _]
        refine ⟨_, rfl, fun hb => ?_, fun hb H3 s3 => ?_⟩
        · have h0 : r = [] := List.eq_nil_of_length_eq_zero (by have := of_decide_eq_true hb; omega)
          subst h0
          walk_at "rd"
          exact (q e her).mk o2 ha
        · refine wo_yes (R.c_BadWord.exm R.s_BadWord_BadWord) fun a0 na0 => ?_
          refine r_raise0 ?_
          refine qe (fun e2 h2 => ?_) _ ((o2.mono s3).ex)
          rw [her] at h2
          cases h2
          exact of_decide_eq_false hb (by simp)
  · refine wo_yes (R.c_BadWord.exm R.s_BadWord_BadWord) fun a0 na0 => ?_
    refine r_raise0 ?_
    exact qe (fun e2 h2 => by rw [hw0, h2] at hno; cases hno) _ ((o1.mono s2).ex)
end

/-! ### an expression's words, as the program makes them -/
theorem str_dec (n : Int) : PySem.Str.ofString (toString n) = tx (dec5 n) := by
  cases n with
  | ofNat m =>
    rw [PyProof.Rows.text_ofNat]
    unfold dec5
    rw [if_neg (by simp)]
    rfl
  | negSucc m =>
    have e : toString (Int.negSucc m) = "-" ++ Nat.repr (m + 1) := rfl
    have h2 := PyProof.Rows.text_ofNat (m + 1)
    rw [show toString (Int.ofNat (m + 1)) = Nat.repr (m + 1) from rfl, PySem.Str.ofString_eq_toList] at h2
    rw [e, PySem.Str.ofString_eq_toList, String.toList_append, List.map_append]
    unfold dec5 dN
    rw [if_pos (Int.negSucc_lt_zero m)]
    show (⟨([45] ++ ((Nat.repr (m + 1)).toList.map Char.toNat)).toArray⟩ : PySem.Str) = ⟨(45 :: (Nat.toDigits 10 (m + 1)).map Char.toNat).toArray⟩
    have h3 : ((Nat.repr (m + 1)).toList.map Char.toNat) = (Nat.toDigits 10 (m + 1)).map Char.toNat := by
      have h4 := congrArg (fun z : PySem.Str => z.cps.toList) h2
      exact h4
    rw [h3]
    rfl
theorem log_sm {n : Int} (h : sm5 n) : n.natAbs.log2 < 1920 := by
  unfold sm5 at h
  by_cases h0 : n.natAbs = 0
  · rw [h0]; decide
  · rw [Nat.log2_lt h0]
    exact Nat.lt_trans h (by decide +kernel)
def partsE : Ex → List Ex
  | .num _ => []
  | .path _ => []
  | .two _ a b => [a, b]
  | .pick a b c => [a, b, c]
  | .shift a _ => [a]
def nmE : Ex → PySem.Str
  | .num _ => PySem.Str.ofString "number"
  | .path _ => PySem.Str.ofString "path"
  | .two nm _ _ => tx nm
  | .pick _ _ _ => tx wPick
  | .shift _ _ => tx wShift
def leafE : Ex → Bool
  | .num _ => true
  | .path _ => true
  | _ => false
def shiftE : Ex → Bool
  | .shift _ _ => true
  | _ => false
theorem two_cases {nm : Wd5} (h : nm ∈ TWO) {p : Wd5 → Prop} (h1 : p [97, 100, 100]) (h2 : p [115, 117, 98]) (h3 : p [109, 117, 108]) (h4 : p [109, 105, 110]) (h5 : p [109, 97, 120]) (h6 : p [108, 101, 115, 115]) : p nm := by
  unfold TWO at h
  simp only [List.mem_cons, List.not_mem_nil, or_false] at h
  rcases h with rfl | rfl | rfl | rfl | rfl | rfl <;> assumption
theorem nm_leaf {e : Ex} (h : e.Ok S5) : inV (V.str (nmE e)) [V.str (PySem.Str.ofString "path"), V.str (PySem.Str.ofString "number")] = leafE e := by
  cases e with
  | num n => exact (by decide +kernel : inV (V.str (PySem.Str.ofString "number")) [V.str (PySem.Str.ofString "path"), V.str (PySem.Str.ofString "number")] = true)
  | path p => exact (by decide +kernel : inV (V.str (PySem.Str.ofString "path")) [V.str (PySem.Str.ofString "path"), V.str (PySem.Str.ofString "number")] = true)
  | pick a b c => exact (by decide +kernel : inV (V.str (tx wPick)) [V.str (PySem.Str.ofString "path"), V.str (PySem.Str.ofString "number")] = false)
  | shift a os => exact (by decide +kernel : inV (V.str (tx wShift)) [V.str (PySem.Str.ofString "path"), V.str (PySem.Str.ofString "number")] = false)
  | two nm a b => exact two_cases (p := fun nm => inV (V.str (tx nm)) [V.str (PySem.Str.ofString "path"), V.str (PySem.Str.ofString "number")] = false) h.1 (by decide +kernel) (by decide +kernel) (by decide +kernel) (by decide +kernel) (by decide +kernel) (by decide +kernel)
theorem nm_shift {e : Ex} (h : e.Ok S5) : decide (nmE e = PySem.Str.ofString "shift") = shiftE e := by
  cases e with
  | num n => exact (by decide +kernel : decide (PySem.Str.ofString "number" = PySem.Str.ofString "shift") = false)
  | path p => exact (by decide +kernel : decide (PySem.Str.ofString "path" = PySem.Str.ofString "shift") = false)
  | pick a b c => exact (by decide +kernel : decide (tx wPick = PySem.Str.ofString "shift") = false)
  | shift a os => exact (by decide +kernel : decide (tx wShift = PySem.Str.ofString "shift") = true)
  | two nm a b => exact two_cases (p := fun nm => decide (tx nm = PySem.Str.ofString "shift") = false) h.1 (by decide +kernel) (by decide +kernel) (by decide +kernel) (by decide +kernel) (by decide +kernel) (by decide +kernel)
section
variable {P : Program} {w : World} {K : PySem.W.Frag} {mg : Str → Option Value} {base : Heap}
def sp_pof (K : PySem.W.Frag) : Sp := fun vs H Q _ => ∃ (e : Ex) (v : V), vs = [v] ∧ Tp K H v (datE e) ∧ e.Ok S5 ∧ ∀ H' p us, Same H H' → H p = none → H' p = some (.lst us) → TpAll K H' us ((partsE e).map datE) → Q (.ref p) H'
end

section
variable {P : Program} {w : World} {K : PySem.W.Frag} {mg : Str → Option Value} {base : Heap}
theorem d_pof (T : Top w K mg) : Def P w K mg base CX0 1 "parts_of" ["expression"] (sp_pof K) := by
  refine T.f_parts_of.ok sc_parts_of (by rintro vs H Q E ⟨e, v, rfl, _⟩; rfl) (fun f cdv A outer s H vs Q E hr h => ?_)
  obtain ⟨e, v, rfl, hT, hok, q⟩ := h
  refine ⟨_, (pss_cons (ps_if (pt_cmpR (r := rIn K false) op_in_seq (pe_ix (r := rIxT K) ix_tup (pv 0) pe_int (fun _ _ => rfl)) (pe_tup (pa_cons pe_str (pa_cons pe_str pa_nil))) rfl) (pss_one (ps_ret (pe_lst pa_nil))) pss_nil)
      (pss_cons (ps_if (pt_cmpR op_eq (pe_ix (r := rIxT K) ix_tup (pv 0) pe_int (fun _ _ => rfl)) pe_str (nomark _)) (pss_one (ps_ret (pe_lst (pa_cons (pe_ix (r := rIxT K) ix_tup (pv 0) pe_int (fun _ _ => rfl)) pa_nil)))) pss_nil)
      (pss_one (ps_ret (pe_callTy (r := Evl.rListS K) call_list_of (by rfl) T.b_list (by decide +kernel) (pa_cons (pe_slice (r := rSlA K) sl_tupA (pv 0) (po_some pe_int) po_none) pa_nil)))))), ?_⟩
  have key : ∃ ds, datE e = .tuple (.str (nmE e) :: ds) := by cases e <;> exact ⟨_, rfl⟩
  obtain ⟨ds, hds⟩ := key
  have hT0 : Tp K H v (.tuple (.str (nmE e) :: ds)) := by rw [← hds]; exact hT
  walk_at "rd"
  refine r_ixTp (i := 0) hT0 rfl fun u t => ?_
  cases t
  walk_at "rd"
  refine r_newTs (K := K) (Own.nil H) (by show (2 : Nat) ≤ _; decide) fun p1 H1 s1 o1 q1 => ?_
  refine r_in (.inr q1) rfl rfl ?_
  rw [if_neg Bool.false_ne_true, nm_leaf hok]
  walk_at "rd"
  refine rif_b (fun hb => ?_) fun hb => ?_
  · have hp : partsE e = [] := by cases e <;> first | rfl | cases hb
    rw [hp] at q
    walk_at "rd"
    refine r_newLs o1 (by show (0 : Nat) ≤ _; decide) fun p2 H2 s2 o2 => ?_
    exact q _ _ [] o2.ex (o2.fresh 0 rfl) (o2.at 0 rfl) .nil
  have hT1 := hT.up s1
  have hT2 := hT0.up s1
  walk_at "rd"
  refine r_ixTp (i := 0) hT2 rfl fun u t => ?_
  cases t
  walk_at "rd"
  rw [nm_shift hok]
  cases e with
  | num n => cases hb
  | path p => cases hb
  | shift a os =>
    refine rif_b (fun _ => ?_) fun h => by cases h
    walk_at "rd"
    refine r_ixTp (i := 1) hT1 rfl fun u t => ?_
    walk_at "rd"
    refine r_newLs o1 (by show (1 : Nat) ≤ _; decide) fun p2 H2 s2 o2 => ?_
    exact q _ _ [u] o2.ex (o2.fresh 0 rfl) (o2.at 0 rfl) (.cons (t.up s2) .nil)
  | two nm a b =>
    obtain ⟨x, xs, rfl, hx, hxs⟩ := hT1.inv
    refine rif_b (fun h => by cases h) fun _ => ?_
    walk_at "rd"
    refine r_slA o1 hx fun p2 H2 s2 o2 q2 => ?_
    walk_at "rd"
    refine r_listTs o2 q2 fun p3 H3 s3 o3 => ?_
    rw [show cutV xs (some 1) none = xs.drop 1 from cut_lo xs 1] at o3
    cases hxs with
    | cons h1 h2 => exact q _ _ _ o3.ex (o3.fresh 0 rfl) (o3.at 0 rfl) ((TpAll.up h2 s2).up s3)
  | pick a b c =>
    obtain ⟨x, xs, rfl, hx, hxs⟩ := hT1.inv
    refine rif_b (fun h => by cases h) fun _ => ?_
    walk_at "rd"
    refine r_slA o1 hx fun p2 H2 s2 o2 q2 => ?_
    walk_at "rd"
    refine r_listTs o2 q2 fun p3 H3 s3 o3 => ?_
    rw [show cutV xs (some 1) none = xs.drop 1 from cut_lo xs 1] at o3
    cases hxs with
    | cons h1 h2 => exact q _ _ _ o3.ex (o3.fresh 0 rfl) (o3.at 0 rfl) ((TpAll.up h2 s2).up s3)
end

section
variable {P : Program} {w : World} {K : PySem.W.Frag} {mg : Str → Option Value} {base : Heap}
theorem d_lpof (T : Top w K mg) : Def P w K mg base CX0 1 "_law_parts" ["expression"] (sp_pof K) := by
  refine T.f__law_parts.ok sc__law_parts (by rintro vs H Q E ⟨e, v, rfl, _⟩; rfl) (fun f cdv A outer s H vs Q E hr h => ?_)
  obtain ⟨e, v, rfl, hT, hok, q⟩ := h
  refine ⟨_, (pss_cons (ps_if (pt_cmpR (r := rIn K false) op_in_seq (pe_ix (r := rIxT K) ix_tup (pv 0) pe_int (fun _ _ => rfl)) (pe_tup (pa_cons pe_str (pa_cons pe_str pa_nil))) rfl) (pss_one (ps_ret (pe_lst pa_nil))) pss_nil)
      (pss_cons (ps_if (pt_cmpR op_eq (pe_ix (r := rIxT K) ix_tup (pv 0) pe_int (fun _ _ => rfl)) pe_str (nomark _)) (pss_one (ps_ret (pe_lst (pa_cons (pe_ix (r := rIxT K) ix_tup (pv 0) pe_int (fun _ _ => rfl)) pa_nil)))) pss_nil)
      (pss_one (ps_ret (pe_callTy (r := Evl.rListS K) call_list_of (by rfl) T.b_list (by decide +kernel) (pa_cons (pe_slice (r := rSlA K) sl_tupA (pv 0) (po_some pe_int) po_none) pa_nil)))))), ?_⟩
  have key : ∃ ds, datE e = .tuple (.str (nmE e) :: ds) := by cases e <;> exact ⟨_, rfl⟩
  obtain ⟨ds, hds⟩ := key
  have hT0 : Tp K H v (.tuple (.str (nmE e) :: ds)) := by rw [← hds]; exact hT
  walk_at "rd"
  refine r_ixTp (i := 0) hT0 rfl fun u t => ?_
  cases t
  walk_at "rd"
  refine r_newTs (K := K) (Own.nil H) (by show (2 : Nat) ≤ _; decide) fun p1 H1 s1 o1 q1 => ?_
  refine r_in (.inr q1) rfl rfl ?_
  rw [if_neg Bool.false_ne_true, nm_leaf hok]
  walk_at "rd"
  refine rif_b (fun hb => ?_) fun hb => ?_
  · have hp : partsE e = [] := by cases e <;> first | rfl | cases hb
    rw [hp] at q
    walk_at "rd"
    refine r_newLs o1 (by show (0 : Nat) ≤ _; decide) fun p2 H2 s2 o2 => ?_
    exact q _ _ [] o2.ex (o2.fresh 0 rfl) (o2.at 0 rfl) .nil
  have hT1 := hT.up s1
  have hT2 := hT0.up s1
  walk_at "rd"
  refine r_ixTp (i := 0) hT2 rfl fun u t => ?_
  cases t
  walk_at "rd"
  rw [nm_shift hok]
  cases e with
  | num n => cases hb
  | path p => cases hb
  | shift a os =>
    refine rif_b (fun _ => ?_) fun h => by cases h
    walk_at "rd"
    refine r_ixTp (i := 1) hT1 rfl fun u t => ?_
    walk_at "rd"
    refine r_newLs o1 (by show (1 : Nat) ≤ _; decide) fun p2 H2 s2 o2 => ?_
    exact q _ _ [u] o2.ex (o2.fresh 0 rfl) (o2.at 0 rfl) (.cons (t.up s2) .nil)
  | two nm a b =>
    obtain ⟨x, xs, rfl, hx, hxs⟩ := hT1.inv
    refine rif_b (fun h => by cases h) fun _ => ?_
    walk_at "rd"
    refine r_slA o1 hx fun p2 H2 s2 o2 q2 => ?_
    walk_at "rd"
    refine r_listTs o2 q2 fun p3 H3 s3 o3 => ?_
    rw [show cutV xs (some 1) none = xs.drop 1 from cut_lo xs 1] at o3
    cases hxs with
    | cons h1 h2 => exact q _ _ _ o3.ex (o3.fresh 0 rfl) (o3.at 0 rfl) ((TpAll.up h2 s2).up s3)
  | pick a b c =>
    obtain ⟨x, xs, rfl, hx, hxs⟩ := hT1.inv
    refine rif_b (fun h => by cases h) fun _ => ?_
    walk_at "rd"
    refine r_slA o1 hx fun p2 H2 s2 o2 q2 => ?_
    walk_at "rd"
    refine r_listTs o2 q2 fun p3 H3 s3 o3 => ?_
    rw [show cutV xs (some 1) none = xs.drop 1 from cut_lo xs 1] at o3
    cases hxs with
    | cons h1 h2 => exact q _ _ _ o3.ex (o3.fresh 0 rfl) (o3.at 0 rfl) ((TpAll.up h2 s2).up s3)
end

def nmW : Ex → Wd5
  | .two nm _ _ => nm
  | .pick _ _ _ => wPick
  | .shift _ _ => wShift
  | _ => []
def offsE : Ex → List Int
  | .shift _ os => os
  | _ => []
theorem words_parts {e : Ex} (h : leafE e = false) : e.words S5 = wB :: nmW e :: ((partsE e).flatMap (Ex.words S5) ++ ((offsE e).map dec5 ++ [wE])) ∧ nmE e = tx (nmW e) := by
  cases e with
  | num n => cases h
  | path p => cases h
  | two nm a b => exact ⟨by simp [Ex.words, partsE, offsE, nmW], rfl⟩
  | pick a b c => exact ⟨by simp [Ex.words, partsE, offsE, nmW], rfl⟩
  | shift a os => exact ⟨by simp [Ex.words, partsE, offsE, nmW, S5, wds5], rfl⟩
theorem parts_ok {e x : Ex} (h : e.Ok S5) (hx : x ∈ partsE e) : x.Ok S5 ∧ x.dep < e.dep := by
  cases e with
  | num n => cases hx
  | path p => cases hx
  | two nm a b =>
    simp only [partsE, List.mem_cons, List.not_mem_nil, or_false] at hx
    simp only [Ex.dep]
    rcases hx with rfl | rfl
    · exact ⟨h.2.1, by omega⟩
    · exact ⟨h.2.2, by omega⟩
  | pick a b c =>
    simp only [partsE, List.mem_cons, List.not_mem_nil, or_false] at hx
    simp only [Ex.dep]
    rcases hx with rfl | rfl | rfl
    · exact ⟨h.1, by omega⟩
    · exact ⟨h.2.1, by omega⟩
    · exact ⟨h.2.2, by omega⟩
  | shift a os =>
    simp only [partsE, List.mem_cons, List.not_mem_nil, or_false] at hx
    simp only [Ex.dep]
    rw [hx]
    exact ⟨h.1, by omega⟩
theorem dep_pos (e : Ex) : 1 ≤ e.dep := by cases e <;> simp [Ex.dep]
theorem nm_path {e : Ex} (h : e.Ok S5) (hl : leafE e = false) : decide (nmE e = PySem.Str.ofString "path") = false ∧ decide (nmE e = PySem.Str.ofString "number") = false := by
  cases e with
  | num n => cases hl
  | path p => cases hl
  | pick a b c => exact (by decide +kernel : decide (tx wPick = PySem.Str.ofString "path") = false ∧ decide (tx wPick = PySem.Str.ofString "number") = false)
  | shift a os => exact (by decide +kernel : decide (tx wShift = PySem.Str.ofString "path") = false ∧ decide (tx wShift = PySem.Str.ofString "number") = false)
  | two nm a b => exact two_cases (p := fun nm => decide (tx nm = PySem.Str.ofString "path") = false ∧ decide (tx nm = PySem.Str.ofString "number") = false) h.1 (by decide +kernel) (by decide +kernel) (by decide +kernel) (by decide +kernel) (by decide +kernel) (by decide +kernel)
theorem dec_path : decide (PySem.Str.ofString "number" = PySem.Str.ofString "path") = false := by decide +kernel
theorem addS_tx (p : Wd5) : (tx [64] : PySem.Str) ++ tx p = tx (64 :: p) := by rw [tx_cat]; rfl
theorem r_extS {H H0 : Hp} {Q : VK} {L : List (Addr × HO)} {l b : Addr} {xs zs : List V} (o : Own H0 H L) (n m : Nat) (h : L[n]? = some (l, .lst xs)) (h2 : L[m]? = some (b, .lst zs)) (hz : xs.length + zs.length ≤ 10000000) (k : ∀ H', Stp H H' → Own H0 H' (L.set n (l, .lst (xs ++ zs))) → Q .non H') : rExtend (.ref l) [.ref b] H Q :=
  ⟨l, b, xs, zs, rfl, rfl, o.at n h, o.at m h2, sz100 hz, k _ (Stp.set (o.at n h)) (o.set n h)⟩
theorem txs_app (a b : List Wd5) : txs (a ++ b) = txs a ++ txs b := List.map_append
theorem txs_len (a : List Wd5) : (txs a).length = a.length := List.length_map _
section
variable {P : Program} {w : World} {K : PySem.W.Frag} {mg : Str → Option Value} {base : Heap}
def sp_wof (K : PySem.W.Frag) (n : Nat) : Sp := fun vs H Q _ => ∃ (e : Ex) (v : V), vs = [v] ∧ Tp K H v (datE e) ∧ e.Ok S5 ∧ e.dep ≤ n ∧ (e.words S5).length ≤ 100000 ∧ (∀ w ∈ e.words S5, w.length ≤ 1000) ∧ RetO H Q (.lst (txs (e.words S5)))

theorem d_wof (T : Top w K mg) : ∀ n : Nat, Def P w K mg base CX0 (2 + n) "words_of" ["expression"] (sp_wof K n) := by
  intro n
  have G_parts_of : Def P w K mg base CX0 1 "parts_of" ["expression"] (sp_pof K) := d_pof T
  obtain ⟨t1, g_BEGIN⟩ := T.g_BEGIN
  obtain ⟨t2, g_END⟩ := T.g_END
  obtain ⟨t3, g_PATH_SIGN⟩ := T.g_PATH_SIGN
  induction n with
  | zero =>
    exact (def_none (P := P) (w := w) (base := base) (k := 2 + 0) T.f_words_of).imp fun vs H Q E ⟨e, v, _, _, _, h, _⟩ => absurd (dep_pos e) (by omega)
  | succ n ih =>
    have G_words_of := ih
    rw [show 2 + (n + 1) = (2 + n) + 1 by omega]
    refine T.f_words_of.ok sc_words_of (by rintro vs H Q E ⟨e, v, rfl, _⟩; rfl) (fun f cdv A outer s H vs Q E hr h => ?_)
    obtain ⟨e, v, rfl, hT, hok, hdp, hwl, hww, q⟩ := h
    refine ⟨_, (pss_cons (ps_set (i := 1) sc_words_of.nd rfl (Or.inl rfl) (pe_ix (r := rIxT K) ix_tup (pv 0) pe_int (fun _ _ => rfl)))
      (pss_cons (ps_if (pt_cmpR op_eq (pv 1) pe_str (nomark _)) (pss_one (ps_ret (pe_lst (pa_cons (pe_op (r := rAddStr) op_add_str (pe_glob (v := .str (PySem.Str.ofString "@")) rfl g_PATH_SIGN ⟨_, rfl⟩) (pe_ix (r := rIxT K) ix_tup (pv 0) pe_int (fun _ _ => rfl))) pa_nil)))) pss_nil)
      (pss_cons (ps_if (pt_cmpR op_eq (pv 1) pe_str (nomark _)) (pss_one (ps_ret (pe_lst (pa_cons (pe_callTy call_strIS (by rfl) T.b_str (by decide +kernel) (pa_cons (pe_ix (r := rIxT K) ix_tup (pv 0) pe_int (fun _ _ => rfl)) pa_nil)) pa_nil)))) pss_nil)
      (pss_cons (ps_set (i := 2) sc_words_of.nd rfl (Or.inl rfl) (pe_lst (pa_cons (pe_glob (v := .str (PySem.Str.ofString "(")) rfl g_BEGIN ⟨_, rfl⟩) (pa_cons (pv 1) pa_nil))))
      (pss_cons (ps_for PassesOwn.never rfl (pi_list (pe_callD G_parts_of (hr.mono (by omega)) (pa_cons (pv 0) pa_nil))) (pg_name (i := 3) sc_words_of.nd rfl (Or.inl rfl)) (pss_one (ps_expr (pe_bm PySem.F.plainAttrs_list PySem.F.slot_list_extend PySem.F.type_list_extend mt_extend (pv 2) (pa_cons (pe_callD G_words_of (hr.mono (by omega)) (pa_cons (pv 3) pa_nil)) pa_nil)))))
      (Evl.pss_cut (ps_if (pt_cmpR op_eq (pv 1) pe_str (nomark _)) (pss_one (ps_expr (pe_bm PySem.F.plainAttrs_list PySem.F.slot_list_extend PySem.F.type_list_extend mt_extend (pv 2) (pa_cons (pe_lc (own := [("offset", 4)]) (g := (gName 4)) (tt := tYes) rfl sc_words_of.nd (pi_tup (pe_ix (r := rIxT K) ix_tup (pv 0) pe_int (fun _ _ => rfl))) (blkOk_by (N := N_words_of) (sc := defScope s_words_of) (by decide +kernel)) (fun _ _ _ _ _ => (pg_name (i := 4) sc_words_of.nd rfl (Or.inl rfl))) (fun _ _ _ _ _ => pts_nil) (fun _ _ _ _ _ => (pe_callTy call_strIS (by rfl) T.b_str (by decide +kernel) (pa_cons (pv 4) pa_nil)))) pa_nil)))) pss_nil)
      (pss_one (ps_ret (pe_op op_cat (pv 2) (pe_lst (pa_cons (pe_glob (v := .str (PySem.Str.ofString ")")) rfl g_END ⟨_, rfl⟩) pa_nil))))))))))), ?_⟩
    have hr : Room (2 + n) (A.deeper (envOfC "words_of" (defScope s_words_of) s.heap.objs.size f cdv)) := hr
    have key : ∃ ds, datE e = .tuple (.str (nmE e) :: ds) := by cases e <;> exact ⟨_, rfl⟩
    obtain ⟨ds, hds⟩ := key
    have hT0 : Tp K H v (.tuple (.str (nmE e) :: ds)) := by rw [← hds]; exact hT
    walk_at "rd"
    refine r_ixTp (i := 0) hT0 rfl fun u t => ?_
    cases t
    walk_at "rd"
    cases hlf : leafE e with
    | true =>
     cases e with
     | two nm a b => cases hlf
     | pick a b c => cases hlf
     | shift a os => cases hlf
     | path p =>
      have hp : (64 :: p).length ≤ 1000 := hww (64 :: p) (by simp [Ex.words])
      rw [List.length_cons] at hp
      walk_at "rd"
      refine rif_yes rfl ?_
      walk_at "rd"
      refine r_ixTp (i := 1) hT rfl fun u t => ?_
      cases t
      refine r_addS (by rw [tx_at, tx_len, tx_len]; show (1 : Nat) + _ ≤ _; omega) ?_
      rw [tx_at, addS_tx]
      walk_at "rd"
      refine r_newLs (Own.nil H) (by show (1 : Nat) ≤ _; decide) fun p2 H2 s2 o2 => ?_
      exact q.mk o2 0 rfl
     | num n0 =>
      walk_at "rd"
      rw [show nmE (.num n0) = PySem.Str.ofString "number" from rfl, dec_path]
      walk_at "rd"
      refine rif_yes rfl ?_
      walk_at "rd"
      refine r_ixTp (i := 1) hT rfl fun u t => ?_
      cases t
      walk_at "rd"
      refine .inl ⟨n0, rfl, log_sm hok, ?_⟩
      rw [str_dec]
      walk_at "rd"
      refine r_newLs (Own.nil H) (by show (1 : Nat) ≤ _; decide) fun p2 H2 s2 o2 => ?_
      exact q.mk o2 0 rfl
    | false =>
      have hnm := nm_path hok hlf
      have hwp := words_parts hlf
      have hns := nm_shift hok
      rw [hwp.1] at hwl hww q
      rw [hnm.1]
      walk_at "rd"
      rw [hnm.2]
      walk_at "rd"
      rw [hwp.2] at hns ⊢
      refine r_newLs (Own.nil H) (by show (2 : Nat) ≤ _; decide) fun p2 H2 s2 o2 => ?_
      rw [tx_begin] at o2
      walk_at "rd"
      refine ⟨e, v, rfl, hT.up s2, hok, fun H3 p3 us s3 hp3 hu t3 => ?_⟩
      have o3 := o2.add s3 hp3 hu
      have hul := t3.len
      rw [List.length_map] at hul
      refine forL (o3.sqL 0 rfl) (fun k σ' H' => ∃ v3 v4 : Option V, σ' = [some v, some (.str (tx (nmW e))), some (.ref p2), v3, v4] ∧ Own H H' [(p3, .lst us), (p2, .lst (txs (wB :: nmW e :: ((partsE e).take k).flatMap (Ex.words S5))))] ∧ TpAll K H' us ((partsE e).map datE)) ⟨_, _, rfl, o3, t3⟩ (fun k σ' H' _ ⟨_, _, _, o', _⟩ => o'.sqL 0 rfl) ?_ ?_
      · rintro k x σ' H' hx ⟨v3, v4, rfl, o', t'⟩
        obtain ⟨d, hd, tv⟩ := t'.getV hx
        rw [List.getElem?_map] at hd
        cases hpk : (partsE e)[k]? with
        | none => rw [hpk] at hd; cases hd
        | some y =>
          rw [hpk] at hd
          cases hd
          have hym := List.mem_of_getElem? hpk
          have hyo := parts_ok hok hym
          have hfl : ∀ z ∈ y.words S5, z ∈ (partsE e).flatMap (Ex.words S5) := fun z hz => List.mem_flatMap.mpr ⟨y, hym, hz⟩
          have hsz : (((partsE e).take (k + 1)).flatMap (Ex.words S5)).length ≤ ((partsE e).flatMap (Ex.words S5)).length := by
            conv => rhs; rw [← List.take_append_drop (k + 1) (partsE e)]
            rw [List.flatMap_append, List.length_append]
            omega
          rw [take_flat hpk, List.length_append] at hsz
          simp only [List.length_cons, List.length_append] at hwl
          walk_at "rd"
          refine ⟨y, x, rfl, tv, hyo.1, by omega, by omega, fun z hz => hww z (List.mem_cons_of_mem _ (List.mem_cons_of_mem _ (List.mem_append_left _ (hfl z hz)))), r_ret1s o' fun p4 H4 s4 o4 => ?_⟩
          walk_at "rd"
          refine r_extS o4 2 0 rfl rfl (by rw [txs_len, txs_len]; simp only [List.length_cons]; omega) fun H5 s5 o5 => ?_
          refine ⟨_, _, rfl, ?_, (t'.up s4).up s5⟩
          rw [take_flat hpk, ← List.cons_append, ← List.cons_append, txs_app]
          exact o5.tl
      · rintro σ' H' ⟨v3, v4, rfl, o', t'⟩
        rw [hul, List.take_of_length_le (by simp)] at o'
        refine ⟨fun σ4 H4 => ∃ v3 v4 : Option V, σ4 = [some v, some (.str (tx (nmW e))), some (.ref p2), v3, v4] ∧ ∃ L4, Own H H4 ((p2, .lst (txs (wB :: nmW e :: ((partsE e).flatMap (Ex.words S5) ++ (offsE e).map dec5)))) :: L4), ?_, ?_⟩
        · have hTs : Tp K H' v (datE e) := hT.up (.of o'.ex)
          walk_at "rd"
          rw [hns]
          refine rif_b (fun hb => ?_) fun hb => ?_
          · cases e with
            | num n => cases hb
            | path p => cases hb
            | two nm a b => cases hb
            | pick a b c => cases hb
            | shift a os =>
              have hos : ∀ o ∈ os, sm5 o := hok.2
              have hol : os.length ≤ 100000 := by simp [offsE] at hwl; omega
              obtain ⟨x, xs, rfl, hx, hxs⟩ := hT.inv
              obtain ⟨u, hu, tu⟩ := hxs.get (i := 2) rfl
              obtain ⟨pu, rfl, hpu⟩ := tu.invI
              walk_at "rd"
              refine r_ixT (i := 2) (o'.oldT hx) (atI_nat (j := 2) hu) ?_
              walk_at "rd"
              refine lcTV (fun x => match x with | .int i => .str (tx (dec5 i)) | x => x) o' (fun H' p zs o2 => o2.oldT hpu) (o'.oldT hpu) (by rw [List.length_map]; omega) (fun x => rfl) ?_ fun p5 H5 s5 o5 => ?_
              · intro i y p zs H6 Q6 hy o6 s6 q6
                obtain ⟨z, hz, rfl⟩ := get_ints hy
                walk_at "rd"
                refine .inl ⟨z, rfl, log_sm (hos z (List.mem_of_getElem? hz)), ?_⟩
                rw [str_dec]
                exact q6.here
              · have e5 : (os.map V.int).map (fun x => match x with | V.int i => V.str (tx (dec5 i)) | x => x) = txs (os.map dec5) := by
                  unfold txs
                  rw [List.map_map, List.map_map]
                  rfl
                rw [e5] at o5
                walk_at "rd"
                refine r_extS o5 2 0 rfl rfl (by rw [txs_len, txs_len]; simp only [List.length_cons, List.length_append, List.length_map, offsE] at hwl ⊢; omega) fun H6 s6 o6 => ?_
                exact ⟨_, _, rfl, [], by
                  have o7 := o6.tl.tl
                  rw [← txs_app] at o7
                  exact o7⟩
          · have h0 : offsE e = [] := by
              cases e with
              | shift a os => cases hb
              | _ => rfl
            walk_at "rd"
            exact ⟨_, _, rfl, [], by rw [h0, List.map_nil, List.append_nil]; exact o'.tl⟩
        · rintro σ4 H4 ⟨v3, v4, rfl, L4, o4⟩
          walk_at "rd"
          refine r_newLs o4 (by show (1 : Nat) ≤ _; decide) fun p5 H5 s5 o5 => ?_
          refine r_cats o5 (o5.at 1 rfl) (o5.at 0 rfl) (by rw [txs_len]; simp only [List.length_cons, List.length_append] at hwl ⊢; show _ + (0 + 1) ≤ _; omega) fun p6 H6 s6 o6 => ?_
          have e6 : txs (wB :: nmW e :: ((partsE e).flatMap (Ex.words S5) ++ (offsE e).map dec5)) ++ [V.str (PySem.Str.ofString ")")] = txs (wB :: nmW e :: ((partsE e).flatMap (Ex.words S5) ++ ((offsE e).map dec5 ++ [wE]))) := by
            rw [tx_end]
            show txs (wB :: nmW e :: ((partsE e).flatMap (Ex.words S5) ++ (offsE e).map dec5)) ++ txs [wE] = _
            rw [← txs_app, List.cons_append, List.cons_append, List.append_assoc]
          rw [e6] at o6
          exact q.mk o6 0 rfl
end

theorem _root_.RD.Own.swap2 {H0 H : Hp} {x y : Addr × HO} (o : Own H0 H [x, y]) : Own H0 H [y, x] :=
  ⟨o.ex, fun z hz => o.fr z (by simp only [List.mem_cons, List.not_mem_nil, or_false] at hz ⊢; exact hz.symm), by
    have := o.nd
    simp only [List.map_cons, List.map_nil, List.nodup_cons, List.mem_cons, List.not_mem_nil, or_false, not_false_eq_true, List.nodup_nil, and_true] at this ⊢
    exact fun e => this e.symm⟩
section
variable {P : Program} {w : World} {K : PySem.W.Frag} {mg : Str → Option Value} {base : Heap}
theorem d_lw (T : Top w K mg) : ∀ n : Nat, Def P w K mg base CX0 (2 + n) "_law_words" ["expression"] (sp_wof K n) := by
  intro n
  have G__law_parts : Def P w K mg base CX0 1 "_law_parts" ["expression"] (sp_pof K) := d_lpof T
  induction n with
  | zero =>
    exact (def_none (P := P) (w := w) (base := base) (k := 2 + 0) T.f__law_words).imp fun vs H Q E ⟨e, v, _, _, _, h, _⟩ => absurd (dep_pos e) (by omega)
  | succ n ih =>
    have G__law_words := ih
    rw [show 2 + (n + 1) = (2 + n) + 1 by omega]
    refine T.f__law_words.ok sc__law_words (by rintro vs H Q E ⟨e, v, rfl, _⟩; rfl) (fun f cdv A outer s H vs Q E hr h => ?_)
    obtain ⟨e, v, rfl, hT, hok, hdp, hwl, hww, q⟩ := h
    refine ⟨_, (pss_cons (ps_if (pt_cmpR op_eq (pe_ix (r := rIxT K) ix_tup (pv 0) pe_int (fun _ _ => rfl)) pe_str (nomark _)) (pss_one (ps_ret (pe_lst (pa_cons (pe_op (r := rAddStr) op_add_str pe_str (pe_ix (r := rIxT K) ix_tup (pv 0) pe_int (fun _ _ => rfl))) pa_nil)))) pss_nil)
      (pss_cons (ps_if (pt_cmpR op_eq (pe_ix (r := rIxT K) ix_tup (pv 0) pe_int (fun _ _ => rfl)) pe_str (nomark _)) (pss_one (ps_ret (pe_lst (pa_cons (pe_callTy call_strIS (by rfl) T.b_str (by decide +kernel) (pa_cons (pe_ix (r := rIxT K) ix_tup (pv 0) pe_int (fun _ _ => rfl)) pa_nil)) pa_nil)))) pss_nil)
      (pss_cons (ps_set (i := 1) sc__law_words.nd rfl (Or.inl rfl) (pe_lst (pa_cons pe_str (pa_cons (pe_ix (r := rIxT K) ix_tup (pv 0) pe_int (fun _ _ => rfl)) pa_nil))))
      (pss_cons (ps_for PassesOwn.never rfl (pi_list (pe_callD G__law_parts (hr.mono (by omega)) (pa_cons (pv 0) pa_nil))) (pg_name (i := 2) sc__law_words.nd rfl (Or.inl rfl)) (pss_one (ps_set (i := 1) sc__law_words.nd rfl (Or.inl rfl) (pe_op op_cat (pv 1) (pe_callD G__law_words (hr.mono (by omega)) (pa_cons (pv 2) pa_nil))))))
      (Evl.pss_cut (ps_if (pt_cmpR op_eq (pe_ix (r := rIxT K) ix_tup (pv 0) pe_int (fun _ _ => rfl)) pe_str (nomark _)) (pss_one (ps_set (i := 1) sc__law_words.nd rfl (Or.inl rfl) (pe_op op_cat (pv 1) (pe_lc (own := [("number", 3)]) (g := (gName 3)) (tt := tYes) rfl sc__law_words.nd (pi_tup (pe_ix (r := rIxT K) ix_tup (pv 0) pe_int (fun _ _ => rfl))) (blkOk_by (N := N__law_words) (sc := defScope s__law_words) (by decide +kernel)) (fun _ _ _ _ _ => (pg_name (i := 3) sc__law_words.nd rfl (Or.inl rfl))) (fun _ _ _ _ _ => pts_nil) (fun _ _ _ _ _ => (pe_callTy call_strIS (by rfl) T.b_str (by decide +kernel) (pa_cons (pv 3) pa_nil))))))) pss_nil)
      (pss_one (ps_ret (pe_op op_cat (pv 1) (pe_lst (pa_cons pe_str pa_nil)))))))))), ?_⟩
    have hr : Room (2 + n) (A.deeper (envOfC "_law_words" (defScope s__law_words) s.heap.objs.size f cdv)) := hr
    have key : ∃ ds, datE e = .tuple (.str (nmE e) :: ds) := by cases e <;> exact ⟨_, rfl⟩
    obtain ⟨ds, hds⟩ := key
    have hT0 : Tp K H v (.tuple (.str (nmE e) :: ds)) := by rw [← hds]; exact hT
    walk_at "rd"
    refine r_ixTp (i := 0) hT0 rfl fun u t => ?_
    cases t
    walk_at "rd"
    cases hlf : leafE e with
    | true =>
     cases e with
     | two nm a b => cases hlf
     | pick a b c => cases hlf
     | shift a os => cases hlf
     | path p =>
      have hp : (64 :: p).length ≤ 1000 := hww (64 :: p) (by simp [Ex.words])
      rw [List.length_cons] at hp
      walk_at "rd"
      refine rif_yes rfl ?_
      walk_at "rd"
      refine r_ixTp (i := 1) hT rfl fun u t => ?_
      cases t
      refine r_addS (by rw [tx_at, tx_len, tx_len]; show (1 : Nat) + _ ≤ _; omega) ?_
      rw [tx_at, addS_tx]
      walk_at "rd"
      refine r_newLs (Own.nil H) (by show (1 : Nat) ≤ _; decide) fun p2 H2 s2 o2 => ?_
      exact q.mk o2 0 rfl
     | num n0 =>
      rw [show nmE (.num n0) = PySem.Str.ofString "number" from rfl, dec_path]
      walk_at "rd"
      refine r_ixTp (i := 0) hT0 rfl fun u t => ?_
      cases t
      walk_at "rd"
      refine rif_yes rfl ?_
      walk_at "rd"
      refine r_ixTp (i := 1) hT rfl fun u t => ?_
      cases t
      walk_at "rd"
      refine .inl ⟨n0, rfl, log_sm hok, ?_⟩
      rw [str_dec]
      walk_at "rd"
      refine r_newLs (Own.nil H) (by show (1 : Nat) ≤ _; decide) fun p2 H2 s2 o2 => ?_
      exact q.mk o2 0 rfl
    | false =>
      have hnm := nm_path hok hlf
      have hwp := words_parts hlf
      have hns := nm_shift hok
      rw [hwp.1] at hwl hww q
      rw [hnm.1]
      walk_at "rd"
      refine r_ixTp (i := 0) hT0 rfl fun u t => ?_
      cases t
      walk_at "rd"
      rw [hnm.2]
      walk_at "rd"
      refine r_ixTp (i := 0) hT0 rfl fun u t => ?_
      cases t
      rw [hwp.2] at hns ⊢
      walk_at "rd"
      refine r_newLs (Own.nil H) (by show (2 : Nat) ≤ _; decide) fun p2 H2 s2 o2 => ?_
      rw [tx_begin] at o2
      walk_at "rd"
      refine ⟨e, v, rfl, hT.up s2, hok, fun H3 p3 us s3 hp3 hu t3 => ?_⟩
      have o3 := o2.add s3 hp3 hu
      have hul := t3.len
      rw [List.length_map] at hul
      refine forL (o3.sqL 0 rfl) (fun k σ' H' => ∃ (p' : Addr) (v2 v3 : Option V), σ' = [some v, some (.ref p'), v2, v3] ∧ Own H H' [(p', .lst (txs (wB :: nmW e :: ((partsE e).take k).flatMap (Ex.words S5)))), (p3, .lst us)] ∧ TpAll K H' us ((partsE e).map datE)) ⟨p2, _, _, rfl, o3.swap2, t3⟩ (fun k σ' H' _ ⟨_, _, _, _, o', _⟩ => o'.sqL 1 rfl) ?_ ?_
      · rintro k x σ' H' hx ⟨p', v2, v3, rfl, o', t'⟩
        obtain ⟨d, hd, tv⟩ := t'.getV hx
        rw [List.getElem?_map] at hd
        cases hpk : (partsE e)[k]? with
        | none => rw [hpk] at hd; cases hd
        | some y =>
          rw [hpk] at hd
          cases hd
          have hym := List.mem_of_getElem? hpk
          have hyo := parts_ok hok hym
          have hfl : ∀ z ∈ y.words S5, z ∈ (partsE e).flatMap (Ex.words S5) := fun z hz => List.mem_flatMap.mpr ⟨y, hym, hz⟩
          have hsz : (((partsE e).take (k + 1)).flatMap (Ex.words S5)).length ≤ ((partsE e).flatMap (Ex.words S5)).length := by
            conv => rhs; rw [← List.take_append_drop (k + 1) (partsE e)]
            rw [List.flatMap_append, List.length_append]
            omega
          rw [take_flat hpk, List.length_append] at hsz
          simp only [List.length_cons, List.length_append] at hwl
          walk_at "rd"
          refine ⟨y, x, rfl, tv, hyo.1, by omega, by omega, fun z hz => hww z (List.mem_cons_of_mem _ (List.mem_cons_of_mem _ (List.mem_append_left _ (hfl z hz)))), r_ret1s o' fun p4 H4 s4 o4 => ?_⟩
          walk_at "rd"
          refine r_cats o4 (o4.at 1 rfl) (o4.at 0 rfl) (by rw [txs_len, txs_len]; simp only [List.length_cons]; omega) fun p5 H5 s5 o5 => ?_
          refine ⟨p5, _, _, rfl, ?_, (t'.up s4).up s5⟩
          rw [take_flat hpk, ← List.cons_append, ← List.cons_append, txs_app]
          exact o5.sub (.cons_cons _ (.cons _ (.cons _ (.cons_cons _ .slnil))))
      · rintro σ' H' ⟨p', v2, v3, rfl, o', t'⟩
        rw [hul, List.take_of_length_le (by simp)] at o'
        refine ⟨fun σ4 H4 => ∃ (p4 : Addr) (v2 v3 : Option V), σ4 = [some v, some (.ref p4), v2, v3] ∧ ∃ L4, Own H H4 ((p4, .lst (txs (wB :: nmW e :: ((partsE e).flatMap (Ex.words S5) ++ (offsE e).map dec5)))) :: L4), ?_, ?_⟩
        · have hTs : Tp K H' v (datE e) := hT.up (.of o'.ex)
          have hTs0 : Tp K H' v (.tuple (.str (nmE e) :: ds)) := hT0.up (.of o'.ex)
          walk_at "rd"
          refine r_ixTp (i := 0) hTs0 rfl fun u t => ?_
          cases t
          rw [hwp.2]
          walk_at "rd"
          rw [hns]
          refine rif_b (fun hb => ?_) fun hb => ?_
          · cases e with
            | num n => cases hb
            | path p => cases hb
            | two nm a b => cases hb
            | pick a b c => cases hb
            | shift a os =>
              have hos : ∀ o ∈ os, sm5 o := hok.2
              have hol : os.length ≤ 100000 := by simp [offsE] at hwl; omega
              obtain ⟨x, xs, rfl, hx, hxs⟩ := hT.inv
              obtain ⟨u, hu, tu⟩ := hxs.get (i := 2) rfl
              obtain ⟨pu, rfl, hpu⟩ := tu.invI
              walk_at "rd"
              refine r_ixT (i := 2) (o'.oldT hx) (atI_nat (j := 2) hu) ?_
              walk_at "rd"
              refine lcTV (fun x => match x with | .int i => .str (tx (dec5 i)) | x => x) o' (fun H' p zs o2 => o2.oldT hpu) (o'.oldT hpu) (by rw [List.length_map]; omega) (fun x => rfl) ?_ fun p5 H5 s5 o5 => ?_
              · intro i y p zs H6 Q6 hy o6 s6 q6
                obtain ⟨z, hz, rfl⟩ := get_ints hy
                walk_at "rd"
                refine .inl ⟨z, rfl, log_sm (hos z (List.mem_of_getElem? hz)), ?_⟩
                rw [str_dec]
                exact q6.here
              · have e5 : (os.map V.int).map (fun x => match x with | V.int i => V.str (tx (dec5 i)) | x => x) = txs (os.map dec5) := by
                  unfold txs
                  rw [List.map_map, List.map_map]
                  rfl
                rw [e5] at o5
                refine r_cats o5 (o5.at 1 rfl) (o5.at 0 rfl) (by rw [txs_len, txs_len]; simp only [List.length_cons, List.length_append, List.length_map, offsE] at hwl ⊢; omega) fun p6 H6 s6 o6 => ?_
                exact ⟨p6, _, _, rfl, _, by
                  rw [← txs_app] at o6
                  exact o6⟩
          · have h0 : offsE e = [] := by
              cases e with
              | shift a os => cases hb
              | _ => rfl
            walk_at "rd"
            exact ⟨p', _, _, rfl, _, by rw [h0, List.map_nil, List.append_nil]; exact o'⟩
        · rintro σ4 H4 ⟨p4, v2, v3, rfl, L4, o4⟩
          walk_at "rd"
          refine r_newLs o4 (by show (1 : Nat) ≤ _; decide) fun p5 H5 s5 o5 => ?_
          refine r_cats o5 (o5.at 1 rfl) (o5.at 0 rfl) (by rw [txs_len]; simp only [List.length_cons, List.length_append] at hwl ⊢; show _ + (0 + 1) ≤ _; omega) fun p6 H6 s6 o6 => ?_
          have e6 : txs (wB :: nmW e :: ((partsE e).flatMap (Ex.words S5) ++ (offsE e).map dec5)) ++ [V.str (PySem.Str.ofString ")")] = txs (wB :: nmW e :: ((partsE e).flatMap (Ex.words S5) ++ ((offsE e).map dec5 ++ [wE]))) := by
            rw [tx_end]
            show txs (wB :: nmW e :: ((partsE e).flatMap (Ex.words S5) ++ (offsE e).map dec5)) ++ txs [wE] = _
            rw [← txs_app, List.cons_append, List.cons_append, List.append_assoc]
          rw [e6] at o6
          exact q.mk o6 0 rfl
end

/-! ### words joined by blanks, and split again -/
def jn : List Wd5 → List Nat
  | [] => []
  | [w] => w
  | w :: v :: r => w ++ 32 :: jn (v :: r)
theorem join_jn : ∀ ws : List Wd5, Txt.join (tx [32]) (ws.map tx) = tx (jn ws) := by
  intro ws
  rw [show Txt.join (tx [32]) (ws.map tx) = Str.join (tx [32]) (ws.map tx) from TL.join_eq _ _]
  induction ws with
  | nil => rfl
  | cons w r ih =>
    cases r with
    | nil => rfl
    | cons v r =>
      show tx w ++ tx [32] ++ Str.join (tx [32]) ((v :: r).map tx) = _
      rw [ih, tx_cat, tx_cat, List.append_assoc]
      rfl
theorem cut_free : ∀ {p q A B : List Nat}, 32 ∉ p → 32 ∉ q → p ++ 32 :: A = q ++ 32 :: B → p = q ∧ A = B
  | [], [], A, B, _, _, h => ⟨rfl, (List.cons.inj h).2⟩
  | [], c :: q, A, B, _, hq, h => absurd (by rw [(List.cons.inj h).1]; exact List.mem_cons_self) hq
  | c :: p, [], A, B, hp, _, h => absurd (by rw [← (List.cons.inj h).1]; exact List.mem_cons_self) hp
  | c :: p, d :: q, A, B, hp, hq, h => by
    have h1 := List.cons.inj h
    have ih := cut_free (fun z => hp (List.mem_cons_of_mem _ z)) (fun z => hq (List.mem_cons_of_mem _ z)) h1.2
    exact ⟨by rw [h1.1, ih.1], ih.2⟩
theorem jn_inj : ∀ {ps qs : List Wd5}, ps ≠ [] → qs ≠ [] → (∀ p ∈ ps, 32 ∉ p) → (∀ q ∈ qs, 32 ∉ q) → jn ps = jn qs → ps = qs
  | [], _, h, _, _, _, _ => absurd rfl h
  | _, [], _, h, _, _, _ => absurd rfl h
  | [p], [q], _, _, _, _, h => congrArg (fun z => [z]) h
  | [p], q :: v :: r, _, _, hp, _, h => absurd (by rw [show p = q ++ 32 :: jn (v :: r) from h]; simp) (hp p List.mem_cons_self)
  | p :: u :: s, [q], _, _, _, hq, h => absurd (by rw [← show p ++ 32 :: jn (u :: s) = q from h]; simp) (hq q List.mem_cons_self)
  | p :: u :: s, q :: v :: r, _, _, hp, hq, h => by
    obtain ⟨h1, h2⟩ := cut_free (hp p List.mem_cons_self) (hq q List.mem_cons_self) h
    rw [h1, jn_inj (by simp) (by simp) (fun z hz => hp z (List.mem_cons_of_mem _ hz)) (fun z hz => hq z (List.mem_cons_of_mem _ hz)) h2]
theorem jn_sp5 (cs : List Nat) : jn (sp5 cs) = cs := by
  have h := StrLaws.join_split (tx cs) (tx [32])
  have h2 := join_jn (sp5 cs)
  rw [show Txt.join (tx [32]) ((sp5 cs).map tx) = Str.join (tx [32]) ((sp5 cs).map tx) from TL.join_eq _ _] at h2
  have e : (sp5 cs).map tx = Txt.split (tx cs) (tx [32]) := by
    unfold sp5
    rw [List.map_map]
    conv => rhs; rw [← List.map_id (Txt.split (tx cs) (tx [32]))]
    exact List.map_congr_left fun s _ => tx_of s
  rw [e, h] at h2
  exact (tx_inj.mp h2).symm
theorem sp5_free (cs : List Nat) : ∀ p ∈ sp5 cs, 32 ∉ p := by
  intro p hp
  obtain ⟨s, hs, rfl⟩ := List.mem_map.mp hp
  have h := StrLaws.split_free (tx cs) 32
  exact h s hs
theorem sp5_ne (cs : List Nat) : sp5 cs ≠ [] := by
  intro h
  have h1 := PyProof.Rows.split_pos (tx cs) (tx [32])
  have h2 := congrArg List.length h
  unfold sp5 at h2
  rw [List.length_map, List.length_nil] at h2
  omega
theorem sp5_jn {ws : List Wd5} (h0 : ws ≠ []) (hf : ∀ w ∈ ws, 32 ∉ w) : sp5 (jn ws) = ws := jn_inj (sp5_ne _) h0 (sp5_free _) hf (jn_sp5 _)
theorem sp5_nil : sp5 (jn []) = [[]] := sp5_jn (ws := [[]]) (by simp) (by simp)
theorem jn_cons (x : Wd5) {t : List Wd5} (h : t ≠ []) : jn (x :: t) = x ++ 32 :: jn t := by
  cases t with
  | nil => exact absurd rfl h
  | cons v r => rfl
theorem jn_blank (w : Wd5) : ∀ l r : List Wd5, jn (l ++ (w ++ [32]) :: r) = jn (l ++ w :: [] :: r)
  | [], r => by
    cases r with
    | nil => rfl
    | cons v r =>
      show (w ++ [32]) ++ 32 :: jn (v :: r) = w ++ 32 :: ([] ++ 32 :: jn (v :: r))
      simp
  | x :: l, r => by
    rw [List.cons_append, List.cons_append, jn_cons x (by simp), jn_cons x (by simp), jn_blank w l r]
theorem jn_len : ∀ ws : List Wd5, (jn ws).length ≤ (ws.map List.length).sum + ws.length
  | [] => Nat.le_refl _
  | [w] => by simp [jn]
  | w :: v :: r => by
    have ih := jn_len (v :: r)
    show (w ++ 32 :: jn (v :: r)).length ≤ _
    rw [List.length_append, List.length_cons, List.map_cons, List.sum_cons, List.length_cons]
    omega
theorem sum_le {ws : List Wd5} {b : Nat} (h : ∀ w ∈ ws, w.length ≤ b) : (ws.map List.length).sum ≤ ws.length * b := by
  induction ws with
  | nil => exact Nat.zero_le _
  | cons w r ih =>
    rw [List.map_cons, List.sum_cons, List.length_cons, Nat.add_mul, Nat.one_mul]
    have := h w List.mem_cons_self
    have := ih fun z hz => h z (List.mem_cons_of_mem _ hz)
    omega
theorem txs_map (ws : List Wd5) : txs ws = (ws.map tx).map V.str := by
  unfold txs
  rw [List.map_map]
  rfl
theorem lens_tx (ws : List Wd5) : ((ws.map tx).map (·.length)) = ws.map List.length := by
  rw [List.map_map]
  exact List.map_congr_left fun w _ => tx_len w
section
variable {P : Program} {w : World} {K : PySem.W.Frag} {mg : Str → Option Value} {base : Heap}
/-- good words -/
def gw (w : Wd5) : Prop := w.length ≤ 100 ∧ ∀ c ∈ w, c < 128 ∧ c ≠ 32
theorem gw.ok {w : Wd5} (h : gw w) : wOk w := ⟨Nat.le_trans h.1 (by decide), fun c hc => (h.2 c hc).1⟩
theorem gw.free {w : Wd5} (h : gw w) : 32 ∉ w := fun hm => (h.2 32 hm).2 rfl
/-- what the law's expressions are -/
structure ExG (e : Ex) : Prop where
  ok : e.Ok S5
  gd : ∀ w ∈ e.words S5, gw w
  ln : (e.words S5).length ≤ 1000
  dp : e.dep ≤ 20
def sp_fmt (K : PySem.W.Frag) : Sp := fun vs H Q _ => ∃ (e : Ex) (v : V), vs = [v] ∧ Tp K H v (datE e) ∧ ExG e ∧ RetV H Q (.str (tx (jn (e.words S5))))
theorem d_fmt (T : Top w K mg) : Def P w K mg base CX0 23 "format_expression" ["expression"] (sp_fmt K) := by
  have G_words_of : Def P w K mg base CX0 22 "words_of" ["expression"] (sp_wof K 20) := d_wof T 20
  obtain ⟨t1, g_SPACE⟩ := T.g_SPACE
  refine T.f_format_expression.ok sc_format_expression (by rintro vs H Q E ⟨e, v, rfl, _⟩; rfl) (fun f cdv A outer s H vs Q E hr h => ?_)
  obtain ⟨e, v, rfl, hT, G, q⟩ := h
  refine ⟨_, (pss_one (ps_ret (pe_join (pe_glob (v := .str (PySem.Str.ofString " ")) rfl g_SPACE ⟨_, rfl⟩) (pe_callD G_words_of (hr.mono (by decide)) (pa_cons (pv 0) pa_nil))))), ?_⟩
  walk_at "rd"
  rw [tx_spc]
  refine r_joinE ?_
  walk_at "rd"
  refine ⟨⟨_, rfl⟩, ?_⟩
  walk_at "rd"
  have hln := G.ln
  refine ⟨e, v, rfl, hT, G.ok, G.dp, by omega, fun z hz => (G.gd z hz).ok.1, r_ret1s (Own.nil H) fun p1 H1 s1 o1 => ?_⟩
  have hs := sum_le (b := 100) (fun z hz => (G.gd z hz).1)
  rw [txs_map] at o1
  refine ⟨_, p1, _, rfl, rfl, .inl (o1.sqL 0 rfl), ?_, ?_⟩
  · rw [lens_tx, List.length_map, tx_len]
    show _ + _ * 1 ≤ _
    omega
  · rw [join_jn]
    exact q.mk o1
theorem dep_max {e : Ex} {m : Int} (h : m ∈ ((partsE e).map fun x : Ex => (x.dep : Int)) ++ [0]) (h2 : ∀ y ∈ ((partsE e).map fun x : Ex => (x.dep : Int)) ++ [0], y ≤ m) : (e.dep : Int) = 1 + m := by
  cases e <;> simp [partsE, Ex.dep] at h h2 ⊢ <;> omega
def sp_dep (K : PySem.W.Frag) (n : Nat) : Sp := fun vs H Q _ => ∃ (e : Ex) (v : V), vs = [v] ∧ Tp K H v (datE e) ∧ e.Ok S5 ∧ e.dep ≤ n ∧ RetV H Q (.int (e.dep : Int))
theorem d_ldep (T : Top w K mg) : ∀ n : Nat, Def P w K mg base CX0 (2 + n) "_law_depth" ["expression"] (sp_dep K n) := by
  intro n
  have G__law_parts : Def P w K mg base CX0 1 "_law_parts" ["expression"] (sp_pof K) := d_lpof T
  induction n with
  | zero =>
    exact (def_none (P := P) (w := w) (base := base) (k := 2 + 0) T.f__law_depth).imp fun vs H Q E ⟨e, v, _, _, _, h, _⟩ => absurd (dep_pos e) (by omega)
  | succ n ih =>
    have G__law_depth := ih
    rw [show 2 + (n + 1) = (2 + n) + 1 by omega]
    refine T.f__law_depth.ok sc__law_depth (by rintro vs H Q E ⟨e, v, rfl, _⟩; rfl) (fun f cdv A outer s H vs Q E hr h => ?_)
    obtain ⟨e, v, rfl, hT, hok, hdp, q⟩ := h
    refine ⟨_, (pss_one (ps_ret (pe_op op_add pe_int (pe_callB (r := rMax K) (cr_max rfl) (by rfl) T.b_max (by decide +kernel) (pa_cons (pe_op op_cat (pe_lc (own := [("part", 1)]) (g := (gName 1)) (tt := tYes) rfl sc__law_depth.nd (pi_list (pe_callD G__law_parts (hr.mono (by omega)) (pa_cons (pv 0) pa_nil))) (blkOk_by (N := N__law_depth) (sc := defScope s__law_depth) (by decide +kernel)) (fun _ _ _ _ _ => (pg_name (i := 1) sc__law_depth.nd rfl (Or.inl rfl))) (fun _ _ _ _ _ => pts_nil) (fun _ _ _ _ _ => (pe_callD G__law_depth (hr.mono (by omega)) (pa_cons (pv 1) pa_nil)))) (pe_lst (pa_cons pe_int pa_nil))) pa_nil))))), ?_⟩
    have hr : Room (2 + n) (A.deeper (envOfC "_law_depth" (defScope s__law_depth) s.heap.objs.size f cdv)) := hr
    walk_at "rd"
    refine ⟨e, v, rfl, hT, hok, fun H1 p1 us s1 hp1 hu t1 => ?_⟩
    have o1 := (Own.nil H).add s1 hp1 hu
    have hul := t1.len
    rw [List.length_map] at hul
    have hpl : (partsE e).length ≤ 3 := by cases e <;> simp [partsE]
    refine lcW (fun i zs H' => zs = (((partsE e).take i).map fun x : Ex => V.int (x.dep : Int)) ∧ TpAll K H' us ((partsE e).map datE)) o1 (fun H' p zs o' => o'.sqL 1 rfl) (o1.sqL 0 rfl) (by omega) (fun _ _ _ _ s ⟨h1, h2⟩ => ⟨h1, h2.up s⟩) ⟨rfl, t1⟩ (fun i x p zs H' Y N hx o' s' hW hY hN => ?_) fun p2 H2 zs s2 o2 hW => ?_
    · obtain ⟨rfl, t'⟩ := hW
      obtain ⟨d, hd, tv⟩ := t'.getV hx
      rw [List.getElem?_map] at hd
      cases hpk : (partsE e)[i]? with
      | none => rw [hpk] at hd; cases hd
      | some y =>
        rw [hpk] at hd
        cases hd
        have hyo := parts_ok hok (List.mem_of_getElem? hpk)
        walk_at "rd"
        refine ⟨rfl, ?_⟩
        refine rif_t ?_
        walk_at "rd"
        refine ⟨y, x, rfl, tv, hyo.1, by omega, fun H4 s4 => ?_⟩
        exact hY _ _ (o'.mono s4) (.of s4) ⟨by rw [List.take_add_one, hpk]; simp, t'.up (.of s4)⟩
    · obtain ⟨rfl, t2⟩ := hW
      rw [hul, List.take_length] at o2
      walk_at "rd"
      refine r_newLs o2 (by show (1 : Nat) ≤ _; decide) fun p3 H3 s3 o3 => ?_
      refine r_cats o3 (o3.at 1 rfl) (o3.at 0 rfl) (by rw [List.length_map]; show _ + 1 ≤ _; omega) fun p4 H4 s4 o4 => ?_
      walk_at "rd"
      have e4 : ((partsE e).map fun x : Ex => V.int (x.dep : Int)) ++ [V.int 0] = (((partsE e).map fun x : Ex => (x.dep : Int)) ++ [0]).map V.int := by rw [List.map_append, List.map_map]; rfl
      rw [e4] at o4
      refine ⟨p4, _, rfl, o4.sqL 0 rfl, by simp, fun m hm hmax => ?_⟩
      walk_at "rd"
      rw [dep_max hm hmax] at q
      exact q.mk o4
end

theorem fm_all {α β : Type} (p : α → Bool) (g : α → β) : ∀ cs : List α, decide ((((cs.filterMap fun c => if p c = true then none else some (g c)).length : Nat) : Int) = 0) = cs.all p
  | [] => rfl
  | c :: cs => by
    rw [List.filterMap_cons, List.all_cons]
    cases h : p c with
    | true =>
      rw [if_pos rfl, Bool.true_and]
      exact fm_all p g cs
    | false =>
      rw [if_neg Bool.false_ne_true, Bool.false_and]
      refine decide_eq_false ?_
      show ¬ (((_ + 1 : Nat) : Int) = 0)
      omega
theorem isSome_if {α β : Type} (p : α → Bool) (g : α → β) (c : α) : (if p c = true then none else some (g c)).isSome = !p c := by
  cases p c <;> rfl
def nmV : V → Bool
  | .str s => nmB s.cps.toList
  | _ => true
section
variable {P : Program} {w : World} {K : PySem.W.Frag} {mg : Str → Option Value} {base : Heap}
theorem d_name_due (T : Top w K mg) : Def P w K mg base CX0 2 "_law_is_name_due" ["name"] sp_is_name := by
  have G__law_letters : Def P w K mg base CX0 1 "_law_letters" [] sp_letters := d_letters T
  refine T.f__law_is_name_due.ok sc__law_is_name_due (by rintro vs H Q E ⟨cs, rfl, _⟩; rfl) (fun f cdv A outer s H vs Q E hr h => ?_)
  obtain ⟨cs, rfl, hl, q⟩ := h
  refine ⟨_, (pss_cons (ps_if (PW.pt (pw_or (pt_cmpR op_lt (pe_callB (r := rLenStr) call_len_str (by rfl) T.b_len (by decide +kernel) (pa_cons (pv 0) pa_nil)) pe_int (nomark _)) (pw_or1 (pt_cmpR op_gt (pe_callB (r := rLenStr) call_len_str (by rfl) T.b_len (by decide +kernel) (pa_cons (pv 0) pa_nil)) pe_int (nomark _))))) (pss_one (ps_ret pe_bl)) pss_nil)
      (pss_one (ps_ret (pe_cmpR op_eq (pe_callB (r := Evl.rLenS K) call_len_seq (by rfl) T.b_len (by decide +kernel) (pa_cons (pe_lc (own := [("sign", 1)]) (g := (gName 1)) rfl sc__law_is_name_due.nd (pi_str (pv 0)) (blkOk_by (N := N__law_is_name_due) (sc := defScope s__law_is_name_due) (by decide +kernel)) (fun _ _ _ _ _ => (pg_name (i := 1) sc__law_is_name_due.nd rfl (Or.inl rfl))) (fun _ _ _ _ _ => pts_one (pt_cmpR op_notIn_sign (pv 1) (pe_callD0 G__law_letters (hr.mono (by decide))) rfl)) (fun _ _ _ _ _ => (pv 1))) pa_nil)) pe_int (nomark _))))), ?_⟩
  walk_at "rd"
  refine r_lenS (by rw [tx_len]; omega) ?_
  rw [tx_len]
  walk_at "rd"
  unfold nmB at q
  by_cases h1 : 1 ≤ cs.length
  · refine rif_no (by omega) ?_
    walk_at "rd"
    refine r_lenS (by rw [tx_len]; omega) ?_
    rw [tx_len]
    walk_at "rd"
    by_cases h2 : cs.length ≤ 12
    · refine rif_no (by omega) ?_
      rw [decide_eq_true ⟨h1, h2⟩, Bool.true_and] at q
      walk_at "rd"
      refine r_iS ?_
      walk_at "rd"
      refine lcSF (fun c => if decide (c ∈ LTS.cps.toList) = true then none else some (V.str (tx [c]))) (Own.nil H) (by omega) (fun x => rfl) ?_ ?_ fun p1 H1 s1 o1 => ?_
      · intro c p zs H' Q' hc o' q'
        have q' : ∀ H2, Same H' H2 → Q' (!decide (c ∈ LTS.cps.toList)) H2 := fun H2 e => by
          have t := q' H2 e
          have e2 : (if decide (c ∈ LTS.cps.toList) = true then none else some (V.str (tx [c]))).isSome = !decide (c ∈ LTS.cps.toList) := isSome_if (fun c => decide (c ∈ LTS.cps.toList)) (fun c => V.str (tx [c])) c
          rw [← e2]
          exact t
        walk_at "rd"
        refine ⟨rfl, c, _, rfl, rfl, ?_⟩
        walk_at "rd"
        exact q' _ (.refl _)
      · intro c y p zs H' Q' hc hy o' q'
        have hy : (if decide (c ∈ LTS.cps.toList) = true then none else some (V.str (tx [c]))) = some y := hy
        have e : y = .str (tx [c]) := by
          by_cases hb : decide (c ∈ LTS.cps.toList) = true
          · rw [if_pos hb] at hy; cases hy
          · rw [if_neg hb] at hy; exact (Option.some.inj hy).symm
        subst e
        walk_at "rd"
        exact q'.here
      have e3 := fm_all (fun c : Nat => decide (c ∈ LTS.cps.toList)) (fun c => V.str (tx [c])) cs
      walk_at "rd"
      rw [e3]
      exact q _ o1.ex
    · refine rif_yes (by omega) ?_
      rw [decide_eq_false (fun h => h2 h.2), Bool.false_and] at q
      walk_at "rd"
      exact q.here
  · refine rif_yes (by omega) ?_
    rw [decide_eq_false (fun h => h1 h.1), Bool.false_and] at q
    walk_at "rd"
    exact q.here
theorem d_path_due (T : Top w K mg) : Def P w K mg base CX0 3 "_law_is_path_due" ["path"] sp_is_path := by
  have G__law_is_name_due : Def P w K mg base CX0 2 "_law_is_name_due" ["name"] sp_is_name := d_name_due T
  refine T.f__law_is_path_due.ok sc__law_is_path_due (by rintro vs H Q E ⟨cs, rfl, _⟩; rfl) (fun f cdv A outer s H vs Q E hr h => ?_)
  obtain ⟨cs, rfl, hl, q⟩ := h
  refine ⟨_, (pss_cons (ps_if (pt_cmpR op_eq (pv 0) pe_str (nomark _)) (pss_one (ps_ret pe_bl)) pss_nil)
      (pss_cons (ps_set (i := 1) sc__law_is_path_due.nd rfl (Or.inl rfl) (pe_split (pv 0) pe_str))
      (pss_one (ps_ret (pe_and (pe_cmpR op_le (pe_callB (r := Evl.rLenS K) call_len_seq (by rfl) T.b_len (by decide +kernel) (pa_cons (pv 1) pa_nil)) pe_int (nomark _)) (pe_one (pe_cmpR op_eq (pe_callB (r := Evl.rLenS K) call_len_seq (by rfl) T.b_len (by decide +kernel) (pa_cons (pe_lc (own := [("name", 2)]) (g := (gName 2)) rfl sc__law_is_path_due.nd (pi_list (pv 1)) (blkOk_by (N := N__law_is_path_due) (sc := defScope s__law_is_path_due) (by decide +kernel)) (fun _ _ _ _ _ => (pg_name (i := 2) sc__law_is_path_due.nd rfl (Or.inl rfl))) (fun _ _ _ _ _ => pts_one (pt_not (pt_val (pe_callD G__law_is_name_due (hr.mono (by decide)) (pa_cons (pv 2) pa_nil))))) (fun _ _ _ _ _ => (pv 2))) pa_nil)) pe_int (nomark _)))))))), ?_⟩
  walk_at "rd"
  rw [tx_nil, dec_tx]
  by_cases hc : cs = []
  · refine rif_yes hc ?_
    walk_at "rd"
    unfold ptB at q
    rw [if_pos hc] at q
    exact q.here
  · refine rif_no hc ?_
    walk_at "rd"
    unfold ptB ptsB at q
    rw [if_neg hc] at q
    rw [tx_sl]
    refine r_joinE ?_
    walk_at "rd"
    refine ⟨⟨_, rfl⟩, ?_⟩
    walk_at "rd"
    have hpl := split_len (tx cs)
    have hpm : ∀ p ∈ Txt.split (tx cs) (tx [47]), p.length ≤ cs.length := fun p hp => by have := split_mem hp; rw [tx_len] at this; exact this
    rw [tx_len] at hpl
    refine ⟨_, _, rfl, rfl, rfl, sz100 (by rw [tx_len]; omega), fun p1 hp1 => ?_⟩
    have o1 := (Own.nil H).new (u := .lst ((Txt.split (tx cs) (tx [47])).map V.str)) hp1
    generalize Txt.split (tx cs) (tx [47]) = ps at q hpl hpm o1 ⊢
    generalize upd H p1 (.lst (ps.map V.str)) = H1 at o1 ⊢
    walk_at "rd"
    rw [List.length_map]
    by_cases h6 : ps.length ≤ 6
    · refine rif_yes (by omega) ?_
      rw [decide_eq_true h6, Bool.true_and] at q
      walk_at "rd"
      refine lcLVF (fun v => if nmV v = true then none else some v) o1 (fun H' p zs o' => o'.sqL 1 rfl) (o1.sqL 0 rfl) (by rw [List.length_map]; omega) (fun x => rfl) ?_ ?_ fun p2 H2 s2 o2 => ?_
      · intro i x p zs H' Q' hx o' s' q'
        obtain ⟨y, hy, rfl⟩ : ∃ y, y ∈ ps ∧ V.str y = x := List.mem_map.mp (List.mem_of_getElem? hx)
        have q' : ∀ H2, Same H' H2 → Q' (!nmB y.cps.toList) H2 := fun H2 e => by
          have t := q' H2 e
          have e2 : (if nmV (V.str y) = true then none else some (V.str y)).isSome = !nmB y.cps.toList := isSome_if nmV (fun v : V => v) (V.str y)
          rw [← e2]
          exact t
        have hyl := hpm y hy
        walk_at "rd"
        refine ⟨y.cps.toList, by rw [tx_of]; rfl, by show y.cps.size ≤ _; have : y.length = y.cps.size := rfl; omega, fun H2 e => ?_⟩
        walk_at "rd"
        exact q' H2 e
      · intro i x y p zs H' Q' hx hy o' s' q'
        have e : y = x := by
          have hy : (if nmV x = true then none else some x) = some y := hy
          by_cases hb : nmV x = true
          · rw [if_pos hb] at hy; cases hy
          · rw [if_neg hb] at hy; exact (Option.some.inj hy).symm
        subst e
        walk_at "rd"
        exact q'.here
      have e3 := fm_all (fun p : Str => nmB p.cps.toList) V.str ps
      rw [show (ps.map V.str).filterMap (fun v => if nmV v = true then none else some v) = ps.filterMap (fun c => if nmB c.cps.toList = true then none else some (V.str c)) by rw [List.filterMap_map]; rfl] at o2
      walk_at "rd"
      rw [e3]
      exact q _ o2.ex
    · refine rif_no (by omega) ?_
      rw [decide_eq_false h6, Bool.false_and] at q
      exact q _ o1.ex
end

section
variable {P : Program} {w : World} {K : PySem.W.Frag} {mg : Str → Option Value} {base : Heap}
def sp_is_text : Sp := fun vs H Q _ => ∃ (a b : Str), vs = [.str a, .str b] ∧ Q (.bl (decide (a = b))) H
theorem d_is_text (T : Top w K mg) : Def P w K mg base CX0 1 "_law_is_text" ["x", "due"] sp_is_text := by
  refine T.f__law_is_text.ok sc__law_is_text (by rintro vs H Q E ⟨a, b, rfl, _⟩; rfl) (fun f cdv A outer s H vs Q E hr h => ?_)
  obtain ⟨a, b, rfl, q⟩ := h
  refine ⟨_, (pss_one (ps_ret (pe_and (pe_callB (r := rIsi K) call_isi (by rfl) T.b_isinstance (by decide +kernel) (pa_cons (pv 0) (pa_cons (pe_bltn (v := .ty "str") (by rfl) T.b_str (by decide +kernel) rfl) pa_nil))) (pe_one (pe_cmpR op_eq (pv 0) (pv 1) (nomark _)))))), ?_⟩
  walk_at "rd"
  exact q
theorem cutS_from (cs : List Nat) (n : Nat) : cutS (tx cs) (some (n : Int)) none = tx (cs.drop n) := by
  unfold cutS
  rw [HT.sIx_nat, HT.sIx_none, tx_len]
  show tx ((cs.drop (min n cs.length)).take (cs.length - min n cs.length)) = _
  rw [tx_inj]
  by_cases h : n ≤ cs.length
  · rw [Nat.min_eq_left h, List.take_of_length_le (by rw [List.length_drop]; omega)]
  · rw [Nat.min_eq_right (by omega), Nat.sub_self, List.take_zero, List.drop_eq_nil_of_le (by omega)]
def dg1 (c : Nat) : Bool := decide (48 ≤ c ∧ c ≤ 57)
theorem dg_mem (c : Nat) : decide (c ∈ (PySem.Str.ofString "0123456789").cps.toList) = dg1 c := by
  rw [show PySem.Str.ofString "0123456789" = tx [48, 49, 50, 51, 52, 53, 54, 55, 56, 57] by decide]
  show decide (c ∈ [48, 49, 50, 51, 52, 53, 54, 55, 56, 57]) = decide (48 ≤ c ∧ c ≤ 57)
  refine decide_eq_decide.mpr ?_
  simp only [List.mem_cons, List.not_mem_nil, or_false]
  omega
/-- _law_integer_word: a whole number of at most thirty digits -/
def liw (w : Wd5) : Bool := iw5 w && decide ((digs w).length ≤ 30)
def sp_liw : Sp := fun vs H Q _ => ∃ (cs : Wd5), vs = [.str (tx cs)] ∧ wOk cs ∧ RetV H Q (.bl (liw cs))
theorem d_liw (T : Top w K mg) : Def P w K mg base CX0 1 "_law_integer_word" ["word"] sp_liw := by
  refine T.f__law_integer_word.ok sc__law_integer_word (by rintro vs H Q E ⟨cs, rfl, _⟩; rfl) (fun f cdv A outer s H vs Q E hr h => ?_)
  obtain ⟨cs, rfl, hc, q⟩ := h
  refine ⟨_, (pss_cons (ps_set (i := 1) sc__law_integer_word.nd rfl (Or.inl rfl) (pe_cutE (pe_ifExp (pt_cmpR op_eq (pe_slice sl_str (pv 0) po_none (po_some pe_int)) pe_str (nomark _)) (pe_slice sl_str (pv 0) (po_some pe_int) po_none) (pv 0))))
      (pss_cons (ps_if (PW.pt (pw_or (pt_cmpR op_lt (pe_callB (r := rLenStr) call_len_str (by rfl) T.b_len (by decide +kernel) (pa_cons (pv 1) pa_nil)) pe_int (nomark _)) (pw_or (pt_cmpR op_gt (pe_callB (r := rLenStr) call_len_str (by rfl) T.b_len (by decide +kernel) (pa_cons (pv 1) pa_nil)) pe_int (nomark _)) (pw_or1 (pt_cmpR op_gt (pe_callB (r := Evl.rLenS K) call_len_seq (by rfl) T.b_len (by decide +kernel) (pa_cons (pe_lc (own := [("sign", 2)]) (g := (gName 2)) rfl sc__law_integer_word.nd (pi_str (pv 1)) (blkOk_by (N := N__law_integer_word) (sc := defScope s__law_integer_word) (by decide +kernel)) (fun _ _ _ _ _ => (pg_name (i := 2) sc__law_integer_word.nd rfl (Or.inl rfl))) (fun _ _ _ _ _ => pts_one (pt_cmpR op_notIn_sign (pv 2) pe_str rfl)) (fun _ _ _ _ _ => (pv 2))) pa_nil)) pe_int (nomark _)))))) (pss_one (ps_ret pe_bl)) pss_nil)
      (pss_one (ps_ret (pe_or (pe_cmpR op_eq (pv 0) pe_str (nomark _)) (pe_one (pe_cmpR op_ne (pe_ix ix_str (pv 1) pe_int (fun _ _ => rfl)) pe_str (nomark _)))))))), ?_⟩
  have hc1 := hc.1
  walk_at "rd"
  refine r_cutO (H0 := H) (.str (tx (digs cs))) [] ?_ fun H1 o1 => ?_
  · walk_at "rd"
    refine r_slS (by rw [tx_len]; omega) ?_
    rw [show cutS (tx cs) none (some 1) = tx (cs.take 1) from cutS_to cs 1]
    walk_at "rd"
    rw [tx_mi, dec_tx]
    have hdg : (cs.take 1 = [45] → digs cs = cs.drop 1) ∧ (¬ cs.take 1 = [45] → digs cs = cs) := by
      rw [digs_drop]
      cases cs with
      | nil => exact ⟨(fun h => by cases h), fun _ => rfl⟩
      | cons c u =>
        refine ⟨fun h => ?_, fun h => ?_⟩
        · have h : [c] = [45] := h
          exact if_pos (List.cons.inj h).1
        · exact if_neg fun e => h (by rw [e]; rfl)
    refine rif (fun h => ?_) fun h => ?_
    · walk_at "rd"
      refine r_slS (by rw [tx_len]; omega) ?_
      rw [show cutS (tx cs) (some 1) none = tx (cs.drop 1) from cutS_from cs 1, hdg.1 h]
      exact ⟨rfl, Own.nil H⟩
    · walk_at "rd"
      exact ⟨by rw [hdg.2 h], Own.nil H⟩
  · have hdl := len_digs cs
    have hdl2 : (digs cs).length ≤ cs.length := by rw [digs_drop]; exact dropK_len 45 cs
    walk_at "rd"
    refine r_lenS (by rw [tx_len]; omega) ?_
    rw [tx_len]
    walk_at "rd"
    unfold liw iw5 at q
    cases hd : digs cs with
    | nil =>
      rw [hd] at q
      refine rif_yes (by simp) ?_
      walk_at "rd"
      exact q.mk o1
    | cons c u =>
      rw [hd] at q hdl2
      simp only [List.length_cons] at hdl2
      refine rif_no (by simp only [List.length_cons]; omega) ?_
      walk_at "rd"
      refine r_lenS (by rw [tx_len, List.length_cons]; omega) ?_
      rw [tx_len]
      walk_at "rd"
      by_cases h30 : (c :: u).length ≤ 30
      · refine rif_no (by omega) ?_
        walk_at "rd"
        refine r_iS ?_
        walk_at "rd"
        refine lcSF (fun c => if dg1 c = true then none else some (V.str (tx [c]))) (Own.nil H1) (by rw [List.length_cons]; omega) (fun x => rfl) ?_ ?_ fun p2 H2 s2 o2 => ?_
        · intro c p zs H' Q' hc o' q'
          have q' : ∀ H2, Same H' H2 → Q' (!dg1 c) H2 := fun H2 e => by
            have t := q' H2 e
            have e2 : (if dg1 c = true then none else some (V.str (tx [c]))).isSome = !dg1 c := isSome_if dg1 (fun c => V.str (tx [c])) c
            rw [← e2]
            exact t
          walk_at "rd"
          refine ⟨c, _, rfl, rfl, ?_⟩
          rw [dg_mem]
          walk_at "rd"
          exact q' _ (.refl _)
        · intro c y p zs H' Q' hc hy o' q'
          have hy : (if dg1 c = true then none else some (V.str (tx [c]))) = some y := hy
          have e : y = .str (tx [c]) := by
            by_cases hb : dg1 c = true
            · rw [if_pos hb] at hy; cases hy
            · rw [if_neg hb] at hy; exact (Option.some.inj hy).symm
          subst e
          walk_at "rd"
          exact q'.here
        have e3 := fm_all dg1 (fun c => V.str (tx [c])) (c :: u)
        have e4 : decide ((0 : Int) < ((((c :: u).filterMap fun c => if dg1 c = true then none else some (V.str (tx [c]))).length : Nat) : Int)) = !(c :: u).all dg1 := by
          rw [← e3, ← decide_not]
          exact decide_eq_decide.mpr (by omega)
        walk_at "rd"
        have o3 := o1.mono o2.ex
        rw [e4]
        refine rif_b (fun hb => ?_) fun hb => ?_
        · have hb : (c :: u).all dg1 = false := by rw [← Bool.not_not ((c :: u).all dg1), hb]; rfl
          walk_at "rd"
          have e5 : ((if c = 48 then decide (cs = [48]) else dgB (c :: u)) && decide ((c :: u).length ≤ 30)) = false := by
            by_cases hc48 : c = 48
            · rw [if_pos hc48, decide_eq_false, Bool.false_and]
              intro h
              subst h
              have hd2 : c :: u = [48] := by rw [← hd]; rfl
              rw [hd2] at hb
              exact absurd hb (by decide)
            · rw [if_neg hc48, show dgB (c :: u) = (c :: u).all dg1 from rfl, hb, Bool.false_and]
          dsimp only at q
          rw [e5] at q
          exact q.mk o3
        · have hb : (c :: u).all dg1 = true := by rw [← Bool.not_not ((c :: u).all dg1), hb]; rfl
          walk_at "rd"
          rw [tx_ze, dec_tx]
          dsimp only at q
          rw [decide_eq_true h30, Bool.and_true] at q
          refine rif (fun h => ?_) fun h => ?_
          · rw [h] at hd
            obtain rfl : c = 48 := (List.cons.inj hd).1.symm
            rw [if_pos rfl, decide_eq_true h] at q
            exact q.mk o3
          · walk_at "rd"
            refine r_ixStr (c := c) (by decide) rfl (by rw [List.length_cons]; omega) ?_
            walk_at "rd"
            rw [dec_tx]
            have e5 : (if c = 48 then decide (cs = [48]) else dgB (c :: u)) = !decide ([c] = [48]) := by
              by_cases hc48 : c = 48
              · rw [if_pos hc48, decide_eq_false h, decide_eq_true (by rw [hc48])]; rfl
              · rw [if_neg hc48, show dgB (c :: u) = (c :: u).all dg1 from rfl, hb, decide_eq_false (fun h => hc48 (List.cons.inj h).1)]; rfl
            rw [e5] at q
            exact q.mk o3
      · refine rif_yes (by omega) ?_
        walk_at "rd"
        dsimp only at q
        rw [decide_eq_false h30, Bool.and_false] at q
        exact q.mk o1
end

theorem r_cutJ {σ : L2.St} {H : Hp} {Q : VK} {t : TE} (q : t σ H Q) : tCutE t σ H Q := ⟨Q, q, fun _ _ h => h⟩
/-- an item of the law's stack -/
def ItV (K : PySem.W.Frag) (H : Hp) (v : V) : It → Prop
  | .wd w => v = .str (tx w) ∧ wOk w
  | .ex e => Tp K H v (datE e)
theorem ItV.up {K : PySem.W.Frag} {H H' : Hp} {v : V} {i : It} (h : ItV K H v i) (s : Stp H H') : ItV K H' v i := by
  cases i with
  | wd w => exact h
  | ex e => exact Tp.up h s
theorem atom_path (p : Wd5) : atomI S5 (.wd (64 :: p)) = if ptB p = true then some (.path p) else none := rfl
theorem atom_numW {cs : Wd5} (hA : ¬ cs.take 1 = [64]) : atomI S5 (.wd cs) = (inV5 cs).map .num := by
  show (match cs with | 64 :: p => if S5.pt p then some (Ex.path p) else none | _ => (S5.inV cs).map Ex.num) = _
  split
  · exact absurd rfl hA
  · rfl
theorem dat_tup (e : Ex) : ∃ ds, datE e = .tuple ds := by cases e <;> exact ⟨_, rfl⟩
section
variable {P : Program} {w : World} {K : PySem.W.Frag} {mg : Str → Option Value} {base : Heap}
def sp_atom (K : PySem.W.Frag) : Sp := fun vs H Q _ => ∃ (i : It) (v : V), vs = [v] ∧ ItV K H v i ∧ (∀ e, atomI S5 i = some e → RetD K H Q (datE e)) ∧ (atomI S5 i = none → RetV H Q .non)
theorem d_atom (T : Top w K mg) : Def P w K mg base CX0 4 "_law_atom" ["item"] (sp_atom K) := by
  have G__law_is_path_due : Def P w K mg base CX0 3 "_law_is_path_due" ["path"] sp_is_path := d_path_due T
  have G__law_integer_word : Def P w K mg base CX0 1 "_law_integer_word" ["word"] sp_liw := d_liw T
  refine T.f__law_atom.ok sc__law_atom (by rintro vs H Q E ⟨i, v, rfl, _⟩; rfl) (fun f cdv A outer s H vs Q E hr h => ?_)
  obtain ⟨i, v, rfl, hi, q, qn⟩ := h
  refine ⟨_, (pss_cons (ps_if (pt_val (pe_callB (r := rIsi K) call_isi (by rfl) T.b_isinstance (by decide +kernel) (pa_cons (pv 0) (pa_cons (pe_bltn (v := .ty "tuple") (by rfl) T.b_tuple (by decide +kernel) rfl) pa_nil)))) (pss_one (ps_ret (pv 0))) pss_nil)
      (pss_cons (ps_if (pt_cmpR op_eq (pe_slice sl_str (pv 0) po_none (po_some pe_int)) pe_str (nomark _)) (pss_one (ps_ret (pe_cutE (pe_ifExp (pt_val (pe_callD G__law_is_path_due (hr.mono (by decide)) (pa_cons (pe_slice sl_str (pv 0) (po_some pe_int) po_none) pa_nil))) (pe_tup (pa_cons pe_str (pa_cons (pe_slice sl_str (pv 0) (po_some pe_int) po_none) pa_nil))) pe_non)))) pss_nil)
      (pss_one (ps_ret (pe_cutE (pe_ifExp (pt_val (pe_callD G__law_integer_word (hr.mono (by decide)) (pa_cons (pv 0) pa_nil))) (pe_tup (pa_cons pe_str (pa_cons (pe_callTy (r := rIntS) call_int_str (by rfl) T.b_int (by decide +kernel) (pa_cons (pv 0) pa_nil)) pa_nil))) pe_non)))))), ?_⟩
  cases i with
  | ex e =>
    have hi : Tp K H v (datE e) := hi
    obtain ⟨ds, hds⟩ := dat_tup e
    have hi2 := hi
    rw [hds] at hi2
    obtain ⟨x, xs, rfl, hx, hxs⟩ := hi2.inv
    walk_at "rd"
    exact (q e rfl).mk (Own.nil H) hi
  | wd cs =>
    obtain ⟨rfl, hc⟩ := hi
    have hc1 := hc.1
    walk_at "rd"
    refine r_slS (by rw [tx_len]; omega) ?_
    rw [show cutS (tx cs) none (some 1) = tx (cs.take 1) from cutS_to cs 1]
    walk_at "rd"
    rw [tx_at, dec_tx]
    refine rif (fun hA => ?_) fun hA => ?_
    · obtain ⟨p, rfl⟩ : ∃ p, cs = 64 :: p := by
        cases cs with
        | nil => cases hA
        | cons c p =>
          have hA : [c] = [64] := hA
          exact ⟨p, by rw [(List.cons.inj hA).1]⟩
      rw [atom_path] at q qn
      rw [List.length_cons] at hc1
      walk_at "rd"
      refine r_cutJ ?_
      walk_at "rd"
      refine r_slS (by rw [tx_len, List.length_cons]; omega) ?_
      rw [show cutS (tx (64 :: p)) (some 1) none = tx p from cutS_from (64 :: p) 1]
      walk_at "rd"
      refine ⟨p, rfl, by omega, fun H1 s1 => ?_⟩
      walk_at "rd"
      have o1 := (Own.nil H).mono s1
      refine rif_b (fun hp => ?_) fun hp => ?_
      · rw [if_pos hp] at q
        walk_at "rd"
        refine r_slS (by rw [tx_len, List.length_cons]; omega) ?_
        rw [show cutS (tx (64 :: p)) (some 1) none = tx p from cutS_from (64 :: p) 1]
        walk_at "rd"
        refine r_newTp (K := K) o1 (.cons (.str _) (.cons (.str _) .nil)) (by show (2 : Nat) ≤ _; decide) fun x3 H3 s3 o3 t3 => ?_
        exact (q _ rfl).mk o3 t3
      · rw [if_neg (by rw [hp]; exact Bool.false_ne_true)] at qn
        walk_at "rd"
        exact (qn rfl).mk o1
    · rw [atom_numW hA] at q qn
      walk_at "rd"
      refine r_cutJ ?_
      walk_at "rd"
      refine ⟨cs, rfl, hc, fun H1 s1 => ?_⟩
      have o1 := (Own.nil H).mono s1
      walk_at "rd"
      refine rif_b (fun hb => ?_) fun hb => ?_
      · have hb2 := (Bool.and_eq_true _ _).mp hb
        have h30 := of_decide_eq_true hb2.2
        obtain ⟨n, hn⟩ := iw_int hb2.1 h30
        have hll := len_digs cs
        have hv : inV5 cs = some n := by unfold inV5; rw [if_pos ⟨hb2.1, h30⟩]; exact hn
        rw [hv] at q
        walk_at "rd"
        refine ⟨_, n, rfl, hn, by show (tx cs).length ≤ 640; rw [tx_len]; omega, ?_⟩
        walk_at "rd"
        refine r_newTp (K := K) o1 (.cons (.str _) (.cons (.int _) .nil)) (by show (2 : Nat) ≤ _; decide) fun x3 H3 s3 o3 t3 => ?_
        exact (q _ rfl).mk o3 t3
      · have hv : inV5 cs = none := by
          unfold inV5
          refine if_neg fun h => ?_
          unfold liw at hb
          rw [h.1, decide_eq_true h.2] at hb
          cases hb
        rw [hv] at qn
        walk_at "rd"
        exact (qn rfl).mk o1
end

section
variable {K : PySem.W.Frag} {H : Hp} {Q : VK}
theorem r_neSameD {x y : V} {d : PyData} (hx : Tp K H x d) (hy : Tp K H y d) (hs : SeqAt.shaped d = true ∧ PyData.eqv d d = true) (q : Q (.bl false) H) : rNeD K x y H Q :=
  ⟨d, d, hx.dp, hy.dp, hs.1, hs.1, by rw [hs.2]; exact q⟩
theorem r_eqSameD {x y : V} {d : PyData} (hx : Tp K H x d) (hy : Tp K H y d) (hs : SeqAt.shaped d = true ∧ PyData.eqv d d = true) (q : Q (.bl true) H) : rEqD K x y H Q :=
  ⟨d, d, hx.dp, hy.dp, hs.1, hs.1, by rw [hs.2]; exact q⟩
/-- equal to itself, and laid -/
def GoodD (n : Nat) (d : PyData) : Prop := PyData.eqv d d = true ∧ PyData.canLay0 d = true ∧ PyData.depth d ≤ n
def GoodL (n : Nat) (ds : List PyData) : Prop := PyData.eqvAll ds ds = true ∧ PyData.canLayAll0 ds = true ∧ PyData.depthAll ds ≤ n
theorem tx_lay {cs : List Nat} (h : ∀ c ∈ cs, c < 128) : PyData.canLay0 (.str (tx cs)) = true := by
  show (tx cs).cps.all (fun c => decide (c < 0x110000)) = true
  rw [← Array.all_toList]
  show cs.all _ = true
  rw [List.all_eq_true]
  intro c hc
  have := h c hc
  exact decide_eq_true (by omega)
theorem GoodD.tx {cs : List Nat} (h : ∀ c ∈ cs, c < 128) (n : Nat) : GoodD n (.str (tx cs)) := ⟨by simp [PyData.eqv], tx_lay h, Nat.zero_le _⟩
theorem GoodD.int (z : Int) (n : Nat) : GoodD n (.int z) := ⟨by simp [PyData.eqv], rfl, Nat.zero_le _⟩
theorem GoodL.nil (n : Nat) : GoodL n [] := ⟨by simp [PyData.eqvAll], rfl, Nat.zero_le _⟩
theorem GoodL.cons {n : Nat} {d : PyData} {ds : List PyData} (h : GoodD n d) (t : GoodL n ds) : GoodL n (d :: ds) := by
  refine ⟨?_, ?_, ?_⟩
  · show (PyData.eqv d d && PyData.eqvAll ds ds) = true
    rw [h.1, t.1]; rfl
  · show (PyData.canLay0 d && PyData.canLayAll0 ds) = true
    rw [h.2.1, t.2.1]; rfl
  · show max (PyData.depth d) (PyData.depthAll ds) ≤ n
    exact Nat.max_le.mpr ⟨h.2.2, t.2.2⟩
theorem GoodD.tup {n : Nat} {ds : List PyData} (h : GoodL n ds) : GoodD (n + 1) (.tuple ds) := by
  refine ⟨?_, h.2.1, ?_⟩
  · rw [PyData.eqv]
    exact h.1
  · show PyData.depthAll ds + 1 ≤ n + 1
    exact Nat.succ_le_succ h.2.2
theorem GoodD.lst {n : Nat} {ds : List PyData} (h : GoodL n ds) : GoodD (n + 1) (.list ds) := by
  refine ⟨?_, h.2.1, ?_⟩
  · rw [PyData.eqv]
    exact h.1
  · show PyData.depthAll ds + 1 ≤ n + 1
    exact Nat.succ_le_succ h.2.2
theorem GoodD.up {n m : Nat} {d : PyData} (h : GoodD n d) (hm : n ≤ m) : GoodD m d := ⟨h.1, h.2.1, Nat.le_trans h.2.2 hm⟩
theorem GoodL.ofAll {α : Type} {n : Nat} {f : α → PyData} : ∀ (l : List α), (∀ x ∈ l, GoodD n (f x)) → GoodL n (l.map f)
  | [], _ => .nil n
  | x :: r, h => .cons (h x List.mem_cons_self) (.ofAll r fun y hy => h y (List.mem_cons_of_mem _ hy))
theorem GoodD.sh {n : Nat} {d : PyData} (h : GoodD n d) (hn : n ≤ 64) : SeqAt.shaped d = true ∧ PyData.eqv d d = true := by
  refine ⟨?_, h.1⟩
  unfold SeqAt.shaped
  rw [Bool.and_eq_true]
  exact ⟨h.2.1, decide_eq_true (Nat.le_trans h.2.2 hn)⟩
end
theorem GoodD.iT (os : List Int) : GoodD 1 (iT os) := .tup (.ofAll os fun z _ => .int z 0)
theorem tx_path : PySem.Str.ofString "path" = tx [112, 97, 116, 104] := by decide
theorem tx_number : PySem.Str.ofString "number" = tx [110, 117, 109, 98, 101, 114] := by decide
theorem dat_good : ∀ e : Ex, (∀ w ∈ e.words S5, wOk w) → GoodD (e.dep + 1) (datE e)
  | .num n, _ => by
    rw [datE, tx_number]
    exact .tup (.cons (.tx (by decide) _) (.cons (.int _ _) (.nil _)))
  | .path p, h => by
    have hp := (h (64 :: p) (by simp [Ex.words])).2
    rw [datE, tx_path]
    exact .tup (.cons (.tx (by decide) _) (.cons (.tx (fun c hc => hp c (List.mem_cons_of_mem _ hc)) _) (.nil _)))
  | .two nm a b, h => by
    have ha := dat_good a fun w hw => h w (by simp [Ex.words, hw])
    have hb := dat_good b fun w hw => h w (by simp [Ex.words, hw])
    have hn := (h nm (by simp [Ex.words])).2
    rw [datE]
    exact .tup (.cons (.tx hn _) (.cons (ha.up (by simp only [Ex.dep]; omega)) (.cons (hb.up (by simp only [Ex.dep]; omega)) (.nil _))))
  | .pick a b c, h => by
    have ha := dat_good a fun w hw => h w (by simp [Ex.words, hw])
    have hb := dat_good b fun w hw => h w (by simp [Ex.words, hw])
    have hc := dat_good c fun w hw => h w (by simp [Ex.words, hw])
    rw [datE]
    exact .tup (.cons (.tx (by decide) _) (.cons (ha.up (by simp only [Ex.dep]; omega)) (.cons (hb.up (by simp only [Ex.dep]; omega)) (.cons (hc.up (by simp only [Ex.dep]; omega)) (.nil _)))))
  | .shift a os, h => by
    have ha := dat_good a fun w hw => h w (by simp [Ex.words, hw])
    rw [datE]
    exact .tup (.cons (.tx (by decide) _) (.cons (ha.up (by simp only [Ex.dep]; omega)) (.cons ((GoodD.iT os).up (by simp only [Ex.dep]; omega)) (.nil _))))
theorem dep_count : ∀ e : Ex, e.dep ≤ 1 + (e.words S5).count wB
  | .num n => by simp [Ex.dep]
  | .path p => by simp [Ex.dep]
  | .two nm a b => by
    have ha := dep_count a
    have hb := dep_count b
    simp only [Ex.dep, Ex.words, List.count_cons, List.count_append, beq_self_eq_true, if_true]
    omega
  | .pick a b c => by
    have ha := dep_count a
    have hb := dep_count b
    have hc := dep_count c
    simp only [Ex.dep, Ex.words, List.count_cons, List.count_append, beq_self_eq_true, if_true]
    omega
  | .shift a os => by
    have ha := dep_count a
    simp only [Ex.dep, Ex.words, List.count_cons, List.count_append, beq_self_eq_true, if_true]
    omega
/-- an expression on the law's stack -/
structure ExW (e : Ex) : Prop where
  ok : e.Ok S5
  wd : ∀ w ∈ e.words S5, wOk w
  ct : (e.words S5).count wB ≤ 40
theorem ExW.good {e : Ex} (h : ExW e) : GoodD 42 (datE e) := (dat_good e h.wd).up (by have := dep_count e; have := h.ct; omega)
def ItW : It → Prop
  | .wd w => wOk w
  | .ex e => ExW e
theorem atom_W {i : It} {e : Ex} (h : ItW i) (he : atomI S5 i = some e) : ExW e := by
  cases i with
  | ex e' => cases he; exact h
  | wd cs =>
    have h : wOk cs := h
    by_cases hA : cs.take 1 = [64]
    · obtain ⟨p, rfl⟩ : ∃ p, cs = 64 :: p := by
        cases cs with
        | nil => cases hA
        | cons c p =>
          have hA : [c] = [64] := hA
          exact ⟨p, by rw [(List.cons.inj hA).1]⟩
      rw [atom_path] at he
      by_cases hp : ptB p = true
      · rw [if_pos hp] at he
        cases he
        exact ⟨hp, fun w hw => by rw [Ex.words, List.mem_singleton] at hw; rw [hw]; exact h, by rw [Ex.words]; exact Nat.le_trans List.count_le_length (by show (1 : Nat) ≤ 40; decide)⟩
      · rw [if_neg hp] at he; cases he
    · rw [atom_numW hA] at he
      cases hv : inV5 cs with
      | none => rw [hv] at he; cases he
      | some n =>
        rw [hv] at he
        cases he
        have hd := (inI5 cs n).mp hv
        exact ⟨hd.2, fun w hw => by rw [Ex.words, List.mem_singleton] at hw; rw [hw, show S5.dec n = dec5 n from rfl, ← hd.1]; exact h, by rw [Ex.words]; exact Nat.le_trans List.count_le_length (by show (1 : Nat) ≤ 40; decide)⟩

def dO : Option Ex → PyData
  | none => .none
  | some e => datE e
theorem noneIn_any : ∀ os : List (Option Ex), ((os.map dO).any fun z => PyData.eqv z .none) = decide (none ∈ os)
  | [] => rfl
  | o :: os => by
    rw [List.map_cons, List.any_cons, noneIn_any os]
    cases o with
    | none => simp [dO, PyData.eqv]
    | some e =>
      obtain ⟨ds, hds⟩ := dat_tup e
      have e1 : PyData.eqv (dO (some e)) .none = false := by
        show PyData.eqv (datE e) .none = false
        rw [hds]
        rfl
      rw [e1, Bool.false_or]
      exact decide_eq_decide.mpr ⟨fun h => List.mem_cons_of_mem _ h, fun h => by
        rcases List.mem_cons.mp h with h | h
        · cases h
        · exact h⟩
theorem mapM_opt {α β : Type} (f : α → Option β) : ∀ l : List α, (none ∈ l.map f → l.mapM f = none) ∧ (∀ ys, l.mapM f = some ys → l.map f = ys.map some)
  | [] => ⟨(fun h => by cases h), fun ys h => by cases h; rfl⟩
  | x :: l => by
    have ih := mapM_opt f l
    rw [List.map_cons, List.mapM_cons]
    cases hx : f x with
    | none => exact ⟨fun _ => rfl, (fun ys h => by cases h)⟩
    | some y =>
      refine ⟨fun h => ?_, fun ys h => ?_⟩
      · have h2 : none ∈ l.map f := by
          rcases List.mem_cons.mp h with h | h
          · cases h
          · exact h
        simp [ih.1 h2]
      · cases hl : l.mapM f with
        | none => simp [hl] at h
        | some zs =>
          simp [hl] at h
          subst h
          rw [List.map_cons, ih.2 zs hl]
theorem mapM_some_of {α β : Type} (f : α → Option β) : ∀ l : List α, none ∉ l.map f → ∃ ys, l.mapM f = some ys
  | [], _ => ⟨[], rfl⟩
  | x :: l, h => by
    rw [List.map_cons, List.mem_cons, not_or] at h
    obtain ⟨ys, hys⟩ := mapM_some_of f l h.2
    cases hx : f x with
    | none => exact absurd hx.symm h.1
    | some y => exact ⟨y :: ys, by simp [hx, hys]⟩
theorem tx_pick : PySem.Str.ofString "pick" = tx wPick := by decide
def grpR (nm : Wd5) (items : List It) : List Ex → Option Ex := fun parts => if nm = wShift then match parts with
    | [] => none
    | a :: ps => if (items.drop 1).any isT then none else some (.shift a (ps.map numOf))
  else mkE nm [] parts
theorem grp_wd {nm : Wd5} {items : List It} {parts : List Ex} (h : items.mapM (atomI S5) = some parts) : grp S5 (.wd nm :: items) = grpR nm items parts := by
  show (items.mapM (atomI S5)).bind (grpR nm items) = _
  rw [h]
  rfl
theorem two_in (nm : Wd5) : inV (V.str (tx nm)) [V.str (PySem.Str.ofString "add"), V.str (PySem.Str.ofString "sub"), V.str (PySem.Str.ofString "mul"), V.str (PySem.Str.ofString "min"), V.str (PySem.Str.ofString "max"), V.str (PySem.Str.ofString "less")] = decide (nm ∈ TWO) := by
  rw [show ([V.str (PySem.Str.ofString "add"), V.str (PySem.Str.ofString "sub"), V.str (PySem.Str.ofString "mul"), V.str (PySem.Str.ofString "min"), V.str (PySem.Str.ofString "max"), V.str (PySem.Str.ofString "less")] : List V) = TWO.map fun n => V.str (tx n) by decide +kernel]
  generalize TWO = l
  unfold inV
  induction l with
  | nil => rfl
  | cons n l ih =>
    rw [List.map_cons, List.any_cons, ih]
    have e : eqV (V.str (tx n)) (V.str (tx nm)) = decide (n = nm) := by
      rw [← dec_tx]
      show ((tx n) == (tx nm)) = _
      rw [Bool.eq_iff_iff, beq_iff_eq, decide_eq_true_eq]
    rw [e, Bool.eq_iff_iff, Bool.or_eq_true, decide_eq_true_eq, decide_eq_true_eq, decide_eq_true_eq, List.mem_cons]
    exact or_congr ⟨Eq.symm, Eq.symm⟩ Iff.rfl
theorem isT_wd (cs : Wd5) : isT (.wd cs) = decide (cs.take 1 = [64]) := by
  cases cs with
  | nil => rfl
  | cons c p =>
    by_cases h : c = 64
    · subst h; rfl
    · rw [show decide ((c :: p).take 1 = [64]) = false from decide_eq_false (fun e => h (List.cons.inj (show [c] = [64] from e)).1)]
      unfold isT
      split
      · rename_i e; cases e
      · rename_i e; cases e; exact absurd rfl h
      · rfl
theorem num_of {i : It} {e : Ex} (h : isT i = false) (he : atomI S5 i = some e) : ∃ n, e = .num n := by
  cases i with
  | ex e' => cases h
  | wd cs =>
    rw [isT_wd] at h
    rw [atom_numW (of_decide_eq_false h)] at he
    cases hv : inV5 cs with
    | none => rw [hv] at he; cases he
    | some n => rw [hv] at he; cases he; exact ⟨n, rfl⟩
theorem any_count (l : List It) : decide ((0 : Int) < ((l.countP isT : Nat) : Int)) = l.any isT := by
  rw [Bool.eq_iff_iff, decide_eq_true_eq, List.any_eq_true]
  constructor
  · intro h
    exact List.countP_pos_iff.mp (by omega)
  · intro h
    have := List.countP_pos_iff.mpr h
    omega
theorem grp_two {nm : Wd5} {parts : List Ex} (h : nm ≠ wShift) : (nm ∈ TWO ∧ parts.length = 2) ∨ (nm = wPick ∧ parts.length = 3) ↔ cnt nm = some parts.length := by
  unfold cnt
  rw [if_neg h]
  by_cases h1 : nm ∈ TWO
  · rw [if_pos h1]
    have := (two_ne h1).2
    constructor
    · rintro (⟨_, h2⟩ | ⟨h2, _⟩)
      · rw [h2]
      · exact absurd h2 this
    · intro h2
      exact .inl ⟨h1, (Option.some.inj h2).symm⟩
  · rw [if_neg h1]
    by_cases h2 : nm = wPick
    · rw [if_pos h2]
      constructor
      · rintro (⟨h3, _⟩ | ⟨_, h3⟩)
        · exact absurd h3 h1
        · rw [h3]
      · intro h3
        exact .inr ⟨h2, (Option.some.inj h3).symm⟩
    · rw [if_neg h2]
      constructor
      · rintro (⟨h3, _⟩ | ⟨h3, _⟩)
        · exact absurd h3 h1
        · exact absurd h3 h2
      · intro h3; cases h3
theorem mkE_none {nm : Wd5} {parts : List Ex} (h : nm ≠ wShift) (h2 : ¬ cnt nm = some parts.length) : mkE nm [] parts = none := by
  rw [← grp_two h] at h2
  match parts with
  | [] => rfl
  | [a] => exact if_neg h
  | [a, b] => exact if_neg fun h3 => h2 (.inl ⟨h3, rfl⟩)
  | [a, b, c] => exact if_neg fun h3 => h2 (.inr ⟨h3, rfl⟩)
  | _ :: _ :: _ :: _ :: _ => rfl
section
variable {P : Program} {w : World} {K : PySem.W.Frag} {mg : Str → Option Value} {base : Heap}
def ItsV (K : PySem.W.Frag) (H : Hp) (us : List V) (g : List It) : Prop := us.length = g.length ∧ ∀ (k : Nat) (v : V) (i : It), us[k]? = some v → g[k]? = some i → ItV K H v i
theorem ItsV.up {H H' : Hp} {us : List V} {g : List It} (h : ItsV K H us g) (s : Stp H H') : ItsV K H' us g := ⟨h.1, fun k v i h1 h2 => (h.2 k v i h1 h2).up s⟩
theorem ItsV.drop {H : Hp} {us : List V} {g : List It} (h : ItsV K H us g) (n : Nat) : ItsV K H (us.drop n) (g.drop n) :=
  ⟨by rw [List.length_drop, List.length_drop, h.1], fun k v i h1 h2 => by rw [List.getElem?_drop] at h1 h2; exact h.2 _ _ _ h1 h2⟩
def sp_grp (K : PySem.W.Frag) : Sp := fun vs H Q _ => ∃ (a : Addr) (us : List V) (g : List It), vs = [.ref a] ∧ SqL K H a us ∧ ItsV K H us g ∧ (∀ i ∈ g, ItW i) ∧ g.length ≤ 100000 ∧ (∀ e, grp S5 g = some e → RetD K H Q (datE e)) ∧ (grp S5 g = none → RetV H Q .non)
theorem d_grp (T : Top w K mg) : Def P w K mg base CX0 5 "_law_grouped" ["group"] (sp_grp K) := by
  have G__law_atom : Def P w K mg base CX0 4 "_law_atom" ["item"] (sp_atom K) := d_atom T
  refine T.f__law_grouped.ok sc__law_grouped (by rintro vs H Q E ⟨a, us, g, rfl, _⟩; rfl) (fun f cdv A outer s H vs Q E hr h => ?_)
  obtain ⟨a, us, g, rfl, hS, hI, hW, hgl, q, qn⟩ := h
  refine ⟨_, (pss_cons (ps_if (pt_cutT (PW.pt (pw_or (pt_cmpR op_eq (pe_callB (r := Evl.rLenS K) call_len_seq (by rfl) T.b_len (by decide +kernel) (pa_cons (pv 0) pa_nil)) pe_int (nomark _)) (pw_or1 (pt_val (pe_callB (r := rIsi K) call_isi (by rfl) T.b_isinstance (by decide +kernel) (pa_cons (pe_ix (r := rIxL K) ix_list (pv 0) pe_int (fun _ _ => rfl)) (pa_cons (pe_bltn (v := .ty "tuple") (by rfl) T.b_tuple (by decide +kernel) rfl) pa_nil)))))))) (pss_one (ps_ret pe_non)) pss_nil)
      (pss_cons (ps_setLc (i := 1) (own := [("item", 2)]) (g := (gName 2)) (tt := tYes) rfl sc__law_grouped.nd rfl rfl (sw_true rfl rfl rfl (by decide +kernel)) (pi_list (pe_slice (r := rSlL K) sl_list (pv 0) (po_some pe_int) po_none)) (blkOk_by (N := N__law_grouped) (sc := defScope s__law_grouped) (by decide +kernel)) (fun _ _ _ _ _ => (pg_name (i := 2) sc__law_grouped.nd rfl (Or.inl rfl))) (fun _ _ _ _ _ => pts_nil) (fun _ _ _ _ _ => (pe_callD G__law_atom (hr.mono (by decide)) (pa_cons (pv 2) pa_nil))))
      (pss_cons (ps_if (pt_cmpR (r := rInD K) (op_inD (Nat.lt_of_le_of_lt (Nat.le_trans (Nat.add_le_add_left (by decide : 65 ≤ 200) _) (Nat.add_le_add_right (Nat.le_add_right _ _) _)) hr.un)) pe_non (pv 1) rfl) (pss_one (ps_ret pe_non)) pss_nil)
      (pss_cons (ps_if (pt_cmpR op_eq (pe_ix (r := rIxL K) ix_list (pv 0) pe_int (fun _ _ => rfl)) pe_str (nomark _)) (pss_cons (ps_if (pt_cutT (PW.pt (pw_or (pt_cmpR op_lt (pe_callB (r := Evl.rLenS K) call_len_seq (by rfl) T.b_len (by decide +kernel) (pa_cons (pv 1) pa_nil)) pe_int (nomark _)) (pw_or1 (pt_cmpR op_gt (pe_callB (r := Evl.rLenS K) call_len_seq (by rfl) T.b_len (by decide +kernel) (pa_cons (pe_lc (own := [("item", 2)]) (g := (gName 2)) rfl sc__law_grouped.nd (pi_list (pe_slice (r := rSlL K) sl_list (pv 0) (po_some pe_int) po_none)) (blkOk_by (N := N__law_grouped) (sc := defScope s__law_grouped) (by decide +kernel)) (fun _ _ _ _ _ => (pg_name (i := 2) sc__law_grouped.nd rfl (Or.inl rfl))) (fun _ _ _ _ _ => pts_one (PW.pt (pw_or (pt_val (pe_callB (r := rIsi K) call_isi (by rfl) T.b_isinstance (by decide +kernel) (pa_cons (pv 2) (pa_cons (pe_bltn (v := .ty "tuple") (by rfl) T.b_tuple (by decide +kernel) rfl) pa_nil)))) (pw_or1 (pt_cmpR op_eq (pe_slice sl_str (pv 2) po_none (po_some pe_int)) pe_str (nomark _)))))) (fun _ _ _ _ _ => (pv 2))) pa_nil)) pe_int (nomark _)))))) (pss_one (ps_ret pe_non)) pss_nil)
      (pss_one (ps_ret (pe_tup (pa_cons pe_str (pa_cons (pe_ix (r := rIxL K) ix_list (pv 1) pe_int (fun _ _ => rfl)) (pa_cons (pe_callTy (r := rTupS K) call_tuple_of (by rfl) T.b_tuple (by decide +kernel) (pa_cons (pe_lc (own := [("part", 3)]) (g := (gName 3)) (tt := tYes) rfl sc__law_grouped.nd (pi_list (pe_slice (r := rSlL K) sl_list (pv 1) (po_some pe_int) po_none)) (blkOk_by (N := N__law_grouped) (sc := defScope s__law_grouped) (by decide +kernel)) (fun _ _ _ _ _ => (pg_name (i := 3) sc__law_grouped.nd rfl (Or.inl rfl))) (fun _ _ _ _ _ => pts_nil) (fun _ _ _ _ _ => (pe_ix (r := rIxT K) ix_tup (pv 3) pe_int (fun _ _ => rfl)))) pa_nil)) pa_nil))))))) pss_nil)
      (pss_cons (ps_if (pt_cutT (PW.pt (pw_or (PW.pt (pw_and (pt_cmpR (r := rIn K false) op_in_seq (pe_ix (r := rIxL K) ix_list (pv 0) pe_int (fun _ _ => rfl)) (pe_tup (pa_cons pe_str (pa_cons pe_str (pa_cons pe_str (pa_cons pe_str (pa_cons pe_str (pa_cons pe_str pa_nil))))))) rfl) (pw_and1 (pt_cmpR op_eq (pe_callB (r := Evl.rLenS K) call_len_seq (by rfl) T.b_len (by decide +kernel) (pa_cons (pv 1) pa_nil)) pe_int (nomark _))))) (pw_or1 (PW.pt (pw_and (pt_cmpR op_eq (pe_ix (r := rIxL K) ix_list (pv 0) pe_int (fun _ _ => rfl)) pe_str (nomark _)) (pw_and1 (pt_cmpR op_eq (pe_callB (r := Evl.rLenS K) call_len_seq (by rfl) T.b_len (by decide +kernel) (pa_cons (pv 1) pa_nil)) pe_int (nomark _))))))))) (pss_one (ps_ret (pe_op (r := rCatA K) op_catA (pe_tup (pa_cons (pe_ix (r := rIxL K) ix_list (pv 0) pe_int (fun _ _ => rfl)) pa_nil)) (pe_callTy (r := rTupS K) call_tuple_of (by rfl) T.b_tuple (by decide +kernel) (pa_cons (pv 1) pa_nil))))) pss_nil)
      (pss_one (ps_ret pe_non))))))), ?_⟩
  have hug := hI.1
  walk_at "rd"
  cases g with
  | nil =>
    have h0 : us = [] := List.eq_nil_of_length_eq_zero hug
    subst h0
    refine r_cutS true ?_ fun H1 s1 => ?_
    · walk_at "rd"
      refine rif_yes (by simp) ?_
      walk_at "rd"
      exact ⟨rfl, Same.refl _⟩
    · walk_at "rd"
      exact qn rfl _ s1
  | cons i0 items =>
  cases us with
  | nil => cases hug
  | cons v0 us =>
  have hi0 := hI.2 0 v0 i0 rfl rfl
  cases i0 with
  | ex e0 =>
    have hi0 : Tp K H v0 (datE e0) := hi0
    obtain ⟨ds, hds⟩ := dat_tup e0
    rw [hds] at hi0
    obtain ⟨x, xs, rfl, hx, hxs⟩ := hi0.inv
    refine r_cutS true ?_ fun H1 s1 => ?_
    · walk_at "rd"
      refine rif_no (by simp only [List.length_cons]; omega) ?_
      walk_at "rd"
      refine r_ixL (i := 0) hS (atI_nat (j := 0) rfl) ?_
      walk_at "rd"
      exact ⟨rfl, Same.refl _⟩
    · walk_at "rd"
      exact qn rfl _ s1
  | wd nm =>
  obtain ⟨rfl, hnmk⟩ := hi0
  refine r_cutS false ?_ fun H1 s1 => ?_
  · walk_at "rd"
    refine rif_no (by simp only [List.length_cons]; omega) ?_
    walk_at "rd"
    refine r_ixL (i := 0) hS (atI_nat (j := 0) rfl) ?_
    walk_at "rd"
    exact ⟨rfl, Same.refl _⟩
  have o1 := (Own.nil H).mono s1
  have hS1 := o1.old hS
  have hI1 := (hI.drop 1).up (.of s1)
  have hI1 : ItsV K H1 us items := hI1
  have hul := hI1.1
  simp only [List.length_cons] at hgl
  walk_at "rd"
  refine r_slLs o1 hS1 fun p2 H2 s2 o2 => ?_
  rw [show cutV (V.str (tx nm) :: us) (some 1) none = us from cut_lo _ 1] at o2
  walk_at "rd"
  refine lcW (fun k zs H' => TpAll K H' zs ((items.take k).map fun i => dO (atomI S5 i)) ∧ ItsV K H' us items) o2 (fun H' p zs o' => o'.sqL 1 rfl) (o2.sqL 0 rfl) (by omega) (fun _ _ _ _ s ⟨h1, h2⟩ => ⟨h1.up s, h2.up s⟩) ⟨.nil, hI1.up s2⟩ (fun k x p zs H' Y N hx o' s' hWk hY hN => ?_) fun p3 H3 zs s3 o3 hWk => ?_
  · obtain ⟨hz, hI'⟩ := hWk
    have hk := (List.getElem?_eq_some_iff.mp hx).1
    have hik := List.getElem?_eq_getElem (show k < items.length by omega)
    have hix := hI'.2 k x _ hx hik
    generalize items[k] = i at hik hix
    have e1 : items.take (k + 1) = items.take k ++ [i] := by rw [List.take_add_one, hik]; rfl
    walk_at "rd"
    refine ⟨rfl, ?_⟩
    refine rif_t ?_
    walk_at "rd"
    refine ⟨i, x, rfl, hix, fun e he => r_retD o' fun u H4 s4 o4 t4 => ?_, fun he H4 s4 => ?_⟩
    · refine hY _ _ o4 (.of s4) ⟨?_, hI'.up (.of s4)⟩
      rw [e1, List.map_append]
      refine (hz.up (.of s4)).snoc ?_
      show Tp K H4 _ (dO (atomI S5 i))
      rw [he]
      exact t4
    · refine hY _ _ (o'.mono s4) (.of s4) ⟨?_, hI'.up (.of s4)⟩
      rw [e1, List.map_append]
      refine (hz.up (.of s4)).snoc ?_
      show Tp K H4 _ (dO (atomI S5 i))
      rw [he]
      exact .non
  obtain ⟨hz, hI3⟩ := hWk
  rw [hul, List.take_length] at hz
  have hz2 : TpAll K H3 zs ((items.map (atomI S5)).map dO) := by rw [List.map_map]; exact hz
  walk_at "rd"
  have hgood : GoodD 43 (.list ((items.map (atomI S5)).map dO)) := .lst (.ofAll _ fun o ho => by
    obtain ⟨i, hi, rfl⟩ := List.mem_map.mp ho
    cases he : atomI S5 i with
    | none => exact ⟨rfl, rfl, Nat.zero_le _⟩
    | some e => exact (atom_W (hW i (List.mem_cons_of_mem _ hi)) he).good)
  refine ⟨.none, _, .non, .lst (o3.sqL 0 rfl) (TpAll.dp _ _ hz2), by decide, (hgood.sh (by decide)).1, ?_⟩
  rw [noneIn_any]
  walk_at "rd"
  refine rif (fun hno => ?_) fun hno => ?_
  · have hg : grp S5 (.wd nm :: items) = none := by
      show (items.mapM (atomI S5)).bind _ = none
      rw [(mapM_opt _ items).1 hno]
      rfl
    walk_at "rd"
    exact (qn hg).mk o3
  obtain ⟨parts, hparts⟩ := mapM_some_of _ items hno
  rw [grp_wd hparts] at q qn
  rw [(mapM_opt _ items).2 parts hparts, List.map_map] at hz2
  have hz3 : TpAll K H3 zs (parts.map datE) := hz2
  have hzl := hz3.len
  rw [List.length_map] at hzl
  have hpi : parts.length = items.length := by
    have := congrArg List.length ((mapM_opt _ items).2 parts hparts)
    rw [List.length_map, List.length_map] at this
    exact this.symm
  have hS3 := o3.old hS
  walk_at "rd"
  refine r_ixL (i := 0) hS3 (atI_nat (j := 0) rfl) ?_
  walk_at "rd"
  rw [tx_shift, dec_tx]
  refine rif (fun hsh => ?_) fun hsh => ?_
  · subst hsh
    unfold grpR at q qn
    rw [if_pos rfl] at q qn
    walk_at "rd"
    cases parts with
    | nil =>
      refine r_cutS true ?_ fun H4 s4 => ?_
      · walk_at "rd"
        rw [hzl]
        refine rif_yes (by simp) ?_
        exact ⟨rfl, Same.refl _⟩
      · walk_at "rd"
        exact qn rfl _ (o3.ex.trans s4)
    | cons e0 ps =>
    cases items with
    | nil => cases hpi
    | cons i0 items =>
    cases us with
    | nil => cases hul
    | cons u0 us =>
    refine r_cutS (items.any isT) ?_ fun H4 s4 => ?_
    · walk_at "rd"
      rw [hzl]
      refine rif_no (by simp only [List.length_cons]; omega) ?_
      walk_at "rd"
      refine r_slLs (Own.nil H3) hS3 fun p4 H4 s4 o4 => ?_
      rw [show cutV (V.str (tx wShift) :: u0 :: us) (some 2) none = us from cut_lo _ 2] at o4
      have hI4 : ItsV K H4 us items := (hI3.drop 1).up s4
      have hul4 := hI4.1
      simp only [List.length_cons] at hgl
      walk_at "rd"
      refine lcW (fun k ys H' => ys.length = (items.take k).countP isT ∧ ItsV K H' us items) o4 (fun H' p zs o' => o'.sqL 1 rfl) (o4.sqL 0 rfl) (by omega) (fun _ _ _ _ s ⟨h1, h2⟩ => ⟨h1, h2.up s⟩) ⟨rfl, hI4⟩ (fun k x p ys H' Y N hx o' s' hWk hY hN => ?_) fun p5 H5 ys s5 o5 hWk => ?_
      · obtain ⟨hz, hI'⟩ := hWk
        have hk := (List.getElem?_eq_some_iff.mp hx).1
        have hik := List.getElem?_eq_getElem (show k < items.length by omega)
        have hix := hI'.2 k x _ hx hik
        generalize items[k] = i at hik hix
        have e1 : items.take (k + 1) = items.take k ++ [i] := by rw [List.take_add_one, hik]; rfl
        walk_at "rd"
        refine ⟨rfl, ?_⟩
        cases i with
        | ex e9 =>
          have hix : Tp K H' x (datE e9) := hix
          obtain ⟨ds, hds⟩ := dat_tup e9
          rw [hds] at hix
          obtain ⟨y, xs, rfl, hy, hxs⟩ := hix.inv
          walk_at "rd"
          exact hY _ _ o' (.refl _) ⟨by rw [e1, List.countP_append, List.length_append, hz]; rfl, hI'⟩
        | wd cs =>
          obtain ⟨rfl, hcs⟩ := hix
          have hcs1 := hcs.1
          walk_at "rd"
          refine r_slS (by rw [tx_len]; omega) ?_
          rw [show cutS (tx cs) none (some 1) = tx (cs.take 1) from cutS_to cs 1]
          walk_at "rd"
          rw [tx_at, dec_tx, ← isT_wd]
          cases ht : isT (.wd cs) with
          | true =>
            walk_at "rd"
            exact hY _ _ o' (.refl _) ⟨by rw [e1, List.countP_append, List.length_append, hz, List.countP_singleton, ht]; rfl, hI'⟩
          | false =>
            walk_at "rd"
            exact hN _ o' (.refl _) ⟨by rw [e1, List.countP_append, hz, List.countP_singleton, ht]; rfl, hI'⟩
      · obtain ⟨hz, _⟩ := hWk
        rw [hul4, List.take_length] at hz
        walk_at "rd"
        rw [hz, any_count]
        exact ⟨rfl, o5.ex⟩
    · have o4 := o3.mono s4
      cases ht : items.any isT with
      | true =>
        walk_at "rd"
        exact (qn (if_pos ht)).mk o4
      | false =>
        have q := q (.shift e0 (ps.map numOf)) (if_neg (by rw [show (i0 :: items).drop 1 = items from rfl, ht]; exact Bool.false_ne_true))
        have hz4 := hz3.up (.of s4)
        cases hz4 with
        | @cons z0 zs' _ _ hd0 hds =>
        have hzl2 := hds.len
        rw [List.length_map] at hzl2
        walk_at "rd"
        refine r_ixL (i := 0) (o4.sqL 0 rfl) (atI_nat (j := 0) rfl) ?_
        walk_at "rd"
        refine r_slLs o4 (o4.sqL 0 rfl) fun p5 H5 s5 o5 => ?_
        rw [show cutV (z0 :: zs') (some 1) none = zs' from cut_lo _ 1] at o5
        walk_at "rd"
        refine lcW (fun k ys H' => ys = ((ps.take k).map numOf).map V.int ∧ TpAll K H' zs' (ps.map datE)) o5 (fun H' p zs o' => o'.sqL 1 rfl) (o5.sqL 0 rfl) (by simp only [List.length_cons] at hpi hgl; omega) (fun _ _ _ _ s ⟨h1, h2⟩ => ⟨h1, h2.up s⟩) ⟨rfl, hds.up s5⟩ (fun k x p ys H' Y N hx o' s' hWk hY hN => ?_) fun p6 H6 ys s6 o6 hWk => ?_
        · obtain ⟨rfl, ht'⟩ := hWk
          obtain ⟨d, hd, tv⟩ := ht'.getV hx
          rw [List.getElem?_map] at hd
          cases hpk : ps[k]? with
          | none => rw [hpk] at hd; cases hd
          | some y =>
            rw [hpk] at hd
            cases hd
            have hall := (mapM_opt _ (i0 :: items)).2 (e0 :: ps) hparts
            rw [List.map_cons, List.map_cons] at hall
            have hall := congrArg (fun l => l[k]?) (List.cons.inj hall).2
            have hall : (items.map (atomI S5))[k]? = (ps.map some)[k]? := hall
            rw [List.getElem?_map, List.getElem?_map, hpk] at hall
            cases hik : items[k]? with
            | none => rw [hik] at hall; cases hall
            | some i =>
              rw [hik] at hall
              have hai : atomI S5 i = some y := Option.some.inj hall
              have hti : isT i = false := by
                cases hh : isT i with
                | false => rfl
                | true => rw [← ht]; exact (List.any_eq_true.mpr ⟨i, List.mem_of_getElem? hik, hh⟩).symm
              obtain ⟨n, rfl⟩ := num_of hti hai
              walk_at "rd"
              refine ⟨rfl, ?_⟩
              refine rif_t ?_
              walk_at "rd"
              refine r_ixTp (i := 1) tv rfl fun u t => ?_
              cases t
              exact hY _ _ o' (.refl _) ⟨by rw [List.take_add_one, hpk, List.map_append, List.map_append]; rfl, ht'⟩
        · obtain ⟨rfl, _⟩ := hWk
          rw [hzl2, List.take_length] at o6
          walk_at "rd"
          refine r_tupLs o6 (o6.sqL 0 rfl) fun p7 H7 s7 o7 t7 => ?_
          walk_at "rd"
          refine r_newTp o7 (.cons (.str _) (.cons (((hd0.up s5).up s6).up s7) (.cons (Tp.intsT t7) .nil))) (by show (3 : Nat) ≤ _; decide) fun p8 H8 s8 o8 t8 => ?_
          exact q.mk o8 t8
  · walk_at "rd"
    unfold grpR at q qn
    rw [if_neg hsh] at q qn
    refine r_cutS (decide (cnt nm = some parts.length)) ?_ fun H4 s4 => ?_
    · walk_at "rd"
      refine r_ixL (i := 0) hS3 (atI_nat (j := 0) rfl) ?_
      walk_at "rd"
      refine r_newTs (K := K) (Own.nil H3) (by show (6 : Nat) ≤ _; decide) fun p4 H4 s4 o4 q4 => ?_
      refine r_in (.inr q4) rfl rfl ?_
      rw [if_neg Bool.false_ne_true, two_in, ← decide_eq_decide.mpr (grp_two hsh)]
      have hS4 := o4.old hS3
      have hP4 : SqL K H4 p3 zs := o4.old (o3.sqL 0 rfl)
      walk_at "rd"
      by_cases h1 : nm ∈ TWO
      · refine rif_yes h1 ?_
        walk_at "rd"
        rw [hzl]
        by_cases h2 : parts.length = 2
        · refine rif_yes (by omega) ?_
          exact ⟨(decide_eq_true (.inl ⟨h1, h2⟩)).symm, o4.ex⟩
        · refine rif_no (by omega) ?_
          walk_at "rd"
          refine r_ixL (i := 0) hS4 (atI_nat (j := 0) rfl) ?_
          walk_at "rd"
          rw [tx_pick, dec_tx]
          refine rif_no (two_ne h1).2 ?_
          exact ⟨(decide_eq_false (by rintro (⟨_, h⟩ | ⟨h, _⟩); exact h2 h; exact (two_ne h1).2 h)).symm, o4.ex⟩
      · refine rif_no h1 ?_
        walk_at "rd"
        refine r_ixL (i := 0) hS4 (atI_nat (j := 0) rfl) ?_
        walk_at "rd"
        rw [tx_pick, dec_tx]
        by_cases h2 : nm = wPick
        · refine rif_yes h2 ?_
          walk_at "rd"
          rw [hzl]
          by_cases h3 : parts.length = 3
          · exact ⟨(decide_eq_true (by omega : ((parts.length : Nat) : Int) = 3)).trans (decide_eq_true (.inr ⟨h2, h3⟩)).symm, o4.ex⟩
          · exact ⟨(decide_eq_false (by omega : ¬ ((parts.length : Nat) : Int) = 3)).trans (decide_eq_false (by rintro (⟨h, _⟩ | ⟨_, h⟩); exact h1 h; exact h3 h)).symm, o4.ex⟩
        · refine rif_no h2 ?_
          exact ⟨(decide_eq_false (by rintro (⟨h, _⟩ | ⟨h, _⟩); exact h1 h; exact h2 h)).symm, o4.ex⟩
    · have o4 := o3.mono s4
      have hz4 := hz3.up (.of s4)
      by_cases hc : cnt nm = some parts.length
      · obtain ⟨e5, he5, hd5⟩ := mkE_ok (os := []) hc
        rw [if_neg hsh, List.append_nil] at hd5
        refine rif_yes hc ?_
        walk_at "rd"
        refine r_ixL (i := 0) (o4.old hS) (atI_nat (j := 0) rfl) ?_
        walk_at "rd"
        refine r_newTs (K := K) o4 (by show (1 : Nat) ≤ _; decide) fun p5 H5 s5 o5 q5 => ?_
        walk_at "rd"
        refine r_tupLs o5 (o5.sqL 0 rfl) fun p6 H6 s6 o6 q6 => ?_
        refine r_catA o6 (s6.sq q5) q6 (by show 1 + zs.length ≤ _; simp only [hzl]; omega) fun p7 H7 s7 o7 q7 => ?_
        have td : Tp K H7 (.ref p7) (datE e5) := by
          rw [hd5]
          exact .tup q7 (.cons (.str _) (((hz4.up s5).up s6).up s7))
        exact (q e5 he5).mk o7 td
      · refine rif_no hc ?_
        walk_at "rd"
        exact (qn (mkE_none hsh hc)).mk o4
end

theorem it_eqv {K : PySem.W.Frag} {H : Hp} {v : V} {i : It} (h : ItV K H v i) (hw : ItW i) : ∃ d, Dp K H v d ∧ SeqAt.shaped d = true ∧ PyData.eqv d (.str (tx wB)) = decide (i = .wd wB) := by
  cases i with
  | wd w =>
    obtain ⟨rfl, hc⟩ := h
    refine ⟨_, .str _, ((GoodD.tx hc.2 0).sh (by decide)).1, ?_⟩
    show (tx w == tx wB) = _
    rw [Bool.eq_iff_iff, beq_iff_eq, decide_eq_true_eq, tx_inj]
    exact ⟨fun h => by rw [h], fun h => It.wd.inj h⟩
  | ex e =>
    have h : Tp K H v (datE e) := h
    have hw : ExW e := hw
    refine ⟨_, h.dp, (hw.good.sh (by decide)).1, ?_⟩
    obtain ⟨ds, hds⟩ := dat_tup e
    rw [hds, decide_eq_false (fun h => by cases h)]
    rfl
theorem it_neB {K : PySem.W.Frag} {H : Hp} {Q : VK} {v : V} {i : It} (h : ItV K H v i) (hw : ItW i) (q : Q (.bl (!decide (i = .wd wB))) H) : rNeD K v (.str (PySem.Str.ofString "(")) H Q := by
  obtain ⟨d, h1, h2, h3⟩ := it_eqv h hw
  rw [tx_begin]
  exact ⟨d, _, h1, .str _, h2, ((GoodD.tx (cs := wB) (by decide) 0).sh (by decide)).1, by rw [h3]; exact q⟩
theorem it_eqB {K : PySem.W.Frag} {H : Hp} {Q : VK} {v : V} {i : It} (h : ItV K H v i) (hw : ItW i) (q : Q (.bl (decide (i = .wd wB))) H) : rEqD K v (.str (PySem.Str.ofString "(")) H Q := by
  obtain ⟨d, h1, h2, h3⟩ := it_eqv h hw
  rw [tx_begin]
  exact ⟨d, _, h1, .str _, h2, ((GoodD.tx (cs := wB) (by decide) 0).sh (by decide)).1, by rw [h3]; exact q⟩
theorem run_snoc {ws : List Wd5} {k : Nat} {w : Wd5} (h : ws[k]? = some w) : runP S5 (ws.take (k + 1)) [] = (runP S5 (ws.take k) []).bind fun st => stepP S5 st w := by
  rw [List.take_add_one, h, show (some w).toList = [w] from rfl, run_app]
  cases runP S5 (ws.take k) [] with
  | none => rfl
  | some st =>
    show (stepP S5 st w).bind (runP S5 []) = stepP S5 st w
    cases stepP S5 st w <;> rfl
theorem run_none {ws : List Wd5} {k : Nat} (h : runP S5 (ws.take k) [] = none) : lawP S5 ws = none := by
  have e : ws = ws.take k ++ ws.drop k := (List.take_append_drop k ws).symm
  unfold lawP
  rw [e, run_app, h]
  rfl
theorem run_W {ws : List Wd5} (hw : ∀ w ∈ ws, wOk w) (hc : ws.count wB ≤ 40) {st : List It} (h : runP S5 ws [] = some st) : ∀ x ∈ st, ItW x := by
  obtain ⟨h1, h2⟩ := run_sound S5 ws [] st (by simp) h
  rw [show ([] : List It).reverse.flatMap (It.flat S5) ++ ws = ws from rfl] at h2
  have sub : ∀ x ∈ st, ∀ w ∈ x.flat S5, w ∈ ws := fun x hx w hm => by
    rw [← h2]
    exact List.mem_flatMap.mpr ⟨x, List.mem_reverse.mpr hx, hm⟩
  have cnt : ∀ x ∈ st, (x.flat S5).count wB ≤ ws.count wB := fun x hx => by
    obtain ⟨l, r, hlr⟩ := List.append_of_mem (List.mem_reverse.mpr hx)
    rw [← h2, hlr, List.flatMap_append, List.flatMap_cons, List.count_append, List.count_append]
    omega
  intro x hx
  cases x with
  | wd w => exact hw w (sub _ hx w (List.mem_singleton.mpr rfl))
  | ex e => exact ⟨h1 _ hx, fun w hm => hw w (sub _ hx w hm), Nat.le_trans (cnt _ hx) hc⟩
theorem run_len {ws : List Wd5} : ∀ {st st' : List It}, runP S5 ws st = some st' → st'.length ≤ st.length + ws.length := by
  induction ws with
  | nil => intro st st' h; cases h; simp
  | cons w ws ih =>
    intro st st' h
    have h : (stepP S5 st w).bind (runP S5 ws) = some st' := h
    cases hs : stepP S5 st w with
    | none => rw [hs] at h; cases h
    | some st1 =>
      rw [hs] at h
      have h2 := ih h
      have h3 : st1.length ≤ st.length + 1 := by
        unfold stepP at hs
        split at hs
        · cases hs; simp
        · split at hs
          · cases hp : popB st [] with
            | none => rw [hp] at hs; cases hs
            | some p =>
              rw [hp] at hs
              obtain ⟨g, s2⟩ := p
              obtain ⟨xs, hx, _⟩ := popB_sound st [] g s2 hp
              cases hg : grp S5 g with
              | none => simp [hg] at hs
              | some e =>
                simp [hg] at hs
                rw [← hs, hx]
                simp
                omega
          · cases hs; simp
      rw [List.length_cons]
      omega
section
variable {K : PySem.W.Frag} {H : Hp}
/-- a stack: the list's end is the top -/
theorem ItsV.top {us : List V} {x : It} {st : List It} (h : ItsV K H us (x :: st).reverse) : ∃ v us', us = us' ++ [v] ∧ ItV K H v x ∧ ItsV K H us' st.reverse := by
  have hl := h.1
  rw [List.reverse_cons, List.length_append] at hl
  rcases List.eq_nil_or_concat us with rfl | ⟨us', v, rfl⟩
  · simp at hl
  rw [List.concat_eq_append] at h hl ⊢
  rw [List.length_append] at hl
  have hl : us'.length = st.reverse.length := by simpa using hl
  refine ⟨v, us', rfl, ?_, hl, fun k u i h1 h2 => ?_⟩
  · exact h.2 us'.length v x (by simp) (by rw [List.reverse_cons, hl]; simp)
  · have hk := (List.getElem?_eq_some_iff.mp h1).1
    refine h.2 k u i (by rw [List.getElem?_append_left hk]; exact h1) ?_
    rw [List.reverse_cons, List.getElem?_append_left (by omega)]
    exact h2
theorem ItsV.snoc {us : List V} {v : V} {x : It} {st : List It} (h : ItsV K H us st.reverse) (hv : ItV K H v x) : ItsV K H (us ++ [v]) (x :: st).reverse := by
  have hl := h.1
  refine ⟨by simp [hl], fun k u i h1 h2 => ?_⟩
  rw [List.reverse_cons] at h2
  by_cases hk : k < us.length
  · rw [List.getElem?_append_left hk] at h1
    rw [List.getElem?_append_left (by omega)] at h2
    exact h.2 k u i h1 h2
  · rw [List.getElem?_append_right (by omega)] at h1 h2
    have : k - us.length = 0 := by
      have := (List.getElem?_eq_some_iff.mp h1).1
      simp at this
      omega
    rw [this] at h1
    rw [← hl, this] at h2
    cases h1
    cases h2
    exact hv
theorem ItsV.cons {us : List V} {v : V} {x : It} {g : List It} (h : ItsV K H us g) (hv : ItV K H v x) : ItsV K H (v :: us) (x :: g) := by
  refine ⟨by simp [h.1], fun k u i h1 h2 => ?_⟩
  cases k with
  | zero => cases h1; cases h2; exact hv
  | succ k => exact h.2 k u i h1 h2
theorem at_end (us : List V) (v : V) : atI (us ++ [v]) (-1) = some v := by
  exact atI_last us v
end
section
variable {P : Program} {w : World} {K : PySem.W.Frag} {mg : Str → Option Value} {base : Heap}
def sp_lparsed (K : PySem.W.Frag) : Sp := fun vs H Q _ => ∃ (a : Addr) (ws : List Wd5), vs = [.ref a] ∧ WsL K H a ws ∧ ws.length ≤ 10000 ∧ ws.count wB ≤ 40 ∧ (∀ e, lawP S5 ws = some e → RetD K H Q (datE e)) ∧ (lawP S5 ws = none → RetV H Q .non)
def lawE : List It → Option Ex
  | [x] => if x = .wd wB then none else atomI S5 x
  | _ => none
theorem law_of {ws : List Wd5} {st : List It} (h : runP S5 ws [] = some st) : lawP S5 ws = lawE st := by
  show (runP S5 ws []).bind lawE = _
  rw [h]
  rfl
theorem step_be {st : List It} : stepP S5 st wE = (popB st []).bind fun p => (grp S5 p.1).map fun e => .ex e :: p.2 := by
  unfold stepP
  rw [if_neg (by decide), if_pos rfl]
theorem step_b {st : List It} : stepP S5 st wB = some (.wd wB :: st) := if_pos rfl
theorem popB_ne {x : It} {st g : List It} (h : ¬ x = .wd wB) : popB (x :: st) g = popB st (x :: g) := if_neg h
theorem popB_eq {st g : List It} : popB (.wd wB :: st) g = some (g, st) := if_pos rfl
theorem d_lparsed (T : Top w K mg) : Def P w K mg base CX0 6 "_law_parsed" ["words"] (sp_lparsed K) := by
  have G__law_atom : Def P w K mg base CX0 4 "_law_atom" ["item"] (sp_atom K) := d_atom T
  have G__law_grouped : Def P w K mg base CX0 5 "_law_grouped" ["group"] (sp_grp K) := d_grp T
  refine T.f__law_parsed.ok sc__law_parsed (by rintro vs H Q E ⟨a, ws, rfl, _⟩; rfl) (fun f cdv A outer s H vs Q E hr h => ?_)
  obtain ⟨a, ws, rfl, ⟨hS, _, hw⟩, hwl, hct, q, qn⟩ := h
  refine ⟨_, (pss_cons (ps_set (i := 1) sc__law_parsed.nd rfl (Or.inl rfl) (pe_lst pa_nil))
      (pss_cons (ps_for PassesOwn.never rfl (pi_list (pv 0)) (pg_name (i := 2) sc__law_parsed.nd rfl (Or.inl rfl)) (pss_one (ps_if (pt_cmpR op_eq (pv 2) pe_str (nomark _)) (pss_one (ps_expr (pe_bm PySem.F.plainAttrs_list PySem.F.slot_list_append PySem.F.type_list_append mt_append (pv 1) (pa_cons pe_str pa_nil)))) (pss_one (ps_if (pt_cmpR op_eq (pv 2) pe_str (nomark _)) (pss_cons (ps_set (i := 3) sc__law_parsed.nd rfl (Or.inl rfl) (pe_lst pa_nil))
      (pss_cons (ps_while PassesOwn.never (pt_cutT (PW.pt (pw_and (pt_cmpR op_gt (pe_callB (r := Evl.rLenS K) call_len_seq (by rfl) T.b_len (by decide +kernel) (pa_cons (pv 1) pa_nil)) pe_int (nomark _)) (pw_and1 (pt_cmpR (r := rNeD K) (op_neD hr.units) (pe_ix (r := rIxL K) ix_list (pv 1) (pe_un un_neg pe_int) (fun _ _ => rfl)) pe_str (nomark _)))))) (pss_one (ps_set (i := 3) sc__law_parsed.nd rfl (Or.inl rfl) (pe_op op_cat (pe_lst (pa_cons (pe_bm0 PySem.F.plainAttrs_list PySem.F.slot_list_pop PySem.F.type_list_pop mt_pop (pv 1)) pa_nil)) (pv 3)))))
      (pss_cons (ps_if (pt_cmpR op_eq (pe_callB (r := Evl.rLenS K) call_len_seq (by rfl) T.b_len (by decide +kernel) (pa_cons (pv 1) pa_nil)) pe_int (nomark _)) (pss_one (ps_ret pe_non)) pss_nil)
      (pss_cons (ps_expr (pe_bm0 PySem.F.plainAttrs_list PySem.F.slot_list_pop PySem.F.type_list_pop mt_pop (pv 1)))
      (pss_cons (ps_set (i := 4) sc__law_parsed.nd rfl (Or.inl rfl) (pe_callD G__law_grouped (hr.mono (by decide)) (pa_cons (pv 3) pa_nil)))
      (pss_cons (ps_if (pt_cmpR (r := rIsNon) op_isN (pv 4) pe_non (nomark _)) (pss_one (ps_ret pe_non)) pss_nil)
      (pss_one (ps_expr (pe_bm PySem.F.plainAttrs_list PySem.F.slot_list_append PySem.F.type_list_append mt_append (pv 1) (pa_cons (pv 4) pa_nil)))))))))) (pss_one (ps_expr (pe_bm PySem.F.plainAttrs_list PySem.F.slot_list_append PySem.F.type_list_append mt_append (pv 1) (pa_cons (pv 2) pa_nil)))))))))
      (pss_cons (ps_if (pt_cutT (PW.pt (pw_or (pt_cmpR op_ne (pe_callB (r := Evl.rLenS K) call_len_seq (by rfl) T.b_len (by decide +kernel) (pa_cons (pv 1) pa_nil)) pe_int (nomark _)) (pw_or1 (pt_cmpR (r := rEqD K) (op_eqD hr.units) (pe_ix (r := rIxL K) ix_list (pv 1) pe_int (fun _ _ => rfl)) pe_str (nomark _)))))) (pss_one (ps_ret pe_non)) pss_nil)
      (pss_one (ps_ret (pe_callD G__law_atom (hr.mono (by decide)) (pa_cons (pe_ix (r := rIxL K) ix_list (pv 1) pe_int (fun _ _ => rfl)) pa_nil))))))), ?_⟩
  walk_at "rd"
  refine r_newLs (Own.nil H) (by decide) fun p1 H1 s1 o1 => ?_
  walk_at "rd"
  refine forL (o1.old hS) (fun k σ' H' => ∃ (us : List V) (st : List It) (v2 v3 v4 : Option V), σ' = [some (.ref a), some (.ref p1), v2, v3, v4] ∧ Own H H' [(p1, .lst us)] ∧ ItsV K H' us st.reverse ∧ runP S5 (ws.take k) [] = some st) ⟨[], [], _, _, _, rfl, o1, ⟨rfl, fun k v i h => by cases h⟩, rfl⟩ (fun k σ' H' _ ⟨_, _, _, _, _, _, o', _⟩ => o'.old hS) ?_ ?_
  · rintro k x σ' H' hx ⟨us, st, v2, v3, v4, rfl, o', hI, hrun⟩
    obtain ⟨wk, hwk, rfl⟩ := txs_at hx
    have hkl := (List.getElem?_eq_some_iff.mp hwk).1
    have hWt : ∀ y ∈ st, ItW y := run_W (fun z hz => hw z (List.mem_of_mem_take hz)) (Nat.le_trans ((List.take_sublist k ws).count_le wB) hct) hrun
    have hlen := run_len hrun
    simp only [List.length_nil, Nat.zero_add, List.length_take] at hlen
    have hul := hI.1
    rw [List.length_reverse] at hul
    have hsn := run_snoc hwk
    rw [hrun, Option.bind_some] at hsn
    have hwkok := hw wk (List.mem_of_getElem? hwk)
    walk_at "rd"
    rw [tx_begin, dec_tx]
    refine rif (fun hb => ?_) fun hb => ?_
    · subst hb
      rw [step_b] at hsn
      walk_at "rd"
      refine r_apps o' 0 rfl (by omega) fun H2 s2 o2 => ?_
      exact ⟨_, _, _, _, _, rfl, o2, (hI.up s2).snoc (show ItV K H2 _ (.wd _) from ⟨rfl, hwkok⟩), hsn⟩
    walk_at "rd"
    rw [tx_end, dec_tx]
    refine rif (fun he => ?_) fun he => ?_
    · subst he
      rw [step_be] at hsn
      walk_at "rd"
      refine r_newLs o' (by show (0 : Nat) ≤ _; decide) fun p2 H2 s2 o2 => ?_
      walk_at "rd"
      refine whileB (fun m σ2 H3 => ∃ (us2 : List V) (st2 : List It) (gus : List V) (g : List It) (pg : Addr), m = st2.length ∧ σ2 = [some (.ref a), some (.ref p1), some (.str (tx wE)), some (.ref pg), v4] ∧ Own H H3 [(pg, .lst gus), (p1, .lst us2)] ∧ ItsV K H3 us2 st2.reverse ∧ ItsV K H3 gus g ∧ (∀ y ∈ st2, ItW y) ∧ (∀ y ∈ g, ItW y) ∧ popB st [] = popB st2 g ∧ g.length + st2.length ≤ 10000) st.length ⟨us, st, [], [], p2, rfl, rfl, o2, hI.up s2, ⟨rfl, fun k v i h => by cases h⟩, hWt, by simp, rfl, by show 0 + _ ≤ _; omega⟩ ?_
      rintro m σ2 H3 ⟨us2, st2, gus, g, pg, rfl, rfl, o3, hI3, hG3, hW3, hWg, hpop, hgl⟩
      have hul3 := hI3.1
      rw [List.length_reverse] at hul3
      have hgul := hG3.1
      cases st2 with
      | nil =>
        have h0 : us2 = [] := List.eq_nil_of_length_eq_zero hul3
        subst h0
        walk_at "rd"
        refine r_cutS false ?_ fun H4 s4 => ?_
        · walk_at "rd"
          refine rif_no (by simp) ?_
          exact ⟨rfl, Same.refl _⟩
        · have o4 := o3.mono s4
          walk_at "rd"
          refine rif_yes (by simp) ?_
          walk_at "rd"
          refine (qn (run_none (k := k + 1) ?_)).mk o4
          rw [hsn, hpop]
          rfl
      | cons y st3 =>
        obtain ⟨v, us3, rfl, hv, hI4⟩ := hI3.top
        have hy := hW3 y List.mem_cons_self
        simp only [List.length_cons] at hgl
        walk_at "rd"
        refine r_cutS (!decide (y = .wd wB)) ?_ fun H4 s4 => ?_
        · walk_at "rd"
          refine rif_yes (by rw [List.length_append]; simp only [List.length_cons]; omega) ?_
          walk_at "rd"
          refine r_ixL (i := -1) (o3.sqL 1 rfl) (at_end us3 v) ?_
          walk_at "rd"
          refine it_neB hv hy ?_
          walk_at "rd"
          exact ⟨rfl, Same.refl _⟩
        · have o4 := o3.mono s4
          refine rif_n (fun hyb => ?_) fun hyb => ?_
          · refine wh_turn ?_
            walk_at "rd"
            refine ⟨_, rfl, ty_lst (o4.at 1 rfl), p1, us3 ++ [v], v, rfl, rfl, o4.at 1 rfl, by simp, ?_⟩
            rw [List.dropLast_concat]
            have o5 := o4.set (v := .lst us3) 1 rfl
            have s5 : Stp H4 (upd H4 p1 (.lst us3)) := Stp.set (o4.at 1 rfl)
            walk_at "rd"
            refine r_newLs o5 (by show (1 : Nat) ≤ _; decide) fun p6 H6 s6 o6 => ?_
            walk_at "rd"
            refine r_cats o6 (o6.at 0 rfl) (o6.at 1 rfl) (by show 1 + gus.length ≤ _; omega) fun p7 H7 s7 o7 => ?_
            have s47 : Stp H3 H7 := (((Stp.of s4).trans s5).trans s6).trans s7
            refine ⟨st3.length, by simp only [List.length_cons]; omega, us3, st3, v :: gus, y :: g, p7, rfl, rfl, o7.sub (.cons_cons _ (.cons _ (.cons _ (.cons_cons _ .slnil)))), hI4.up s47, (hG3.up s47).cons (hv.up s47), fun z hz => hW3 z (List.mem_cons_of_mem _ hz), ?_, by rw [hpop, popB_ne hyb], by simp only [List.length_cons]; omega⟩
            intro z hz
            rcases List.mem_cons.mp hz with rfl | hz
            · exact hy
            · exact hWg z hz
          · subst hyb
            rw [popB_eq] at hpop
            rw [hpop, Option.bind_some] at hsn
            walk_at "rd"
            refine rif_no (by rw [List.length_append]; simp only [List.length_cons]; omega) ?_
            walk_at "rd"
            refine ⟨_, rfl, ty_lst (o4.at 1 rfl), p1, us3 ++ [v], v, rfl, rfl, o4.at 1 rfl, by simp, ?_⟩
            rw [List.dropLast_concat]
            have o5 := o4.set (v := .lst us3) 1 rfl
            have s5 : Stp H4 (upd H4 p1 (.lst us3)) := Stp.set (o4.at 1 rfl)
            have s35 : Stp H3 _ := (Stp.of s4).trans s5
            generalize upd H4 p1 (.lst us3) = H5 at o5 s5 s35 ⊢
            have hus3 := hI4.1
            rw [List.length_reverse] at hus3
            walk_at "rd"
            refine ⟨pg, gus, g, rfl, o5.sqL 0 rfl, hG3.up s35, hWg, by omega, fun e hge => r_retD o5 fun u H6 s6 o6 t6 => ?_, fun hge H6 s6 => ?_⟩
            · rw [hge] at hsn
              obtain ⟨ds, hds⟩ := dat_tup e
              have t7 := t6
              rw [hds] at t7
              obtain ⟨px, xs, rfl, hpx, _⟩ := t7.inv
              walk_at "rd"
              refine r_apps o6 1 rfl (by omega) fun H7 s7 o7 => ?_
              exact ⟨_, .ex e :: st3, _, _, _, rfl, o7.tl, ItsV.snoc ((hI4.up (s35.trans (.of s6))).up s7) (show ItV K H7 _ (.ex e) from Tp.up t6 s7), hsn⟩
            · rw [hge] at hsn
              walk_at "rd"
              exact (qn (run_none (k := k + 1) hsn)).mk (o5.mono s6)
    · have hstep : stepP S5 st wk = some (.wd wk :: st) := step_wd S5 st hb he
      rw [hstep] at hsn
      walk_at "rd"
      refine r_apps o' 0 rfl (by omega) fun H2 s2 o2 => ?_
      exact ⟨_, _, _, _, _, rfl, o2, (hI.up s2).snoc (show ItV K H2 _ (.wd _) from ⟨rfl, hwkok⟩), hsn⟩
  · rintro σ' H' ⟨us, st, v2, v3, v4, rfl, o', hI, hrun⟩
    rw [txs_len, List.take_length] at hrun
    have hWt : ∀ y ∈ st, ItW y := run_W hw hct hrun
    have hul := hI.1
    rw [List.length_reverse] at hul
    have hlaw := law_of hrun
    rw [hlaw] at q qn
    walk_at "rd"
    match st, hI, hWt, hul, q, qn with
    | [], hI, hWt, hul, q, qn =>
      refine r_cutS true ?_ fun H4 s4 => ?_
      · walk_at "rd"
        refine rif_nno (by simp only [List.length_nil] at hul; omega) ?_
        exact ⟨rfl, Same.refl _⟩
      · walk_at "rd"
        exact (qn rfl).mk (o'.mono s4)
    | _ :: _ :: _, hI, hWt, hul, q, qn =>
      refine r_cutS true ?_ fun H4 s4 => ?_
      · walk_at "rd"
        refine rif_nno (by simp only [List.length_cons] at hul; omega) ?_
        exact ⟨rfl, Same.refl _⟩
      · walk_at "rd"
        exact (qn rfl).mk (o'.mono s4)
    | [x], hI, hWt, hul, q, qn =>
      obtain ⟨v, us', rfl, hv, hI'⟩ := hI.top
      have h0 : us' = [] := List.eq_nil_of_length_eq_zero hI'.1
      subst h0
      have hx := hWt x List.mem_cons_self
      refine r_cutS (decide (x = .wd wB)) ?_ fun H4 s4 => ?_
      · walk_at "rd"
        refine rif_nyes (by simp) ?_
        walk_at "rd"
        refine r_ixL (i := 0) (o'.sqL 0 rfl) (atI_nat (j := 0) rfl) ?_
        walk_at "rd"
        refine it_eqB hv hx ?_
        walk_at "rd"
        exact ⟨rfl, Same.refl _⟩
      · have o4 := o'.mono s4
        refine rif (fun hb => ?_) fun hb => ?_
        · walk_at "rd"
          exact (qn (by show (if x = .wd wB then none else atomI S5 x) = none; rw [if_pos hb])).mk o4
        · have e0 : lawE [x] = atomI S5 x := if_neg hb
          rw [e0] at q qn
          walk_at "rd"
          refine r_ixL (i := 0) (o4.sqL 0 rfl) (atI_nat (j := 0) rfl) ?_
          walk_at "rd"
          exact ⟨x, v, rfl, hv.up (.of s4), fun e he H5 u s5 t5 => (q e he) _ _ (o4.ex.trans s5) t5, fun he H5 s5 => (qn he) _ (o4.ex.trans s5)⟩
end

section
variable {σ : L2.St} {H H0 : Hp} {Q : VK} {K : PySem.W.Frag} {L : List (Addr × HO)} {te : TE} {j : Int}
theorem lcWR {n s : Nat} {vs : List Nat} (W : Nat → List V → Hp → Prop) (o : Own H0 H L) (hn : j = (n : Int)) (hz : n ≤ 1000000) (hw : ∀ x, wipe ((wipe σ vs).set s (some x)) vs = wipe σ vs)
    (hW : ∀ i zs H1 H2, Stp H1 H2 → W i zs H1 → W i zs H2) (h0 : W 0 [] H)
    (he : ∀ (i : Nat) (p : Addr) (zs : List V) (H' : Hp) (Y : VK), i < n → Own H0 H' ((p, .lst zs) :: L) → Stp H H' → W i zs H' → (∀ y H4, Own H0 H4 ((p, .lst zs) :: L) → Stp H' H4 → W (i + 1) (zs ++ [y]) H4 → Y y H4) → te ((wipe σ vs).set s (some (.int (i : Int)))) H' Y)
    (k : ∀ p H' zs, Stp H H' → Own H0 H' ((p, .lst zs) :: L) → W n zs H' → Q (.ref p) H') :
    ∃ k : Int, [V.int j] = [.int k] ∧ -(2 ^ 62) ≤ k ∧ k < 2 ^ 62 ∧ RLc (Itr 0 k.toNat) (gName s) tYes te vs σ H Q := by
  refine ⟨j, rfl, by omega, by omega, fun P hP => ?_⟩
  have e : j.toNat = n := by omega
  rw [e]
  refine lc_range (lo := 0) (n := n) (fun i H' => ∃ zs, zs.length ≤ i ∧ Own H0 H' ((P, .lst zs) :: L) ∧ Stp H H' ∧ W i zs H') ⟨[], Nat.le_refl _, o.new hP, .of (same_new hP), hW _ _ _ _ (.of (same_new hP)) h0⟩ (fun i H' hi p => ?_) (fun H' ⟨zs, _, o', s', w'⟩ => k P H' zs s' o' w')
  obtain ⟨zs, hl, o', s', w'⟩ := p
  rw [Int.zero_add]
  refine ⟨hw _, ?_⟩
  refine iteT (B := ∃ zs, zs.length ≤ i + 1 ∧ Own H0 H' ((P, .lst zs) :: L) ∧ Stp H H' ∧ W (i + 1) zs H') (he i P zs H' _ hi o' s' w' fun y H4 o4 s4 w4 => ?_)
  have sS : Stp H4 (upd H4 P (.lst (zs ++ [y]))) := Stp.set (o4.at 0 rfl)
  exact ⟨zs, o4.at 0 rfl, sz_lt (by omega), zs ++ [y], by rw [List.length_append]; simp; exact hl, o4.set 0 rfl, (s'.trans s4).trans sS, hW _ _ _ _ sS w4⟩
end
def Wn : Nat → Nat
  | 0 => 1
  | d + 1 => 3 + 3 * Wn d
/-- a drawn expression of at most d + 1 levels -/
structure ExD (d : Nat) (e : Ex) : Prop where
  ok : e.Ok S5
  gd : ∀ w ∈ e.words S5, gw w
  ln : (e.words S5).length ≤ Wn d
  dp : e.dep ≤ d + 1
theorem Wn_pos : ∀ d, 1 ≤ Wn d
  | 0 => Nat.le_refl _
  | d + 1 => by show 1 ≤ 3 + 3 * Wn d; omega
theorem gw_dec {n : Int} (h : sm5 n) : gw (dec5 n) := by
  refine ⟨?_, fun c hc => ?_⟩
  · have h1 := (sm_len (m := n.natAbs)).mp h
    unfold dec5
    split
    · rw [List.length_cons]; omega
    · omega
  · rcases dec_mem n c hc with h | h
    · omega
    · omega
theorem ExD.num {d : Nat} {n : Int} (h : sm5 n) : ExD d (.num n) :=
  ⟨h, fun w hw => by rw [Ex.words, List.mem_singleton] at hw; rw [hw]; exact gw_dec h, Wn_pos d, by show 1 ≤ d + 1; omega⟩
theorem ExD.path {d : Nat} {p : Wd5} (h : ptB p = true) (hg : gw (64 :: p)) : ExD d (.path p) :=
  ⟨h, fun w hw => by rw [Ex.words, List.mem_singleton] at hw; rw [hw]; exact hg, Wn_pos d, by show 1 ≤ d + 1; omega⟩
instance (w : Wd5) : Decidable (gw w) := by unfold gw; infer_instance
theorem gw_two {nm : Wd5} (h : nm ∈ TWO) : gw nm := two_cases (p := gw) h (by decide) (by decide) (by decide) (by decide) (by decide) (by decide)
theorem ExD.two {d : Nat} {nm : Wd5} {a b : Ex} (h : nm ∈ TWO) (ha : ExD d a) (hb : ExD d b) : ExD (d + 1) (.two nm a b) := by
  refine ⟨⟨h, ha.ok, hb.ok⟩, fun w hw => ?_, ?_, ?_⟩
  · simp only [Ex.words, List.mem_cons, List.mem_append, List.not_mem_nil, or_false] at hw
    rcases hw with rfl | rfl | hw | hw | rfl
    · decide
    · exact gw_two h
    · exact ha.gd w hw
    · exact hb.gd w hw
    · decide
  · have h1 := ha.ln
    have h2 := hb.ln
    have := Wn_pos d
    simp only [Ex.words, List.length_cons, List.length_append, List.length_nil]
    show _ ≤ 3 + 3 * Wn d
    omega
  · have h1 := ha.dp
    have h2 := hb.dp
    simp only [Ex.dep]
    omega
theorem ExD.pick {d : Nat} {a b c : Ex} (ha : ExD d a) (hb : ExD d b) (hc : ExD d c) : ExD (d + 1) (.pick a b c) := by
  refine ⟨⟨ha.ok, hb.ok, hc.ok⟩, fun w hw => ?_, ?_, ?_⟩
  · simp only [Ex.words, List.mem_cons, List.mem_append, List.not_mem_nil, or_false] at hw
    rcases hw with rfl | rfl | hw | hw | hw | rfl
    · decide
    · decide
    · exact ha.gd w hw
    · exact hb.gd w hw
    · exact hc.gd w hw
    · decide
  · have h1 := ha.ln
    have h2 := hb.ln
    have h3 := hc.ln
    simp only [Ex.words, List.length_cons, List.length_append, List.length_nil]
    show _ ≤ 3 + 3 * Wn d
    omega
  · have h1 := ha.dp
    have h2 := hb.dp
    have h3 := hc.dp
    simp only [Ex.dep]
    omega
theorem ExD.shift {d : Nat} {a : Ex} {os : List Int} (ha : ExD d a) (ho : ∀ o ∈ os, sm5 o) (hl : os.length ≤ 2) : ExD (d + 1) (.shift a os) := by
  refine ⟨⟨ha.ok, ho⟩, fun w hw => ?_, ?_, ?_⟩
  · simp only [Ex.words, List.mem_cons, List.mem_append, List.not_mem_nil, or_false, List.mem_map] at hw
    rcases hw with rfl | rfl | hw | ⟨o, ho2, rfl⟩ | rfl
    · decide
    · decide
    · exact ha.gd w hw
    · exact gw_dec (ho o ho2)
    · decide
  · have h1 := ha.ln
    have := Wn_pos d
    simp only [Ex.words, List.length_cons, List.length_append, List.length_nil, List.length_map]
    show _ ≤ 3 + 3 * Wn d
    omega
  · have h1 := ha.dp
    simp only [Ex.dep]
    omega

section
variable {P : Program} {w : World} {K : PySem.W.Frag} {mg : Str → Option Value} {base : Heap}
def sp_lex (K : PySem.W.Frag) (n : Nat) : Sp := fun vs H Q _ => ∃ (a : Addr) (dr : List Int) (at' d dm : Nat), vs = [.ref a, .int (at' : Int), .int (d : Int), .int (dm : Int)] ∧ SqL K H a (dr.map V.int) ∧ Dr dr ∧ 0 < dr.length ∧ dr.length ≤ 1000 ∧ d < n ∧ dm ≤ 2 ∧ (at' + 2) * 3 ^ d ≤ 100000 ∧ ∀ e, ExD d e → RetD K H Q (datE e)
theorem at_next {at' d k : Nat} (h : (at' + 2) * 3 ^ (d + 1) ≤ 100000) (hk : k < 3) : (3 * at' + 1 + k + 2) * 3 ^ d ≤ 100000 := by
  refine Nat.le_trans ?_ h
  rw [Nat.pow_succ, Nat.mul_comm (3 ^ d) 3, ← Nat.mul_assoc]
  exact Nat.mul_le_mul_right _ (by omega)
theorem at_le {at' d : Nat} (h : (at' + 2) * 3 ^ d ≤ 100000) : at' ≤ 100000 := by
  have h1 : 1 ≤ 3 ^ d := Nat.one_le_pow _ _ (by decide)
  have h2 : (at' + 2) * 1 ≤ (at' + 2) * 3 ^ d := Nat.mul_le_mul_left _ h1
  omega
theorem sm_of {n : Int} (h1 : -1000000000000000000000000000000 < n) (h2 : n < 1000000000000000000000000000000) : sm5 n := by
  unfold sm5
  rw [show (10 : Nat) ^ 30 = 1000000000000000000000000000000 from rfl]
  omega
theorem names_at {j : Nat} (h : j < 7) : ∃ nm, ([V.str (PySem.Str.ofString "add"), V.str (PySem.Str.ofString "sub"), V.str (PySem.Str.ofString "mul"), V.str (PySem.Str.ofString "min"), V.str (PySem.Str.ofString "max"), V.str (PySem.Str.ofString "less"), V.str (PySem.Str.ofString "add")] : List V)[j]? = some (.str (tx nm)) ∧ nm ∈ TWO := by
  match j, h with
  | 0, _ => exact ⟨[97, 100, 100], by decide +kernel, by decide⟩
  | 1, _ => exact ⟨[115, 117, 98], by decide +kernel, by decide⟩
  | 2, _ => exact ⟨[109, 117, 108], by decide +kernel, by decide⟩
  | 3, _ => exact ⟨[109, 105, 110], by decide +kernel, by decide⟩
  | 4, _ => exact ⟨[109, 97, 120], by decide +kernel, by decide⟩
  | 5, _ => exact ⟨[108, 101, 115, 115], by decide +kernel, by decide⟩
  | 6, _ => exact ⟨[97, 100, 100], by decide +kernel, by decide⟩
  | _ + 7, h => omega
theorem d_lex (T : Top w K mg) : ∀ n : Nat, Def P w K mg base CX0 (1 + n) "_law_expression" ["draws", "at", "deep", "dimensions"] (sp_lex K n) := by
  intro n
  induction n with
  | zero =>
    exact (def_none (P := P) (w := w) (base := base) (k := 1 + 0) T.f__law_expression).imp fun vs H Q E ⟨_, _, _, _, _, _, _, _, _, _, h, _⟩ => absurd h (Nat.not_lt_zero _)
  | succ n ih =>
    have G__law_expression := ih
    rw [show 1 + (n + 1) = (1 + n) + 1 by omega]
    refine T.f__law_expression.ok sc__law_expression (by rintro vs H Q E ⟨a, dr, at', d, dm, rfl, _⟩; rfl) (fun f cdv A outer s H vs Q E hr h => ?_)
    obtain ⟨a, dr, at', d, dm, rfl, hS, hd, h0, hl, hdn, hdm, hat, q⟩ := h
    refine ⟨_, (pss_cons (ps_set (i := 4) sc__law_expression.nd rfl (Or.inl rfl) (pe_op op_add (pe_ix (r := rIxL K) ix_list (pv 0) (pe_op op_mod (pv 1) (pe_callB (r := Evl.rLenS K) call_len_seq (by rfl) T.b_len (by decide +kernel) (pa_cons (pv 0) pa_nil))) (fun _ _ => rfl)) (pe_op op_mul pe_int (pv 1))))
      (pss_cons (ps_if (pt_cutT (PW.pt (pw_or (pt_cmpR op_eq (pv 2) pe_int (nomark _)) (pw_or1 (pt_cmpR op_eq (pe_op op_mod (pv 4) pe_int) pe_int (nomark _)))))) (pss_cons (ps_if (pt_cmpR op_eq (pe_op op_mod (pe_op op_fdiv (pv 4) pe_int) pe_int) pe_int (nomark _)) (pss_one (ps_ret (pe_tup (pa_cons pe_str (pa_cons (pe_ix (r := rIxL K) ix_list (pe_lst (pa_cons (pe_op op_sub (pe_op op_mod (pe_op op_fdiv (pv 4) pe_int) pe_int) pe_int) (pa_cons (pe_op op_sub (pe_powC (c := 100000000000000000000000000000) ⟨by decide, by decide, by decide⟩ (by decide +kernel)) (pv 4)) (pa_cons (pe_op op_add (pe_un un_neg (pe_powC (c := 100000000000000000000) ⟨by decide, by decide, by decide⟩ (by decide +kernel))) (pv 4)) pa_nil)))) (pe_op op_mod (pe_op op_fdiv (pv 4) pe_int) pe_int) (fun _ _ => rfl)) pa_nil))))) pss_nil)
      (pss_one (ps_ret (pe_tup (pa_cons pe_str (pa_cons (pe_ix (r := rIxL K) ix_list (pe_lst (pa_cons pe_str (pa_cons pe_str (pa_cons pe_str pa_nil)))) (pe_op op_mod (pe_op op_fdiv (pv 4) pe_int) pe_int) (fun _ _ => rfl)) pa_nil)))))) pss_nil)
      (pss_cons (ps_set (i := 5) sc__law_expression.nd rfl (Or.inl rfl) (pe_op op_mod (pe_op op_fdiv (pv 4) pe_int) pe_int))
      (pss_cons (ps_setLc (i := 6) (own := [("k", 7)]) (g := (gName 7)) (tt := tYes) rfl sc__law_expression.nd rfl rfl (sw_true rfl rfl rfl (by decide +kernel)) (pi_range1 (by rfl) T.b_range (pa_cons pe_int pa_nil)) (blkOk_by (N := N__law_expression) (sc := defScope s__law_expression) (by decide +kernel)) (fun _ _ _ _ _ => (pg_name (i := 7) sc__law_expression.nd rfl (Or.inl rfl))) (fun _ _ _ _ _ => pts_nil) (fun _ _ _ _ _ => (pe_callD G__law_expression (hr.mono (by omega)) (pa_cons (pv 0) (pa_cons (pe_op op_add (pe_op op_add (pe_op op_mul pe_int (pv 1)) pe_int) (pv 7)) (pa_cons (pe_op op_sub (pv 2) pe_int) (pa_cons (pv 3) pa_nil)))))))
      (pss_cons (ps_if (pt_cmpR op_eq (pv 5) pe_int (nomark _)) (pss_one (ps_ret (pe_tup (pa_cons pe_str (pa_cons (pe_ix (r := rIxL K) ix_list (pv 6) pe_int (fun _ _ => rfl)) (pa_cons (pe_ix (r := rIxL K) ix_list (pv 6) pe_int (fun _ _ => rfl)) (pa_cons (pe_ix (r := rIxL K) ix_list (pv 6) pe_int (fun _ _ => rfl)) pa_nil))))))) pss_nil)
      (pss_cons (ps_if (pt_cmpR op_eq (pv 5) pe_int (nomark _)) (pss_one (ps_ret (pe_tup (pa_cons pe_str (pa_cons (pe_ix (r := rIxL K) ix_list (pv 6) pe_int (fun _ _ => rfl)) (pa_cons (pe_callTy (r := rTupS K) call_tuple_of (by rfl) T.b_tuple (by decide +kernel) (pa_cons (pe_lc (own := [("k", 7)]) (g := (gName 7)) (tt := tYes) rfl sc__law_expression.nd (pi_range1 (by rfl) T.b_range (pa_cons (pv 3) pa_nil)) (blkOk_by (N := N__law_expression) (sc := defScope s__law_expression) (by decide +kernel)) (fun _ _ _ _ _ => (pg_name (i := 7) sc__law_expression.nd rfl (Or.inl rfl))) (fun _ _ _ _ _ => pts_nil) (fun _ _ _ _ _ => (pe_op op_sub (pe_op op_mod (pe_ix (r := rIxL K) ix_list (pv 0) (pe_op op_mod (pe_op op_add (pe_op op_add (pv 1) pe_int) (pv 7)) (pe_callB (r := Evl.rLenS K) call_len_seq (by rfl) T.b_len (by decide +kernel) (pa_cons (pv 0) pa_nil))) (fun _ _ => rfl)) pe_int) pe_int))) pa_nil)) pa_nil)))))) pss_nil)
      (pss_one (ps_ret (pe_tup (pa_cons (pe_ix (r := rIxL K) ix_list (pe_lst (pa_cons pe_str (pa_cons pe_str (pa_cons pe_str (pa_cons pe_str (pa_cons pe_str (pa_cons pe_str (pa_cons pe_str pa_nil)))))))) (pv 5) (fun _ _ => rfl)) (pa_cons (pe_ix (r := rIxL K) ix_list (pv 6) pe_int (fun _ _ => rfl)) (pa_cons (pe_ix (r := rIxL K) ix_list (pv 6) pe_int (fun _ _ => rfl)) pa_nil)))))))))))), ?_⟩
    have hr : Room (1 + n) (A.deeper (envOfC "_law_expression" (defScope s__law_expression) s.heap.objs.size f cdv)) := hr
    have hN : (0 : Int) < (dr.length : Int) := by omega
    have m1 := Int.emod_nonneg (at' : Int) (show (dr.length : Int) ≠ 0 by omega)
    have m2 := Int.emod_lt_of_pos (at' : Int) hN
    have g0 := hd.gi m1 m2
    have hal := at_le hat
    walk_at "rd"
    rw [List.length_map]
    refine r_I hN ?_
    walk_at "rd"
    obtain ⟨dw, hdw⟩ : ∃ dw : Int, dw = gi dr ((at' : Int) % (dr.length : Int)) + 31 * (at' : Int) := ⟨_, rfl⟩
    rw [← hdw]
    have hdw0 : 0 ≤ dw := by omega
    have hdw1 : dw ≤ 4000000 := by omega
    refine r_cutS (decide (d = 0) || decide (dw % 5 = 0)) ?_ fun H1 s1 => ?_
    · walk_at "rd"
      refine rif (fun h => ?_) fun h => ?_
      · exact ⟨by rw [decide_eq_true (by omega : d = 0)]; rfl, Same.refl _⟩
      · walk_at "rd"
        exact ⟨by rw [decide_eq_false (by omega : ¬ d = 0)]; rfl, Same.refl _⟩
    have o1 := (Own.nil H).mono s1
    refine rif_b (fun hc => ?_) fun hc => ?_
    · walk_at "rd"
      refine rif (fun h3 => ?_) fun h3 => ?_
      · have fin : ∀ (n : Int) (H2 : Hp) (L : List (Addr × HO)), sm5 n → Own H H2 L → RNewT [V.str (PySem.Str.ofString "number"), V.int n] H2 Q := fun n H2 L hn o2 =>
          r_newTp (K := K) o2 (.cons (.str _) (.cons (.int _) .nil)) (by show (2 : Nat) ≤ _; decide) fun x3 H3 s3 o3 t3 => (q (.num n) (.num hn)).mk o3 t3
        walk_at "rd"
        refine r_newLs o1 (by show (3 : Nat) ≤ _; decide) fun p2 H2 s2 o2 => ?_
        walk_at "rd"
        have hi : dw / 135 % 3 = 0 ∨ dw / 135 % 3 = 1 ∨ dw / 135 % 3 = 2 := by omega
        rcases hi with hi | hi | hi <;> rw [hi]
        · refine r_ixL (i := 0) (o2.sqL 0 rfl) (atI_nat (j := 0) rfl) ?_
          walk_at "rd"
          exact fin _ _ _ (sm_of (by omega) (by omega)) o2
        · refine r_ixL (i := 1) (o2.sqL 0 rfl) (atI_nat (j := 1) rfl) ?_
          walk_at "rd"
          exact fin _ _ _ (sm_of (by omega) (by omega)) o2
        · refine r_ixL (i := 2) (o2.sqL 0 rfl) (atI_nat (j := 2) rfl) ?_
          walk_at "rd"
          exact fin _ _ _ (sm_of (by omega) (by omega)) o2
      · have fin : ∀ (p : Wd5) (H2 : Hp) (L : List (Addr × HO)), ptB p = true → gw (64 :: p) → Own H H2 L → RNewT [V.str (PySem.Str.ofString "path"), V.str (tx p)] H2 Q := fun p H2 L hp hg o2 =>
          r_newTp (K := K) o2 (.cons (.str _) (.cons (.str _) .nil)) (by show (2 : Nat) ≤ _; decide) fun x3 H3 s3 o3 t3 => (q (.path p) (.path hp hg)).mk o3 t3
        walk_at "rd"
        rw [show PySem.Str.ofString "a" = tx [97] by decide, show PySem.Str.ofString "b" = tx [98] by decide, show PySem.Str.ofString "b/c" = tx [98, 47, 99] by decide]
        refine r_newLs o1 (by show (3 : Nat) ≤ _; decide) fun p2 H2 s2 o2 => ?_
        walk_at "rd"
        have hi : dw / 15 % 3 = 0 ∨ dw / 15 % 3 = 1 ∨ dw / 15 % 3 = 2 := by omega
        rcases hi with hi | hi | hi <;> rw [hi]
        · refine r_ixL (i := 0) (o2.sqL 0 rfl) (atI_nat (j := 0) rfl) ?_
          walk_at "rd"
          exact fin _ _ _ (by decide +kernel) (by decide) o2
        · refine r_ixL (i := 1) (o2.sqL 0 rfl) (atI_nat (j := 1) rfl) ?_
          walk_at "rd"
          exact fin _ _ _ (by decide +kernel) (by decide) o2
        · refine r_ixL (i := 2) (o2.sqL 0 rfl) (atI_nat (j := 2) rfl) ?_
          walk_at "rd"
          exact fin _ _ _ (by decide +kernel) (by decide) o2
    · obtain ⟨d, rfl⟩ : ∃ d2, d = d2 + 1 := ⟨d - 1, by
        have : decide (d = 0) = false := (Bool.or_eq_false_iff.mp hc).1
        have := of_decide_eq_false this
        omega⟩
      have hS1 := o1.old hS
      have hw0 : 0 ≤ dw / 5 % 9 := by omega
      have hw9 : dw / 5 % 9 < 9 := by omega
      walk_at "rd"
      refine lcWR (n := 3) (fun i zs H' => ∃ es : List Ex, TpAll K H' zs (es.map datE) ∧ es.length = i ∧ ∀ e ∈ es, ExD d e) o1 rfl (by decide) (fun x => rfl) (fun i zs H1 H2 s ⟨es, h1, h2⟩ => ⟨es, h1.up s, h2⟩) ⟨[], .nil, rfl, by simp⟩ (fun k p zs H' Y hk o' s' hWk hY => ?_) fun p2 H2 zs s2 o2 hWk => ?_
      · obtain ⟨es, h1, h2, h3⟩ := hWk
        walk_at "rd"
        refine ⟨a, dr, 3 * at' + 1 + k, d, dm, ?_, o'.old hS, hd, h0, hl, by omega, hdm, at_next hat hk, fun e he => r_retD o' fun u H4 s4 o4 t4 => ?_⟩
        · rw [show (3 : Int) * (at' : Int) + 1 + (k : Int) = ((3 * at' + 1 + k : Nat) : Int) by omega, show (((d + 1 : Nat) : Int) - 1) = (d : Int) by omega]
          rfl
        · exact hY _ _ o4 (.of s4) ⟨es ++ [e], by rw [List.map_append]; exact (h1.up (.of s4)).snoc t4, by rw [List.length_append, h2]; rfl, fun z hz => by
            rcases List.mem_append.mp hz with hz | hz
            · exact h3 z hz
            · rw [List.mem_singleton.mp hz]; exact he⟩
      · obtain ⟨es, h1, h2, h3⟩ := hWk
        match es, h2, h1, h3 with
        | [e0, e1, e2], _, h1, h3 =>
          cases h1 with
          | @cons z0 zs' _ _ t0 h1 =>
          cases h1 with
          | @cons z1 zs' _ _ t1 h1 =>
          cases h1 with
          | @cons z2 zs' _ _ t2 h1 =>
          cases h1
          have g0 := h3 e0 (by simp)
          have g1 := h3 e1 (by simp)
          have g2 := h3 e2 (by simp)
          have hP := o2.sqL (K := K) 0 rfl
          walk_at "rd"
          refine rif (fun h7 => ?_) fun h7 => ?_
          · walk_at "rd"
            refine r_ixL (i := 0) hP (atI_nat (j := 0) rfl) ?_
            walk_at "rd"
            refine r_ixL (i := 1) hP (atI_nat (j := 1) rfl) ?_
            walk_at "rd"
            refine r_ixL (i := 2) hP (atI_nat (j := 2) rfl) ?_
            walk_at "rd"
            rw [tx_pick]
            refine r_newTp (K := K) o2 (.cons (.str _) (.cons t0 (.cons t1 (.cons t2 .nil)))) (by show (4 : Nat) ≤ _; decide) fun x3 H3 s3 o3 t3 => ?_
            exact (q (.pick e0 e1 e2) (.pick g0 g1 g2)).mk o3 t3
          walk_at "rd"
          refine rif (fun h8 => ?_) fun h8 => ?_
          · walk_at "rd"
            refine r_ixL (i := 0) hP (atI_nat (j := 0) rfl) ?_
            walk_at "rd"
            refine lcWR (n := dm) (fun i zs _ => ∃ os : List Int, zs = os.map V.int ∧ os.length = i ∧ ∀ o ∈ os, sm5 o) o2 rfl (by omega) (fun x => rfl) (fun i zs H1 H2 s h => h) ⟨[], rfl, rfl, by simp⟩ (fun k p zs H' Y hk o' s' hWk hY => ?_) fun p3 H3 zs s3 o3 hWk => ?_
            · obtain ⟨os, rfl, h5, h6⟩ := hWk
              have hS' := o'.old hS
              have e1 := Int.emod_nonneg ((at' : Int) + 5 + (k : Int)) (show (dr.length : Int) ≠ 0 by omega)
              have e2 := Int.emod_lt_of_pos ((at' : Int) + 5 + (k : Int)) hN
              have gk := hd.gi (i := ((at' : Int) + 5 + (k : Int)) % (dr.length : Int)) e1 e2
              walk_at "rd"
              rw [List.length_map]
              refine r_I hN ?_
              walk_at "rd"
              refine hY _ _ o' (.refl _) ⟨os ++ [gi dr (((at' : Int) + 5 + (k : Int)) % (dr.length : Int)) % 5 - 2], by rw [List.map_append]; rfl, by rw [List.length_append, h5]; rfl, fun z hz => ?_⟩
              rcases List.mem_append.mp hz with hz | hz
              · exact h6 z hz
              · rw [List.mem_singleton.mp hz]
                exact sm_of (by omega) (by omega)
            · obtain ⟨os, rfl, h5, h6⟩ := hWk
              walk_at "rd"
              refine r_tupLs o3 (o3.sqL 0 rfl) fun p4 H4 s4 o4 q4 => ?_
              walk_at "rd"
              rw [tx_shift]
              refine r_newTp (K := K) o4 (.cons (.str _) (.cons ((t0.up s3).up s4) (.cons (Tp.intsT q4) .nil))) (by show (3 : Nat) ≤ _; decide) fun x5 H5 s5 o5 t5 => ?_
              exact (q (.shift e0 os) (.shift g0 h6 (by omega))).mk o5 t5
          walk_at "rd"
          have hwy : ∃ j : Nat, dw / 5 % 9 = (j : Int) ∧ j < 7 := ⟨(dw / 5 % 9).toNat, by omega, by omega⟩
          obtain ⟨j, hj, hj7⟩ := hwy
          rw [hj]
          obtain ⟨nm, hnm, hnt⟩ := names_at hj7
          refine r_newLs o2 (by show (7 : Nat) ≤ _; decide) fun p3 H3 s3 o3 => ?_
          walk_at "rd"
          refine r_ixL (i := (j : Int)) (o3.sqL 0 rfl) (atI_nat hnm) ?_
          have hP3 := o3.sqL (K := K) 1 rfl
          walk_at "rd"
          refine r_ixL (i := 0) hP3 (atI_nat (j := 0) rfl) ?_
          walk_at "rd"
          refine r_ixL (i := 1) hP3 (atI_nat (j := 1) rfl) ?_
          walk_at "rd"
          refine r_newTp (K := K) o3 (.cons (.str _) (.cons (t0.up s3) (.cons (t1.up s3) .nil))) (by show (3 : Nat) ≤ _; decide) fun x5 H5 s5 o5 t5 => ?_
          exact (q (.two nm e0 e1) (.two hnt g0 g1)).mk o5 t5
end

/-! ### a text times an int -/
def repS (z : Str) (k : Nat) : Str := ⟨(List.replicate k z.cps).foldl (· ++ ·) #[]⟩
theorem foldl_app_size {α : Type} (a : Array α) : ∀ (n : Nat) (b : Array α), ((List.replicate n a).foldl (· ++ ·) b).size = b.size + n * a.size
  | 0, b => by rw [Nat.zero_mul]; rfl
  | n + 1, b => by
    rw [List.replicate_succ, List.foldl_cons, foldl_app_size a n, Array.size_append, Nat.succ_mul]
    omega
def rMulStr : R2 := fun x y H Q => ∃ (z : Str) (k : Int), x = .str z ∧ y = .int k ∧ 2 ≤ k ∧ k ≤ 10000 ∧ 1 ≤ z.length ∧ z.length ≤ 1000 ∧ Q (.str (repS z k.toNat)) H
theorem op_mulStr {X : Cx} : OpR X (binaryOp .Mult) rMulStr := by
  intro pins s σ H x y v u Q I rx ry h
  obtain ⟨z, k, rfl, rfl, h1, h2, h3, h4, q⟩ := h
  obtain ⟨t, rfl⟩ := rx
  obtain ⟨t', rfl⟩ := ry
  have hk1 : (k == 1) = false := by rw [beq_eq_false_iff_ne]; omega
  have hz : (z.length == 0) = false := by rw [beq_eq_false_iff_ne]; omega
  have hlt : ¬ k < 1 := by omega
  have hm : z.length * k.toNat ≤ 1000 * 10000 := Nat.mul_le_mul h4 (by omega)
  refine P.mul_str (by rw [decide_eq_false (by omega), decide_eq_false (by omega)]; rfl) (fun _ _ => ?_) (fun _ _ => ?_) ?_
  · have h5 : (z.length : Int) ≤ (2 ^ 63 - 1) / k := by
      refine Int.le_ediv_of_mul_le (by omega) ?_
      have h6 : (z.length : Int) * k = ((z.length * k.toNat : Nat) : Int) := by
        rw [Int.natCast_mul, Int.toNat_of_nonneg (by omega)]
      rw [h6]
      omega
    omega
  · exact decide_eq_false (Nat.not_lt.mpr (Nat.le_trans hm (by decide)))
  rw [if_neg hlt, hk1, hz, if_neg (by decide)]
  exact ⟨Nat.le_trans (show (repS z k.toNat).length ≤ 1000 * 10000 from by
    have h7 := foldl_app_size z.cps k.toNat #[]
    have h8 : (repS z k.toNat).length = 0 + k.toNat * z.length := h7
    rw [Nat.mul_comm] at hm
    omega) (by decide), .str (repS z k.toNat), H, I.tok _, ⟨_, rfl⟩, q⟩
theorem r_mulStr {z : Str} {k : Int} {H : Hp} {Q : VK} (h : 2 ≤ k ∧ k ≤ 10000 ∧ 1 ≤ z.length ∧ z.length ≤ 1000) (q : Q (.str (repS z k.toNat)) H) : rMulStr (.str z) (.int k) H Q := ⟨z, k, rfl, rfl, h.1, h.2.1, h.2.2.1, h.2.2.2, q⟩
section
variable {σ : L2.St} {H H0 : Hp} {Q : VK} {te : TE} {tt : TT} {K : PySem.W.Frag} {L : List (Addr × HO)}
theorem lcLIFs {a : Addr} {ns : List Int} {s : Nat} {vs : List Nat} (p : Int → Bool) (f : Int → V) (o : Own H0 H L) (h : ∀ H' p zs, Own H0 H' ((p, .lst zs) :: L) → SqL K H' a (ns.map V.int)) (h1 : SqL K H a (ns.map V.int)) (hz : ns.length < 10000000) (hw : ∀ x, wipe ((wipe σ vs).set s (some x)) vs = wipe σ vs)
    (ht : ∀ (x : Int) (q : Addr) (zs : List V) (H' : Hp) (Q : Bool → Hp → Prop), x ∈ ns → Own H0 H' ((q, .lst zs) :: L) → (∀ H2, Same H' H2 → Q (p x) H2) → tt ((wipe σ vs).set s (some (.int x))) H' Q)
    (he : ∀ (x : Int) (q : Addr) (zs : List V) (H' : Hp) (Q : VK), x ∈ ns → p x = true → Own H0 H' ((q, .lst zs) :: L) → RetV H' Q (f x) → te ((wipe σ vs).set s (some (.int x))) H' Q)
    (k : ∀ q H', Stp H H' → Own H0 H' ((q, .lst ((ns.filter p).map f)) :: L) → Q (.ref q) H') :
    ∃ a', V.ref a = .ref a' ∧ (∃ xs, SqL K H a' xs) ∧ RLc (Itl K a') (gName s) tt te vs σ H Q := by
  refine lcGL (selI p f) o h h1 (by rw [List.length_map]; exact hz) (fun i v q zs H' R hi o' _ r => ?_) (fun q H' s' o' => k q H' s' (by rw [fm_ints] at o'; exact o'))
  rw [List.getElem?_map] at hi
  cases e : ns[i]? with
  | none => rw [e] at hi; cases hi
  | some x =>
    rw [e] at hi
    cases hi
    have hx := List.mem_of_getElem? e
    refine r _ (fun _ _ => hw _) (fun Q qq => ht x q zs H' Q hx o' fun H2 s2 => ?_) fun y H2 hy s2 Q qq => ?_
    · have z := qq H2 s2
      have e2 : (selI p f (V.int x)).isSome = p x := by show (if p x then some (f x) else none).isSome = p x; cases p x <;> rfl
      rw [e2] at z
      exact z
    · have hy2 : (if p x then some (f x) else none) = some y := hy
      cases hp : p x with
      | false => rw [hp] at hy2; cases hy2
      | true =>
        rw [hp] at hy2
        cases hy2
        exact he x q zs H2 Q hx hp (o'.mono s2) qq
end

/-! ### join where the context is a try's -/
def rJoin (K : PySem.W.Frag) : V → List V → Hp → VK → Prop := fun x xs H Q => ∃ a p, ∃ ys : List Str, x = .str a ∧ xs = [.ref p] ∧ (SqL K H p (ys.map V.str) ∨ SqT K H p (ys.map V.str)) ∧ (ys.map (·.length)).sum + ys.length * a.length ≤ 16777216 ∧ Q (.str (Txt.join a ys)) H
theorem pe_joinK {X : Cx} {K : PySem.W.Frag} {o e : Expr} {to te : TE} {apos pos : Pos} (hK : X.K = K) (ho : PE X o to) (he : PE X e te) (hs : starEach [e] X.env = [(false, eval e X.env)] := by rfl) (hbase : attributeBase o "join" X.env (eval o X.env) = eval o X.env := by rfl) (hline : (apos.endLine == pos.line) = true := by rfl) :
    PE X (.Call (.Attribute o "join" apos) [e] [] pos) (tM1 (rJoin K) to te) := by
  subst hK
  exact pe_join ho he hs hbase hline

/-! ### the law's expressions and texts -/
structure ExL (k : Nat) (e : Ex) : Prop where
  ok : e.Ok S5
  gd : ∀ w ∈ e.words S5, gw w
  ln : (e.words S5).length ≤ 66 + 4 * k
  dp : e.dep ≤ 13
theorem ExL.of {d : Nat} {e : Ex} (h : ExD d e) (hd : d ≤ 3) : ExL 0 e := by
  refine ⟨h.ok, h.gd, ?_, by have := h.dp; omega⟩
  refine Nat.le_trans h.ln ?_
  match d, hd with
  | 0, _ => decide
  | 1, _ => decide
  | 2, _ => decide
  | 3, _ => decide
  | d + 4, hd => omega
theorem ExL.le {k j : Nat} {e : Ex} (h : ExL k e) (hk : k ≤ j) : ExL j e := ⟨h.ok, h.gd, by have := h.ln; omega, h.dp⟩
theorem ExL.shift {k : Nat} {e : Ex} (h : ExL k e) (hd : e.dep < 13) : ExL (k + 1) (.shift e [1]) := by
  refine ⟨⟨h.ok, fun o ho => by rw [List.mem_singleton.mp ho]; exact sm_of (by decide) (by decide)⟩, fun w hw => ?_, ?_, ?_⟩
  · simp only [Ex.words, List.mem_cons, List.mem_append, List.not_mem_nil, or_false, List.mem_map] at hw
    rcases hw with rfl | rfl | hw | ⟨o, rfl, rfl⟩ | rfl
    · decide
    · decide
    · exact h.gd w hw
    · exact gw_dec (sm_of (n := 1) (by decide) (by decide))
    · decide
  · have := h.ln
    simp only [Ex.words, List.length_cons, List.length_append, List.length_nil, List.length_map]
    omega
  · simp only [Ex.dep]; omega
theorem ExL.mul {k : Nat} {e : Ex} {n : Int} (h : ExL k e) (hd : e.dep < 13) (hn : sm5 n) : ExL (k + 1) (.two [109, 117, 108] e (.num n)) := by
  refine ⟨⟨by decide, h.ok, hn⟩, fun w hw => ?_, ?_, ?_⟩
  · simp only [Ex.words, List.mem_cons, List.mem_append, List.not_mem_nil, or_false] at hw
    rcases hw with rfl | rfl | hw | rfl | rfl
    · decide
    · decide
    · exact h.gd w hw
    · exact gw_dec hn
    · decide
  · have := h.ln
    simp only [Ex.words, List.length_cons, List.length_append, List.length_nil]
    omega
  · simp only [Ex.dep]; omega
theorem count3 : ∀ e : Ex, e.Ok S5 → 3 * (e.words S5).count wB ≤ (e.words S5).length
  | .num n, _ => by
    have h : ¬ S5.dec n = wB := S5.decB n
    simp [Ex.words, h]
  | .path p, _ => by simp [Ex.words, wB]
  | .two nm a b, h => by
    have ha := count3 a h.2.1
    have hb := count3 b h.2.2
    have hn : ¬ nm = wB := (two_be h.1).1
    have hE : ¬ wE = wB := by decide
    simp only [Ex.words, List.count_cons, List.count_append, List.count_nil, List.length_cons, List.length_append, List.length_nil, beq_self_eq_true, if_true, beq_iff_eq, if_neg hn, if_neg hE]
    omega
  | .pick a b c, h => by
    have ha := count3 a h.1
    have hb := count3 b h.2.1
    have hc := count3 c h.2.2
    have hn : ¬ wPick = wB := by decide
    have hE : ¬ wE = wB := by decide
    simp only [Ex.words, List.count_cons, List.count_append, List.count_nil, List.length_cons, List.length_append, List.length_nil, beq_self_eq_true, if_true, beq_iff_eq, if_neg hn, if_neg hE]
    omega
  | .shift a os, h => by
    have ha := count3 a h.1
    have hn : ¬ wShift = wB := by decide
    have hE : ¬ wE = wB := by decide
    have ho : (os.map S5.dec).count wB = 0 := List.count_eq_zero.mpr fun hm => by
      obtain ⟨o, _, ho⟩ := List.mem_map.mp hm
      exact S5.decB o ho
    simp only [Ex.words, List.count_cons, List.count_append, List.count_nil, List.length_cons, List.length_append, List.length_nil, beq_self_eq_true, if_true, beq_iff_eq, if_neg hn, if_neg hE, ho]
    omega
/-- the words that are joined in the end -/
structure W2 (ws : List Wd5) : Prop where
  ln : ws.length ≤ 200
  wl : ∀ w ∈ ws, w.length ≤ 101
  ok : ∀ w ∈ sp5 (jn ws), wOk w
  l3 : (sp5 (jn ws)).length ≤ 10000
  ct : (sp5 (jn ws)).count wB ≤ 40
theorem W2.of {ws : List Wd5} (hg : ∀ w ∈ ws, gw w) (hl : ws.length ≤ 200) (hc : ws.count wB ≤ 40) : W2 ws := by
  by_cases h0 : ws = []
  · subst h0
    refine ⟨by decide, by simp, ?_, ?_, ?_⟩ <;> rw [sp5_nil]
    · intro w hw
      rw [List.mem_singleton.mp hw]
      exact ⟨by decide, by simp⟩
    · decide
    · decide
  · have e := sp5_jn h0 fun w hw => (hg w hw).free
    refine ⟨hl, fun w hw => Nat.le_trans (hg w hw).1 (by decide), ?_, ?_, ?_⟩ <;> rw [e]
    · exact fun w hw => (hg w hw).ok
    · omega
    · exact hc
theorem W2.blank {l r : List Wd5} {w : Wd5} (hg : ∀ z ∈ l ++ w :: r, gw z) (hl : (l ++ w :: r).length ≤ 199) (hc : (l ++ w :: r).count wB ≤ 40) : W2 (l ++ (w ++ [32]) :: r) := by
  have hg2 : ∀ z ∈ l ++ w :: [] :: r, gw z := fun z hz => by
    simp only [List.mem_append, List.mem_cons] at hz hg
    rcases hz with hz | hz | hz | hz
    · exact hg z (.inl hz)
    · exact hg z (.inr (.inl hz))
    · rw [hz]; decide
    · exact hg z (.inr (.inr hz))
  have e : sp5 (jn (l ++ (w ++ [32]) :: r)) = l ++ w :: [] :: r := by
    rw [jn_blank]
    exact sp5_jn (by simp) fun z hz => (hg2 z hz).free
  simp only [List.length_append, List.length_cons] at hl
  refine ⟨by simp only [List.length_append, List.length_cons]; omega, fun z hz => ?_, ?_, ?_, ?_⟩
  · simp only [List.mem_append, List.mem_cons] at hz hg
    rcases hz with hz | hz | hz
    · exact Nat.le_trans (hg z (.inl hz)).1 (by decide)
    · rw [hz, List.length_append]
      have := (hg w (.inr (.inl rfl))).1
      show w.length + 1 ≤ 101
      omega
    · exact Nat.le_trans (hg z (.inr (.inr hz))).1 (by decide)
  · rw [e]; exact fun z hz => (hg2 z hz).ok
  · rw [e]; simp only [List.length_append, List.length_cons]; omega
  · rw [e]
    have h1 : ([] : Wd5) ≠ wB := by decide
    simp only [List.count_append, List.count_cons] at hc ⊢
    rw [show ((([] : Wd5) == wB) = false) from by decide]
    simpa using hc
theorem goals_at {j : Nat} (h : j < 6) : ∃ g : Int, ([V.int 0, V.int 0, V.int 0, V.int 11, V.int 12, V.int 13] : List V)[j]? = some (.int g) ∧ g ≤ 13 := by
  match j, h with
  | 0, _ => exact ⟨0, rfl, by decide⟩
  | 1, _ => exact ⟨0, rfl, by decide⟩
  | 2, _ => exact ⟨0, rfl, by decide⟩
  | 3, _ => exact ⟨11, rfl, by decide⟩
  | 4, _ => exact ⟨12, rfl, by decide⟩
  | 5, _ => exact ⟨13, rfl, by decide⟩
  | _ + 6, h => omega

theorem ixN_nat5 {n k : Nat} (h : k < n) : ixN n (k : Int) = some k := by
  unfold ixN
  simp [h]
theorem rep_tx (c : Nat) (k : Nat) : repS (tx [c]) k = tx (List.replicate k c) := by
  have key : ∀ (n : Nat) (b : Array Nat), ((List.replicate n (tx [c]).cps).foldl (· ++ ·) b).toList = b.toList ++ List.replicate n c := by
    intro n
    induction n with
    | zero => intro b; simp
    | succ n ih =>
      intro b
      rw [List.replicate_succ, List.foldl_cons, ih, Array.toList_append, List.replicate_succ]
      show (b.toList ++ [c]) ++ List.replicate n c = _
      simp
  unfold repS tx
  congr 1
  apply Array.ext'
  have h := key k #[]
  exact h
def W16 : List Wd5 := [[40], [41], [97, 100, 100], [64, 97], [64], [64, 65], [55], [45, 48], [48, 48, 55], [], [115, 104, 105, 102, 116], [112, 105, 99, 107], [65, 100, 100], [45], List.replicate 31 49, List.replicate 30 57]
theorem w16_list : ([V.str (PySem.Str.ofString "("), V.str (PySem.Str.ofString ")"), V.str (PySem.Str.ofString "add"), V.str (PySem.Str.ofString "@a"), V.str (PySem.Str.ofString "@"), V.str (PySem.Str.ofString "@A"), V.str (PySem.Str.ofString "7"), V.str (PySem.Str.ofString "-0"), V.str (PySem.Str.ofString "007"), V.str (PySem.Str.ofString ""), V.str (PySem.Str.ofString "shift"), V.str (PySem.Str.ofString "pick"), V.str (PySem.Str.ofString "Add"), V.str (PySem.Str.ofString "-"), V.str (tx (List.replicate 31 49)), V.str (tx (List.replicate 30 57))] : List V) = txs W16 := by decide +kernel
theorem w16_good : ∀ w ∈ W16, gw w := by decide +kernel
def W4 : List Wd5 := [[41], [49], [64, 97], []]
theorem w4_list : ([V.str (PySem.Str.ofString ")"), V.str (PySem.Str.ofString "1"), V.str (PySem.Str.ofString "@a"), V.str (PySem.Str.ofString "")] : List V) = txs W4 := by decide +kernel
theorem w4_good : ∀ w ∈ W4, gw w := by decide +kernel
theorem txs_get {ws : List Wd5} {i : Nat} {w : Wd5} (h : ws[i]? = some w) : (txs ws)[i]? = some (.str (tx w)) := by
  unfold txs
  rw [List.getElem?_map, h]
  rfl
theorem txs_set (ws : List Wd5) (i : Nat) (w : Wd5) : (txs ws).set i (.str (tx w)) = txs (ws.set i w) := by
  unfold txs
  rw [List.map_set]
theorem txs_take (ws : List Wd5) (n : Nat) : (txs ws).take n = txs (ws.take n) := by
  unfold txs
  rw [List.map_take]
theorem txs_drop (ws : List Wd5) (n : Nat) : (txs ws).drop n = txs (ws.drop n) := by
  unfold txs
  rw [List.map_drop]
theorem cnt_split (ws : List Wd5) (n : Nat) (x : Wd5) : (ws.take n).count x + (ws.drop n).count x = ws.count x := by
  rw [← List.count_append, List.take_append_drop]
theorem cnt_drop1 (ws : List Wd5) (n : Nat) (x : Wd5) : (ws.drop (n + 1)).count x ≤ (ws.drop n).count x := by
  rw [← List.drop_drop]
  exact (List.drop_sublist 1 _).count_le x
theorem cnt_one (w x : Wd5) : [w].count x ≤ 1 := Nat.le_trans List.count_le_length (Nat.le_refl _)
section
variable {ws : List Wd5} (hg : ∀ w ∈ ws, gw w) (hl : ws.length ≤ 118) (hc : ws.count wB ≤ 39)
include hg hl hc
theorem W2.same : W2 ws := .of hg (by omega) (by omega)
theorem W2.del (n : Nat) : W2 (ws.take n ++ ws.drop (n + 1)) := by
  refine .of (fun w hw => ?_) ?_ ?_
  · rcases List.mem_append.mp hw with h | h
    · exact hg w (List.mem_of_mem_take h)
    · exact hg w (List.mem_of_mem_drop h)
  · rw [List.length_append, List.length_take, List.length_drop]; omega
  · have h1 := cnt_split ws n wB
    have h2 := cnt_drop1 ws n wB
    rw [List.count_append]; omega
theorem W2.twice {n : Nat} {w : Wd5} (hw : gw w) : W2 (ws.take n ++ [w] ++ ws.drop n) := by
  refine .of (fun z hz => ?_) ?_ ?_
  · simp only [List.mem_append, List.mem_singleton] at hz
    rcases hz with (h | h) | h
    · exact hg z (List.mem_of_mem_take h)
    · rw [h]; exact hw
    · exact hg z (List.mem_of_mem_drop h)
  · simp only [List.length_append, List.length_take, List.length_drop, List.length_singleton]; omega
  · have h1 := cnt_split ws n wB
    have h2 := cnt_one w wB
    rw [List.count_append, List.count_append]; omega
theorem W2.put {n : Nat} {w : Wd5} (hn : n < ws.length) (hw : gw w) : W2 (ws.set n w) := by
  rw [List.set_eq_take_append_cons_drop, if_pos hn]
  refine .of (fun z hz => ?_) ?_ ?_
  · simp only [List.mem_append, List.mem_cons] at hz
    rcases hz with h | h | h
    · exact hg z (List.mem_of_mem_take h)
    · rw [h]; exact hw
    · exact hg z (List.mem_of_mem_drop h)
  · simp only [List.length_append, List.length_take, List.length_drop, List.length_cons]; omega
  · have h1 := cnt_split ws n wB
    have h2 := cnt_drop1 ws n wB
    have h3 := cnt_one w wB
    rw [List.count_append, show w :: ws.drop (n + 1) = [w] ++ ws.drop (n + 1) from rfl, List.count_append]; omega
theorem W2.wide {n : Nat} {w : Wd5} (hn : ws[n]? = some w) : W2 (ws.set n (w ++ [32])) := by
  have hlt := (List.getElem?_eq_some_iff.mp hn).1
  rw [List.set_eq_take_append_cons_drop, if_pos hlt]
  have e : ws.take n ++ w :: ws.drop (n + 1) = ws := by
    have h := List.take_append_drop n ws
    rw [List.drop_eq_getElem_cons hlt, (List.getElem?_eq_some_iff.mp hn).2] at h
    exact h
  exact .blank (by rw [e]; exact hg) (by rw [e]; omega) (by rw [e]; omega)
theorem W2.more {w : Wd5} (hw : gw w) : W2 (ws ++ [w]) := by
  refine .of (fun z hz => ?_) ?_ ?_
  · simp only [List.mem_append, List.mem_singleton] at hz
    rcases hz with h | h
    · exact hg z h
    · rw [h]; exact hw
  · rw [List.length_append, List.length_singleton]; omega
  · have h2 := cnt_one w wB
    rw [List.count_append]; omega
end

section
variable {P : Program} {w : World} {K : PySem.W.Frag} {mg : Str → Option Value} {base : Heap}
def lawK : Nat := 46
theorem ok_law {f : Addr} {fd : FuncData} (F : Fun K "law" "law" s_law f fd) (T : Top w K mg) : FnOk P w K mg base CX0 lawK f fd ["script"] (spLaw K) := by
  obtain ⟨C_TesseraError, C_InvalidDump, C_InvalidExpression, C_BadWord, R⟩ := T.errs
  have G__law_stream : Def P w K mg base CX0 2 "_law_stream" ["script", "count"] (sp_stream K) := d_stream T
  have G__law_expression : Def P w K mg base CX0 5 "_law_expression" ["draws", "at", "deep", "dimensions"] (sp_lex K 4) := d_lex T 4
  have G__law_depth : Def P w K mg base CX0 44 "_law_depth" ["expression"] (sp_dep K 42) := d_ldep T 42
  have G__law_words : Def P w K mg base CX0 44 "_law_words" ["expression"] (sp_wof K 42) := d_lw T 42
  have G__law_is_text : Def P w K mg base CX0 1 "_law_is_text" ["x", "due"] sp_is_text := d_is_text T
  have G_format_expression : Def P w K mg base CX0 23 "format_expression" ["expression"] (sp_fmt K) := d_fmt T
  have G_parse_expression : Def P w K mg base (L2.CX P w) 45 "parse_expression" ["text"] (sp_parse K C_InvalidExpression) := d_parse T R
  have Z_parse_expression : Def P w K mg base CX0 45 "parse_expression" ["text"] (spZ (sp_parse K C_InvalidExpression)) := G_parse_expression.toZ
  have G__law_parsed : Def P w K mg base CX0 6 "_law_parsed" ["words"] (sp_lparsed K) := d_lparsed T
  refine F.ok sc_law (by rintro vs H Q E ⟨a, ss, rfl, _⟩; rfl) (fun cdv A outer s H vs Q E hr h => ?_)
  obtain ⟨a, ss, rfl, hS, hl, hb, q⟩ := h
  refine ⟨_, (pss_cons (ps_set (i := 1) sc_law.nd rfl (Or.inl rfl) (pe_callD G__law_stream (hr.mono (by decide)) (pa_cons (pv 0) (pa_cons pe_int pa_nil))))
      (pss_cons (ps_set (i := 2) sc_law.nd rfl (Or.inl rfl) (pe_callD G__law_expression (hr.mono (by decide)) (pa_cons (pv 1) (pa_cons pe_int (pa_cons (pe_op op_mod (pe_ix (r := rIxL K) ix_list (pv 1) pe_int (fun _ _ => rfl)) pe_int) (pa_cons (pe_op op_mod (pe_ix (r := rIxL K) ix_list (pv 1) pe_int (fun _ _ => rfl)) pe_int) pa_nil))))))
      (pss_cons (ps_set (i := 3) sc_law.nd rfl (Or.inl rfl) (pe_ix (r := rIxL K) ix_list (pe_lst (pa_cons pe_int (pa_cons pe_int (pa_cons pe_int (pa_cons pe_int (pa_cons pe_int (pa_cons pe_int pa_nil))))))) (pe_op op_mod (pe_ix (r := rIxL K) ix_list (pv 1) pe_int (fun _ _ => rfl)) pe_int) (fun _ _ => rfl)))
      (pss_cons (ps_for PassesOwn.never rfl (pi_range1 (by rfl) T.b_range (pa_cons pe_int pa_nil)) (pg_name (i := 4) sc_law.nd rfl (Or.inl rfl)) (pss_one (ps_if (pt_cmpR op_lt (pe_callD G__law_depth (hr.mono (by decide)) (pa_cons (pv 2) pa_nil)) (pv 3) (nomark _)) (pss_one (ps_set (i := 2) sc_law.nd rfl (Or.inl rfl) (pe_cutE (pe_ifExp (pt_cmpR op_eq (pe_op op_mod (pe_ix (r := rIxL K) ix_list (pv 1) (pe_op op_add pe_int (pv 4)) (fun _ _ => rfl)) pe_int) pe_int (nomark _)) (pe_tup (pa_cons pe_str (pa_cons (pv 2) (pa_cons (pe_tup (pa_cons pe_int pa_nil)) pa_nil)))) (pe_tup (pa_cons pe_str (pa_cons (pv 2) (pa_cons (pe_tup (pa_cons pe_str (pa_cons (pe_un un_neg (pv 4)) pa_nil))) pa_nil)))))))) pss_nil)))
      (pss_cons (ps_set (i := 5) sc_law.nd rfl (Or.inl rfl) (pe_callD G__law_words (hr.mono (by decide)) (pa_cons (pv 2) pa_nil)))
      (pss_cons (ps_set (i := 6) sc_law.nd rfl (Or.inl rfl) (pe_callD G__law_depth (hr.mono (by decide)) (pa_cons (pv 2) pa_nil)))
      (pss_cons (ps_set (i := 7) sc_law.nd rfl (Or.inl rfl) (pe_join pe_str (pv 5)))
      (pss_cons (ps_if (pt_cutT (PW.pt (pw_and (pt_cmpR op_le (pv 6) pe_int (nomark _)) (pw_and1 (PW.pt (pw_or (pt_not (pt_val (pe_callD G__law_is_text (hr.mono (by decide)) (pa_cons (pe_callD G_format_expression (hr.mono (by decide)) (pa_cons (pv 2) pa_nil)) (pa_cons (pv 7) pa_nil))))) (pw_or1 (pt_cmpR (r := rNeD K) (op_neD hr.units) (pe_callD Z_parse_expression (hr.mono (by decide)) (pa_cons (pv 7) pa_nil)) (pv 2) (nomark _))))))))) (pss_one (ps_ret pe_bl)) pss_nil)
      (pss_cons (ps_set (i := 8) sc_law.nd rfl (Or.inl rfl) (pe_op op_mod (pe_ix (r := rIxL K) ix_list (pv 1) pe_int (fun _ _ => rfl)) (pe_callB (r := Evl.rLenS K) call_len_seq (by rfl) T.b_len (by decide +kernel) (pa_cons (pv 5) pa_nil))))
      (pss_cons (ps_set (i := 9) sc_law.nd rfl (Or.inl rfl) (pe_op op_mod (pe_ix (r := rIxL K) ix_list (pv 1) pe_int (fun _ _ => rfl)) pe_int))
      (Evl.pss_cut (ps_if (pt_cmpR op_eq (pv 9) pe_int (nomark _)) (pss_one (ps_set (i := 5) sc_law.nd rfl (Or.inl rfl) (pe_op op_cat (pe_slice (r := rSlL K) sl_list (pv 5) po_none (po_some (pv 8))) (pe_slice (r := rSlL K) sl_list (pv 5) (po_some (pe_op op_add (pv 8) pe_int)) po_none)))) (pss_one (ps_if (pt_cmpR op_eq (pv 9) pe_int (nomark _)) (pss_one (ps_set (i := 5) sc_law.nd rfl (Or.inl rfl) (pe_op op_cat (pe_op op_cat (pe_slice (r := rSlL K) sl_list (pv 5) po_none (po_some (pv 8))) (pe_lst (pa_cons (pe_ix (r := rIxL K) ix_list (pv 5) (pv 8) (fun _ _ => rfl)) pa_nil))) (pe_slice (r := rSlL K) sl_list (pv 5) (po_some (pv 8)) po_none)))) (pss_one (ps_if (pt_cmpR op_eq (pv 9) pe_int (nomark _)) (pss_one (ps_asg (pe_ix (r := rIxL K) ix_list (pe_lst (pa_cons pe_str (pa_cons pe_str (pa_cons pe_str (pa_cons pe_str (pa_cons pe_str (pa_cons pe_str (pa_cons pe_str (pa_cons pe_str (pa_cons pe_str (pa_cons pe_str (pa_cons pe_str (pa_cons pe_str (pa_cons pe_str (pa_cons pe_str (pa_cons (pe_op (r := rMulStr) op_mulStr pe_str pe_int) (pa_cons (pe_op (r := rMulStr) op_mulStr pe_str pe_int) pa_nil))))))))))))))))) (pe_op op_mod (pe_ix (r := rIxL K) ix_list (pv 1) pe_int (fun _ _ => rfl)) pe_int) (fun _ _ => rfl)) (pg_sub (pv 5) (pv 8) set_list))) (pss_one (ps_if (pt_cmpR op_eq (pv 9) pe_int (nomark _)) (pss_one (ps_asg (pe_op (r := rAddStr) op_add_str (pe_ix (r := rIxL K) ix_list (pv 5) (pv 8) (fun _ _ => rfl)) pe_str) (pg_sub (pv 5) (pv 8) set_list))) (pss_one (ps_if (pt_cmpR op_eq (pv 9) pe_int (nomark _)) (pss_one (ps_set (i := 5) sc_law.nd rfl (Or.inl rfl) (pe_op op_cat (pv 5) (pe_lst (pa_cons (pe_ix (r := rIxL K) ix_list (pe_lst (pa_cons pe_str (pa_cons pe_str (pa_cons pe_str (pa_cons pe_str pa_nil))))) (pe_op op_mod (pe_ix (r := rIxL K) ix_list (pv 1) pe_int (fun _ _ => rfl)) pe_int) (fun _ _ => rfl)) pa_nil))))) pss_nil)))))))))
      (pss_cons (ps_set (i := 10) sc_law.nd rfl (Or.inl rfl) (pe_cutE (pe_callD G__law_parsed (hr.mono (by decide)) (pa_cons (pe_split (pe_join pe_str (pv 5)) pe_str) pa_nil))))
      (Evl.pss_cut (ps_if (pt_cutT (PW.pt (pw_and (pt_cmpR (r := rNotNon) op_notN (pv 10) pe_non (nomark _)) (pw_and1 (pt_cmpR op_gt (pe_callD G__law_depth (hr.mono (by decide)) (pa_cons (pv 10) pa_nil)) pe_int (nomark _)))))) (pss_one (ps_set (i := 10) sc_law.nd rfl (Or.inl rfl) pe_non)) pss_nil)
      (pss_cons (ps_tryA (i := 12) rfl rfl sc_law.nd rfl rfl ⟨rfl, by decide, Or.inl R.c_InvalidExpression.at_⟩ (fun W pn xe tk po => (pss_one (ps_set (i := 11) sc_law.nd rfl (Or.inl rfl) (pe_callX G_parse_expression tk (hr.mono (by decide)) (pa_cons (pe_joinK (K := K) rfl pe_str (pv 5)) pa_nil))))) (fun a oe cls d pn hz hf => (pss_one (ps_ret (pe_and (pe_cmpR (r := rIsNon) op_isN (pv 10) pe_non (nomark _)) (pe_and (pe_callB (r := rIsEB K a cls d) (call_isEB hz hf) (by rfl) T.b_isinstance (by decide +kernel) (pa_cons (pv 12) (pa_cons (pe_glob (v := .ref C_TesseraError) rfl R.c_TesseraError.at_ rfl) pa_nil))) (pe_one (pe_not (pe_callB (r := rIsEB K a cls d) (call_isEB hz hf) (by rfl) T.b_isinstance (by decide +kernel) (pa_cons (pv 12) (pa_cons (pe_glob (v := .ref C_InvalidDump) rfl R.c_InvalidDump.at_ rfl) pa_nil)))))))))))
      (pss_one (ps_ret (pe_and (pe_cmpR (r := rNotNon) op_notN (pv 10) pe_non (nomark _)) (pe_one (pe_cmpR (r := rEqD K) (op_eqD hr.units) (pv 11) (pv 10) (nomark _)))))))))))))))))))), ?_⟩
  walk_at "rd"
  refine ⟨a, ss, 48, rfl, hS, by decide, fun dr hdl hdr => r_ret1s (Own.nil H) fun p1 H1 s1 o1 => ?_⟩
  have g0 := hdr.gi (i := 0) (by decide) (by omega)
  have g1 := hdr.gi (i := 1) (by decide) (by omega)
  have g2 := hdr.gi (i := 2) (by decide) (by omega)
  have g3 := hdr.gi (i := 3) (by decide) (by omega)
  have g4 := hdr.gi (i := 4) (by decide) (by omega)
  have g5 := hdr.gi (i := 5) (by decide) (by omega)
  walk_at "rd"
  obtain ⟨d, hd, hd3⟩ : ∃ d : Nat, gi dr 0 % 4 = (d : Int) ∧ d ≤ 3 := ⟨(gi dr 0 % 4).toNat, by omega, by omega⟩
  obtain ⟨dm, hdm, hdm2⟩ : ∃ d : Nat, gi dr 1 % 3 = (d : Int) ∧ d ≤ 2 := ⟨(gi dr 1 % 3).toNat, by omega, by omega⟩
  rw [hd, hdm]
  refine ⟨p1, dr, 1, d, dm, rfl, o1.sqL 0 rfl, hdr, by omega, by omega, by omega, hdm2, Nat.le_trans (Nat.mul_le_mul_left 3 (Nat.pow_le_pow_right (by decide) hd3)) (by decide), fun e0 he0 => r_retD o1 fun v0 H2 s2 o2 t2 => ?_⟩
  have hL0 := ExL.of he0 hd3
  walk_at "rd"
  refine r_newLs o2 (by show (6 : Nat) ≤ _; decide) fun p3 H3 s3 o3 => ?_
  walk_at "rd"
  obtain ⟨j, hj, hj6⟩ : ∃ d : Nat, gi dr 2 % 6 = (d : Int) ∧ d < 6 := ⟨(gi dr 2 % 6).toNat, by omega, by omega⟩
  obtain ⟨gl, hgl, hgl13⟩ := goals_at hj6
  rw [hj]
  refine r_ixL (i := (j : Int)) (o3.sqL 0 rfl) (atI_nat hgl) ?_
  have o3 := o3.tl
  have s3' : Stp H2 H3 := s3
  walk_at "rd"
  refine forR1 (n := 13) rfl (by decide) (fun k σ' H' => ∃ (e : Ex) (v2 : V) (v4 : Option V), σ' = [some (.ref a), some (.ref p1), some v2, some (.int gl), v4, none, none, none, none, none, none, none, none] ∧ Own H H' [(p1, .lst (dr.map V.int))] ∧ Tp K H' v2 (datE e) ∧ ExL k e) ⟨e0, v0, _, rfl, o3, t2.up s3', hL0⟩ ?_ ?_
  · rintro k σ' H' hk ⟨e, v2, v4, rfl, o', t', hL⟩
    have hdp := hL.dp
    walk_at "rd"
    refine ⟨e, v2, rfl, t', hL.ok, by omega, fun H4 s4 => ?_⟩
    have o4 := o'.mono s4
    have t4 := t'.up (.of s4)
    walk_at "rd"
    refine rif (fun hg => ?_) fun hg => ?_
    · have gk := hdr.gi (i := 7 + (k : Int)) (by omega) (by omega)
      walk_at "rd"
      refine r_cutJ ?_
      walk_at "rd"
      refine rif (fun h2 => ?_) fun h2 => ?_
      · walk_at "rd"
        refine r_newTs (K := K) o4 (by show (1 : Nat) ≤ _; decide) fun p5 H5 s5 o5 q5 => ?_
        walk_at "rd"
        rw [tx_shift]
        refine r_newTp (K := K) o5 (.cons (.str _) (.cons (t4.up s5) (.cons (Tp.intsT (ns := [1]) q5) .nil))) (by show (3 : Nat) ≤ _; decide) fun p6 H6 s6 o6 t6 => ?_
        walk_at "rd"
        exact ⟨.shift e [1], _, _, rfl, o6, t6, hL.shift (by omega)⟩
      · walk_at "rd"
        refine r_newTp (K := K) o4 (.cons (.str _) (.cons (.int _) .nil)) (by show (2 : Nat) ≤ _; decide) fun p5 H5 s5 o5 t5 => ?_
        walk_at "rd"
        rw [show PySem.Str.ofString "mul" = tx [109, 117, 108] by decide]
        refine r_newTp (K := K) o5 (.cons (.str _) (.cons (t4.up s5) (.cons t5 .nil))) (by show (3 : Nat) ≤ _; decide) fun p6 H6 s6 o6 t6 => ?_
        walk_at "rd"
        exact ⟨.two [109, 117, 108] e (.num (-(k : Int))), _, _, rfl, o6, t6, hL.mul (by omega) (sm_of (by omega) (by omega))⟩
    · walk_at "rd"
      exact ⟨e, v2, _, rfl, o4, t4, hL.le (Nat.le_succ k)⟩
  rintro σ' H4 ⟨e, v2, v4, rfl, o4, t4, hL⟩
  have hdp := hL.dp
  have hln := hL.ln
  have hct := count3 e hL.ok
  walk_at "rd"
  refine ⟨e, v2, rfl, t4, hL.ok, by omega, by omega, fun z hz => (hL.gd z hz).ok.1, r_ret1s o4 fun p5 H5 s5 o5 => ?_⟩
  walk_at "rd"
  refine ⟨e, v2, rfl, t4.up s5, hL.ok, by omega, fun H6 s6 => ?_⟩
  have o6 := o5.mono s6
  have t6 := (t4.up s5).up (.of s6)
  walk_at "rd"
  rw [tx_spc]
  refine r_joinE ?_
  walk_at "rd"
  refine ⟨⟨_, rfl⟩, ?_⟩
  walk_at "rd"
  have hs100 := sum_le (b := 100) (fun z hz => (hL.gd z hz).1)
  refine ⟨_, p5, (e.words S5).map tx, rfl, rfl, .inl (by rw [← txs_map]; exact o6.sqL 0 rfl), ?_, ?_⟩
  · rw [lens_tx, List.length_map, tx_len]
    show _ + _ * 1 ≤ _
    omega
  rw [join_jn]
  walk_at "rd"
  have hG : ExG e := ⟨hL.ok, hL.gd, by omega, by omega⟩
  have hjl := jn_len (e.words S5)
  have hne : e.words S5 ≠ [] := fun h => by
    have := pE_suf (L := 0) (ws := []) (r := []) (e := e)
    cases e <;> simp [Ex.words] at h
  have hsp : sp5 (jn (e.words S5)) = e.words S5 := sp5_jn hne fun z hz => (hL.gd z hz).free
  refine r_cutS false ?_ fun H7 s7 => ?_
  · walk_at "rd"
    refine rif (fun h12 => ?_) fun h12 => ?_
    · walk_at "rd"
      refine ⟨e, v2, rfl, t6, hG, fun H8 s8 => ?_⟩
      have o8 := o6.mono s8
      have t8 := t6.up (.of s8)
      walk_at "rd"
      refine ⟨_, _, rfl, ?_⟩
      rw [decide_eq_true rfl]
      walk_at "rd"
      refine ⟨jn (e.words S5), rfl, by omega, by rw [hsp]; exact fun z hz => (hL.gd z hz).ok, fun e9 he9 => ?_, fun hno => ?_⟩
      · rw [hsp] at he9
        have h9 := (pE_iff S5 12 _ _ e).mpr ⟨hL.ok, by omega, (List.append_nil _).symm⟩
        rw [he9] at h9
        cases h9
        refine r_retD o8 fun v9 H9 s9 o9 t9 => ?_
        walk_at "rd"
        refine r_neSameD t9 (t8.up (.of s9)) ((dat_good e fun z hz => (hL.gd z hz).ok).sh (by omega)) ?_
        walk_at "rd"
        exact ⟨rfl, (s8.trans s9)⟩
      · exact absurd ((pE_iff S5 12 _ _ e).mpr ⟨hL.ok, by omega, (List.append_nil _).symm⟩) (by rw [hsp] at hno; exact hno e)
    · exact ⟨rfl, Same.refl _⟩
  have o7 := o6.mono s7
  walk_at "rd"
  have hgd := hL.gd
  have hcn : (e.words S5).count wB ≤ 39 := by omega
  have hwl : (e.words S5).length ≤ 118 := by omega
  have hpos : 0 < (e.words S5).length := List.length_pos_iff.mpr hne
  clear hs100 hjl hsp hG hct hln hL t6 t4 hgl
  generalize e.words S5 = ws at hgd hcn hwl hpos hne o7 ⊢
  rw [txs_len]
  refine r_I (show (0 : Int) < (ws.length : Int) by omega) ?_
  obtain ⟨at', hat, hatl⟩ : ∃ n : Nat, gi dr 3 % (ws.length : Int) = (n : Int) ∧ n < ws.length := by
    have h1 := Int.emod_nonneg (gi dr 3) (show (ws.length : Int) ≠ 0 by omega)
    have h2 := Int.emod_lt_of_pos (gi dr 3) (show (0 : Int) < (ws.length : Int) by omega)
    exact ⟨(gi dr 3 % (ws.length : Int)).toNat, by omega, by omega⟩
  rw [hat]
  have hwat := List.getElem?_eq_getElem hatl
  generalize ws[at'] = wa at hwat
  have hga := hgd wa (List.mem_of_getElem? hwat)
  walk_at "rd"
  obtain ⟨wy, hwy⟩ : ∃ wy : Int, gi dr 4 % 8 = wy := ⟨_, rfl⟩
  rw [hwy]
  refine ⟨fun σ8 H8 => ∃ (p8 : Addr) (ws2 : List Wd5) (L8 : List (Addr × HO)) (v2 v4 v6 v7 : Option V), σ8 = [some (.ref a), some (.ref p1), v2, some (.int gl), v4, some (.ref p8), v6, v7, some (.int (at' : Int)), some (.int wy), none, none, none] ∧ Own H H8 ((p8, .lst (txs ws2)) :: L8) ∧ W2 ws2, ?_, ?_⟩
  · walk_at "rd"
    refine rif (fun h0 => ?_) fun h0 => ?_
    · walk_at "rd"
      refine r_slLs o7 (o7.sqL 0 rfl) fun p8 H8 s8 o8 => ?_
      walk_at "rd"
      refine r_slLs o8 (o8.sqL 1 rfl) fun p9 H9 s9 o9 => ?_
      rw [cut_hi, txs_take, show (at' : Int) + 1 = ((at' + 1 : Nat) : Int) by omega, cut_lo, txs_drop] at o9
      refine r_cats o9 (o9.at 1 rfl) (o9.at 0 rfl) (by rw [txs_len, txs_len, List.length_take, List.length_drop]; omega) fun p10 H10 s10 o10 => ?_
      rw [← txs_app] at o10
      exact ⟨p10, _, _, _, _, _, _, rfl, o10, .del hgd hwl hcn at'⟩
    walk_at "rd"
    refine rif (fun h1 => ?_) fun h1 => ?_
    · walk_at "rd"
      refine r_slLs o7 (o7.sqL 0 rfl) fun p8 H8 s8 o8 => ?_
      walk_at "rd"
      refine r_ixL (i := (at' : Int)) (o8.sqL 1 rfl) (atI_nat (txs_get hwat)) ?_
      walk_at "rd"
      refine r_newLs o8 (by show (1 : Nat) ≤ _; decide) fun p9 H9 s9 o9 => ?_
      rw [cut_hi, txs_take, show ([V.str (tx wa)] : List V) = txs [wa] from rfl] at o9
      refine r_cats o9 (o9.at 1 rfl) (o9.at 0 rfl) (by rw [txs_len, txs_len, List.length_take, List.length_singleton]; omega) fun p10 H10 s10 o10 => ?_
      walk_at "rd"
      refine r_slLs o10 (o10.sqL 3 rfl) fun p11 H11 s11 o11 => ?_
      rw [cut_lo, txs_drop, ← txs_app] at o11
      refine r_cats o11 (o11.at 1 rfl) (o11.at 0 rfl) (by rw [txs_len, txs_len, List.length_append, List.length_take, List.length_drop, List.length_singleton]; omega) fun p12 H12 s12 o12 => ?_
      rw [← txs_app] at o12
      exact ⟨p12, _, _, _, _, _, _, rfl, o12, .twice hgd hwl hcn hga⟩
    walk_at "rd"
    refine rif (fun h2 => ?_) fun h2 => ?_
    · walk_at "rd"
      refine r_mulStr ⟨by decide, by decide, by decide, by decide⟩ ?_
      walk_at "rd"
      refine r_mulStr ⟨by decide, by decide, by decide, by decide⟩ ?_
      rw [show repS (PySem.Str.ofString "1") (31 : Int).toNat = tx (List.replicate 31 49) from by rw [show PySem.Str.ofString "1" = tx [49] by decide]; exact rep_tx 49 31,
        show repS (PySem.Str.ofString "9") (30 : Int).toNat = tx (List.replicate 30 57) from by rw [show PySem.Str.ofString "9" = tx [57] by decide]; exact rep_tx 57 30]
      walk_at "rd"
      rw [w16_list]
      refine r_newLs o7 (by rw [txs_len]; decide) fun p8 H8 s8 o8 => ?_
      walk_at "rd"
      obtain ⟨j, hj, hj16⟩ : ∃ d : Nat, gi dr 5 % 16 = (d : Int) ∧ d < 16 := ⟨(gi dr 5 % 16).toNat, by omega, by omega⟩
      rw [hj]
      have hwj := List.getElem?_eq_getElem (show j < W16.length from hj16)
      have hgj := w16_good _ (List.mem_of_getElem? hwj)
      refine r_ixL (i := (j : Int)) (o8.sqL 0 rfl) (atI_nat (txs_get hwj)) ?_
      generalize W16[j] = wj at hgj
      walk_at "rd"
      refine r_setLs o8 1 rfl (ixN_nat5 (by rw [txs_len]; exact hatl)) fun H9 s9 o9 => ?_
      rw [txs_set] at o9
      exact ⟨p5, _, _, _, _, _, _, rfl, o9.tl, .put hgd hwl hcn hatl hgj⟩
    walk_at "rd"
    refine rif (fun h3 => ?_) fun h3 => ?_
    · walk_at "rd"
      refine r_ixL (i := (at' : Int)) (o7.sqL 0 rfl) (atI_nat (txs_get hwat)) ?_
      walk_at "rd"
      refine r_addS (by have := hga.1; rw [tx_len, tx_len]; show _ + 1 ≤ _; omega) ?_
      rw [tx_cat]
      walk_at "rd"
      refine r_setLs o7 0 rfl (ixN_nat5 (by rw [txs_len]; exact hatl)) fun H9 s9 o9 => ?_
      rw [txs_set] at o9
      exact ⟨p5, _, _, _, _, _, _, rfl, o9, .wide hgd hwl hcn hwat⟩
    walk_at "rd"
    refine rif (fun h4 => ?_) fun h4 => ?_
    · walk_at "rd"
      rw [w4_list]
      refine r_newLs o7 (by rw [txs_len]; decide) fun p8 H8 s8 o8 => ?_
      walk_at "rd"
      obtain ⟨j, hj, hj4⟩ : ∃ d : Nat, gi dr 5 % 4 = (d : Int) ∧ d < 4 := ⟨(gi dr 5 % 4).toNat, by omega, by omega⟩
      rw [hj]
      have hwj := List.getElem?_eq_getElem (show j < W4.length from hj4)
      have hgj := w4_good _ (List.mem_of_getElem? hwj)
      refine r_ixL (i := (j : Int)) (o8.sqL 0 rfl) (atI_nat (txs_get hwj)) ?_
      generalize W4[j] = wj at hgj
      walk_at "rd"
      refine r_newLs o8 (by show (1 : Nat) ≤ _; decide) fun p9 H9 s9 o9 => ?_
      rw [show ([V.str (tx wj)] : List V) = txs [wj] from rfl] at o9
      refine r_cats o9 (o9.at 2 rfl) (o9.at 0 rfl) (by rw [txs_len, txs_len, List.length_singleton]; omega) fun p10 H10 s10 o10 => ?_
      rw [← txs_app] at o10
      exact ⟨p10, _, _, _, _, _, _, rfl, o10, .more hgd hwl hcn hgj⟩
    · walk_at "rd"
      exact ⟨p5, ws, _, _, _, _, _, rfl, o7, .same hgd hwl hcn⟩
  rintro σ8 H8 ⟨p8, ws2, L8, v2', v4', v6', v7', rfl, o8, hW⟩
  have hw2 := hW.ln
  have hsum := sum_le (b := 101) hW.wl
  have hjn := jn_len ws2
  have hmul : ws2.length * 101 ≤ 200 * 101 := Nat.mul_le_mul_right _ hw2
  have hbo := both S5 12 (sp5 (jn ws2))
  walk_at "rd"
  refine r_cutE (fun v H' => ∃ L, Own H H' ((p8, .lst (txs ws2)) :: L) ∧ ((lawP S5 (sp5 (jn ws2)) = none ∧ v = .non) ∨ ∃ e, lawP S5 (sp5 (jn ws2)) = some e ∧ ExW e ∧ Tp K H' v (datE e))) ?_ ?_
  · walk_at "rd"
    refine r_joinE ?_
    refine r_joinE ?_
    walk_at "rd"
    refine ⟨⟨_, rfl⟩, ?_⟩
    walk_at "rd"
    refine ⟨_, p8, ws2.map tx, rfl, rfl, .inl (by rw [← txs_map]; exact o8.sqL 0 rfl), ?_, ?_⟩
    · rw [lens_tx, List.length_map, tx_len]
      show _ + _ * 1 ≤ _
      omega
    rw [join_jn]
    refine ⟨⟨_, rfl⟩, ?_⟩
    walk_at "rd"
    refine ⟨_, _, rfl, rfl, rfl, sz100 (by rw [tx_len]; omega), fun p9 hp9 => ?_⟩
    have o9 := o8.new (u := .lst ((Txt.split (tx (jn ws2)) (tx [32])).map V.str)) hp9
    rw [← txs_sp5] at o9 ⊢
    generalize upd H8 p9 (.lst (txs (sp5 (jn ws2)))) = H9 at o9 ⊢
    walk_at "rd"
    refine ⟨p9, _, rfl, ⟨o9.sqL 0 rfl, Nat.le_trans hW.l3 (by decide), hW.ok⟩, hW.l3, hW.ct, fun e he => r_retD o9 fun u H10 s10 o10 t10 => ?_, fun hn H10 s10 => ?_⟩
    · refine ⟨_, o10.tl, .inr ⟨e, he, ?_, t10⟩⟩
      obtain ⟨h1, h2⟩ := (lawP_iff S5 _ e).mp he
      exact ⟨h1, by rw [← h2]; exact hW.ok, by rw [← h2]; exact hW.ct⟩
    · exact ⟨_, (o9.mono s10).tl, .inl ⟨hn, rfl⟩⟩
  rintro v9 H9 ⟨L9, o9, hv9⟩
  walk_at "rd"
  refine ⟨fun σ10 H10 => ∃ v10 : V, σ10 = [some (.ref a), some (.ref p1), v2', some (.int gl), v4', some (.ref p8), v6', v7', some (.int (at' : Int)), some (.int wy), some v10, none, none] ∧ ∃ L, Own H H10 ((p8, .lst (txs ws2)) :: L) ∧
    (((∀ e, pE S5 12 (sp5 (jn ws2)) ≠ some (e, [])) ∧ v10 = .non) ∨ ∃ e, pE S5 12 (sp5 (jn ws2)) = some (e, []) ∧ ExW e ∧ Tp K H10 v10 (datE e)), ?_, ?_⟩
  · rcases hv9 with ⟨hn, rfl⟩ | ⟨e9, he9, hW9, t9⟩
    · have hno : ∀ e, pE S5 12 (sp5 (jn ws2)) ≠ some (e, []) := fun e he => by
        have := ((hbo e).mp he).1
        rw [hn] at this
        cases this
      walk_at "rd"
      refine r_cutS false ?_ fun H10 s10 => ?_
      · walk_at "rd"
        exact ⟨rfl, Same.refl _⟩
      · walk_at "rd"
        exact ⟨_, rfl, L9, o9.mono s10, .inl ⟨hno, rfl⟩⟩
    · obtain ⟨ds, hds⟩ := dat_tup e9
      have t9b := t9
      rw [hds] at t9b
      obtain ⟨px, xs, rfl, hpx, _⟩ := t9b.inv
      have hd9 := dep_count e9
      have hc9 := hW9.ct
      walk_at "rd"
      refine r_cutS (decide (12 < e9.dep)) ?_ fun H10 s10 => ?_
      · walk_at "rd"
        refine ⟨e9, _, rfl, t9, hW9.ok, by omega, fun H11 s11 => ?_⟩
        walk_at "rd"
        exact ⟨decide_eq_decide.mpr (by omega), s11⟩
      · refine rif (fun hb => ?_) fun hb => ?_
        · walk_at "rd"
          refine ⟨_, rfl, L9, o9.mono s10, .inl ⟨fun e he => ?_, rfl⟩⟩
          have h2 := (hbo e).mp he
          rw [he9] at h2
          have h3 : e9 = e := Option.some.inj h2.1
          rw [← h3] at h2
          omega
        · walk_at "rd"
          exact ⟨_, rfl, L9, o9.mono s10, .inr ⟨e9, (hbo e9).mpr ⟨he9, by omega⟩, hW9, t9.up (.of s10)⟩⟩
  rintro σ10 H10 ⟨v10, rfl, L10, o10, hv10⟩
  walk_at "rd"
  refine r_joinE ?_
  walk_at "rd"
  refine ⟨⟨_, rfl⟩, ?_⟩
  walk_at "rd"
  refine ⟨_, p8, ws2.map tx, rfl, rfl, .inl (by rw [← txs_map]; exact o10.sqL 0 rfl), ?_, ?_⟩
  · rw [lens_tx, List.length_map, tx_len]
    show _ + _ * 1 ≤ _
    omega
  rw [join_jn]
  walk_at "rd"
  refine ⟨jn ws2, rfl, by omega, hW.ok, fun e he => r_retD o10 fun u H11 s11 o11 t11 => ?_, fun hno H11 s11 => ?_⟩
  · rcases hv10 with ⟨hn, _⟩ | ⟨e9, he9, hW9, t9⟩
    · exact absurd he (hn e)
    rw [he] at he9
    cases he9
    obtain ⟨ds, hds⟩ := dat_tup e
    have t9b := t9
    rw [hds] at t9b
    obtain ⟨px, xs, rfl, hpx, _⟩ := t9b.inv
    walk_at "rd"
    refine r_eqSameD t11 (t9.up (.of s11)) (hW9.good.sh (by decide)) ?_
    exact q _
  · rcases hv10 with ⟨_, rfl⟩ | ⟨e9, he9, _⟩
    · refine w_yes (R.c_InvalidExpression.exm R.s_InvalidExpression_InvalidExpression) fun a0 na0 => ?_
      walk_at "rd"
      refine r_isE0 R.c_InvalidExpression.ex (R.c_TesseraError.kitT R.s_InvalidExpression_TesseraError) ?_
      walk_at "rd"
      refine r_isE0 R.c_InvalidExpression.ex (R.c_InvalidDump.kitF R.s_InvalidExpression_InvalidDump R.s_InvalidExpression_InvalidExpression) ?_
      walk_at "rd"
      exact q _
    · exact absurd he9 (hno e9)
end

end My
theorem PySem.Challenge.cw_tessera_k95_texts_of_expressions_holds : PySem.Challenge.rw_tessera_k95_texts_of_expressions.Holds := by
  exact My.head_ok fun w K mg T base f fd F => My.ok_law (P := PySem.Challenge.rw_tessera_k95_texts_of_expressions.prog) (w := w) (base := base) F T


