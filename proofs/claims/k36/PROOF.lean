import PyProof.Rows.All
import Wide.All
import OpenK.AllK
import Wide.FinOn
import HandS.ForMost
import HandS.IsInst
import HandS.Evl
import HandS.Style
import HandS.Zip
import HandS.EndBits
import HandS.Dict
import HandS.ForExc
import HandS.ExcInit
import HandS.NestedK
import HandS.FStr
import KE.KExcSuper
import KE.RegKSuper
import HandS.ExcInitHot
import HandS.RaiseFrom
import HandS.TryMany
import HandS.SuiteRaise
import HandS.ExcIs
import HandS.ExcField
import KE.KExcIs
import HandS.NestedHot
import HandS.CallLocal
import HandS.ExcCtx
import PySem.Challenge.RW_tessera_k36_whole_cut_batches
set_option Elab.async false
set_option linter.all false
set_option maxRecDepth 100000
set_option maxHeartbeats 4000000
/-! Readings stepped forward over an abstract heap that a list of owned objects describes. -/
namespace RD
open PySem PySem.Spec PyProof.Rows L2

/-! ### the heap: H extends H0; the objects of L are new since H0 and stand apart -/
structure Own (H0 H : Hp) (L : List (Addr × HO)) : Prop where
  ex : Same H0 H
  fr : ∀ x ∈ L, H0 x.1 = none ∧ H x.1 = some x.2
  nd : (L.map (·.1)).Nodup
theorem Own.nil (H : Hp) : Own H H [] := ⟨Same.refl H, fun _ h => absurd h (by simp), List.nodup_nil⟩
theorem same_new {H : Hp} {p : Addr} {u : HO} (h : H p = none) : Same H (upd H p u) := fun b x e => by
  rw [upd_ne (ne_of_none e h)]
  exact e
section
variable {H0 H H' : Hp} {L : List (Addr × HO)} {p l : Addr} {u v : HO} {K : PySem.W.Frag}
theorem Own.mono (o : Own H0 H L) (e : Same H H') : Own H0 H' L := ⟨o.ex.trans e, fun x hx => ⟨(o.fr x hx).1, e _ _ (o.fr x hx).2⟩, o.nd⟩
theorem Own.add (o : Own H0 H L) (e : Same H H') (hp : H p = none) (hv : H' p = some u) : Own H0 H' ((p, u) :: L) := by
  refine ⟨o.ex.trans e, fun x hx => ?_, ?_⟩
  · rcases List.mem_cons.mp hx with rfl | hx
    · exact ⟨o.ex.free hp, hv⟩
    · exact ⟨(o.fr x hx).1, e _ _ (o.fr x hx).2⟩
  · rw [List.map_cons, List.nodup_cons]
    refine ⟨fun hm => ?_, o.nd⟩
    obtain ⟨x, hx, e1⟩ := List.mem_map.mp hm
    have := (o.fr x hx).2
    rw [e1] at this
    show False
    rw [hp] at this
    cases this
theorem Own.new (o : Own H0 H L) (hp : H p = none) : Own H0 (upd H p u) ((p, u) :: L) := o.add (same_new hp) hp upd_same
theorem Own.at (o : Own H0 H L) (i : Nat) (h : L[i]? = some (l, u)) : H l = some u := (o.fr _ (List.mem_of_getElem? h)).2
theorem Own.fresh (o : Own H0 H L) (i : Nat) (h : L[i]? = some (l, u)) : H0 l = none := (o.fr _ (List.mem_of_getElem? h)).1
theorem map_set_fst {α β : Type} : ∀ {L : List (α × β)} {i : Nat} {l : α} {u v : β}, L[i]? = some (l, u) → (L.set i (l, v)).map (·.1) = L.map (·.1)
  | [], _, _, _, _, h => by simp at h
  | x :: L, 0, l, u, v, h => by
    have e : x = (l, u) := Option.some.inj h
    subst e
    rfl
  | x :: L, i + 1, l, u, v, h => by
    show x.1 :: (L.set i (l, v)).map (·.1) = x.1 :: L.map (·.1)
    rw [map_set_fst (L := L) (i := i) (l := l) (u := u) (v := v) h]
theorem nodup_fst {α β : Type} : ∀ {L : List (α × β)} {i j : Nat} {l : α} {u v : β}, (L.map (·.1)).Nodup → L[i]? = some (l, u) → L[j]? = some (l, v) → i = j
  | L, i, j, l, u, v, hN, hi, hj => by
    refine nd_ix (l := L.map (·.1)) hN (x := l) ?_ ?_
    · rw [List.getElem?_map, hi]; rfl
    · rw [List.getElem?_map, hj]; rfl
/-- the object at l is changed; nothing else -/
theorem Own.chg (o : Own H0 H L) (i : Nat) (h : L[i]? = some (l, u)) (e : ∀ b x, b ≠ l → H b = some x → H' b = some x) (hv : H' l = some v) : Own H0 H' (L.set i (l, v)) := by
  refine ⟨fun b x hb => ?_, fun x hx => ?_, ?_⟩
  · exact e b x (ne_of_none hb (o.fresh i h)) (o.ex b x hb)
  · obtain ⟨j, hj⟩ := List.mem_iff_getElem?.mp hx
    by_cases hij : i = j
    · subst hij
      have hlt : i < L.length := (List.getElem?_eq_some_iff.mp h).1
      rw [List.getElem?_set_self hlt] at hj
      cases hj
      exact ⟨o.fresh i h, hv⟩
    · rw [List.getElem?_set_ne hij] at hj
      have hm := List.mem_of_getElem? hj
      have hne : x.1 ≠ l := fun z => hij (by
        have : L[j]? = some (l, x.2) := by rw [hj, ← z]
        exact nodup_fst o.nd h this)
      exact ⟨(o.fr x hm).1, e _ _ hne (o.fr x hm).2⟩
  · rw [map_set_fst h]
    exact o.nd
theorem Own.set (o : Own H0 H L) (i : Nat) (h : L[i]? = some (l, u)) : Own H0 (upd H l v) (L.set i (l, v)) :=
  o.chg i h (fun b x hb e => by rw [upd_ne hb]; exact e) upd_same
theorem Own.sub {L' : List (Addr × HO)} (o : Own H0 H L) (h : L'.Sublist L) : Own H0 H L' :=
  ⟨o.ex, fun x hx => o.fr x (h.subset hx), List.Sublist.nodup (h.map _) o.nd⟩
theorem Own.tl {x : Addr × HO} (o : Own H0 H (x :: L)) : Own H0 H L := o.sub (List.sublist_cons_self x L)
theorem Own.ne (o : Own H0 H L) {q : Addr} {i j : Nat} (hi : L[i]? = some (l, u)) (hj : L[j]? = some (q, v)) (h : i ≠ j) : l ≠ q := fun e => by
  subst e
  exact h (nodup_fst o.nd hi hj)
theorem Own.sqL (o : Own H0 H L) {xs : List V} (i : Nat) (h : L[i]? = some (l, .lst xs)) : SqL K H l xs := .inl (.inl (o.at i h))
theorem Own.sqT (o : Own H0 H L) {xs : List V} (i : Nat) (h : L[i]? = some (l, .tup xs)) : SqT K H l xs := .inl (.inl (o.at i h))
theorem Own.old (o : Own H0 H L) {xs : List V} (h : SqL K H0 l xs) : SqL K H l xs := o.ex.seq h
theorem same_seqT {xs : List V} (e : Same H H') (h : SqT K H l xs) : SqT K H' l xs := by
  rcases h with (h | ⟨o, h⟩) | h
  · exact .inl (.inl (e _ _ h))
  · exact .inl (.inr ⟨o, e _ _ h⟩)
  · exact .inr h
theorem Own.oldT (o : Own H0 H L) {xs : List V} (h : SqT K H0 l xs) : SqT K H l xs := same_seqT o.ex h
/-- start a new frame of ownership at H, giving up L -/
theorem Own.trans {H1 : Hp} {L1 : List (Addr × HO)} (o : Own H0 H L) (o1 : Own H H1 L1) : Own H0 H1 (L1 ++ L) := by
  refine ⟨o.ex.trans o1.ex, fun x hx => ?_, ?_⟩
  · rcases List.mem_append.mp hx with h | h
    · exact ⟨o.ex.free (o1.fr x h).1, (o1.fr x h).2⟩
    · exact ⟨(o.fr x h).1, o1.ex _ _ (o.fr x h).2⟩
  · rw [List.map_append, List.nodup_append]
    refine ⟨o1.nd, o.nd, fun a ha b hb e => ?_⟩
    subst e
    obtain ⟨x, hx, rfl⟩ := List.mem_map.mp ha
    obtain ⟨y, hy, e⟩ := List.mem_map.mp hb
    have h1 := (o1.fr x hx).1
    have h2 := (o.fr y hy).2
    rw [e, h1] at h2
    cases h2
end

/-! ### what an answer is -/
/-- a value that is no new object -/
def RetV (H : Hp) (Q : VK) (v : V) : Prop := ∀ H', Same H H' → Q v H'
/-- a new object -/
def RetO (H : Hp) (Q : VK) (u : HO) : Prop := ∀ H' p, Same H H' → H p = none → H' p = some u → Q (.ref p) H'
theorem RetO.mk {H0 H : Hp} {Q : VK} {u : HO} {L : List (Addr × HO)} {p : Addr} (q : RetO H0 Q u) (o : Own H0 H L) (i : Nat) (h : L[i]? = some (p, u)) : Q (.ref p) H := q H p o.ex (o.fresh i h) (o.at i h)
theorem RetV.mk {H0 H : Hp} {Q : VK} {v : V} {L : List (Addr × HO)} (q : RetV H0 Q v) (o : Own H0 H L) : Q v H := q H o.ex

/-! ### readings -/
def RBl (x : V) (H : Hp) (Q : Bool → Hp → Prop) : Prop := ∃ k, x = .bl k ∧ Q k H
def RPt (x : V) (H : Hp) (R : Option Int → Hp → Prop) : Prop := ∃ i, x = .int i ∧ R (some i) H
def RIf (c : Bool) (A B : Prop) : Prop := if c = true then A else B
def RNewL (xs : List V) (H : Hp) (Q : VK) : Prop := xs.length ≤ sizeLine ∧ ∀ p, H p = none → Q (.ref p) (upd H p (.lst xs))
def RNewT (xs : List V) (H : Hp) (Q : VK) : Prop := xs.length ≤ sizeLine ∧ ∀ p, H p = none → Q (.ref p) (upd H p (.tup xs))
section
variable {σ : L2.St} {H H0 : Hp} {Q : VK} {v x y : V} {ta tb te : TE} {t u : TT} {r : R2} {i j : Int} {D : Ends} {ts tz : TS} {g : TG} {K : PySem.W.Frag} {L : List (Addr × HO)}
theorem r_var {n : Nat} (h : σ[n]? = some (some v)) (q : Q v H) : tVar n σ H Q := ⟨v, h, q⟩
theorem r_c (q : Q v H) : tC v σ H Q := q
theorem r_op (q : ta σ H fun x H1 => tb σ H1 fun y H2 => r x y H2 Q) : tOp r ta tb σ H Q := q
theorem r_I0 {f : Int → Int → V} (q : Q (f i j) H) : rI0 f (.int i) (.int j) H Q := ⟨i, j, rfl, rfl, q⟩
theorem r_I {C : Int → Int → Prop} {f : Int → Int → V} (c : C i j) (q : Q (f i j) H) : rI C f (.int i) (.int j) H Q := ⟨i, j, rfl, rfl, c, q⟩
theorem r_un {f : V → Hp → VK → Prop} (q : ta σ H fun x H1 => f x H1 Q) : tUn f ta σ H Q := q
theorem r_U {f : Int → V} (q : Q (f i) H) : rU f (.int i) H Q := ⟨i, rfl, q⟩
theorem r_eqI (q : Q (.bl (decide (i = j))) H) : rEq (.int i) (.int j) H Q := ⟨rfl, by
  have e : decide ((V.int i) = .int j) = decide (i = j) := by simp
  rw [e]; exact q⟩
theorem r_neI (q : Q (.bl (!decide (i = j))) H) : rNe (.int i) (.int j) H Q := ⟨rfl, by
  have e : decide ((V.int i) = .int j) = decide (i = j) := by simp
  rw [e]; exact q⟩
theorem r_eqS {a b : Str} (q : Q (.bl (decide (a = b))) H) : rEq (.str a) (.str b) H Q := ⟨rfl, by
  have e : decide ((V.str a) = .str b) = decide (a = b) := by simp
  rw [e]; exact q⟩
theorem r_neS {a b : Str} (q : Q (.bl (!decide (a = b))) H) : rNe (.str a) (.str b) H Q := ⟨rfl, by
  have e : decide ((V.str a) = .str b) = decide (a = b) := by simp
  rw [e]; exact q⟩
theorem r_test {Q : Bool → Hp → Prop} (q : ta σ H fun x H' => RBl x H' Q) : tTest ta σ H Q := q
theorem r_tB {Q : Bool → Hp → Prop} (q : ta σ H fun x H' => RBl x H' Q) : tB ta σ H Q := q
theorem r_bl {Q : Bool → Hp → Prop} {b : Bool} (q : Q b H) : RBl (.bl b) H Q := ⟨b, rfl, q⟩
theorem r_and {Q : Bool → Hp → Prop} (q : t σ H fun c H1 => RIf c (u σ H1 Q) (Q false H1)) : tAnd t u σ H Q := q
theorem r_or {Q : Bool → Hp → Prop} (q : t σ H fun c H1 => RIf c (Q true H1) (u σ H1 Q)) : tOr t u σ H Q := q
theorem r_not {Q : Bool → Hp → Prop} (q : t σ H fun c H1 => Q (!c) H1) : tNot t σ H Q := q
theorem r_andV (q : ta σ H fun x H1 => RBl x H1 fun c H1 => RIf c (tb σ H1 Q) (Q (.bl false) H1)) : tAndV ta tb σ H Q := q
theorem r_orV (q : ta σ H fun x H1 => RBl x H1 fun c H1 => RIf c (Q (.bl true) H1) (tb σ H1 Q)) : tOrV ta tb σ H Q := q
theorem r_notV (q : ta σ H fun x H1 => RBl x H1 fun c H1 => Q (.bl (!c)) H1) : tNotV ta σ H Q := q
theorem r_ifE (q : t σ H fun c H1 => RIf c (ta σ H1 Q) (tb σ H1 Q)) : tIf t ta tb σ H Q := q
theorem r_seq (q : ts { D with nx := tz D } σ H) : tSeq ts tz D σ H := q
theorem r_asg (q : te σ H fun x H1 => g x σ H1 D.nx) : tAsg te g D σ H := q
theorem r_name {n : Nat} {R : L2.St → Hp → Prop} (q : R (σ.set n (some v)) H) : gName n v σ H R := q
theorem r_ifS (q : t σ H fun b H1 => RIf b (ts D σ H1) (tz D σ H1)) : tIfS t ts tz D σ H := q
theorem r_ret (q : te σ H D.rt) : tRet te D σ H := q
theorem r_retN (q : D.rt .non H) : tRetN D σ H := q
theorem r_drop (q : te σ H fun _ H1 => D.nx σ H1) : tDrop te D σ H := q
theorem r_next (q : D.nx σ H) : tNext D σ H := q
theorem r_break (q : D.bk σ H) : tBreak D σ H := q
theorem r_cont (q : D.ct σ H) : tCont D σ H := q
theorem r_nil {R : List V → Hp → Prop} (q : R [] H) : tNil σ H R := q
theorem r_cons {tr : TA} {R : List V → Hp → Prop} (q : te σ H fun x H1 => tr σ H1 fun xs H2 => R (x :: xs) H2) : tCons te tr σ H R := q
theorem r_tup {tr : TA} (q : tr σ H fun xs H1 => RNewT xs H1 Q) : tTup tr σ H Q := q
theorem r_lst {tr : TA} (q : tr σ H fun xs H1 => RNewL xs H1 Q) : tLst tr σ H Q := q
theorem r_CB {f : List V → Hp → VK → Prop} {tr : TA} (q : tr σ H fun vs H1 => f vs H1 Q) : tCB f tr σ H Q := q
theorem r_call {sp : Sp} {E : XK} {tr : TA} (q : tr σ H fun vs H1 => sp (vs ++ []) H1 Q E) : tCall sp [] E tr σ H Q := q
theorem r_sl {f : V → Option Int → Option Int → Hp → VK → Prop} {tl th : TO} (q : te σ H fun x H1 => tl σ H1 fun l H2 => th σ H2 fun u H3 => f x l u H3 Q) : tSl f te tl th σ H Q := q
theorem r_par {i j : Nat} {ta : TA} {D : Ends} (q : ta σ H fun vs H1 => ∃ v w, vs = [v, w] ∧ D.nx ((σ.set i (some v)).set j (some w)) H1) : tPar i j ta D σ H := q
theorem r_nopart {R : Option Int → Hp → Prop} (q : R none H) : tNoPart σ H R := q
theorem r_part {R : Option Int → Hp → Prop} (q : te σ H fun x H1 => RPt x H1 R) : tPart te σ H R := q
theorem r_pt {R : Option Int → Hp → Prop} (q : R (some i) H) : RPt (.int i) H R := ⟨i, rfl, q⟩
theorem r_aug {n : Nat} {ti : TIp} (h : σ[n]? = some (some x)) (q : te σ H fun y H1 => ti x y H1 fun z H2 => D.nx (σ.set n (some z)) H2) : tAug n te ti D σ H := ⟨x, h, q⟩
theorem r_ipI {f : Int → Int → Int} (q : Q (.int (f i j)) H) : ipI f (.int i) (.int j) H Q := ⟨i, j, rfl, rfl, q⟩
theorem r_set {to ti : TE} {s : TSet} {R : L2.St → Hp → Prop} (q : to σ H fun o H1 => ti σ H1 fun i H2 => s o i v H2 fun H3 => R σ H3) : gSub to ti s v σ H R := q

/-! ### branches -/
theorem rif {p : Prop} [Decidable p] {A B : Prop} (h1 : p → A) (h2 : ¬ p → B) : RIf (decide p) A B := by
  unfold RIf
  by_cases h : p
  · rw [if_pos (decide_eq_true h)]; exact h1 h
  · rw [if_neg (by simpa using h)]; exact h2 h
theorem rif_n {p : Prop} [Decidable p] {A B : Prop} (h1 : ¬ p → A) (h2 : p → B) : RIf (!decide p) A B := by
  unfold RIf
  by_cases h : p
  · rw [if_neg (by simpa using h)]; exact h2 h
  · rw [if_pos (by simpa using h)]; exact h1 h
theorem rif_t {A B : Prop} (h : A) : RIf true A B := by unfold RIf; rw [if_pos rfl]; exact h
theorem rif_f {A B : Prop} (h : B) : RIf false A B := by unfold RIf; rw [if_neg Bool.false_ne_true]; exact h
theorem rif_nt {A B : Prop} (h : B) : RIf (!true) A B := rif_f h
theorem rif_nf {A B : Prop} (h : A) : RIf (!false) A B := rif_t h
theorem rif_yes {p : Prop} [Decidable p] {A B : Prop} (hp : p) (h1 : A) : RIf (decide p) A B := rif (fun _ => h1) fun h => absurd hp h
theorem rif_no {p : Prop} [Decidable p] {A B : Prop} (hp : ¬ p) (h1 : B) : RIf (decide p) A B := rif (fun h => absurd h hp) fun _ => h1
theorem rif_nyes {p : Prop} [Decidable p] {A B : Prop} (hp : p) (h1 : B) : RIf (!decide p) A B := rif_n (fun h => absurd hp h) fun _ => h1
theorem rif_nno {p : Prop} [Decidable p] {A B : Prop} (hp : ¬ p) (h1 : A) : RIf (!decide p) A B := rif_n (fun _ => h1) fun h => absurd h hp
theorem rif_b {b : Bool} {A B : Prop} (h1 : b = true → A) (h2 : b = false → B) : RIf b A B := by
  cases b
  · exact rif_f (h2 rfl)
  · exact rif_t (h1 rfl)

/-! ### new objects -/
theorem sz100 {n : Nat} (h : n ≤ 10000000) : n ≤ sizeLine := Nat.le_trans h (by decide)
theorem sz_lt {n : Nat} (h : n < 10000000) : n < sizeLine := Nat.lt_of_lt_of_le h (by decide)
theorem r_newL {xs : List V} (o : Own H0 H L) (hz : xs.length ≤ 10000000) (k : ∀ p H', Own H0 H' ((p, .lst xs) :: L) → Q (.ref p) H') : RNewL xs H Q := ⟨sz100 hz, fun p hp => k p _ (o.new hp)⟩
theorem r_newT {xs : List V} (o : Own H0 H L) (hz : xs.length ≤ 10000000) (k : ∀ p H', Own H0 H' ((p, .tup xs) :: L) → Q (.ref p) H') : RNewT xs H Q := ⟨sz100 hz, fun p hp => k p _ (o.new hp)⟩

/-! ### lists -/
theorem r_ixL {p : Addr} {xs : List V} (h : SqL K H p xs) (ha : atI xs i = some v) (q : Q v H) : rIxL K (.ref p) (.int i) H Q := ⟨p, xs, i, v, rfl, rfl, h, ha, q⟩
theorem r_ixT {p : Addr} {xs : List V} (h : SqT K H p xs) (ha : atI xs i = some v) (q : Q v H) : rIxT K (.ref p) (.int i) H Q := ⟨p, xs, i, v, rfl, rfl, h, ha, q⟩
theorem r_slL {a : Addr} {xs : List V} {lo hi : Option Int} (o : Own H0 H L) (h : SqL K H a xs) (k : ∀ p H', Own H0 H' ((p, .lst (cutV xs lo hi)) :: L) → Q (.ref p) H') : rSlL K (.ref a) lo hi H Q := ⟨a, xs, rfl, h, fun p hp => k p _ (o.new hp)⟩
theorem r_cat {a b : Addr} {xs ys : List V} (o : Own H0 H L) (ha : H a = some (.lst xs)) (hb : H b = some (.lst ys)) (hz : xs.length + ys.length ≤ 10000000) (k : ∀ p H', Own H0 H' ((p, .lst (xs ++ ys)) :: L) → Q (.ref p) H') : rCat (.ref a) (.ref b) H Q :=
  ⟨a, b, xs, ys, rfl, rfl, ha, hb, sz100 hz, fun p hp => k p _ (o.new hp)⟩
theorem r_app {l : Addr} {xs : List V} (o : Own H0 H L) (n : Nat) (h : L[n]? = some (l, .lst xs)) (hz : xs.length < 10000000) (k : ∀ H', Own H0 H' (L.set n (l, .lst (xs ++ [y]))) → Q .non H') : rAppend (.ref l) [y] H Q :=
  ⟨l, xs, y, rfl, rfl, o.at n h, sz_lt hz, k _ (o.set n h)⟩
/-- l.append(e) as a statement's expression: the receiver's slot, the argument -/
theorem r_bm {T : String} {f : V → List V → Hp → VK → Prop} {tr : TA} {n : Nat} {l : Addr} (h : σ[n]? = some (some (.ref l))) (ht : tyV K T (.ref l) H) (q : tr σ H fun vs H2 => f (.ref l) vs H2 Q) : tBM K T f (tVar n) tr σ H Q := ⟨_, h, ht, q⟩
theorem ty_lst {l : Addr} {xs : List V} (h : H l = some (.lst xs)) : tyV K "list" (.ref l) H := .inl ⟨rfl, _, SqL.of h⟩
theorem r_setL {l : Addr} {xs : List V} {k : Nat} {R : Hp → Prop} (o : Own H0 H L) (n : Nat) (h : L[n]? = some (l, .lst xs)) (hj : ixN xs.length i = some k) (q : ∀ H', Own H0 H' (L.set n (l, .lst (xs.set k v))) → R H') : rSetL (.ref l) (.int i) v H R :=
  ⟨l, xs, i, k, rfl, rfl, o.at n h, hj, q _ (o.set n h)⟩
end

/-! ### isinstance, sums, == of lists -/
section
variable {σ : L2.St} {H H0 : Hp} {Q : VK} {v x y : V} {i j : Int} {K : PySem.W.Frag} {L : List (Addr × HO)}
theorem r_isi {T S : String} {b : Bool} (ht : TyX K H x (.type T)) (hk : kitB T S = some b) (q : Q (.bl b) H) : rIsi K [x, .ty S] H Q := ⟨x, .ty S, .type T, .type S, b, rfl, .ty S, ht, kit_ty hk, q⟩
theorem ty_int {i : Int} : TyX K H (.int i) (.type "int") := .base (.int i)
theorem ty_str {z : Str} : TyX K H (.str z) (.type "str") := .base (.str z)
theorem ty_non : TyX K H .non (.type "NoneType") := .base .non
theorem ty_list {l : Addr} {xs : List V} (h : H l = some (.lst xs)) : TyX K H (.ref l) (.type "list") := .base (.lst h)
theorem ty_tup {l : Addr} {xs : List V} (h : H l = some (.tup xs)) : TyX K H (.ref l) (.type "tuple") := .base (.tup h)
theorem r_sum {a : Addr} {ns : List Int} (h : SqL K H a (ns.map V.int)) (q : Q (.int ns.sum) H) : rSum K [.ref a] H Q := ⟨a, ns, rfl, h, q⟩
theorem dpAll_ints : ∀ ns : List Int, DpAll K H (ns.map V.int) (ns.map PyData.int)
  | [] => .nil
  | n :: ns => .cons (.int n) (dpAll_ints ns)
theorem dp_ints {a : Addr} {ns : List Int} (h : SqL K H a (ns.map V.int)) : Dp K H (.ref a) (.list (ns.map PyData.int)) := .lst h (dpAll_ints ns)
theorem dp_intsT {a : Addr} {ns : List Int} (h : SqT K H a (ns.map V.int)) : Dp K H (.ref a) (.tuple (ns.map PyData.int)) := .tup h (dpAll_ints ns)
end
/-! ### items -/
/-- the i-th of a list of ints -/
def gi (ns : List Int) (i : Int) : Int := ns.getD i.toNat 0
theorem at_map {α : Type} {f : α → V} {ns : List α} {i : Int} {x : α} (h0 : 0 ≤ i) (h : ns[i.toNat]? = some x) : atI (ns.map f) i = some (f x) := by
  obtain ⟨n, rfl⟩ := Int.eq_ofNat_of_zero_le h0
  refine atI_nat ?_
  have e : (Int.toNat (n : Int)) = n := rfl
  rw [e] at h
  rw [List.getElem?_map, h]
  rfl
theorem at_ints {ns : List Int} {i : Int} (h0 : 0 ≤ i) (h1 : i < ns.length) : atI (ns.map V.int) i = some (.int (gi ns i)) := by
  refine at_map h0 ?_
  unfold gi
  have : i.toNat < ns.length := by omega
  rw [List.getD_eq_getElem?_getD, List.getElem?_eq_getElem this]
  rfl
theorem gi_mem {ns : List Int} {i : Int} (h0 : 0 ≤ i) (h1 : i < ns.length) : gi ns i ∈ ns := by
  unfold gi
  have h2 : i.toNat < ns.length := by omega
  rw [List.getD_eq_getElem?_getD, List.getElem?_eq_getElem h2]
  exact List.getElem_mem h2

/-! ### equal lists of ints -/
theorem canLay_ints : ∀ ns : List Int, PyData.canLayAll0 (ns.map PyData.int) = true
  | [] => rfl
  | n :: ns => by
    show (PyData.canLay0 (.int n) && PyData.canLayAll0 (ns.map PyData.int)) = true
    rw [canLay_ints ns]
    rfl
theorem depth_ints : ∀ ns : List Int, PyData.depthAll (ns.map PyData.int) ≤ 1
  | [] => by decide
  | n :: ns => by
    have h := depth_ints ns
    show max (PyData.depth (.int n)) (PyData.depthAll (ns.map PyData.int)) ≤ 1
    exact Nat.max_le.mpr ⟨Nat.zero_le 1, h⟩
theorem shaped_ints (ns : List Int) : SeqAt.shaped (.list (ns.map PyData.int)) = true := by
  unfold SeqAt.shaped
  rw [Bool.and_eq_true]
  refine ⟨canLay_ints ns, decide_eq_true ?_⟩
  have h := depth_ints ns
  show PyData.depthAll (ns.map PyData.int) + 1 ≤ 64
  omega
theorem shaped_intsT (ns : List Int) : SeqAt.shaped (.tuple (ns.map PyData.int)) = true := by
  unfold SeqAt.shaped
  rw [Bool.and_eq_true]
  refine ⟨canLay_ints ns, decide_eq_true ?_⟩
  have h := depth_ints ns
  show PyData.depthAll (ns.map PyData.int) + 1 ≤ 64
  omega
theorem eqvAll_ints : ∀ ns ms : List Int, PyData.eqvAll (ns.map PyData.int) (ms.map PyData.int) = decide (ns = ms)
  | [], [] => by simp [PyData.eqvAll]
  | [], _ :: _ => by simp [PyData.eqvAll]
  | _ :: _, [] => by simp [PyData.eqvAll]
  | n :: ns, m :: ms => by
    show (PyData.eqv (.int n) (.int m) && PyData.eqvAll (ns.map PyData.int) (ms.map PyData.int)) = _
    rw [eqvAll_ints ns ms]
    simp [PyData.eqv, Bool.beq_eq_decide_eq]
section
variable {H : Hp} {Q : VK} {K : PySem.W.Frag} {a b : Addr} {ns ms : List Int}
theorem r_eqLL (h : SqL K H a (ns.map V.int)) (h2 : SqL K H b (ms.map V.int)) (q : Q (.bl (decide (ns = ms))) H) : rEqD K (.ref a) (.ref b) H Q :=
  ⟨_, _, dp_ints h, dp_ints h2, shaped_ints ns, shaped_ints ms, by
    have e : PyData.eqv (.list (ns.map PyData.int)) (.list (ms.map PyData.int)) = decide (ns = ms) := by rw [PyData.eqv]; exact eqvAll_ints ns ms
    rw [e]; exact q⟩
theorem r_neLL (h : SqL K H a (ns.map V.int)) (h2 : SqL K H b (ms.map V.int)) (q : Q (.bl (!decide (ns = ms))) H) : rNeD K (.ref a) (.ref b) H Q :=
  ⟨_, _, dp_ints h, dp_ints h2, shaped_ints ns, shaped_ints ms, by
    have e : PyData.eqv (.list (ns.map PyData.int)) (.list (ms.map PyData.int)) = decide (ns = ms) := by rw [PyData.eqv]; exact eqvAll_ints ns ms
    rw [e]; exact q⟩
theorem r_eqTT (h : SqT K H a (ns.map V.int)) (h2 : SqT K H b (ms.map V.int)) (q : Q (.bl (decide (ns = ms))) H) : rEqD K (.ref a) (.ref b) H Q :=
  ⟨_, _, dp_intsT h, dp_intsT h2, shaped_intsT ns, shaped_intsT ms, by
    have e : PyData.eqv (.tuple (ns.map PyData.int)) (.tuple (ms.map PyData.int)) = decide (ns = ms) := by rw [PyData.eqv]; exact eqvAll_ints ns ms
    rw [e]; exact q⟩
theorem r_eqSame (h : SqL K H a (ns.map V.int)) (h2 : SqL K H b (ns.map V.int)) (q : Q (.bl true) H) : rEqD K (.ref a) (.ref b) H Q := r_eqLL h h2 (by rw [decide_eq_true rfl]; exact q)
theorem r_neSame (h : SqL K H a (ns.map V.int)) (h2 : SqL K H b (ns.map V.int)) (q : Q (.bl false) H) : rNeD K (.ref a) (.ref b) H Q := r_neLL h h2 (by rw [decide_eq_true rfl]; exact q)
theorem r_ixI {i : Int} {p : Addr} (h : SqL K H p (ns.map V.int)) (h0 : 0 ≤ i) (h1 : i < ns.length) (q : Q (.int (gi ns i)) H) : rIxL K (.ref p) (.int i) H Q := r_ixL h (at_ints h0 h1) q
theorem r_ixqL {i : Int} {p : Addr} (h : SqL K H p (ns.map V.int)) (h0 : 0 ≤ i) (h1 : i < ns.length) (q : Q (.int (gi ns i)) H) : rIx K (.ref p) (.int i) H Q := .inl (r_ixL h (at_ints h0 h1) q)
theorem r_ixqT {i : Int} {p : Addr} (h : SqT K H p (ns.map V.int)) (h0 : 0 ≤ i) (h1 : i < ns.length) (q : Q (.int (gi ns i)) H) : rIx K (.ref p) (.int i) H Q := .inr (.inl (r_ixT h (at_ints h0 h1) q))
theorem r_ixIT {i : Int} {p : Addr} (h : SqT K H p (ns.map V.int)) (h0 : 0 ≤ i) (h1 : i < ns.length) (q : Q (.int (gi ns i)) H) : rIxT K (.ref p) (.int i) H Q := r_ixT h (at_ints h0 h1) q
/-- a written list (or one of unknown form) at a place in it -/
theorem r_ixM {i : Int} {p : Addr} {vs : List V} (h : SqL K H p vs) (h0 : 0 ≤ i) (h1 : i < vs.length) (q : ∀ v, v ∈ vs → atI vs i = some v → Q v H) : rIxL K (.ref p) (.int i) H Q := by
  obtain ⟨n, rfl⟩ := Int.eq_ofNat_of_zero_le h0
  have hn : n < vs.length := by omega
  have e : atI vs (n : Int) = some vs[n] := atI_nat (List.getElem?_eq_getElem hn)
  exact r_ixL h e (q _ (List.getElem_mem hn) e)
theorem r_ret1 {H0 : Hp} {L : List (Addr × HO)} {u : HO} (o : Own H0 H L) (k : ∀ p H', Own H0 H' ((p, u) :: L) → Q (.ref p) H') : RetO H Q u := fun H' p e f h => k p H' (o.add e f h)
theorem r_retvs {H0 : Hp} {L : List (Addr × HO)} {v : V} (o : Own H0 H L) (k : ∀ H', Same H H' → Own H0 H' L → Q v H') : RetV H Q v := fun H' e => k H' e (o.mono e)
theorem r_retv {H0 : Hp} {L : List (Addr × HO)} {v : V} (o : Own H0 H L) (k : ∀ H', Own H0 H' L → Q v H') : RetV H Q v := fun H' e => k H' (o.mono e)
end

/-! ### named relations -/
def rTupS (K : PySem.W.Frag) : List V → Hp → VK → Prop := fun xs H Q => ∃ p ys, xs = [.ref p] ∧ ((SqL K H p ys ∧ ∀ l, H l = none → Q (.ref l) (upd H l (.tup ys))) ∨ (SqT K H p ys ∧ Q (.ref p) H))
def rInt1 : List V → Hp → VK → Prop := fun xs H Q => (∃ i, xs = [.int i] ∧ Q (.int i) H) ∨ ∃ k, xs = [.bl k] ∧ Q (.int (if k then 1 else 0)) H
section
variable {H H0 : Hp} {Q : VK} {K : PySem.W.Frag} {L : List (Addr × HO)} {p : Addr} {xs : List V}
theorem r_len (h : SqL K H p xs) (q : Q (.int xs.length) H) : Evl.rLenS K [.ref p] H Q := ⟨p, xs, rfl, .inl h, q⟩
theorem r_lenT (h : SqT K H p xs) (q : Q (.int xs.length) H) : Evl.rLenS K [.ref p] H Q := ⟨p, xs, rfl, .inr h, q⟩
theorem r_list (o : Own H0 H L) (h : SqL K H p xs) (k : ∀ l H', Own H0 H' ((l, .lst xs) :: L) → Q (.ref l) H') : Evl.rListS K [.ref p] H Q := ⟨p, xs, rfl, .inl h, fun l hl => k l _ (o.new hl)⟩
theorem r_listT (o : Own H0 H L) (h : SqT K H p xs) (k : ∀ l H', Own H0 H' ((l, .lst xs) :: L) → Q (.ref l) H') : Evl.rListS K [.ref p] H Q := ⟨p, xs, rfl, .inr h, fun l hl => k l _ (o.new hl)⟩
theorem r_tupL (o : Own H0 H L) (h : SqL K H p xs) (k : ∀ l H', Own H0 H' ((l, .tup xs) :: L) → Q (.ref l) H') : rTupS K [.ref p] H Q := ⟨p, xs, rfl, .inl ⟨h, fun l hl => k l _ (o.new hl)⟩⟩
theorem r_int {i : Int} (q : Q (.int i) H) : rInt1 [.int i] H Q := .inl ⟨i, rfl, q⟩
theorem r_intB {b : Bool} (q : Q (.int (if b then 1 else 0)) H) : rInt1 [.bl b] H Q := .inr ⟨b, rfl, q⟩
end

/-! ### slices -/
theorem cut_hi (xs : List V) (n : Nat) : cutV xs none (some (n : Int)) = xs.take n := by
  unfold cutV
  rw [HT.sIx_none, HT.sIx_nat, List.drop_zero, Nat.sub_zero]
  rcases Nat.le_total n xs.length with h | h
  · rw [Nat.min_eq_left h]
  · rw [Nat.min_eq_right h, List.take_of_length_le (Nat.le_refl _), List.take_of_length_le h]
theorem cut_lo (xs : List V) (n : Nat) : cutV xs (some (n : Int)) none = xs.drop n := by
  unfold cutV
  rw [HT.sIx_none, HT.sIx_nat]
  rcases Nat.le_total n xs.length with h | h
  · rw [Nat.min_eq_left h]
    exact List.take_of_length_le (by rw [List.length_drop]; omega)
  · rw [Nat.min_eq_right h, List.drop_of_length_le h, List.drop_of_length_le (Nat.le_refl _)]
    simp
theorem cut_both (xs : List V) (a b : Nat) : cutV xs (some (a : Int)) (some (b : Int)) = (xs.drop a).take (b - a) := by
  unfold cutV
  rw [HT.sIx_nat, HT.sIx_nat]
  rcases Nat.le_total a xs.length with h | h
  · rw [Nat.min_eq_left h]
    rcases Nat.le_total b xs.length with h2 | h2
    · rw [Nat.min_eq_left h2]
    · rw [Nat.min_eq_right h2, List.take_of_length_le (by rw [List.length_drop]; omega), List.take_of_length_le (by rw [List.length_drop]; omega)]
  · rw [Nat.min_eq_right h, List.drop_of_length_le h, List.drop_of_length_le (Nat.le_refl _)]
    simp
theorem cut_all (xs : List V) : cutV xs none none = xs := by
  unfold cutV
  rw [HT.sIx_none, HT.sIx_none]
  simp

/-! ### loops -/
def RFor (J : It) (g : TG) (tb : TS) (D : Ends) (σ : L2.St) (H : Hp) : Prop := ∃ W : Nat → Nat → L2.St → Hp → Prop, (∃ m, W 0 m σ H) ∧ ∀ i m σ H, W i m σ H →
    (J.stop i H ∧ D.nx σ H) ∨ (J.go i H ∧ ∃ N : L2.St → Hp → Prop, (∀ σ' H', N σ' H' → ∃ m', m' < m ∧ W (i + 1) m' σ' H') ∧ ∀ x H', J.yld i H x H' → g x σ H' fun σ2 H2 => tb { D with nx := N, ct := N, bk := D.nx } σ2 H2)
section
variable {σ : L2.St} {H H0 : Hp} {Q : VK} {v x y : V} {ta tb te tl : TE} {t u : TT} {i j : Int} {D : Ends} {ts tz : TS} {g : TG} {K : PySem.W.Frag} {L : List (Addr × HO)} {tr : TA} {wi : TI}
theorem r_for (q : wi σ H fun J H1 => RFor J g ts D σ H1) : tFor wi g ts D σ H := q
theorem r_rng1 {R : It → Hp → Prop} (q : tr σ H fun vs H1 => ∃ j : Int, vs = [.int j] ∧ -(2 ^ 62) ≤ j ∧ j < 2 ^ 62 ∧ R (Itr 0 j.toNat) H1) : iRng1 tr σ H R := q
theorem r_rng2 {R : It → Hp → Prop} (q : tr σ H fun vs H1 => ∃ i j : Int, vs = [.int i, .int j] ∧ (-(2 ^ 62) ≤ i ∧ i < 2 ^ 62 ∧ -(2 ^ 62) ≤ j ∧ j < 2 ^ 62) ∧ R (Itr i (j - i).toNat) H1) : iRng2 tr σ H R := q
theorem r_rng3 {R : It → Hp → Prop} (q : tr σ H fun vs H1 => ∃ (i j c : Int) (n : Nat), vs = [.int i, .int j, .int c] ∧ RgC i j c n ∧ R (Itc i c n) H1) : iRng3 tr σ H R := q
theorem r_iL {R : It → Hp → Prop} (q : tl σ H fun x H1 => ∃ a, x = .ref a ∧ (∃ xs, SqL K H1 a xs) ∧ R (Itl K a) H1) : iList K tl σ H R := q
theorem r_iT {R : It → Hp → Prop} (q : tl σ H fun x H1 => ∃ a, x = .ref a ∧ (∃ xs, SqT K H1 a xs) ∧ R (Itt K a) H1) : iTup K tl σ H R := q
/-- for k in range(j): behind the argument's reading -/
theorem forR1 {n : Nat} {s : Nat} (hn : j = (n : Int)) (hb : j < 2 ^ 62) (Pv : Nat → L2.St → Hp → Prop) (h0 : Pv 0 σ H)
    (hs : ∀ i σ H, i < n → Pv i σ H → ts { D with nx := Pv (i + 1), ct := Pv (i + 1), bk := D.nx } (σ.set s (some (.int (i : Int)))) H) (hd : ∀ σ H, Pv n σ H → D.nx σ H) :
    ∃ k : Int, [V.int j] = [.int k] ∧ -(2 ^ 62) ≤ k ∧ k < 2 ^ 62 ∧ RFor (Itr 0 k.toNat) (gName s) ts D σ H := by
  refine ⟨j, rfl, by omega, hb, ?_⟩
  have e : j.toNat = n := by omega
  rw [e]
  refine for_range (lo := 0) (n := n) Pv h0 (fun i σ H hi p => ?_) hd
  have e0 : (0 : Int) + (i : Int) = (i : Int) := Int.zero_add _
  show gName s (.int ((0 : Int) + (i : Int))) σ H _
  rw [e0]
  exact hs i σ H hi p
/-- for k in range(i, j) -/
theorem forR2 {n s : Nat} (hn : (j - i).toNat = n) (hb : -(2 ^ 62) ≤ i ∧ i < 2 ^ 62 ∧ -(2 ^ 62) ≤ j ∧ j < 2 ^ 62) (Pv : Nat → L2.St → Hp → Prop) (h0 : Pv 0 σ H)
    (hs : ∀ k σ H, k < n → Pv k σ H → ts { D with nx := Pv (k + 1), ct := Pv (k + 1), bk := D.nx } (σ.set s (some (.int (i + (k : Int))))) H) (hd : ∀ σ H, Pv n σ H → D.nx σ H) :
    ∃ i' j' : Int, [V.int i, V.int j] = [.int i', .int j'] ∧ (-(2 ^ 62) ≤ i' ∧ i' < 2 ^ 62 ∧ -(2 ^ 62) ≤ j' ∧ j' < 2 ^ 62) ∧ RFor (Itr i' (j' - i').toNat) (gName s) ts D σ H := by
  refine ⟨i, j, rfl, hb, ?_⟩
  rw [hn]
  exact for_range (lo := i) (n := n) Pv h0 (fun k σ H hi p => hs k σ H hi p) hd
theorem forR3 {c : Int} {n s : Nat} (hc : RgC i j c n) (Pv : Nat → L2.St → Hp → Prop) (h0 : Pv 0 σ H)
    (hs : ∀ k σ H, k < n → Pv k σ H → ts { D with nx := Pv (k + 1), ct := Pv (k + 1), bk := D.nx } (σ.set s (some (.int (i + (k : Nat) * c)))) H) (hd : ∀ σ H, Pv n σ H → D.nx σ H) :
    ∃ (i' j' c' : Int) (n' : Nat), [V.int i, V.int j, V.int c] = [.int i', .int j', .int c'] ∧ RgC i' j' c' n' ∧ RFor (Itc i' c' n') (gName s) ts D σ H :=
  ⟨i, j, c, n, rfl, hc, for_rangeC (lo := i) (c := c) (n := n) Pv h0 (fun k σ H hi p => hs k σ H hi p) hd⟩
/-- for x in l: behind the reading of l -/
theorem forL {a : Addr} {xs : List V} (h : SqL K H a xs) (Pv : Nat → L2.St → Hp → Prop) (h0 : Pv 0 σ H) (hl : ∀ i σ H, i ≤ xs.length → Pv i σ H → SqL K H a xs)
    (hs : ∀ i x σ H, xs[i]? = some x → Pv i σ H → g x σ H fun σ2 H2 => ts { D with nx := Pv (i + 1), ct := Pv (i + 1), bk := D.nx } σ2 H2) (hd : ∀ σ H, Pv xs.length σ H → D.nx σ H) :
    ∃ a', V.ref a = .ref a' ∧ (∃ xs, SqL K H a' xs) ∧ RFor (Itl K a') g ts D σ H := ⟨a, rfl, ⟨xs, h⟩, for_list (K := K) (a := a) (xs := xs) Pv h0 hl hs hd⟩
theorem forT {a : Addr} {xs : List V} (h : SqT K H a xs) (Pv : Nat → L2.St → Hp → Prop) (h0 : Pv 0 σ H) (hl : ∀ i σ H, i ≤ xs.length → Pv i σ H → SqT K H a xs)
    (hs : ∀ i x σ H, xs[i]? = some x → Pv i σ H → g x σ H fun σ2 H2 => ts { D with nx := Pv (i + 1), ct := Pv (i + 1), bk := D.nx } σ2 H2) (hd : ∀ σ H, Pv xs.length σ H → D.nx σ H) :
    ∃ a', V.ref a = .ref a' ∧ (∃ xs, SqT K H a' xs) ∧ RFor (Itt K a') g ts D σ H := ⟨a, rfl, ⟨xs, h⟩, for_tup (K := K) (a := a) (xs := xs) Pv h0 hl hs hd⟩
/-- while -/
def RWh (c : TT) (tb : TS) (D : Ends) (σ : L2.St) (H : Hp) : Prop := tWhile c tb D σ H
theorem whileB {c : TT} (Pv : Nat → L2.St → Hp → Prop) (m : Nat) (h0 : Pv m σ H)
    (hs : ∀ m σ H, Pv m σ H → c σ H fun b H1 => RIf b (∃ N : L2.St → Hp → Prop, (∀ σ' H', N σ' H' → ∃ m', m' < m ∧ Pv m' σ' H') ∧ ts { D with nx := N, ct := N, bk := D.nx } σ H1) (D.nx σ H1)) : tWhile c ts D σ H :=
  ⟨Pv, ⟨m, h0⟩, hs⟩
/-- the body's end in such a loop: a smaller number and the word again -/
theorem wh_turn {Pv : Nat → L2.St → Hp → Prop} {m : Nat} (h : ts { D with nx := fun σ' H' => ∃ m', m' < m ∧ Pv m' σ' H', ct := fun σ' H' => ∃ m', m' < m ∧ Pv m' σ' H', bk := D.nx } σ H) :
    ∃ N : L2.St → Hp → Prop, (∀ σ' H', N σ' H' → ∃ m', m' < m ∧ Pv m' σ' H') ∧ ts { D with nx := N, ct := N, bk := D.nx } σ H := ⟨_, fun _ _ h => h, h⟩

/-! ### comprehensions -/
def RLc (J : It) (g : TG) (tt : TT) (te : TE) (vs : List Nat) (σ : L2.St) (H1 : Hp) (Q : VK) : Prop := ∀ D, H1 D = none → ∃ W : Nat → Nat → Hp → Prop, (∃ m, W 0 m (upd H1 D (.lst []))) ∧ ∀ i m H, W i m H →
  (J.stop i H ∧ Q (.ref D) H) ∨ (J.go i H ∧ ∃ Nx : Hp → Prop, (∀ H', Nx H' → ∃ m', m' < m ∧ W (i + 1) m' H') ∧ ∀ x H', J.yld i H x H' → g x (wipe σ vs) H' fun σ2 H2 => wipe σ2 vs = wipe σ vs ∧ tt σ2 H2 fun b H3 =>
    if b = true then te σ2 H3 fun y H4 => ∃ acc, H4 D = some (.lst acc) ∧ acc.length < sizeLine ∧ Nx (upd H4 D (.lst (acc ++ [y]))) else Nx H3)
theorem r_lc {tt : TT} {vs : List Nat} (q : wi σ H fun J H1 => RLc J g tt te vs σ H1 Q) : tLc wi g tt te vs σ H Q := q
/-- what a turn of a comprehension without an if is to reach -/
theorem lc_turn {H' : Hp} {zs ys : List V} {P : Addr} {k : Nat} {y : V} {σ2 : L2.St} (o : Own H0 H' ((P, .lst (ys.take k)) :: L)) (hy : ys[k]? = some y) (hz : ys.length ≤ 10000000)
    (he : ∀ Q : VK, RetV H' Q y → te σ2 H' Q) :
    tYes σ2 H' fun b H3 => if b = true then te σ2 H3 fun y H4 => ∃ acc, H4 P = some (.lst acc) ∧ acc.length < sizeLine ∧ Own H0 (upd H4 P (.lst (acc ++ [y]))) ((P, .lst (ys.take (k + 1))) :: L) else Own H0 H3 ((P, .lst (ys.take (k + 1))) :: L) := by
  refine iteT (B := Own H0 H' ((P, .lst (ys.take (k + 1))) :: L)) (he _ fun H4 s4 => ?_)
  have o4 := o.mono s4
  have hk := (List.getElem?_eq_some_iff.mp hy).1
  refine ⟨ys.take k, o4.at 0 rfl, sz_lt (by rw [List.length_take]; omega), ?_⟩
  have o5 := o4.set (v := .lst (ys.take k ++ [y])) 0 rfl
  have e : ys.take (k + 1) = ys.take k ++ [y] := by rw [List.take_add_one, hy]; rfl
  rw [e]
  exact o5
/-- [e for x in range(n)], e no new object -/
theorem lcR1 {n s : Nat} {vs : List Nat} (ys : List V) (hy : ys.length = n) (o : Own H0 H L) (hn : j = (n : Int)) (hz : n ≤ 10000000) (hw : ∀ x, wipe ((wipe σ vs).set s (some x)) vs = wipe σ vs)
    (he : ∀ (i : Nat) (y : V) (p : Addr) (zs : List V) (H' : Hp) (Q : VK), i < n → ys[i]? = some y → Own H0 H' ((p, .lst zs) :: L) → RetV H' Q y → te ((wipe σ vs).set s (some (.int (i : Int)))) H' Q)
    (k : ∀ p H', Own H0 H' ((p, .lst ys) :: L) → Q (.ref p) H') :
    ∃ k : Int, [V.int j] = [.int k] ∧ -(2 ^ 62) ≤ k ∧ k < 2 ^ 62 ∧ RLc (Itr 0 k.toNat) (gName s) tYes te vs σ H Q := by
  refine ⟨j, rfl, by omega, by omega, fun P hP => ?_⟩
  have e : j.toNat = n := by omega
  rw [e]
  refine lc_range (lo := 0) (n := n) (fun i H' => Own H0 H' ((P, .lst (ys.take i)) :: L)) (o.new hP) (fun i H' hi p => ?_) (fun H' p => k P H' (by rw [List.take_of_length_le (by omega)] at p; exact p))
  have e0 : (0 : Int) + (i : Int) = (i : Int) := Int.zero_add _
  rw [e0]
  have hlt : i < ys.length := by omega
  refine ⟨hw _, ?_⟩
  exact lc_turn (zs := []) p (List.getElem?_eq_getElem hlt) (by omega) fun Q q => he i _ P _ H' Q hi (List.getElem?_eq_getElem hlt) p q
/-- [e for x in xs], e no new object -/
theorem lcL {a : Addr} {xs : List V} {s : Nat} {vs : List Nat} (ys : List V) (hy : ys.length = xs.length) (o : Own H0 H L) (h : ∀ H' p zs, Own H0 H' ((p, .lst zs) :: L) → SqL K H' a xs) (h1 : SqL K H a xs) (hz : xs.length ≤ 10000000) (hw : ∀ x, wipe ((wipe σ vs).set s (some x)) vs = wipe σ vs)
    (he : ∀ (i : Nat) (x y : V) (p : Addr) (zs : List V) (H' : Hp) (Q : VK), xs[i]? = some x → ys[i]? = some y → Own H0 H' ((p, .lst zs) :: L) → RetV H' Q y → te ((wipe σ vs).set s (some x)) H' Q)
    (k : ∀ p H', Own H0 H' ((p, .lst ys) :: L) → Q (.ref p) H') :
    ∃ a', V.ref a = .ref a' ∧ (∃ xs, SqL K H a' xs) ∧ RLc (Itl K a') (gName s) tYes te vs σ H Q := by
  refine ⟨a, rfl, ⟨xs, h1⟩, fun P hP => ?_⟩
  refine lc_list (K := K) (a := a) (xs := xs) (fun i H' => Own H0 H' ((P, .lst (ys.take i)) :: L)) (o.new hP) (fun i H' _ p => h H' _ _ p) (fun i x H' hi p => ?_) (fun H' p => k P H' (by rw [List.take_of_length_le (by omega)] at p; exact p))
  have hlt : i < ys.length := by have := (List.getElem?_eq_some_iff.mp hi).1; omega
  refine ⟨hw _, ?_⟩
  exact lc_turn (zs := []) p (List.getElem?_eq_getElem hlt) (by omega) fun Q q => he i x _ P _ H' Q hi (List.getElem?_eq_getElem hlt) p q
end
/-! ### comprehensions of ints -/
def mapR (n : Nat) (f : Nat → Int) : List Int := (List.range n).map f
theorem mapR_len (n : Nat) (f : Nat → Int) : (mapR n f).length = n := by unfold mapR; rw [List.length_map, List.length_range]
theorem mapR_mem {n : Nat} {f : Nat → Int} {x : Int} (h : x ∈ mapR n f) : ∃ k, k < n ∧ x = f k := by
  obtain ⟨k, hk, e⟩ := List.mem_map.mp h
  exact ⟨k, List.mem_range.mp hk, e.symm⟩
theorem mapR_get {n k : Nat} {f : Nat → Int} (h : k < n) : (mapR n f)[k]? = some (f k) := by
  unfold mapR
  rw [List.getElem?_map, List.getElem?_range h]
  rfl
theorem mapR_ext {n : Nat} {f g : Nat → Int} (h : ∀ k, k < n → f k = g k) : mapR n f = mapR n g := by
  unfold mapR
  exact List.map_congr_left fun k hk => h k (List.mem_range.mp hk)
theorem RetV.here {H : Hp} {Q : VK} {v : V} (q : RetV H Q v) : Q v H := q H (Same.refl H)
section
variable {σ : L2.St} {H H0 : Hp} {Q : VK} {te : TE} {j : Int} {K : PySem.W.Frag} {L : List (Addr × HO)}
theorem lcR1I {n s : Nat} {vs : List Nat} (f : Nat → Int) (o : Own H0 H L) (hn : j = (n : Int)) (hz : n ≤ 10000000) (hw : ∀ x, wipe ((wipe σ vs).set s (some x)) vs = wipe σ vs)
    (he : ∀ (i : Nat) (p : Addr) (zs : List V) (H' : Hp) (Q : VK), i < n → Own H0 H' ((p, .lst zs) :: L) → RetV H' Q (.int (f i)) → te ((wipe σ vs).set s (some (.int (i : Int)))) H' Q)
    (k : ∀ p H', Own H0 H' ((p, .lst ((mapR n f).map V.int)) :: L) → Q (.ref p) H') :
    ∃ k : Int, [V.int j] = [.int k] ∧ -(2 ^ 62) ≤ k ∧ k < 2 ^ 62 ∧ RLc (Itr 0 k.toNat) (gName s) tYes te vs σ H Q := by
  refine lcR1 ((mapR n f).map V.int) (by rw [List.length_map, mapR_len]) o hn hz hw (fun i y p zs H' Q hi hy o' q => ?_) k
  rw [List.getElem?_map, mapR_get hi] at hy
  cases hy
  exact he i p zs H' Q hi o' q
theorem lcLI {a : Addr} {ns : List Int} {s : Nat} {vs : List Nat} (f : Int → Int) (o : Own H0 H L) (h : ∀ H' p zs, Own H0 H' ((p, .lst zs) :: L) → SqL K H' a (ns.map V.int)) (h1 : SqL K H a (ns.map V.int)) (hz : ns.length ≤ 10000000) (hw : ∀ x, wipe ((wipe σ vs).set s (some x)) vs = wipe σ vs)
    (he : ∀ (i : Nat) (x : Int) (p : Addr) (zs : List V) (H' : Hp) (Q : VK), x ∈ ns → Own H0 H' ((p, .lst zs) :: L) → RetV H' Q (.int (f x)) → te ((wipe σ vs).set s (some (.int x))) H' Q)
    (k : ∀ p H', Own H0 H' ((p, .lst ((ns.map f).map V.int)) :: L) → Q (.ref p) H') :
    ∃ a', V.ref a = .ref a' ∧ (∃ xs, SqL K H a' xs) ∧ RLc (Itl K a') (gName s) tYes te vs σ H Q := by
  refine lcL ((ns.map f).map V.int) (by rw [List.length_map, List.length_map, List.length_map]) o h h1 (by rw [List.length_map]; exact hz) hw (fun i x y p zs H' Q hx hy o' q => ?_) k
  rw [List.getElem?_map] at hx
  rw [List.getElem?_map, List.getElem?_map] at hy
  cases e : ns[i]? with
  | none => rw [e] at hx; cases hx
  | some z =>
    rw [e] at hx hy
    cases hx
    cases hy
    exact he i z p zs H' Q (List.mem_of_getElem? e) o' q
end
section
variable {H0 H : Hp} {L : List (Addr × HO)} {x y z u v : Addr × HO}
theorem Own.pick1 (o : Own H0 H L) (i : Nat) (hi : L[i]? = some x) : Own H0 H [x] := ⟨o.ex, fun q hq => by rw [List.mem_singleton.mp hq]; exact o.fr _ (List.mem_of_getElem? hi), by simp⟩
theorem Own.cons_of (o : Own H0 H L) {L' : List (Addr × HO)} (o' : Own H0 H L') (hx : x ∈ L) (hn : ∀ q ∈ L', q.1 ≠ x.1) : Own H0 H (x :: L') :=
  ⟨o.ex, fun q hq => by
    rcases List.mem_cons.mp hq with rfl | hq
    · exact o.fr _ hx
    · exact o'.fr _ hq, by
    rw [List.map_cons, List.nodup_cons]
    refine ⟨fun hm => ?_, o'.nd⟩
    obtain ⟨q, hq, e⟩ := List.mem_map.mp hm
    exact hn q hq e⟩
theorem Own.nei (o : Own H0 H L) {i j : Nat} (hi : L[i]? = some x) (hj : L[j]? = some y) (h : i ≠ j) : x.1 ≠ y.1 := fun e => h (nodup_fst (l := x.1) (u := x.2) (v := y.2) o.nd hi (by rw [hj, e]))
theorem Own.pick2 (o : Own H0 H L) (i j : Nat) (hij : i ≠ j) (hi : L[i]? = some x) (hj : L[j]? = some y) : Own H0 H [x, y] :=
  o.cons_of (o.pick1 j hj) (List.mem_of_getElem? hi) fun q hq => by rw [List.mem_singleton.mp hq]; exact (o.nei hi hj hij).symm
theorem Own.pick3 (o : Own H0 H L) (i j k : Nat) (h : i ≠ j ∧ i ≠ k ∧ j ≠ k) (hi : L[i]? = some x) (hj : L[j]? = some y) (hk : L[k]? = some z) : Own H0 H [x, y, z] :=
  o.cons_of (o.pick2 j k h.2.2 hj hk) (List.mem_of_getElem? hi) fun q hq => by
    rcases List.mem_cons.mp hq with rfl | hq
    · exact (o.nei hi hj h.1).symm
    · rw [List.mem_singleton.mp hq]; exact (o.nei hi hk h.2.1).symm
theorem Own.pick4 (o : Own H0 H L) (i j k l : Nat) (h : i ≠ j ∧ i ≠ k ∧ i ≠ l ∧ j ≠ k ∧ j ≠ l ∧ k ≠ l) (hi : L[i]? = some x) (hj : L[j]? = some y) (hk : L[k]? = some z) (hl : L[l]? = some u) : Own H0 H [x, y, z, u] :=
  o.cons_of (o.pick3 j k l h.2.2.2 hj hk hl) (List.mem_of_getElem? hi) fun q hq => by
    rcases List.mem_cons.mp hq with rfl | hq
    · exact (o.nei hi hj h.1).symm
    · rcases List.mem_cons.mp hq with rfl | hq
      · exact (o.nei hi hk h.2.1).symm
      · rw [List.mem_singleton.mp hq]; exact (o.nei hi hl h.2.2.1).symm
end

/-! ### tuples stand -/
def Stp (H H' : Hp) : Prop := ∀ a xs, Rd H a (.tup xs) → Rd H' a (.tup xs)
theorem Stp.refl (H : Hp) : Stp H H := fun _ _ h => h
theorem Stp.trans {H H1 H2 : Hp} (a : Stp H H1) (b : Stp H1 H2) : Stp H H2 := fun x xs h => b x xs (a x xs h)
theorem Stp.of {H H' : Hp} (e : Same H H') : Stp H H' := fun a xs h => by
  rcases h with h | ⟨o, h⟩
  · exact .inl (e _ _ h)
  · exact .inr ⟨o, e _ _ h⟩
theorem Stp.set {H : Hp} {l : Addr} {xs : List V} {u : HO} (h : H l = some (.lst xs)) : Stp H (upd H l u) := fun a ys r => by
  have hne : a ≠ l := by
    rintro rfl
    rcases r with r | ⟨o, r⟩ <;> rw [h] at r <;> cases r
  rcases r with r | ⟨o, r⟩
  · exact .inl (by rw [upd_ne hne]; exact r)
  · exact .inr ⟨o, by rw [upd_ne hne]; exact r⟩
theorem Stp.sq {K : PySem.W.Frag} {H H' : Hp} {a : Addr} {xs : List V} (e : Stp H H') (h : SqT K H a xs) : SqT K H' a xs := by
  rcases h with h | h
  · exact .inl (e _ _ h)
  · exact .inr h
/-! ### comprehensions with a test -/
theorem lc_turnF {H0 H H' : Hp} {L : List (Addr × HO)} {te : TE} {tt : TT} {zs : List V} {P : Addr} {o1 : Option V} {σ2 : L2.St} (o : Own H0 H' ((P, .lst zs) :: L)) (s : Stp H H') (hz : zs.length < 10000000)
    (ht : ∀ Q : Bool → Hp → Prop, (∀ H2, Same H' H2 → Q o1.isSome H2) → tt σ2 H' Q) (he : ∀ y H2, o1 = some y → Same H' H2 → ∀ Q : VK, RetV H2 Q y → te σ2 H2 Q) :
    tt σ2 H' fun b H3 => if b = true then te σ2 H3 fun y H4 => ∃ acc, H4 P = some (.lst acc) ∧ acc.length < sizeLine ∧ (Own H0 (upd H4 P (.lst (acc ++ [y]))) ((P, .lst (zs ++ o1.toList)) :: L) ∧ Stp H (upd H4 P (.lst (acc ++ [y])))) else (Own H0 H3 ((P, .lst (zs ++ o1.toList)) :: L) ∧ Stp H H3) := by
  refine ht _ fun H2 s2 => ?_
  have o2 := o.mono s2
  cases e : o1 with
  | none =>
    show Own H0 H2 ((P, .lst (zs ++ [])) :: L) ∧ Stp H H2
    rw [List.append_nil]
    exact ⟨o2, s.trans (.of s2)⟩
  | some y =>
    refine iteT (B := Own H0 H2 ((P, .lst (zs ++ [y])) :: L) ∧ Stp H H2) (he y H2 e s2 _ fun H4 s4 => ?_)
    have o4 := o2.mono s4
    exact ⟨zs, o4.at 0 rfl, sz_lt hz, o4.set (v := .lst (zs ++ [y])) 0 rfl, (s.trans ((Stp.of s2).trans (.of s4))).trans (Stp.set (o4.at 0 rfl))⟩
theorem fm_take {α β : Type} {xs : List α} {sel : α → Option β} {i : Nat} {x : α} (h : xs[i]? = some x) : (xs.take (i + 1)).filterMap sel = (xs.take i).filterMap sel ++ (sel x).toList := by
  rw [List.take_add_one, h, List.filterMap_append]
  congr 1
theorem fm_le {α β : Type} (xs : List α) (sel : α → Option β) : (xs.filterMap sel).length ≤ xs.length := List.length_filterMap_le sel xs
section
variable {σ : L2.St} {H H0 : Hp} {Q : VK} {te : TE} {tt : TT} {j : Int} {K : PySem.W.Frag} {L : List (Addr × HO)}
/-- [e for x in xs if t], what it gives by the item alone -/
theorem lcGL {a : Addr} {xs : List V} {g : TG} {vs : List Nat} (sel : V → Option V) (o : Own H0 H L) (h : ∀ H' p zs, Own H0 H' ((p, .lst zs) :: L) → SqL K H' a xs) (h1 : SqL K H a xs) (hz : xs.length < 10000000)
    (he : ∀ (i : Nat) (x : V) (p : Addr) (zs : List V) (H' : Hp) (R : L2.St → Hp → Prop), xs[i]? = some x → Own H0 H' ((p, .lst zs) :: L) → Stp H H' →
      (∀ σ2, (∀ H2, Same H' H2 → wipe σ2 vs = wipe σ vs) → (∀ Q : Bool → Hp → Prop, (∀ H2, Same H' H2 → Q (sel x).isSome H2) → tt σ2 H' Q) → (∀ y H2, sel x = some y → Same H' H2 → ∀ Q : VK, RetV H2 Q y → te σ2 H2 Q) → R σ2 H') → g x (wipe σ vs) H' R)
    (k : ∀ p H', Stp H H' → Own H0 H' ((p, .lst (xs.filterMap sel)) :: L) → Q (.ref p) H') :
    ∃ a', V.ref a = .ref a' ∧ (∃ xs, SqL K H a' xs) ∧ RLc (Itl K a') g tt te vs σ H Q := by
  refine ⟨a, rfl, ⟨xs, h1⟩, fun P hP => ?_⟩
  refine lc_list (K := K) (a := a) (xs := xs) (fun i H' => Own H0 H' ((P, .lst ((xs.take i).filterMap sel)) :: L) ∧ Stp H H') ⟨o.new hP, .of (same_new hP)⟩ (fun i H' _ p => h H' _ _ p.1) (fun i x H' hi p => ?_) (fun H' p => k P H' p.2 (by have p := p.1; rw [List.take_of_length_le (Nat.le_refl _)] at p; exact p))
  refine he i x P _ H' _ hi p.1 p.2 fun σ2 hw ht hv => ⟨hw H' (Same.refl _), ?_⟩
  rw [fm_take hi]
  refine lc_turnF p.1 p.2 ?_ ht hv
  have h2 := fm_le (xs.take i) sel
  rw [List.length_take] at h2
  omega
theorem lcGT {a : Addr} {xs : List V} {g : TG} {vs : List Nat} (sel : V → Option V) (o : Own H0 H L) (h : ∀ H' p zs, Own H0 H' ((p, .lst zs) :: L) → SqT K H' a xs) (h1 : SqT K H a xs) (hz : xs.length < 10000000)
    (he : ∀ (i : Nat) (x : V) (p : Addr) (zs : List V) (H' : Hp) (R : L2.St → Hp → Prop), xs[i]? = some x → Own H0 H' ((p, .lst zs) :: L) → Stp H H' →
      (∀ σ2, (∀ H2, Same H' H2 → wipe σ2 vs = wipe σ vs) → (∀ Q : Bool → Hp → Prop, (∀ H2, Same H' H2 → Q (sel x).isSome H2) → tt σ2 H' Q) → (∀ y H2, sel x = some y → Same H' H2 → ∀ Q : VK, RetV H2 Q y → te σ2 H2 Q) → R σ2 H') → g x (wipe σ vs) H' R)
    (k : ∀ p H', Stp H H' → Own H0 H' ((p, .lst (xs.filterMap sel)) :: L) → Q (.ref p) H') :
    ∃ a', V.ref a = .ref a' ∧ (∃ xs, SqT K H a' xs) ∧ RLc (Itt K a') g tt te vs σ H Q := by
  refine ⟨a, rfl, ⟨xs, h1⟩, fun P hP => ?_⟩
  refine lc_tup (K := K) (a := a) (xs := xs) (fun i H' => Own H0 H' ((P, .lst ((xs.take i).filterMap sel)) :: L) ∧ Stp H H') ⟨o.new hP, .of (same_new hP)⟩ (fun i H' _ p => h H' _ _ p.1) (fun i x H' hi p => ?_) (fun H' p => k P H' p.2 (by have p := p.1; rw [List.take_of_length_le (Nat.le_refl _)] at p; exact p))
  refine he i x P _ H' _ hi p.1 p.2 fun σ2 hw ht hv => ⟨hw H' (Same.refl _), ?_⟩
  rw [fm_take hi]
  refine lc_turnF p.1 p.2 ?_ ht hv
  have h2 := fm_le (xs.take i) sel
  rw [List.length_take] at h2
  omega
/-- .. over range(n) -/
theorem lcGR {n s : Nat} {vs : List Nat} (sel : Nat → Option V) (o : Own H0 H L) (hn : j = (n : Int)) (hz : n < 10000000) (hw : ∀ x, wipe ((wipe σ vs).set s (some x)) vs = wipe σ vs)
    (ht : ∀ (i : Nat) (p : Addr) (zs : List V) (H' : Hp) (Q : Bool → Hp → Prop), i < n → Own H0 H' ((p, .lst zs) :: L) → Stp H H' → (∀ H2, Same H' H2 → Q (sel i).isSome H2) → tt ((wipe σ vs).set s (some (.int (i : Int)))) H' Q)
    (he : ∀ (i : Nat) (y : V) (p : Addr) (zs : List V) (H' : Hp) (Q : VK), i < n → sel i = some y → Own H0 H' ((p, .lst zs) :: L) → Stp H H' → RetV H' Q y → te ((wipe σ vs).set s (some (.int (i : Int)))) H' Q)
    (k : ∀ p H', Stp H H' → Own H0 H' ((p, .lst ((List.range n).filterMap sel)) :: L) → Q (.ref p) H') :
    ∃ k : Int, [V.int j] = [.int k] ∧ -(2 ^ 62) ≤ k ∧ k < 2 ^ 62 ∧ RLc (Itr 0 k.toNat) (gName s) tt te vs σ H Q := by
  refine ⟨j, rfl, by omega, by omega, fun P hP => ?_⟩
  have e : j.toNat = n := by omega
  rw [e]
  refine lc_range (lo := 0) (n := n) (fun i H' => Own H0 H' ((P, .lst ((List.range i).filterMap sel)) :: L) ∧ Stp H H') ⟨o.new hP, .of (same_new hP)⟩ (fun i H' hi p => ?_) (fun H' p => k P H' p.2 p.1)
  have e0 : (0 : Int) + (i : Int) = (i : Int) := Int.zero_add _
  rw [e0]
  refine ⟨hw _, ?_⟩
  have e1 : (List.range (i + 1)).filterMap sel = (List.range i).filterMap sel ++ (sel i).toList := by
    rw [List.range_succ, List.filterMap_append]
    congr 1
  rw [e1]
  refine lc_turnF p.1 p.2 ?_ (fun Q q => ht i P _ H' Q hi p.1 p.2 q) (fun y H2 hy s2 Q q => he i y P _ H2 Q hi hy (p.1.mono s2) (p.2.trans (.of s2)) q)
  have h2 := fm_le (List.range i) sel
  rw [List.length_range] at h2
  omega
end
/-- ints chosen and mapped -/
def selI (p : Int → Bool) (f : Int → V) : V → Option V
  | .int x => if p x then some (f x) else none
  | _ => none
theorem fm_ints (p : Int → Bool) (f : Int → V) : ∀ ns : List Int, (ns.map V.int).filterMap (selI p f) = (ns.filter p).map f
  | [] => rfl
  | n :: ns => by
    show List.filterMap (selI p f) (V.int n :: ns.map V.int) = _
    have e : selI p f (V.int n) = if p n then some (f n) else none := rfl
    rw [List.filterMap_cons, List.filter_cons, fm_ints p f ns, e]
    cases p n <;> rfl
section
variable {σ : L2.St} {H H0 : Hp} {Q : VK} {te : TE} {tt : TT} {K : PySem.W.Frag} {L : List (Addr × HO)}
theorem lcLIF {a : Addr} {ns : List Int} {s : Nat} {vs : List Nat} (p : Int → Bool) (f : Int → V) (o : Own H0 H L) (h : ∀ H' p zs, Own H0 H' ((p, .lst zs) :: L) → SqL K H' a (ns.map V.int)) (h1 : SqL K H a (ns.map V.int)) (hz : ns.length < 10000000) (hw : ∀ x, wipe ((wipe σ vs).set s (some x)) vs = wipe σ vs)
    (ht : ∀ (x : Int) (q : Addr) (zs : List V) (H' : Hp) (Q : Bool → Hp → Prop), x ∈ ns → Own H0 H' ((q, .lst zs) :: L) → (∀ H2, Same H' H2 → Q (p x) H2) → tt ((wipe σ vs).set s (some (.int x))) H' Q)
    (he : ∀ (x : Int) (q : Addr) (zs : List V) (H' : Hp) (Q : VK), x ∈ ns → p x = true → Own H0 H' ((q, .lst zs) :: L) → RetV H' Q (f x) → te ((wipe σ vs).set s (some (.int x))) H' Q)
    (k : ∀ q H', Own H0 H' ((q, .lst ((ns.filter p).map f)) :: L) → Q (.ref q) H') :
    ∃ a', V.ref a = .ref a' ∧ (∃ xs, SqL K H a' xs) ∧ RLc (Itl K a') (gName s) tt te vs σ H Q := by
  refine lcGL (selI p f) o h h1 (by rw [List.length_map]; exact hz) (fun i v q zs H' R hi o' _ r => ?_) (fun q H' _ o' => k q H' (by rw [fm_ints] at o'; exact o'))
  rw [List.getElem?_map] at hi
  cases e : ns[i]? with
  | none => rw [e] at hi; cases hi
  | some x =>
    rw [e] at hi
    cases hi
    have hx := List.mem_of_getElem? e
    refine r _ (fun _ _ => hw _) (fun Q qq => ht x q zs H' Q hx o' fun H2 s2 => ?_) fun y H2 hy s2 Q qq => ?_
    · have z := qq H2 s2
      have e2 : (selI p f (V.int x)).isSome = p x := by show (if p x then some (f x) else none).isSome = p x; cases p x <;> rfl
      rw [e2] at z
      exact z
    · have hy2 : (if p x then some (f x) else none) = some y := hy
      cases hp : p x with
      | false => rw [hp] at hy2; cases hy2
      | true =>
        rw [hp] at hy2
        cases hy2
        exact he x q zs H2 Q hx hp (o'.mono s2) qq
theorem lcTIF {a : Addr} {ns : List Int} {s : Nat} {vs : List Nat} (p : Int → Bool) (f : Int → V) (o : Own H0 H L) (h : ∀ H' p zs, Own H0 H' ((p, .lst zs) :: L) → SqT K H' a (ns.map V.int)) (h1 : SqT K H a (ns.map V.int)) (hz : ns.length < 10000000) (hw : ∀ x, wipe ((wipe σ vs).set s (some x)) vs = wipe σ vs)
    (ht : ∀ (x : Int) (q : Addr) (zs : List V) (H' : Hp) (Q : Bool → Hp → Prop), x ∈ ns → Own H0 H' ((q, .lst zs) :: L) → (∀ H2, Same H' H2 → Q (p x) H2) → tt ((wipe σ vs).set s (some (.int x))) H' Q)
    (he : ∀ (x : Int) (q : Addr) (zs : List V) (H' : Hp) (Q : VK), x ∈ ns → p x = true → Own H0 H' ((q, .lst zs) :: L) → RetV H' Q (f x) → te ((wipe σ vs).set s (some (.int x))) H' Q)
    (k : ∀ q H', Own H0 H' ((q, .lst ((ns.filter p).map f)) :: L) → Q (.ref q) H') :
    ∃ a', V.ref a = .ref a' ∧ (∃ xs, SqT K H a' xs) ∧ RLc (Itt K a') (gName s) tt te vs σ H Q := by
  refine lcGT (selI p f) o h h1 (by rw [List.length_map]; exact hz) (fun i v q zs H' R hi o' _ r => ?_) (fun q H' _ o' => k q H' (by rw [fm_ints] at o'; exact o'))
  rw [List.getElem?_map] at hi
  cases e : ns[i]? with
  | none => rw [e] at hi; cases hi
  | some x =>
    rw [e] at hi
    cases hi
    have hx := List.mem_of_getElem? e
    refine r _ (fun _ _ => hw _) (fun Q qq => ht x q zs H' Q hx o' fun H2 s2 => ?_) fun y H2 hy s2 Q qq => ?_
    · have z := qq H2 s2
      have e2 : (selI p f (V.int x)).isSome = p x := by show (if p x then some (f x) else none).isSome = p x; cases p x <;> rfl
      rw [e2] at z
      exact z
    · have hy2 : (if p x then some (f x) else none) = some y := hy
      cases hp : p x with
      | false => rw [hp] at hy2; cases hy2
      | true =>
        rw [hp] at hy2
        cases hy2
        exact he x q zs H2 Q hx hp (o'.mono s2) qq
/-- without a test -/
theorem lcTIV {a : Addr} {ns : List Int} {s : Nat} {vs : List Nat} (f : Int → V) (o : Own H0 H L) (h : ∀ H' p zs, Own H0 H' ((p, .lst zs) :: L) → SqT K H' a (ns.map V.int)) (h1 : SqT K H a (ns.map V.int)) (hz : ns.length < 10000000) (hw : ∀ x, wipe ((wipe σ vs).set s (some x)) vs = wipe σ vs)
    (he : ∀ (x : Int) (q : Addr) (zs : List V) (H' : Hp) (Q : VK), x ∈ ns → Own H0 H' ((q, .lst zs) :: L) → RetV H' Q (f x) → te ((wipe σ vs).set s (some (.int x))) H' Q)
    (k : ∀ q H', Own H0 H' ((q, .lst (ns.map f)) :: L) → Q (.ref q) H') :
    ∃ a', V.ref a = .ref a' ∧ (∃ xs, SqT K H a' xs) ∧ RLc (Itt K a') (gName s) tYes te vs σ H Q :=
  lcTIF (fun _ => true) f o h h1 hz hw (fun x q zs H' Q _ _ r => r H' (Same.refl _)) (fun x q zs H' Q hx _ o' r => he x q zs H' Q hx o' r) (fun q H' o' => k q H' (by rw [List.filter_eq_self.mpr (fun _ _ => rfl)] at o'; exact o'))
end

/-! ### constants reckoned, chains, all, any, bools -/
theorem pe_powC {X : Cx} {a b c : Int} {j1 j2 : Nat} {p1 p2 pos : Pos} (hc : CPow a b) (h : a ^ b.toNat = c) : PE X (.BinOp (.Constant (.int a) j1 p1) .Pow (.Constant (.int b) j2 p2) pos) (tC (.int c)) :=
  ⟨fun pins s σ H Q I h0 => (pe_op op_pow pe_int pe_int).run pins s σ H Q I (show rI CPow (fun i j => .int (i ^ j.toNat)) (.int a) (.int b) H Q from ⟨a, b, rfl, rfl, hc, by show Q (.int (a ^ b.toNat)) H; rw [h]; exact h0⟩)⟩
section
variable {σ : L2.St} {H : Hp} {Q : VK} {ta tb tc : TE} {K : PySem.W.Frag} {i j k : Int}
theorem r_chain {r r' : R2} (q : ta σ H fun x H1 => tb σ H1 fun y H2 => r x y H2 fun z H3 => RBl z H3 fun k H3 => RIf k (tc σ H3 fun w' H4 => r' y w' H4 Q) (Q (.bl false) H3)) : tChain r r' ta tb tc σ H Q := q
theorem r_all {a : Addr} {bs : List Bool} (h : SqL K H a (bs.map V.bl)) (q : Q (.bl (bs.all id)) H) : rAll K [.ref a] H Q := ⟨a, bs, rfl, h, q⟩
theorem r_any {a : Addr} {bs : List Bool} (h : SqL K H a (bs.map V.bl)) (q : Q (.bl (bs.any id)) H) : rAny K [.ref a] H Q := ⟨a, bs, rfl, h, q⟩
theorem r_isB {a b : Bool} (q : Q (.bl (decide (a = b))) H) : rIsB (.bl a) (.bl b) H Q := ⟨a, b, rfl, rfl, q⟩
end

/-! ### items from the end -/
theorem at_neg {ns : List Int} {d : Nat} (h0 : 0 < d) (h1 : d ≤ ns.length) : atI (ns.map V.int) (-(d : Int)) = some (.int (gi ns ((ns.length : Int) - (d : Int)))) := by
  unfold atI ixN
  rw [List.length_map, if_neg (by omega), if_pos (by omega)]
  show (ns.map V.int)[(-(d : Int) + (ns.length : Int)).toNat]? = _
  rw [show (-(d : Int) + (ns.length : Int)).toNat = ns.length - d by omega, List.getElem?_map, List.getElem?_eq_getElem (show ns.length - d < ns.length by omega)]
  unfold gi
  rw [show ((ns.length : Int) - (d : Int)).toNat = ns.length - d by omega, List.getD_eq_getElem?_getD, List.getElem?_eq_getElem (show ns.length - d < ns.length by omega)]
  rfl
theorem ix_neg {n d : Nat} (h0 : 0 < d) (h1 : d ≤ n) : ixN n (-(d : Int)) = some (n - d) := by
  unfold ixN
  rw [if_neg (by omega), if_pos (by omega)]
  congr 1
  omega
theorem fm_filter {α β : Type} (p : α → Bool) (f : α → β) : ∀ l : List α, l.filterMap (fun k => if p k then some (f k) else none) = (l.filter p).map f
  | [] => rfl
  | x :: l => by
    rw [List.filterMap_cons, List.filter_cons, fm_filter p f l]
    cases p x <;> rfl
/-! ### lists of ints cut and glued -/
theorem gi_nat {ns : List Int} {k : Nat} (h : k < ns.length) : gi ns (k : Int) = ns[k] := by
  unfold gi
  rw [List.getD_eq_getElem?_getD, show ((k : Int)).toNat = k from rfl, List.getElem?_eq_getElem h]
  rfl
theorem take_drop_sum {ns : List Int} {k : Nat} {z : Int} (h : k < ns.length) : (ns.take k ++ [z] ++ ns.drop (k + 1)).sum = ns.sum - gi ns k + z := by
  have e : ns.sum = (ns.take k ++ [ns[k]] ++ ns.drop (k + 1)).sum := by
    congr 1
    rw [List.append_assoc, List.singleton_append, List.getElem_cons_drop, List.take_append_drop]
  rw [e, gi_nat h]
  simp only [List.sum_append, List.sum_cons, List.sum_nil]
  omega
theorem map_cut3 {ns : List Int} {k : Nat} {z : Int} : ((ns.map V.int).take k ++ [V.int z]) ++ (ns.map V.int).drop (k + 1) = (ns.take k ++ [z] ++ ns.drop (k + 1)).map V.int := by
  rw [List.map_append, List.map_append, List.map_take, List.map_drop]
  rfl
theorem len_cut3 {ns : List Int} {k : Nat} {z : Int} (h : k < ns.length) : (ns.take k ++ [z] ++ ns.drop (k + 1)).length = ns.length := by
  rw [List.length_append, List.length_append, List.length_take, List.length_drop]
  simp
  omega

/-! ### a value or an answer known by a word only -/
def tCutE (t : TE) : TE := fun σ H Q => ∃ R : VK, t σ H R ∧ ∀ v H', R v H' → Q v H'
def tCutT (t : TT) : TT := fun σ H Q => ∃ R : Bool → Hp → Prop, t σ H R ∧ ∀ b H', R b H' → Q b H'
theorem pe_cutE {X : Cx} {e : Expr} {t : TE} (he : PE X e t) : PE X e (tCutE t) := ⟨fun pins s σ H Q I ⟨R, h, k⟩ => thn (he.run pins s σ H R I h) fun _ _ ⟨v, H', I', r, q⟩ => ⟨v, H', I', r, k v H' q⟩⟩
theorem pt_cutT {X : Cx} {e : Expr} {t : TT} (he : PT X e t) : PT X e (tCutT t) := ⟨fun pins s σ H Q I ⟨R, h, k⟩ => thn (he.run pins s σ H R I h) fun b _ ⟨H', I', q⟩ => ⟨H', I', k b H' q⟩⟩
theorem r_cutE {σ : L2.St} {H : Hp} {Q : VK} {t : TE} (R : VK) (h : t σ H R) (k : ∀ v H', R v H' → Q v H') : tCutE t σ H Q := ⟨R, h, k⟩
theorem r_cutT {σ : L2.St} {H : Hp} {Q : Bool → Hp → Prop} {t : TT} (R : Bool → Hp → Prop) (h : t σ H R) (k : ∀ b H', R b H' → Q b H') : tCutT t σ H Q := ⟨R, h, k⟩
/-- the value is an int of which P holds; the heap stands -/
def IntR (H : Hp) (P : Int → Prop) : VK := fun v H' => H' = H ∧ ∃ m, v = .int m ∧ P m
theorem r_cutI {σ : L2.St} {H : Hp} {Q : VK} {t : TE} (P : Int → Prop) (h : t σ H (IntR H P)) (k : ∀ m, P m → Q (.int m) H) : tCutE t σ H Q := ⟨_, h, fun v H' ⟨e, m, e2, p⟩ => by subst e; subst e2; exact k m p⟩
/-- the answer is that of p; the heap stands -/
theorem r_cutB {σ : L2.St} {H : Hp} {Q : Bool → Hp → Prop} {t : TT} (c : Bool) (h : t σ H fun b H' => b = c ∧ H' = H) (k : Q c H) : tCutT t σ H Q := ⟨_, h, fun v H' ⟨e, e2⟩ => by subst e; subst e2; exact k⟩
/-- the value is v; the heap may have grown -/
theorem r_cutO {H0 : Hp} {σ : L2.St} {H : Hp} {Q : VK} {t : TE} (v : V) (L : List (Addr × HO)) (h : t σ H fun v' H' => v' = v ∧ Own H0 H' L) (k : ∀ H', Own H0 H' L → Q v H') : tCutE t σ H Q := ⟨_, h, fun v' H' ⟨e, o⟩ => by subst e; exact k H' o⟩
theorem rif_p {p : Prop} [Decidable p] {A B : Prop} (h1 : p → A) (h2 : ¬ p → B) : RIf (decide p) A B := rif h1 h2

/-! ### data of tuples: it stands while lists change -/
mutual
inductive Tp (K : PySem.W.Frag) (H : Hp) : V → PyData → Prop
  | non : Tp K H .non .none
  | bl (b : Bool) : Tp K H (.bl b) (.bool b)
  | int (i : Int) : Tp K H (.int i) (.int i)
  | str (x : Str) : Tp K H (.str x) (.str x)
  | tup {a : Addr} {xs : List V} {ds : List PyData} : SqT K H a xs → TpAll K H xs ds → Tp K H (.ref a) (.tuple ds)
inductive TpAll (K : PySem.W.Frag) (H : Hp) : List V → List PyData → Prop
  | nil : TpAll K H [] []
  | cons {v : V} {vs : List V} {d : PyData} {ds : List PyData} : Tp K H v d → TpAll K H vs ds → TpAll K H (v :: vs) (d :: ds)
end
section
variable {K : PySem.W.Frag} {H H' H0 : Hp} {Q : VK} {L : List (Addr × HO)}
mutual
theorem Tp.stp (e : Stp H H') : ∀ (d : PyData) (v : V), Tp K H v d → Tp K H' v d
  | .none, _, h => by cases h; exact .non
  | .bool b, _, h => by cases h; exact .bl b
  | .int i, _, h => by cases h; exact .int i
  | .str x, _, h => by cases h; exact .str x
  | .tuple ds, _, h => by
    cases h with
    | tup hs ha => exact .tup (e.sq hs) (TpAll.stp e ds _ ha)
  | .list _, _, h => by cases h
  | .dict _, _, h => by cases h
theorem TpAll.stp (e : Stp H H') : ∀ (ds : List PyData) (vs : List V), TpAll K H vs ds → TpAll K H' vs ds
  | [], _, h => by cases h; exact .nil
  | d :: ds, _, h => by
    cases h with
    | cons h1 h2 => exact .cons (Tp.stp e d _ h1) (TpAll.stp e ds _ h2)
end
mutual
theorem Tp.dp : ∀ (d : PyData) (v : V), Tp K H v d → Dp K H v d
  | .none, _, h => by cases h; exact .non
  | .bool b, _, h => by cases h; exact .bl b
  | .int i, _, h => by cases h; exact .int i
  | .str x, _, h => by cases h; exact .str x
  | .tuple ds, _, h => by
    cases h with
    | tup hs ha => exact .tup hs (TpAll.dp ds _ ha)
  | .list _, _, h => by cases h
  | .dict _, _, h => by cases h
theorem TpAll.dp : ∀ (ds : List PyData) (vs : List V), TpAll K H vs ds → DpAll K H vs ds
  | [], _, h => by cases h; exact .nil
  | d :: ds, _, h => by
    cases h with
    | cons h1 h2 => exact .cons (Tp.dp d _ h1) (TpAll.dp ds _ h2)
end
theorem Tp.up {v : V} {d : PyData} (h : Tp K H v d) (e : Stp H H') : Tp K H' v d := Tp.stp e d v h
theorem TpAll.up {vs : List V} {ds : List PyData} (h : TpAll K H vs ds) (e : Stp H H') : TpAll K H' vs ds := TpAll.stp e ds vs h
theorem TpAll.len : ∀ {vs : List V} {ds : List PyData}, TpAll K H vs ds → vs.length = ds.length
  | _, _, .nil => rfl
  | _, _, .cons _ h => by rw [List.length_cons, List.length_cons, TpAll.len h]
theorem TpAll.get : ∀ {vs : List V} {ds : List PyData} {i : Nat} {d : PyData}, TpAll K H vs ds → ds[i]? = some d → ∃ v, vs[i]? = some v ∧ Tp K H v d
  | _, _, _, _, .nil, h => by simp at h
  | _, _, 0, _, .cons a _, h => by simp at h; subst h; exact ⟨_, rfl, a⟩
  | _, _, i + 1, _, .cons _ t, h => by
    obtain ⟨v, h1, h2⟩ := TpAll.get (i := i) t (by simpa using h)
    exact ⟨v, by simpa using h1, h2⟩
theorem TpAll.getV : ∀ {vs : List V} {ds : List PyData} {i : Nat} {v : V}, TpAll K H vs ds → vs[i]? = some v → ∃ d, ds[i]? = some d ∧ Tp K H v d
  | _, _, _, _, .nil, h => by simp at h
  | _, _, 0, _, .cons a _, h => by simp at h; subst h; exact ⟨_, rfl, a⟩
  | _, _, i + 1, _, .cons _ t, h => by
    obtain ⟨v, h1, h2⟩ := TpAll.getV (i := i) t (by simpa using h)
    exact ⟨v, by simpa using h1, h2⟩
theorem TpAll.app : ∀ {vs ws : List V} {ds es : List PyData}, TpAll K H vs ds → TpAll K H ws es → TpAll K H (vs ++ ws) (ds ++ es)
  | _, _, _, _, .nil, h => h
  | _, _, _, _, .cons a t, h => .cons a (TpAll.app t h)
theorem TpAll.snoc {vs : List V} {ds : List PyData} {v : V} {d : PyData} (h : TpAll K H vs ds) (t : Tp K H v d) : TpAll K H (vs ++ [v]) (ds ++ [d]) := h.app (.cons t .nil)
theorem TpAll.take : ∀ {vs : List V} {ds : List PyData} (n : Nat), TpAll K H vs ds → TpAll K H (vs.take n) (ds.take n)
  | _, _, _, .nil => by simp; exact .nil
  | _, _, 0, .cons _ _ => .nil
  | _, _, n + 1, .cons a t => .cons a (TpAll.take n t)
theorem TpAll.drop : ∀ {vs : List V} {ds : List PyData} (n : Nat), TpAll K H vs ds → TpAll K H (vs.drop n) (ds.drop n)
  | _, _, _, .nil => by simp; exact .nil
  | _, _, 0, .cons a t => .cons a t
  | _, _, n + 1, .cons _ t => TpAll.drop n t
theorem TpAll.ints : ∀ ns : List Int, TpAll K H (ns.map V.int) (ns.map PyData.int)
  | [] => .nil
  | n :: ns => .cons (.int n) (TpAll.ints ns)
theorem TpAll.ints_inv : ∀ {vs : List V} {ns : List Int}, TpAll K H vs (ns.map PyData.int) → vs = ns.map V.int
  | _, [], h => by cases h; rfl
  | _, n :: ns, h => by
    cases h with
    | cons a t => cases a; rw [TpAll.ints_inv t]; rfl
theorem Tp.inv {v : V} {ds : List PyData} (h : Tp K H v (.tuple ds)) : ∃ a xs, v = .ref a ∧ SqT K H a xs ∧ TpAll K H xs ds := by
  cases h with
  | tup hs ha => exact ⟨_, _, rfl, hs, ha⟩
theorem Tp.invI {v : V} {ns : List Int} (h : Tp K H v (.tuple (ns.map PyData.int))) : ∃ a, v = .ref a ∧ SqT K H a (ns.map V.int) := by
  obtain ⟨a, xs, rfl, hs, ha⟩ := h.inv
  rw [TpAll.ints_inv ha] at hs
  exact ⟨a, rfl, hs⟩
theorem Tp.intsT {a : Addr} {ns : List Int} (h : SqT K H a (ns.map V.int)) : Tp K H (.ref a) (.tuple (ns.map PyData.int)) := .tup h (TpAll.ints ns)
theorem Tp.int_inv {v : V} {n : Int} (h : Tp K H v (.int n)) : v = .int n := by cases h; rfl
theorem Tp.str_inv {v : V} {n : Str} (h : Tp K H v (.str n)) : v = .str n := by cases h; rfl
/-- t[i] of such a tuple -/
theorem r_ixTp {v : V} {ds : List PyData} {i : Nat} {d : PyData} (h : Tp K H v (.tuple ds)) (hd : ds[i]? = some d) (k : ∀ u, Tp K H u d → Q u H) : rIxT K v (.int (i : Int)) H Q := by
  obtain ⟨a, xs, rfl, hs, ha⟩ := h.inv
  obtain ⟨u, hu, t⟩ := ha.get hd
  exact r_ixT hs (atI_nat hu) (k u t)
theorem r_ixTpI {v : V} {ds : List PyData} {i : Nat} {n : Int} (h : Tp K H v (.tuple ds)) (hd : ds[i]? = some (.int n)) (q : Q (.int n) H) : rIxT K v (.int (i : Int)) H Q := r_ixTp h hd fun u t => by cases t; exact q
/-- a value of such data that a call hands back -/
def RetD (K : PySem.W.Frag) (H : Hp) (Q : VK) (d : PyData) : Prop := ∀ H' v, Same H H' → Tp K H' v d → Q v H'
theorem r_retD {v : PyData} (o : Own H0 H L) (k : ∀ u H', Same H H' → Own H0 H' L → Tp K H' u v → Q u H') : RetD K H Q v := fun H' u e t => k u H' e (o.mono e) t
theorem RetD.mk {v : V} {d : PyData} (q : RetD K H0 Q d) (o : Own H0 H L) (t : Tp K H v d) : Q v H := q H v o.ex t
/-! the rules that tell that tuples stand -/
theorem r_newLs {xs : List V} (o : Own H0 H L) (hz : xs.length ≤ 10000000) (k : ∀ p H', Stp H H' → Own H0 H' ((p, .lst xs) :: L) → Q (.ref p) H') : RNewL xs H Q := ⟨sz100 hz, fun p hp => k p _ (.of (same_new hp)) (o.new hp)⟩
theorem r_newTs {xs : List V} (o : Own H0 H L) (hz : xs.length ≤ 10000000) (k : ∀ p H', Stp H H' → Own H0 H' L → SqT K H' p xs → Q (.ref p) H') : RNewT xs H Q := ⟨sz100 hz, fun p hp => k p _ (.of (same_new hp)) (o.mono (same_new hp)) (SqT.of upd_same)⟩
theorem r_newTi {xs : List V} (ns : List Int) (e : xs = ns.map V.int) (o : Own H0 H L) (hz : ns.length ≤ 10000000) (k : ∀ p H', Stp H H' → Own H0 H' L → SqT K H' p (ns.map V.int) → Q (.ref p) H') : RNewT xs H Q := by
  subst e
  exact r_newTs o (by rw [List.length_map]; exact hz) k
theorem r_newTp {xs : List V} {ds : List PyData} (o : Own H0 H L) (ha : TpAll K H xs ds) (hz : xs.length ≤ 10000000) (k : ∀ p H', Stp H H' → Own H0 H' L → Tp K H' (.ref p) (.tuple ds) → Q (.ref p) H') : RNewT xs H Q :=
  r_newTs o hz fun p H' s o' h => k p H' s o' (.tup h (ha.up s))
theorem r_apps {l : Addr} {xs : List V} {y : V} (o : Own H0 H L) (n : Nat) (h : L[n]? = some (l, .lst xs)) (hz : xs.length < 10000000) (k : ∀ H', Stp H H' → Own H0 H' (L.set n (l, .lst (xs ++ [y]))) → Q .non H') : rAppend (.ref l) [y] H Q :=
  ⟨l, xs, y, rfl, rfl, o.at n h, sz_lt hz, k _ (Stp.set (o.at n h)) (o.set n h)⟩
theorem r_setLs {l : Addr} {xs : List V} {k : Nat} {i : Int} {v : V} {R : Hp → Prop} (o : Own H0 H L) (n : Nat) (h : L[n]? = some (l, .lst xs)) (hj : ixN xs.length i = some k) (q : ∀ H', Stp H H' → Own H0 H' (L.set n (l, .lst (xs.set k v))) → R H') : rSetL (.ref l) (.int i) v H R :=
  ⟨l, xs, i, k, rfl, rfl, o.at n h, hj, q _ (Stp.set (o.at n h)) (o.set n h)⟩
theorem r_tupLs {p : Addr} {xs : List V} (o : Own H0 H L) (h : SqL K H p xs) (k : ∀ l H', Stp H H' → Own H0 H' L → SqT K H' l xs → Q (.ref l) H') : rTupS K [.ref p] H Q :=
  ⟨p, xs, rfl, .inl ⟨h, fun l hl => k l _ (.of (same_new hl)) (o.mono (same_new hl)) (SqT.of upd_same)⟩⟩
theorem r_ret1s {u : HO} (o : Own H0 H L) (k : ∀ p H', Stp H H' → Own H0 H' ((p, u) :: L) → Q (.ref p) H') : RetO H Q u := fun H' p e f h => k p H' (.of e) (o.add e f h)
theorem r_slLs {a : Addr} {xs : List V} {lo hi : Option Int} (o : Own H0 H L) (h : SqL K H a xs) (k : ∀ p H', Stp H H' → Own H0 H' ((p, .lst (cutV xs lo hi)) :: L) → Q (.ref p) H') : rSlL K (.ref a) lo hi H Q := ⟨a, xs, rfl, h, fun p hp => k p _ (.of (same_new hp)) (o.new hp)⟩
theorem r_cats {a b : Addr} {xs ys : List V} (o : Own H0 H L) (ha : H a = some (.lst xs)) (hb : H b = some (.lst ys)) (hz : xs.length + ys.length ≤ 10000000) (k : ∀ p H', Stp H H' → Own H0 H' ((p, .lst (xs ++ ys)) :: L) → Q (.ref p) H') : rCat (.ref a) (.ref b) H Q :=
  ⟨a, b, xs, ys, rfl, rfl, ha, hb, sz100 hz, fun p hp => k p _ (.of (same_new hp)) (o.new hp)⟩
theorem r_lists {p : Addr} {xs : List V} (o : Own H0 H L) (h : SqL K H p xs) (k : ∀ l H', Stp H H' → Own H0 H' ((l, .lst xs) :: L) → Q (.ref l) H') : Evl.rListS K [.ref p] H Q := ⟨p, xs, rfl, .inl h, fun l hl => k l _ (.of (same_new hl)) (o.new hl)⟩
theorem r_listTs {p : Addr} {xs : List V} (o : Own H0 H L) (h : SqT K H p xs) (k : ∀ l H', Stp H H' → Own H0 H' ((l, .lst xs) :: L) → Q (.ref l) H') : Evl.rListS K [.ref p] H Q := ⟨p, xs, rfl, .inr h, fun l hl => k l _ (.of (same_new hl)) (o.new hl)⟩
theorem r_eqTp {v u : V} {d e : PyData} (h : Tp K H v d) (h2 : Tp K H u e) (s1 : SeqAt.shaped d = true) (s2 : SeqAt.shaped e = true) (q : Q (.bl (PyData.eqv d e)) H) : rEqD K v u H Q := ⟨d, e, h.dp, h2.dp, s1, s2, q⟩
end

theorem ty_sqT {K : PySem.W.Frag} {H : Hp} {a : Addr} {xs : List V} (h : SqT K H a xs) : TyX K H (.ref a) (.type "tuple") := by
  rcases h with (h | ⟨o, h⟩) | ⟨o, its, n, h1, h2, _⟩
  · exact .base (.tup h)
  · exact .fTuple h
  · exact .kTuple h1 h2
theorem ty_sqL {K : PySem.W.Frag} {H : Hp} {a : Addr} {xs : List V} (h : SqL K H a xs) : TyX K H (.ref a) (.type "list") := by
  rcases h with (h | ⟨o, h⟩) | ⟨o, its, n, h1, h2, _⟩
  · exact .base (.lst h)
  · exact .base (.frz h)
  · exact .kList h1 h2
/-! ### zip -/
section
variable {σ : L2.St} {H : Hp} {K : PySem.W.Frag} {tr : TA} {D : Ends} {ts : TS} {g : TG}
def RZipA (K : PySem.W.Frag) (vs : List V) (H1 : Hp) (R : It → Hp → Prop) : Prop := ∃ a b xs ys, vs = [.ref a, .ref b] ∧ ((SqL K H1 a xs ∧ SqL K H1 b ys ∧ R (Itz K a b) H1) ∨ (SqT K H1 a xs ∧ SqT K H1 b ys ∧ R (RZ.ItzT K a b) H1))
theorem r_zipA {R : It → Hp → Prop} (q : tr σ H fun vs H1 => RZipA K vs H1 R) : RZ.iZipA K tr σ H R := q
theorem forZT {a b : Addr} {xs ys : List V} (ha : SqT K H a xs) (hb : SqT K H b ys) (hl : xs.length = ys.length) (Pv : Nat → L2.St → Hp → Prop) (h0 : Pv 0 σ H) (hq : ∀ i σ H, Pv i σ H → SqT K H a xs ∧ SqT K H b ys)
    (hs : ∀ (i : Nat) (x y : V) (T : Addr) (σ : L2.St) (H : Hp), xs[i]? = some x → ys[i]? = some y → Pv i σ H → H T = none → g (.ref T) σ (upd H T (.tup [x, y])) fun σ2 H2 => ts { D with nx := Pv (i + 1), ct := Pv (i + 1), bk := D.nx } σ2 H2) (hd : ∀ σ H, Pv xs.length σ H → D.nx σ H) :
    RZipA K [.ref a, .ref b] H fun J H1 => RFor J g ts D σ H1 := ⟨a, b, xs, ys, rfl, .inr ⟨ha, hb, RZ.for_zipT hl Pv h0 hq hs hd⟩⟩
theorem forZL {a b : Addr} {xs ys : List V} (ha : SqL K H a xs) (hb : SqL K H b ys) (hl : xs.length = ys.length) (Pv : Nat → L2.St → Hp → Prop) (h0 : Pv 0 σ H) (hq : ∀ i σ H, Pv i σ H → SqL K H a xs ∧ SqL K H b ys)
    (hs : ∀ (i : Nat) (x y : V) (T : Addr) (σ : L2.St) (H : Hp), xs[i]? = some x → ys[i]? = some y → Pv i σ H → H T = none → g (.ref T) σ (upd H T (.tup [x, y])) fun σ2 H2 => ts { D with nx := Pv (i + 1), ct := Pv (i + 1), bk := D.nx } σ2 H2) (hd : ∀ σ H, Pv xs.length σ H → D.nx σ H) :
    RZipA K [.ref a, .ref b] H fun J H1 => RFor J g ts D σ H1 := ⟨a, b, xs, ys, rfl, .inl ⟨ha, hb, RZ.for_zipL hl Pv h0 hq hs hd⟩⟩
/-- x, y = t: the target of a walk over pairs -/
theorem r_gTup2 {a : Addr} {x y : V} {i j : Nat} {R : L2.St → Hp → Prop} (h : SqT K H a [x, y]) (q : R ((σ.set i (some x)).set j (some y)) H) : gTup K 2 (gCons (gName i) (gCons (gName j) gNil)) (.ref a) σ H R :=
  ⟨a, [x, y], rfl, h, rfl, x, [y], rfl, y, [], rfl, rfl, q⟩
theorem r_gTup3 {a : Addr} {x y z : V} {i j k : Nat} {R : L2.St → Hp → Prop} (h : SqT K H a [x, y, z]) (q : R (((σ.set i (some x)).set j (some y)).set k (some z)) H) : gTup K 3 (gCons (gName i) (gCons (gName j) (gCons (gName k) gNil))) (.ref a) σ H R :=
  ⟨a, [x, y, z], rfl, h, rfl, x, [y, z], rfl, y, [z], rfl, z, [], rfl, rfl, q⟩
def rMax2 : List V → Hp → VK → Prop := fun xs H Q => ∃ i j, xs = [.int i, .int j] ∧ Q (.int (if j > i then j else i)) H
def rMin2 : List V → Hp → VK → Prop := fun xs H Q => ∃ i j, xs = [.int i, .int j] ∧ Q (.int (if j < i then j else i)) H
theorem r_max2 {i j : Int} {Q : VK} (q : Q (.int (if j > i then j else i)) H) : rMax2 [.int i, .int j] H Q := ⟨i, j, rfl, q⟩
theorem r_min2 {i j : Int} {Q : VK} (q : Q (.int (if j < i then j else i)) H) : rMin2 [.int i, .int j] H Q := ⟨i, j, rfl, q⟩
def rIsNon : R2 := fun x y H Q => y = .non ∧ Q (.bl (decide (x = .non))) H
def rNotNon : R2 := fun x y H Q => y = .non ∧ Q (.bl (!decide (x = .non))) H
theorem r_isNonN {Q : VK} (q : Q (.bl true) H) : rIsNon .non .non H Q := ⟨rfl, by rw [decide_eq_true rfl]; exact q⟩
theorem r_isNonR {a : Addr} {Q : VK} (q : Q (.bl false) H) : rIsNon (.ref a) .non H Q := ⟨rfl, by rw [decide_eq_false (by simp)]; exact q⟩
theorem r_isNonI {a : Int} {Q : VK} (q : Q (.bl false) H) : rIsNon (.int a) .non H Q := ⟨rfl, by rw [decide_eq_false (by simp)]; exact q⟩
theorem r_notNonN {Q : VK} (q : Q (.bl false) H) : rNotNon .non .non H Q := ⟨rfl, by rw [decide_eq_true rfl]; exact q⟩
theorem r_notNonR {a : Addr} {Q : VK} (q : Q (.bl true) H) : rNotNon (.ref a) .non H Q := ⟨rfl, by rw [decide_eq_false (by simp)]; exact q⟩
theorem r_notNonI {a : Int} {Q : VK} (q : Q (.bl true) H) : rNotNon (.int a) .non H Q := ⟨rfl, by rw [decide_eq_false (by simp)]; exact q⟩
end

/-! ### texts -/
def rAddStr : R2 := fun x y H Q => ∃ i j, x = .str i ∧ y = .str j ∧ i.length + j.length ≤ sizeLine ∧ Q (.str (i ++ j)) H
def rIntS : List V → Hp → VK → Prop := fun xs H Q => ∃ a n, xs = [.str a] ∧ PySem.intText? a = some n ∧ a.length ≤ 640 ∧ Q (.int n) H
def rLenStr : List V → Hp → VK → Prop := fun xs H Q => ∃ z, xs = [.str z] ∧ z.length ≤ sizeLine ∧ Q (.int z.length) H
section
variable {σ : L2.St} {H H0 : Hp} {Q : VK} {K : PySem.W.Frag} {L : List (Addr × HO)} {te : TE} {tt : TT}
theorem r_addS {a b : Str} (hz : a.length + b.length ≤ 10000000) (q : Q (.str (a ++ b)) H) : rAddStr (.str a) (.str b) H Q := ⟨a, b, rfl, rfl, sz100 hz, q⟩
theorem r_lenS {a : Str} (hz : a.length ≤ 10000000) (q : Q (.int a.length) H) : rLenStr [.str a] H Q := ⟨a, rfl, sz100 hz, q⟩
theorem r_slS {a : Str} {lo hi : Option Int} (hz : a.length ≤ 10000000) (q : Q (.str (cutS a lo hi)) H) : rSlS (.str a) lo hi H Q := ⟨a, rfl, sz100 hz, q⟩
theorem cutS_len (a : Str) (lo hi : Option Int) : (cutS a lo hi).length ≤ a.length := by
  unfold cutS
  show (List.toArray _).size ≤ a.cps.size
  rw [List.size_toArray, List.length_take, List.length_drop, Array.length_toList]
  omega
theorem addS_len (a b : Str) : (a ++ b).length = a.length + b.length := by
  show (a.cps ++ b.cps).size = a.cps.size + b.cps.size
  exact Array.size_append
theorem r_in {neg : Bool} {x : V} {p : Addr} {xs : List V} (h : SqL K H p xs ∨ SqT K H p xs) (hx : flatV x = true) (ha : xs.all flatV = true) (q : Q (.bl (if neg then !inV x xs else inV x xs)) H) : rIn K neg x (.ref p) H Q := ⟨p, xs, rfl, h, hx, ha, q⟩
theorem r_inY {x : V} {p : Addr} {xs : List V} (h : SqL K H p xs ∨ SqT K H p xs) (hx : flatV x = true) (ha : xs.all flatV = true) (q : Q (.bl (inV x xs)) H) : rIn K false x (.ref p) H Q := r_in h hx ha q
theorem r_inN {x : V} {p : Addr} {xs : List V} (h : SqL K H p xs ∨ SqT K H p xs) (hx : flatV x = true) (ha : xs.all flatV = true) (q : Q (.bl (!inV x xs)) H) : rIn K true x (.ref p) H Q := r_in h hx ha q
theorem r_ixS {p : Addr} {zs : List Str} {i : Int} (h : SqL K H p (zs.map V.str)) (h0 : 0 ≤ i) (h1 : i < zs.length) (q : ∀ z, z ∈ zs → zs[i.toNat]? = some z → Q (.str z) H) : rIxL K (.ref p) (.int i) H Q := by
  have h2 : i.toNat < zs.length := by omega
  have e := List.getElem?_eq_getElem h2
  exact r_ixL h (at_map h0 e) (q _ (List.getElem_mem h2) e)
theorem flat_strs (zs : List Str) : (zs.map V.str).all flatV = true := by
  rw [List.all_map, List.all_eq_true]
  intro _ _
  rfl
/-- [e for x in t], over a tuple, by the item -/
theorem lcTV {a : Addr} {xs : List V} {s : Nat} {vs : List Nat} (f : V → V) (o : Own H0 H L) (h : ∀ H' p zs, Own H0 H' ((p, .lst zs) :: L) → SqT K H' a xs) (h1 : SqT K H a xs) (hz : xs.length < 10000000) (hw : ∀ x, wipe ((wipe σ vs).set s (some x)) vs = wipe σ vs)
    (he : ∀ (i : Nat) (x : V) (q : Addr) (zs : List V) (H' : Hp) (Q : VK), xs[i]? = some x → Own H0 H' ((q, .lst zs) :: L) → Stp H H' → RetV H' Q (f x) → te ((wipe σ vs).set s (some x)) H' Q)
    (k : ∀ q H', Stp H H' → Own H0 H' ((q, .lst (xs.map f)) :: L) → Q (.ref q) H') :
    ∃ a', V.ref a = .ref a' ∧ (∃ xs, SqT K H a' xs) ∧ RLc (Itt K a') (gName s) tYes te vs σ H Q :=
  lcGT (fun v => some (f v)) o h h1 hz (fun i x p zs H' R hi o' s' r => r _ (fun _ _ => hw _) (fun Q q => q H' (Same.refl _)) fun y H2 hy s2 Q q => by
    cases hy
    exact he i x p zs H2 Q hi (o'.mono s2) (s'.trans (.of s2)) q) (fun q H' s' o' => k q H' s' (by rw [show (fun v => some (f v)) = some ∘ f from rfl, List.filterMap_eq_map] at o'; exact o'))
theorem lcLV {a : Addr} {xs : List V} {s : Nat} {vs : List Nat} (f : V → V) (o : Own H0 H L) (h : ∀ H' p zs, Own H0 H' ((p, .lst zs) :: L) → SqL K H' a xs) (h1 : SqL K H a xs) (hz : xs.length < 10000000) (hw : ∀ x, wipe ((wipe σ vs).set s (some x)) vs = wipe σ vs)
    (he : ∀ (i : Nat) (x : V) (q : Addr) (zs : List V) (H' : Hp) (Q : VK), xs[i]? = some x → Own H0 H' ((q, .lst zs) :: L) → Stp H H' → RetV H' Q (f x) → te ((wipe σ vs).set s (some x)) H' Q)
    (k : ∀ q H', Stp H H' → Own H0 H' ((q, .lst (xs.map f)) :: L) → Q (.ref q) H') :
    ∃ a', V.ref a = .ref a' ∧ (∃ xs, SqL K H a' xs) ∧ RLc (Itl K a') (gName s) tYes te vs σ H Q :=
  lcGL (fun v => some (f v)) o h h1 hz (fun i x p zs H' R hi o' s' r => r _ (fun _ _ => hw _) (fun Q q => q H' (Same.refl _)) fun y H2 hy s2 Q q => by
    cases hy
    exact he i x p zs H2 Q hi (o'.mono s2) (s'.trans (.of s2)) q) (fun q H' s' o' => k q H' s' (by rw [show (fun v => some (f v)) = some ∘ f from rfl, List.filterMap_eq_map] at o'; exact o'))
/-- .. with a test, over a list -/
theorem lcLVF {a : Addr} {xs : List V} {s : Nat} {vs : List Nat} (sel : V → Option V) (o : Own H0 H L) (h : ∀ H' p zs, Own H0 H' ((p, .lst zs) :: L) → SqL K H' a xs) (h1 : SqL K H a xs) (hz : xs.length < 10000000) (hw : ∀ x, wipe ((wipe σ vs).set s (some x)) vs = wipe σ vs)
    (ht : ∀ (i : Nat) (x : V) (q : Addr) (zs : List V) (H' : Hp) (Q : Bool → Hp → Prop), xs[i]? = some x → Own H0 H' ((q, .lst zs) :: L) → Stp H H' → (∀ H2, Same H' H2 → Q (sel x).isSome H2) → tt ((wipe σ vs).set s (some x)) H' Q)
    (he : ∀ (i : Nat) (x y : V) (q : Addr) (zs : List V) (H' : Hp) (Q : VK), xs[i]? = some x → sel x = some y → Own H0 H' ((q, .lst zs) :: L) → Stp H H' → RetV H' Q y → te ((wipe σ vs).set s (some x)) H' Q)
    (k : ∀ q H', Stp H H' → Own H0 H' ((q, .lst (xs.filterMap sel)) :: L) → Q (.ref q) H') :
    ∃ a', V.ref a = .ref a' ∧ (∃ xs, SqL K H a' xs) ∧ RLc (Itl K a') (gName s) tt te vs σ H Q :=
  lcGL sel o h h1 hz (fun i x p zs H' R hi o' s' r => r _ (fun _ _ => hw _) (fun Q q => ht i x p zs H' Q hi o' s' q) fun y H2 hy s2 Q q => he i x y p zs H2 Q hi hy (o'.mono s2) (s'.trans (.of s2)) q) k
end
/-- a written tuple of the module -/
theorem sqT_top {K : PySem.W.Frag} {p : Addr} {od : Option Addr} {its : Array Value} {n : Nat} {sl : Array (Option Value)} {xs : List V} (l : K.lookup p = some ⟨.type "tuple", od, .seq its n, sl⟩) (hz : its.size ≤ sizeLine) (hv : Vals xs its.toList) : ∀ H : Hp, SqT K H p xs :=
  fun _ => .inr ⟨_, its, n, l, rfl, rfl, hz, hv⟩

/-! ### [e for p in range(n) for q in range(lo, hi, c)] -/
def RLc2 (J : It) (g : TG) (tt : TT) (wi1 : TI) (g1 : TG) (tt1 : TT) (te : TE) (vs vs1 : List Nat) (σ : L2.St) (H1 : Hp) (Q : VK) : Prop := ∀ D, H1 D = none → ∃ W : Nat → Nat → Hp → Prop, (∃ m, W 0 m (upd H1 D (.lst []))) ∧ ∀ i m H, W i m H →
  (J.stop i H ∧ Q (.ref D) H) ∨ (J.go i H ∧ ∃ Nx : Hp → Prop, (∀ H', Nx H' → ∃ m', m' < m ∧ W (i + 1) m' H') ∧ ∀ x H', J.yld i H x H' → g x (wipe σ vs) H' fun σ2 H2 => wipe σ2 vs = wipe σ vs ∧ tt σ2 H2 fun b H3 =>
    if b = true then wi1 σ2 H3 fun J1 H4 => ∃ W1 : Nat → Nat → Hp → Prop, (∃ m, W1 0 m H4) ∧ ∀ j k H, W1 j k H →
      (J1.stop j H ∧ Nx H) ∨ (J1.go j H ∧ ∃ Nx1 : Hp → Prop, (∀ H', Nx1 H' → ∃ k', k' < k ∧ W1 (j + 1) k' H') ∧ ∀ x H', J1.yld j H x H' → g1 x (wipe σ2 vs1) H' fun σ3 H5 => wipe σ3 vs1 = wipe σ2 vs1 ∧ tt1 σ3 H5 fun b H6 =>
        if b = true then te σ3 H6 fun y H7 => ∃ acc, H7 D = some (.lst acc) ∧ acc.length < sizeLine ∧ Nx1 (upd H7 D (.lst (acc ++ [y]))) else Nx1 H6)
    else Nx H3)
theorem r_lc2 {σ : L2.St} {H : Hp} {Q : VK} {wi wi1 : TI} {g g1 : TG} {tt tt1 : TT} {te : TE} {vs vs1 : List Nat} (q : wi σ H fun J H1 => RLc2 J g tt wi1 g1 tt1 te vs vs1 σ H1 Q) : tLc2 wi g tt wi1 g1 tt1 te vs vs1 σ H Q := q
theorem lc2R3 {σ : L2.St} {H H0 : Hp} {Q : VK} {L : List (Addr × HO)} {te : TE} {wi1 : TI} {j c : Int} {n s s1 : Nat} {vs vs1 : List Nat} (lo : Nat → Int) (m : Nat → Nat) (o : Own H0 H L) (hn : j = (n : Int)) (hz : n ≤ 10000000)
    (hzz : ((List.range n).flatMap fun p => (List.range (m p)).map fun (k : Nat) => V.int (lo p + (k : Int) * c)).length < 10000000)
    (hw : ∀ x, wipe ((wipe σ vs).set s (some x)) vs = wipe σ vs) (hw1 : ∀ x y, wipe ((wipe ((wipe σ vs).set s (some x)) vs1).set s1 (some y)) vs1 = wipe ((wipe σ vs).set s (some x)) vs1)
    (hin : ∀ (p : Nat) (H' : Hp) (R : It → Hp → Prop), p < n → R (Itc (lo p) c (m p)) H' → wi1 ((wipe σ vs).set s (some (.int (p : Int)))) H' R)
    (he : ∀ (x : V) (z : Int) (H' : Hp) (Q : VK), Q (.int z) H' → te ((wipe ((wipe σ vs).set s (some x)) vs1).set s1 (some (.int z))) H' Q)
    (k : ∀ p H', Own H0 H' ((p, .lst ((List.range n).flatMap fun p => (List.range (m p)).map fun (k : Nat) => V.int (lo p + (k : Int) * c))) :: L) → Q (.ref p) H') :
    ∃ k : Int, [V.int j] = [.int k] ∧ -(2 ^ 62) ≤ k ∧ k < 2 ^ 62 ∧ RLc2 (Itr 0 k.toNat) (gName s) tYes wi1 (gName s1) tYes te vs vs1 σ H Q := by
  have hout : ∀ i, i ≤ n → ((List.range i).flatMap fun p => (List.range (m p)).map fun (k : Nat) => V.int (lo p + (k : Int) * c)).length ≤ ((List.range n).flatMap fun p => (List.range (m p)).map fun (k : Nat) => V.int (lo p + (k : Int) * c)).length := fun i hi => by
    have e : List.range n = List.range i ++ (List.range (n - i)).map (i + ·) := by
      rw [← List.range_add]
      congr 1
      omega
    rw [e, List.flatMap_append, List.length_append]
    omega
  refine ⟨j, rfl, by omega, by omega, fun D hD => ?_⟩
  have e : j.toNat = n := by omega
  rw [e]
  refine ⟨fun i mm H' => mm = n - i ∧ i ≤ n ∧ Own H0 H' ((D, .lst ((List.range i).flatMap fun p => (List.range (m p)).map fun (k : Nat) => V.int (lo p + (k : Int) * c))) :: L), ⟨n, rfl, Nat.zero_le _, o.new hD⟩, ?_⟩
  rintro i mm H' ⟨rfl, hi, o'⟩
  by_cases hlt : i < n
  · refine .inr ⟨hlt, fun H2 => Own H0 H2 ((D, .lst ((List.range (i + 1)).flatMap fun p => (List.range (m p)).map fun (k : Nat) => V.int (lo p + (k : Int) * c))) :: L), fun H2 p2 => ⟨n - (i + 1), by omega, rfl, hlt, p2⟩, ?_⟩
    rintro x H2 ⟨rfl, rfl⟩
    have e0 : (0 : Int) + (i : Int) = (i : Int) := Int.zero_add _
    rw [e0]
    refine ⟨hw _, ?_⟩
    refine iteT (B := Own H0 H2 ((D, .lst ((List.range (i + 1)).flatMap fun p => (List.range (m p)).map fun (k : Nat) => V.int (lo p + (k : Int) * c))) :: L)) (hin i H2 _ hlt ?_)
    have hs : (List.range (i + 1)).flatMap (fun p => (List.range (m p)).map fun (k : Nat) => V.int (lo p + (k : Int) * c)) = (List.range i).flatMap (fun p => (List.range (m p)).map fun (k : Nat) => V.int (lo p + (k : Int) * c)) ++ (List.range (m i)).map fun (k : Nat) => V.int (lo i + (k : Int) * c) := by
      rw [List.range_succ, List.flatMap_append]
      simp
    rw [hs]
    have hl2 := hout (i + 1) hlt
    rw [hs, List.length_append, List.length_map, List.length_range] at hl2
    refine ⟨fun j2 k2 H3 => k2 = m i - j2 ∧ j2 ≤ m i ∧ Own H0 H3 ((D, .lst ((List.range i).flatMap (fun p => (List.range (m p)).map fun (k : Nat) => V.int (lo p + (k : Int) * c)) ++ (List.range j2).map fun (k : Nat) => V.int (lo i + (k : Int) * c))) :: L), ⟨m i, rfl, Nat.zero_le _, by rw [show ((List.range 0).map fun (k : Nat) => V.int (lo i + ((k : Nat) : Int) * c)) = [] from rfl, List.append_nil]; exact o'⟩, ?_⟩
    rintro j2 k2 H3 ⟨rfl, hj, o3⟩
    by_cases hlt2 : j2 < m i
    · refine .inr ⟨hlt2, fun H4 => Own H0 H4 ((D, .lst ((List.range i).flatMap (fun p => (List.range (m p)).map fun (k : Nat) => V.int (lo p + (k : Int) * c)) ++ (List.range (j2 + 1)).map fun (k : Nat) => V.int (lo i + (k : Int) * c))) :: L), fun H4 p4 => ⟨m i - (j2 + 1), by omega, rfl, hlt2, p4⟩, ?_⟩
      rintro x H4 ⟨rfl, rfl⟩
      refine ⟨hw1 _ _, ?_⟩
      refine iteT (B := Own H0 H4 ((D, .lst ((List.range i).flatMap (fun p => (List.range (m p)).map fun (k : Nat) => V.int (lo p + (k : Int) * c)) ++ (List.range (j2 + 1)).map fun (k : Nat) => V.int (lo i + (k : Int) * c))) :: L)) (he _ _ H4 _ ⟨_, o3.at 0 rfl, sz_lt ?_, ?_⟩)
      · rw [List.length_append, List.length_map, List.length_range]
        omega
      · have o5 := o3.set (v := .lst (((List.range i).flatMap (fun p => (List.range (m p)).map fun (k : Nat) => V.int (lo p + (k : Int) * c)) ++ (List.range j2).map fun (k : Nat) => V.int (lo i + (k : Int) * c)) ++ [V.int (lo i + (j2 : Int) * c)])) 0 rfl
        rw [List.range_succ, List.map_append, ← List.append_assoc]
        exact o5
    · refine .inl ⟨show m i ≤ j2 by omega, ?_⟩
      have ej : j2 = m i := by omega
      rw [ej] at o3
      exact o3
  · refine .inl ⟨show n ≤ i by omega, ?_⟩
    have ei : i = n := by omega
    rw [ei] at o'
    exact k D _ o'

theorem fm_some {α β : Type} (f : α → Option β) (g : α → β) : ∀ (l : List α), (∀ k ∈ l, f k = some (g k)) → l.filterMap f = l.map g
  | [], _ => rfl
  | x :: l, h => by
    rw [List.filterMap_cons, h x List.mem_cons_self, List.map_cons, fm_some f g l fun k hk => h k (List.mem_cons_of_mem _ hk)]
/-! ### xs[lo:hi:c] -/
def stpV (xs : List V) (lo hi : Option Int) (c : Int) : List V := (sliceRange (sliceBounds lo hi (some c) xs.length).1 (sliceBounds lo hi (some c) xs.length).2.1 (sliceBounds lo hi (some c) xs.length).2.2).filterMap (xs[·]?)
theorem vals_pick {xs : List V} {us : List Value} (r : Vals xs us) : ∀ is : List Nat, Vals (is.filterMap (xs[·]?)) (is.filterMap (us[·]?))
  | [] => .nil
  | i :: is => by
    rw [List.filterMap_cons, List.filterMap_cons]
    cases h : xs[i]? with
    | none =>
      rw [r.none_of h]
      exact vals_pick r is
    | some x =>
      obtain ⟨u, hu, ru⟩ := r.get h
      rw [hu]
      exact .cons ru (vals_pick r is)
def tSl3 (K : PySem.W.Frag) (te : TE) (tl th ts : TO) : TE := fun σ H Q => te σ H fun x H1 => tl σ H1 fun l H2 => th σ H2 fun u H3 => ts σ H3 fun c H4 => ∃ a xs i, x = .ref a ∧ c = some i ∧ i ≠ 0 ∧ SqL K H4 a xs ∧ (stpV xs l u i).length ≤ sizeLine ∧ ∀ p, H4 p = none → Q (.ref p) (upd H4 p (.lst (stpV xs l u i)))
theorem pe_sl3 {X : Cx} {e : Expr} {lo hi : Option Expr} {st : Expr} {te : TE} {tl th ts : TO} {p2 pos : Pos} (he : PE X e te) (hl : PO X lo tl) (hu : PO X hi th) (hst : PO X (some st) ts) : PE X (.Subscript e (.Slice lo hi (some st) p2) pos) (tSl3 X.K te tl th ts) := by
  refine ⟨fun pins s σ H Q I h => ?_⟩
  refine Subscript_ (thn (he.run pins s σ H _ I h) fun v s1 ⟨x, H1, I1, r1, q1⟩ => ?_)
  refine wpAny_Slice (thn (hl.run pins s1 σ H1 _ I1 q1) fun vl s2 ⟨l, H2, I2, pl, q2⟩ => ?_)
  refine thn (hu.run pins s2 σ H2 _ I2 q2) fun vu s3 ⟨u, H3, I3, pu, q3⟩ => ?_
  refine thn (hst.run pins s3 σ H3 _ I3 q3) fun vs s4 ⟨c, H4, I4, ps, q4⟩ => ?_
  obtain ⟨a, xs, i, ex, ec, h0, hx, hzz, q⟩ := q4
  subst ex
  subst ec
  cases r1
  have I5 : Inv X pins σ H4 { s4 with heap := s4.heap.push { cls := .type "slice", data := .fields #[vl, vu, vs] } } := I4.kept (t' := s4.toks) fun b ob q => Heap.get?_push_of_some _ q
  obtain ⟨its, r, ht, hz⟩ := I5.list hx
  have hlen := r.length
  show wpAny (model X.prog X.w) X.A (subscriptTail e (.Slice lo hi (some st) p2) (.ref a) (.ref s4.heap.objs.size)) (EP X pins σ Q) X.xe { s4 with heap := s4.heap.push { cls := .type "slice", data := .fields #[vl, vu, vs] } }
  refine tail_any (ops := [.ref a, .ref s4.heap.objs.size]) ht.isList.typeIs (PySem.slot_list_getitem.lookup) ?_ (by with_unfolding_all rfl)
  refine wpAny_getItem_list_slice ht.isList (Heap.IsSliceOf.new _ vl vu vs) pl pu ps (fun z => h0 (Option.some.inj z)) ?_ (by rw [List.size_toArray]; omega)
  have ep : slicePick its.toArray l u (some i) = ((sliceRange (sliceBounds l u (some i) xs.length).1 (sliceBounds l u (some i) xs.length).2.1 (sliceBounds l u (some i) xs.length).2.2).filterMap (its[·]?)).toArray := by
    unfold slicePick
    rw [List.size_toArray, ← hlen]
    simp only [List.getElem?_toArray]
  rw [ep]
  refine ⟨.ref _, _, I5.laid (t' := s4.toks) (o := .lst (stpV xs l u i)) (fun b ob q => Heap.get?_push_of_some _ q) (Nat.le_refl _) ?_, rfl, q _ (I5.hok.fresh (Nat.le_refl _))⟩
  exact ⟨hzz, _, 0, vals_pick r _, Heap.get?_push_size _ rfl⟩
def RSl3 (K : PySem.W.Frag) (x : V) (l u c : Option Int) (H : Hp) (Q : VK) : Prop := ∃ a xs i, x = .ref a ∧ c = some i ∧ i ≠ 0 ∧ SqL K H a xs ∧ (stpV xs l u i).length ≤ sizeLine ∧ ∀ p, H p = none → Q (.ref p) (upd H p (.lst (stpV xs l u i)))
theorem r_sl3 {K : PySem.W.Frag} {σ : L2.St} {H : Hp} {Q : VK} {te : TE} {tl th ts : TO} (q : te σ H fun x H1 => tl σ H1 fun l H2 => th σ H2 fun u H3 => ts σ H3 fun c H4 => RSl3 K x l u c H4 Q) : tSl3 K te tl th ts σ H Q := q
theorem r_slc {K : PySem.W.Frag} {H H0 : Hp} {Q : VK} {L : List (Addr × HO)} {a : Addr} {xs : List V} {l u : Option Int} {i : Int} (o : Own H0 H L) (h : SqL K H a xs) (h0 : i ≠ 0) (hz : (stpV xs l u i).length ≤ 10000000) (k : ∀ p H', Stp H H' → Own H0 H' ((p, .lst (stpV xs l u i)) :: L) → Q (.ref p) H') : RSl3 K (.ref a) l u (some i) H Q :=
  ⟨a, xs, i, rfl, rfl, h0, h, sz100 hz, fun p hp => k p _ (.of (same_new hp)) (o.new hp)⟩
theorem flat_rep {α : Type} : ∀ (n : Nat) (x : α), (List.replicate n [x]).flatten = List.replicate n x
  | 0, _ => rfl
  | n + 1, x => by rw [List.replicate_succ, List.flatten_cons, flat_rep n x]; rfl
/-- a list times an int -/
theorem r_rep {H H0 : Hp} {Q : VK} {L : List (Addr × HO)} {a : Addr} {x : V} {i : Int} {n : Nat} (o : Own H0 H L) (ha : H a = some (.lst [x])) (hi : i.toNat = n) (hk : -(2 ^ 63) ≤ i ∧ i < 2 ^ 63) (hz : n ≤ 10000000) (k : ∀ p H', Stp H H' → Own H0 H' ((p, .lst (List.replicate n x)) :: L) → Q (.ref p) H') : rRep (.ref a) (.int i) H Q := by
  refine ⟨a, i, [x], rfl, rfl, ha, hk.1, hk.2, sz100 (by rw [hi]; simp; exact hz), fun p hp => ?_⟩
  have e : (List.replicate i.toNat [x]).flatten = List.replicate n x := by
    rw [hi]
    exact flat_rep n x
  rw [e]
  exact k p _ (.of (same_new hp)) (o.new hp)

/-! ### defs -/
/-- the def x of the text stands at its name -/
structure FunAt (K : PySem.W.Frag) (mg : Str → Option Value) (x : Str) (st : Stmt) (ps : List Str) : Prop where
  ex : ∃ f fd, Fun K x x st f fd ∧ mg x = some (.ref f) ∧ Binds K fd ps []
/-- .. and keeps a promise -/
structure Def (P : Program) (w : World) (K : PySem.W.Frag) (mg : Str → Option Value) (base : Heap) (CX : CXT) (k : Nat) (x : Str) (ps : List Str) (sp : Sp) : Prop where
  ex : ∃ f fd, FnOk P w K mg base CX k f fd ps sp ∧ mg x = some (.ref f) ∧ PySem.W.keepIn K (.ref f) = true ∧ Binds K fd ps []
section
variable {P : Program} {w : World} {K : PySem.W.Frag} {mg : Str → Option Value} {base : Heap}
theorem FunAt.ok {x : Str} {st : Stmt} {N ps : List Str} {k : Nat} {sp : Sp} (F : FunAt K mg x st ps) (S : FnScope N ps (defScope st)) (len : ∀ vs H Q E, sp vs H Q E → vs.length = ps.length)
    (hbody : ∀ (f : Addr) (cdv : Value) (A : Around) (outer : List Env) (s : Shared) (H : Hp) (vs : List V) (Q : VK) (E : XK), Room k (A.deeper (envOfC x (defScope st) s.heap.objs.size f cdv)) → sp vs H Q E →
      ∃ t, PSs (cxOf CX0 P w K mg base N x (defScope st) f cdv A outer s H E).nox (defBody st) t ∧ t { nx := fun _ H' => Q .non H', rt := Q } (start N vs) H) : Def P w K mg base CX0 (k + 1) x ps sp := by
  obtain ⟨f, fd, F, hm, hb⟩ := F.ex
  exact ⟨f, fd, F.ok S len (hbody f), hm, F.kp, hb⟩
theorem Def.imp {CX : CXT} {k : Nat} {x : Str} {ps : List Str} {sp sp' : Sp} (F : Def P w K mg base CX k x ps sp) (h : ∀ vs H Q E, sp' vs H Q E → sp vs H Q E) : Def P w K mg base CX k x ps sp' := by
  obtain ⟨f, fd, F, r⟩ := F.ex
  exact ⟨f, fd, F.imp h, r⟩
theorem Def.mono {CX : CXT} {k j : Nat} {x : Str} {ps : List Str} {sp : Sp} (F : Def P w K mg base CX k x ps sp) (h : k ≤ j) : Def P w K mg base CX j x ps sp := by
  obtain ⟨f, fd, F, r⟩ := F.ex
  exact ⟨f, fd, F.mono h, r⟩
end
theorem pe_callD {X : Cx} {k : Nat} {ps : List Str} {sp : Sp} {x : Str} {p pos : Pos} {e : Expr} {es : List Expr} {t : TA} (G : Def X.prog X.w X.K X.mg X.base CX0 k x ps sp) (hr : Room k X.A) (ha : PA X (e :: es) t) (hg : Gl X x := by rfl)
    (hdb : (x == ("__debug__" : Str)) = false := by decide) (he : starEach (e :: es) X.env = (false, eval e X.env) :: starEach es X.env := by rfl) (hpl : (backTo pos (starEach es X.env)).any (·.1) = false := by rfl) : PE X (.Call (.Name x p) (e :: es) [] pos) (tCall sp [] E0 t) := by
  obtain ⟨f, fd, F, hm, hk, hb⟩ := G.ex
  exact pe_call F hr hg hm hk hb .nil pass0 ha hdb he hpl
/-! ### own classes -/
structure MethAt (K : PySem.W.Frag) (C : Addr) (m qn : Str) (st : Stmt) (ps : List Str) : Prop where
  ex : ∃ f fd, Fun K m qn st f fd ∧ Meth K C m f ∧ Binds K fd ps []
structure MkAt (K : PySem.W.Frag) (C : Addr) (qn : Str) (st : Stmt) (ps : List Str) : Prop where
  ex : ∃ f fd, Fun K "__init__" qn st f fd ∧ Mk K C f ∧ Binds K fd ps []
structure MDef (P : Program) (w : World) (K : PySem.W.Frag) (mg : Str → Option Value) (base : Heap) (CX : CXT) (k : Nat) (C : Addr) (m : Str) (ps : List Str) (sp : Sp) : Prop where
  ex : ∃ f fd, FnOk P w K mg base CX k f fd ps sp ∧ Meth K C m f ∧ Binds K fd ps []
structure KDef (P : Program) (w : World) (K : PySem.W.Frag) (mg : Str → Option Value) (base : Heap) (CX : CXT) (k : Nat) (C : Addr) (ps : List Str) (sp : Sp) : Prop where
  ex : ∃ f fd, FnOk P w K mg base CX k f fd ps sp ∧ Mk K C f ∧ Binds K fd ps []
section
variable {P : Program} {w : World} {K : PySem.W.Frag} {mg : Str → Option Value} {base : Heap}
theorem MethAt.ok {C : Addr} {m qn : Str} {st : Stmt} {N ps : List Str} {k : Nat} {sp : Sp} (F : MethAt K C m qn st ps) (S : FnScope N ps (defScope st)) (len : ∀ vs H Q E, sp vs H Q E → vs.length = ps.length)
    (hbody : ∀ (f : Addr) (cdv : Value) (A : Around) (outer : List Env) (s : Shared) (H : Hp) (vs : List V) (Q : VK) (E : XK), Room k (A.deeper (envOfC qn (defScope st) s.heap.objs.size f cdv)) → sp vs H Q E →
      ∃ t, PSs (cxOf CX0 P w K mg base N qn (defScope st) f cdv A outer s H E).nox (defBody st) t ∧ t { nx := fun _ H' => Q .non H', rt := Q } (start N vs) H) : MDef P w K mg base CX0 (k + 1) C m ps sp := by
  obtain ⟨f, fd, F, hm, hb⟩ := F.ex
  exact ⟨f, fd, F.ok S len (hbody f), hm, hb⟩
theorem MkAt.ok {C : Addr} {qn : Str} {st : Stmt} {N ps : List Str} {k : Nat} {sp : Sp} (F : MkAt K C qn st ps) (S : FnScope N ps (defScope st)) (len : ∀ vs H Q E, sp vs H Q E → vs.length = ps.length)
    (hbody : ∀ (f : Addr) (cdv : Value) (A : Around) (outer : List Env) (s : Shared) (H : Hp) (vs : List V) (Q : VK) (E : XK), Room k (A.deeper (envOfC qn (defScope st) s.heap.objs.size f cdv)) → sp vs H Q E →
      ∃ t, PSs (cxOf CX0 P w K mg base N qn (defScope st) f cdv A outer s H E).nox (defBody st) t ∧ t { nx := fun _ H' => Q .non H', rt := Q } (start N vs) H) : KDef P w K mg base CX0 (k + 1) C ps sp := by
  obtain ⟨f, fd, F, hm, hb⟩ := F.ex
  exact ⟨f, fd, F.ok S len (hbody f), hm, hb⟩
end
theorem pe_makeD {X : Cx} {k : Nat} {ps : List Str} {sp : Sp} {C : Addr} {x : Str} {p pos : Pos} {e : Expr} {es : List Expr} {t : TA} (G : KDef X.prog X.w X.K X.mg X.base CX0 k C ps sp) (hm : X.mg x = some (.ref C)) (hr : Room (k + 1) X.A) (ha : PA X (e :: es) t) (hg : Gl X x := by rfl)
    (hdb : (x == ("__debug__" : Str)) = false := by decide) (he : starEach (e :: es) X.env = (false, eval e X.env) :: starEach es X.env := by rfl) (hpl : (backTo pos (starEach es X.env)).any (·.1) = false := by rfl) : PE X (.Call (.Name x p) (e :: es) [] pos) (tMake C sp [] E0 t) := by
  obtain ⟨f, fd, F, M, hb⟩ := G.ex
  exact pe_make M F hr hg hm hb .nil pass0 ha hdb he hpl
theorem pe_methD {X : Cx} {k : Nat} {ps : List Str} {sp : Sp} {C : Addr} {m : Str} {o e : Expr} {es : List Expr} {apos pos : Pos} {ta : TE} {t : TA} {pl : Sem Bool} (he : PE X o ta) (c : Cls X.K C) (G : MDef X.prog X.w X.K X.mg X.base CX0 k C m ps sp) (hr : Room k X.A) (ha : PA X (e :: es) t)
    (hst : starEach (e :: es) X.env = (false, eval e X.env) :: starEach es X.env := by rfl) (hpl : (backTo pos (starEach es X.env)).any (·.1) = false := by rfl)
    (ht : eval (.Call (.Attribute o m apos) (e :: es) [] pos) X.env = (do
      let ov ← eval o X.env
      standAt apos.atName
      let (f, first) ← holding [ov] (getMethod ov m pl)
      callWith pos f first (backTo pos (starEach (e :: es) X.env)) (backToKw pos (keywordEach [] X.env))) := by rfl) :
    PE X (.Call (.Attribute o m apos) (e :: es) [] pos) (tMeth C m sp [] E0 ta t) := by
  obtain ⟨f, fd, F, M, hb⟩ := G.ex
  exact pe_meth he c M F hr hb .nil pass0 ha hst hpl ht
theorem r_make {C : Addr} {sp : Sp} {E : XK} {t : TA} {σ : L2.St} {H : Hp} {Q : VK} (q : t σ H fun vs H1 => ∀ x dx, H1 x = none → H1 dx = none → dx ≠ x → sp (.ref x :: (vs ++ [])) (upd (upd H1 dx (.own x)) x (.ins C dx [])) (fun v H2 => v = .non ∧ Q (.ref x) H2) E) : tMake C sp [] E t σ H Q := q
theorem r_meth {C : Addr} {m : Str} {sp : Sp} {E : XK} {ta : TE} {t : TA} {σ : L2.St} {H : Hp} {Q : VK} (q : ta σ H fun x H1 => ∃ a dx fs, x = .ref a ∧ H1 a = some (.ins C dx fs) ∧ fs.lookup m = none ∧ t σ H1 fun vs H2 => sp (x :: (vs ++ [])) H2 Q E) : tMeth C m sp [] E ta t σ H Q := q
theorem r_fldq {K : PySem.W.Frag} {ta : TE} {f : Str} {σ : L2.St} {H : Hp} {Q : VK} (q : ta σ H fun x H1 => ∃ a C dx fs v, x = .ref a ∧ H1 a = some (.ins C dx fs) ∧ Cls K C ∧ NoAttr K C f ∧ fs.lookup f = some v ∧ Q v H1) : tFld K ta f σ H Q := q
theorem r_sfld {K : PySem.W.Frag} {ta tv : TE} {f : Str} {D : Ends} {σ : L2.St} {H : Hp} (q : tv σ H fun y H1 => ta σ H1 fun x H2 => ∃ a C dx fs, x = .ref a ∧ H2 a = some (.ins C dx fs) ∧ Cls K C ∧ NoAttr K C f ∧ fs.length < 1000 ∧ D.nx σ (upd H2 a (.ins C dx (putF f y fs)))) : sFld K ta tv f D σ H := q
/-! ### the same rules, K told -/
theorem pg_tupK {X : Cx} {K : PySem.W.Frag} {es : List Expr} {k : Nat} {t : TGs} {n : Nat} {pos : Pos} (hK : X.K = K) (hc : X.calm = true) (h : PGs X es t)
    (hn : (assignEach es X.env).length = n := by rfl) (hst : (assignEach es X.env).findIdx? (·.1) = none := by rfl) : PG X (.Tuple es k pos) (gTup K n t) := by
  subst hK
  exact pg_tup hc h hn hst
theorem pe_bmK {X : Cx} {K : PySem.W.Frag} {o e : Expr} {es : List Expr} {to : TE} {t : TA} {name : Str} {apos cpos : Pos} {T id : String} {r : V → List V → Hp → VK → Prop} (hK : X.K = K) (pa : PlainAttrs T) (slot : Slot T name id) (hty : typeOf (.builtin id) = pure (.type "method_descriptor")) (hm : MtR X id r) (ho : PE X o to) (ha : PA X (e :: es) t)
    (hbase : attributeBase o name X.env (eval o X.env) = eval o X.env := by rfl) (hfew : ((backTo cpos (starEach (e :: es) X.env)).all (fun x => !x.1) && (backToKw cpos (keywordEach [] X.env)).all (fun x => x.1.isSome) && decide ((e :: es).length + ([] : List Keyword).length + (if ([] : List Keyword).isEmpty then 0 else 1) < 30)) = true := by rfl)
    (hline : (apos.endLine == cpos.line) = true := by rfl) (hst : starEach (e :: es) X.env = (false, eval e X.env) :: starEach es X.env := by rfl) (hpl : (backTo cpos (starEach es X.env)).any (·.1) = false := by rfl) : PE X (.Call (.Attribute o name apos) (e :: es) [] cpos) (tBM K T r to t) := by
  subst hK
  exact pe_bm pa slot hty hm ho ha hbase hfew hline hst hpl
theorem r_ext {H H0 : Hp} {Q : VK} {L : List (Addr × HO)} {l b : Addr} {xs zs : List V} (o : Own H0 H L) (n m : Nat) (h : L[n]? = some (l, .lst xs)) (h2 : L[m]? = some (b, .lst zs)) (hz : xs.length + zs.length ≤ 10000000) (k : ∀ H', Own H0 H' (L.set n (l, .lst (xs ++ zs))) → Q .non H') : rExtend (.ref l) [.ref b] H Q :=
  ⟨l, b, xs, zs, rfl, rfl, o.at n h, o.at m h2, sz100 hz, k _ (o.set n h)⟩
theorem take_flat {α β : Type} {f : α → List β} {zs : List α} {i : Nat} {z : α} (h : zs[i]? = some z) : (zs.take (i + 1)).flatMap f = (zs.take i).flatMap f ++ f z := by
  rw [List.take_add_one, h, List.flatMap_append]
  simp
theorem get_ints {ns : List Int} {i : Nat} {x : V} (h : (ns.map V.int)[i]? = some x) : ∃ z, ns[i]? = some z ∧ x = .int z := by
  rw [List.getElem?_map] at h
  cases h2 : ns[i]? with
  | none => rw [h2] at h; cases h
  | some v => rw [h2] at h; cases h; exact ⟨v, rfl, rfl⟩
theorem r_bmE {K : PySem.W.Frag} {T : String} {f : V → List V → Hp → VK → Prop} {te : TE} {tr : TA} {σ : L2.St} {H : Hp} {Q : VK} (q : te σ H fun x H1 => tyV K T x H1 ∧ tr σ H1 fun vs H2 => f x vs H2 Q) : tBM K T f te tr σ H Q := q
theorem pe_callD0 {X : Cx} {k : Nat} {sp : Sp} {x : Str} {p pos : Pos} (G : Def X.prog X.w X.K X.mg X.base CX0 k x [] sp) (hr : Room k X.A) (hg : Gl X x := by rfl) (hdb : (x == ("__debug__" : Str)) = false := by decide) : PE X (.Call (.Name x p) [] [] pos) (tCall sp [] E0 tNil) := by
  obtain ⟨f, fd, F, hm, hk, hb⟩ := G.ex
  exact pe_call0 F hr hg hm hk hb .nil pass0 hdb
theorem pe_methD0 {X : Cx} {k : Nat} {ps : List Str} {sp : Sp} {C : Addr} {m : Str} {o : Expr} {apos pos : Pos} {ta : TE} {pl : Sem Bool} (he : PE X o ta) (c : Cls X.K C) (G : MDef X.prog X.w X.K X.mg X.base CX0 k C m ps sp) (hr : Room k X.A)
    (ht : eval (.Call (.Attribute o m apos) [] [] pos) X.env = (do
      let ov ← eval o X.env
      standAt apos.atName
      let (f, first) ← holding [ov] (getMethod ov m pl)
      callWith pos f first (backTo pos (starEach [] X.env)) (backToKw pos (keywordEach [] X.env))) := by rfl) :
    PE X (.Call (.Attribute o m apos) [] [] pos) (tMeth C m sp [] E0 ta tNil) := by
  obtain ⟨f, fd, F, M, hb⟩ := G.ex
  exact pe_meth0 he c M F hr hb .nil pass0 ht
end RD
namespace My
open PySem PySem.Spec PyProof.Rows L2 RD
local macro_rules | `(tactic| walk_at "sq") => `(tactic| (first
  | assumption
  | exact Own.sqL (by assumption) 0 (by exact rfl)
  | exact Own.sqL (by assumption) 1 (by exact rfl)
  | exact Own.sqL (by assumption) 2 (by exact rfl)
  | exact Own.sqL (by assumption) 3 (by exact rfl)
  | exact Own.sqL (by assumption) 4 (by exact rfl)
  | exact Own.sqL (by assumption) 5 (by exact rfl)
  | exact Own.sqL (by assumption) 6 (by exact rfl)
  | exact Own.sqL (by assumption) 7 (by exact rfl)
  | exact Own.sqL (by assumption) 8 (by exact rfl)
  | exact Own.sqL (by assumption) 9 (by exact rfl)
  | exact Own.sqL (by assumption) 10 (by exact rfl)
  | exact Own.sqL (by assumption) 11 (by exact rfl)
  | exact Own.sqL (by assumption) 12 (by exact rfl)
  | exact Own.sqL (by assumption) 13 (by exact rfl)
  | exact Own.sqL (by assumption) 14 (by exact rfl)
  | exact Own.sqL (by assumption) 15 (by exact rfl)
  | exact Own.sqL (by assumption) 16 (by exact rfl)
  | exact Own.old (by assumption) (by assumption)))
local macro_rules | `(tactic| walk_at "sqT") => `(tactic| (first
  | assumption
  | exact Own.sqT (by assumption) 0 (by exact rfl)
  | exact Own.sqT (by assumption) 1 (by exact rfl)
  | exact Own.sqT (by assumption) 2 (by exact rfl)
  | exact Own.sqT (by assumption) 3 (by exact rfl)
  | exact Own.sqT (by assumption) 4 (by exact rfl)
  | exact Own.sqT (by assumption) 5 (by exact rfl)
  | exact Own.sqT (by assumption) 6 (by exact rfl)
  | exact Own.sqT (by assumption) 7 (by exact rfl)
  | exact Own.sqT (by assumption) 8 (by exact rfl)
  | exact Own.sqT (by assumption) 9 (by exact rfl)
  | exact Own.sqT (by assumption) 10 (by exact rfl)
  | exact Own.sqT (by assumption) 11 (by exact rfl)
  | exact Own.sqT (by assumption) 12 (by exact rfl)
  | exact Own.sqT (by assumption) 13 (by exact rfl)
  | exact Own.sqT (by assumption) 14 (by exact rfl)
  | exact Own.sqT (by assumption) 15 (by exact rfl)
  | exact Own.sqT (by assumption) 16 (by exact rfl)
  | exact Own.oldT (by assumption) (by assumption)))
local macro_rules | `(tactic| walk_at "at") => `(tactic| (first
  | assumption
  | exact Own.at (by assumption) 0 (by exact rfl)
  | exact Own.at (by assumption) 1 (by exact rfl)
  | exact Own.at (by assumption) 2 (by exact rfl)
  | exact Own.at (by assumption) 3 (by exact rfl)
  | exact Own.at (by assumption) 4 (by exact rfl)
  | exact Own.at (by assumption) 5 (by exact rfl)
  | exact Own.at (by assumption) 6 (by exact rfl)
  | exact Own.at (by assumption) 7 (by exact rfl)
  | exact Own.at (by assumption) 8 (by exact rfl)
  | exact Own.at (by assumption) 9 (by exact rfl)
  | exact Own.at (by assumption) 10 (by exact rfl)
  | exact Own.at (by assumption) 11 (by exact rfl)
  | exact Own.at (by assumption) 12 (by exact rfl)
  | exact Own.at (by assumption) 13 (by exact rfl)
  | exact Own.at (by assumption) 14 (by exact rfl)
  | exact Own.at (by assumption) 15 (by exact rfl)
  | exact Own.at (by assumption) 16 (by exact rfl)))
/-! ### the words -/
local macro_rules | `(tactic| walk_at "rd1") => `(tactic| (first
  | with_reducible refine r_seq ?_
  | with_reducible refine r_asg ?_
  | with_reducible refine r_name ?_
  | ((with_reducible refine r_var (v := ?_) ?h ?_); (case h => exact rfl))
  | with_reducible refine r_c ?_
  | with_reducible refine r_op ?_
  | with_reducible refine r_I0 ?_
  | with_reducible refine r_un ?_
  | with_reducible refine r_U ?_
  | with_reducible refine r_eqI ?_
  | with_reducible refine r_neI ?_
  | with_reducible refine r_eqS ?_
  | with_reducible refine r_neS ?_
  | with_reducible refine r_test ?_
  | with_reducible refine r_tB ?_
  | with_reducible refine r_bl ?_
  | with_reducible refine r_and ?_
  | with_reducible refine r_or ?_
  | with_reducible refine r_not ?_
  | with_reducible refine r_andV ?_
  | with_reducible refine r_orV ?_
  | with_reducible refine r_notV ?_
  | with_reducible refine r_ifE ?_
  | with_reducible refine r_ifS ?_
  | with_reducible refine r_ret ?_
  | with_reducible refine r_retN ?_
  | with_reducible refine r_drop ?_
  | with_reducible refine r_next ?_
  | with_reducible refine r_break ?_
  | with_reducible refine r_cont ?_
  | with_reducible refine r_nil ?_
  | with_reducible refine r_cons ?_
  | with_reducible refine r_tup ?_
  | with_reducible refine r_lst ?_
  | with_reducible refine r_CB ?_
  | with_reducible refine r_call ?_
  | with_reducible refine r_sl ?_
  | with_reducible refine r_par ?_
  | with_reducible refine r_make ?_
  | with_reducible refine r_meth ?_
  | with_reducible refine r_fldq ?_
  | with_reducible refine r_sfld ?_
  | with_reducible refine r_nopart ?_
  | with_reducible refine r_part ?_
  | with_reducible refine r_pt ?_
  | ((with_reducible refine r_aug (x := ?_) ?h ?_); (case h => exact rfl))
  | with_reducible refine r_ipI ?_
  | ((with_reducible refine r_isi (T := ?_) (b := true) ?t ?k ?_); (case t => first | exact ty_int | exact ty_str | exact ty_non | exact ty_list (by walk_at "at") | exact ty_tup (by walk_at "at") | exact ty_sqT (by assumption) | exact ty_sqL (by assumption)); (case k => decide +kernel))
  | ((with_reducible refine r_isi (T := ?_) (b := false) ?t ?k ?_); (case t => first | exact ty_int | exact ty_str | exact ty_non | exact ty_list (by walk_at "at") | exact ty_tup (by walk_at "at") | exact ty_sqT (by assumption) | exact ty_sqL (by assumption)); (case k => decide +kernel))
  | with_reducible refine rif_t ?_
  | with_reducible refine rif_f ?_
  | with_reducible refine rif_nt ?_
  | with_reducible refine rif_nf ?_
  | with_reducible refine r_for ?_
  | with_reducible refine r_rng1 ?_
  | with_reducible refine r_rng2 ?_
  | with_reducible refine r_rng3 ?_
  | with_reducible refine r_iL ?_
  | with_reducible refine r_iT ?_
  | with_reducible refine r_lc ?_
  | with_reducible refine r_lc2 ?_
  | with_reducible refine r_sl3 ?_
  | ((with_reducible refine r_I ?c ?_); (case c => first | exact ⟨by decide, by decide⟩ | exact ⟨by decide, by decide, by decide⟩ | exact ⟨by decide, by decide, by omega⟩ | (show (0 : Int) < _; decide) | exact .inr ⟨by decide, by decide⟩ | exact .inl ⟨by decide, by decide⟩ | assumption | exact .inl ⟨by omega, by omega⟩ | exact .inr ⟨by omega, by omega⟩ | (show (0 : Int) < _; omega) | exact ⟨by omega, by omega⟩))
  | ((with_reducible refine r_bm (l := ?_) ?h ?t ?_); (case h => exact rfl); (case t => exact ty_lst (by walk_at "at")))
  | with_reducible refine r_int ?_
  | ((with_reducible refine r_lenS ?z ?_); (case z => first | omega | (simp; done)))
  | ((with_reducible refine r_slS ?z ?_); (case z => omega))
  | ((with_reducible refine r_addS ?z ?_); (case z => omega))
  | with_reducible refine r_zipA ?_
  | with_reducible refine r_max2 ?_
  | with_reducible refine r_min2 ?_
  | with_reducible refine r_isNonN ?_
  | with_reducible refine r_isNonR ?_
  | with_reducible refine r_isNonI ?_
  | with_reducible refine r_notNonN ?_
  | with_reducible refine r_notNonR ?_
  | with_reducible refine r_notNonI ?_
  | with_reducible refine r_chain ?_
  | with_reducible refine r_isB ?_
  | ((with_reducible refine r_ixI (ns := ?_) ?h ?b0 ?b1 ?_); (case h => walk_at "sq"); (case b0 => omega); (case b1 => first | omega | (simp; done) | (simp; omega)))
  | ((with_reducible refine r_ixIT (ns := ?_) ?h ?b0 ?b1 ?_); (case h => walk_at "sqT"); (case b0 => omega); (case b1 => first | omega | (simp; done) | (simp; omega)))
  | ((with_reducible refine r_ixqL (ns := ?_) ?h ?b0 ?b1 ?_); (case h => walk_at "sq"); (case b0 => omega); (case b1 => first | omega | (simp; done) | (simp; omega)))
  | ((with_reducible refine r_ixqT (ns := ?_) ?h ?b0 ?b1 ?_); (case h => walk_at "sqT"); (case b0 => omega); (case b1 => first | omega | (simp; done) | (simp; omega)))
  | ((with_reducible refine r_sum (ns := ?_) ?h ?_); (case h => walk_at "sq"))
  | ((with_reducible refine r_eqSame (ns := ?_) ?h ?h2 ?_); (case h => walk_at "sq"); (case h2 => walk_at "sq"))
  | ((with_reducible refine r_neSame (ns := ?_) ?h ?h2 ?_); (case h => walk_at "sq"); (case h2 => walk_at "sq"))
  | with_reducible refine r_intB ?_
  | ((with_reducible refine r_len (xs := ?_) ?h ?_); (case h => walk_at "sq"))
  | ((with_reducible refine r_lenT (xs := ?_) ?h ?_); (case h => walk_at "sqT"))
  | ((with_reducible refine r_gTup2 (x := ?_) (y := ?_) ?h ?_); (case h => walk_at "sqT"))
  | with_reducible refine r_bmE ?_
  | with_reducible refine r_set ?_))
local macro_rules | `(tactic| walk_at "rd") => `(tactic| (repeat' (walk_at "rd1")))
/-! ### own errors whose __init__ calls super().__init__ -/
/-- what is asked of the program as a whole -/
structure PrOk (P : Program) : Prop where
  file : P.main.file = "/claim/cut.py"
  top : (P.main.scope.names.lookup ("super" : Str)).isSome = false
/-- the def at fI is the __init__ of the class at C and closes over it -/
structure SupAt (K : PySem.W.Frag) (C : Addr) (qn : Str) (st : Stmt) (fI : Addr) (fd : FuncData) : Prop where
  ex : ∃ (oc : Value) (od : Option Addr) (kV doc pm : Value) (an : Option Addr) (cda cc : Addr) (ct : Value) (osl : Array (Option Value)),
    fd = PySem.W.fnX "__init__" qn (defArgs st) (defBody st) (defScope st) [("__class__", cc)] .none kV doc pm an (.ref cda) ct ∧ K.lookup fI = some ⟨oc, od, .func fd, osl⟩ ∧ PySem.W.codeIn K (.ref cda) qn = true ∧
    (∃ (cl : Value) (cld : Option Addr) (csl : Array (Option Value)), K.lookup cc = some ⟨cl, cld, .cell (some (.ref C)), csl⟩) ∧
    ∃ (cl : Value) (cld : Option Addr) (csl : Array (Option Value)) (fs : Array Value) (tf : Tok), K.lookup cda = some ⟨cl, cld, .fields fs, csl⟩ ∧ fs[2]? = some (.str "/claim/cut.py" tf)
/-- what else the written part says of the class -/
structure SupC (K : PySem.W.Frag) (C : Addr) : Prop where
  oex : OexC K C
  ini : PySem.W.ks_superIn K C C "__init__" = some (some (.builtin "ValueError.__init__"))
  sub : PySem.W.subIn K (.ref C) (.type "ValueError") = some true
  self : PySem.W.mroIn K C (.ref C) = some true
  stat : PySem.W.nsIn K PySem.cStatics "thirdparty.any" = some none
theorem mw_call1 {M : Model} {A : Around} {E : Value → Shared → Prop} {s : Shared} {u x : Addr} {i : String} {pos : Pos} {env : Env} {e : Expr} {Q : Value → Shared → Prop} (hst : starEach [e] env = [(false, eval e env)])
    (h : wpAny M A (spliced (backTo pos (starEach [e] env))) (fun vs s₁ => PySem.W.KxsAt i u x s₁.heap ∧ wpAny M A (call (.ref u) vs) Q E s₁) E s) : wpAny M A (callWith pos (.ref u) [] (backTo pos (starEach [e] env)) []) Q E s := by
  rw [hst] at h ⊢
  exact PySem.W.kxs_callWith (i := i) (x := x) rfl (Calls.evalArgs_plain h)
theorem cls_obj {K : PySem.W.Frag} {C : Addr} {cd : ClassData} (h : PySem.W.clsIn K C = some cd) : ∃ o, K.lookup C = some o ∧ o.data = .cls cd := by
  unfold PySem.W.clsIn at h
  split at h
  · rename_i c d cd' sl ho
    cases h
    exact ⟨_, ho, rfl⟩
  · cases h
section
variable {P : Program} {w : World} {K : PySem.W.Frag} {mg : Str → Option Value} {base : Heap}
abbrev supF (qn : Str) (st : Stmt) (cda cc : Addr) : NdefX.NF := ⟨"__init__", qn, defArgs st, [], defScope st, [("__class__", cc)], cda⟩
theorem SupAt.ok {C fI : Addr} {qn : Str} {st : Stmt} {N ps : List Str} {k : Nat} {sp : Sp} {fd : FuncData} {p0 p1 p2 p3 p4 : Pos} {msg : Expr} {pl : Env → Sem Bool} {rest : List Stmt} {ar : Arg} (S : SupAt K C qn st fI fd) (hP : PrOk P) (U : SupC K C) (Z : NdefX.NScope N ps ["__class__"] (defScope st))
    (hsup : mg "super" = none) (har : ((defArgs st).posonlyargs ++ (defArgs st).args).head? = some ar) (han : ps.head? = some ar.arg)
    (hks : (defScope st).names.lookup ("super" : Str) = some .globalImplicit)
    (hB : defBody st = .Expr (.Call (.Attribute (.Call (.Name "super" p0) [] [] p1) "__init__" p2) [msg] [] p3) p4 :: rest)
    (hst : ∀ env : Env, starEach [msg] env = [(false, eval msg env)]) (hsw : ∀ env : Env, swapsWith (.Call (.Attribute (.Call (.Name "super" p0) [] [] p1) "__init__" p2) [msg] [] p3) none p4.line env = pure false)
    (hev : ∀ env : Env, eval (.Call (.Attribute (.Call (.Name "super" p0) [] [] p1) "__init__" p2) [msg] [] p3) env = (do
      let ov ← attributeBase (.Call (.Name "super" p0) [] [] p1) "__init__" env (eval (.Call (.Name "super" p0) [] [] p1) env)
      standAt p2.atName
      let (f, first) ← holding [ov] (getMethod ov "__init__" (pl env))
      callWith p3 f first (backTo p3 (starEach [msg] env)) []))
    (len : ∀ vs H Q E, sp vs H Q E → vs.length = ps.length)
    (hbody : ∀ (cda cc : Addr) (A : Around) (outer : List Env) (s : Shared) (H : Hp) (vs : List V) (Q : VK) (E : XK), Room k (A.deeper (NdefX.envF (supF qn st cda cc) fI s.heap.objs.size)) → sp vs H Q E →
      ∃ (a : Addr) (vs2 : List V) (tm : TE) (tr : TS), vs = .ref a :: vs2 ∧ H a = some (exo a C none) ∧ PE (NdefX.ncx CX0 P w K mg base N (supF qn st cda cc) fI A outer s H E) msg tm ∧ PSs (NdefX.ncx CX0 P w K mg base N (supF qn st cda cc) fI A outer s H E) rest tr ∧
        tm (NdefX.startF N vs [none]) H fun x H1 => (∃ v, [x] = [v]) ∧ H1 a = some (exo a C none) ∧ tr { nx := fun _ H' => Q .non H', rt := Q } (NdefX.startF N vs [none]) H1) :
    FnOk P w K mg base CX0 (k + 1) fI fd ps sp := by
  obtain ⟨oc, od, kV, doc, pm, an, cda, cc, ct, osl, rfl, lk, hcd, ⟨cl1, cld1, csl1, hcc⟩, cl2, cld2, csl2, fs, tf, hcda, hfs⟩ := S.ex
  refine ⟨len, fun A outer s H args us vs Q E hr e0 hb r hsp => ?_⟩
  have KX : K.In s.heap := e0.mod.kin.keeps fun b o e => (e0.bs b o e).1
  have lim : s.heap.NoLimit := e0.mod.nolimit.keeps fun b o e => (e0.bs b o e).1
  have hl := len _ _ _ _ hsp
  have ccH : H cc = none := (e0.bs cc _ (e0.mod.kin _ _ hcc)).2
  have CA : NdefX.CellsAt [("__class__", cc)] ["__class__"] [none] s.heap H := by
    have look : ∀ y c, List.lookup y [(("__class__" : Str), cc)] = some c → y = "__class__" ∧ c = cc := fun y c h => by
      by_cases e : y = "__class__"
      · subst e
        simp [List.lookup] at h
        exact ⟨rfl, h.symm⟩
      · have e2 : (y == ("__class__" : Str)) = false := by simpa using e
        simp [List.lookup, e2] at h
    refine ⟨rfl, fun y c h => ?_, fun x y c h1 h2 => ?_, fun i y h => ?_⟩
    · obtain ⟨rfl, rfl⟩ := look y c h
      exact ⟨ccH, _, _, KX _ _ hcc, rfl⟩
    · rw [(look x c h1).1, (look y c h2).1]
    · match i, h with
      | 0, h =>
        have e : y = "__class__" := (Option.some.inj h).symm
        subst e
        exact ⟨cc, by simp [List.lookup], fun v z => by cases z⟩
  obtain ⟨a, vs2, tm, tr, hvs, ha, hm, htr, hq⟩ := hbody cda cc A outer s H vs Q E (hr.deeper _) hsp
  refine PySem.ks_codeAny_call_defAt (binds := ps.zip us) hr.depth (KX _ _ lk) rfl lim (PySem.W.codeRec_of KX hcd) rfl hb Z.nocell (fun ⟨n, _⟩ hy => Z.par n (List.of_mem_zip hy).1) (fun h₀ hns kp => ?_) Z.co Z.gen Z.kind
  have I := NdefX.inv_startN (f := fI) (F := supF qn st cda cc) (CX := CX0) (E := E) (tk := s.toks + (ps.zip us).length) Z hr.hd e0 hl r CA hns kp
  have q0 : ∃ us2, us = .ref a :: us2 := by
    subst hvs
    cases r with
    | @cons _ u0 _ ur r0 r1 =>
      obtain rfl : u0 = Value.ref a := r0
      exact ⟨ur, rfl⟩
  obtain ⟨us2, hus⟩ := q0
  obtain ⟨p', ps2, hps⟩ : ∃ p' ps2, ps = p' :: ps2 := by
    cases ps with
    | nil => cases han
    | cons p' ps2 => exact ⟨p', ps2, rfl⟩
  have hp' : p' = ar.arg := by
    rw [hps] at han
    exact Option.some.inj han
  have ndP : ps.Nodup := by
    have q := Z.nd.sublist (List.take_sublist (ps.length + 1) N)
    rw [show N.take (ps.length + 1) = ps ++ [("__class__" : Str)] from Z.pre] at q
    exact (List.nodup_append.mp q).1
  have hself : (ps.zip us).reverse.lookup ar.arg = some (.ref a) := by
    refine NdefX.zip_look (i := 0) ndP ?_ ?_
    · rw [hps, hp']; rfl
    · rw [hus]; rfl
  have hself2 : (defScope st).names.lookup ar.arg = some .local := by
    rw [← hp']
    exact Z.par p' (by rw [hps]; exact List.mem_cons_self ..)
  refine PySem.ks_wpAt_mono (Q := SP (NdefX.ncx CX0 P w K mg base N (supF qn st cda cc) fI A outer s H E) [] { nx := fun _ H' => Q .non H', rt := Q }) (E := (NdefX.ncx CX0 P w K mg base N (supF qn st cda cc) fI A outer s H E).xe) ?_ (fun fl s' hs => ?_) fun _ _ z => z
  · show PySem.wpAt _ _ _ (execs (defBody st) _) _ _ _
    obtain ⟨oD, hD0, hD2⟩ : ∃ o, K.lookup C = some o ∧ ∃ cd, o.data = .cls cd ∧ PySem.W.clsIn K C = some cd := by
      have q := U.self
      unfold PySem.W.mroIn at q
      cases z : PySem.W.clsIn K C with
      | none => rw [z] at q; cases q
      | some cd =>
        obtain ⟨o, h1, h2⟩ := cls_obj z
        exact ⟨o, h1, cd, h2, rfl⟩
    obtain ⟨cd, hD3, hD4⟩ := hD2
    have K1 := I.kIn
    obtain ⟨t1, ho⟩ := exo_at I.hok ha
    have gN := I.mod.glob.keeps I.bk
    obtain ⟨mb, hmb1, hmb2⟩ := I.mod.blt
    have bN := hmb1.keeps I.bk
    rw [hB]
    refine PySem.ks_wpAt_execs_cons ?_
    refine PySem.ks_wpAt_Expr_any ?_ (by show ((defScope st).kind == .module && _) = false; rw [Z.kind]; rfl) (hsw _)
    refine PySem.ks_wpAt_MethodCall ?_ (hev _)
    refine PySem.ks_wpAt_super_base hks (Z.frk _ (List.mem_singleton.mpr rfl)) (by decide) rfl (K1 _ _ lk) rfl har rfl (K1 _ _ hcda) rfl hfs (by rw [hP.file]; exact beq_self_eq_true _) hP.top ?_
    refine PySem.W.ks_loadName_global Z.kind hks (Calls.loadGlobal_builtin gN hsup bN ((hmb2 _ (by decide)).trans (by kernel_rfl)) ⟨rfl, ?_⟩)
    refine wpAny_loadName_free Z.kind (Z.frk _ (List.mem_singleton.mpr rfl)) (show List.lookup ("__class__" : Str) [(("__class__" : Str), cc)] = some cc by simp [List.lookup]) ⟨_, K1 _ _ hcc, rfl⟩ ?_
    refine wpAny_loadName_local Z.kind hself2 hns hself ?_
    refine PySem.ks_wpAny_isType_cls (K1 _ _ hD0) hD3 ⟨rfl, ?_⟩
    refine PySem.ks_wpAny_call_super (K1 _ _ hD0) hD3 ho rfl (fun c z => by cases z) (PySem.W.looks_mroIn K1 U.self) (fun h1 e1 k1 => ?_)
    have I1 := I.kept (t' := s.toks + (ps.zip us).length) k1
    have J1 : PySem.W.InstAt h1 a _ C none := ⟨k1 _ _ ho, rfl, rfl, trivial⟩
    have hf : PySem.W.alongIn K "__init__" ((cd.mro.dropWhile (· != .ref C)).drop 1) = some (some (.builtin "ValueError.__init__")) := by
      have q := U.ini
      unfold PySem.W.ks_superIn at q
      rw [hD4] at q
      exact q
    refine PySem.W.kxs_getMethod PySem.W.kxs_ValueError e1 (PySem.W.looks_opaque I1.kIn U.stat) (l₀ := cd.mro) (fun A Q E s k q => wpAny_bind ((PySem.W.looks_clsIn I1.kIn hD4) A _ E s k (wpAny_pure q))) rfl I1.kIn hf (J1.type.andThen (PySem.W.looks_subIn I1.kIn U.sub)) (PySem.W.ks_ne I1.kIn J1 hD4) (by decide) ?_
    have I2 := I1.kept (t' := s.toks + (ps.zip us).length + 1) (h' := h1.push (PySem.W.kxs_mw "ValueError.__init__" a)) (fun b o q => Heap.get?_push_of_some _ q)
    have I3 := I2.pins_of (pins' := [(h1.objs.size, PySem.W.kxs_mw "ValueError.__init__" a)]) (fun p hp => by
      rw [List.mem_singleton.mp hp]
      exact ⟨Heap.get?_push_size _ rfl, I1.hok.fresh (Nat.le_refl _), Nat.ne_of_gt I1.lt, I1.nofs (Nat.le_refl _), fun v z => by cases z⟩)
    refine mw_call1 (i := "ValueError.__init__") (x := a) (hst _) ?_
    have hst0 := hst (NdefX.ncx CX0 P w K mg base N (supF qn st cda cc) fI A outer s H E).env
    refine thn ((pa_cons hm pa_nil hst0).run p3 _ _ _ H (fun us2 H1 => (∃ v, us2 = [v]) ∧ H1 a = some (exo a C none) ∧ tr { nx := fun _ H' => Q .non H', rt := Q } (NdefX.startF N vs [none]) H1) I3 ?_) fun us3 s3 hh => ?_
    · exact hq
    obtain ⟨vs3, H1, I4, r4, ⟨v3, hv3⟩, ha1, hq1⟩ := hh
    subst hv3
    have hlen : us3.length ≤ sizeLine := by
      rw [← Paired.length r4]
      exact (by decide : 1 ≤ sizeLine)
    have hu : s3.heap.get? h1.objs.size = some (PySem.W.kxs_mw "ValueError.__init__" a) := (I4.pin _ (List.mem_append_right _ (List.mem_singleton.mpr rfl))).1
    refine ⟨hu, ?_⟩
    obtain ⟨t3, ho3⟩ := exo_at I4.hok ha1
    obtain ⟨nm, qq, nn, bs, bm, sn, sub, ab, col, dd, z0, z1, z2, z3, z5, hC, hbm⟩ := U.oex.cls
    obtain ⟨hp3, g3, d3, tk3, os3⟩ := s3
    have fin : ∀ h', (∀ b o, b ≠ a → hp3.get? b = some o → h'.get? b = some o) → h'.get? a = some (PySem.W.excObj C hp3.objs.size none .none) →
        PySem.wpAt (model P w) (A.deeper (NdefX.envF (supF qn st cda cc) fI s.heap.objs.size)) (.func (.Expr (.Call (.Attribute (.Call (.Name "super" p0) [] [] p1) "__init__" p2) [msg] [] p3) p4 :: rest) (NdefX.envF (supF qn st cda cc) fI s.heap.objs.size))
          (execs rest (NdefX.envF (supF qn st cda cc) fI s.heap.objs.size)) (SP (NdefX.ncx CX0 P w K mg base N (supF qn st cda cc) fI A outer s H E) [] { nx := fun _ H' => Q .non H', rt := Q }) (NdefX.ncx CX0 P w K mg base N (supF qn st cda cc) fI A outer s H E).xe ⟨h', g3, d3, tk3, os3⟩ := fun h' k hx => by
      have J := I4.write (t' := tk3) (x := a) (e := a) (o := exo a C none) (by rw [ha1]; exact True.intro) (.inl rfl) k ⟨_, hx⟩ (exo_ok hx)
      have eu : upd H1 a (exo a C none) = H1 := funext fun b => by
        by_cases hb : b = a
        · rw [hb, upd_same, ha1]
        · exact upd_ne hb
      rw [eu] at J
      exact PySem.wpAt_of_wpAny (htr.run [] _ _ H1 _ (J.pins_of (pins' := []) fun p hp => absurd hp (by simp)) hq1)
    refine wpAny_call (codeAny_of_tree (show wpAny _ _ (callAny (.ref h1.objs.size) ⟨us3, []⟩) _ _ _ from ?_))
    simp only [callAny]
    refine wpAny_bind (wpAny_load hu ?_)
    simp only [PySem.W.kxs_mw, show (Value.type "method-wrapper" == Value.type "method" || Value.type "method-wrapper" == Value.type "builtin_function_or_method" || Value.type "method-wrapper" == Value.type "method-wrapper") = true by decide, if_true]
    refine PySem.W.KFB.if_so (by decide) (wpAny_bind (PySem.W.check_bound_init F.excBase_ValueError.toExcCallFacts (I4.kIn _ _ hC) ho3 rfl (wpAny_bind (wpAny_pure (wpAny_pure ?_)))))
    refine ⟨plainId_quiet F.excBase_ValueError.init.plain _, codeAny_builtin F.excBase_ValueError.initEntry (PySem.W.exc_init_tree (cls := .ref C) (t0 := t3) (dv := none) (c2 := .none) (c3 := .none) (b4 := .bool false) ho3 hlen fun h' k hx _ => ?_)⟩
    exact fin h' k hx
  · have fin : ∀ {σ' : L2.St} {H' : Hp} {v : V} {u : Value}, Inv (NdefX.ncx CX0 P w K mg base N (supF qn st cda cc) fI A outer s H E) [] σ' H' s' → L2.RelV v u → Q v H' → CE outer P w H s Q u s' :=
      fun {σ' H' v u} J rv q => ⟨v, H', J.os, J.bare, J.base, J.hok, rv, q⟩
    cases fl with
    | ret u =>
      obtain ⟨v, σ', H', J, rv, q⟩ := hs
      exact fin J rv q
    | next =>
      obtain ⟨σ', H', J, q⟩ := hs
      exact fin (v := V.non) (u := Value.none) J rfl q
    | brk =>
      obtain ⟨_, _, _, q⟩ := hs
      exact False.elim q
    | cont =>
      obtain ⟨_, _, _, q⟩ := hs
      exact False.elim q
end

/-! ### messages -/
/-- what a message may show -/
def Tell (v : V) : Prop := (∃ i : Int, v = .int i ∧ i.natAbs.log2 < 1920) ∨ ∃ y : Str, v = .str y ∧ y.length ≤ 1000000
theorem tell_small {i : Int} (h : -(2 ^ 64) < i ∧ i < 2 ^ 64) : Tell (.int i) := .inl ⟨i, rfl, by
  have h1 : i.natAbs < 2 ^ 64 := by omega
  by_cases h0 : i.natAbs = 0
  · rw [h0]; decide
  · exact Nat.lt_trans ((Nat.log2_lt h0).mpr h1) (by decide)⟩
/-- a part: a text, or what a slot holds -/
inductive Mp where
  | c (x : Str) | v (i : Nat) | t (sp : Sp) (E : XK) (i : Nat)
def Mp.te : Mp → TE
  | .c x => tC (.str x)
  | .v i => tFmt (tVar i)
  | .t sp E i => tFmt (tCall sp [] E (tCons (tVar i) tNil))
def Mp.Ok (σ : L2.St) : Mp → Prop
  | .c x => x.length ≤ 1000
  | .v i => ∃ v, σ[i]? = some (some v) ∧ Tell v
  | .t sp E i => ∃ v, σ[i]? = some (some v) ∧ ∀ (H : Hp) (Q : VK), (∀ y : Str, y.length ≤ 1000000 → Q (.str y) H) → sp [v] H Q E
theorem str_cat (a b : Str) : (a ++ b).length = a.length + b.length := by
  show (a.cps ++ b.cps).size = _
  rw [Array.size_append]
  rfl
theorem js_ok {σ : L2.St} {H : Hp} {Q : Str → Hp → Prop} (q : ∀ y, Q y H) : ∀ (ps : List Mp) (acc : Str), (∀ p ∈ ps, p.Ok σ) → acc.length + ps.length * 1001000 ≤ 10000000 → tJs (ps.map Mp.te) acc σ H Q
  | [], acc, _, _ => q acc
  | .c x :: ps, acc, h, hz => by
    have hx : x.length ≤ 1000 := h _ List.mem_cons_self
    rw [List.length_cons] at hz
    have e := str_cat acc x
    exact ⟨x, rfl, sz100 (by omega), js_ok q ps _ (fun p hp => h p (List.mem_cons_of_mem _ hp)) (by omega)⟩
  | .v i :: ps, acc, h, hz => by
    obtain ⟨v, hv, ht⟩ := h _ List.mem_cons_self
    rw [List.length_cons] at hz
    have hr : ∀ p ∈ ps, p.Ok σ := fun p hp => h p (List.mem_cons_of_mem _ hp)
    rcases ht with ⟨j, rfl, hj⟩ | ⟨y, rfl, hy⟩
    · have e := str_cat acc (Str.ofString (toString j))
      have el : (Str.ofString (toString j)).length ≤ 1921 := by
        rw [PySem.ofString_length]
        exact int_text_length_le (by decide) hj
      exact ⟨.int j, hv, .inr ⟨j, rfl, hj, _, rfl, sz100 (by omega), js_ok q ps _ hr (by omega)⟩⟩
    · have e := str_cat acc y
      exact ⟨.str y, hv, .inl ⟨y, rfl, sz100 (by omega), y, rfl, sz100 (by omega), js_ok q ps _ hr (by omega)⟩⟩
  | .t sp E i :: ps, acc, h, hz => by
    obtain ⟨v, hv, ht⟩ := h _ List.mem_cons_self
    rw [List.length_cons] at hz
    have hr : ∀ p ∈ ps, p.Ok σ := fun p hp => h p (List.mem_cons_of_mem _ hp)
    refine ⟨v, hv, ht _ _ fun y hy => ?_⟩
    have e := str_cat acc y
    exact .inl ⟨y, rfl, sz100 (by omega), y, rfl, sz100 (by omega), js_ok q ps _ hr (by omega)⟩
/-! ### one field, two fields -/
def sp_i1 (C : Addr) (f : Str) : Sp := fun vs H Q _ => ∃ (a : Addr) (v : V), vs = [.ref a, v] ∧ Tell v ∧ H a = some (exo a C none) ∧ ∀ dx, H dx = none → dx ≠ a → Q .non (upd (upd H dx (exd dx [(f, v)])) a (exo a C (some dx)))
def sp_i2 (C : Addr) (f g : Str) : Sp := fun vs H Q _ => ∃ (a : Addr) (v u : V), vs = [.ref a, v, u] ∧ Tell v ∧ Tell u ∧ H a = some (exo a C none) ∧
  ∀ dx, H dx = none → dx ≠ a → Q .non (upd (upd (upd H dx (exd dx [(f, v)])) a (exo a C (some dx))) dx (exd dx [(g, u), (f, v)]))
/-- such an error made -/
def tErr (C : Addr) (fs : List Str) (ta : TA) : L2.St → Hp → XK → Prop := fun σ H Q => ta σ H fun vs H1 => vs.length = fs.length ∧ (∀ v ∈ vs, Tell v) ∧ ∀ d, H1 d = none → Q (.ref C) (some d) (upd H1 d (.xd (fs.zip vs).reverse))
theorem err_heap {H : Hp} {a d : Addr} {fs : List (Str × V)} (ha : H a = none) (hd : d ≠ a) {H2 : Hp} (e1 : ∀ b, b ≠ a → b ≠ d → H2 b = H b) : upd (del H2 a) d (.xd fs) = upd H d (.xd fs) := by
  funext b
  by_cases hb : b = d
  · rw [hb, upd_same, upd_same]
  · rw [upd_ne hb, upd_ne hb]
    by_cases hc : b = a
    · rw [hc, del_same, ha]
    · rw [del_ne hc, e1 b hc hb]
theorem upd_two {H : Hp} {a d b : Addr} {o u : HO} (h1 : b ≠ a) (h2 : b ≠ d) : upd (upd H d u) a o b = H b := by rw [upd_ne h1, upd_ne h2]
section
variable {X : Cx} {C fI : Addr} {x f g : Str} {k : Nat} {fd : FuncData} {e : Expr} {es : List Expr} {ta : TA} {p pos : Pos}
/-- C(e, ..) where nothing is handled -/
theorem pmk_oexN {ps : List Str} {sp : Sp} {R : XK → List V → Hp → Prop} (hR : ∀ Q vs H1, R Q vs H1 → vs.length ≤ 1000 ∧ ∀ a, H1 a = none → sp (.ref a :: vs) (upd H1 a (exo a C none))
      (fun v H2 => v = .non ∧ ∃ (d : Addr) (fs : List (Str × V)), H2 a = some (exo a C (some d)) ∧ H2 d = some (exd d fs) ∧ H1 d = none ∧ Q (.ref C) (some d) (upd (del H2 a) d (.xd fs))) (fun _ _ _ => False)) (T : OexC X.K C) (iC : PySem.W.findIn X.K (.ref C) "__init__" = some (some (.ref fI))) (tI : PySem.W.typeIn X.K (.ref fI) = some (.type "function"))
    (F1 : FnOk X.prog X.w X.K X.mg X.base CX0 k fI fd ps sp) (hr : Room (k + 1) X.A) (hb : Binds X.K fd ps []) (hg : Gl X x) (hm : X.mg x = some (.ref C)) (ha : PA X (e :: es) ta)
    (hdb : (x == ("__debug__" : Str)) = false) (he : starEach (e :: es) X.env = (false, eval e X.env) :: starEach es X.env) (hpl : (backTo pos (starEach es X.env)).any (·.1) = false) :
    L2N.PMk X (.Call (.Name x p) (e :: es) [] pos) (fun σ H Q => ta σ H fun vs H1 => R Q vs H1) := by
  intro pins s σ H Q I h
  obtain ⟨nm, q, N, bs, bm, sn, sub, ab, col, dd, z0, z1, z2, z3, z5, hC, hbm⟩ := T.cls
  refine wpAny_Call_Name_kw (ld_glob I hg hm (PySem.W.callWith_K (h₀ := X.base) I.ok.mod.kin T.kC (thn (ha.run pos pins s σ H _ I h) fun us s1 hh => ?_) he hpl) hdb)
  obtain ⟨vs, H1, I1, r1, hh⟩ := hh
  obtain ⟨hz, q1⟩ := hR _ _ _ hh
  refine ⟨I1.kIn, show wpAny _ _ (call (.ref C) us) _ _ _ from ?_⟩
  obtain ⟨hp, g, dr, tk, os⟩ := s1
  have hsz : hp.objs.size ≤ hp.objs.size + 1 := Nat.le_add_right _ 1
  have hq := q1 (hp.objs.size + 1) (I1.hok.fresh hsz)
  have kk : ∀ b o, hp.get? b = some o → ((hp.push (PySem.W.kdv_tup us)).push (PySem.HandSPX.excO C hp.objs.size)).get? b = some o := fun b o z => Heap.get?_push_of_some _ (Heap.get?_push_of_some _ z)
  have hget : ((hp.push (PySem.W.kdv_tup us)).push (PySem.HandSPX.excO C hp.objs.size)).get? (hp.objs.size + 1) = some (PySem.HandSPX.excO C hp.objs.size) := by heap_get
  have I2 := I1.laid (t' := tk) (a := hp.objs.size + 1) (o := exo (hp.objs.size + 1) C none) (h' := (hp.push (PySem.W.kdv_tup us)).push (PySem.HandSPX.excO C hp.objs.size)) kk hsz (exo_ok hget)
  have r2 : Vals (V.ref (hp.objs.size + 1) :: vs) (Value.ref (hp.objs.size + 1) :: us) := .cons rfl r1
  have hl : (Value.ref (hp.objs.size + 1) :: us).length = ps.length := by
    rw [← r2.length]
    exact F1.len _ _ _ _ hq
  have hus : us.length ≤ sizeLine := by
    have e3 := Paired.length r1
    exact sz100 (by omega)
  have b2 := hb _ (Value.ref (hp.objs.size + 1) :: us) I2.kIn (by rw [List.append_nil]; exact hl)
  rw [List.append_nil] at b2
  refine wpAny_call (PySem.HandSPX.call_own F.excBase_ValueError (fun Y => PySem.HandSPX.refsVE_contains Y bm hbm) (I1.kIn _ _ hC) (PySem.W.looks_findIn I1.kIn iC) (fun self => PySem.W.bind_fn I1.kIn self tI) hus
    (codeAny_mono (F1.run _ X.stack _ _ ⟨Value.ref (hp.objs.size + 1) :: us, []⟩ (Value.ref (hp.objs.size + 1) :: us) _ _ (fun _ _ _ => False) (hr.make C us []) (I2.env0.make C us []) b2 r2 hq) fun r s2 hq2 => ?_))
  cases r with
  | error er => exact absurd hq2 (fun z => z)
  | ok fl =>
    cases fl with
    | ret u =>
      obtain ⟨v, H2, os2, bare2, un2, hok2, rv, ev, d, fs, ea, ed, hd1, q2⟩ := hq2
      subst ev
      obtain ⟨h2, g2, d2, t2, os3⟩ := s2
      obtain ⟨t0, G, J, kG, ge, hoe, na⟩ := mk_end0 (d2 := d2) (t2 := t2) I1 hsz kk un2 hok2 os2 bare2 ea ed hd1
      exact ⟨rv, hp.objs.size + 1, _, _, ⟨G, g2, d2, t2, os3⟩, _, .ref C, some d, rfl, J, kG, ge, hoe, ⟨rfl, rfl, fun vs hv => by cases hv; rfl⟩, rfl, rfl, na, rfl, bare2, raises_own T.exC T.tyC, q2⟩
    | next => exact hq2.elim
    | brk => exact hq2.elim
    | cont => exact hq2.elim
end

/-! ### what the top says of error classes -/
structure ErrCls (K : PySem.W.Frag) (mg : Str → Option Value) (C : Addr) (x : Str) : Prop where
  at_ : mg x = some (.ref C)
  xf : XfC K C
  ex : ExcC K C
  ty : PySem.W.typeIn K (.ref C) = some (.type "type")
structure ErrIni (K : PySem.W.Frag) (C : Addr) (qn : Str) (st : Stmt) (ps fs : List Str) : Prop where
  sup : SupC K C
  ini : ∃ fI fd, SupAt K C qn st fI fd ∧ PySem.W.findIn K (.ref C) "__init__" = some (some (.ref fI)) ∧ PySem.W.typeIn K (.ref fI) = some (.type "function") ∧ Binds K fd ps []
  no : ∀ f ∈ fs, PySem.W.findIn K (.ref C) f = some none
/-- C's __init__ keeps sp -/
structure EDef (P : Program) (w : World) (K : PySem.W.Frag) (mg : Str → Option Value) (base : Heap) (C : Addr) (x : Str) (ps : List Str) (sp : Sp) : Prop where
  at_ : mg x = some (.ref C)
  oex : OexC K C
  ini : ∃ fI fd, FnOk P w K mg base CX0 2 fI fd ps sp ∧ PySem.W.findIn K (.ref C) "__init__" = some (some (.ref fI)) ∧ PySem.W.typeIn K (.ref fI) = some (.type "function") ∧ Binds K fd ps []
theorem _root_.L2H.RoomH.units {k : Nat} {A : Around} (r : L2H.RoomH k A) : A.units + 64 < cLine := by
  have := r.un
  omega
theorem ErrCls.exm {K : PySem.W.Frag} {mg : Str → Option Value} {C : Addr} {x : Str} {cls : Value} {b : Bool} (E : ErrCls K mg C x) (h : PySem.W.subIn K cls (.ref C) = some b) : PySem.W.exmOne K cls (.ref C) = some b := PySem.W.exm_ref E.ex.hs E.ex.hd E.ty h
theorem ErrCls.kit {K : PySem.W.Frag} {mg : Str → Option Value} {C D : Addr} {x : Str} {b : Bool} (E : ErrCls K mg C x) (h : PySem.W.subIn K (.ref D) (.ref C) = some b) (hb : D = C → b = true) : PySem.W.kitOne K (.ref D) (.ref C) = some b := by
  unfold PySem.W.kitOne
  by_cases e : D = C
  · rw [if_pos (by rw [e]; exact beq_self_eq_true _), hb e]
  · rw [if_neg (by simpa using e)]
    show (if ((PySem.W.clsIn K C).isSome && PySem.W.typeIn K (.ref C) == some (.type "type")) = true then PySem.W.subIn K (.ref D) (.ref C) else none) = some b
    obtain ⟨cd, hc, _⟩ := PySem.W.any_some E.ex.hd
    rw [hc, E.ty, h]
    rfl
theorem ErrCls.kitF {K : PySem.W.Frag} {mg : Str → Option Value} {C D : Addr} {x : Str} (E : ErrCls K mg C x) (h : PySem.W.subIn K (.ref D) (.ref C) = some false) (hs : PySem.W.subIn K (.ref D) (.ref D) = some true) : PySem.W.kitOne K (.ref D) (.ref C) = some false := E.kit h fun e => by
  rw [e] at h hs
  rw [hs] at h
  cases h
theorem ErrCls.kitT {K : PySem.W.Frag} {mg : Str → Option Value} {C D : Addr} {x : Str} (E : ErrCls K mg C x) (h : PySem.W.subIn K (.ref D) (.ref C) = some true) : PySem.W.kitOne K (.ref D) (.ref C) = some true := E.kit h fun _ => rfl
theorem sz2 (vs : List V) (h : vs.length ≤ 2) : vs.length ≤ 1000 := by omega
section
variable {X : Cx} {C : Addr} {x f g : Str} {e : Expr} {es : List Expr} {ta : TA} {p pos : Pos}
theorem pmk_e1 {n : Str} (G : EDef X.prog X.w X.K X.mg X.base C x ["self", n] (sp_i1 C f)) (hr : Room 3 X.A) (ha : PA X (e :: es) ta) (hg : Gl X x := by rfl) (hdb : (x == ("__debug__" : Str)) = false := by decide)
    (he : starEach (e :: es) X.env = (false, eval e X.env) :: starEach es X.env := by rfl) (hpl : (backTo pos (starEach es X.env)).any (·.1) = false := by rfl) : L2N.PMk X (.Call (.Name x p) (e :: es) [] pos) (tErr C [f] ta) := by
  obtain ⟨fI, fd, F1, iC, tI, hb⟩ := G.ini
  refine pmk_oexN (R := fun Q vs H1 => vs.length = 1 ∧ (∀ v ∈ vs, Tell v) ∧ ∀ d, H1 d = none → Q (.ref C) (some d) (upd H1 d (.xd (([f] : List Str).zip vs).reverse))) (fun Q vs H1 hh => ?_) G.oex iC tI F1 hr hb hg G.at_ ha hdb he hpl
  obtain ⟨hl, ht, q⟩ := hh
  match vs, hl with
  | [v], _ =>
    refine ⟨sz2 _ (Nat.le_of_ble_eq_true rfl), fun a na => ⟨a, v, rfl, ht v List.mem_cons_self, upd_same, fun dx h1 h2 => ⟨rfl, dx, [(f, v)], upd_same, by rw [upd_ne h2, upd_same], ?_, ?_⟩⟩⟩
    · rw [upd_ne h2] at h1
      exact h1
    · rw [upd_ne h2] at h1
      rw [err_heap na h2 (H := H1) (fun b b1 b2 => by rw [upd_ne b1, upd_ne b2, upd_ne b1])]
      exact q dx h1
theorem pmk_e2 {n m : Str} (G : EDef X.prog X.w X.K X.mg X.base C x ["self", n, m] (sp_i2 C f g)) (hr : Room 3 X.A) (ha : PA X (e :: es) ta) (hg : Gl X x := by rfl) (hdb : (x == ("__debug__" : Str)) = false := by decide)
    (he : starEach (e :: es) X.env = (false, eval e X.env) :: starEach es X.env := by rfl) (hpl : (backTo pos (starEach es X.env)).any (·.1) = false := by rfl) : L2N.PMk X (.Call (.Name x p) (e :: es) [] pos) (tErr C [f, g] ta) := by
  obtain ⟨fI, fd, F1, iC, tI, hb⟩ := G.ini
  refine pmk_oexN (R := fun Q vs H1 => vs.length = 2 ∧ (∀ v ∈ vs, Tell v) ∧ ∀ d, H1 d = none → Q (.ref C) (some d) (upd H1 d (.xd (([f, g] : List Str).zip vs).reverse))) (fun Q vs H1 hh => ?_) G.oex iC tI F1 hr hb hg G.at_ ha hdb he hpl
  obtain ⟨hl, ht, q⟩ := hh
  match vs, hl with
  | [v, u], _ =>
    refine ⟨sz2 _ (Nat.le_of_ble_eq_true rfl), fun a na => ⟨a, v, u, rfl, ht v List.mem_cons_self, ht u (List.mem_cons_of_mem _ List.mem_cons_self), upd_same, fun dx h1 h2 => ⟨rfl, dx, [(g, u), (f, v)], ?_, upd_same, ?_, ?_⟩⟩⟩
    · rw [upd_ne (Ne.symm h2), upd_same]
    · rw [upd_ne h2] at h1
      exact h1
    · rw [upd_ne h2] at h1
      rw [err_heap na h2 (H := H1) (fun b b1 b2 => by rw [upd_ne b2, upd_ne b1, upd_ne b2, upd_ne b1])]
      exact q dx h1
end
/-! ### defs that raise -/
section
variable {P : Program} {w : World} {K : PySem.W.Frag} {mg : Str → Option Value} {base : Heap}
theorem _root_.RD.FunAt.okN {x : Str} {st : Stmt} {N ps : List Str} {k : Nat} {sp : Sp} (F : FunAt K mg x st ps) (S : FnScope N ps (defScope st)) (len : ∀ vs H Q E, sp vs H Q E → vs.length = ps.length)
    (hbody : ∀ (f : Addr) (cdv : Value) (A : Around) (outer : List Env) (s : Shared) (H : Hp) (vs : List V) (Q : VK) (E : XK), Room k (A.deeper (envOfC x (defScope st) s.heap.objs.size f cdv)) → sp vs H Q E →
      ∃ t, PSs (cxOf (L2N.CX P w) P w K mg base N x (defScope st) f cdv A outer s H E) (defBody st) t ∧ t { nx := fun _ H' => Q .non H', rt := Q } (start N vs) H) : Def P w K mg base (L2N.CX P w) (k + 1) x ps sp := by
  obtain ⟨f, fd, F, hm, hb⟩ := F.ex
  have kp := F.kp
  obtain ⟨oc, od, kV, doc, pm, an, cdv, ct, osl, rfl, lk, hcd⟩ := F.ex
  exact ⟨f, _, fn_of lk hcd S len fun A outer s H vs Q E hr hsp => hbody f cdv A outer s H vs Q E hr hsp, hm, kp, hb⟩
theorem cx_of_cxn {outer : List Env} {H : Hp} {s : Shared} {E : XK} {u : Value} {s2 : Shared} (h : L2N.CX P w outer H s E u s2) : L2.CX P w outer H s E u s2 := by
  obtain ⟨a, B, H2, cls, d, e1, fl, r⟩ := h
  exact ⟨a, B, H2, cls, d, e1, L2H.flyingZ_imp (fun _ z => z.zc) fl, r⟩
theorem _root_.RD.Def.toX {x : Str} {ps : List Str} {k : Nat} {sp : Sp} (G : Def P w K mg base (L2N.CX P w) k x ps sp) : Def P w K mg base (L2.CX P w) k x ps sp := by
  obtain ⟨f, fd, F, r⟩ := G.ex
  refine ⟨f, fd, ⟨F.len, fun A outer s H args us vs Q E hr e0 hb hv hs => codeAny_mono (F.run A outer s H args us vs Q E hr e0 hb hv hs) fun r s2 hq => ?_⟩, r⟩
  cases r with
  | error e => exact cx_of_cxn hq
  | ok fl => cases fl <;> exact hq
end
section
variable {X : Cx} {k : Nat} {ps : List Str} {sp : Sp} {x : Str} {p pos : Pos} {e : Expr} {es : List Expr} {t : TA} {W : WX}
/-- a call that may raise -/
theorem pe_callX (G : Def X.prog X.w X.K X.mg X.base (L2.CX X.prog X.w) k x ps sp) (tk : L2.Takes X W) (hr : Room k X.A) (ha : PA X (e :: es) t) (hg : Gl X x := by rfl)
    (hdb : (x == ("__debug__" : Str)) = false := by decide) (he : starEach (e :: es) X.env = (false, eval e X.env) :: starEach es X.env := by rfl) (hpl : (backTo pos (starEach es X.env)).any (·.1) = false := by rfl) : PE X (.Call (.Name x p) (e :: es) [] pos) (tCallS sp (WE W) t) := by
  obtain ⟨f, fd, F, hm, hk, hb⟩ := G.ex
  exact pe_callS F hr hg hm hk hb (fun σ => L2.passAt tk σ) ha hdb he hpl
theorem pe_callN (G : Def X.prog X.w X.K X.mg X.base (L2N.CX X.prog X.w) k x ps sp) (tk : L2N.Takes X W) (hr : Room k X.A) (ha : PA X (e :: es) t) (hg : Gl X x := by rfl)
    (hdb : (x == ("__debug__" : Str)) = false := by decide) (he : starEach (e :: es) X.env = (false, eval e X.env) :: starEach es X.env := by rfl) (hpl : (backTo pos (starEach es X.env)).any (·.1) = false := by rfl) : PE X (.Call (.Name x p) (e :: es) [] pos) (tCallS sp (WE W) t) := by
  obtain ⟨f, fd, F, hm, hk, hb⟩ := G.ex
  exact pe_callS F hr hg hm hk hb (fun σ => L2N.passAt tk σ) ha hdb he hpl
end
/-! ### in an except suite -/
/-- what a def promises wherever it is called: nothing in it asks what is handled -/
structure FnW (P : Program) (w : World) (K : PySem.W.Frag) (mg : Str → Option Value) (base : Heap) (k : Nat) (f : Addr) (fd : FuncData) (ps : List Str) (sp : Sp) : Prop where
  len : ∀ vs H Q E, sp vs H Q E → vs.length = ps.length
  run : ∀ (A : Around) (outer : List Env) (s : Shared) (H : Hp) (args : Args) (us : List Value) (vs : List V) (Q : VK) (E : XK), L2H.RoomH k A → Env0 P w K mg base A outer s H → BindsTo s fd args (ps.zip us) → Vals vs us → sp vs H Q E →
    codeAny (model P w) A (.call (.ref f) args) (CR CX0 outer P w H s Q E) s
structure DefW (P : Program) (w : World) (K : PySem.W.Frag) (mg : Str → Option Value) (base : Heap) (k : Nat) (x : Str) (ps : List Str) (sp : Sp) : Prop where
  ex : ∃ f fd, FnW P w K mg base k f fd ps sp ∧ mg x = some (.ref f) ∧ PySem.W.keepIn K (.ref f) = true ∧ Binds K fd ps []
def cxW (P : Program) (w : World) (K : PySem.W.Frag) (mg : Str → Option Value) (base : Heap) (N : List Str) (qual : Str) (scope : Scope) (f : Addr) (cd : Value) (A : Around) (outer : List Env) (s : Shared) (H : Hp) (E : XK) : Cx :=
  { cxOf CX0 P w K mg base N qual scope f cd A outer s H E with calm := false, xe := fun _ _ => False }
theorem env0_mark {P : Program} {w : World} {K : PySem.W.Frag} {mg : Str → Option Value} {base : Heap} {A : Around} {outer : List Env} {s : Shared} {H : Hp} (e : Env0 P w K mg base A outer s H) : Env0 P w K mg base { A with handled := none } outer s H :=
  ⟨e.frames, e.mod, e.bs, e.bsz, e.funs, e.frf, e.hok, e.bare⟩
theorem _root_.RD.FunAt.okW {P : Program} {w : World} {K : PySem.W.Frag} {mg : Str → Option Value} {base : Heap} {x : Str} {st : Stmt} {N ps : List Str} {k : Nat} {sp : Sp} (F : FunAt K mg x st ps) (S : FnScope N ps (defScope st)) (len : ∀ vs H Q E, sp vs H Q E → vs.length = ps.length)
    (hbody : ∀ (f : Addr) (cdv : Value) (A : Around) (outer : List Env) (s : Shared) (H : Hp) (vs : List V) (Q : VK) (E : XK), L2H.RoomH k (A.deeper (envOfC x (defScope st) s.heap.objs.size f cdv)) → sp vs H Q E →
      ∃ t, PSs (cxW P w K mg base N x (defScope st) f cdv A outer s H E) (defBody st) t ∧ t { nx := fun _ H' => Q .non H', rt := Q } (start N vs) H) : DefW P w K mg base (k + 1) x ps sp := by
  obtain ⟨f, fd, F, hm, hbd⟩ := F.ex
  have kp := F.kp
  obtain ⟨oc, od, kV, doc, pm, an, cdv, ct, osl, rfl, lk, hcd⟩ := F.ex
  refine ⟨f, _, ⟨len, fun A outer s H args us vs Q E hr e0 hb r hsp => ?_⟩, hm, kp, hbd⟩
  have hl := len _ _ _ _ hsp
  have inS := e0.mod.kin.keeps fun b o e => (e0.bs b o e).1
  have lim := e0.mod.nolimit.keeps fun b o e => (e0.bs b o e).1
  have hkind : ∀ y ∈ ps.zip us, (defScope st).names.lookup y.1 = some .local ∨ ((defScope st).names.lookup y.1 = some .cell ∧ ((cellsFrom (s.heap.objs.size + 1) (defScope st).names []).lookup y.1).isSome = true) := fun ⟨n, v⟩ hy => (S.par n (List.of_mem_zip hy).1).imp id fun q => ⟨q, PySem.W.cellsFrom_some _ _ _ (.inl q)⟩
  refine codeAny_call_function hr.depth (inS _ _ lk) rfl S.co S.gen rfl (PySem.W.codeRec_of inS hcd) (hb _ _ _ _ (wpAny_newFunctionEnv_cells S.kind hkind fun env he s1 ic => ?_))
  subst he
  refine ⟨lim.keeps ic.toInCall.keep, codeAny_func ?_⟩
  obtain ⟨t, ht, hq⟩ := hbody f cdv A outer s H vs Q E (hr.deeper _) hsp
  have J : Inv (cxOf CX0 P w K mg base N x (defScope st) f cdv { A with handled := none } outer s H E) [] (start N vs) H s1 := inv_start S rfl (env0_mark e0) hl r ic
  have I : Inv (cxW P w K mg base N x (defScope st) f cdv A outer s H E) [] (start N vs) H s1 :=
    ⟨⟨J.ok.mod, J.ok.kind, J.ok.glob, J.ok.blt, J.ok.above, J.ok.inj, J.ok.has, J.ok.cab, fun z => (by cases z), Around.frames_deeper e0.frames, J.ok.stk, J.ok.exf, J.ok.bs, J.ok.bsz, J.ok.noex, J.ok.exfs, J.ok.funs, J.ok.frf⟩, J.os, J.bare, J.base, J.loc, J.cell, J.free, J.freeC, J.pin, J.hok, J.len⟩
  refine wpAny_mono (ht.run [] s1 (start N vs) H _ I hq) (fun fl s2 hs => ?_) fun e s2 hs => False.elim hs
  have fin : ∀ {σ2 : L2.St} {H2 : Hp} {v : V} {u : Value}, Inv (cxW P w K mg base N x (defScope st) f cdv A outer s H E) [] σ2 H2 s2 → RelV v u → Q v H2 → CE outer P w H s Q u s2 := fun {σ2 H2 v u} J2 rv q => ⟨v, H2, J2.os, J2.bare, J2.base, J2.hok, rv, q⟩
  cases fl with
  | ret u =>
    obtain ⟨v, σ2, H2, J2, rv, q⟩ := hs
    exact fin J2 rv q
  | next =>
    obtain ⟨σ2, H2, J2, q⟩ := hs
    exact fin (v := V.non) (u := Value.none) J2 rfl q
  | brk => exact hs.elim fun _ h => h.elim fun _ h => h.2.elim
  | cont => exact hs.elim fun _ h => h.elim fun _ h => h.2.elim
section
variable {X : Cx} {k : Nat} {ps : List Str} {sp : Sp} {x : Str} {p pos : Pos} {e : Expr} {es : List Expr} {t : TA}
theorem pe_callW (G : DefW X.prog X.w X.K X.mg X.base k x ps sp) (hr : L2H.RoomH k X.A) (ha : PA X (e :: es) t) (hg : Gl X x := by rfl)
    (hdb : (x == ("__debug__" : Str)) = false := by decide) (he : starEach (e :: es) X.env = (false, eval e X.env) :: starEach es X.env := by rfl) (hpl : (backTo pos (starEach es X.env)).any (·.1) = false := by rfl) : PE X (.Call (.Name x p) (e :: es) [] pos) (tCall sp [] E0 t) := by
  obtain ⟨f, fd, F, hm, hk, hb⟩ := G.ex
  refine ⟨fun pins s σ H Q I h => ?_⟩
  refine wpAny_Call_Name_kw (ld_glob I hg hm (PySem.W.callWith_K (h₀ := X.base) I.ok.mod.kin hk (thn (ha.run pos pins s σ H _ I h) fun us s1 hh => ?_) he hpl) hdb)
  obtain ⟨vs, H1, I1, r, q⟩ := hh
  rw [List.append_nil] at q
  have b := hb s1 us I1.kIn (by rw [List.append_nil, ← r.length]; exact F.len _ _ _ _ q)
  rw [List.append_nil] at b
  refine ⟨I1.kIn, wpAny_call (codeAny_mono (F.run X.A X.stack s1 H1 ⟨us, []⟩ us vs Q E0 hr I1.env0 b r q) fun r s2 hq => ?_)⟩
  cases r with
  | error e => exact hq.elim
  | ok fl =>
    cases fl with
    | ret u => exact I1.after hq
    | next => exact hq.elim
    | brk => exact hq.elim
    | cont => exact hq.elim
end
/-- isinstance(e, c), e the caught error (at a; its class cls, its dict d) -/
def rIsED (K : PySem.W.Frag) (a : Addr) (cls : Value) (d : Option Addr) : List V → Hp → VK → Prop := fun xs H Q => ∃ (D : Addr) (c : V) (cv : Value) (b : Bool) (dd : Addr) (fs : List (Str × V)), xs = [.ref a, c] ∧ cls = .ref D ∧ ExcC K D ∧ d = some dd ∧ H dd = some (.xd fs) ∧
  (∀ u, RelV c u → u = cv) ∧ PySem.W.kitOne K (.ref D) cv = some b ∧ Q (.bl b) H
theorem call_isED {X : Cx} {a : Addr} {cls : Value} {d : Option Addr} {oe : Obj} {pn : List (Addr × Obj)} (hz : Zc cls d oe) (hf : ∃ vs, oe.data = .fields vs) : CallR (X.suite a ((a, oe) :: pn)) (.builtin "isinstance") (rIsED X.K a cls d) := by
  intro pins s σ H xs us Q I r h
  obtain ⟨D, c, cv, b, dd, fs, rfl, hcl, T, hdd, hxd, hcv, e, q⟩ := h
  cases r with
  | cons rx rr =>
    cases rr with
    | cons rt rr =>
      cases rr
      cases rx
      have ec := hcv _ rt
      subst ec
      subst hcl
      subst hdd
      obtain ⟨hget, _⟩ := I.pin (a, oe) (List.mem_append.mpr (.inl List.mem_cons_self))
      obtain ⟨vs, hv⟩ := hf
      have hx : ObjOk X.prog X.w H s.heap dd (.xd fs) := I.hok dd _ hxd
      obtain ⟨mA, hns, _⟩ := hx
      obtain ⟨od, ho, _⟩ := lookIn_ns hns
      have J : PySem.W.InstAt s.heap a oe D (some od) := ⟨hget, hz.1, by unfold PySem.W.notCls; rw [hv], by rw [hz.2]; exact ho⟩
      obtain ⟨cd, hcc, _⟩ := PySem.W.any_some T.hd
      exact PySem.W.kia_one (PySem.W.kitx_exc (by rw [hcc]; rfl) T.hg T.hk T.hs T.ha T.hn T.ht T.hm) I.kIn J e (fun z => nomatch z) fun tk => ⟨.bl b, H, I.kept (t' := tk) fun _ _ z => z, rfl, q⟩
/-- e.f of the caught error -/
def tXfD (K : PySem.W.Frag) (a : Addr) (cls : Value) (d : Option Addr) (f : Str) (te : TE) : TE := fun σ H Q => te σ H fun x H1 => x = .ref a ∧ ∃ (D dd : Addr) (fs : List (Str × V)) (v : V), cls = .ref D ∧ XfC K D ∧ PySem.W.findIn K (.ref D) f = some none ∧ d = some dd ∧ H1 dd = some (.xd fs) ∧ fs.lookup f = some v ∧ Q v H1
theorem pe_xfD {X : Cx} {a : Addr} {oe : Obj} {cls : Value} {d : Option Addr} {pn : List (Addr × Obj)} {e : Expr} {te : TE} {pos : Pos} {n : Str}
    (hz : Zc cls d oe) (hf : ∃ vs, oe.data = .fields vs) (he : PE (X.suite a ((a, oe) :: pn)) e te) (hb : attributeBase e n X.env (eval e X.env) = eval e X.env := by rfl) :
    PE (X.suite a ((a, oe) :: pn)) (.Attribute e n pos) (tXfD X.K a cls d n te) := by
  refine ⟨fun pins s σ H Q I h => attr_of hb (thn (he.run pins s σ H _ I h) fun u s1 hh => ?_)⟩
  obtain ⟨x, H1, I1, rx, ex, D, dd, fs, v, ec, T, hno, ed, ea, l, q⟩ := hh
  subst ex
  obtain rfl : u = Value.ref a := rx
  subst ec
  subst ed
  obtain ⟨ha, _⟩ := I1.pin (a, oe) (List.mem_append_left _ List.mem_cons_self)
  obtain ⟨vs, hd⟩ := hf
  have hx : ObjOk X.prog X.w H1 s1.heap dd (.xd fs) := I1.hok dd _ ea
  obtain ⟨mA, hns, hr⟩ := hx
  obtain ⟨od, ho, hl⟩ := lookIn_ns hns
  obtain ⟨u, hu, ru⟩ := RelO.some_of (v := v) (o := mA n) (by rw [← l]; exact hr n)
  have J : PySem.W.InstAt s1.heap a oe D (some od) := ⟨ha, hz.1, by unfold PySem.W.notCls; rw [hd], by rw [hz.2]; exact ho⟩
  exact HandSPX.exc_get I1.kIn J T.ga T.gg T.exC (PySem.W.findObj_own T.hdC hno rfl (by rw [hl, hu])) (handed_of ru) ⟨v, H1, I1.tok _, ru, q⟩

/-! ### named readings -/
def tRaise (t : L2.St → Hp → XK → Prop) (W : WX) : TS := fun _ σ H => t σ H fun cls d H' => W cls d σ H'
theorem ps_raiseE {X : Cx} {W : WX} {e : Expr} {t : L2.St → Hp → XK → Prop} {pos : Pos} (hc : X.calm = true) (tk : L2N.Takes X W) (he : L2N.PMk X e t) : PS X (.Raise (some e) none pos) (tRaise t W) := L2N.ps_raise hc tk he
def tTryA (K : PySem.W.Frag) (c : Value) (i : Nat) (ts : Addr → Value → Option Addr → TS) (tb : WX → TS) : TS := fun D σ H => tb (wAs K c i ts (fun _ _ _ _ => False) D) D σ H
theorem ps_tryA {X : Cx} {x n : Str} {c : Value} {i : Nat} {body suite : List Stmt} {b₀ : Stmt} {np pos pos' : Pos} {tb : WX → TS} {ts : Addr → Value → Option Addr → TS} (hs : X.stack = X.env :: X.outer) (hf : X.env.frame = some X.env.locals) (hN : X.N.Nodup) (hi : X.N[i]? = some n) (hln : X.env.kindOf n = some .local) (hc : Names X x c)
    (hb : ∀ (W : WX) (pn : List (Addr × Obj)) (xe : Value → Shared → Prop), L2.Takes (X.tr pn xe) W → PassesOwn (model X.prog X.w) X.A X.env xe → PSs (X.tr pn xe) body (tb W))
    (hsu : ∀ (a : Addr) (oe : Obj) (cls : Value) (d : Option Addr) (pn : List (Addr × Obj)), Zc cls d oe → (∃ vs, oe.data = .fields vs) → PSs (X.suite a ((a, oe) :: pn)) (b₀ :: suite) (ts a cls d)) :
    PS X (.Try body [.ExceptHandler (some (.Name x np)) (some n) (b₀ :: suite) pos'] [] [] pos) (tTryA X.K c i ts tb) := L2.ps_try_as hs hf hN hi hln hc L2.takes0 hb hsu
theorem r_tryA {K : PySem.W.Frag} {c : Value} {i : Nat} {ts : Addr → Value → Option Addr → TS} {tb : WX → TS} {D : Ends} {σ : L2.St} {H : Hp} (q : tb (wAs K c i ts (fun _ _ _ _ => False) D) D σ H) : tTryA K c i ts tb D σ H := q
theorem r_callS {sp : Sp} {E : L2.St → XK} {t : TA} {σ : L2.St} {H : Hp} {Q : VK} (q : t σ H fun vs H1 => sp vs H1 Q (E σ)) : tCallS sp E t σ H Q := q
theorem r_raise {C : Addr} {fs : List Str} {ta : TA} {W : WX} {D : Ends} {σ : L2.St} {H : Hp} (q : ta σ H fun vs H1 => vs.length = fs.length ∧ (∀ v ∈ vs, Tell v) ∧ ∀ d, H1 d = none → W (.ref C) (some d) σ (upd H1 d (.xd (fs.zip vs).reverse))) : tRaise (tErr C fs ta) W D σ H := q
/-- the clause takes it -/
theorem w_yes {K : PySem.W.Frag} {cls c : Value} {d : Option Addr} {i : Nat} {ts : Addr → Value → Option Addr → TS} {Wout : WX} {D : Ends} {σ : L2.St} {H : Hp} (hb : PySem.W.exmOne K cls c = some true)
    (q : ∀ a, H a = none → ts a cls d { nx := fun σ' H' => D.nx (σ'.set i none) H', rt := D.rt, bk := fun σ' H' => D.bk (σ'.set i none) H', ct := fun σ' H' => D.ct (σ'.set i none) H' } (σ.set i (some (.ref a))) H) : wAs K c i ts Wout D cls d σ H := ⟨true, hb, fun _ => q, fun z => by cases z⟩
theorem r_isED {K : PySem.W.Frag} {a D C dd : Addr} {b : Bool} {fs : List (Str × V)} {H : Hp} {Q : VK} (T : ExcC K D) (hx : H dd = some (.xd fs)) (hk : PySem.W.kitOne K (.ref D) (.ref C) = some b) (q : Q (.bl b) H) : rIsED K a (.ref D) (some dd) [.ref a, .ref C] H Q :=
  ⟨D, .ref C, .ref C, b, dd, fs, rfl, rfl, T, rfl, hx, fun u h => h, hk, q⟩
theorem r_xfD {K : PySem.W.Frag} {a : Addr} {cls : Value} {d : Option Addr} {f : Str} {te : TE} {σ : L2.St} {H : Hp} {Q : VK} (q : te σ H fun x H1 => x = .ref a ∧ ∃ (D dd : Addr) (fs : List (Str × V)) (v : V), cls = .ref D ∧ XfC K D ∧ PySem.W.findIn K (.ref D) f = some none ∧ d = some dd ∧ H1 dd = some (.xd fs) ∧ fs.lookup f = some v ∧ Q v H1) : tXfD K a cls d f te σ H Q := q
/-- an error's dict beside the tracked heap -/
theorem _root_.RD.Own.xd {H0 H : Hp} {L : List (Addr × HO)} {d : Addr} {fs : List (Str × V)} (o : Own H0 H L) (hd : H d = none) : Own H0 (upd H d (.xd fs)) ((d, .xd fs) :: L) := o.new hd

/-! ### a def that may raise, called where it does not -/
def spZ (sp : Sp) : Sp := fun vs H Q _ => sp vs H Q (fun _ _ _ => False)
section
variable {P : Program} {w : World} {K : PySem.W.Frag} {mg : Str → Option Value} {base : Heap}
theorem _root_.RD.Def.toZ {x : Str} {ps : List Str} {k : Nat} {sp : Sp} (G : Def P w K mg base (L2.CX P w) k x ps sp) : Def P w K mg base CX0 k x ps (spZ sp) := by
  obtain ⟨f, fd, F, r⟩ := G.ex
  refine ⟨f, fd, ⟨fun vs H Q E h => F.len vs H Q _ h, fun A outer s H args us vs Q E hr e0 hb hv hs => codeAny_mono (F.run A outer s H args us vs Q (fun _ _ _ => False) hr e0 hb hv hs) fun r s2 hq => ?_⟩, r⟩
  cases r with
  | error e =>
    obtain ⟨a, B, H2, cls, d, e1, fl, h1, h2, h3, h4, h5, h6⟩ := hq
    exact h6
  | ok fl => cases fl <;> exact hq
end

/-! ### own errors raised in an except suite -/
section
variable {P : Program} {w : World} {K : PySem.W.Frag} {mg : Str → Option Value} {base : Heap}
theorem SupAt.okH {C fI : Addr} {qn : Str} {st : Stmt} {N ps : List Str} {k : Nat} {sp : Sp} {fd : FuncData} {p0 p1 p2 p3 p4 : Pos} {msg : Expr} {pl : Env → Sem Bool} {rest : List Stmt} {ar : Arg} (S : SupAt K C qn st fI fd) (hP : PrOk P) (U : SupC K C) (Z : NdefX.NScope N ps ["__class__"] (defScope st))
    (hsup : mg "super" = none) (har : ((defArgs st).posonlyargs ++ (defArgs st).args).head? = some ar) (han : ps.head? = some ar.arg)
    (hks : (defScope st).names.lookup ("super" : Str) = some .globalImplicit)
    (hB : defBody st = .Expr (.Call (.Attribute (.Call (.Name "super" p0) [] [] p1) "__init__" p2) [msg] [] p3) p4 :: rest)
    (hst : ∀ env : Env, starEach [msg] env = [(false, eval msg env)]) (hsw : ∀ env : Env, swapsWith (.Call (.Attribute (.Call (.Name "super" p0) [] [] p1) "__init__" p2) [msg] [] p3) none p4.line env = pure false)
    (hev : ∀ env : Env, eval (.Call (.Attribute (.Call (.Name "super" p0) [] [] p1) "__init__" p2) [msg] [] p3) env = (do
      let ov ← attributeBase (.Call (.Name "super" p0) [] [] p1) "__init__" env (eval (.Call (.Name "super" p0) [] [] p1) env)
      standAt p2.atName
      let (f, first) ← holding [ov] (getMethod ov "__init__" (pl env))
      callWith p3 f first (backTo p3 (starEach [msg] env)) []))
    (len : ∀ vs H Q E, sp vs H Q E → vs.length = ps.length)
    (hbody : ∀ (cda cc : Addr) (A : Around) (outer : List Env) (s : Shared) (H : Hp) (vs : List V) (Q : VK) (E : XK) (pp : Addr × Obj), L2H.RoomH k (A.deeper (NdefX.envF (supF qn st cda cc) fI s.heap.objs.size)) → sp vs H Q E →
      ∃ (a : Addr) (vs2 : List V) (tm : TE) (tr : TS), vs = .ref a :: vs2 ∧ H a = some (exo a C none) ∧ PE (NdefX.ncxH CX0 P w K mg base N (supF qn st cda cc) fI A outer s H E pp) msg tm ∧ PSs (NdefX.ncxH CX0 P w K mg base N (supF qn st cda cc) fI A outer s H E pp) rest tr ∧
        tm (NdefX.startF N vs [none]) H fun x H1 => (∃ v, [x] = [v]) ∧ H1 a = some (exo a C none) ∧ tr { nx := fun _ H' => Q .non H', rt := Q } (NdefX.startF N vs [none]) H1) :
    L2H.FnH P w K mg base CX0 (k + 1) fI fd ps sp := by
  obtain ⟨oc, od, kV, doc, pm, an, cda, cc, ct, osl, rfl, lk, hcd, ⟨cl1, cld1, csl1, hcc⟩, cl2, cld2, csl2, fs, tf, hcda, hfs⟩ := S.ex
  refine ⟨len, fun A outer s H args us vs Q E pp hr hhot hpin e0 hb r hsp => ?_⟩
  have KX : K.In s.heap := e0.mod.kin.keeps fun b o e => (e0.bs b o e).1
  have lim : s.heap.NoLimit := e0.mod.nolimit.keeps fun b o e => (e0.bs b o e).1
  have hl := len _ _ _ _ hsp
  have ccH : H cc = none := (e0.bs cc _ (e0.mod.kin _ _ hcc)).2
  have CA : NdefX.CellsAt [("__class__", cc)] ["__class__"] [none] s.heap H := by
    have look : ∀ y c, List.lookup y [(("__class__" : Str), cc)] = some c → y = "__class__" ∧ c = cc := fun y c h => by
      by_cases e : y = "__class__"
      · subst e
        simp [List.lookup] at h
        exact ⟨rfl, h.symm⟩
      · have e2 : (y == ("__class__" : Str)) = false := by simpa using e
        simp [List.lookup, e2] at h
    refine ⟨rfl, fun y c h => ?_, fun x y c h1 h2 => ?_, fun i y h => ?_⟩
    · obtain ⟨rfl, rfl⟩ := look y c h
      exact ⟨ccH, _, _, KX _ _ hcc, rfl⟩
    · rw [(look x c h1).1, (look y c h2).1]
    · match i, h with
      | 0, h =>
        have e : y = "__class__" := (Option.some.inj h).symm
        subst e
        exact ⟨cc, by simp [List.lookup], fun v z => by cases z⟩
  obtain ⟨a, vs2, tm, tr, hvs, ha, hm, htr, hq⟩ := hbody cda cc A outer s H vs Q E pp (hr.deeper _) hsp
  refine PySem.ks_codeAny_call_defAt (binds := ps.zip us) hr.depth (KX _ _ lk) rfl lim (PySem.W.codeRec_of KX hcd) rfl hb Z.nocell (fun ⟨n, _⟩ hy => Z.par n (List.of_mem_zip hy).1) (fun h₀ hns kp => ?_) Z.co Z.gen Z.kind
  have I := NdefX.inv_startNH (f := fI) (F := supF qn st cda cc) (CX := CX0) (E := E) (tk := s.toks + (ps.zip us).length) Z hpin e0 hl r CA hns kp
  have q0 : ∃ us2, us = .ref a :: us2 := by
    subst hvs
    cases r with
    | @cons _ u0 _ ur r0 r1 =>
      obtain rfl : u0 = Value.ref a := r0
      exact ⟨ur, rfl⟩
  obtain ⟨us2, hus⟩ := q0
  obtain ⟨p', ps2, hps⟩ : ∃ p' ps2, ps = p' :: ps2 := by
    cases ps with
    | nil => cases han
    | cons p' ps2 => exact ⟨p', ps2, rfl⟩
  have hp' : p' = ar.arg := by
    rw [hps] at han
    exact Option.some.inj han
  have ndP : ps.Nodup := by
    have q := Z.nd.sublist (List.take_sublist (ps.length + 1) N)
    rw [show N.take (ps.length + 1) = ps ++ [("__class__" : Str)] from Z.pre] at q
    exact (List.nodup_append.mp q).1
  have hself : (ps.zip us).reverse.lookup ar.arg = some (.ref a) := by
    refine NdefX.zip_look (i := 0) ndP ?_ ?_
    · rw [hps, hp']; rfl
    · rw [hus]; rfl
  have hself2 : (defScope st).names.lookup ar.arg = some .local := by
    rw [← hp']
    exact Z.par p' (by rw [hps]; exact List.mem_cons_self ..)
  refine PySem.ks_wpAt_mono (Q := SP (NdefX.ncxH CX0 P w K mg base N (supF qn st cda cc) fI A outer s H E pp) [] { nx := fun _ H' => Q .non H', rt := Q }) (E := (NdefX.ncxH CX0 P w K mg base N (supF qn st cda cc) fI A outer s H E pp).xe) ?_ (fun fl s' hs => ?_) fun _ _ z => z
  · show PySem.wpAt _ _ _ (execs (defBody st) _) _ _ _
    obtain ⟨oD, hD0, hD2⟩ : ∃ o, K.lookup C = some o ∧ ∃ cd, o.data = .cls cd ∧ PySem.W.clsIn K C = some cd := by
      have q := U.self
      unfold PySem.W.mroIn at q
      cases z : PySem.W.clsIn K C with
      | none => rw [z] at q; cases q
      | some cd =>
        obtain ⟨o, h1, h2⟩ := cls_obj z
        exact ⟨o, h1, cd, h2, rfl⟩
    obtain ⟨cd, hD3, hD4⟩ := hD2
    have K1 := I.kIn
    obtain ⟨t1, ho⟩ := exo_at I.hok ha
    have gN := I.mod.glob.keeps I.bk
    obtain ⟨mb, hmb1, hmb2⟩ := I.mod.blt
    have bN := hmb1.keeps I.bk
    rw [hB]
    refine PySem.ks_wpAt_execs_cons ?_
    refine PySem.ks_wpAt_Expr_any ?_ (by show ((defScope st).kind == .module && _) = false; rw [Z.kind]; rfl) (hsw _)
    refine PySem.ks_wpAt_MethodCall ?_ (hev _)
    refine PySem.ks_wpAt_super_base hks (Z.frk _ (List.mem_singleton.mpr rfl)) (by decide) rfl (K1 _ _ lk) rfl har rfl (K1 _ _ hcda) rfl hfs (by rw [hP.file]; exact beq_self_eq_true _) hP.top ?_
    refine PySem.W.ks_loadName_global Z.kind hks (Calls.loadGlobal_builtin gN hsup bN ((hmb2 _ (by decide)).trans (by kernel_rfl)) ⟨rfl, ?_⟩)
    refine wpAny_loadName_free Z.kind (Z.frk _ (List.mem_singleton.mpr rfl)) (show List.lookup ("__class__" : Str) [(("__class__" : Str), cc)] = some cc by simp [List.lookup]) ⟨_, K1 _ _ hcc, rfl⟩ ?_
    refine wpAny_loadName_local Z.kind hself2 hns hself ?_
    refine PySem.ks_wpAny_isType_cls (K1 _ _ hD0) hD3 ⟨rfl, ?_⟩
    refine PySem.ks_wpAny_call_super (K1 _ _ hD0) hD3 ho rfl (fun c z => by cases z) (PySem.W.looks_mroIn K1 U.self) (fun h1 e1 k1 => ?_)
    have I1 := I.kept (t' := s.toks + (ps.zip us).length) k1
    have J1 : PySem.W.InstAt h1 a _ C none := ⟨k1 _ _ ho, rfl, rfl, trivial⟩
    have hf : PySem.W.alongIn K "__init__" ((cd.mro.dropWhile (· != .ref C)).drop 1) = some (some (.builtin "ValueError.__init__")) := by
      have q := U.ini
      unfold PySem.W.ks_superIn at q
      rw [hD4] at q
      exact q
    refine PySem.W.kxs_getMethod PySem.W.kxs_ValueError e1 (PySem.W.looks_opaque I1.kIn U.stat) (l₀ := cd.mro) (fun A Q E s k q => wpAny_bind ((PySem.W.looks_clsIn I1.kIn hD4) A _ E s k (wpAny_pure q))) rfl I1.kIn hf (J1.type.andThen (PySem.W.looks_subIn I1.kIn U.sub)) (PySem.W.ks_ne I1.kIn J1 hD4) (by decide) ?_
    have I2 := I1.kept (t' := s.toks + (ps.zip us).length + 1) (h' := h1.push (PySem.W.kxs_mw "ValueError.__init__" a)) (fun b o q => Heap.get?_push_of_some _ q)
    have I3 := I2.pins_of (pins' := [(h1.objs.size, PySem.W.kxs_mw "ValueError.__init__" a)]) (fun p hp => by
      rw [List.mem_singleton.mp hp]
      exact ⟨Heap.get?_push_size _ rfl, I1.hok.fresh (Nat.le_refl _), Nat.ne_of_gt I1.lt, I1.nofs (Nat.le_refl _), fun v z => by cases z⟩)
    refine mw_call1 (i := "ValueError.__init__") (x := a) (hst _) ?_
    have hst0 := hst (NdefX.ncxH CX0 P w K mg base N (supF qn st cda cc) fI A outer s H E pp).env
    refine thn ((pa_cons hm pa_nil hst0).run p3 _ _ _ H (fun us2 H1 => (∃ v, us2 = [v]) ∧ H1 a = some (exo a C none) ∧ tr { nx := fun _ H' => Q .non H', rt := Q } (NdefX.startF N vs [none]) H1) I3 ?_) fun us3 s3 hh => ?_
    · exact hq
    obtain ⟨vs3, H1, I4, r4, ⟨v3, hv3⟩, ha1, hq1⟩ := hh
    subst hv3
    have hlen : us3.length ≤ sizeLine := by
      rw [← Paired.length r4]
      exact (by decide : 1 ≤ sizeLine)
    have hu : s3.heap.get? h1.objs.size = some (PySem.W.kxs_mw "ValueError.__init__" a) := (I4.pin _ (List.mem_append_right _ (List.mem_singleton.mpr rfl))).1
    refine ⟨hu, ?_⟩
    obtain ⟨t3, ho3⟩ := exo_at I4.hok ha1
    obtain ⟨nm, qq, nn, bs, bm, sn, sub, ab, col, dd, z0, z1, z2, z3, z5, hC, hbm⟩ := U.oex.cls
    obtain ⟨hp3, g3, d3, tk3, os3⟩ := s3
    have fin : ∀ h', (∀ b o, b ≠ a → hp3.get? b = some o → h'.get? b = some o) → h'.get? a = some (PySem.W.excObj C hp3.objs.size none .none) →
        PySem.wpAt (model P w) (A.deeper (NdefX.envF (supF qn st cda cc) fI s.heap.objs.size)) (.func (.Expr (.Call (.Attribute (.Call (.Name "super" p0) [] [] p1) "__init__" p2) [msg] [] p3) p4 :: rest) (NdefX.envF (supF qn st cda cc) fI s.heap.objs.size))
          (execs rest (NdefX.envF (supF qn st cda cc) fI s.heap.objs.size)) (SP (NdefX.ncxH CX0 P w K mg base N (supF qn st cda cc) fI A outer s H E pp) [] { nx := fun _ H' => Q .non H', rt := Q }) (NdefX.ncxH CX0 P w K mg base N (supF qn st cda cc) fI A outer s H E pp).xe ⟨h', g3, d3, tk3, os3⟩ := fun h' k hx => by
      have J := I4.write (t' := tk3) (x := a) (e := a) (o := exo a C none) (by rw [ha1]; exact True.intro) (.inl rfl) k ⟨_, hx⟩ (exo_ok hx)
      have eu : upd H1 a (exo a C none) = H1 := funext fun b => by
        by_cases hb : b = a
        · rw [hb, upd_same, ha1]
        · exact upd_ne hb
      rw [eu] at J
      exact PySem.wpAt_of_wpAny (htr.run [] _ _ H1 _ (J.pins_of (pins' := []) fun p hp => absurd hp (by simp)) hq1)
    refine wpAny_call (codeAny_of_tree (show wpAny _ _ (callAny (.ref h1.objs.size) ⟨us3, []⟩) _ _ _ from ?_))
    simp only [callAny]
    refine wpAny_bind (wpAny_load hu ?_)
    simp only [PySem.W.kxs_mw, show (Value.type "method-wrapper" == Value.type "method" || Value.type "method-wrapper" == Value.type "builtin_function_or_method" || Value.type "method-wrapper" == Value.type "method-wrapper") = true by decide, if_true]
    refine PySem.W.KFB.if_so (by decide) (wpAny_bind (PySem.W.check_bound_init F.excBase_ValueError.toExcCallFacts (I4.kIn _ _ hC) ho3 rfl (wpAny_bind (wpAny_pure (wpAny_pure ?_)))))
    refine ⟨plainId_quiet F.excBase_ValueError.init.plain _, codeAny_builtin F.excBase_ValueError.initEntry (PySem.W.exc_init_tree (cls := .ref C) (t0 := t3) (dv := none) (c2 := .none) (c3 := .none) (b4 := .bool false) ho3 hlen fun h' k hx _ => ?_)⟩
    exact fin h' k hx
  · have fin : ∀ {σ' : L2.St} {H' : Hp} {v : V} {u : Value}, Inv (NdefX.ncxH CX0 P w K mg base N (supF qn st cda cc) fI A outer s H E pp) [] σ' H' s' → L2.RelV v u → Q v H' → CE outer P w H s Q u s' :=
      fun {σ' H' v u} J rv q => ⟨v, H', J.os, J.bare, J.base, J.hok, rv, q⟩
    cases fl with
    | ret u =>
      obtain ⟨v, σ', H', J, rv, q⟩ := hs
      exact fin J rv q
    | next =>
      obtain ⟨σ', H', J, q⟩ := hs
      exact fin (v := V.non) (u := Value.none) J rfl q
    | brk =>
      obtain ⟨_, _, _, q⟩ := hs
      exact False.elim q
    | cont =>
      obtain ⟨_, _, _, q⟩ := hs
      exact False.elim q
end
/-- C's __init__ keeps sp where something is handled, too -/
structure EDefH (P : Program) (w : World) (K : PySem.W.Frag) (mg : Str → Option Value) (base : Heap) (C : Addr) (x : Str) (ps : List Str) (sp : Sp) : Prop where
  at_ : mg x = some (.ref C)
  oex : OexC K C
  ini : ∃ fI fd, L2H.FnH P w K mg base CX0 2 fI fd ps sp ∧ PySem.W.findIn K (.ref C) "__init__" = some (some (.ref fI)) ∧ PySem.W.typeIn K (.ref fI) = some (.type "function") ∧ Binds K fd ps []
theorem pmk_zc {X : Cx} {e : Expr} {t : L2.St → Hp → XK → Prop} (h : L2N.PMk X e t) : L2.PMk X e t := fun pins s σ H Q I q => thn (h pins s σ H Q I q) fun _ _ ⟨a, oe, vs, sI, H', cls, d, e1, J, k, hne, ha, hz, r⟩ => ⟨a, oe, vs, sI, H', cls, d, e1, J, k, hne, ha, hz.zc, r⟩
theorem ps_raiseX {X : Cx} {W : WX} {e : Expr} {t : L2.St → Hp → XK → Prop} {pos : Pos} (hc : X.calm = true) (tk : L2.Takes X W) (he : L2N.PMk X e t) : PS X (.Raise (some e) none pos) (tRaise t W) := L2.ps_raise hc tk (pmk_zc he)
theorem ps_raiseF {X : Cx} {W : WX} {e : Expr} {t : L2.St → Hp → XK → Prop} {j : Nat} {cpos pos : Pos} (hc : L2H.HotC X) (tk : L2.Takes X W) (he : L2H.PMk5 X e t) : PS X (.Raise (some e) (some (.Constant .none j cpos)) pos) (tRaise t W) := L2H.ps_raiseHN hc tk he
/-- arguments known by a word only -/
def tCutA (t : TA) : TA := fun σ H R => ∃ S : List V → Hp → Prop, t σ H S ∧ ∀ vs H1, S vs H1 → R vs H1
theorem pa_cut {X : Cx} {es : List Expr} {t : TA} (h : PA X es t) : PA X es (tCutA t) := ⟨fun pos pins s σ H R I ⟨S, h1, k⟩ => thn (h.run pos pins s σ H S I h1) fun us s1 ⟨vs, H1, I1, r, q⟩ => ⟨vs, H1, I1, r, k vs H1 q⟩⟩
section
variable {X : Cx} {C : Addr} {x f g : Str} {e : Expr} {es : List Expr} {ta : TA} {p pos : Pos}
theorem pmk5_e1 {n : Str} (G : EDefH X.prog X.w X.K X.mg X.base C x ["self", n] (sp_i1 C f)) (hr : L2H.RoomH 3 X.A) (hc : L2H.HotC X) (ha : PA X (e :: es) ta) (hg : Gl X x := by rfl) (hdb : (x == ("__debug__" : Str)) = false := by decide)
    (he : starEach (e :: es) X.env = (false, eval e X.env) :: starEach es X.env := by rfl) (hpl : (backTo pos (starEach es X.env)).any (·.1) = false := by rfl) : L2H.PMk5 X (.Call (.Name x p) (e :: es) [] pos) (tErr C [f] ta) := by
  obtain ⟨fI, fd, F1, iC, tI, hb⟩ := G.ini
  intro pins s σ H Q I h
  refine L2H.pmk5_oexH G.oex iC tI F1 hr hc hb pass0 hg G.at_ (pa_cut ha) hdb he hpl pins s σ H Q I ⟨_, h, fun vs H1 hh => ?_⟩
  obtain ⟨hl, ht, q⟩ := hh
  match vs, hl with
  | [v], _ =>
    refine ⟨sz2 _ (Nat.le_of_ble_eq_true rfl), fun a na => ⟨a, v, rfl, ht v List.mem_cons_self, upd_same, fun dx h1 h2 => ⟨rfl, dx, [(f, v)], upd_same, by rw [upd_ne h2, upd_same], ?_, ?_⟩⟩⟩
    · rw [upd_ne h2] at h1
      exact h1
    · rw [upd_ne h2] at h1
      rw [err_heap na h2 (H := H1) (fun b b1 b2 => by rw [upd_ne b1, upd_ne b2, upd_ne b1])]
      exact q dx h1
end
section
variable {P : Program} {w : World} {K : PySem.W.Frag} {mg : Str → Option Value} {base : Heap}
theorem _root_.RD.FunAt.okX {x : Str} {st : Stmt} {N ps : List Str} {k : Nat} {sp : Sp} (F : FunAt K mg x st ps) (S : FnScope N ps (defScope st)) (len : ∀ vs H Q E, sp vs H Q E → vs.length = ps.length)
    (hbody : ∀ (f : Addr) (cdv : Value) (A : Around) (outer : List Env) (s : Shared) (H : Hp) (vs : List V) (Q : VK) (E : XK), Room k (A.deeper (envOfC x (defScope st) s.heap.objs.size f cdv)) → sp vs H Q E →
      ∃ t, PSs (cxOf (L2.CX P w) P w K mg base N x (defScope st) f cdv A outer s H E) (defBody st) t ∧ t { nx := fun _ H' => Q .non H', rt := Q } (start N vs) H) : Def P w K mg base (L2.CX P w) (k + 1) x ps sp := by
  obtain ⟨f, fd, F, hm, hb⟩ := F.ex
  have kp := F.kp
  obtain ⟨oc, od, kV, doc, pm, an, cdv, ct, osl, rfl, lk, hcd⟩ := F.ex
  exact ⟨f, _, fn_of lk hcd S len fun A outer s H vs Q E hr hsp => hbody f cdv A outer s H vs Q E hr hsp, hm, kp, hb⟩
end
/-! a try whose suite raises -/
def tTryO (K : PySem.W.Frag) (c : Value) (ts : Addr → Value → Option Addr → TS) (Wout : WX) (tb : WX → TS) : TS := fun D σ H => tb (wOnly K c ts Wout D) D σ H
theorem ps_tryO {X : Cx} {x : Str} {c : Value} {body suite : List Stmt} {b₀ : Stmt} {np pos pos' : Pos} {tb : WX → TS} {ts : Addr → Value → Option Addr → TS} {Wout : WX} (hs : X.stack = X.env :: X.outer) (hf : X.env.frame = some X.env.locals) (hc : Names X x c) (hpa : ∀ hd : Option Value, PassesOwnAt (model X.prog X.w) (X.A.mark hd) X.A X.env X.xe) (tk : L2.Takes X Wout)
    (hb : ∀ (W : WX) (pn : List (Addr × Obj)) (xe : Value → Shared → Prop), L2N.Takes (X.tr pn xe) W → PassesOwn (model X.prog X.w) X.A X.env xe → PSs (X.tr pn xe) body (tb W))
    (hsu : ∀ (a : Addr) (oe : Obj) (cls : Value) (d : Option Addr) (pn : List (Addr × Obj)), L2N.Zn cls d oe → (∃ vs, oe.data = .fields vs) → L2.Takes (L2H.suiteX X a ((a, oe) :: pn)) Wout → L2H.HotC (L2H.suiteX X a ((a, oe) :: pn)) →
      PSs (L2H.suiteX X a ((a, oe) :: pn)) (b₀ :: suite) (ts a cls d)) :
    PS X (.Try body [.ExceptHandler (some (.Name x np)) none (b₀ :: suite) pos'] [] [] pos) (tTryO X.K c ts Wout tb) := L2H.ps_try_onlyX hs hf hc hpa tk (fun W pn xe t1 _ po => hb W pn xe t1 po) hsu
theorem r_tryO {K : PySem.W.Frag} {c : Value} {ts : Addr → Value → Option Addr → TS} {Wout : WX} {tb : WX → TS} {D : Ends} {σ : L2.St} {H : Hp} (q : tb (wOnly K c ts Wout D) D σ H) : tTryO K c ts Wout tb D σ H := q
theorem wo_yes {K : PySem.W.Frag} {cls c : Value} {d : Option Addr} {ts : Addr → Value → Option Addr → TS} {Wout : WX} {D : Ends} {σ : L2.St} {H : Hp} (hb : PySem.W.exmOne K cls c = some true) (q : ∀ a, H a = none → ts a cls d D σ H) : wOnly K c ts Wout D cls d σ H := ⟨true, hb, fun _ => q, fun z => by cases z⟩
/-! a call of a def that a local name holds, which may raise -/
structure HeldX (P : Program) (w : World) (K : PySem.W.Frag) (mg : Str → Option Value) (base : Heap) (CX : CXT) (k : Nat) (f : Addr) (sp : Sp) : Prop where
  ex : ∃ (fd : FuncData) (ps : List Str), FnOk P w K mg base CX k f fd ps sp ∧ PySem.W.keepIn K (.ref f) = true ∧ Binds K fd ps []
def tCallLS (i : Nat) (f : Addr) (sp : Sp) (E : L2.St → XK) (t : TA) : TE := fun σ H Q => σ[i]? = some (some (.ref f)) ∧ t σ H fun vs H1 => sp vs H1 Q (E σ)
theorem r_callLS {i : Nat} {f : Addr} {sp : Sp} {E : L2.St → XK} {t : TA} {σ : L2.St} {H : Hp} {Q : VK} (h : σ[i]? = some (some (.ref f))) (q : t σ H fun vs H1 => sp vs H1 Q (E σ)) : tCallLS i f sp E t σ H Q := ⟨h, q⟩
section
variable {X : Cx} {k i : Nat} {f : Addr} {sp : Sp} {x : Str} {p pos : Pos} {e : Expr} {es : List Expr} {t : TA} {W : WX}
theorem pe_callLN (G : HeldX X.prog X.w X.K X.mg X.base (L2N.CX X.prog X.w) k f sp) (tk : L2N.Takes X W) (hr : Room k X.A) (hN : X.N[i]? = some x) (hv : Vis X.env.scope x) (ha : PA X (e :: es) t)
    (hdb : (x == ("__debug__" : Str)) = false := by decide) (hcd : (x == ("__classdict__" : Str)) = false := by decide)
    (he : starEach (e :: es) X.env = (false, eval e X.env) :: starEach es X.env := by rfl) (hpl : (backTo pos (starEach es X.env)).any (·.1) = false := by rfl) : PE X (.Call (.Name x p) (e :: es) [] pos) (tCallLS i f sp (WE W) t) := by
  obtain ⟨fd, ps, F, hk, hb⟩ := G.ex
  refine ⟨fun pins s σ H Q I h => ?_⟩
  obtain ⟨hs, ht⟩ := h
  refine wpAny_Call_Name_kw (thn ((pe_var (pos := p) hN hv hdb hcd).run pins s σ H (fun v H1 => v = .ref f ∧ H1 = H) I ⟨.ref f, hs, rfl, rfl⟩) fun u s1 ⟨v, H1, I1, r1, q1⟩ => ?_)
  obtain ⟨rfl, rfl⟩ := q1
  cases r1
  refine PySem.W.callWith_K (h₀ := X.base) I.ok.mod.kin hk (thn (ha.run pos pins s1 σ _ _ I1 ht) fun us s2 ⟨vs, H2, I2, r, q⟩ => ⟨I2.kIn, ?_⟩) he hpl
  exact run_fnS F hr hb (L2N.passAt tk σ) I2 r q
end
/-! ### what a raised error is told by -/
/-- an error of the class at C with these fields, where the heap was H -/
def RetE (H : Hp) (E : XK) (C : Addr) (fs : List (Str × V)) : Prop := ∀ H' d, Same H H' → H d = none → H' d = some (.xd fs) → E (.ref C) (some d) H'
section
variable {H H0 H' : Hp} {E : XK} {C d : Addr} {fs : List (Str × V)} {L : List (Addr × HO)}
theorem RetE.mk (q : RetE H0 E C fs) (o : Own H0 H L) (hd : H d = none) : E (.ref C) (some d) (upd H d (.xd fs)) := q _ d (o.new (u := .xd fs) hd).ex (o.ex.free hd) upd_same
theorem r_retE (o : Own H0 H L) (k : ∀ d H', H d = none → Own H0 H' ((d, .xd fs) :: L) → E (.ref C) (some d) H') : RetE H E C fs := fun H' d s hd hx => k d H' hd (o.add s hd hx)
end
theorem ps_whileT {X : Cx} {pn : List (Addr × Obj)} {xe : Value → Shared → Prop} {c : Expr} {body : List Stmt} {tc : TT} {tb : TS} {pos : Pos} (hp : PassesOwn (model X.prog X.w) X.A X.env xe) (hc : PT (X.tr pn xe) c tc) (hb : PSs (X.tr pn xe) body tb) : PS (X.tr pn xe) (.While c body [] pos) (tWhile tc tb) := ps_while hp hc hb

/-! ### own error classes without __init__ -/
section
structure ErrPl (K : PySem.W.Frag) (C : Addr) : Prop where
  x : PySem.W.excIn K C [.type "ValueError", .type "Exception", .type "BaseException", .type "object"] "ValueError.__new__" = true
  k : PySem.W.keepIn K (.ref C) = true
def tErr0 (C : Addr) : L2.St → Hp → XK → Prop := fun _ H Q => Q (.ref C) none H
theorem pmk_e0 {X : Cx} {C : Addr} {x m : Str} {j : Nat} {p p2 pos : Pos} (E : ErrCls X.K X.mg C x) (I : ErrPl X.K C) (hg : Gl X x := by rfl) (hdb : (x == ("__debug__" : Str)) = false := by decide) :
    L2N.PMk X (.Call (.Name x p) [.Constant (.str m) j p2] [] pos) (tErr0 C) := L2N.pmk_own PySem.F.excBase_ValueError I.x E.at_ I.k (raises_own E.ex.hs E.ty) hg hdb
theorem r_raise0 {C : Addr} {W : WX} {D : Ends} {σ : L2.St} {H : Hp} (q : W (.ref C) none σ H) : tRaise (tErr0 C) W D σ H := q
def rIsEB (K : PySem.W.Frag) (a : Addr) (cls : Value) (d : Option Addr) : List V → Hp → VK → Prop := fun xs H Q => ∃ (D : Addr), cls = .ref D ∧ d = none ∧ ExcC K D ∧ rIsE K D a xs H Q
theorem call_isEB {X : Cx} {a : Addr} {cls : Value} {d : Option Addr} {oe : Obj} {pn : List (Addr × Obj)} (hz : Zc cls d oe) (hf : ∃ vs, oe.data = .fields vs) : CallR (X.suite a ((a, oe) :: pn)) (.builtin "isinstance") (rIsEB X.K a cls d) := by
  intro pins s σ H xs us Q I r h
  obtain ⟨D, rfl, rfl, T, h⟩ := h
  exact call_isE T hz hf pins s σ H xs us Q I r h
theorem r_isE0 {K : PySem.W.Frag} {a D C : Addr} {b : Bool} {H : Hp} {Q : VK} (T : ExcC K D) (hk : PySem.W.kitOne K (.ref D) (.ref C) = some b) (q : Q (.bl b) H) : rIsEB K a (.ref D) none [.ref a, .ref C] H Q :=
  ⟨D, rfl, rfl, T, .ref C, .ref C, b, rfl, (fun u h => by cases h; rfl), hk, q⟩
def RetE0 (H : Hp) (E : XK) (C : Addr) : Prop := ∀ H', Same H H' → E (.ref C) none H'
theorem RetE0.mk {H0 H : Hp} {E : XK} {C : Addr} {L : List (Addr × HO)} (q : RetE0 H0 E C) (o : Own H0 H L) : E (.ref C) none H := q _ o.ex
theorem r_retE0 {H0 H : Hp} {E : XK} {C : Addr} {L : List (Addr × HO)} (o : Own H0 H L) (k : ∀ H', Own H0 H' L → E (.ref C) none H') : RetE0 H E C := fun H' s => k H' (o.mono s)
end
theorem r_retE0s {H0 H : Hp} {E : XK} {C : Addr} {L : List (Addr × HO)} (o : Own H0 H L) (k : ∀ H', Same H H' → Own H0 H' L → E (.ref C) none H') : RetE0 H E C := fun H' s => k H' s (o.mono s)

/-! ### comprehensions whose values are known by a word only -/
section
variable {σ : L2.St} {H H0 : Hp} {Q : VK} {K : PySem.W.Frag} {L : List (Addr × HO)} {te : TE} {j : Int}
theorem lcR1P {n s : Nat} {vs : List Nat} (Pz : Int → Prop) (o : Own H0 H L) (hn : j = (n : Int)) (hz : n ≤ 1000000) (hw : ∀ x, wipe ((wipe σ vs).set s (some x)) vs = wipe σ vs)
    (he : ∀ (i : Nat) (p : Addr) (zs : List V) (H' : Hp) (Q : VK), i < n → Own H0 H' ((p, .lst zs) :: L) → (∀ z, Pz z → RetV H' Q (.int z)) → te ((wipe σ vs).set s (some (.int (i : Int)))) H' Q)
    (k : ∀ p H' (zs : List Int), zs.length = n → (∀ z ∈ zs, Pz z) → Own H0 H' ((p, .lst (zs.map V.int)) :: L) → Q (.ref p) H') :
    ∃ k : Int, [V.int j] = [.int k] ∧ -(2 ^ 62) ≤ k ∧ k < 2 ^ 62 ∧ RLc (Itr 0 k.toNat) (gName s) tYes te vs σ H Q := by
  refine ⟨j, rfl, by omega, by omega, fun P hP => ?_⟩
  have e : j.toNat = n := by omega
  rw [e]
  refine lc_range (lo := 0) (n := n) (fun i H' => ∃ zs : List Int, zs.length = i ∧ (∀ z ∈ zs, Pz z) ∧ Own H0 H' ((P, .lst (zs.map V.int)) :: L)) ⟨[], rfl, (by intro z hz; cases hz), o.new hP⟩ (fun i H' hi p => ?_) (fun H' ⟨zs, h1, h2, o'⟩ => k P H' zs h1 h2 o')
  obtain ⟨zs, hl, hp, o'⟩ := p
  have e0 : (0 : Int) + (i : Int) = (i : Int) := Int.zero_add _
  rw [e0]
  refine ⟨hw _, ?_⟩
  refine iteT (B := ∃ zs : List Int, zs.length = i + 1 ∧ (∀ z ∈ zs, Pz z) ∧ Own H0 H' ((P, .lst (zs.map V.int)) :: L)) (he i P _ H' _ hi o' fun z hz H4 s4 => ?_)
  have o4 := o'.mono s4
  refine ⟨zs.map V.int, o4.at 0 rfl, sz_lt (by rw [List.length_map]; omega), zs ++ [z], by rw [List.length_append, hl]; rfl, ?_, ?_⟩
  · intro x hx
    rcases List.mem_append.mp hx with hx | hx
    · exact hp x hx
    · rw [List.mem_singleton.mp hx]; exact hz
  · have o5 := o4.set (v := .lst (zs.map V.int ++ [V.int z])) 0 rfl
    rw [List.map_append]
    exact o5
end

/-! ### del xs[lo:], len of an own class -/
theorem keep_take {a : Nat} {F : Value × Nat → Option Value} : ∀ (xs : List Value) (j : Nat), (∀ x k, j ≤ k → k < j + xs.length → F (x, k) = if a ≤ k then none else some x) → (xs.zipIdx j).filterMap F = xs.take (a - j)
  | [], j, _ => by simp
  | x :: xs, j, hF => by
    rw [List.zipIdx_cons, List.filterMap_cons, hF x j (Nat.le_refl _) (by rw [List.length_cons]; omega)]
    have ih := keep_take xs (j + 1) fun y k h1 h2 => hF y k (by omega) (by rw [List.length_cons]; omega)
    by_cases h : a ≤ j
    · rw [if_pos h, show a - j = 0 by omega, List.take_zero]
      show (xs.zipIdx (j + 1)).filterMap F = []
      rw [ih, show a - (j + 1) = 0 by omega, List.take_zero]
    · rw [if_neg h, show a - j = (a - (j + 1)) + 1 by omega, List.take_succ_cons]
      show x :: (xs.zipIdx (j + 1)).filterMap F = _
      rw [ih]
theorem del_slice {prog : Program} {w : World} {A : Around} {E : Value → Shared → Prop} {s : Shared} {l sl : Addr} {items : Array Value} {n : Nat} {vl : Value} {lo : Int} {Q : Unit → Shared → Prop}
    (hl : s.heap.get? l = some ⟨.type "list", none, .seq items n, #[]⟩) (hs : s.heap.IsSliceOf sl vl .none .none) (pl : IsPart vl (some lo)) (h0 : 0 ≤ lo) (hsz : items.size ≤ sizeLine)
    (h : ∀ f : Array Value → Array Value, f items = (items.toList.take lo.toNat).toArray → Q () { s with heap := s.heap.update l (Obj.mapSeq f) }) : wpAny (model prog w) A (delItem (.ref l) (.ref sl)) Q E s := by
  obtain ⟨os, hos, hcs, hds⟩ := id hs
  have hTs : s.TypeIs (.ref sl) "slice" := ⟨os, hos, hcs⟩
  refine wpAny_delItem_slot ⟨_, hl, rfl⟩ (by decide) F.slot_list_delitem ?_
  refine wpAny_call_entry F.slot_list_delitem ⟨_, hl, rfl⟩ F.entry_list_delitem ?_ (F.args_list_delitem_2 _ _)
  show wpAny _ _ (Builtin.List.listSubscript? (.ref sl) >>= _) _ _ s
  refine wpAny_bind ?_
  unfold Builtin.List.listSubscript?
  refine wpAny_bind (wpAny_specialOf hTs slice_no_index ?_)
  simp only [Option.isNone_none, if_true]
  refine wpAny_pure ?_
  show wpAny _ _ (typeOf (.ref sl) >>= _) _ _ s
  refine wpAny_bind (wpAny_typeOf hTs ?_)
  rw [if_neg (by decide)]
  rw [listSliceParts_eq]
  refine wpAny_bind (wpAny_bind (wpAny_field hos hds (x := .none) rfl (wpAny_bind (wpAny_listPart (IsPart.none) ?_))))
  rw [if_neg (by decide)]
  refine wpAny_bind (wpAny_field hos hds (x := vl) rfl (wpAny_bind (wpAny_listPart pl ?_)))
  refine wpAny_bind (wpAny_field hos hds (x := .none) rfl (wpAny_bind (wpAny_listPart (IsPart.none) (wpAny_pure ?_))))
  refine wpAny_bind (m := Builtin.List.listItems (.ref l)) ?_
  unfold Builtin.List.listItems
  refine wpAny_bind (wpAny_seqItems hl rfl (wpAny_pure ?_))
  refine wpAny_bind (wpAny_of_eq (sliceIndices_raw (some lo) none none items.size (by simp)) ?_)
  refine wpAny_bind (wpAny_rule ?_)
  refine wpAny_bind (wpAny_updateSeq hl rfl ?_ hsz ?_)
  · refine wpAny_bind (wpAny_letGo (wpAny_pure ⟨_, rfl, h _ ?_⟩))
    congr 1
    refine keep_take (a := lo.toNat) _ 0 fun x k _ hk => ?_
    have hlt : k < items.size := by simpa using hk
    show (if (if (1 : Int) > 0 then decide (max (0 : Int) (min (if lo < 0 then lo + (items.size : Int) else lo) (items.size : Int)) ≤ (k : Int)) && decide ((k : Int) < (items.size : Int)) && (((k : Int) - max (0 : Int) (min (if lo < 0 then lo + (items.size : Int) else lo) (items.size : Int))) % 1 == 0) else _) = true then none else some x) = _
    rw [if_pos (show (1 : Int) > 0 by decide), if_neg (show ¬ lo < 0 by omega), decide_eq_true (show (k : Int) < (items.size : Int) by omega), Bool.and_true, show ((k : Int) - max (0 : Int) (min lo (items.size : Int))) % 1 = 0 by omega, beq_self_eq_true, Bool.and_true]
    by_cases h1 : lo.toNat ≤ k
    · rw [if_pos h1, if_pos (decide_eq_true (by omega))]
    · rw [if_neg h1, if_neg (by rw [decide_eq_true_eq]; omega)]
  · rw [List.size_toArray]
    refine Nat.le_trans (List.length_filterMap_le _ _) ?_
    rw [List.length_zipIdx, Array.length_toList]
    omega
/-- del xs[lo:] of a list -/
def tDelS (to : TE) (tl : TO) : TS := fun D σ H => to σ H fun x H1 => tl σ H1 fun l H2 => ∃ (a : Addr) (xs : List V) (i : Int), x = .ref a ∧ l = some i ∧ H2 a = some (.lst xs) ∧ 0 ≤ i ∧ D.nx σ (upd H2 a (.lst (xs.take i.toNat)))
theorem ps_delS {X : Cx} {o lo : Expr} {to : TE} {tl : TO} {tpos p2 pos : Pos} (ho : PE X o to) (hlo : PO X (some lo) tl) : PS X (.Delete [.Subscript o (.Slice (some lo) none none p2) tpos] pos) (tDelS to tl) := by
  refine ⟨fun pins s σ H D I h => ?_⟩
  refine wpAny_Delete (wpAny_deleteEach_cons (wpAny_delete_Subscript (thn (ho.run pins s σ H _ I h) fun u s1 ⟨x, H1, I1, rx, q1⟩ => ?_)))
  refine wpAny_Slice (thn (hlo.run pins s1 σ H1 _ I1 q1) fun vl s2 ⟨l, H2, I2, pl, q2⟩ => ?_)
  refine thn (po_none.run pins s2 σ H2 (fun u H3 => u = none ∧ H3 = H2) I2 ⟨rfl, rfl⟩) fun vu s3 ⟨u3, H3, I3, pu, e3, e4⟩ => ?_
  refine thn (po_none.run pins s3 σ H3 (fun u H4 => u = none ∧ H4 = H3) I3 ⟨rfl, rfl⟩) fun vs s4 ⟨u4, H4, I4, ps, e5, e6⟩ => ?_
  subst e3 e4 e5 e6
  obtain ⟨a, xs, i, ex, ei, hH, h0, q⟩ := q2
  subst ex ei
  cases rx
  cases pu
  cases ps
  have I5 : Inv X pins σ H4 { s4 with heap := s4.heap.push { cls := .type "slice", data := .fields #[vl, .none, .none] } } := I4.kept (t' := s4.toks) fun b ob q => Heap.get?_push_of_some _ q
  obtain ⟨z, its, n, r, hlen, e⟩ := I5.lstM hH
  refine del_slice e (Heap.IsSliceOf.new _ vl .none .none) pl h0 (by rw [List.size_toArray]; omega) fun f hf => ?_
  refine wpAny_deleteEach_nil ⟨σ, _, I5.lset (its' := its.take i.toNat) (t' := s4.toks) (ys := xs.take i.toNat) hH e hf ?_ ?_, q⟩
  · exact r.take _
  · rw [List.length_take]
    omega
theorem r_delS {to : TE} {tl : TO} {D : Ends} {σ : L2.St} {H : Hp} (q : to σ H fun x H1 => tl σ H1 fun l H2 => ∃ (a : Addr) (xs : List V) (i : Int), x = .ref a ∧ l = some i ∧ H2 a = some (.lst xs) ∧ 0 ≤ i ∧ D.nx σ (upd H2 a (.lst (xs.take i.toNat)))) : tDelS to tl D σ H := q
def rLenO (C : Addr) (sp : Sp) : List V → Hp → VK → Prop := fun xs H Q => ∃ (x dx : Addr) (fs : List (Str × V)), xs = [.ref x] ∧ H x = some (.ins C dx fs) ∧ sp [.ref x] H (fun v H' => ∃ n : Int, v = .int n ∧ 0 ≤ n ∧ n < 2 ^ 63 ∧ Q (.int n) H') E0
theorem call_lenO {X : Cx} {k : Nat} {C : Addr} {ps : List Str} {sp : Sp} (G : MDef X.prog X.w X.K X.mg X.base CX0 k C "__len__" ps sp) (hr : Room (k + 1) X.A) : CallR X (.builtin "len") (rLenO C sp) := by
  intro pins s σ H xs us Q I r h
  obtain ⟨x, dx, fs, rfl, hx, hs⟩ := h
  obtain ⟨u, rfl, ru⟩ := vals1 r
  obtain rfl : u = Value.ref x := ru
  obtain ⟨f, fd, F, M, hb⟩ := G.ex
  have hob : ObjOk X.prog X.w H s.heap x (.ins C dx fs) := I.hok x _ hx
  obtain ⟨_, _, _, ho, _⟩ := hob
  have LT : PySem.W.Looks (model X.prog X.w) s.heap (typeOf (.ref x)) (.ref C) := fun A Q E s k q => wpAny_typeOf_ref (k _ _ ho) q
  have sp1 : PySem.W.Looks (model X.prog X.w) s.heap (specialOf (.ref x) "__len__") (some (.ref f)) := LT.andThen (PySem.W.looks_findIn I.kIn M.at_)
  have hfn : PySem.W.typeIn X.K (.ref f) = some (.type "function") := by
    have q := M.fn
    unfold PySem.W.isFn at q
    exact eq_of_beq q
  have LB := PySem.W.bind_fn (M := model X.prog X.w) I.kIn (.ref x) hfn
  refine Calls.call_function_entry kind_len plain_len entry_len (args_len1 _) ?_
  unfold Builtin.«len»
  refine wpAny_bind (m := oneArg "len" _) (wpAny_pure ?_)
  refine wpAny_bind (m := callSpecial? (.ref x) (PySem.Str.ofString "__len__")) ?_
  unfold callSpecial?
  refine wpAny_bind (sp1.here ?_)
  refine wpAny_holding (wpAny_bind (LB.here ?_))
  have b2 := hb s [.ref x] I.kIn (by rw [List.append_nil]; exact F.len _ _ _ _ hs)
  rw [List.append_nil] at b2
  refine wpAny_bind (wpAny_call (codeAny_mono (F.run X.A.in1 X.stack s H ⟨[.ref x], []⟩ [.ref x] [.ref x] _ E0 (hr.in1) I.env0.in1 b2 (.cons rfl .nil) hs) fun r s2 hq => ?_))
  cases r with
  | error e => exact hq.elim
  | ok fl =>
    cases fl with
    | ret v =>
      obtain ⟨v2, H2, I2, rv, n, rfl, h0, h1, q2⟩ := I.after hq
      obtain ⟨t, rfl⟩ := (show ∃ t, v = Value.int n t from rv)
      refine wpAny_pure (wpAny_bind (wpAny_holding (wpAny_pure ?_)))
      refine wpAny_bind (wpAny_letGo ?_)
      show wpAny _ _ (if n < 0 then _ else _) _ _ _
      rw [if_neg (by omega)]
      show wpAny _ _ (if n ≥ 2 ^ 63 then _ else _) _ _ _
      rw [if_neg (by omega)]
      exact wpAny_bind (wpAny_mkInt (wpAny_pure ⟨_, rfl, .int n, H2, I2.tok _, ⟨_, rfl⟩, q2⟩))
    | next => exact hq.elim
    | brk => exact hq.elim
    | cont => exact hq.elim

/-! ### methods called in suites -/
theorem fun_okW {P : Program} {w : World} {K : PySem.W.Frag} {mg : Str → Option Value} {base : Heap} {x qn : Str} {st : Stmt} {N ps : List Str} {k : Nat} {sp : Sp} {f : Addr} {fd : FuncData} (F : Fun K x qn st f fd) (S : FnScope N ps (defScope st)) (len : ∀ vs H Q E, sp vs H Q E → vs.length = ps.length)
    (hbody : ∀ (cdv : Value) (A : Around) (outer : List Env) (s : Shared) (H : Hp) (vs : List V) (Q : VK) (E : XK), L2H.RoomH k (A.deeper (envOfC qn (defScope st) s.heap.objs.size f cdv)) → sp vs H Q E →
      ∃ t, PSs (cxW P w K mg base N qn (defScope st) f cdv A outer s H E) (defBody st) t ∧ t { nx := fun _ H' => Q .non H', rt := Q } (start N vs) H) : FnW P w K mg base (k + 1) f fd ps sp := by
  have kp := F.kp
  obtain ⟨oc, od, kV, doc, pm, an, cdv, ct, osl, rfl, lk, hcd⟩ := F.ex
  refine ⟨len, fun A outer s H args us vs Q E hr e0 hb r hsp => ?_⟩
  have hl := len _ _ _ _ hsp
  have inS := e0.mod.kin.keeps fun b o e => (e0.bs b o e).1
  have lim := e0.mod.nolimit.keeps fun b o e => (e0.bs b o e).1
  have hkind : ∀ y ∈ ps.zip us, (defScope st).names.lookup y.1 = some .local ∨ ((defScope st).names.lookup y.1 = some .cell ∧ ((cellsFrom (s.heap.objs.size + 1) (defScope st).names []).lookup y.1).isSome = true) := fun ⟨n, v⟩ hy => (S.par n (List.of_mem_zip hy).1).imp id fun q => ⟨q, PySem.W.cellsFrom_some _ _ _ (.inl q)⟩
  refine codeAny_call_function hr.depth (inS _ _ lk) rfl S.co S.gen rfl (PySem.W.codeRec_of inS hcd) (hb _ _ _ _ (wpAny_newFunctionEnv_cells S.kind hkind fun env he s1 ic => ?_))
  subst he
  refine ⟨lim.keeps ic.toInCall.keep, codeAny_func ?_⟩
  obtain ⟨t, ht, hq⟩ := hbody cdv A outer s H vs Q E (hr.deeper _) hsp
  have J : Inv (cxOf CX0 P w K mg base N qn (defScope st) f cdv { A with handled := none } outer s H E) [] (start N vs) H s1 := inv_start S rfl (env0_mark e0) hl r ic
  have I : Inv (cxW P w K mg base N qn (defScope st) f cdv A outer s H E) [] (start N vs) H s1 :=
    ⟨⟨J.ok.mod, J.ok.kind, J.ok.glob, J.ok.blt, J.ok.above, J.ok.inj, J.ok.has, J.ok.cab, fun z => (by cases z), Around.frames_deeper e0.frames, J.ok.stk, J.ok.exf, J.ok.bs, J.ok.bsz, J.ok.noex, J.ok.exfs, J.ok.funs, J.ok.frf⟩, J.os, J.bare, J.base, J.loc, J.cell, J.free, J.freeC, J.pin, J.hok, J.len⟩
  refine wpAny_mono (ht.run [] s1 (start N vs) H _ I hq) (fun fl s2 hs => ?_) fun e s2 hs => False.elim hs
  have fin : ∀ {σ2 : L2.St} {H2 : Hp} {v : V} {u : Value}, Inv (cxW P w K mg base N qn (defScope st) f cdv A outer s H E) [] σ2 H2 s2 → RelV v u → Q v H2 → CE outer P w H s Q u s2 := fun {σ2 H2 v u} J2 rv q => ⟨v, H2, J2.os, J2.bare, J2.base, J2.hok, rv, q⟩
  cases fl with
  | ret u =>
    obtain ⟨v, σ2, H2, J2, rv, q⟩ := hs
    exact fin J2 rv q
  | next =>
    obtain ⟨σ2, H2, J2, q⟩ := hs
    exact fin (v := V.non) (u := Value.none) J2 rfl q
  | brk => exact hs.elim fun _ h => h.elim fun _ h => h.2.elim
  | cont => exact hs.elim fun _ h => h.elim fun _ h => h.2.elim

structure MDefW (P : Program) (w : World) (K : PySem.W.Frag) (mg : Str → Option Value) (base : Heap) (k : Nat) (C : Addr) (m : Str) (ps : List Str) (sp : Sp) : Prop where
  ex : ∃ f fd, FnW P w K mg base k f fd ps sp ∧ Meth K C m f ∧ Binds K fd ps []
theorem _root_.RD.MethAt.okW {P : Program} {w : World} {K : PySem.W.Frag} {mg : Str → Option Value} {base : Heap} {C : Addr} {m qn : Str} {st : Stmt} {N ps : List Str} {k : Nat} {sp : Sp} (F : MethAt K C m qn st ps) (S : FnScope N ps (defScope st)) (len : ∀ vs H Q E, sp vs H Q E → vs.length = ps.length)
    (hbody : ∀ (f : Addr) (cdv : Value) (A : Around) (outer : List Env) (s : Shared) (H : Hp) (vs : List V) (Q : VK) (E : XK), L2H.RoomH k (A.deeper (envOfC qn (defScope st) s.heap.objs.size f cdv)) → sp vs H Q E →
      ∃ t, PSs (cxW P w K mg base N qn (defScope st) f cdv A outer s H E) (defBody st) t ∧ t { nx := fun _ H' => Q .non H', rt := Q } (start N vs) H) : MDefW P w K mg base (k + 1) C m ps sp := by
  obtain ⟨f, fd, F, hm, hb⟩ := F.ex
  exact ⟨f, fd, fun_okW F S len (hbody f), hm, hb⟩
theorem run_fnW {X : Cx} {k : Nat} {f : Addr} {fd : FuncData} {ps : List Str} {sp : Sp} {pins : List (Addr × Obj)} {σ : L2.St} {H : Hp} {s : Shared} {Q : VK} {us : List Value} {vs : List V} (F : FnW X.prog X.w X.K X.mg X.base k f fd ps sp) (hr : L2H.RoomH k X.A) (hb : Binds X.K fd ps [])
    (I : Inv X pins σ H s) (r : Vals vs us) (q : sp vs H Q E0) : wpAny (model X.prog X.w) X.A (call (.ref f) us) (EP X pins σ Q) X.xe s := by
  have b := hb s us I.kIn (by rw [List.append_nil, ← r.length]; exact F.len _ _ _ _ q)
  rw [List.append_nil] at b
  refine wpAny_call (codeAny_mono (F.run X.A X.stack s H ⟨us, []⟩ us vs Q E0 hr I.env0 b r q) fun r s2 hq => ?_)
  cases r with
  | error e => exact hq.elim
  | ok fl =>
    cases fl with
    | ret u => exact I.after hq
    | next => exact hq.elim
    | brk => exact hq.elim
    | cont => exact hq.elim
theorem pe_methW {X : Cx} {k : Nat} {ps : List Str} {sp : Sp} {C : Addr} {m : Str} {o e : Expr} {es : List Expr} {apos pos : Pos} {ta : TE} {t : TA} {pl : Sem Bool} (he : PE X o ta) (c : Cls X.K C) (G : MDefW X.prog X.w X.K X.mg X.base k C m ps sp) (hr : L2H.RoomH k X.A) (ha : PA X (e :: es) t)
    (hst : starEach (e :: es) X.env = (false, eval e X.env) :: starEach es X.env := by rfl) (hpl : (backTo pos (starEach es X.env)).any (·.1) = false := by rfl)
    (ht : eval (.Call (.Attribute o m apos) (e :: es) [] pos) X.env = (do
      let ov ← eval o X.env
      standAt apos.atName
      let (f, first) ← holding [ov] (getMethod ov m pl)
      callWith pos f first (backTo pos (starEach (e :: es) X.env)) (backToKw pos (keywordEach [] X.env))) := by rfl) :
    PE X (.Call (.Attribute o m apos) (e :: es) [] pos) (tMeth C m sp [] E0 ta t) := by
  obtain ⟨f, fd, F, M, hb⟩ := G.ex
  refine ⟨fun pins s σ H Q I h => ?_⟩
  refine PySem.W.methodCall_KW (pl := pl) (thn (he.run pins s σ H _ I h) fun u s1 ⟨x, H1, I1, rx, a, dx, fs, ex, ea, l, q⟩ => ?_) ht
  subst ex
  obtain rfl : u = Value.ref a := rx
  refine getmeth_ok I1 ea c M l ?_
  refine PySem.W.callWith_K (first := [.ref a]) (h₀ := X.base) I.ok.mod.kin M.kp (thn (ha.run pos pins s1 σ H1 _ I1 q) fun us s2 ⟨vs, H2, I2, r, q2⟩ => ⟨I2.kIn, ?_⟩) hst hpl
  have q3 : sp (.ref a :: (vs ++ [])) H2 Q E0 := q2
  rw [List.append_nil] at q3
  exact run_fnW (us := .ref a :: us) (vs := .ref a :: vs) F hr hb I2 (.cons rfl r) q3
theorem roomH_in1 {k : Nat} {A : Around} (r : L2H.RoomH (k + 1) A) : L2H.RoomH k A.in1 := ⟨by have := r.dp; show A.depth + 3 * k + 5 < _; omega, by have := r.un; show A.units + 1 + 16 * k + 200 < _; omega⟩
theorem call_lenOW {X : Cx} {k : Nat} {C : Addr} {ps : List Str} {sp : Sp} (G : MDefW X.prog X.w X.K X.mg X.base k C "__len__" ps sp) (hr : L2H.RoomH (k + 1) X.A) : CallR X (.builtin "len") (rLenO C sp) := by
  intro pins s σ H xs us Q I r h
  obtain ⟨x, dx, fs, rfl, hx, hs⟩ := h
  obtain ⟨u, rfl, ru⟩ := vals1 r
  obtain rfl : u = Value.ref x := ru
  obtain ⟨f, fd, F, M, hb⟩ := G.ex
  have hob : ObjOk X.prog X.w H s.heap x (.ins C dx fs) := I.hok x _ hx
  obtain ⟨_, _, _, ho, _⟩ := hob
  have LT : PySem.W.Looks (model X.prog X.w) s.heap (typeOf (.ref x)) (.ref C) := fun A Q E s k q => wpAny_typeOf_ref (k _ _ ho) q
  have sp1 : PySem.W.Looks (model X.prog X.w) s.heap (specialOf (.ref x) "__len__") (some (.ref f)) := LT.andThen (PySem.W.looks_findIn I.kIn M.at_)
  have hfn : PySem.W.typeIn X.K (.ref f) = some (.type "function") := by
    have q := M.fn
    unfold PySem.W.isFn at q
    exact eq_of_beq q
  have LB := PySem.W.bind_fn (M := model X.prog X.w) I.kIn (.ref x) hfn
  refine Calls.call_function_entry kind_len plain_len entry_len (args_len1 _) ?_
  unfold Builtin.«len»
  refine wpAny_bind (m := oneArg "len" _) (wpAny_pure ?_)
  refine wpAny_bind (m := callSpecial? (.ref x) (PySem.Str.ofString "__len__")) ?_
  unfold callSpecial?
  refine wpAny_bind (sp1.here ?_)
  refine wpAny_holding (wpAny_bind (LB.here ?_))
  have b2 := hb s [.ref x] I.kIn (by rw [List.append_nil]; exact F.len _ _ _ _ hs)
  rw [List.append_nil] at b2
  refine wpAny_bind (wpAny_call (codeAny_mono (F.run X.A.in1 X.stack s H ⟨[.ref x], []⟩ [.ref x] [.ref x] _ E0 (roomH_in1 hr) I.env0.in1 b2 (.cons rfl .nil) hs) fun r s2 hq => ?_))
  cases r with
  | error e => exact hq.elim
  | ok fl =>
    cases fl with
    | ret v =>
      obtain ⟨v2, H2, I2, rv, n, rfl, h0, h1, q2⟩ := I.after hq
      obtain ⟨t, rfl⟩ := (show ∃ t, v = Value.int n t from rv)
      refine wpAny_pure (wpAny_bind (wpAny_holding (wpAny_pure ?_)))
      refine wpAny_bind (wpAny_letGo ?_)
      show wpAny _ _ (if n < 0 then _ else _) _ _ _
      rw [if_neg (by omega)]
      show wpAny _ _ (if n ≥ 2 ^ 63 then _ else _) _ _ _
      rw [if_neg (by omega)]
      exact wpAny_bind (wpAny_mkInt (wpAny_pure ⟨_, rfl, .int n, H2, I2.tok _, ⟨_, rfl⟩, q2⟩))
    | next => exact hq.elim
    | brk => exact hq.elim
    | cont => exact hq.elim

local macro_rules | `(tactic| walk_at "rd1") => `(tactic| (first
  | with_reducible refine r_tryA ?_
  | with_reducible refine r_tryO ?_
  | with_reducible refine r_callS ?_
  | with_reducible refine r_xfD ?_
  | ((with_reducible refine r_callLS ?h ?_); (case h => exact rfl))))
def topS (i : Nat) : Stmt := PySem.Challenge.pw_tessera_k36_whole_cut_batches.main.body.getD i (.Pass ⟨0, 0, 0, 0⟩)
abbrev s__wall : Stmt := topS 0
abbrev N__wall : List Str := ["k"]
theorem sc__wall : FnScope N__wall ["k"] (defScope s__wall) := ⟨rfl, rfl, rfl, by decide +kernel, rfl, by decide +kernel, by decide +kernel⟩
abbrev s_check_of : Stmt := topS 8
abbrev N_check_of : List Str := ["values", "rest"]
theorem sc_check_of : FnScope N_check_of ["values"] (defScope s_check_of) := ⟨rfl, rfl, rfl, by decide +kernel, rfl, by decide +kernel, by decide +kernel⟩
abbrev s_read_eight : Stmt := topS 14
abbrev N_read_eight : List Str := ["digits", "number", "digit"]
theorem sc_read_eight : FnScope N_read_eight ["digits"] (defScope s_read_eight) := ⟨rfl, rfl, rfl, by decide +kernel, rfl, by decide +kernel, by decide +kernel⟩
abbrev s_is_whole_seal : Stmt := topS 15
abbrev N_is_whole_seal : List Str := ["found"]
theorem sc_is_whole_seal : FnScope N_is_whole_seal ["found"] (defScope s_is_whole_seal) := ⟨rfl, rfl, rfl, by decide +kernel, rfl, by decide +kernel, by decide +kernel⟩
abbrev s_seal_at : Stmt := topS 16
abbrev N_seal_at : List Str := ["disk", "address", "found"]
theorem sc_seal_at : FnScope N_seal_at ["disk", "address"] (defScope s_seal_at) := ⟨rfl, rfl, rfl, by decide +kernel, rfl, by decide +kernel, by decide +kernel⟩
abbrev s_last_seal : Stmt := topS 17
abbrev N_last_seal : List Str := ["disk", "address"]
theorem sc_last_seal : FnScope N_last_seal ["disk"] (defScope s_last_seal) := ⟨rfl, rfl, rfl, by decide +kernel, rfl, by decide +kernel, by decide +kernel⟩
abbrev s_make_ready : Stmt := topS 18
abbrev N_make_ready : List Str := ["disk", "address", "batch", "root"]
theorem sc_make_ready : FnScope N_make_ready ["disk"] (defScope s_make_ready) := ⟨rfl, rfl, rfl, by decide +kernel, rfl, by decide +kernel, by decide +kernel⟩
abbrev s_is_doubled : Stmt := topS 19
abbrev N_is_doubled : List Str := ["disk", "address"]
theorem sc_is_doubled : FnScope N_is_doubled ["disk", "address"] (defScope s_is_doubled) := ⟨rfl, rfl, rfl, by decide +kernel, rfl, by decide +kernel, by decide +kernel⟩
abbrev s__law_cell : Stmt := topS 23
abbrev N__law_cell : List Str := ["script", "k"]
theorem sc__law_cell : FnScope N__law_cell ["script", "k"] (defScope s__law_cell) := ⟨rfl, rfl, rfl, by decide +kernel, rfl, by decide +kernel, by decide +kernel⟩
abbrev s__law_draws : Stmt := topS 24
abbrev N__law_draws : List Str := ["cell", "count", "rows", "left", "k", "mixed"]
theorem sc__law_draws : FnScope N__law_draws ["cell", "count"] (defScope s__law_draws) := ⟨rfl, rfl, rfl, by decide +kernel, rfl, by decide +kernel, by decide +kernel⟩
abbrev s__law_is_int : Stmt := topS 25
abbrev N__law_is_int : List Str := ["x"]
theorem sc__law_is_int : FnScope N__law_is_int ["x"] (defScope s__law_is_int) := ⟨rfl, rfl, rfl, by decide +kernel, rfl, by decide +kernel, by decide +kernel⟩
abbrev s__law_is_number : Stmt := topS 26
abbrev N__law_is_number : List Str := ["x", "due"]
theorem sc__law_is_number : FnScope N__law_is_number ["x", "due"] (defScope s__law_is_number) := ⟨rfl, rfl, rfl, by decide +kernel, rfl, by decide +kernel, by decide +kernel⟩
abbrev s__law_sum : Stmt := topS 27
abbrev N__law_sum : List Str := ["values", "total", "value"]
theorem sc__law_sum : FnScope N__law_sum ["values"] (defScope s__law_sum) := ⟨rfl, rfl, rfl, by decide +kernel, rfl, by decide +kernel, by decide +kernel⟩
abbrev s__law_record : Stmt := topS 28
abbrev N__law_record : List Str := ["kind", "content", "rows"]
theorem sc__law_record : FnScope N__law_record ["kind", "content"] (defScope s__law_record) := ⟨rfl, rfl, rfl, by decide +kernel, rfl, by decide +kernel, by decide +kernel⟩
abbrev s__law_digits : Stmt := topS 29
abbrev N__law_digits : List Str := ["number", "found", "k"]
theorem sc__law_digits : FnScope N__law_digits ["number"] (defScope s__law_digits) := ⟨rfl, rfl, rfl, by decide +kernel, rfl, by decide +kernel, by decide +kernel⟩
abbrev s__law_seal : Stmt := topS 30
abbrev N__law_seal : List Str := ["batch", "root", "rows"]
theorem sc__law_seal : FnScope N__law_seal ["batch", "root"] (defScope s__law_seal) := ⟨rfl, rfl, rfl, by decide +kernel, rfl, by decide +kernel, by decide +kernel⟩
abbrev s__law_seal_in : Stmt := topS 31
abbrev N__law_seal_in : List Str := ["values", "at", "rows", "value", "numbers", "k", "number"]
theorem sc__law_seal_in : FnScope N__law_seal_in ["values", "at"] (defScope s__law_seal_in) := ⟨rfl, rfl, rfl, by decide +kernel, rfl, by decide +kernel, by decide +kernel⟩
abbrev s__law_file : Stmt := topS 32
abbrev N__law_file : List Str := ["cell", "draws", "values", "count", "batch", "k", "content", "j", "seal"]
theorem sc__law_file : FnScope N__law_file ["cell"] (defScope s__law_file) := ⟨rfl, rfl, rfl, by decide +kernel, rfl, by decide +kernel, by decide +kernel⟩
abbrev s__law_told : Stmt := topS 33
abbrev N__law_told : List Str := ["values"]
theorem sc__law_told : FnScope N__law_told ["values"] (defScope s__law_told) := ⟨rfl, rfl, rfl, by decide +kernel, rfl, by decide +kernel, by decide +kernel⟩
abbrev s_law : Stmt := topS 34
abbrev N_law : List Str := ["script", "values", "ends", "at", "seal", "draws", "k", "cut", "end", "changed"]
theorem sc_law : FnScope N_law ["script"] (defScope s_law) := ⟨rfl, rfl, rfl, by decide +kernel, rfl, by decide +kernel, by decide +kernel⟩
abbrev s_Disk___init__ : Stmt := inClass (topS 21) 0
abbrev N_Disk___init__ : List Str := ["self", "values"]
theorem sc_Disk___init__ : FnScope N_Disk___init__ ["self", "values"] (defScope s_Disk___init__) := ⟨rfl, rfl, rfl, by decide +kernel, rfl, by decide +kernel, by decide +kernel⟩
abbrev s_Disk___len__ : Stmt := inClass (topS 21) 1
abbrev N_Disk___len__ : List Str := ["self"]
theorem sc_Disk___len__ : FnScope N_Disk___len__ ["self"] (defScope s_Disk___len__) := ⟨rfl, rfl, rfl, by decide +kernel, rfl, by decide +kernel, by decide +kernel⟩
abbrev s_Disk_part : Stmt := inClass (topS 21) 2
abbrev N_Disk_part : List Str := ["self", "address", "count"]
theorem sc_Disk_part : FnScope N_Disk_part ["self", "address", "count"] (defScope s_Disk_part) := ⟨rfl, rfl, rfl, by decide +kernel, rfl, by decide +kernel, by decide +kernel⟩
abbrev s_Disk_append : Stmt := inClass (topS 21) 3
abbrev N_Disk_append : List Str := ["self", "values"]
theorem sc_Disk_append : FnScope N_Disk_append ["self", "values"] (defScope s_Disk_append) := ⟨rfl, rfl, rfl, by decide +kernel, rfl, by decide +kernel, by decide +kernel⟩
abbrev s_Disk_cut : Stmt := inClass (topS 21) 4
abbrev N_Disk_cut : List Str := ["self", "count"]
theorem sc_Disk_cut : FnScope N_Disk_cut ["self", "count"] (defScope s_Disk_cut) := ⟨rfl, rfl, rfl, by decide +kernel, rfl, by decide +kernel, by decide +kernel⟩
structure Errs (K : PySem.W.Frag) (mg : Str → Option Value) (C_TesseraError C_NotAStore : Addr) : Prop where
  c_TesseraError : ErrCls K mg C_TesseraError "TesseraError"
  c_NotAStore : ErrCls K mg C_NotAStore "NotAStore"
  p_NotAStore : ErrPl K C_NotAStore
  s_TesseraError_TesseraError : PySem.W.subIn K (.ref C_TesseraError) (.ref C_TesseraError) = some true
  s_TesseraError_NotAStore : PySem.W.subIn K (.ref C_TesseraError) (.ref C_NotAStore) = some false
  s_NotAStore_TesseraError : PySem.W.subIn K (.ref C_NotAStore) (.ref C_TesseraError) = some true
  s_NotAStore_NotAStore : PySem.W.subIn K (.ref C_NotAStore) (.ref C_NotAStore) = some true
structure Cl_Disk (K : PySem.W.Frag) (mg : Str → Option Value) (C : Addr) : Prop where
  cl : Cls K C
  at_ : mg "Disk" = some (.ref C)
  a__file : NoAttr K C "_file"
  i_ : MkAt K C "Disk.__init__" s_Disk___init__ ["self", "values"]
  m___len__ : MethAt K C "__len__" "Disk.__len__" s_Disk___len__ ["self"]
  m_part : MethAt K C "part" "Disk.part" s_Disk_part ["self", "address", "count"]
  m_append : MethAt K C "append" "Disk.append" s_Disk_append ["self", "values"]
  m_cut : MethAt K C "cut" "Disk.cut" s_Disk_cut ["self", "count"]
structure Top (K : PySem.W.Frag) (mg : Str → Option Value) : Prop where
  f_check_of : FunAt K mg "check_of" s_check_of ["values"]
  f_read_eight : FunAt K mg "read_eight" s_read_eight ["digits"]
  f_is_whole_seal : FunAt K mg "is_whole_seal" s_is_whole_seal ["found"]
  f_seal_at : FunAt K mg "seal_at" s_seal_at ["disk", "address"]
  f_last_seal : FunAt K mg "last_seal" s_last_seal ["disk"]
  f_make_ready : FunAt K mg "make_ready" s_make_ready ["disk"]
  f_is_doubled : FunAt K mg "is_doubled" s_is_doubled ["disk", "address"]
  f__law_cell : FunAt K mg "_law_cell" s__law_cell ["script", "k"]
  f__law_draws : FunAt K mg "_law_draws" s__law_draws ["cell", "count"]
  f__law_is_int : FunAt K mg "_law_is_int" s__law_is_int ["x"]
  f__law_is_number : FunAt K mg "_law_is_number" s__law_is_number ["x", "due"]
  f__law_sum : FunAt K mg "_law_sum" s__law_sum ["values"]
  f__law_record : FunAt K mg "_law_record" s__law_record ["kind", "content"]
  f__law_digits : FunAt K mg "_law_digits" s__law_digits ["number"]
  f__law_seal : FunAt K mg "_law_seal" s__law_seal ["batch", "root"]
  f__law_seal_in : FunAt K mg "_law_seal_in" s__law_seal_in ["values", "at"]
  f__law_file : FunAt K mg "_law_file" s__law_file ["cell"]
  f__law_told : FunAt K mg "_law_told" s__law_told ["values"]
  f_law : FunAt K mg "law" s_law ["script"]
  c_Disk : ∃ C, Cl_Disk K mg C
  errs : ∃ C_TesseraError C_NotAStore, Errs K mg C_TesseraError C_NotAStore
  g_CHECK_BASE : ∃ t, mg "CHECK_BASE" = some (.int 250 t)
  g_CHECK_MODULUS : ∃ t, mg "CHECK_MODULUS" = some (.int 62500 t)
  g_FIRST_BYTE : ∃ t, mg "FIRST_BYTE" = some (.int 255 t)
  g_HIGHEST_BYTE : ∃ t, mg "HIGHEST_BYTE" = some (.int 249 t)
  g_LAST_BYTE : ∃ t, mg "LAST_BYTE" = some (.int 254 t)
  g_NUMBER_BASE : ∃ t, mg "NUMBER_BASE" = some (.int 250 t)
  g_SEAL_LENGTH : ∃ t, mg "SEAL_LENGTH" = some (.int 28 t)
  b_bool : mg "bool" = none
  b_int : mg "int" = none
  b_isinstance : mg "isinstance" = none
  b_len : mg "len" = none
  b_list : mg "list" = none
  b_max : mg "max" = none
  b_min : mg "min" = none
  b_range : mg "range" = none
  b_sum : mg "sum" = none
/-! ### the law's helpers -/
def Dr (ns : List Int) : Prop := ∀ x ∈ ns, 0 ≤ x ∧ x < 4096
theorem Dr.gi {ns : List Int} (d : Dr ns) {i : Int} (h0 : 0 ≤ i) (h1 : i < ns.length) : 0 ≤ gi ns i ∧ gi ns i < 4096 := d _ (gi_mem h0 h1)
theorem Dr.app {ns : List Int} (d : Dr ns) {x : Int} (h0 : 0 ≤ x) (h1 : x < 4096) : Dr (ns ++ [x]) := fun y hy => by
  rcases List.mem_append.mp hy with h | h
  · exact d y h
  · rw [List.mem_singleton.mp h]; exact ⟨h0, h1⟩
theorem Dr.app2 {ns ms : List Int} (d : Dr ns) (e : Dr ms) : Dr (ns ++ ms) := fun y hy => by
  rcases List.mem_append.mp hy with h | h
  · exact d y h
  · exact e y h
theorem Dr.take {ns : List Int} (d : Dr ns) (n : Nat) : Dr (ns.take n) := fun y hy => d y (List.mem_of_mem_take hy)
section
variable {P : Program} {w : World} {K : PySem.W.Frag} {mg : Str → Option Value} {base : Heap}
def sp_cell (K : PySem.W.Frag) : Sp := fun vs H Q _ => ∃ (a : Addr) (ns : List Int) (i : Int), vs = [.ref a, .int i] ∧ SqL K H a (ns.map V.int) ∧ 0 ≤ i ∧ Q (.int (gi ns i)) H
theorem d_cell (T : Top K mg) : Def P w K mg base CX0 1 "_law_cell" ["script", "k"] (sp_cell K) := by
  refine T.f__law_cell.ok sc__law_cell (by rintro vs H Q E ⟨a, ns, i, rfl, _⟩; rfl) (fun f cdv A outer s H vs Q E hr h => ?_)
  obtain ⟨a, ns, i, rfl, hS, h0, q⟩ := h
  refine ⟨_, (pss_cons (ps_if (pt_cmpR op_lt (pv 1) (pe_callB (r := Evl.rLenS K) call_len_seq (by rfl) T.b_len (by decide +kernel) (pa_cons (pv 0) pa_nil)) (nomark _)) (pss_one (ps_ret (pe_ix (r := rIxL K) ix_list (pv 0) (pv 1) (fun _ _ => rfl)))) pss_nil)
      (pss_one (ps_ret pe_int))), ?_⟩
  walk_at "rd"
  refine rif (fun h => ?_) fun h => ?_
  · walk_at "rd"
    rw [List.length_map] at h
    exact r_ixL hS (at_ints h0 h) q
  · walk_at "rd"
    rw [List.length_map] at h
    have e : gi ns i = 0 := by
      unfold gi
      rw [List.getD_eq_getElem?_getD, List.getElem?_eq_none (by omega)]
      rfl
    rw [e] at q
    exact q
def sp_draws : Sp := fun vs H Q _ => ∃ (c : Int) (n : Nat), vs = [.int c, .int n] ∧ n ≤ 1000 ∧ ∀ ns : List Int, ns.length = n → Dr ns → RetO H Q (.lst (ns.map V.int))
theorem d_draws (T : Top K mg) : Def P w K mg base CX0 1 "_law_draws" ["cell", "count"] sp_draws := by
  refine T.f__law_draws.ok sc__law_draws (by rintro vs H Q E ⟨c, n, rfl, _⟩; rfl) (fun f cdv A outer s H vs Q E hr h => ?_)
  obtain ⟨c, n, rfl, hn, q⟩ := h
  refine ⟨_, (pss_cons (ps_set (i := 2) sc__law_draws.nd rfl (Or.inl rfl) (pe_lst pa_nil))
      (pss_cons (ps_set (i := 3) sc__law_draws.nd rfl (Or.inl rfl) (pv 0))
      (pss_cons (ps_for PassesOwn.never rfl (pi_range1 (by rfl) T.b_range (pa_cons (pv 1) pa_nil)) (pg_name (i := 4) sc__law_draws.nd rfl (Or.inl rfl)) (pss_one (ps_if (pt_cutT (PW.pt (pw_and (pt_cmpR op_ge (pv 0) (pe_powC (c := 1000000000000000000) ⟨by decide, by decide, by decide⟩ (by decide +kernel)) (nomark _)) (pw_and1 (pt_cmpR op_gt (pv 3) pe_int (nomark _)))))) (pss_cons (ps_expr (pe_bm PySem.F.plainAttrs_list PySem.F.slot_list_append PySem.F.type_list_append mt_append (pv 2) (pa_cons (pe_op op_mod (pe_callTy (r := rInt1) call_int1 (by rfl) T.b_int (by decide +kernel) (pa_cons (pv 3) pa_nil)) pe_int) pa_nil)))
      (pss_one (ps_set (i := 3) sc__law_draws.nd rfl (Or.inl rfl) (pe_op op_fdiv (pv 3) pe_int)))) (pss_cons (ps_set (i := 5) sc__law_draws.nd rfl (Or.inl rfl) (pe_op op_mod (pe_callTy (r := rInt1) call_int1 (by rfl) T.b_int (by decide +kernel) (pa_cons (pe_op op_add (pe_op op_mul (pv 0) pe_int) (pe_op op_mul (pe_op op_add (pv 4) pe_int) pe_int)) pa_nil)) pe_int))
      (pss_cons (ps_set (i := 5) sc__law_draws.nd rfl (Or.inl rfl) (pe_op op_mod (pe_callTy (r := rInt1) call_int1 (by rfl) T.b_int (by decide +kernel) (pa_cons (pe_op op_add (pe_op op_add (pe_op op_mul (pv 5) (pv 5)) (pe_op op_mul (pv 5) pe_int)) (pe_op op_mul (pv 4) pe_int)) pa_nil)) pe_int))
      (pss_cons (ps_set (i := 5) sc__law_draws.nd rfl (Or.inl rfl) (pe_op op_mod (pe_callTy (r := rInt1) call_int1 (by rfl) T.b_int (by decide +kernel) (pa_cons (pe_op op_add (pe_op op_add (pe_op op_mul (pv 5) (pv 5)) (pv 0)) (pe_op op_mul pe_int (pv 4))) pa_nil)) pe_int))
      (pss_one (ps_expr (pe_bm PySem.F.plainAttrs_list PySem.F.slot_list_append PySem.F.type_list_append mt_append (pv 2) (pa_cons (pe_op op_mod (pe_op op_fdiv (pv 5) pe_int) pe_int) pa_nil))))))))))
      (pss_one (ps_ret (pv 2)))))), ?_⟩
  walk_at "rd"
  refine r_newL (Own.nil H) (Nat.zero_le _) fun l H1 o1 => ?_
  walk_at "rd"
  refine forR1 (n := n) rfl (by omega) (fun i σ H' => ∃ (left : Int) (v1 v2 : Option V) (ns : List Int), σ = [some (.int c), some (.int n), some (.ref l), some (.int left), v1, v2] ∧ ns.length = i ∧ Dr ns ∧ Own H H' [(l, .lst (ns.map V.int))])
    ⟨c, none, none, [], rfl, rfl, fun _ h => absurd h (by simp), o1⟩ ?_ ?_
  · rintro i σ H' hi ⟨left, v1, v2, ns, rfl, hl, hd, o⟩
    have hz : (ns.map V.int).length < 10000000 := by rw [List.length_map]; omega
    walk_at "rd"
    refine r_cutT (fun _ H2 => H2 = H') ?_ ?_
    · walk_at "rd"
      refine rif (fun h1 => ?_) fun h1 => ?_ <;> walk_at "rd" <;> rfl
    rintro b _ rfl
    refine rif_b (fun _ => ?_) fun _ => ?_ <;> walk_at "rd"
    · refine r_app o 0 rfl hz fun H2 o2 => ?_
      walk_at "rd"
      refine ⟨_, _, _, ns ++ [_], rfl, ?_, ?_, (by rw [List.map_append]; exact o2)⟩
      · rw [List.length_append]; simp [hl]
      · exact hd.app (by omega) (by omega)
    · refine r_app o 0 rfl hz fun H2 o2 => ?_
      refine ⟨_, _, _, ns ++ [_], rfl, ?_, ?_, (by rw [List.map_append]; exact o2)⟩
      · rw [List.length_append]; simp [hl]
      · exact hd.app (by omega) (by omega)
  · rintro σ H' ⟨left, v1, v2, ns, rfl, hl, hd, o⟩
    walk_at "rd"
    exact (q ns hl hd).mk o 0 rfl
def sp_is_int : Sp := fun vs H Q _ => ∃ (i : Int), vs = [.int i] ∧ Q (.bl true) H
theorem d_is_int (T : Top K mg) : Def P w K mg base CX0 1 "_law_is_int" ["x"] sp_is_int := by
  refine T.f__law_is_int.ok sc__law_is_int (by rintro vs H Q E ⟨i, rfl, _⟩; rfl) (fun f cdv A outer s H vs Q E hr h => ?_)
  obtain ⟨i, rfl, q⟩ := h
  refine ⟨_, (pss_one (ps_ret (pe_and (pe_callB (r := rIsi K) call_isi (by rfl) T.b_isinstance (by decide +kernel) (pa_cons (pv 0) (pa_cons (pe_bltn (v := .ty "int") (by rfl) T.b_int (by decide +kernel) rfl) pa_nil))) (pe_one (pe_not (pe_callB (r := rIsi K) call_isi (by rfl) T.b_isinstance (by decide +kernel) (pa_cons (pv 0) (pa_cons (pe_bltn (v := .ty "bool") (by rfl) T.b_bool (by decide +kernel) rfl) pa_nil)))))))), ?_⟩
  walk_at "rd"
  exact q
def sp_is_number : Sp := fun vs H Q _ => ∃ (i j : Int), vs = [.int i, .int j] ∧ Q (.bl (decide (i = j))) H
theorem d_is_number (T : Top K mg) : Def P w K mg base CX0 2 "_law_is_number" ["x", "due"] sp_is_number := by
  have G__law_is_int : Def P w K mg base CX0 1 "_law_is_int" ["x"] sp_is_int := d_is_int T
  refine T.f__law_is_number.ok sc__law_is_number (by rintro vs H Q E ⟨i, j, rfl, _⟩; rfl) (fun f cdv A outer s H vs Q E hr h => ?_)
  obtain ⟨i, j, rfl, q⟩ := h
  refine ⟨_, (pss_one (ps_ret (pe_and (pe_callD G__law_is_int (hr.mono (by decide)) (pa_cons (pv 0) pa_nil)) (pe_one (pe_cmpR op_eq (pv 0) (pv 1) (nomark _)))))), ?_⟩
  walk_at "rd"
  refine ⟨i, rfl, ?_⟩
  walk_at "rd"
  exact q
def spLaw (K : PySem.W.Frag) : Sp := fun vs H Q _ => ∃ (a : Addr) (ss : List Int), vs = [.ref a] ∧ SqL K H a (ss.map V.int) ∧ ss.length ≤ 63 ∧ (∀ z ∈ ss, PySem.Builtin.Int.intBits z ≤ 1048576) ∧ ∀ H', Q (.bl true) H'
theorem law_in {a : Addr} {ss : List Int} {H : Hp} (hl : ss.length ≤ 63) (hb : ∀ z ∈ ss, PySem.Builtin.Int.intBits z ≤ 1048576) (hS : SqL K H a (ss.map V.int)) : spLaw K [.ref a] H (fun v _ => v = .bl true) fun _ _ _ => False :=
  ⟨a, ss, rfl, hS, hl, hb, fun _ => rfl⟩
end

section
variable {P : Program} {w : World} {K : PySem.W.Frag} {mg : Str → Option Value} {base : Heap}
def chk (ns : List Int) : List Int := [ns.sum % 62500 / 250, ns.sum % 62500 % 250]
def sp_check_of (K : PySem.W.Frag) : Sp := fun vs H Q _ => ∃ (a : Addr) (ns : List Int), vs = [.ref a] ∧ SqL K H a (ns.map V.int) ∧ RetO H Q (.lst ((chk ns).map V.int))
theorem d_check_of (T : Top K mg) : Def P w K mg base CX0 1 "check_of" ["values"] (sp_check_of K) := by
  obtain ⟨t1, g_CHECK_MODULUS⟩ := T.g_CHECK_MODULUS
  obtain ⟨t2, g_CHECK_BASE⟩ := T.g_CHECK_BASE
  refine T.f_check_of.ok sc_check_of (by rintro vs H Q E ⟨a, ns, rfl, _⟩; rfl) (fun f cdv A outer s H vs Q E hr h => ?_)
  obtain ⟨a, ns, rfl, hS, q⟩ := h
  refine ⟨_, (pss_cons (ps_set (i := 1) sc_check_of.nd rfl (Or.inl rfl) (pe_op op_mod (pe_callB (r := rSum K) (cr_sum rfl) (by rfl) T.b_sum (by decide +kernel) (pa_cons (pv 0) pa_nil)) (pe_glob (v := .int 62500) rfl g_CHECK_MODULUS ⟨_, rfl⟩)))
      (pss_one (ps_ret (pe_lst (pa_cons (pe_op op_fdiv (pv 1) (pe_glob (v := .int 250) rfl g_CHECK_BASE ⟨_, rfl⟩)) (pa_cons (pe_op op_mod (pv 1) (pe_glob (v := .int 250) rfl g_CHECK_BASE ⟨_, rfl⟩)) pa_nil)))))), ?_⟩
  walk_at "rd"
  refine r_newL (Own.nil H) (Nat.le_of_ble_eq_true rfl) fun l H1 o1 => ?_
  exact q.mk o1 0 rfl
end

section
variable {P : Program} {w : World} {K : PySem.W.Frag} {mg : Str → Option Value} {base : Heap}
theorem r_revL {te : TE} {σ : L2.St} {H : Hp} {Q : VK} (q : te σ H fun x H1 => ∃ a xs, x = .ref a ∧ SqL K H1 a xs ∧ ∀ p, H1 p = none → Q (.ref p) (upd H1 p (.lst xs.reverse))) : tRevL K te σ H Q := q
def dg : Nat → Int → List Int
  | 0, _ => []
  | w + 1, v => v % 250 :: dg w (v / 250)
theorem dg_len : ∀ (w : Nat) (v : Int), (dg w v).length = w
  | 0, _ => rfl
  | w + 1, v => by show (dg w (v / 250)).length + 1 = w + 1; rw [dg_len w]
theorem dg_b : ∀ (w : Nat) (v : Int), ∀ x ∈ dg w v, 0 ≤ x ∧ x < 250
  | 0, _ => fun _ h => nomatch h
  | w + 1, v => fun x hx => by
    rcases List.mem_cons.mp hx with rfl | h
    · omega
    · exact dg_b w _ x h
def w8 (v : Int) : List Int := (dg 8 v).reverse
def rd8 (ds : List Int) : Int := ds.foldl (fun n d => n * 250 + d) 0
theorem rd8_snoc {ds : List Int} {i : Nat} {d : Int} (h : ds[i]? = some d) : rd8 (ds.take (i + 1)) = rd8 (ds.take i) * 250 + d := by
  rw [List.take_add_one, h]
  unfold rd8
  rw [List.foldl_append]
  rfl
theorem rd8_b : ∀ (ds : List Int), (∀ x ∈ ds, 0 ≤ x ∧ x < 256) → ds.length ≤ 8 → 0 ≤ rd8 ds ∧ rd8 ds < 256 ^ ds.length := by
  intro ds
  suffices h : ∀ (ds : List Int) (n : Int) (j : Nat), (∀ x ∈ ds, 0 ≤ x ∧ x < 256) → 0 ≤ n → n < 256 ^ j → 0 ≤ ds.foldl (fun n d => n * 250 + d) n ∧ ds.foldl (fun n d => n * 250 + d) n < 256 ^ (j + ds.length) by
    intro hb _
    have := h ds 0 0 hb (by omega) (by decide)
    rw [Nat.zero_add] at this
    exact this
  intro ds
  induction ds with
  | nil => intro n j _ h0 h1; exact ⟨h0, h1⟩
  | cons d ds ih =>
    intro n j hb h0 h1
    have hd := hb d List.mem_cons_self
    have := ih (n * 250 + d) (j + 1) (fun x hx => hb x (List.mem_cons_of_mem _ hx)) (by omega) (by rw [Int.pow_succ]; omega)
    rw [List.length_cons, show j + (ds.length + 1) = j + 1 + ds.length by omega]
    exact this
theorem w8_len (v : Int) : (w8 v).length = 8 := by unfold w8; rw [List.length_reverse, dg_len]
theorem w8_b (v : Int) : ∀ x ∈ w8 v, 0 ≤ x ∧ x < 250 := fun x hx => dg_b 8 v x (List.mem_reverse.mp hx)
def told (b a l : Int) : List Int := w8 b ++ w8 a ++ w8 l
def sealL (b a l : Int) : List Int := [255] ++ told b a l ++ chk (told b a l) ++ [254]
theorem told_len (b a l : Int) : (told b a l).length = 24 := by unfold told; rw [List.length_append, List.length_append, w8_len, w8_len, w8_len]
theorem seal_len (b a l : Int) : (sealL b a l).length = 28 := by unfold sealL; rw [List.length_append, List.length_append, List.length_append, told_len]; rfl
def sp_w8 : Sp := fun vs H Q _ => ∃ (v : Int), vs = [.int v] ∧ 0 ≤ v ∧ RetO H Q (.lst ((w8 v).map V.int))
def sp_r8 (K : PySem.W.Frag) : Sp := fun vs H Q _ => ∃ (a : Addr) (ds : List Int), vs = [.ref a] ∧ SqL K H a (ds.map V.int) ∧ (∀ x ∈ ds, 0 ≤ x ∧ x < 256) ∧ ds.length ≤ 8 ∧ Q (.int (rd8 ds)) H
theorem d_read_eight (T : Top K mg) : Def P w K mg base CX0 1 "read_eight" ["digits"] (sp_r8 K) := by
  obtain ⟨t2, g_NUMBER_BASE⟩ := T.g_NUMBER_BASE
  refine T.f_read_eight.ok sc_read_eight (by rintro vs H Q E ⟨a, ds, rfl, _⟩; rfl) (fun f cdv A outer s H vs Q E hr h => ?_)
  obtain ⟨a, ds, rfl, hS, hb, hl, q⟩ := h
  refine ⟨_, (pss_cons (ps_set (i := 1) sc_read_eight.nd rfl (Or.inl rfl) pe_int)
      (pss_cons (ps_for PassesOwn.never rfl (pi_list (pv 0)) (pg_name (i := 2) sc_read_eight.nd rfl (Or.inl rfl)) (pss_one (ps_set (i := 1) sc_read_eight.nd rfl (Or.inl rfl) (pe_op op_add (pe_op op_mul (pv 1) (pe_glob (v := .int 250) rfl g_NUMBER_BASE ⟨_, rfl⟩)) (pv 2)))))
      (pss_one (ps_ret (pv 1))))), ?_⟩
  walk_at "rd"
  refine forL hS (fun i σ' H' => H' = H ∧ ∃ v, σ' = [some (.ref a), some (.int (rd8 (ds.take i))), v]) ⟨rfl, _, rfl⟩ (fun i σ' H' _ ⟨e, _⟩ => by rw [e]; exact hS) ?_ ?_
  · rintro i x σ' H' hx ⟨rfl, v, rfl⟩
    obtain ⟨z, hv, rfl⟩ : ∃ z, ds[i]? = some z ∧ x = .int z := by
      rw [List.getElem?_map] at hx
      cases h2 : ds[i]? with
      | none => rw [h2] at hx; cases hx
      | some v => rw [h2] at hx; cases hx; exact ⟨v, rfl, rfl⟩
    walk_at "rd"
    rw [← rd8_snoc hv]
    exact ⟨rfl, _, rfl⟩
  · rintro σ' H' ⟨rfl, v, rfl⟩
    rw [List.length_map, List.take_length]
    walk_at "rd"
    exact q
def sp_make_seal (K : PySem.W.Frag) : Sp := fun vs H Q _ => ∃ (b a l : Int) (t : Addr), vs = [.int b, .ref t] ∧ SqT K H t (([a, l] : List Int).map V.int) ∧ 0 ≤ b ∧ 0 ≤ a ∧ 0 ≤ l ∧ RetO H Q (.lst ((sealL b a l).map V.int))
theorem sIx_neg (n d : Nat) {k : Nat} (h : 0 < k) : HT.sIx n d (some (-(k : Int))) = n - k := by
  show (if (-(k : Int)) < 0 then (-(k : Int) + (n : Int)).toNat else min (-(k : Int)).toNat n) = n - k
  rw [if_pos (by omega)]
  omega
def wholeB (f : List Int) : Bool := decide (f.length = 28) && (decide (gi f 0 = 255) && (decide (gi f 27 = 254) && (decide (∀ x ∈ (f.drop 1).take 26, x ≤ 249) && decide (chk ((f.drop 1).take 24) = (f.drop 25).take 2))))
theorem cutA {f : List V} (h : f.length = 28) : cutV f (some 1) (some (-1)) = (f.drop 1).take 26 := by
  unfold cutV
  rw [h, show (-1 : Int) = -((1 : Nat) : Int) from rfl, sIx_neg 28 28 (by decide), show (1 : Int) = ((1 : Nat) : Int) from rfl, HT.sIx_nat]
  rfl
theorem cutB {f : List V} (h : f.length = 28) : cutV f (some 1) (some (-3)) = (f.drop 1).take 24 := by
  unfold cutV
  rw [h, show (-3 : Int) = -((3 : Nat) : Int) from rfl, sIx_neg 28 28 (by decide), show (1 : Int) = ((1 : Nat) : Int) from rfl, HT.sIx_nat]
  rfl
theorem cutC {f : List V} (h : f.length = 28) : cutV f (some (-3)) (some (-1)) = (f.drop 25).take 2 := by
  unfold cutV
  rw [h, show (-1 : Int) = -((1 : Nat) : Int) from rfl, show (-3 : Int) = -((3 : Nat) : Int) from rfl, sIx_neg 28 28 (by decide), sIx_neg 28 0 (by decide)]
def sp_is_ws (K : PySem.W.Frag) : Sp := fun vs H Q _ => ∃ (a : Addr) (f : List Int), vs = [.ref a] ∧ SqL K H a (f.map V.int) ∧ RetV H Q (.bl (wholeB f))
theorem d_is_ws (T : Top K mg) : Def P w K mg base CX0 2 "is_whole_seal" ["found"] (sp_is_ws K) := by
  have G_check_of : Def P w K mg base CX0 1 "check_of" ["values"] (sp_check_of K) := d_check_of T
  obtain ⟨t1, g_FIRST_BYTE⟩ := T.g_FIRST_BYTE
  obtain ⟨t2, g_LAST_BYTE⟩ := T.g_LAST_BYTE
  obtain ⟨t3, g_SEAL_LENGTH⟩ := T.g_SEAL_LENGTH
  obtain ⟨t4, g_HIGHEST_BYTE⟩ := T.g_HIGHEST_BYTE
  refine T.f_is_whole_seal.ok sc_is_whole_seal (by rintro vs H Q E ⟨a, f, rfl, _⟩; rfl) (fun f cdv A outer s H vs Q E hr h => ?_)
  obtain ⟨a, f, rfl, hS, q⟩ := h
  refine ⟨_, (pss_cons (ps_if (PW.pt (pw_or (pt_cmpR op_ne (pe_callB (r := Evl.rLenS K) call_len_seq (by rfl) T.b_len (by decide +kernel) (pa_cons (pv 0) pa_nil)) (pe_glob (v := .int 28) rfl g_SEAL_LENGTH ⟨_, rfl⟩) (nomark _)) (pw_or (pt_cmpR op_ne (pe_ix (r := rIxL K) ix_list (pv 0) pe_int (fun _ _ => rfl)) (pe_glob (v := .int 255) rfl g_FIRST_BYTE ⟨_, rfl⟩) (nomark _)) (pw_or1 (pt_cmpR op_ne (pe_ix (r := rIxL K) ix_list (pv 0) (pe_un un_neg pe_int) (fun _ _ => rfl)) (pe_glob (v := .int 254) rfl g_LAST_BYTE ⟨_, rfl⟩) (nomark _)))))) (pss_one (ps_ret pe_bl)) pss_nil)
      (pss_one (ps_ret (pe_and (pe_cmpR op_le (pe_callB (r := rMax K) (cr_max rfl) (by rfl) T.b_max (by decide +kernel) (pa_cons (pe_slice (r := rSlL K) sl_list (pv 0) (po_some pe_int) (po_some (pe_un un_neg pe_int))) pa_nil)) (pe_glob (v := .int 249) rfl g_HIGHEST_BYTE ⟨_, rfl⟩) (nomark _)) (pe_one (pe_cmpR (r := rEqD K) (op_eqD hr.units) (pe_callD G_check_of (hr.mono (by decide)) (pa_cons (pe_slice (r := rSlL K) sl_list (pv 0) (po_some pe_int) (po_some (pe_un un_neg pe_int))) pa_nil)) (pe_slice (r := rSlL K) sl_list (pv 0) (po_some (pe_un un_neg pe_int)) (po_some (pe_un un_neg pe_int))) (nomark _))))))), ?_⟩
  unfold wholeB at q
  walk_at "rd"
  by_cases h1 : f.length = 28
  case neg =>
    rw [decide_eq_false h1] at q
    refine rif_nno (by rw [List.length_map]; omega) ?_
    walk_at "rd"
    exact q.here
  rw [decide_eq_true h1, Bool.true_and] at q
  refine rif_nyes (by rw [List.length_map]; omega) ?_
  walk_at "rd"
  by_cases h2 : gi f 0 = 255
  case neg =>
    rw [decide_eq_false h2] at q
    refine rif_nno h2 ?_
    walk_at "rd"
    exact q.here
  rw [decide_eq_true h2, Bool.true_and] at q
  refine rif_nyes h2 ?_
  walk_at "rd"
  refine r_ixL hS (at_neg (d := 1) (by decide) (by omega)) ?_
  rw [show ((f.length : Nat) : Int) - ((1 : Nat) : Int) = 27 by omega]
  walk_at "rd"
  by_cases h3 : gi f 27 = 254
  case neg =>
    rw [decide_eq_false h3] at q
    refine rif_nno h3 ?_
    walk_at "rd"
    exact q.here
  rw [decide_eq_true h3, Bool.true_and] at q
  refine rif_nyes h3 ?_
  walk_at "rd"
  have hml : (f.map V.int).length = 28 := by rw [List.length_map, h1]
  refine r_slL (Own.nil H) hS fun p1 H1 o1 => ?_
  rw [cutA hml, ← List.map_drop, ← List.map_take] at o1
  walk_at "rd"
  refine ⟨_, _, rfl, o1.sqL 0 rfl, by rw [List.length_take, List.length_drop]; omega, fun m hm hmx => ?_⟩
  walk_at "rd"
  have h4 : (m ≤ 249) ↔ ∀ x ∈ (f.drop 1).take 26, x ≤ 249 := ⟨fun h x hx => Int.le_trans (hmx x hx) h, fun h => h m hm⟩
  by_cases h5 : m ≤ 249
  case neg =>
    rw [decide_eq_false (fun h => h5 (h4.mpr h))] at q
    refine rif_no h5 ?_
    exact q.mk o1
  rw [decide_eq_true (h4.mp h5), Bool.true_and] at q
  refine rif_yes h5 ?_
  walk_at "rd"
  refine r_slL o1 (o1.old hS) fun p2 H2 o2 => ?_
  rw [cutB hml, ← List.map_drop, ← List.map_take] at o2
  walk_at "rd"
  refine ⟨_, _, rfl, o2.sqL 0 rfl, r_ret1 o2 fun p3 H3 o3 => ?_⟩
  walk_at "rd"
  refine r_slL o3 (o3.old hS) fun p4 H4 o4 => ?_
  rw [cutC hml, ← List.map_drop, ← List.map_take] at o4
  walk_at "rd"
  refine r_eqLL (o4.sqL 1 rfl) (o4.sqL 0 rfl) ?_
  exact q.mk o4
end

section
variable {P : Program} {w : World} {K : PySem.W.Frag} {mg : Str → Option Value} {base : Heap}
/-- the fields of a disk whose file is the list at l -/
def dkF (l : Addr) : List (Str × V) := [("_file", .ref l)]
def sp_dinit (K : PySem.W.Frag) (C : Addr) : Sp := fun vs H Q _ => ∃ (p a dx : Addr) (xs : List V), vs = [.ref p, .ref a] ∧ H p = some (.ins C dx []) ∧ SqL K H a xs ∧ ∀ l, H l = none → Q .non (upd (upd H l (.lst xs)) p (.ins C dx (dkF l)))
theorem d_dinit {C : Addr} (T : Top K mg) (D : Cl_Disk K mg C) : KDef P w K mg base CX0 1 C ["self", "values"] (sp_dinit K C) := by
  refine D.i_.ok sc_Disk___init__ (by rintro vs H Q E ⟨p, a, dx, xs, rfl, _⟩; rfl) (fun f cdv A outer s H vs Q E hr h => ?_)
  obtain ⟨p, a, dx, xs, rfl, hp, hS, q⟩ := h
  refine ⟨_, (pss_one (ps_fld (pv 0) (pe_callTy (r := Evl.rListS K) call_list_of (by rfl) T.b_list (by decide +kernel) (pa_cons (pv 1) pa_nil)) rfl)), ?_⟩
  walk_at "rd"
  refine ⟨a, xs, rfl, .inl hS, fun l hl => ?_⟩
  walk_at "rd"
  exact ⟨p, C, dx, [], rfl, (upd_ne (ne_of_none hp hl)).trans hp, D.cl, D.a__file, by decide, q l hl⟩
def sp_dpart (K : PySem.W.Frag) (C : Addr) : Sp := fun vs H Q _ => ∃ (p l dx : Addr) (a c : Int) (ns : List Int), vs = [.ref p, .int a, .int c] ∧ H p = some (.ins C dx (dkF l)) ∧ SqL K H l (ns.map V.int) ∧ RetO H Q (.lst (cutV (ns.map V.int) (some a) (some (a + c))))
theorem d_dpart {C : Addr} (T : Top K mg) (D : Cl_Disk K mg C) : MDef P w K mg base CX0 1 C "part" ["self", "address", "count"] (sp_dpart K C) := by
  refine D.m_part.ok sc_Disk_part (by rintro vs H Q E ⟨p, l, dx, a, c, ns, rfl, _⟩; rfl) (fun f cdv A outer s H vs Q E hr h => ?_)
  obtain ⟨p, l, dx, a, c, ns, rfl, hp, hS, q⟩ := h
  refine ⟨_, (pss_one (ps_ret (pe_slice (r := rSlL K) sl_list (pe_fld (pv 0) rfl) (po_some (pv 1)) (po_some (pe_op op_add (pv 1) (pv 2)))))), ?_⟩
  walk_at "rd"
  refine ⟨p, C, dx, dkF l, .ref l, rfl, hp, D.cl, D.a__file, rfl, ?_⟩
  walk_at "rd"
  refine r_slL (Own.nil H) hS fun p3 H3 o3 => ?_
  exact q.mk o3 0 rfl
end

section
variable {P : Program} {w : World} {K : PySem.W.Frag} {mg : Str → Option Value} {base : Heap}
def sp_dlen (K : PySem.W.Frag) (C : Addr) : Sp := fun vs H Q _ => ∃ (p l dx : Addr) (ns : List Int), vs = [.ref p] ∧ H p = some (.ins C dx (dkF l)) ∧ SqL K H l (ns.map V.int) ∧ Q (.int (ns.length : Int)) H
theorem d_dlen {C : Addr} (T : Top K mg) (D : Cl_Disk K mg C) : MDef P w K mg base CX0 1 C "__len__" ["self"] (sp_dlen K C) := by
  refine D.m___len__.ok sc_Disk___len__ (by rintro vs H Q E ⟨p, l, dx, ns, rfl, _⟩; rfl) (fun f cdv A outer s H vs Q E hr h => ?_)
  obtain ⟨p, l, dx, ns, rfl, hp, hS, q⟩ := h
  refine ⟨_, (pss_one (ps_ret (pe_callB (r := Evl.rLenS K) call_len_seq (by rfl) T.b_len (by decide +kernel) (pa_cons (pe_fld (pv 0) rfl) pa_nil)))), ?_⟩
  walk_at "rd"
  refine ⟨p, C, dx, dkF l, .ref l, rfl, hp, D.cl, D.a__file, rfl, ?_⟩
  walk_at "rd"
  rw [List.length_map]
  exact q
end

section
variable {P : Program} {w : World} {K : PySem.W.Frag} {mg : Str → Option Value} {base : Heap}
def sp_dappend (K : PySem.W.Frag) (C : Addr) : Sp := fun vs H Q _ => ∃ (p l dx a : Addr) (ns ms : List Int), vs = [.ref p, .ref a] ∧ H p = some (.ins C dx (dkF l)) ∧ H l = some (.lst (ns.map V.int)) ∧ H a = some (.lst (ms.map V.int)) ∧ ns.length + ms.length ≤ 10000000 ∧ Q .non (upd H l (.lst ((ns ++ ms).map V.int)))
theorem d_dappend {C : Addr} (T : Top K mg) (D : Cl_Disk K mg C) : MDef P w K mg base CX0 1 C "append" ["self", "values"] (sp_dappend K C) := by
  refine D.m_append.ok sc_Disk_append (by rintro vs H Q E ⟨p, l, dx, a, ns, ms, rfl, _⟩; rfl) (fun f cdv A outer s H vs Q E hr h => ?_)
  obtain ⟨p, l, dx, a, ns, ms, rfl, hp, hl, ha, hz, q⟩ := h
  refine ⟨_, (pss_one (ps_expr (pe_bm PySem.F.plainAttrs_list PySem.F.slot_list_extend PySem.F.type_list_extend mt_extend (pe_fld (pv 0) rfl) (pa_cons (pv 1) pa_nil)))), ?_⟩
  walk_at "rd"
  refine ⟨p, C, dx, dkF l, .ref l, rfl, hp, D.cl, D.a__file, rfl, ty_lst hl, ?_⟩
  walk_at "rd"
  refine ⟨l, a, _, _, rfl, rfl, hl, ha, sz100 (by rw [List.length_map, List.length_map]; exact hz), ?_⟩
  rw [List.map_append] at q
  exact q
def sp_dcut (K : PySem.W.Frag) (C : Addr) : Sp := fun vs H Q _ => ∃ (p l dx : Addr) (n : Nat) (ns : List Int), vs = [.ref p, .int (n : Int)] ∧ H p = some (.ins C dx (dkF l)) ∧ H l = some (.lst (ns.map V.int)) ∧ Q .non (upd H l (.lst ((ns.take n).map V.int)))
theorem d_dcut {C : Addr} (T : Top K mg) (D : Cl_Disk K mg C) : MDef P w K mg base CX0 1 C "cut" ["self", "count"] (sp_dcut K C) := by
  refine D.m_cut.ok sc_Disk_cut (by rintro vs H Q E ⟨p, l, dx, n, ns, rfl, _⟩; rfl) (fun f cdv A outer s H vs Q E hr h => ?_)
  obtain ⟨p, l, dx, n, ns, rfl, hp, hl, q⟩ := h
  refine ⟨_, (pss_one (ps_delS (pe_fld (pv 0) rfl) (po_some (pv 1)))), ?_⟩
  walk_at "rd"
  refine r_delS ?_
  walk_at "rd"
  refine ⟨p, C, dx, dkF l, .ref l, rfl, hp, D.cl, D.a__file, rfl, ?_⟩
  walk_at "rd"
  refine ⟨l, _, _, rfl, rfl, hl, by omega, ?_⟩
  rw [List.map_take] at q
  exact q
end

section
variable {P : Program} {w : World} {K : PySem.W.Frag} {mg : Str → Option Value} {base : Heap}
def sealD (r : List Int) : PyData := .tuple [.int (rd8 ((r.drop 1).take 8)), .tuple [.int (rd8 ((r.drop 9).take 8)), .int (rd8 ((r.drop 17).take 8))]]
theorem cut_at (fs : List Int) (n c : Nat) : cutV (fs.map V.int) (some (n : Int)) (some ((n : Int) + (c : Nat))) = ((fs.drop n).take c).map V.int := by
  rw [show (n : Int) + (c : Nat) = ((n + c : Nat) : Int) by omega, cut_both, ← List.map_drop, ← List.map_take, show n + c - n = c by omega]
def sp_seal_at (K : PySem.W.Frag) (C : Addr) : Sp := fun vs H Q _ => ∃ (p l dx : Addr) (n : Nat) (fs : List Int), vs = [.ref p, .int n] ∧ H p = some (.ins C dx (dkF l)) ∧ SqL K H l (fs.map V.int) ∧ (∀ x ∈ fs, 0 ≤ x ∧ x < 256) ∧
  (wholeB ((fs.drop n).take 28) = false → RetV H Q .non) ∧ (wholeB ((fs.drop n).take 28) = true → RetD K H Q (sealD ((fs.drop n).take 28)))
theorem d_seal_at {C : Addr} (T : Top K mg) (C_Disk : Cl_Disk K mg C) : Def P w K mg base CX0 3 "seal_at" ["disk", "address"] (sp_seal_at K C) := by
  have M_Disk_part : MDef P w K mg base CX0 1 C "part" ["self", "address", "count"] (sp_dpart K C) := d_dpart T C_Disk
  have G_is_whole_seal : Def P w K mg base CX0 2 "is_whole_seal" ["found"] (sp_is_ws K) := d_is_ws T
  have G_read_eight : Def P w K mg base CX0 1 "read_eight" ["digits"] (sp_r8 K) := d_read_eight T
  obtain ⟨t3, g_SEAL_LENGTH⟩ := T.g_SEAL_LENGTH
  refine T.f_seal_at.ok sc_seal_at (by rintro vs H Q E ⟨p, l, dx, n, fs, rfl, _⟩; rfl) (fun f cdv A outer s H vs Q E hr h => ?_)
  obtain ⟨p, l, dx, n, fs, rfl, hp, hS, hb, q0, q1⟩ := h
  refine ⟨_, (pss_cons (ps_if (pt_cmpR op_lt (pv 1) pe_int (nomark _)) (pss_one (ps_ret pe_non)) pss_nil)
      (pss_cons (ps_set (i := 2) sc_seal_at.nd rfl (Or.inl rfl) (pe_methD (pv 0) C_Disk.cl M_Disk_part (hr.mono (by decide)) (pa_cons (pv 1) (pa_cons (pe_glob (v := .int 28) rfl g_SEAL_LENGTH ⟨_, rfl⟩) pa_nil))))
      (pss_cons (ps_if (pt_not (pt_val (pe_callD G_is_whole_seal (hr.mono (by decide)) (pa_cons (pv 2) pa_nil)))) (pss_one (ps_ret pe_non)) pss_nil)
      (pss_one (ps_ret (pe_tup (pa_cons (pe_callD G_read_eight (hr.mono (by decide)) (pa_cons (pe_slice (r := rSlL K) sl_list (pv 2) (po_some pe_int) (po_some pe_int)) pa_nil)) (pa_cons (pe_tup (pa_cons (pe_callD G_read_eight (hr.mono (by decide)) (pa_cons (pe_slice (r := rSlL K) sl_list (pv 2) (po_some pe_int) (po_some pe_int)) pa_nil)) (pa_cons (pe_callD G_read_eight (hr.mono (by decide)) (pa_cons (pe_slice (r := rSlL K) sl_list (pv 2) (po_some pe_int) (po_some pe_int)) pa_nil)) pa_nil))) pa_nil)))))))), ?_⟩
  walk_at "rd"
  refine rif_no (by omega) ?_
  walk_at "rd"
  refine ⟨p, dx, dkF l, rfl, hp, rfl, ?_⟩
  walk_at "rd"
  refine ⟨p, l, dx, _, _, fs, rfl, hp, hS, r_ret1 (Own.nil H) fun p1 H1 o1 => ?_⟩
  rw [show (28 : Int) = ((28 : Nat) : Int) from rfl, cut_at] at o1
  have hrb : ∀ x ∈ (fs.drop n).take 28, 0 ≤ x ∧ x < 256 := fun x hx => hb x (List.mem_of_mem_drop (List.mem_of_mem_take hx))
  generalize (fs.drop n).take 28 = r at *
  walk_at "rd"
  refine ⟨_, _, rfl, o1.sqL 0 rfl, r_retv o1 fun H2 o2 => ?_⟩
  cases hw : wholeB r with
  | false =>
    walk_at "rd"
    exact (q0 hw).mk o2
  | true =>
    have sb : ∀ a c : Nat, ∀ x ∈ (r.drop a).take c, 0 ≤ x ∧ x < 256 := fun a c x hx => hrb x (List.mem_of_mem_drop (List.mem_of_mem_take hx))
    walk_at "rd"
    refine r_slL o2 (o2.sqL 0 rfl) fun p3 H3 o3 => ?_
    rw [show (1 : Int) = ((1 : Nat) : Int) from rfl, show (9 : Int) = ((1 : Nat) : Int) + ((8 : Nat) : Int) from rfl, cut_at] at o3
    walk_at "rd"
    refine ⟨_, _, rfl, o3.sqL 0 rfl, sb 1 8, by rw [List.length_take]; omega, ?_⟩
    walk_at "rd"
    refine r_slL o3 (o3.sqL 1 rfl) fun p4 H4 o4 => ?_
    rw [show (9 : Int) = ((9 : Nat) : Int) from rfl, show (17 : Int) = ((9 : Nat) : Int) + ((8 : Nat) : Int) from rfl, cut_at] at o4
    walk_at "rd"
    refine ⟨_, _, rfl, o4.sqL 0 rfl, sb 9 8, by rw [List.length_take]; omega, ?_⟩
    walk_at "rd"
    refine r_slL o4 (o4.sqL 2 rfl) fun p5 H5 o5 => ?_
    rw [show (17 : Int) = ((17 : Nat) : Int) from rfl, show (25 : Int) = ((17 : Nat) : Int) + ((8 : Nat) : Int) from rfl, cut_at] at o5
    walk_at "rd"
    refine ⟨_, _, rfl, o5.sqL 0 rfl, sb 17 8, by rw [List.length_take]; omega, ?_⟩
    walk_at "rd"
    refine r_newTi (K := K) [_, _] rfl o5 (Nat.le_of_ble_eq_true rfl) fun t6 H6 s6 o6 h6 => ?_
    walk_at "rd"
    refine r_newTp (K := K) (ds := [.int _, .tuple (([_, _] : List Int).map PyData.int)]) o6 (.cons (.int _) (.cons (Tp.intsT h6) .nil)) (Nat.le_of_ble_eq_true rfl) fun t7 H7 s7 o7 tt => ?_
    exact (q1 hw).mk o7 tt
end

section
variable {P : Program} {w : World} {K : PySem.W.Frag} {mg : Str → Option Value} {base : Heap}
def lastS (fs : List Int) : Nat → Option Nat
  | 0 => none
  | n + 1 => if wholeB ((fs.drop n).take 28) = true then some n else lastS fs n
def sp_last (K : PySem.W.Frag) (CN C : Addr) : Sp := fun vs H Q E => ∃ (p l dx : Addr) (fs : List Int), vs = [.ref p] ∧ H p = some (.ins C dx (dkF l)) ∧ SqL K H l (fs.map V.int) ∧ (∀ x ∈ fs, 0 ≤ x ∧ x < 256) ∧ fs.length ≤ 1000000 ∧
  (∀ n, lastS fs (fs.length - 27) = some n → RetV H Q (.int (n : Int))) ∧ (lastS fs (fs.length - 27) = none → RetE0 H E CN)
theorem d_last_seal {C_TesseraError C_NotAStore C : Addr} (T : Top K mg) (R : Errs K mg C_TesseraError C_NotAStore) (C_Disk : Cl_Disk K mg C) : Def P w K mg base (L2N.CX P w) 4 "last_seal" ["disk"] (sp_last K C_NotAStore C) := by
  have M_Disk___len__ : MDef P w K mg base CX0 1 C "__len__" ["self"] (sp_dlen K C) := d_dlen T C_Disk
  have G_seal_at : Def P w K mg base CX0 3 "seal_at" ["disk", "address"] (sp_seal_at K C) := d_seal_at T C_Disk
  obtain ⟨t3, g_SEAL_LENGTH⟩ := T.g_SEAL_LENGTH
  refine T.f_last_seal.okN sc_last_seal (by rintro vs H Q E ⟨p, l, dx, fs, rfl, _⟩; rfl) (fun f cdv A outer s H vs Q E hr h => ?_)
  obtain ⟨p, l, dx, fs, rfl, hp, hS, hb, hz, qS, qN⟩ := h
  refine ⟨_, (pss_cons (ps_for (passes_of rfl) rfl (pi_range3 (by rfl) T.b_range (pa_cons (pe_op op_sub (pe_callB (call_lenO M_Disk___len__ (hr.mono (by decide))) (by rfl) T.b_len (by decide +kernel) (pa_cons (pv 0) pa_nil)) (pe_glob (v := .int 28) rfl g_SEAL_LENGTH ⟨_, rfl⟩)) (pa_cons (pe_un un_neg pe_int) (pa_cons (pe_un un_neg pe_int) pa_nil)))) (pg_name (i := 1) sc_last_seal.nd rfl (Or.inl rfl)) (pss_one (ps_if (pt_cmpR (r := rNotNon) op_notN (pe_callD G_seal_at (hr.mono (by decide)) (pa_cons (pv 0) (pa_cons (pv 1) pa_nil))) pe_non (nomark _)) (pss_one (ps_ret (pv 1))) pss_nil)))
      (pss_one (ps_raiseE rfl (L2N.takes_of rfl rfl rfl rfl) (pmk_e0 R.c_NotAStore R.p_NotAStore)))), ?_⟩
  walk_at "rd"
  refine ⟨p, dx, dkF l, rfl, hp, p, l, dx, fs, rfl, hp, hS, (fs.length : Int), rfl, by omega, by omega, ?_⟩
  walk_at "rd"
  refine forR3 (n := fs.length - 27) (by rw [show fs.length - 27 = ((fs.length : Int) - 28 - -1).toNat by omega]; exact RgC.neg (by omega) (by omega) (by omega) (by omega)) (fun j σ' H' => (∃ v, σ' = [some (.ref p), v]) ∧ lastS fs (fs.length - 27) = lastS fs (fs.length - 27 - j) ∧ Own H H' []) ⟨⟨_, rfl⟩, rfl, Own.nil H⟩ ?_ ?_
  · rintro j σ' H' hj ⟨⟨v, rfl⟩, hl, o⟩
    obtain ⟨n, hn, hn2⟩ : ∃ n : Nat, fs.length - 27 - j = n + 1 ∧ (fs.length : Int) - 28 + (j : Int) * -1 = (n : Int) := ⟨fs.length - 28 - j, by omega, by omega⟩
    rw [hn, lastS] at hl
    rw [hn2]
    walk_at "rd"
    refine ⟨p, l, dx, n, fs, rfl, o.ex _ _ hp, o.old hS, hb, fun hw => r_retv o fun H1 o1 => ?_, fun hw => r_retD o fun u1 H1 e1 o1 t1 => ?_⟩
    · rw [if_neg (by rw [hw]; exact Bool.false_ne_true)] at hl
      walk_at "rd"
      refine ⟨⟨_, rfl⟩, ?_, o1⟩
      rw [hl, show fs.length - 27 - (j + 1) = n by omega]
    · rw [if_pos hw] at hl
      obtain ⟨b1, xs1, rfl, _⟩ := t1.inv
      walk_at "rd"
      exact (qS n hl).mk o1
  · rintro σ' H' ⟨⟨v, rfl⟩, hl, o⟩
    rw [Nat.sub_self] at hl
    walk_at "rd"
    exact (qN hl).mk o
end

section
variable {P : Program} {w : World} {K : PySem.W.Frag} {mg : Str → Option Value} {base : Heap}
def seg (fs : List Int) (n : Nat) : List Int := (fs.drop n).take 28
def dbl (fs : List Int) (n : Nat) : Bool := decide (28 ≤ n) && decide (seg fs (n - 28) = seg fs n)
def done (fs : List Int) (n : Nat) : List Int := if dbl (fs.take (n + 28)) n = true then fs.take (n + 28) else fs.take (n + 28) ++ seg (fs.take (n + 28)) n
def sp_isd (K : PySem.W.Frag) (C : Addr) : Sp := fun vs H Q _ => ∃ (p l dx : Addr) (n : Nat) (fs : List Int), vs = [.ref p, .int (n : Int)] ∧ H p = some (.ins C dx (dkF l)) ∧ SqL K H l (fs.map V.int) ∧ RetV H Q (.bl (dbl fs n))
theorem d_isd {C : Addr} (T : Top K mg) (C_Disk : Cl_Disk K mg C) : Def P w K mg base CX0 2 "is_doubled" ["disk", "address"] (sp_isd K C) := by
  have M_Disk_part : MDef P w K mg base CX0 1 C "part" ["self", "address", "count"] (sp_dpart K C) := d_dpart T C_Disk
  obtain ⟨t3, g_SEAL_LENGTH⟩ := T.g_SEAL_LENGTH
  refine T.f_is_doubled.ok sc_is_doubled (by rintro vs H Q E ⟨p, l, dx, n, fs, rfl, _⟩; rfl) (fun f cdv A outer s H vs Q E hr h => ?_)
  obtain ⟨p, l, dx, n, fs, rfl, hp, hS, q⟩ := h
  refine ⟨_, (pss_cons (ps_if (pt_cmpR op_lt (pv 1) (pe_glob (v := .int 28) rfl g_SEAL_LENGTH ⟨_, rfl⟩) (nomark _)) (pss_one (ps_ret pe_bl)) pss_nil)
      (pss_one (ps_ret (pe_cmpR (r := rEqD K) (op_eqD hr.units) (pe_methD (pv 0) C_Disk.cl M_Disk_part (hr.mono (by decide)) (pa_cons (pe_op op_sub (pv 1) (pe_glob (v := .int 28) rfl g_SEAL_LENGTH ⟨_, rfl⟩)) (pa_cons (pe_glob (v := .int 28) rfl g_SEAL_LENGTH ⟨_, rfl⟩) pa_nil))) (pe_methD (pv 0) C_Disk.cl M_Disk_part (hr.mono (by decide)) (pa_cons (pv 1) (pa_cons (pe_glob (v := .int 28) rfl g_SEAL_LENGTH ⟨_, rfl⟩) pa_nil))) (nomark _))))), ?_⟩
  walk_at "rd"
  unfold dbl at q
  by_cases h1 : (n : Int) < 28
  · refine rif_yes h1 ?_
    walk_at "rd"
    rw [decide_eq_false (show ¬ 28 ≤ n by omega)] at q
    exact q.here
  refine rif_no h1 ?_
  rw [decide_eq_true (show 28 ≤ n by omega), Bool.true_and] at q
  obtain ⟨m, hm, hm2⟩ : ∃ m : Nat, n - 28 = m ∧ (n : Int) - 28 = (m : Int) := ⟨n - 28, rfl, by omega⟩
  rw [hm] at q
  walk_at "rd"
  refine ⟨p, dx, dkF l, rfl, hp, rfl, ?_⟩
  walk_at "rd"
  rw [hm2]
  refine ⟨p, l, dx, _, _, fs, rfl, hp, hS, r_ret1 (Own.nil H) fun p1 H1 o1 => ?_⟩
  rw [show (28 : Int) = ((28 : Nat) : Int) from rfl, cut_at] at o1
  walk_at "rd"
  refine ⟨p, dx, dkF l, rfl, o1.ex _ _ hp, rfl, ?_⟩
  walk_at "rd"
  refine ⟨p, l, dx, _, _, fs, rfl, o1.ex _ _ hp, o1.old hS, r_ret1 o1 fun p2 H2 o2 => ?_⟩
  rw [show (28 : Int) = ((28 : Nat) : Int) from rfl, cut_at] at o2
  walk_at "rd"
  refine r_eqLL (o2.sqL 1 rfl) (o2.sqL 0 rfl) ?_
  exact q.mk o2
theorem own_take {H : Hp} {l : Addr} {u : HO} (h : H l = some u) : Own (del H l) H [(l, u)] := by
  refine ⟨fun b x e => ?_, fun x hx => ?_, by simp⟩
  · by_cases hb : b = l
    · subst hb
      rw [del_same] at e
      cases e
    · rw [del_ne hb] at e
      exact e
  · rw [List.mem_singleton.mp hx]
    exact ⟨del_same, h⟩
theorem own_give {H H' : Hp} {l : Addr} {u : HO} {L : List (Addr × HO)} (o : Own (del H l) H' L) (i : Nat) (hi : L[i]? = some (l, u)) : Own (upd H l u) H' [] := by
  refine ⟨fun b x e => ?_, (fun x hx => by cases hx), List.nodup_nil⟩
  by_cases hb : b = l
  · subst hb
    rw [upd_same] at e
    cases e
    exact (o.fr _ (List.mem_of_getElem? hi)).2
  · rw [upd_ne hb] at e
    exact o.ex _ _ (by rw [del_ne hb]; exact e)
theorem lastS_whole {fs : List Int} {n : Nat} : ∀ m : Nat, lastS fs m = some n → wholeB (seg fs n) = true
  | 0, h => by cases h
  | m + 1, h => by
    rw [lastS] at h
    by_cases hw : wholeB ((fs.drop m).take 28) = true
    · rw [if_pos hw] at h
      cases h
      exact hw
    · rw [if_neg hw] at h
      exact lastS_whole m h
def tD (a b c : Int) : PyData := .tuple [.int a, .tuple [.int b, .int c]]
theorem tD_inv {H : Hp} {x : V} {a b c : Int} (h : Tp K H x (tD a b c)) : ∃ p t, x = .ref p ∧ SqT K H p [.int a, .ref t] ∧ SqT K H t (([b, c] : List Int).map V.int) := by
  obtain ⟨p, xs, rfl, hs, ha⟩ := h.inv
  cases ha with
  | cons h1 h2 =>
    cases h2 with
    | cons h3 h4 =>
      cases h4
      have e1 := h1.int_inv
      obtain ⟨t, rfl, ht⟩ := Tp.invI (ns := [b, c]) h3
      subst e1
      exact ⟨p, t, rfl, hs, ht⟩
def sp_ready (K : PySem.W.Frag) (CN C : Addr) : Sp := fun vs H Q E => ∃ (p l dx : Addr) (fs : List Int), vs = [.ref p] ∧ H p = some (.ins C dx (dkF l)) ∧ H l = some (.lst (fs.map V.int)) ∧ (∀ x ∈ fs, 0 ≤ x ∧ x < 256) ∧ fs.length ≤ 1000000 ∧
  (∀ n, lastS fs (fs.length - 27) = some n → RetD K (upd H l (.lst ((done fs n).map V.int))) Q (sealD (seg fs n))) ∧ (lastS fs (fs.length - 27) = none → RetE0 H E CN)
theorem d_ready {C_TesseraError C_NotAStore C : Addr} (T : Top K mg) (R : Errs K mg C_TesseraError C_NotAStore) (C_Disk : Cl_Disk K mg C) : Def P w K mg base (L2N.CX P w) 6 "make_ready" ["disk"] (sp_ready K C_NotAStore C) := by
  have M_Disk_part : MDef P w K mg base CX0 1 C "part" ["self", "address", "count"] (sp_dpart K C) := d_dpart T C_Disk
  have M_Disk_cut : MDef P w K mg base CX0 1 C "cut" ["self", "count"] (sp_dcut K C) := d_dcut T C_Disk
  have M_Disk_append : MDef P w K mg base CX0 1 C "append" ["self", "values"] (sp_dappend K C) := d_dappend T C_Disk
  have G_seal_at : Def P w K mg base CX0 3 "seal_at" ["disk", "address"] (sp_seal_at K C) := d_seal_at T C_Disk
  have G_is_doubled : Def P w K mg base CX0 2 "is_doubled" ["disk", "address"] (sp_isd K C) := d_isd T C_Disk
  have G_last_seal : Def P w K mg base (L2N.CX P w) 4 "last_seal" ["disk"] (sp_last K C_NotAStore C) := d_last_seal T R C_Disk
  obtain ⟨t3, g_SEAL_LENGTH⟩ := T.g_SEAL_LENGTH
  refine T.f_make_ready.okN sc_make_ready (by rintro vs H Q E ⟨p, l, dx, fs, rfl, _⟩; rfl) (fun f cdv A outer s H vs Q E hr h => ?_)
  obtain ⟨p, l, dx, fs, rfl, hp, hl, hb, hz, qS, qN⟩ := h
  refine ⟨_, (pss_cons (ps_set (i := 1) sc_make_ready.nd rfl (Or.inl rfl) (pe_callN G_last_seal (L2N.takes_of rfl rfl rfl rfl) (hr.mono (by decide)) (pa_cons (pv 0) pa_nil)))
      (pss_cons (ps_asg (pe_callD G_seal_at (hr.mono (by decide)) (pa_cons (pv 0) (pa_cons (pv 1) pa_nil))) (pg_tup (n := 2) rfl (pgs_cons (pg_name (i := 2) sc_make_ready.nd rfl (Or.inl rfl)) (pgs_cons (pg_name (i := 3) sc_make_ready.nd rfl (Or.inl rfl)) pgs_nil))))
      (pss_cons (ps_expr (pe_methD (pv 0) C_Disk.cl M_Disk_cut (hr.mono (by decide)) (pa_cons (pe_op op_add (pv 1) (pe_glob (v := .int 28) rfl g_SEAL_LENGTH ⟨_, rfl⟩)) pa_nil)))
      (Evl.pss_cut (ps_if (pt_not (pt_val (pe_callD G_is_doubled (hr.mono (by decide)) (pa_cons (pv 0) (pa_cons (pv 1) pa_nil))))) (pss_one (ps_expr (pe_methD (pv 0) C_Disk.cl M_Disk_append (hr.mono (by decide)) (pa_cons (pe_methD (pv 0) C_Disk.cl M_Disk_part (hr.mono (by decide)) (pa_cons (pv 1) (pa_cons (pe_glob (v := .int 28) rfl g_SEAL_LENGTH ⟨_, rfl⟩) pa_nil))) pa_nil)))) pss_nil)
      (pss_one (ps_ret (pe_tup (pa_cons (pv 2) (pa_cons (pv 3) pa_nil))))))))), ?_⟩
  walk_at "rd"
  have hpl : p ≠ l := fun e => by rw [e, hl] at hp; cases hp
  have hp0 : del H l p = some (.ins C dx (dkF l)) := by rw [del_ne hpl]; exact hp
  have o0 := own_take hl
  refine ⟨p, l, dx, fs, rfl, hp, o0.sqL 0 rfl, hb, hz, fun n hn => r_retv o0 fun H1 o1 => ?_, fun hn => qN hn⟩
  have qS := qS n hn
  have hw := lastS_whole _ hn
  walk_at "rd"
  refine ⟨p, l, dx, n, fs, rfl, o1.ex _ _ hp0, o1.sqL 0 rfl, hb, fun h => absurd h (by unfold seg at hw; rw [hw]; exact fun h => Bool.false_ne_true h.symm), fun _ => r_retD o1 fun u H2 e2 o2 t2 => ?_⟩
  obtain ⟨pu, t, rfl, hu, ht⟩ := tD_inv t2
  refine r_gTup2 hu ?_
  walk_at "rd"
  refine ⟨p, dx, dkF l, rfl, o2.ex _ _ hp0, rfl, ?_⟩
  walk_at "rd"
  rw [show (n : Int) + 28 = ((n + 28 : Nat) : Int) by omega]
  refine ⟨p, l, dx, n + 28, fs, rfl, o2.ex _ _ hp0, o2.at 0 rfl, ?_⟩
  have ht3 := (Stp.set (u := .lst ((fs.take (n + 28)).map V.int)) (o2.at 0 rfl)).sq ht
  have o3 := o2.set (v := .lst ((fs.take (n + 28)).map V.int)) 0 rfl
  generalize upd H2 l (.lst ((fs.take (n + 28)).map V.int)) = H3 at *
  with_reducible conv => whnf
  walk_at "rd"
  refine ⟨fun σ' H' => σ' = [some (.ref p), some (.int n), some (.int (rd8 (((seg fs n).drop 1).take 8))), some (.ref t)] ∧ SqT K H' t (([rd8 (((seg fs n).drop 9).take 8), rd8 (((seg fs n).drop 17).take 8)] : List Int).map V.int) ∧ ∃ L, Own (del H l) H' ((l, .lst ((done fs n).map V.int)) :: L), ?_, ?_⟩
  · walk_at "rd"
    refine ⟨p, l, dx, n, fs.take (n + 28), rfl, o3.ex _ _ hp0, o3.sqL 0 rfl, r_retvs o3 fun H4 s4 o4 => ?_⟩
    have ht4 := (Stp.of s4).sq ht3
    unfold done
    cases hd : dbl (fs.take (n + 28)) n with
    | true =>
      walk_at "rd"
      rw [if_pos rfl]
      exact ⟨rfl, ht4, _, o4⟩
    | false =>
      rw [if_neg Bool.false_ne_true]
      walk_at "rd"
      refine ⟨p, dx, dkF l, rfl, o4.ex _ _ hp0, rfl, ?_⟩
      walk_at "rd"
      refine ⟨p, dx, dkF l, rfl, o4.ex _ _ hp0, rfl, ?_⟩
      walk_at "rd"
      refine ⟨p, l, dx, _, _, fs.take (n + 28), rfl, o4.ex _ _ hp0, o4.sqL 0 rfl, r_ret1s o4 fun p5 H5 s5 o5 => ?_⟩
      rw [show (28 : Int) = ((28 : Nat) : Int) from rfl, cut_at] at o5
      walk_at "rd"
      refine ⟨p, l, dx, p5, _, seg (fs.take (n + 28)) n, rfl, o5.ex _ _ hp0, o5.at 1 rfl, o5.at 0 rfl, by unfold seg; rw [List.length_take, List.length_take]; omega, ?_⟩
      have ht6 := (Stp.set (u := .lst ((fs.take (n + 28) ++ seg (fs.take (n + 28)) n).map V.int)) (o5.at 1 rfl)).sq (s5.sq ht4)
      have o6 := o5.set (v := .lst ((fs.take (n + 28) ++ seg (fs.take (n + 28)) n).map V.int)) 1 rfl
      exact ⟨rfl, ht6, _, o6.pick2 1 0 (by decide) rfl rfl⟩
  rintro σ' H' ⟨rfl, ht', L, o⟩
  walk_at "rd"
  refine r_newTp (K := K) (ds := [.int _, .tuple (([_, _] : List Int).map PyData.int)]) o (.cons (.int _) (.cons (Tp.intsT ht') .nil)) (Nat.le_of_ble_eq_true rfl) fun t7 H7 s7 o7 tt => ?_
  exact qS.mk (own_give o7 0 rfl) tt
end

section
theorem sum_set : ∀ (l : List Int) (i : Nat) (v : Int) (h : i < l.length), (l.set i v).sum = l.sum - l[i] + v
  | x :: l, 0, v, _ => by
    rw [List.set_cons_zero, List.sum_cons, List.sum_cons, List.getElem_cons_zero]; omega
  | x :: l, i + 1, v, h => by
    rw [List.set_cons_succ, List.sum_cons, List.sum_cons, List.getElem_cons_succ, sum_set l i v (Nat.lt_of_succ_lt_succ h)]; omega
theorem seal_form (b a l : Int) : sealL b a l = 255 :: (told b a l ++ (chk (told b a l) ++ [254])) := by simp [sealL]
theorem seal_told (b a l : Int) : ((sealL b a l).drop 1).take 24 = told b a l := by
  rw [seal_form, List.drop_succ_cons, List.drop_zero, List.take_left' (told_len b a l)]
theorem seal_chk (b a l : Int) : ((sealL b a l).drop 25).take 2 = chk (told b a l) := by
  rw [seal_form, List.drop_succ_cons, List.drop_left' (told_len b a l)]
  rfl
theorem seal_mid (b a l : Int) : ((sealL b a l).drop 1).take 26 = told b a l ++ chk (told b a l) := by
  rw [seal_form, List.drop_succ_cons, List.drop_zero, ← List.append_assoc, List.take_left' (by rw [List.length_append, told_len]; rfl)]
theorem told_b (b a l : Int) : ∀ x ∈ told b a l, 0 ≤ x ∧ x < 250 := by
  intro x hx
  unfold told at hx
  rcases List.mem_append.mp hx with h | h
  · rcases List.mem_append.mp h with h | h <;> exact w8_b _ x h
  · exact w8_b _ x h
theorem chk_b (ns : List Int) : ∀ x ∈ chk ns, 0 ≤ x ∧ x < 250 := by
  intro x hx
  unfold chk at hx
  rcases List.mem_cons.mp hx with rfl | h
  · omega
  · rw [List.mem_singleton.mp h]; omega
theorem seal_b (b a l : Int) : ∀ x ∈ sealL b a l, 0 ≤ x ∧ x < 256 := by
  intro x hx
  rw [seal_form] at hx
  rcases List.mem_cons.mp hx with rfl | h
  · omega
  rcases List.mem_append.mp h with h | h
  · have := told_b b a l x h; omega
  rcases List.mem_append.mp h with h | h
  · have := chk_b _ x h; omega
  · rw [List.mem_singleton.mp h]; omega
theorem seal_whole (b a l : Int) : wholeB (sealL b a l) = true := by
  unfold wholeB
  have hl : gi (sealL b a l) 27 = 254 := by
    unfold gi
    rw [seal_form, show (27 : Int).toNat = 26 + 1 from rfl, List.getD_cons_succ, List.getD_eq_getElem?_getD, ← List.append_assoc, List.getElem?_append_right (by rw [List.length_append, told_len]; exact Nat.le_refl _), List.length_append, told_len]
    rfl
  rw [decide_eq_true (seal_len b a l), decide_eq_true (show gi (sealL b a l) 0 = 255 by rw [seal_form]; rfl), decide_eq_true hl, seal_mid, seal_told, seal_chk, decide_eq_true rfl, decide_eq_true]
  · rfl
  intro x hx
  rcases List.mem_append.mp hx with h | h
  · have := told_b b a l x h; omega
  · have := chk_b _ x h; omega
theorem whole_iff {f : List Int} : wholeB f = true ↔ f.length = 28 ∧ gi f 0 = 255 ∧ gi f 27 = 254 ∧ (∀ x ∈ (f.drop 1).take 26, x ≤ 249) ∧ chk ((f.drop 1).take 24) = (f.drop 25).take 2 := by
  unfold wholeB
  simp only [Bool.and_eq_true, decide_eq_true_eq]
theorem whole_short {f : List Int} (h : f.length ≠ 28) : wholeB f = false := by
  cases hw : wholeB f
  · rfl
  · exact absurd (whole_iff.mp hw).1 h
theorem changed {f : List Int} {k : Nat} {v : Int} (hf : wholeB f = true) (hfb : ∀ x ∈ f, 0 ≤ x ∧ x < 256) (hk : k < 28) (hv : 0 ≤ v ∧ v < 256) (hne : v ≠ gi f (k : Int)) : wholeB (f.set k v) = false := by
  cases hw : wholeB (f.set k v)
  · rfl
  exfalso
  obtain ⟨hl, h0, h27, hle, hc⟩ := whole_iff.mp hf
  obtain ⟨_, g0, g27, gle, gc⟩ := whole_iff.mp hw
  have hkl : k < f.length := by omega
  rw [gi_nat hkl] at hne
  have hb := hfb _ (List.getElem_mem hkl)
  by_cases k0 : k = 0
  · subst k0
    rw [show (0 : Int) = ((0 : Nat) : Int) from rfl, gi_nat hkl] at h0
    rw [show (0 : Int) = ((0 : Nat) : Int) from rfl, gi_nat (by rw [List.length_set]; exact hkl), List.getElem_set_self] at g0
    omega
  by_cases k27 : k = 27
  · subst k27
    rw [show (27 : Int) = ((27 : Nat) : Int) from rfl, gi_nat hkl] at h27
    rw [show (27 : Int) = ((27 : Nat) : Int) from rfl, gi_nat (by rw [List.length_set]; exact hkl), List.getElem_set_self] at g27
    omega
  obtain ⟨j, rfl⟩ : ∃ j, k = j + 1 := ⟨k - 1, by omega⟩
  have e1 : (f.set (j + 1) v).drop 1 = (f.drop 1).set j v := by
    cases f with
    | nil => rfl
    | cons x f => rfl
  by_cases hj : j < 24
  · rw [e1, List.take_set, List.drop_set_of_lt (by omega), ← hc] at gc
    have hlt : j < ((f.drop 1).take 24).length := by rw [List.length_take, List.length_drop]; omega
    have es := sum_set ((f.drop 1).take 24) j v hlt
    have ee : ((f.drop 1).take 24)[j] = f[j + 1] := by
      rw [List.getElem_take, List.getElem_drop]
      congr 1
      omega
    rw [ee] at es
    unfold chk at gc
    injection gc with c1 c2
    injection c2 with c2 _
    rw [es] at c1 c2
    generalize ((f.drop 1).take 24).sum = s at *
    generalize f[j + 1] = z at *
    omega
  · have e2 : (f.set (j + 1) v).drop 25 = (f.drop 25).set (j - 24) v := by
      rw [List.drop_set, if_neg (by omega), show j + 1 - 25 = j - 24 by omega]
    rw [e1, List.take_set, List.set_eq_of_length_le (by rw [List.length_take, List.length_drop]; omega), hc, e2, List.take_set] at gc
    have hlt : j - 24 < ((f.drop 25).take 2).length := by rw [List.length_take, List.length_drop]; omega
    have e3 : ((f.drop 25).take 2)[j - 24] = v := by
      have := List.getElem_of_eq gc hlt
      rw [List.getElem_set_self] at this
      exact this
    rw [List.getElem_take, List.getElem_drop] at e3
    apply hne
    rw [← e3]
    congr 1
    omega
end

section
variable {P : Program} {w : World} {K : PySem.W.Frag} {mg : Str → Option Value} {base : Heap}
theorem sum_take {ns : List Int} {i : Nat} {v : Int} (h : ns[i]? = some v) : (ns.take (i + 1)).sum = (ns.take i).sum + v := by
  rw [List.take_add_one, h]
  simp
def sp_lsum (K : PySem.W.Frag) : Sp := fun vs H Q _ => ∃ (a : Addr) (ns : List Int), vs = [.ref a] ∧ SqL K H a (ns.map V.int) ∧ RetO H Q (.lst ((chk ns).map V.int))
theorem d_lsum (T : Top K mg) : Def P w K mg base CX0 1 "_law_sum" ["values"] (sp_lsum K) := by
  refine T.f__law_sum.ok sc__law_sum (by rintro vs H Q E ⟨a, ns, rfl, _⟩; rfl) (fun f cdv A outer s H vs Q E hr h => ?_)
  obtain ⟨a, ns, rfl, hS, q⟩ := h
  refine ⟨_, (pss_cons (ps_set (i := 1) sc__law_sum.nd rfl (Or.inl rfl) pe_int)
      (pss_cons (ps_for PassesOwn.never rfl (pi_list (pv 0)) (pg_name (i := 2) sc__law_sum.nd rfl (Or.inl rfl)) (pss_one (ps_set (i := 1) sc__law_sum.nd rfl (Or.inl rfl) (pe_op op_add (pv 1) (pv 2)))))
      (pss_one (ps_ret (pe_lst (pa_cons (pe_op op_fdiv (pe_op op_mod (pv 1) pe_int) pe_int) (pa_cons (pe_op op_mod (pe_op op_mod (pv 1) pe_int) pe_int) pa_nil))))))), ?_⟩
  walk_at "rd"
  refine forL hS (fun i σ' H' => H' = H ∧ ∃ v, σ' = [some (.ref a), some (.int (ns.take i).sum), v]) ⟨rfl, _, rfl⟩ (fun i σ' H' _ ⟨e, _⟩ => by rw [e]; exact hS) ?_ ?_
  · rintro i x σ' H' hx ⟨rfl, v, rfl⟩
    obtain ⟨z, hv, rfl⟩ : ∃ z, ns[i]? = some z ∧ x = .int z := by
      rw [List.getElem?_map] at hx
      cases h2 : ns[i]? with
      | none => rw [h2] at hx; cases hx
      | some v => rw [h2] at hx; cases hx; exact ⟨v, rfl, rfl⟩
    walk_at "rd"
    rw [← sum_take hv]
    exact ⟨rfl, _, rfl⟩
  · rintro σ' H' ⟨rfl, v, rfl⟩
    rw [List.length_map, List.take_length]
    walk_at "rd"
    refine r_newL (Own.nil H') (Nat.le_of_ble_eq_true rfl) fun l H1 o1 => ?_
    exact q.mk o1 0 rfl
theorem d_ldigits (T : Top K mg) : Def P w K mg base CX0 1 "_law_digits" ["number"] sp_w8 := by
  refine T.f__law_digits.ok sc__law_digits (by rintro vs H Q E ⟨v, rfl, _⟩; rfl) (fun f cdv A outer s H vs Q E hr h => ?_)
  obtain ⟨v, rfl, h0, q⟩ := h
  refine ⟨_, (pss_cons (ps_set (i := 1) sc__law_digits.nd rfl (Or.inl rfl) (pe_lst pa_nil))
      (pss_cons (ps_for PassesOwn.never rfl (pi_range1 (by rfl) T.b_range (pa_cons pe_int pa_nil)) (pg_name (i := 2) sc__law_digits.nd rfl (Or.inl rfl)) (pss_cons (ps_set (i := 1) sc__law_digits.nd rfl (Or.inl rfl) (pe_op op_cat (pe_lst (pa_cons (pe_op op_mod (pv 0) pe_int) pa_nil)) (pv 1)))
      (pss_one (ps_set (i := 0) sc__law_digits.nd rfl (Or.inl rfl) (pe_op op_fdiv (pv 0) pe_int)))))
      (pss_one (ps_ret (pv 1))))), ?_⟩
  walk_at "rd"
  refine r_newL (Own.nil H) (Nat.zero_le _) fun p1 H1 o1 => ?_
  walk_at "rd"
  refine forR1 (n := 8) rfl (by omega) (fun j σ' H' => ∃ (p : Addr) (ds : List Int) (r : Int) (v3 : Option V) (L : List (Addr × HO)), σ' = [some (.int r), some (.ref p), v3] ∧ ds.length = j ∧ ds ++ dg (8 - j) r = dg 8 v ∧ Own H H' ((p, .lst (ds.reverse.map V.int)) :: L)) ⟨p1, [], _, _, [], rfl, rfl, rfl, o1⟩ ?_ ?_
  · rintro j σ' H' hj ⟨p, ds, r, v3, L, rfl, hdl, hde, o⟩
    walk_at "rd"
    refine r_newL o (Nat.le_of_ble_eq_true rfl) fun p2 H2 o2 => ?_
    walk_at "rd"
    refine r_cat o2 (o2.at 0 rfl) (o2.at 1 rfl) (by rw [List.length_map, List.length_reverse]; show 1 + _ ≤ _; omega) fun p3 H3 o3 => ?_
    have e : [V.int (r % 250)] ++ ds.reverse.map V.int = (ds ++ [r % 250]).reverse.map V.int := by rw [List.reverse_append]; rfl
    rw [e] at o3
    walk_at "rd"
    refine ⟨p3, ds ++ [r % 250], _, _, _, rfl, by rw [List.length_append, hdl]; rfl, ?_, o3⟩
    rw [show 8 - j = (8 - (j + 1)) + 1 by omega] at hde
    rw [← hde, List.append_assoc]
    rfl
  · rintro σ' H' ⟨p, ds, r, v3, L, rfl, hdl, hde, o⟩
    rw [Nat.sub_self] at hde
    have hde2 : ds = dg 8 v := by rw [← hde]; exact (List.append_nil ds).symm
    subst hde2
    walk_at "rd"
    exact q.mk o 0 rfl
theorem d_lseal (T : Top K mg) : Def P w K mg base CX0 2 "_law_seal" ["batch", "root"] (sp_make_seal K) := by
  have G__law_digits : Def P w K mg base CX0 1 "_law_digits" ["number"] sp_w8 := d_ldigits T
  have G__law_sum : Def P w K mg base CX0 1 "_law_sum" ["values"] (sp_lsum K) := d_lsum T
  refine T.f__law_seal.ok sc__law_seal (by rintro vs H Q E ⟨b, a, l, t, rfl, _⟩; rfl) (fun f cdv A outer s H vs Q E hr h => ?_)
  obtain ⟨b, a, l, t, rfl, hT, h0, h1, h2, q⟩ := h
  refine ⟨_, (pss_cons (ps_set (i := 2) sc__law_seal.nd rfl (Or.inl rfl) (pe_op op_cat (pe_op op_cat (pe_callD G__law_digits (hr.mono (by decide)) (pa_cons (pv 0) pa_nil)) (pe_callD G__law_digits (hr.mono (by decide)) (pa_cons (pe_ix (r := rIxT K) ix_tup (pv 1) pe_int (fun _ _ => rfl)) pa_nil))) (pe_callD G__law_digits (hr.mono (by decide)) (pa_cons (pe_ix (r := rIxT K) ix_tup (pv 1) pe_int (fun _ _ => rfl)) pa_nil))))
      (pss_one (ps_ret (pe_op op_cat (pe_op op_cat (pe_op op_cat (pe_lst (pa_cons pe_int pa_nil)) (pv 2)) (pe_callD G__law_sum (hr.mono (by decide)) (pa_cons (pv 2) pa_nil))) (pe_lst (pa_cons pe_int pa_nil)))))), ?_⟩
  walk_at "rd"
  refine ⟨_, rfl, h0, r_ret1 (Own.nil H) fun p1 H1 o1 => ?_⟩
  have hT1 := o1.oldT hT
  walk_at "rd"
  refine ⟨a, rfl, h1, r_ret1 o1 fun p2 H2 o2 => ?_⟩
  refine r_cat o2 (o2.at 1 rfl) (o2.at 0 rfl) (by rw [List.length_map, List.length_map, w8_len, w8_len]; omega) fun p3 H3 o3 => ?_
  rw [← List.map_append] at o3
  have hT3 := o3.oldT hT
  walk_at "rd"
  refine ⟨l, rfl, h2, r_ret1 o3 fun p4 H4 o4 => ?_⟩
  refine r_cat o4 (o4.at 1 rfl) (o4.at 0 rfl) (by rw [List.length_map, List.length_map, List.length_append, w8_len, w8_len, w8_len]; omega) fun p5 H5 o5 => ?_
  rw [← List.map_append] at o5
  have o6 : Own H H5 [(p5, .lst ((told b a l).map V.int))] := o5.pick1 0 rfl
  have htl := told_len b a l
  walk_at "rd"
  refine r_newL o6 (Nat.le_of_ble_eq_true rfl) fun p7 H7 o7 => ?_
  walk_at "rd"
  refine r_cat o7 (o7.at 0 rfl) (o7.at 1 rfl) (by rw [List.length_map, htl]; decide) fun p8 H8 o8 => ?_
  have o8 : Own H H8 ((p8, .lst (([255] ++ told b a l).map V.int)) :: _) := o8
  walk_at "rd"
  refine ⟨_, _, rfl, o8.sqL 2 rfl, r_ret1 o8 fun p9 H9 o9 => ?_⟩
  refine r_cat o9 (o9.at 1 rfl) (o9.at 0 rfl) (by rw [List.length_map, List.length_map, List.length_append, htl]; show 1 + 24 + 2 ≤ _; omega) fun p10 H10 o10 => ?_
  rw [← List.map_append] at o10
  walk_at "rd"
  refine r_newL o10 (Nat.le_of_ble_eq_true rfl) fun p11 H11 o11 => ?_
  walk_at "rd"
  refine r_cat o11 (o11.at 1 rfl) (o11.at 0 rfl) (by rw [List.length_map, List.length_append, List.length_append, htl]; show 1 + 24 + 2 + 1 ≤ _; omega) fun p12 H12 o12 => ?_
  have e : ([255] ++ told b a l ++ chk (told b a l)).map V.int ++ [V.int 254] = (sealL b a l).map V.int := by unfold sealL; rw [List.map_append (l₂ := [254])]; rfl
  rw [e] at o12
  exact q.mk o12 0 rfl
end

section
variable {P : Program} {w : World} {K : PySem.W.Frag} {mg : Str → Option Value} {base : Heap}
def sp_seal_in (K : PySem.W.Frag) : Sp := fun vs H Q _ => ∃ (a : Addr) (n : Nat) (fs : List Int), vs = [.ref a, .int n] ∧ SqL K H a (fs.map V.int) ∧ (∀ x ∈ fs, 0 ≤ x ∧ x < 256) ∧
  (wholeB ((fs.drop n).take 28) = false → RetV H Q .non) ∧ (wholeB ((fs.drop n).take 28) = true → RetD K H Q (sealD ((fs.drop n).take 28)))
theorem d_seal_in (T : Top K mg) : Def P w K mg base CX0 2 "_law_seal_in" ["values", "at"] (sp_seal_in K) := by
  have G__law_sum : Def P w K mg base CX0 1 "_law_sum" ["values"] (sp_lsum K) := d_lsum T
  refine T.f__law_seal_in.ok sc__law_seal_in (by rintro vs H Q E ⟨a, n, fs, rfl, _⟩; rfl) (fun f cdv A outer s H vs Q E hr h => ?_)
  obtain ⟨a, n, fs, rfl, hS, hb, q0, q1⟩ := h
  refine ⟨_, (pss_cons (ps_set (i := 2) sc__law_seal_in.nd rfl (Or.inl rfl) (pe_slice (r := rSlL K) sl_list (pv 0) (po_some (pv 1)) (po_some (pe_op op_add (pv 1) pe_int))))
      (pss_cons (ps_if (PW.pt (pw_or (pt_cmpR op_lt (pe_callB (r := Evl.rLenS K) call_len_seq (by rfl) T.b_len (by decide +kernel) (pa_cons (pv 2) pa_nil)) pe_int (nomark _)) (pw_or (pt_cmpR op_ne (pe_ix (r := rIxL K) ix_list (pv 2) pe_int (fun _ _ => rfl)) pe_int (nomark _)) (pw_or1 (pt_cmpR op_ne (pe_ix (r := rIxL K) ix_list (pv 2) pe_int (fun _ _ => rfl)) pe_int (nomark _)))))) (pss_one (ps_ret pe_non)) pss_nil)
      (pss_cons (ps_for PassesOwn.never rfl (pi_list (pe_slice (r := rSlL K) sl_list (pv 2) (po_some pe_int) (po_some pe_int))) (pg_name (i := 3) sc__law_seal_in.nd rfl (Or.inl rfl)) (pss_one (ps_if (pt_cmpR op_gt (pv 3) pe_int (nomark _)) (pss_one (ps_ret pe_non)) pss_nil)))
      (pss_cons (ps_if (pt_cmpR (r := rNeD K) (op_neD hr.units) (pe_slice (r := rSlL K) sl_list (pv 2) (po_some pe_int) (po_some pe_int)) (pe_callD G__law_sum (hr.mono (by decide)) (pa_cons (pe_slice (r := rSlL K) sl_list (pv 2) (po_some pe_int) (po_some pe_int)) pa_nil)) (nomark _)) (pss_one (ps_ret pe_non)) pss_nil)
      (pss_cons (ps_set (i := 4) sc__law_seal_in.nd rfl (Or.inl rfl) (pe_lst pa_nil))
      (pss_cons (ps_for PassesOwn.never rfl (pi_range1 (by rfl) T.b_range (pa_cons pe_int pa_nil)) (pg_name (i := 5) sc__law_seal_in.nd rfl (Or.inl rfl)) (pss_cons (ps_set (i := 6) sc__law_seal_in.nd rfl (Or.inl rfl) pe_int)
      (pss_cons (ps_for PassesOwn.never rfl (pi_list (pe_slice (r := rSlL K) sl_list (pv 2) (po_some (pe_op op_add pe_int (pe_op op_mul pe_int (pv 5)))) (po_some (pe_op op_add pe_int (pe_op op_mul pe_int (pv 5)))))) (pg_name (i := 3) sc__law_seal_in.nd rfl (Or.inl rfl)) (pss_one (ps_set (i := 6) sc__law_seal_in.nd rfl (Or.inl rfl) (pe_op op_add (pe_op op_mul (pv 6) pe_int) (pv 3)))))
      (pss_one (ps_expr (pe_bm PySem.F.plainAttrs_list PySem.F.slot_list_append PySem.F.type_list_append mt_append (pv 4) (pa_cons (pv 6) pa_nil)))))))
      (pss_one (ps_ret (pe_tup (pa_cons (pe_ix (r := rIxL K) ix_list (pv 4) pe_int (fun _ _ => rfl)) (pa_cons (pe_tup (pa_cons (pe_ix (r := rIxL K) ix_list (pv 4) pe_int (fun _ _ => rfl)) (pa_cons (pe_ix (r := rIxL K) ix_list (pv 4) pe_int (fun _ _ => rfl)) pa_nil))) pa_nil))))))))))), ?_⟩
  walk_at "rd"
  refine r_slL (Own.nil H) hS fun p1 H1 o1 => ?_
  rw [show (28 : Int) = ((28 : Nat) : Int) from rfl, cut_at] at o1
  have hrb : ∀ x ∈ (fs.drop n).take 28, 0 ≤ x ∧ x < 256 := fun x hx => hb x (List.mem_of_mem_drop (List.mem_of_mem_take hx))
  have hrl : ((fs.drop n).take 28).length ≤ 28 := by rw [List.length_take]; exact Nat.min_le_left _ _
  generalize (fs.drop n).take 28 = r at *
  unfold wholeB at q0 q1
  walk_at "rd"
  by_cases h1 : r.length = 28
  case neg =>
    rw [decide_eq_false h1] at q0
    refine rif_yes (by rw [List.length_map]; omega) ?_
    walk_at "rd"
    exact (q0 rfl).mk o1
  rw [decide_eq_true h1, Bool.true_and] at q0 q1
  refine rif_no (by rw [List.length_map]; omega) ?_
  walk_at "rd"
  by_cases h2 : gi r 0 = 255
  case neg =>
    rw [decide_eq_false h2] at q0
    refine rif_nno h2 ?_
    walk_at "rd"
    exact (q0 rfl).mk o1
  rw [decide_eq_true h2, Bool.true_and] at q0 q1
  refine rif_nyes h2 ?_
  walk_at "rd"
  by_cases h3 : gi r 27 = 254
  case neg =>
    rw [decide_eq_false h3] at q0
    refine rif_nno h3 ?_
    walk_at "rd"
    exact (q0 rfl).mk o1
  rw [decide_eq_true h3, Bool.true_and] at q0 q1
  refine rif_nyes h3 ?_
  walk_at "rd"
  refine r_slL o1 (o1.sqL 0 rfl) fun p2 H2 o2 => ?_
  rw [show (1 : Int) = ((1 : Nat) : Int) from rfl, show (27 : Int) = ((1 : Nat) : Int) + ((26 : Nat) : Int) from rfl, cut_at] at o2
  walk_at "rd"
  refine forL (o2.sqL 0 rfl) (fun i σ' H' => H' = H2 ∧ (∃ v, σ' = [some (.ref a), some (.int n), some (.ref p1), v, none, none, none]) ∧ ∀ x ∈ ((r.drop 1).take 26).take i, x ≤ 249) ⟨rfl, ⟨_, rfl⟩, fun x hx => by cases hx⟩ (fun i σ' H' _ ⟨e, _⟩ => by rw [e]; exact o2.sqL 0 rfl) ?_ ?_
  · rintro i x σ' H' hx ⟨rfl, ⟨v, rfl⟩, hle⟩
    obtain ⟨z, hv, rfl⟩ := get_ints hx
    walk_at "rd"
    by_cases h5 : z ≤ 249
    · refine rif_no (by omega) ?_
      walk_at "rd"
      refine ⟨rfl, ⟨_, rfl⟩, ?_⟩
      rw [List.take_add_one, hv]
      intro x hx
      rcases List.mem_append.mp hx with h | h
      · exact hle x h
      · rw [List.mem_singleton.mp h]; exact h5
    · refine rif_yes (by omega) ?_
      walk_at "rd"
      rw [decide_eq_false (fun h => h5 (h z (List.mem_of_getElem? hv)))] at q0
      exact (q0 rfl).mk o2
  rintro σ' H' ⟨rfl, ⟨v, rfl⟩, hle⟩
  rw [List.length_map, List.take_length] at hle
  rw [decide_eq_true hle, Bool.true_and] at q0 q1
  walk_at "rd"
  refine r_slL o2 (o2.sqL 1 rfl) fun p3 H3 o3 => ?_
  rw [show (25 : Int) = ((25 : Nat) : Int) from rfl, show (27 : Int) = ((25 : Nat) : Int) + ((2 : Nat) : Int) from rfl, cut_at] at o3
  walk_at "rd"
  refine r_slL o3 (o3.sqL 2 rfl) fun p4 H4 o4 => ?_
  rw [show (1 : Int) = ((1 : Nat) : Int) from rfl, show (25 : Int) = ((1 : Nat) : Int) + ((24 : Nat) : Int) from rfl, cut_at] at o4
  walk_at "rd"
  refine ⟨_, _, rfl, o4.sqL 0 rfl, r_ret1 o4 fun p5 H5 o5 => ?_⟩
  walk_at "rd"
  refine r_neLL (o5.sqL 2 rfl) (o5.sqL 0 rfl) ?_
  walk_at "rd"
  by_cases h6 : chk ((r.drop 1).take 24) = (r.drop 25).take 2
  case neg =>
    rw [decide_eq_false h6] at q0
    refine rif_nno (fun h => h6 h.symm) ?_
    walk_at "rd"
    exact (q0 rfl).mk o5
  rw [decide_eq_true h6] at q1
  refine rif_nyes h6.symm ?_
  have oR : Own H H5 [(p1, .lst (r.map V.int))] := o5.pick1 4 rfl
  walk_at "rd"
  refine r_newL oR (Nat.zero_le _) fun p6 H6 o6 => ?_
  walk_at "rd"
  refine forR1 (n := 3) rfl (by omega) (fun j σ' H' => ∃ (L : List (Addr × HO)) (v3 v5 v6 : Option V), σ' = [some (.ref a), some (.int n), some (.ref p1), v3, some (.ref p6), v5, v6] ∧ Own H H' ((p6, .lst (((List.range j).map fun k => rd8 ((r.drop (1 + 8 * k)).take 8)).map V.int)) :: (p1, .lst (r.map V.int)) :: L)) ⟨_, _, _, _, rfl, o6⟩ ?_ ?_
  · rintro j σ' H' hj ⟨L, v3, v5, v6, rfl, o⟩
    walk_at "rd"
    refine r_slL o (o.sqL 1 rfl) fun p7 H7 o7 => ?_
    rw [show (1 : Int) + 8 * (j : Int) = ((1 + 8 * j : Nat) : Int) by omega, show (9 : Int) + 8 * (j : Int) = ((1 + 8 * j : Nat) : Int) + ((8 : Nat) : Int) by omega, cut_at] at o7
    walk_at "rd"
    refine forL (o7.sqL 0 rfl) (fun i σ' H' => H' = H7 ∧ ∃ v, σ' = [some (.ref a), some (.int n), some (.ref p1), v, some (.ref p6), some (.int j), some (.int (rd8 (((r.drop (1 + 8 * j)).take 8).take i)))]) ⟨rfl, _, rfl⟩ (fun i σ' H' _ ⟨e, _⟩ => by rw [e]; exact o7.sqL 0 rfl) ?_ ?_
    · rintro i x σ' H' hx ⟨rfl, v, rfl⟩
      obtain ⟨z, hv, rfl⟩ := get_ints hx
      walk_at "rd"
      rw [← rd8_snoc hv]
      exact ⟨rfl, _, rfl⟩
    · rintro σ' H' ⟨rfl, v, rfl⟩
      rw [List.length_map, List.take_length]
      walk_at "rd"
      refine r_app o7 1 rfl (by rw [List.length_map, List.length_map, List.length_range]; omega) fun H8 o8 => ?_
      walk_at "rd"
      refine ⟨[], _, _, _, rfl, ?_⟩
      have e : ((List.range (j + 1)).map fun k => rd8 ((r.drop (1 + 8 * k)).take 8)).map V.int = ((List.range j).map fun k => rd8 ((r.drop (1 + 8 * k)).take 8)).map V.int ++ [V.int (rd8 ((r.drop (1 + 8 * j)).take 8))] := by
        rw [List.range_succ, List.map_append, List.map_append]
        rfl
      rw [e]
      exact o8.pick2 1 2 (by decide) rfl rfl
  rintro σ' H' ⟨L, v3, v5, v6, rfl, o⟩
  have o : Own H H' ((p6, .lst (([rd8 ((r.drop 1).take 8), rd8 ((r.drop 9).take 8), rd8 ((r.drop 17).take 8)] : List Int).map V.int)) :: (p1, .lst (r.map V.int)) :: L) := o
  walk_at "rd"
  refine r_newTi (K := K) [_, _] rfl o (Nat.le_of_ble_eq_true rfl) fun t6 H6 s6 o6 h6 => ?_
  walk_at "rd"
  refine r_newTp (K := K) (ds := [.int _, .tuple (([_, _] : List Int).map PyData.int)]) o6 (.cons (.int _) (.cons (Tp.intsT h6) .nil)) (Nat.le_of_ble_eq_true rfl) fun t7 H7 s7 o7 tt => ?_
  exact (q1 rfl).mk o7 tt
end

section
variable {P : Program} {w : World} {K : PySem.W.Frag} {mg : Str → Option Value} {base : Heap}
def recD (k : Int) (ns : List Int) : List Int := (k :: ns) ++ chk (k :: ns)
theorem recD_len (k : Int) (ns : List Int) : (recD k ns).length = ns.length + 3 := by unfold recD chk; simp
def B250 (ns : List Int) : Prop := ∀ x ∈ ns, 0 ≤ x ∧ x < 250
theorem recD_b {k : Int} {ns : List Int} (hk : 0 ≤ k ∧ k < 250) (hb : B250 ns) : B250 (recD k ns) := by
  intro x hx
  unfold recD chk at hx
  simp only [List.mem_append, List.mem_cons, List.not_mem_nil, or_false] at hx
  rcases hx with (rfl | h) | rfl | rfl
  · exact hk
  · exact hb x h
  · omega
  · omega
def sp_lrecord (K : PySem.W.Frag) : Sp := fun vs H Q _ => ∃ (k : Int) (a : Addr) (ns : List Int), vs = [.int k, .ref a] ∧ SqL K H a (ns.map V.int) ∧ ns.length ≤ 1000000 ∧ RetO H Q (.lst ((recD k ns).map V.int))
theorem d_lrecord (T : Top K mg) : Def P w K mg base CX0 2 "_law_record" ["kind", "content"] (sp_lrecord K) := by
  have G__law_sum : Def P w K mg base CX0 1 "_law_sum" ["values"] (sp_lsum K) := d_lsum T
  refine T.f__law_record.ok sc__law_record (by rintro vs H Q E ⟨k, a, ns, rfl, _⟩; rfl) (fun f cdv A outer s H vs Q E hr h => ?_)
  obtain ⟨k, a, ns, rfl, hA, hz, q⟩ := h
  refine ⟨_, (pss_cons (ps_set (i := 2) sc__law_record.nd rfl (Or.inl rfl) (pe_op op_cat (pe_lst (pa_cons (pv 0) pa_nil)) (pe_callTy (r := Evl.rListS K) call_list_of (by rfl) T.b_list (by decide +kernel) (pa_cons (pv 1) pa_nil))))
      (pss_one (ps_ret (pe_op op_cat (pv 2) (pe_callD G__law_sum (hr.mono (by decide)) (pa_cons (pv 2) pa_nil)))))), ?_⟩
  walk_at "rd"
  refine r_newL (Own.nil H) (Nat.le_of_ble_eq_true rfl) fun p1 H1 o1 => ?_
  walk_at "rd"
  refine r_list o1 (o1.old hA) fun p2 H2 o2 => ?_
  refine r_cat o2 (o2.at 1 rfl) (o2.at 0 rfl) (by rw [List.length_map]; show 1 + _ ≤ _; omega) fun p3 H3 o3 => ?_
  have o3 : Own H H3 ((p3, .lst ((k :: ns).map V.int)) :: _) := o3
  walk_at "rd"
  refine ⟨_, _, rfl, o3.sqL 0 rfl, r_ret1 o3 fun p4 H4 o4 => ?_⟩
  refine r_cat o4 (o4.at 1 rfl) (o4.at 0 rfl) (by rw [List.length_map, List.length_map]; show (ns.length + 1) + 2 ≤ _; omega) fun p5 H5 o5 => ?_
  rw [← List.map_append] at o5
  exact q.mk o5 0 rfl
def Byts (fs : List Int) : Prop := ∀ x ∈ fs, 0 ≤ x ∧ x < 256
theorem Byts.app {a b : List Int} (ha : Byts a) (hb : Byts b) : Byts (a ++ b) := fun x hx => by
  rcases List.mem_append.mp hx with h | h
  · exact ha x h
  · exact hb x h
theorem rec_byts {k : Int} {ns : List Int} (hk : 0 ≤ k ∧ k < 250) (hb : B250 ns) : Byts (recD k ns) := fun x hx => by have := recD_b hk hb x hx; omega
end

section
/-! what a file of the law holds -/
theorem seg_get {fs : List Int} {n j : Nat} (hj : j < 28) : (seg fs n)[j]? = fs[n + j]? := by
  unfold seg
  rw [List.getElem?_take_of_lt hj, List.getElem?_drop]
theorem seg_app {fs gs : List Int} {n : Nat} (h : n + 28 ≤ fs.length) : seg (fs ++ gs) n = seg fs n := by
  unfold seg
  rw [List.drop_append_of_le_length (by omega), List.take_append_of_le_length (by rw [List.length_drop]; omega)]
theorem seg_cut {fs : List Int} {n c : Nat} (h : n + 28 ≤ c) : seg (fs.take c) n = seg fs n := by
  unfold seg
  rw [List.drop_take, List.take_take, show min 28 (c - n) = 28 by omega]
theorem seg_same {fs : List Int} {n k : Nat} {v : Int} (h : k < n ∨ n + 28 ≤ k) : seg (fs.set k v) n = seg fs n := by
  unfold seg
  rcases h with h | h
  · rw [List.drop_set_of_lt h]
  · rw [List.drop_set, if_neg (by omega), List.take_set, List.set_eq_of_length_le (by rw [List.length_take]; omega)]
theorem seg_set {fs : List Int} {n k : Nat} {v : Int} (h : n ≤ k) (h2 : k < n + 28) : seg (fs.set k v) n = (seg fs n).set (k - n) v := by
  unfold seg
  rw [List.drop_set, if_neg (by omega), List.take_set]
theorem whole_at {fs : List Int} {n : Nat} (h : wholeB (seg fs n) = true) : fs[n]? = some 255 := by
  obtain ⟨hl, h0, _⟩ := whole_iff.mp h
  have h1 : (seg fs n)[0]? = some (gi (seg fs n) 0) := by
    unfold gi
    rw [show (0 : Int).toNat = 0 from rfl, List.getD_eq_getElem?_getD, List.getElem?_eq_getElem (by omega)]
    rfl
  rw [seg_get (by omega), h0] at h1
  exact h1
theorem seal_255 {b a l : Int} {j : Nat} (h : (sealL b a l)[j]? = some 255) : j = 0 := by
  rw [seal_form] at h
  cases j with
  | zero => rfl
  | succ j =>
    exfalso
    rw [List.getElem?_cons_succ] at h
    have hm := List.mem_of_getElem? h
    rcases List.mem_append.mp hm with h | h
    · have := told_b b a l _ h; omega
    rcases List.mem_append.mp h with h | h
    · have := chk_b _ _ h; omega
    · have := List.mem_singleton.mp h; omega
theorem rd8_small : ∀ b : Nat, b < 3 → rd8 (((w8 (b : Int)))) = (b : Int) := by
  intro b hb
  match b, hb with
  | 0, _ => decide
  | 1, _ => decide
  | 2, _ => decide
theorem rd8_seal {b : Nat} {a l : Int} (hb : b < 3) : rd8 (((sealL (b : Int) a l).drop 1).take 8) = (b : Int) := by
  rw [seal_form, List.drop_succ_cons, List.drop_zero, List.take_append_of_le_length (by rw [told_len]; omega)]
  unfold told
  rw [List.append_assoc, List.take_left' (w8_len _)]
  exact rd8_small b hb
theorem seg_len {fs : List Int} {n : Nat} (h : wholeB (seg fs n) = true) : n + 28 ≤ fs.length ∧ (seg fs n).length = 28 := by
  have h1 := (whole_iff.mp h).1
  refine ⟨?_, h1⟩
  unfold seg at h1
  rw [List.length_take, List.length_drop] at h1
  omega
theorem gi_get36 {ns : List Int} {i : Nat} {x : Int} (h : ns[i]? = some x) : gi ns (i : Int) = x := by
  unfold gi
  rw [List.getD_eq_getElem?_getD, Int.toNat_natCast, h]
  rfl
structure FileP (fs : List Int) (st : List Nat) : Prop where
  by_ : Byts fs
  ff : ∀ i : Nat, fs[i]? = some 255 → ∃ b s : Nat, st[b]? = some s ∧ (i = s ∨ i = s + 28)
  sl : ∀ b s : Nat, st[b]? = some s → s + 56 ≤ fs.length ∧ ∃ r1 r2 : Int, seg fs s = sealL (b : Int) r1 r2 ∧ seg fs (s + 28) = sealL (b : Int) r1 r2
  up : ∀ b s s' : Nat, st[b]? = some s → st[b + 1]? = some s' → s + 56 ≤ s'
theorem FileP.nil : FileP [] [] := ⟨(fun _ h => by cases h), (fun _ h => by simp at h), (fun _ _ h => by simp at h), (fun _ _ _ h => by simp at h)⟩
theorem FileP.rec_ {fs ns : List Int} {st : List Nat} (h : FileP fs st) (hn : B250 ns) : FileP (fs ++ ns) st := by
  refine ⟨h.by_.app fun x hx => by have := hn x hx; omega, fun i hi => ?_, fun b s hs => ?_, h.up⟩
  · by_cases hl : i < fs.length
    · rw [List.getElem?_append_left hl] at hi
      exact h.ff i hi
    · rw [List.getElem?_append_right (by omega)] at hi
      have := hn _ (List.mem_of_getElem? hi)
      omega
  · obtain ⟨h1, r1, r2, h2, h3⟩ := h.sl b s hs
    refine ⟨by rw [List.length_append]; omega, r1, r2, ?_, ?_⟩
    · rw [seg_app (by omega)]; exact h2
    · rw [seg_app (by omega)]; exact h3
theorem snoc_get {α : Type} {l : List α} {y : α} {b : Nat} {s : α} (h : (l ++ [y])[b]? = some s) : (b < l.length ∧ l[b]? = some s) ∨ (b = l.length ∧ s = y) := by
  by_cases hb : b < l.length
  · rw [List.getElem?_append_left hb] at h
    exact .inl ⟨hb, h⟩
  · rw [List.getElem?_append_right (by omega)] at h
    cases e : b - l.length with
    | zero => rw [e] at h; exact .inr ⟨by omega, (Option.some.inj h).symm⟩
    | succ n => rw [e] at h; simp at h
theorem FileP.seal_ {fs : List Int} {st : List Nat} {b : Nat} {r1 r2 : Int} (h : FileP fs st) (hb : st.length = b) : FileP (fs ++ sealL (b : Int) r1 r2 ++ sealL (b : Int) r1 r2) (st ++ [fs.length]) := by
  have hsl := seal_len (b : Int) r1 r2
  have hsb : Byts (sealL (b : Int) r1 r2) := seal_b (b : Int) r1 r2
  refine ⟨(h.by_.app hsb).app hsb, fun i hi => ?_, fun c s hs => ?_, fun c s s' hs hs' => ?_⟩
  · rw [List.append_assoc] at hi
    by_cases hl : i < fs.length
    · rw [List.getElem?_append_left hl] at hi
      obtain ⟨c, s, hs, hc⟩ := h.ff i hi
      exact ⟨c, s, by rw [List.getElem?_append_left (List.getElem?_eq_some_iff.mp hs).1]; exact hs, hc⟩
    · rw [List.getElem?_append_right (by omega)] at hi
      refine ⟨st.length, fs.length, by rw [List.getElem?_append_right (by omega), Nat.sub_self]; rfl, ?_⟩
      by_cases hl2 : i - fs.length < 28
      · rw [List.getElem?_append_left (by omega)] at hi
        have := seal_255 hi
        omega
      · rw [List.getElem?_append_right (by omega)] at hi
        have := seal_255 hi
        omega
  · rcases snoc_get hs with ⟨hc, hs⟩ | ⟨rfl, rfl⟩
    · obtain ⟨h1, q1, q2, h2, h3⟩ := h.sl c s hs
      refine ⟨by rw [List.length_append, List.length_append]; omega, q1, q2, ?_, ?_⟩
      · rw [List.append_assoc, seg_app (by omega)]; exact h2
      · rw [List.append_assoc, seg_app (by omega)]; exact h3
    · rw [hb]
      refine ⟨by rw [List.length_append, List.length_append]; omega, r1, r2, ?_, ?_⟩
      · rw [seg_app (by rw [List.length_append]; omega)]
        unfold seg
        rw [List.drop_left' rfl, List.take_of_length_le (by omega)]
      · unfold seg
        rw [List.drop_left' (by rw [List.length_append]; omega), List.take_of_length_le (by omega)]
  · rcases snoc_get hs with ⟨hc, hs⟩ | ⟨rfl, rfl⟩
    · rcases snoc_get hs' with ⟨hc', hs'⟩ | ⟨_, rfl⟩
      · exact h.up c s s' hs hs'
      · exact (h.sl c s hs).1
    · rcases snoc_get hs' with ⟨hc', _⟩ | ⟨hc', _⟩ <;> omega
theorem FileP.mono {fs : List Int} {st : List Nat} (h : FileP fs st) : ∀ (d b : Nat) (s s' : Nat), st[b]? = some s → st[b + d + 1]? = some s' → s + 56 ≤ s'
  | 0, b, s, s', h1, h2 => h.up b s s' h1 h2
  | d + 1, b, s, s', h1, h2 => by
    have hlt := (List.getElem?_eq_some_iff.mp h2).1
    have e := List.getElem?_eq_getElem (show b + d + 1 < st.length by omega)
    have := h.mono d b s _ h1 e
    have := h.up _ _ _ e h2
    omega
theorem FileP.lt {fs : List Int} {st : List Nat} (h : FileP fs st) {b b' s s' : Nat} (h1 : st[b]? = some s) (h2 : st[b']? = some s') (hb : b < b') : s + 56 ≤ s' :=
  h.mono (b' - b - 1) b s s' h1 (by rw [show b + (b' - b - 1) + 1 = b' by omega]; exact h2)
theorem FileP.le {fs : List Int} {st : List Nat} (h : FileP fs st) {b b' s s' : Nat} (h1 : st[b]? = some s) (h2 : st[b']? = some s') (hb : b ≤ b') : s ≤ s' := by
  by_cases e : b = b'
  · subst e; rw [h1] at h2; cases h2; exact Nat.le_refl _
  · have := h.lt h1 h2 (by omega); omega
/-- the number of the batch that a whole seal tells -/
theorem FileP.at_ {fs : List Int} {st : List Nat} (h : FileP fs st) (hl : st.length ≤ 3) {n : Nat} (hw : wholeB (seg fs n) = true) : ∃ b s : Nat, st[b]? = some s ∧ (n = s ∨ n = s + 28) ∧ rd8 (((seg fs n).drop 1).take 8) = (b : Int) := by
  obtain ⟨b, s, hs, hn⟩ := h.ff n (whole_at hw)
  refine ⟨b, s, hs, hn, ?_⟩
  have hb := (List.getElem?_eq_some_iff.mp hs).1
  obtain ⟨_, r1, r2, e1, e2⟩ := h.sl b s hs
  rcases hn with rfl | rfl
  · rw [e1]; exact rd8_seal (by omega)
  · rw [e2]; exact rd8_seal (by omega)
theorem FileP.is_ {fs : List Int} {st : List Nat} (h : FileP fs st) {b s : Nat} (hs : st[b]? = some s) : wholeB (seg fs s) = true ∧ wholeB (seg fs (s + 28)) = true := by
  obtain ⟨_, r1, r2, e1, e2⟩ := h.sl b s hs
  rw [e1, e2]
  exact ⟨seal_whole _ _ _, seal_whole _ _ _⟩
theorem lastS_some {fs : List Int} {n : Nat} : ∀ m : Nat, lastS fs m = some n → n < m ∧ wholeB (seg fs n) = true ∧ ∀ j, n < j → j < m → wholeB (seg fs j) = false
  | 0, h => by cases h
  | m + 1, h => by
    rw [lastS] at h
    by_cases hw : wholeB ((fs.drop m).take 28) = true
    · rw [if_pos hw] at h
      cases h
      exact ⟨by omega, hw, fun j h1 h2 => by omega⟩
    · rw [if_neg hw] at h
      obtain ⟨h1, h2, h3⟩ := lastS_some m h
      refine ⟨by omega, h2, fun j h4 h5 => ?_⟩
      by_cases hj : j = m
      · subst hj
        exact Bool.eq_false_iff.mpr hw
      · exact h3 j h4 (by omega)
theorem lastS_none {fs : List Int} : ∀ m : Nat, lastS fs m = none → ∀ j, j < m → wholeB (seg fs j) = false
  | 0, _ => fun j h => by omega
  | m + 1, h => by
    rw [lastS] at h
    by_cases hw : wholeB ((fs.drop m).take 28) = true
    · rw [if_pos hw] at h; cases h
    · rw [if_neg hw] at h
      intro j hj
      by_cases e : j = m
      · subst e
        exact Bool.eq_false_iff.mpr hw
      · exact lastS_none m h j (by omega)
theorem lastS_at {fs : List Int} {n : Nat} (hw : wholeB (seg fs n) = true) : ∀ m : Nat, n < m → (∀ j, n < j → j < m → wholeB (seg fs j) = false) → lastS fs m = some n
  | 0, h, _ => by omega
  | m + 1, h, h2 => by
    rw [lastS]
    by_cases e : n = m
    · subst e
      unfold seg at hw
      rw [if_pos hw]
    · have := h2 m (by omega) (by omega)
      unfold seg at this
      rw [if_neg (by rw [this]; exact Bool.false_ne_true)]
      exact lastS_at hw m (by omega) fun j h3 h4 => h2 j h3 (by omega)
def toldN (fs : List Int) : Int := match lastS fs (fs.length - 27) with
  | some n => rd8 (((seg fs n).drop 1).take 8)
  | none => -1
theorem filter_pre {α : Type} (p : α → Bool) : ∀ (l : List α) (k : Nat), k ≤ l.length → (∀ (i : Nat) (x : α), l[i]? = some x → (p x = true ↔ i < k)) → (l.filter p).length = k
  | [], k, hk, _ => by
    have : k = 0 := Nat.le_zero.mp hk
    subst this; rfl
  | x :: l, 0, _, h => by
    have h0 := h 0 x rfl
    rw [List.filter_cons_of_neg (by rw [h0]; omega)]
    exact filter_pre p l 0 (Nat.zero_le _) fun i y hy => by
      have := h (i + 1) y hy
      rw [this]; omega
  | x :: l, k + 1, hk, h => by
    have h0 := h 0 x rfl
    rw [List.filter_cons_of_pos (h0.mpr (by omega)), List.length_cons]
    rw [filter_pre p l k (by rw [List.length_cons] at hk; omega) fun i y hy => by
      have := h (i + 1) y hy
      rw [this]; omega]
def endI (s : Nat) : Int := (s : Int) + 28
theorem FileP.cut_ {fs : List Int} {st : List Nat} (h : FileP fs st) (hl : st.length ≤ 3) {c : Nat} (hc : c ≤ fs.length) : toldN (fs.take c) = ((((st.map endI).filter fun e => decide (e ≤ (c : Int))).length : Nat) : Int) - 1 := by
  have hlen : (fs.take c).length = c := by rw [List.length_take]; omega
  have cnt : ∀ k, k ≤ st.length → (∀ (i x : Nat), st[i]? = some x → (x + 28 ≤ c ↔ i < k)) → ((st.map endI).filter fun e => decide (e ≤ (c : Int))).length = k := fun k hk h2 => by
    refine filter_pre _ _ k (by rw [List.length_map]; exact hk) fun i x hx => ?_
    rw [List.getElem?_map] at hx
    cases e : st[i]? with
    | none => rw [e] at hx; cases hx
    | some y =>
      rw [e] at hx
      cases hx
      rw [← h2 i y e, decide_eq_true_eq]
      unfold endI
      omega
  unfold toldN
  rw [hlen]
  cases e : lastS (fs.take c) (c - 27) with
  | none =>
    have hn := lastS_none _ e
    rw [cnt 0 (Nat.zero_le _) fun i x hx => ⟨fun h2 => ?_, fun h2 => by omega⟩]
    · rfl
    · have := hn x (by omega)
      rw [seg_cut h2, (h.is_ hx).1] at this
      cases this
  | some n =>
    obtain ⟨h1, h2, h3⟩ := lastS_some _ e
    have hn := seg_len h2
    rw [hlen] at hn
    rw [seg_cut hn.1] at h2
    obtain ⟨b, s, hs, hbs, hr⟩ := h.at_ hl h2
    show rd8 (((seg (fs.take c) n).drop 1).take 8) = _
    rw [seg_cut hn.1, hr, cnt (b + 1) (List.getElem?_eq_some_iff.mp hs).1 fun i x hx => ⟨fun h4 => ?_, fun h4 => ?_⟩]
    · omega
    · by_cases hi : i < b + 1
      · exact hi
      · exfalso
        have := h.lt hs hx (by omega)
        have h5 := h3 x (by omega) (by omega)
        rw [seg_cut h4, (h.is_ hx).1] at h5
        cases h5
    · have := h.le hx hs (by omega)
      omega
theorem FileP.chg_ {fs : List Int} {st : List Nat} (h : FileP fs st) (hl : st.length ≤ 3) {b s : Nat} (hb : st.length = b + 1) (hs : st[b]? = some s) (he : fs.length = s + 56) {k : Nat} {v : Int} (hk : k < fs.length) (hv : 0 ≤ v ∧ v < 256) : toldN (fs.set k v) = (b : Int) := by
  have hlen : (fs.set k v).length = s + 56 := by rw [List.length_set]; exact he
  obtain ⟨_, r1, r2, e1, e2⟩ := h.sl b s hs
  have hsb : ∀ x ∈ sealL (b : Int) r1 r2, 0 ≤ x ∧ x < 256 := seal_b (b : Int) r1 r2
  unfold toldN
  rw [hlen, show s + 56 - 27 = (s + 28) + 1 by omega]
  by_cases hk1 : k < s + 28
  · have e3 : seg (fs.set k v) (s + 28) = sealL (b : Int) r1 r2 := by rw [seg_same (.inl hk1)]; exact e2
    rw [lastS_at (n := s + 28) (by rw [e3]; exact seal_whole _ _ _) _ (by omega) fun j h1 h2 => by omega]
    show rd8 (((seg (fs.set k v) (s + 28)).drop 1).take 8) = _
    rw [e3]
    exact rd8_seal (by omega)
  · have e3 : seg (fs.set k v) (s + 28) = (sealL (b : Int) r1 r2).set (k - (s + 28)) v := by rw [seg_set (by omega) (by omega), e2]
    by_cases hvg : v = gi (sealL (b : Int) r1 r2) ((k - (s + 28) : Nat) : Int)
    · have hkl : k - (s + 28) < (sealL (b : Int) r1 r2).length := by rw [seal_len]; omega
      rw [gi_nat hkl] at hvg
      rw [hvg, List.set_getElem_self] at e3
      rw [← hvg] at e3
      rw [lastS_at (n := s + 28) (by rw [e3]; exact seal_whole _ _ _) _ (by omega) fun j h1 h2 => by omega]
      show rd8 (((seg (fs.set k v) (s + 28)).drop 1).take 8) = _
      rw [e3]
      exact rd8_seal (by omega)
    · have hno := changed (seal_whole (b : Int) r1 r2) hsb (show k - (s + 28) < 28 by omega) hv hvg
      rw [← e3] at hno
      have e4 : seg (fs.set k v) s = sealL (b : Int) r1 r2 := by rw [seg_same (.inr (by omega))]; exact e1
      rw [lastS_at (n := s) (by rw [e4]; exact seal_whole _ _ _) _ (by omega) fun j h1 h2 => ?_]
      · show rd8 (((seg (fs.set k v) s).drop 1).take 8) = _
        rw [e4]
        exact rd8_seal (by omega)
      · by_cases hj : j = s + 28
        · rw [hj]; exact hno
        cases hw : wholeB (seg (fs.set k v) j) with
        | false => rfl
        | true =>
          exfalso
          have hp := whole_at hw
          rw [List.getElem?_set_ne (by omega)] at hp
          obtain ⟨b', s', hs', hq⟩ := h.ff j hp
          have hb' := (List.getElem?_eq_some_iff.mp hs').1
          by_cases hbb : b' = b
          · subst hbb
            rw [hs] at hs'
            cases hs'
            omega
          · have := h.lt hs' hs (by omega)
            omega
end

def FileE (fs : List Int) (st : List Nat) : Prop := (fs = [] ∧ st = []) ∨ ∃ b s, st.length = b + 1 ∧ st[b]? = some s ∧ fs.length = s + 56
section
variable {P : Program} {w : World} {K : PySem.W.Frag} {mg : Str → Option Value} {base : Heap}
def sp_lfileP : Sp := fun vs H Q _ => ∃ (c : Int), vs = [.int c] ∧ ∀ (fs : List Int) (st : List Nat), fs.length ≤ 400 → FileP fs st → st.length ≤ 3 → FileE fs st → RetO H Q (.lst (fs.map V.int))
theorem d_lfileP (T : Top K mg) : Def P w K mg base CX0 3 "_law_file" ["cell"] sp_lfileP := by
  have G__law_draws : Def P w K mg base CX0 1 "_law_draws" ["cell", "count"] sp_draws := d_draws T
  have G__law_record : Def P w K mg base CX0 2 "_law_record" ["kind", "content"] (sp_lrecord K) := d_lrecord T
  have G__law_seal : Def P w K mg base CX0 2 "_law_seal" ["batch", "root"] (sp_make_seal K) := d_lseal T
  refine T.f__law_file.ok sc__law_file (by rintro vs H Q E ⟨c, rfl, _⟩; rfl) (fun f cdv A outer s H vs Q E hr h => ?_)
  obtain ⟨c, rfl, q⟩ := h
  refine ⟨_, (pss_cons (ps_set (i := 1) sc__law_file.nd rfl (Or.inr rfl) (pe_callD G__law_draws (hr.mono (by decide)) (pa_cons (pv 0) (pa_cons pe_int pa_nil))))
      (pss_cons (ps_set (i := 2) sc__law_file.nd rfl (Or.inl rfl) (pe_lst pa_nil))
      (pss_cons (ps_set (i := 3) sc__law_file.nd rfl (Or.inl rfl) (pe_op op_mod (pe_ix (r := rIxL K) ix_list (pv 1) pe_int (fun _ _ => rfl)) pe_int))
      (pss_cons (ps_for PassesOwn.never rfl (pi_range1 (by rfl) T.b_range (pa_cons (pv 3) pa_nil)) (pg_name (i := 4) sc__law_file.nd rfl (Or.inr rfl)) (pss_cons (ps_for PassesOwn.never rfl (pi_range1 (by rfl) T.b_range (pa_cons (pe_op op_mod (pe_ix (r := rIxL K) ix_list (pv 1) (pe_op op_add pe_int (pv 4)) (fun _ _ => rfl)) pe_int) pa_nil)) (pg_name (i := 5) sc__law_file.nd rfl (Or.inr rfl)) (pss_cons (ps_setLc (i := 6) (own := [("j", 7)]) (g := (gName 7)) (tt := tYes) rfl sc__law_file.nd rfl rfl (sw_true rfl rfl rfl (by decide +kernel)) (pi_range1 (by rfl) T.b_range (pa_cons (pe_op op_mod (pe_ix (r := rIxL K) ix_list (pv 1) (pe_op op_add pe_int (pv 5)) (fun _ _ => rfl)) pe_int) pa_nil)) (blkOk_by (N := N__law_file) (sc := defScope s__law_file) (by decide +kernel)) (fun _ _ _ _ _ => (pg_name (i := 7) sc__law_file.nd rfl (Or.inl rfl))) (fun _ _ _ _ _ => pts_nil) (fun _ _ _ _ _ => (pe_op op_mod (pe_ix (r := rIxL K) ix_list (pv 1) (pe_op op_mod (pe_op op_add (pe_op op_add (pe_op op_mul pe_int (pv 4)) (pe_op op_mul pe_int (pv 5))) (pv 7)) pe_int) (fun _ _ => rfl)) pe_int)))
      (pss_one (ps_set (i := 2) sc__law_file.nd rfl (Or.inl rfl) (pe_op op_cat (pv 2) (pe_callD G__law_record (hr.mono (by decide)) (pa_cons (pe_op op_add pe_int (pe_op op_mod (pe_ix (r := rIxL K) ix_list (pv 1) (pe_op op_add pe_int (pv 5)) (fun _ _ => rfl)) pe_int)) (pa_cons (pv 6) pa_nil))))))))
      (pss_cons (ps_set (i := 8) sc__law_file.nd rfl (Or.inl rfl) (pe_callD G__law_seal (hr.mono (by decide)) (pa_cons (pv 4) (pa_cons (pe_tup (pa_cons (pe_op op_mul (pe_ix (r := rIxL K) ix_list (pv 1) (pe_op op_add pe_int (pv 4)) (fun _ _ => rfl)) (pe_ix (r := rIxL K) ix_list (pv 1) (pe_op op_add pe_int (pv 4)) (fun _ _ => rfl))) (pa_cons (pe_ix (r := rIxL K) ix_list (pv 1) (pe_op op_add pe_int (pv 4)) (fun _ _ => rfl)) pa_nil))) pa_nil))))
      (pss_one (ps_set (i := 2) sc__law_file.nd rfl (Or.inl rfl) (pe_op op_cat (pe_op op_cat (pv 2) (pv 8)) (pv 8)))))))
      (pss_one (ps_ret (pv 2))))))), ?_⟩
  walk_at "rd"
  refine ⟨_, 40, rfl, by omega, fun dr hdl hd => r_ret1 (Own.nil H) fun p1 H1 o1 => ?_⟩
  walk_at "rd"
  refine r_newL o1 (Nat.zero_le _) fun p2 H2 o2 => ?_
  walk_at "rd"
  have g0 := hd.gi (i := 0) (by omega) (by omega)
  obtain ⟨m, hm⟩ : ∃ m : Nat, gi dr 0 % 4 = m := ⟨(gi dr 0 % 4).toNat, by omega⟩
  rw [hm]
  refine forR1 (n := m) rfl (by omega) (fun b σ' H' => ∃ (p : Addr) (vs : List Int) (st : List Nat) (v4 v5 v6 v8 : Option V), σ' = [some (.int c), some (.ref p1), some (.ref p), some (.int m), v4, v5, v6, none, v8] ∧ vs.length ≤ 100 * b ∧ (FileP vs st ∧ st.length = b ∧ FileE vs st) ∧ Own H H' [(p, .lst (vs.map V.int)), (p1, .lst (dr.map V.int))]) ⟨p2, [], [], _, _, _, _, rfl, Nat.zero_le _, ⟨FileP.nil, rfl, .inl ⟨rfl, rfl⟩⟩, o2⟩ ?_ ?_
  · clear o2 o1
    rintro b σ' H' hb ⟨p, vs, st, v4, v5, v6, v8, rfl, hvl, ⟨hvb, hst, _⟩, o⟩
    have g1 := hd.gi (i := 1 + (b : Int)) (by omega) (by omega)
    have g12 := hd.gi (i := 12 + (b : Int)) (by omega) (by omega)
    have g16 := hd.gi (i := 16 + (b : Int)) (by omega) (by omega)
    have g20 := hd.gi (i := 20 + (b : Int)) (by omega) (by omega)
    walk_at "rd"
    obtain ⟨m2, hm2⟩ : ∃ m : Nat, gi dr (1 + (b : Int)) % 3 = m := ⟨(gi dr (1 + (b : Int)) % 3).toNat, by omega⟩
    rw [hm2]
    refine forR1 (n := m2) rfl (by omega) (fun k σ' H' => ∃ (p : Addr) (vs : List Int) (v5 v6 v8 : Option V), σ' = [some (.int c), some (.ref p1), some (.ref p), some (.int m), some (.int b), v5, v6, none, v8] ∧ vs.length ≤ 100 * b + 11 * k ∧ FileP vs st ∧ Own H H' [(p, .lst (vs.map V.int)), (p1, .lst (dr.map V.int))]) ⟨p, vs, _, _, _, rfl, by omega, hvb, o⟩ ?_ ?_
    · clear o hvb hvl
      rintro k σ' H' hk ⟨p, vs, v5, v6, v8, rfl, hvl, hvb, o⟩
      have g5 := hd.gi (i := 5 + (k : Int)) (by omega) (by omega)
      have g9 := hd.gi (i := 9 + (k : Int)) (by omega) (by omega)
      walk_at "rd"
      obtain ⟨m3, hm3⟩ : ∃ m : Nat, gi dr (5 + (k : Int)) % 9 = m := ⟨(gi dr (5 + (k : Int)) % 9).toNat, by omega⟩
      rw [hm3]
      refine lcR1P (n := m3) (fun z => 0 ≤ z ∧ z < 250) o rfl (by omega) (fun x => rfl) ?_ fun p5 H5 zs hzl hzs o5 => ?_
      · rintro i p zs H' Q' hi o' q'
        walk_at "rd"
        exact (q' _ ⟨by omega, by omega⟩).here
      walk_at "rd"
      refine ⟨_, _, _, rfl, o5.sqL 0 rfl, by omega, r_ret1 o5 fun p6 H6 o6 => ?_⟩
      have hrl := recD_len (1 + gi dr (9 + (k : Int)) % 4) zs
      have hrb := recD_b (k := 1 + gi dr (9 + (k : Int)) % 4) (ns := zs) (by omega) hzs
      generalize recD (1 + gi dr (9 + (k : Int)) % 4) zs = rs at *
      refine r_cat o6 (o6.at 2 rfl) (o6.at 0 rfl) (by rw [List.length_map, List.length_map]; omega) fun p7 H7 o7 => ?_
      rw [← List.map_append] at o7
      walk_at "rd"
      refine ⟨p7, _, _, _, _, rfl, ?_, hvb.rec_ hrb, o7.pick2 0 4 (by decide) rfl rfl⟩
      rw [List.length_append]
      omega
    · clear o hvb hvl
      rintro σ' H' ⟨p, vs, v5, v6, v8, rfl, hvl, hvb, o⟩
      walk_at "rd"
      refine r_newTi (K := K) [_, _] rfl o (Nat.le_of_ble_eq_true rfl) fun t H5 s5 o5 ht => ?_
      walk_at "rd"
      refine ⟨_, _, _, t, rfl, ht, by omega, Int.mul_nonneg g12.1 g16.1, g20.1, r_ret1 o5 fun p6 H6 o6 => ?_⟩
      have hsl := seal_len (b : Int) (gi dr (12 + (b : Int)) * gi dr (16 + (b : Int))) (gi dr (20 + (b : Int)))
      have hsb := hvb.seal_ (r1 := gi dr (12 + (b : Int)) * gi dr (16 + (b : Int))) (r2 := gi dr (20 + (b : Int))) hst
      generalize sealL (b : Int) (gi dr (12 + (b : Int)) * gi dr (16 + (b : Int))) (gi dr (20 + (b : Int))) = sl at *
      walk_at "rd"
      refine r_cat o6 (o6.at 1 rfl) (o6.at 0 rfl) (by rw [List.length_map, List.length_map]; omega) fun p7 H7 o7 => ?_
      rw [← List.map_append] at o7
      walk_at "rd"
      refine r_cat o7 (o7.at 0 rfl) (o7.at 1 rfl) (by rw [List.length_map, List.length_map, List.length_append]; omega) fun p8 H8 o8 => ?_
      rw [← List.map_append] at o8
      walk_at "rd"
      refine ⟨p8, _, _, _, _, _, _, rfl, ?_, ⟨hsb, by rw [List.length_append, hst]; rfl, .inr ⟨b, vs.length, by rw [List.length_append, hst]; rfl, by rw [List.getElem?_append_right (by omega), hst, Nat.sub_self]; rfl, by rw [List.length_append, List.length_append]; omega⟩⟩, o8.pick2 0 4 (by decide) rfl rfl⟩
      rw [List.length_append, List.length_append]
      omega
  · clear o2 o1
    rintro σ' H' ⟨p, vs, st, v4, v5, v6, v8, rfl, hvl, ⟨hvb, hst, hE⟩, o⟩
    walk_at "rd"
    exact (q vs st (by omega) hvb (by omega) hE).mk o 0 rfl
end

/-- an object of the base, taken out -/
def delH (H : Hp) (l : Addr) : Hp := fun b => if b = l then none else H b
theorem delH_ne {H : Hp} {l b : Addr} (h : b ≠ l) : delH H l b = H b := if_neg h
theorem delH_same {H : Hp} {l : Addr} : delH H l l = none := if_pos rfl
theorem take_l {H : Hp} {l : Addr} {u : HO} (h : H l = some u) : Own (delH H l) H [(l, u)] := by
  refine ⟨fun b x e => ?_, fun x hx => ?_, by simp⟩
  · by_cases hb : b = l
    · subst hb
      rw [delH_same] at e
      cases e
    · rw [delH_ne hb] at e
      exact e
  · rw [List.mem_singleton.mp hx]
    exact ⟨delH_same, h⟩
theorem stp_frame {H H' : Hp} {p : Addr} {C dx : Addr} {fs : List (Str × V)} (hp : H p = some (.ins C dx fs)) (h : ∀ b u, b ≠ p → H b = some u → H' b = some u) : Stp H H' := fun a xs r => by
  have hne : a ≠ p := by
    rintro rfl
    rcases r with r | ⟨o, r⟩ <;> rw [hp] at r <;> cases r
  rcases r with r | ⟨o, r⟩
  · exact .inl (h _ _ hne r)
  · exact .inr ⟨o, h _ _ hne r⟩
theorem stp_frameL {H H' : Hp} {p : Addr} {xs : List V} (hp : H p = some (.lst xs)) (h : ∀ b u, b ≠ p → H b = some u → H' b = some u) : Stp H H' := fun a xs r => by
  have hne : a ≠ p := by
    rintro rfl
    rcases r with r | ⟨o, r⟩ <;> rw [hp] at r <;> cases r
  rcases r with r | ⟨o, r⟩
  · exact .inl (h _ _ hne r)
  · exact .inr ⟨o, h _ _ hne r⟩
theorem r_exts {H H0 : Hp} {Q : VK} {L : List (Addr × HO)} {l b : Addr} {xs zs : List V} (o : Own H0 H L) (n m : Nat) (h : L[n]? = some (l, .lst xs)) (h2 : L[m]? = some (b, .lst zs)) (hz : xs.length + zs.length ≤ 10000000) (k : ∀ H', Stp H H' → Own H0 H' (L.set n (l, .lst (xs ++ zs))) → Q .non H') : rExtend (.ref l) [.ref b] H Q :=
  ⟨l, b, xs, zs, rfl, rfl, o.at n h, o.at m h2, sz100 hz, k _ (Stp.set (o.at n h)) (o.set n h)⟩
/-- one more object of the base taken out -/
theorem _root_.RD.Own.take {H0 H : Hp} {L : List (Addr × HO)} {l : Addr} {u : HO} (o : Own H0 H L) (h : H0 l = some u) : Own (delH H0 l) H ((l, u) :: L) := by
  refine ⟨fun b x e => ?_, fun x hx => ?_, ?_⟩
  · by_cases hb : b = l
    · subst hb
      rw [delH_same] at e
      cases e
    · rw [delH_ne hb] at e
      exact o.ex _ _ e
  · rcases List.mem_cons.mp hx with rfl | hx
    · exact ⟨delH_same, o.ex _ _ h⟩
    · refine ⟨?_, (o.fr x hx).2⟩
      by_cases hb : x.1 = l
      · rw [hb]; exact delH_same
      · rw [delH_ne hb]; exact (o.fr x hx).1
  · rw [List.map_cons, List.nodup_cons]
    refine ⟨fun hm => ?_, o.nd⟩
    obtain ⟨x, hx, e⟩ := List.mem_map.mp hm
    have := (o.fr x hx).1
    rw [e, h] at this
    cases this
/-- a new object beside one that is changed -/
theorem Own.addF {H0 H H' : Hp} {L L' : List (Addr × HO)} {l : Addr} {z : HO} (o : Own H0 H L) (o' : Own H0 H' L') (e : L'.map (·.1) = L.map (·.1)) (hl : H l = none) (hz : H' l = some z) : Own H0 H' ((l, z) :: L') := by
  refine ⟨o'.ex, fun x hx => ?_, ?_⟩
  · rcases List.mem_cons.mp hx with rfl | hx
    · exact ⟨o.ex.free hl, hz⟩
    · exact o'.fr x hx
  · rw [List.map_cons, List.nodup_cons]
    refine ⟨fun hm => ?_, o'.nd⟩
    rw [e] at hm
    obtain ⟨x, hx, e1⟩ := List.mem_map.mp hm
    have h2 := (o.fr x hx).2
    have e2 : x.1 = l := e1
    rw [e2, hl] at h2
    cases h2
/-- some of the objects, in another order -/
theorem _root_.RD.Own.pick {H0 H : Hp} {L : List (Addr × HO)} (o : Own H0 H L) (is : List Nat) (hn : is.Nodup) : Own H0 H (is.filterMap fun i => L[i]?) := by
  refine ⟨o.ex, fun x hx => ?_, ?_⟩
  · obtain ⟨i, _, hi⟩ := List.mem_filterMap.mp hx
    exact o.fr x (List.mem_of_getElem? hi)
  · induction is with
    | nil => exact List.nodup_nil
    | cons i is ih =>
      rw [List.nodup_cons] at hn
      rw [List.filterMap_cons]
      cases e : L[i]? with
      | none => exact ih hn.2
      | some x =>
        show (x.1 :: (is.filterMap fun i => L[i]?).map (·.1)).Nodup
        rw [List.nodup_cons]
        refine ⟨fun hm => ?_, ih hn.2⟩
        obtain ⟨z, hz, ez⟩ := List.mem_map.mp hm
        obtain ⟨j, hj, hj2⟩ := List.mem_filterMap.mp hz
        have hij : i = j := by
          obtain ⟨x1, x2⟩ := x
          obtain ⟨z1, z2⟩ := z
          have ez : z1 = x1 := ez
          subst ez
          exact nodup_fst o.nd e hj2
        rw [hij] at hn
        exact hn.1 hj
/-- two objects are changed -/
theorem _root_.RD.Own.chg2 {H0 H H' : Hp} {L : List (Addr × HO)} {l m : Addr} {u v u' v' : HO} (o : Own H0 H L) (i j : Nat) (hi : L[i]? = some (l, u)) (hj : L[j]? = some (m, v)) (hij : i ≠ j) (e : ∀ b x, b ≠ l → b ≠ m → H b = some x → H' b = some x) (hl : H' l = some u') (hm : H' m = some v') : Own H0 H' ((L.set i (l, u')).set j (m, v')) := by
  have hne : l ≠ m := o.ne hi hj hij
  have o1 := o.set (v := u') i hi
  refine o1.chg (u := v) j ?_ (fun b x hb h => ?_) hm
  · rw [List.getElem?_set_ne hij]; exact hj
  · by_cases hbl : b = l
    · subst hbl
      rw [upd_same] at h
      cases h
      exact hl
    · rw [upd_ne hbl] at h
      exact e b x hbl hb h
/-- what is no tuple may change -/
def NoTup (H : Hp) (p : Addr) : Prop := ∀ xs, ¬ Rd H p (.tup xs)
theorem noTup_l {H : Hp} {p : Addr} {xs : List V} (h : H p = some (.lst xs)) : NoTup H p := fun ys r => by rcases r with r | ⟨o, r⟩ <;> rw [h] at r <;> cases r
theorem noTup_i {H : Hp} {p C dx : Addr} {fs : List (Str × V)} (h : H p = some (.ins C dx fs)) : NoTup H p := fun ys r => by rcases r with r | ⟨o, r⟩ <;> rw [h] at r <;> cases r
theorem stp_frame2 {H H' : Hp} {p q : Addr} (hp : NoTup H p) (hq : NoTup H q) (h : ∀ b u, b ≠ p → b ≠ q → H b = some u → H' b = some u) : Stp H H' := fun a xs r => by
  have h1 : a ≠ p := fun e => hp xs (e ▸ r)
  have h2 : a ≠ q := fun e => hq xs (e ▸ r)
  rcases r with r | ⟨o, r⟩
  · exact .inl (h _ _ h1 h2 r)
  · exact .inr ⟨o, h _ _ h1 h2 r⟩

section
variable {P : Program} {w : World} {K : PySem.W.Frag} {mg : Str → Option Value} {base : Heap}
def sp_told36 (K : PySem.W.Frag) : Sp := fun vs H Q _ => ∃ (a : Addr) (fs : List Int), vs = [.ref a] ∧ SqL K H a (fs.map V.int) ∧ Byts fs ∧ fs.length ≤ 1000000 ∧ RetV H Q (.int (toldN fs))
theorem d_told36 {C_TesseraError C_NotAStore C : Addr} (T : Top K mg) (R : Errs K mg C_TesseraError C_NotAStore) (C_Disk : Cl_Disk K mg C) : Def P w K mg base CX0 8 "_law_told" ["values"] (sp_told36 K) := by
  have G_make_ready : Def P w K mg base (L2.CX P w) 6 "make_ready" ["disk"] (sp_ready K C_NotAStore C) := (d_ready T R C_Disk).toX
  have I_Disk : KDef P w K mg base CX0 1 C ["self", "values"] (sp_dinit K C) := d_dinit T C_Disk
  refine T.f__law_told.ok sc__law_told (by rintro vs H Q E ⟨a, fs, rfl, _⟩; rfl) (fun f cdv A outer s H vs Q E hr h => ?_)
  obtain ⟨a, fs, rfl, hS, hb, hz, q⟩ := h
  refine ⟨_, (pss_one (L2.ps_try_only (Wout := fun _ _ _ _ => False) rfl rfl ⟨rfl, by decide, Or.inl R.c_NotAStore.at_⟩ L2.takes0 (fun W pn xe tk po => (pss_one (ps_ret (pe_ix (r := rIxT K) ix_tup (pe_callX G_make_ready tk (hr.mono (by decide)) (pa_cons (pe_makeD I_Disk C_Disk.at_ (hr.mono (by decide)) (pa_cons (pv 0) pa_nil)) pa_nil)) pe_int (fun _ _ => rfl))))) (fun a oe cls d pn hz hf => (pss_one (ps_ret (pe_un un_neg pe_int)))))), ?_⟩
  walk_at "rd"
  intro x dx nx ndx nex
  have oa := (Own.nil H).new (u := .own x) ndx
  have ob := oa.new (u := .ins C dx []) (show upd H dx (.own x) x = none by rw [upd_ne (Ne.symm nex)]; exact nx)
  refine ⟨x, a, dx, fs.map V.int, rfl, ob.at 0 rfl, ob.old hS, fun l hl => ⟨rfl, ?_⟩⟩
  have od := (ob.new (u := .lst (fs.map V.int)) hl).set (v := .ins C dx (dkF l)) 1 rfl
  revert od
  generalize upd (upd (upd (upd H dx (.own x)) x (.ins C dx [])) l (.lst (fs.map V.int))) x (.ins C dx (dkF l)) = H1
  intro od
  walk_at "rd"
  unfold toldN at q
  refine ⟨x, l, dx, fs, rfl, od.at 1 rfl, od.at 0 rfl, hb, hz, fun n hn => ?_, fun hn => r_retE0 od fun H2 o2 => ?_⟩
  · rw [hn] at q
    have o3 := od.set (v := .lst ((done fs n).map V.int)) 0 rfl
    refine r_retD o3 fun u4 H4 e4 o4 t4 => ?_
    walk_at "rd"
    refine r_ixTpI (i := 0) t4 rfl ?_
    exact q.mk o4
  · rw [hn] at q
    refine wo_yes (R.c_NotAStore.exm R.s_NotAStore_NotAStore) fun a0 na0 => ?_
    walk_at "rd"
    exact q.mk o2
def lawK : Nat := 10
theorem ok_law {f : Addr} {fd : FuncData} (F : Fun K "law" "law" s_law f fd) (T : Top K mg) : FnOk P w K mg base CX0 lawK f fd ["script"] (spLaw K) := by
  obtain ⟨C, C_Disk⟩ := T.c_Disk
  obtain ⟨C_TesseraError, C_NotAStore, R⟩ := T.errs
  have G__law_cell : Def P w K mg base CX0 1 "_law_cell" ["script", "k"] (sp_cell K) := d_cell T
  have G__law_draws : Def P w K mg base CX0 1 "_law_draws" ["cell", "count"] sp_draws := d_draws T
  have G__law_file : Def P w K mg base CX0 3 "_law_file" ["cell"] sp_lfileP := d_lfileP T
  have G__law_seal_in : Def P w K mg base CX0 2 "_law_seal_in" ["values", "at"] (sp_seal_in K) := d_seal_in T
  have G__law_told : Def P w K mg base CX0 8 "_law_told" ["values"] (sp_told36 K) := d_told36 T R C_Disk
  have G__law_is_number : Def P w K mg base CX0 2 "_law_is_number" ["x", "due"] sp_is_number := d_is_number T
  refine F.ok sc_law (by rintro vs H Q E ⟨a, ss, rfl, _⟩; rfl) (fun cdv A outer s H vs Q E hr h => ?_)
  obtain ⟨a, ss, rfl, hS, hl, hb, q⟩ := h
  refine ⟨_, (pss_cons (ps_set (i := 1) sc_law.nd rfl (Or.inl rfl) (pe_callD G__law_file (hr.mono (by decide)) (pa_cons (pe_callD G__law_cell (hr.mono (by decide)) (pa_cons (pv 0) (pa_cons pe_int pa_nil))) pa_nil)))
      (pss_cons (ps_set (i := 2) sc_law.nd rfl (Or.inl rfl) (pe_lst pa_nil))
      (pss_cons (ps_for PassesOwn.never rfl (pi_range1 (by rfl) T.b_range (pa_cons (pe_callB (r := Evl.rLenS K) call_len_seq (by rfl) T.b_len (by decide +kernel) (pa_cons (pv 1) pa_nil)) pa_nil)) (pg_name (i := 3) sc_law.nd rfl (Or.inl rfl)) (pss_cons (ps_set (i := 4) sc_law.nd rfl (Or.inl rfl) (pe_callD G__law_seal_in (hr.mono (by decide)) (pa_cons (pv 1) (pa_cons (pv 3) pa_nil))))
      (pss_one (ps_if (pt_cutT (PW.pt (pw_and (pt_cmpR (r := rNotNon) op_notN (pv 4) pe_non (nomark _)) (pw_and1 (pt_cmpR op_eq (pe_ix (r := rIxT K) ix_tup (pv 4) pe_int (fun _ _ => rfl)) (pe_callB (r := Evl.rLenS K) call_len_seq (by rfl) T.b_len (by decide +kernel) (pa_cons (pv 2) pa_nil)) (nomark _)))))) (pss_one (ps_expr (pe_bm PySem.F.plainAttrs_list PySem.F.slot_list_append PySem.F.type_list_append mt_append (pv 2) (pa_cons (pe_op op_add (pv 3) pe_int) pa_nil)))) pss_nil))))
      (pss_cons (ps_set (i := 5) sc_law.nd rfl (Or.inl rfl) (pe_callD G__law_draws (hr.mono (by decide)) (pa_cons (pe_callD G__law_cell (hr.mono (by decide)) (pa_cons (pv 0) (pa_cons pe_int pa_nil))) (pa_cons pe_int pa_nil))))
      (pss_cons (ps_for PassesOwn.never rfl (pi_range1 (by rfl) T.b_range (pa_cons pe_int pa_nil)) (pg_name (i := 6) sc_law.nd rfl (Or.inl rfl)) (pss_cons (ps_set (i := 7) sc_law.nd rfl (Or.inr rfl) (pe_op op_mod (pe_callTy (r := rInt1) call_int1 (by rfl) T.b_int (by decide +kernel) (pa_cons (pe_op op_add (pe_op op_mul (pe_ix (r := rIxL K) ix_list (pv 5) (pv 6) (fun _ _ => rfl)) pe_int) (pe_ix (r := rIxL K) ix_list (pv 5) (pe_op op_add (pv 6) pe_int) (fun _ _ => rfl))) pa_nil)) (pe_op op_add (pe_callB (r := Evl.rLenS K) call_len_seq (by rfl) T.b_len (by decide +kernel) (pa_cons (pv 1) pa_nil)) pe_int)))
      (Evl.pss_cut (ps_if (pt_cmpR op_lt (pv 6) (pe_callB (r := Evl.rLenS K) call_len_seq (by rfl) T.b_len (by decide +kernel) (pa_cons (pv 2) pa_nil)) (nomark _)) (pss_one (ps_set (i := 7) sc_law.nd rfl (Or.inr rfl) (pe_op op_sub (pe_ix (r := rIxL K) ix_list (pv 2) (pv 6) (fun _ _ => rfl)) (pe_op op_mod (pe_ix (r := rIxL K) ix_list (pv 5) (pv 6) (fun _ _ => rfl)) pe_int)))) pss_nil)
      (pss_one (ps_if (pt_not (pt_val (pe_callD G__law_is_number (hr.mono (by decide)) (pa_cons (pe_callD G__law_told (hr.mono (by decide)) (pa_cons (pe_slice (r := rSlL K) sl_list (pv 1) po_none (po_some (pv 7))) pa_nil)) (pa_cons (pe_op op_sub (pe_callB (r := Evl.rLenS K) call_len_seq (by rfl) T.b_len (by decide +kernel) (pa_cons (pe_lc (own := [("end", 8)]) (g := (gName 8)) rfl sc_law.nd (pi_list (pv 2)) (blkOk_by (N := N_law) (sc := defScope s_law) (by decide +kernel)) (fun _ _ _ _ _ => (pg_name (i := 8) sc_law.nd rfl (Or.inl rfl))) (fun _ _ _ _ _ => pts_one (pt_cmpR op_le (pv 8) (pv 7) (nomark _))) (fun _ _ _ _ _ => (pv 8))) pa_nil)) pe_int) pa_nil))))) (pss_one (ps_ret pe_bl)) pss_nil)))))
      (pss_cons (ps_for PassesOwn.never rfl (pi_range1 (by rfl) T.b_range (pa_cons pe_int pa_nil)) (pg_name (i := 6) sc_law.nd rfl (Or.inl rfl)) (pss_one (ps_if (pt_cmpR op_gt (pe_callB (r := Evl.rLenS K) call_len_seq (by rfl) T.b_len (by decide +kernel) (pa_cons (pv 1) pa_nil)) pe_int (nomark _)) (pss_cons (ps_set (i := 3) sc_law.nd rfl (Or.inl rfl) (pe_op op_mod (pe_callTy (r := rInt1) call_int1 (by rfl) T.b_int (by decide +kernel) (pa_cons (pe_op op_add (pe_op op_mul (pe_ix (r := rIxL K) ix_list (pv 5) (pv 6) (fun _ _ => rfl)) pe_int) (pe_ix (r := rIxL K) ix_list (pv 5) (pe_op op_add (pv 6) pe_int) (fun _ _ => rfl))) pa_nil)) (pe_callB (r := Evl.rLenS K) call_len_seq (by rfl) T.b_len (by decide +kernel) (pa_cons (pv 1) pa_nil))))
      (Evl.pss_cut (ps_if (pt_cmpR op_lt (pv 6) pe_int (nomark _)) (pss_one (ps_set (i := 3) sc_law.nd rfl (Or.inl rfl) (pe_op op_sub (pe_op op_sub (pe_callB (r := Evl.rLenS K) call_len_seq (by rfl) T.b_len (by decide +kernel) (pa_cons (pv 1) pa_nil)) pe_int) (pe_op op_mod (pe_ix (r := rIxL K) ix_list (pv 5) (pv 6) (fun _ _ => rfl)) (pe_callB (r := rMin2) (call_min2 rfl) (by rfl) T.b_min (by decide +kernel) (pa_cons pe_int (pa_cons (pe_callB (r := Evl.rLenS K) call_len_seq (by rfl) T.b_len (by decide +kernel) (pa_cons (pv 1) pa_nil)) pa_nil))))))) pss_nil)
      (pss_cons (ps_set (i := 9) sc_law.nd rfl (Or.inl rfl) (pe_op op_cat (pe_op op_cat (pe_slice (r := rSlL K) sl_list (pv 1) po_none (po_some (pv 3))) (pe_lst (pa_cons (pe_ix (r := rIxL K) ix_list (pe_lst (pa_cons pe_int (pa_cons pe_int (pa_cons pe_int (pa_cons (pe_op op_mod (pe_ix (r := rIxL K) ix_list (pv 5) (pe_op op_add (pv 6) pe_int) (fun _ _ => rfl)) pe_int) pa_nil))))) (pe_op op_mod (pe_ix (r := rIxL K) ix_list (pv 5) (pe_op op_add (pv 6) pe_int) (fun _ _ => rfl)) pe_int) (fun _ _ => rfl)) pa_nil))) (pe_slice (r := rSlL K) sl_list (pv 1) (po_some (pe_op op_add (pv 3) pe_int)) po_none)))
      (pss_one (ps_if (pt_not (pt_val (pe_callD G__law_is_number (hr.mono (by decide)) (pa_cons (pe_callD G__law_told (hr.mono (by decide)) (pa_cons (pv 9) pa_nil)) (pa_cons (pe_op op_sub (pe_callB (r := Evl.rLenS K) call_len_seq (by rfl) T.b_len (by decide +kernel) (pa_cons (pv 2) pa_nil)) pe_int) pa_nil))))) (pss_one (ps_ret pe_bl)) pss_nil))))) pss_nil)))
      (pss_one (ps_ret pe_bl)))))))), ?_⟩
  walk_at "rd"
  refine ⟨_, _, _, rfl, hS, by omega, ?_⟩
  walk_at "rd"
  refine ⟨_, rfl, fun fs st hfl hfp hst hE => r_ret1 (Own.nil H) fun p1 H1 o1 => ?_⟩
  have hS1 := o1.old hS
  walk_at "rd"
  refine r_newL o1 (Nat.zero_le _) fun p2 H2 o2 => ?_
  walk_at "rd"
  rw [List.length_map]
  refine forR1 (n := fs.length) rfl (by omega) (fun i σ' H' => ∃ (v3 v4 : Option V) (k : Nat), σ' = [some (.ref a), some (.ref p1), some (.ref p2), v3, v4, none, none, none, none, none] ∧ k ≤ st.length ∧ (∀ b s : Nat, st[b]? = some s → (s < i ↔ b < k)) ∧ Own H H' [(p2, .lst (((st.take k).map endI).map V.int)), (p1, .lst (fs.map V.int))]) ⟨_, _, 0, rfl, Nat.zero_le _, (fun b s _ => ⟨fun h => by omega, fun h => by omega⟩), o2⟩ ?_ ?_
  · rintro i σ' H' hi ⟨v3, v4, k, rfl, hk, hks, o⟩
    have htl : ((st.take k).map endI).length = k := by rw [List.length_map, List.length_take]; omega
    walk_at "rd"
    refine ⟨p1, i, fs, rfl, o.sqL 1 rfl, hfp.by_, fun hw => r_retv o fun H3 o3 => ?_, fun hw => r_retD o fun u3 H3 e3 o3 t3 => ?_⟩
    · have no : ∀ b s : Nat, st[b]? = some s → s ≠ i := fun b s hs e => by
        subst e
        have := (hfp.is_ hs).1
        unfold seg at this
        rw [hw] at this
        cases this
      walk_at "rd"
      refine r_cutT (fun b H' => b = false ∧ H' = H3) ?_ ?_
      · walk_at "rd"
        exact ⟨rfl, rfl⟩
      rintro b H' ⟨rfl, rfl⟩
      walk_at "rd"
      exact ⟨_, _, k, rfl, hk, fun b s hs => ⟨fun h => (hks b s hs).mp (by have := no b s hs; omega), fun h => by have := (hks b s hs).mpr h; omega⟩, o3⟩
    · obtain ⟨b, s, hs, hbs, hr⟩ := hfp.at_ hst (show wholeB (seg fs i) = true from hw)
      have hbl := (List.getElem?_eq_some_iff.mp hs).1
      obtain ⟨a4, x4, rfl, h4, t4⟩ := t3.inv
      walk_at "rd"
      have hsi : ∀ b' s' : Nat, st[b']? = some s' → s' = i → b' = b ∧ i = s := fun b' s' hs' e => by
        subst e
        rcases Nat.lt_trichotomy b' b with h | h | h
        · have := hfp.lt hs' hs h; omega
        · subst h; rw [hs] at hs'; cases hs'; exact ⟨rfl, rfl⟩
        · have := hfp.lt hs hs' h; omega
      refine r_cutT (fun b' H' => b' = decide (b = k) ∧ H' = H3) ?_ ?_
      · walk_at "rd"
        refine r_ixTpI (i := 0) t3 rfl ?_
        walk_at "rd"
        rw [List.length_map, htl]
        refine ⟨?_, rfl⟩
        unfold seg at hr
        rw [hr]
        exact decide_eq_decide.mpr (by omega)
      rintro b' H' ⟨rfl, rfl⟩
      by_cases hbk : b = k
      · refine rif_yes hbk ?_
        have his : i = s := by
          rcases hbs with h | h
          · exact h
          · have := (hks b s hs).mp (by omega); omega
        walk_at "rd"
        refine r_app o3 0 rfl (by rw [List.length_map, htl]; omega) fun H5 o5 => ?_
        walk_at "rd"
        refine ⟨_, _, k + 1, rfl, by omega, fun b2 s2 hs2 => ⟨fun h => ?_, fun h => ?_⟩, ?_⟩
        · by_cases e : s2 = i
          · have := hsi b2 s2 hs2 e; omega
          · have := (hks b2 s2 hs2).mp (by omega); omega
        · by_cases e : b2 = b
          · subst e; rw [hs] at hs2; cases hs2; omega
          · have := (hks b2 s2 hs2).mpr (by omega); omega
        · have e : ((st.take (k + 1)).map endI).map V.int = ((st.take k).map endI).map V.int ++ [.int ((i : Int) + 28)] := by
            rw [List.take_add_one, ← hbk, hs, List.map_append, List.map_append, his]
            rfl
          rw [e]
          exact o5
      · refine rif_no hbk ?_
        walk_at "rd"
        have his : i ≠ s := fun e => by
          subst e
          rcases Nat.lt_trichotomy b k with h | h | h
          · have := (hks b i hs).mpr h; omega
          · exact hbk h
          · have e2 := List.getElem?_eq_getElem (show k < st.length by omega)
            have := hfp.lt e2 hs h
            have := (hks _ _ e2).mp (by omega)
            omega
        exact ⟨_, _, k, rfl, hk, fun b2 s2 hs2 => ⟨fun h => (hks b2 s2 hs2).mp (by
          by_cases e : s2 = i
          · exact absurd (hsi b2 s2 hs2 e).2 his
          · omega), fun h => by have := (hks b2 s2 hs2).mpr h; omega⟩, o3⟩
  rintro σ' H3 ⟨v3, v4, k, rfl, hk, hks, o3⟩
  have hkl : k = st.length := by
    by_cases h : k = st.length
    · exact h
    · exfalso
      have e2 := List.getElem?_eq_getElem (show k < st.length by omega)
      have := (hfp.sl _ _ e2).1
      have := (hks _ _ e2).mp (by omega)
      omega
  subst hkl
  rw [List.take_length] at o3
  clear hks hk o2
  walk_at "rd"
  refine ⟨_, _, _, rfl, o3.old hS, by omega, ?_⟩
  walk_at "rd"
  refine ⟨_, 30, rfl, by omega, fun dr hdl hd => r_ret1 o3 fun p4 H4 o4 => ?_⟩
  have gg : ∀ i : Int, 0 ≤ i → i < 30 → 0 ≤ gi dr i ∧ gi dr i < 4096 := fun i h0 h1 => hd.gi h0 (by omega)
  have hel : (st.map endI).length = st.length := List.length_map ..
  walk_at "rd"
  refine forR1 (n := 14) rfl (by omega) (fun i σ' H' => ∃ v6 v7 : Option V, σ' = [some (.ref a), some (.ref p1), some (.ref p2), v3, v4, some (.ref p4), v6, v7, none, none] ∧ Own H H' [(p4, .lst (dr.map V.int)), (p2, .lst ((st.map endI).map V.int)), (p1, .lst (fs.map V.int))]) ⟨_, _, rfl, o4⟩ ?_ ?_
  · rintro k σ' H' hk ⟨v6, v7, rfl, o⟩
    have c1 := gg (k : Int) (by omega) (by omega)
    have c2 := gg ((k : Int) + 1) (by omega) (by omega)
    walk_at "rd"
    rw [List.length_map]
    have m0 := Int.emod_nonneg (gi dr (k : Int) * 4096 + gi dr ((k : Int) + 1)) (show (fs.length : Int) + 1 ≠ 0 by omega)
    have m1 := Int.emod_lt_of_pos (gi dr (k : Int) * 4096 + gi dr ((k : Int) + 1)) (show 0 < (fs.length : Int) + 1 by omega)
    refine ⟨fun σ' H2 => ∃ c : Nat, c ≤ fs.length ∧ σ' = [some (.ref a), some (.ref p1), some (.ref p2), v3, v4, some (.ref p4), some (.int (k : Int)), some (.int (c : Int)), none, none] ∧ H2 = H', ?_, ?_⟩
    · walk_at "rd"
      rw [List.length_map, hel]
      refine rif (fun hkl => ?_) fun hkl => ?_
      · have e2 := List.getElem?_eq_getElem (show k < st.length by omega)
        have hsl := (hfp.sl _ _ e2).1
        walk_at "rd"
        have e3 : gi (st.map endI) (k : Int) = endI st[k] := by
          refine gi_get36 ?_
          rw [List.getElem?_map, e2]
          rfl
        rw [e3]
        unfold endI
        obtain ⟨c, hc⟩ : ∃ c : Nat, ((st[k] : Nat) : Int) + 28 - gi dr (k : Int) % 2 = c := ⟨(((st[k] : Nat) : Int) + 28 - gi dr (k : Int) % 2).toNat, by omega⟩
        rw [hc]
        exact ⟨c, by omega, rfl, rfl⟩
      · walk_at "rd"
        obtain ⟨c, hc⟩ : ∃ c : Nat, (gi dr (k : Int) * 4096 + gi dr ((k : Int) + 1)) % ((fs.length : Int) + 1) = c := ⟨((gi dr (k : Int) * 4096 + gi dr ((k : Int) + 1)) % ((fs.length : Int) + 1)).toNat, by omega⟩
        rw [hc]
        exact ⟨c, by omega, rfl, rfl⟩
    rintro σ' H2 ⟨c, hc, rfl, rfl⟩
    walk_at "rd"
    refine r_slL o (o.sqL 2 rfl) fun p5 H5 o5 => ?_
    rw [cut_hi, ← List.map_take] at o5
    walk_at "rd"
    refine ⟨p5, fs.take c, rfl, o5.sqL 0 rfl, fun x hx => hfp.by_ x (List.mem_of_mem_take hx), by rw [List.length_take]; omega, r_retv o5 fun H6 o6 => ?_⟩
    walk_at "rd"
    refine lcLIF (fun e => decide (e ≤ (c : Int))) V.int o6 (fun H' p zs o' => o'.sqL 3 rfl) (o6.sqL 2 rfl) (by omega) (fun x => rfl) ?_ ?_ fun p7 H7 o7 => ?_
    · intro x q1 zs' H' Q' hx o' q'
      walk_at "rd"
      exact q' _ (.refl _)
    · intro x q1 zs' H' Q' hx hp o' q'
      walk_at "rd"
      exact q'.here
    walk_at "rd"
    refine ⟨_, _, rfl, ?_⟩
    rw [List.length_map, hfp.cut_ hst hc, decide_eq_true rfl]
    walk_at "rd"
    exact ⟨_, _, rfl, o7.tl.tl⟩
  rintro σ' H5 ⟨v6, v7, rfl, o5⟩
  walk_at "rd"
  refine forR1 (n := 14) rfl (by omega) (fun i σ' H' => ∃ v3 v6 v9 : Option V, σ' = [some (.ref a), some (.ref p1), some (.ref p2), v3, v4, some (.ref p4), v6, v7, none, v9] ∧ Own H H' [(p4, .lst (dr.map V.int)), (p2, .lst ((st.map endI).map V.int)), (p1, .lst (fs.map V.int))]) ⟨_, _, _, rfl, o5⟩ ?_ ?_
  · clear o5 o4 o3
    rintro k σ' H' hk ⟨v3, v6, v9, rfl, o⟩
    have c1 := gg (k : Int) (by omega) (by omega)
    have c2 := gg ((k : Int) + 2) (by omega) (by omega)
    have c3 := gg ((k : Int) + 3) (by omega) (by omega)
    have c4 := gg ((k : Int) + 4) (by omega) (by omega)
    walk_at "rd"
    rw [List.length_map]
    refine rif (fun hpos => ?_) fun hpos => ?_
    rotate_left
    · walk_at "rd"
      exact ⟨_, _, _, rfl, o⟩
    obtain ⟨b, s, hb1, hb2, hb3⟩ : ∃ b s, st.length = b + 1 ∧ st[b]? = some s ∧ fs.length = s + 56 := by
      rcases hE with ⟨e, _⟩ | h
      · rw [e] at hpos; exact absurd hpos (by decide)
      · exact h
    walk_at "rd"
    rw [List.length_map]
    have m0 := Int.emod_nonneg (gi dr (k : Int) * 4096 + gi dr ((k : Int) + 2)) (show (fs.length : Int) ≠ 0 by omega)
    have m1 := Int.emod_lt_of_pos (gi dr (k : Int) * 4096 + gi dr ((k : Int) + 2)) (show 0 < (fs.length : Int) by omega)
    refine r_I (by omega) ?_
    walk_at "rd"
    refine ⟨fun σ' H2 => ∃ c : Nat, c < fs.length ∧ σ' = [some (.ref a), some (.ref p1), some (.ref p2), some (.int (c : Int)), v4, some (.ref p4), some (.int (k : Int)), v7, none, v9] ∧ H2 = H', ?_, ?_⟩
    · walk_at "rd"
      refine rif (fun hkl => ?_) fun hkl => ?_
      · walk_at "rd"
        rw [List.length_map]
        obtain ⟨M, hM, hM0, hM1⟩ : ∃ M : Int, (if (fs.length : Int) < 60 then (fs.length : Int) else 60) = M ∧ 0 < M ∧ M ≤ fs.length := ⟨_, rfl, by split <;> omega, by split <;> omega⟩
        rw [hM]
        have n0 := Int.emod_nonneg (gi dr (k : Int)) (show M ≠ 0 by omega)
        have n1 := Int.emod_lt_of_pos (gi dr (k : Int)) hM0
        refine r_I hM0 ?_
        walk_at "rd"
        obtain ⟨c, hc⟩ : ∃ c : Nat, (fs.length : Int) - 1 - gi dr (k : Int) % M = c := ⟨((fs.length : Int) - 1 - gi dr (k : Int) % M).toNat, by omega⟩
        rw [hc]
        exact ⟨c, by omega, rfl, rfl⟩
      · walk_at "rd"
        obtain ⟨c, hc⟩ : ∃ c : Nat, (gi dr (k : Int) * 4096 + gi dr ((k : Int) + 2)) % (fs.length : Int) = c := ⟨((gi dr (k : Int) * 4096 + gi dr ((k : Int) + 2)) % (fs.length : Int)).toNat, by omega⟩
        rw [hc]
        exact ⟨c, by omega, rfl, rfl⟩
    rintro σ' H2 ⟨c, hc, rfl, rfl⟩
    walk_at "rd"
    refine r_slL o (o.sqL 2 rfl) fun p6 H6 o6 => ?_
    rw [cut_hi] at o6
    walk_at "rd"
    refine r_newL o6 (Nat.le_of_ble_eq_true rfl) fun p7 H7 o7 => ?_
    have hD := o7.sqL 2 rfl (K := K)
    walk_at "rd"
    refine r_ixM (o7.sqL 0 rfl) (by omega) (show _ < (4 : Int) by omega) fun v hv _ => ?_
    obtain ⟨z, rfl, hz0, hz1⟩ : ∃ z : Int, v = .int z ∧ 0 ≤ z ∧ z < 256 := by
      simp only [List.mem_cons, List.not_mem_nil, or_false] at hv
      rcases hv with rfl | rfl | rfl | rfl <;> exact ⟨_, rfl, by omega, by omega⟩
    walk_at "rd"
    refine r_newL o7 (Nat.le_of_ble_eq_true rfl) fun p8 H8 o8 => ?_
    refine r_cat o8 (o8.at 2 rfl) (o8.at 0 rfl) (by rw [List.length_take, List.length_map]; show _ + 1 ≤ _; omega) fun p9 H9 o9 => ?_
    walk_at "rd"
    refine r_slL o9 (o9.sqL 6 rfl) fun p10 H10 o10 => ?_
    rw [show (c : Int) + 1 = ((c + 1 : Nat) : Int) by omega, cut_lo] at o10
    refine r_cat o10 (o10.at 1 rfl) (o10.at 0 rfl) (by rw [List.length_append, List.length_take, List.length_drop, List.length_map]; show _ + 1 + _ ≤ _; omega) fun p11 H11 o11 => ?_
    rw [map_cut3] at o11
    have eset : fs.take c ++ [z] ++ fs.drop (c + 1) = fs.set c z := by
      rw [List.set_eq_take_append_cons_drop, if_pos hc, List.append_assoc]
      rfl
    rw [eset] at o11
    walk_at "rd"
    refine ⟨p11, fs.set c z, rfl, o11.sqL 0 rfl, fun x hx => ?_, by rw [List.length_set]; omega, r_retv o11 fun H12 o12 => ?_⟩
    · rcases List.mem_or_eq_of_mem_set hx with h | rfl
      · exact hfp.by_ x h
      · exact ⟨hz0, hz1⟩
    walk_at "rd"
    refine ⟨_, _, rfl, ?_⟩
    rw [List.length_map, hel, hfp.chg_ hst hb1 hb2 hb3 hc ⟨hz0, hz1⟩, decide_eq_true (show (b : Int) = (st.length : Int) - 1 by omega)]
    walk_at "rd"
    exact ⟨_, _, _, rfl, o12.pick [6, 7, 8] (by decide)⟩
  · rintro σ' H6 ⟨v3, v6, v9, rfl, o6⟩
    walk_at "rd"
    exact q _
end

theorem top_mk {K : PySem.W.Frag} {h : Heap} {mg : Str → Option Value} (X : K.In h) (G : h.Ns mainGlobals mg)
    {f_check_of : Addr} {od_check_of an_check_of : Option Addr} {sl_check_of : Array (Option Value)} {oc_check_of kV_check_of dc_check_of pm_check_of cd_check_of ct_check_of : Value}
    {f_read_eight : Addr} {od_read_eight an_read_eight : Option Addr} {sl_read_eight : Array (Option Value)} {oc_read_eight kV_read_eight dc_read_eight pm_read_eight cd_read_eight ct_read_eight : Value}
    {f_is_whole_seal : Addr} {od_is_whole_seal an_is_whole_seal : Option Addr} {sl_is_whole_seal : Array (Option Value)} {oc_is_whole_seal kV_is_whole_seal dc_is_whole_seal pm_is_whole_seal cd_is_whole_seal ct_is_whole_seal : Value}
    {f_seal_at : Addr} {od_seal_at an_seal_at : Option Addr} {sl_seal_at : Array (Option Value)} {oc_seal_at kV_seal_at dc_seal_at pm_seal_at cd_seal_at ct_seal_at : Value}
    {f_last_seal : Addr} {od_last_seal an_last_seal : Option Addr} {sl_last_seal : Array (Option Value)} {oc_last_seal kV_last_seal dc_last_seal pm_last_seal cd_last_seal ct_last_seal : Value}
    {f_make_ready : Addr} {od_make_ready an_make_ready : Option Addr} {sl_make_ready : Array (Option Value)} {oc_make_ready kV_make_ready dc_make_ready pm_make_ready cd_make_ready ct_make_ready : Value}
    {f_is_doubled : Addr} {od_is_doubled an_is_doubled : Option Addr} {sl_is_doubled : Array (Option Value)} {oc_is_doubled kV_is_doubled dc_is_doubled pm_is_doubled cd_is_doubled ct_is_doubled : Value}
    {f__law_cell : Addr} {od__law_cell an__law_cell : Option Addr} {sl__law_cell : Array (Option Value)} {oc__law_cell kV__law_cell dc__law_cell pm__law_cell cd__law_cell ct__law_cell : Value}
    {f__law_draws : Addr} {od__law_draws an__law_draws : Option Addr} {sl__law_draws : Array (Option Value)} {oc__law_draws kV__law_draws dc__law_draws pm__law_draws cd__law_draws ct__law_draws : Value}
    {f__law_is_int : Addr} {od__law_is_int an__law_is_int : Option Addr} {sl__law_is_int : Array (Option Value)} {oc__law_is_int kV__law_is_int dc__law_is_int pm__law_is_int cd__law_is_int ct__law_is_int : Value}
    {f__law_is_number : Addr} {od__law_is_number an__law_is_number : Option Addr} {sl__law_is_number : Array (Option Value)} {oc__law_is_number kV__law_is_number dc__law_is_number pm__law_is_number cd__law_is_number ct__law_is_number : Value}
    {f__law_sum : Addr} {od__law_sum an__law_sum : Option Addr} {sl__law_sum : Array (Option Value)} {oc__law_sum kV__law_sum dc__law_sum pm__law_sum cd__law_sum ct__law_sum : Value}
    {f__law_record : Addr} {od__law_record an__law_record : Option Addr} {sl__law_record : Array (Option Value)} {oc__law_record kV__law_record dc__law_record pm__law_record cd__law_record ct__law_record : Value}
    {f__law_digits : Addr} {od__law_digits an__law_digits : Option Addr} {sl__law_digits : Array (Option Value)} {oc__law_digits kV__law_digits dc__law_digits pm__law_digits cd__law_digits ct__law_digits : Value}
    {f__law_seal : Addr} {od__law_seal an__law_seal : Option Addr} {sl__law_seal : Array (Option Value)} {oc__law_seal kV__law_seal dc__law_seal pm__law_seal cd__law_seal ct__law_seal : Value}
    {f__law_seal_in : Addr} {od__law_seal_in an__law_seal_in : Option Addr} {sl__law_seal_in : Array (Option Value)} {oc__law_seal_in kV__law_seal_in dc__law_seal_in pm__law_seal_in cd__law_seal_in ct__law_seal_in : Value}
    {f__law_file : Addr} {od__law_file an__law_file : Option Addr} {sl__law_file : Array (Option Value)} {oc__law_file kV__law_file dc__law_file pm__law_file cd__law_file ct__law_file : Value}
    {f__law_told : Addr} {od__law_told an__law_told : Option Addr} {sl__law_told : Array (Option Value)} {oc__law_told kV__law_told dc__law_told pm__law_told cd__law_told ct__law_told : Value}
    {f_law : Addr} {od_law an_law : Option Addr} {sl_law : Array (Option Value)} {oc_law kV_law dc_law pm_law cd_law ct_law : Value}
    {K_Disk : Addr}
    {f_Disk___init__ : Addr} {od_Disk___init__ an_Disk___init__ : Option Addr} {sl_Disk___init__ : Array (Option Value)} {oc_Disk___init__ kV_Disk___init__ dc_Disk___init__ pm_Disk___init__ cd_Disk___init__ ct_Disk___init__ : Value}
    {f_Disk___len__ : Addr} {od_Disk___len__ an_Disk___len__ : Option Addr} {sl_Disk___len__ : Array (Option Value)} {oc_Disk___len__ kV_Disk___len__ dc_Disk___len__ pm_Disk___len__ cd_Disk___len__ ct_Disk___len__ : Value}
    {f_Disk_part : Addr} {od_Disk_part an_Disk_part : Option Addr} {sl_Disk_part : Array (Option Value)} {oc_Disk_part kV_Disk_part dc_Disk_part pm_Disk_part cd_Disk_part ct_Disk_part : Value}
    {f_Disk_append : Addr} {od_Disk_append an_Disk_append : Option Addr} {sl_Disk_append : Array (Option Value)} {oc_Disk_append kV_Disk_append dc_Disk_append pm_Disk_append cd_Disk_append ct_Disk_append : Value}
    {f_Disk_cut : Addr} {od_Disk_cut an_Disk_cut : Option Addr} {sl_Disk_cut : Array (Option Value)} {oc_Disk_cut kV_Disk_cut dc_Disk_cut pm_Disk_cut cd_Disk_cut ct_Disk_cut : Value}
    {K_TesseraError : Addr}
    {K_NotAStore : Addr}
    {t_CHECK_BASE : Tok}
    {t_CHECK_MODULUS : Tok}
    {t_FIRST_BYTE : Tok}
    {t_HIGHEST_BYTE : Tok}
    {t_LAST_BYTE : Tok}
    {t_NUMBER_BASE : Tok}
    {t_SEAL_LENGTH : Tok}
    (a_check_of : PySem.W.nsIn K mainGlobals "check_of" = some (some (.ref f_check_of))) (l_check_of : K.lookup f_check_of = some ⟨oc_check_of, od_check_of, .func (PySem.W.fnOf "check_of" "check_of" (defArgs s_check_of) (defBody s_check_of) (defScope s_check_of) .none kV_check_of dc_check_of pm_check_of an_check_of cd_check_of ct_check_of), sl_check_of⟩) (c_check_of : PySem.W.codeIn K cd_check_of "check_of" = true) (k_check_of : PySem.W.keepIn K (.ref f_check_of) = true)
    (a_read_eight : PySem.W.nsIn K mainGlobals "read_eight" = some (some (.ref f_read_eight))) (l_read_eight : K.lookup f_read_eight = some ⟨oc_read_eight, od_read_eight, .func (PySem.W.fnOf "read_eight" "read_eight" (defArgs s_read_eight) (defBody s_read_eight) (defScope s_read_eight) .none kV_read_eight dc_read_eight pm_read_eight an_read_eight cd_read_eight ct_read_eight), sl_read_eight⟩) (c_read_eight : PySem.W.codeIn K cd_read_eight "read_eight" = true) (k_read_eight : PySem.W.keepIn K (.ref f_read_eight) = true)
    (a_is_whole_seal : PySem.W.nsIn K mainGlobals "is_whole_seal" = some (some (.ref f_is_whole_seal))) (l_is_whole_seal : K.lookup f_is_whole_seal = some ⟨oc_is_whole_seal, od_is_whole_seal, .func (PySem.W.fnOf "is_whole_seal" "is_whole_seal" (defArgs s_is_whole_seal) (defBody s_is_whole_seal) (defScope s_is_whole_seal) .none kV_is_whole_seal dc_is_whole_seal pm_is_whole_seal an_is_whole_seal cd_is_whole_seal ct_is_whole_seal), sl_is_whole_seal⟩) (c_is_whole_seal : PySem.W.codeIn K cd_is_whole_seal "is_whole_seal" = true) (k_is_whole_seal : PySem.W.keepIn K (.ref f_is_whole_seal) = true)
    (a_seal_at : PySem.W.nsIn K mainGlobals "seal_at" = some (some (.ref f_seal_at))) (l_seal_at : K.lookup f_seal_at = some ⟨oc_seal_at, od_seal_at, .func (PySem.W.fnOf "seal_at" "seal_at" (defArgs s_seal_at) (defBody s_seal_at) (defScope s_seal_at) .none kV_seal_at dc_seal_at pm_seal_at an_seal_at cd_seal_at ct_seal_at), sl_seal_at⟩) (c_seal_at : PySem.W.codeIn K cd_seal_at "seal_at" = true) (k_seal_at : PySem.W.keepIn K (.ref f_seal_at) = true)
    (a_last_seal : PySem.W.nsIn K mainGlobals "last_seal" = some (some (.ref f_last_seal))) (l_last_seal : K.lookup f_last_seal = some ⟨oc_last_seal, od_last_seal, .func (PySem.W.fnOf "last_seal" "last_seal" (defArgs s_last_seal) (defBody s_last_seal) (defScope s_last_seal) .none kV_last_seal dc_last_seal pm_last_seal an_last_seal cd_last_seal ct_last_seal), sl_last_seal⟩) (c_last_seal : PySem.W.codeIn K cd_last_seal "last_seal" = true) (k_last_seal : PySem.W.keepIn K (.ref f_last_seal) = true)
    (a_make_ready : PySem.W.nsIn K mainGlobals "make_ready" = some (some (.ref f_make_ready))) (l_make_ready : K.lookup f_make_ready = some ⟨oc_make_ready, od_make_ready, .func (PySem.W.fnOf "make_ready" "make_ready" (defArgs s_make_ready) (defBody s_make_ready) (defScope s_make_ready) .none kV_make_ready dc_make_ready pm_make_ready an_make_ready cd_make_ready ct_make_ready), sl_make_ready⟩) (c_make_ready : PySem.W.codeIn K cd_make_ready "make_ready" = true) (k_make_ready : PySem.W.keepIn K (.ref f_make_ready) = true)
    (a_is_doubled : PySem.W.nsIn K mainGlobals "is_doubled" = some (some (.ref f_is_doubled))) (l_is_doubled : K.lookup f_is_doubled = some ⟨oc_is_doubled, od_is_doubled, .func (PySem.W.fnOf "is_doubled" "is_doubled" (defArgs s_is_doubled) (defBody s_is_doubled) (defScope s_is_doubled) .none kV_is_doubled dc_is_doubled pm_is_doubled an_is_doubled cd_is_doubled ct_is_doubled), sl_is_doubled⟩) (c_is_doubled : PySem.W.codeIn K cd_is_doubled "is_doubled" = true) (k_is_doubled : PySem.W.keepIn K (.ref f_is_doubled) = true)
    (a__law_cell : PySem.W.nsIn K mainGlobals "_law_cell" = some (some (.ref f__law_cell))) (l__law_cell : K.lookup f__law_cell = some ⟨oc__law_cell, od__law_cell, .func (PySem.W.fnOf "_law_cell" "_law_cell" (defArgs s__law_cell) (defBody s__law_cell) (defScope s__law_cell) .none kV__law_cell dc__law_cell pm__law_cell an__law_cell cd__law_cell ct__law_cell), sl__law_cell⟩) (c__law_cell : PySem.W.codeIn K cd__law_cell "_law_cell" = true) (k__law_cell : PySem.W.keepIn K (.ref f__law_cell) = true)
    (a__law_draws : PySem.W.nsIn K mainGlobals "_law_draws" = some (some (.ref f__law_draws))) (l__law_draws : K.lookup f__law_draws = some ⟨oc__law_draws, od__law_draws, .func (PySem.W.fnOf "_law_draws" "_law_draws" (defArgs s__law_draws) (defBody s__law_draws) (defScope s__law_draws) .none kV__law_draws dc__law_draws pm__law_draws an__law_draws cd__law_draws ct__law_draws), sl__law_draws⟩) (c__law_draws : PySem.W.codeIn K cd__law_draws "_law_draws" = true) (k__law_draws : PySem.W.keepIn K (.ref f__law_draws) = true)
    (a__law_is_int : PySem.W.nsIn K mainGlobals "_law_is_int" = some (some (.ref f__law_is_int))) (l__law_is_int : K.lookup f__law_is_int = some ⟨oc__law_is_int, od__law_is_int, .func (PySem.W.fnOf "_law_is_int" "_law_is_int" (defArgs s__law_is_int) (defBody s__law_is_int) (defScope s__law_is_int) .none kV__law_is_int dc__law_is_int pm__law_is_int an__law_is_int cd__law_is_int ct__law_is_int), sl__law_is_int⟩) (c__law_is_int : PySem.W.codeIn K cd__law_is_int "_law_is_int" = true) (k__law_is_int : PySem.W.keepIn K (.ref f__law_is_int) = true)
    (a__law_is_number : PySem.W.nsIn K mainGlobals "_law_is_number" = some (some (.ref f__law_is_number))) (l__law_is_number : K.lookup f__law_is_number = some ⟨oc__law_is_number, od__law_is_number, .func (PySem.W.fnOf "_law_is_number" "_law_is_number" (defArgs s__law_is_number) (defBody s__law_is_number) (defScope s__law_is_number) .none kV__law_is_number dc__law_is_number pm__law_is_number an__law_is_number cd__law_is_number ct__law_is_number), sl__law_is_number⟩) (c__law_is_number : PySem.W.codeIn K cd__law_is_number "_law_is_number" = true) (k__law_is_number : PySem.W.keepIn K (.ref f__law_is_number) = true)
    (a__law_sum : PySem.W.nsIn K mainGlobals "_law_sum" = some (some (.ref f__law_sum))) (l__law_sum : K.lookup f__law_sum = some ⟨oc__law_sum, od__law_sum, .func (PySem.W.fnOf "_law_sum" "_law_sum" (defArgs s__law_sum) (defBody s__law_sum) (defScope s__law_sum) .none kV__law_sum dc__law_sum pm__law_sum an__law_sum cd__law_sum ct__law_sum), sl__law_sum⟩) (c__law_sum : PySem.W.codeIn K cd__law_sum "_law_sum" = true) (k__law_sum : PySem.W.keepIn K (.ref f__law_sum) = true)
    (a__law_record : PySem.W.nsIn K mainGlobals "_law_record" = some (some (.ref f__law_record))) (l__law_record : K.lookup f__law_record = some ⟨oc__law_record, od__law_record, .func (PySem.W.fnOf "_law_record" "_law_record" (defArgs s__law_record) (defBody s__law_record) (defScope s__law_record) .none kV__law_record dc__law_record pm__law_record an__law_record cd__law_record ct__law_record), sl__law_record⟩) (c__law_record : PySem.W.codeIn K cd__law_record "_law_record" = true) (k__law_record : PySem.W.keepIn K (.ref f__law_record) = true)
    (a__law_digits : PySem.W.nsIn K mainGlobals "_law_digits" = some (some (.ref f__law_digits))) (l__law_digits : K.lookup f__law_digits = some ⟨oc__law_digits, od__law_digits, .func (PySem.W.fnOf "_law_digits" "_law_digits" (defArgs s__law_digits) (defBody s__law_digits) (defScope s__law_digits) .none kV__law_digits dc__law_digits pm__law_digits an__law_digits cd__law_digits ct__law_digits), sl__law_digits⟩) (c__law_digits : PySem.W.codeIn K cd__law_digits "_law_digits" = true) (k__law_digits : PySem.W.keepIn K (.ref f__law_digits) = true)
    (a__law_seal : PySem.W.nsIn K mainGlobals "_law_seal" = some (some (.ref f__law_seal))) (l__law_seal : K.lookup f__law_seal = some ⟨oc__law_seal, od__law_seal, .func (PySem.W.fnOf "_law_seal" "_law_seal" (defArgs s__law_seal) (defBody s__law_seal) (defScope s__law_seal) .none kV__law_seal dc__law_seal pm__law_seal an__law_seal cd__law_seal ct__law_seal), sl__law_seal⟩) (c__law_seal : PySem.W.codeIn K cd__law_seal "_law_seal" = true) (k__law_seal : PySem.W.keepIn K (.ref f__law_seal) = true)
    (a__law_seal_in : PySem.W.nsIn K mainGlobals "_law_seal_in" = some (some (.ref f__law_seal_in))) (l__law_seal_in : K.lookup f__law_seal_in = some ⟨oc__law_seal_in, od__law_seal_in, .func (PySem.W.fnOf "_law_seal_in" "_law_seal_in" (defArgs s__law_seal_in) (defBody s__law_seal_in) (defScope s__law_seal_in) .none kV__law_seal_in dc__law_seal_in pm__law_seal_in an__law_seal_in cd__law_seal_in ct__law_seal_in), sl__law_seal_in⟩) (c__law_seal_in : PySem.W.codeIn K cd__law_seal_in "_law_seal_in" = true) (k__law_seal_in : PySem.W.keepIn K (.ref f__law_seal_in) = true)
    (a__law_file : PySem.W.nsIn K mainGlobals "_law_file" = some (some (.ref f__law_file))) (l__law_file : K.lookup f__law_file = some ⟨oc__law_file, od__law_file, .func (PySem.W.fnOf "_law_file" "_law_file" (defArgs s__law_file) (defBody s__law_file) (defScope s__law_file) .none kV__law_file dc__law_file pm__law_file an__law_file cd__law_file ct__law_file), sl__law_file⟩) (c__law_file : PySem.W.codeIn K cd__law_file "_law_file" = true) (k__law_file : PySem.W.keepIn K (.ref f__law_file) = true)
    (a__law_told : PySem.W.nsIn K mainGlobals "_law_told" = some (some (.ref f__law_told))) (l__law_told : K.lookup f__law_told = some ⟨oc__law_told, od__law_told, .func (PySem.W.fnOf "_law_told" "_law_told" (defArgs s__law_told) (defBody s__law_told) (defScope s__law_told) .none kV__law_told dc__law_told pm__law_told an__law_told cd__law_told ct__law_told), sl__law_told⟩) (c__law_told : PySem.W.codeIn K cd__law_told "_law_told" = true) (k__law_told : PySem.W.keepIn K (.ref f__law_told) = true)
    (a_law : PySem.W.nsIn K mainGlobals "law" = some (some (.ref f_law))) (l_law : K.lookup f_law = some ⟨oc_law, od_law, .func (PySem.W.fnOf "law" "law" (defArgs s_law) (defBody s_law) (defScope s_law) .none kV_law dc_law pm_law an_law cd_law ct_law), sl_law⟩) (c_law : PySem.W.codeIn K cd_law "law" = true) (k_law : PySem.W.keepIn K (.ref f_law) = true)
    (a_K_Disk : PySem.W.nsIn K mainGlobals "Disk" = some (some (.ref K_Disk))) (pg_K_Disk : PySem.W.plainGet K K_Disk Str.empty = true) (hd_K_Disk : PySem.W.hasDictIn K K_Disk = true) (po_K_Disk : PySem.W.plainOver K K_Disk = true) (sa_K_Disk : PySem.W.findIn K (.ref K_Disk) "__setattr__" = some (some (.builtin "object.__setattr__")))
    (n_K_Disk__file : PySem.W.findIn K (.ref K_Disk) "_file" = some none)
    (a_Disk___init__ : PySem.W.findIn K (.ref K_Disk) "__init__" = some (some (.ref f_Disk___init__))) (i_Disk___init__ : PySem.W.isFn K (.ref f_Disk___init__) = true) (l_Disk___init__ : K.lookup f_Disk___init__ = some ⟨oc_Disk___init__, od_Disk___init__, .func (PySem.W.fnOf "__init__" "Disk.__init__" (defArgs s_Disk___init__) (defBody s_Disk___init__) (defScope s_Disk___init__) .none kV_Disk___init__ dc_Disk___init__ pm_Disk___init__ an_Disk___init__ cd_Disk___init__ ct_Disk___init__), sl_Disk___init__⟩) (c_Disk___init__ : PySem.W.codeIn K cd_Disk___init__ "Disk.__init__" = true) (k_Disk___init__ : PySem.W.keepIn K (.ref f_Disk___init__) = true)
    (mk_K_Disk : PySem.W.makesIn K K_Disk = true) (kc_K_Disk : PySem.W.keepIn K (.ref K_Disk) = true)
    (a_Disk___len__ : PySem.W.findIn K (.ref K_Disk) "__len__" = some (some (.ref f_Disk___len__))) (i_Disk___len__ : PySem.W.isFn K (.ref f_Disk___len__) = true) (l_Disk___len__ : K.lookup f_Disk___len__ = some ⟨oc_Disk___len__, od_Disk___len__, .func (PySem.W.fnOf "__len__" "Disk.__len__" (defArgs s_Disk___len__) (defBody s_Disk___len__) (defScope s_Disk___len__) .none kV_Disk___len__ dc_Disk___len__ pm_Disk___len__ an_Disk___len__ cd_Disk___len__ ct_Disk___len__), sl_Disk___len__⟩) (c_Disk___len__ : PySem.W.codeIn K cd_Disk___len__ "Disk.__len__" = true) (k_Disk___len__ : PySem.W.keepIn K (.ref f_Disk___len__) = true)
    (a_Disk_part : PySem.W.findIn K (.ref K_Disk) "part" = some (some (.ref f_Disk_part))) (i_Disk_part : PySem.W.isFn K (.ref f_Disk_part) = true) (l_Disk_part : K.lookup f_Disk_part = some ⟨oc_Disk_part, od_Disk_part, .func (PySem.W.fnOf "part" "Disk.part" (defArgs s_Disk_part) (defBody s_Disk_part) (defScope s_Disk_part) .none kV_Disk_part dc_Disk_part pm_Disk_part an_Disk_part cd_Disk_part ct_Disk_part), sl_Disk_part⟩) (c_Disk_part : PySem.W.codeIn K cd_Disk_part "Disk.part" = true) (k_Disk_part : PySem.W.keepIn K (.ref f_Disk_part) = true)
    (a_Disk_append : PySem.W.findIn K (.ref K_Disk) "append" = some (some (.ref f_Disk_append))) (i_Disk_append : PySem.W.isFn K (.ref f_Disk_append) = true) (l_Disk_append : K.lookup f_Disk_append = some ⟨oc_Disk_append, od_Disk_append, .func (PySem.W.fnOf "append" "Disk.append" (defArgs s_Disk_append) (defBody s_Disk_append) (defScope s_Disk_append) .none kV_Disk_append dc_Disk_append pm_Disk_append an_Disk_append cd_Disk_append ct_Disk_append), sl_Disk_append⟩) (c_Disk_append : PySem.W.codeIn K cd_Disk_append "Disk.append" = true) (k_Disk_append : PySem.W.keepIn K (.ref f_Disk_append) = true)
    (a_Disk_cut : PySem.W.findIn K (.ref K_Disk) "cut" = some (some (.ref f_Disk_cut))) (i_Disk_cut : PySem.W.isFn K (.ref f_Disk_cut) = true) (l_Disk_cut : K.lookup f_Disk_cut = some ⟨oc_Disk_cut, od_Disk_cut, .func (PySem.W.fnOf "cut" "Disk.cut" (defArgs s_Disk_cut) (defBody s_Disk_cut) (defScope s_Disk_cut) .none kV_Disk_cut dc_Disk_cut pm_Disk_cut an_Disk_cut cd_Disk_cut ct_Disk_cut), sl_Disk_cut⟩) (c_Disk_cut : PySem.W.codeIn K cd_Disk_cut "Disk.cut" = true) (k_Disk_cut : PySem.W.keepIn K (.ref f_Disk_cut) = true)
    (ea_TesseraError : PySem.W.nsIn K mainGlobals "TesseraError" = some (some (.ref K_TesseraError)))
    (ega_TesseraError : PySem.W.findIn K (.ref K_TesseraError) "__getattribute__" = some (some (.builtin "BaseException.__getattribute__")))
    (egg_TesseraError : PySem.W.findIn K (.ref K_TesseraError) "__getattr__" = some none)
    (eex_TesseraError : PySem.W.subIn K (.ref K_TesseraError) (.type "BaseException") = some true)
    (ehd_TesseraError : PySem.W.hasDictIn K K_TesseraError = true)
    (eha_TesseraError : PySem.W.findIn K (.ref K_TesseraError) "__class__" = some (some (.builtin "object.__class__")))
    (ehm_TesseraError : PySem.W.mroIn K K_TesseraError (.type "object") = some true)
    (ety_TesseraError : PySem.W.typeIn K (.ref K_TesseraError) = some (.type "type"))
    (ea_NotAStore : PySem.W.nsIn K mainGlobals "NotAStore" = some (some (.ref K_NotAStore)))
    (ega_NotAStore : PySem.W.findIn K (.ref K_NotAStore) "__getattribute__" = some (some (.builtin "BaseException.__getattribute__")))
    (egg_NotAStore : PySem.W.findIn K (.ref K_NotAStore) "__getattr__" = some none)
    (eex_NotAStore : PySem.W.subIn K (.ref K_NotAStore) (.type "BaseException") = some true)
    (ehd_NotAStore : PySem.W.hasDictIn K K_NotAStore = true)
    (eha_NotAStore : PySem.W.findIn K (.ref K_NotAStore) "__class__" = some (some (.builtin "object.__class__")))
    (ehm_NotAStore : PySem.W.mroIn K K_NotAStore (.type "object") = some true)
    (ety_NotAStore : PySem.W.typeIn K (.ref K_NotAStore) = some (.type "type"))
    (egn : PySem.W.specialIn K (.builtin "object.__class__") "__get__" = some (some (.builtin "getset_descriptor.__get__"))) (egt : PySem.W.takesIn K (.builtin "object.__class__") = some true)
    (epx_NotAStore : PySem.W.excIn K K_NotAStore [.type "ValueError", .type "Exception", .type "BaseException", .type "object"] "ValueError.__new__" = true)
    (epk_NotAStore : PySem.W.keepIn K (.ref K_NotAStore) = true)
    (es_TesseraError_TesseraError : PySem.W.subIn K (.ref K_TesseraError) (.ref K_TesseraError) = some true)
    (es_TesseraError_NotAStore : PySem.W.subIn K (.ref K_TesseraError) (.ref K_NotAStore) = some false)
    (es_NotAStore_TesseraError : PySem.W.subIn K (.ref K_NotAStore) (.ref K_TesseraError) = some true)
    (es_NotAStore_NotAStore : PySem.W.subIn K (.ref K_NotAStore) (.ref K_NotAStore) = some true)
    (z_CHECK_BASE : PySem.W.nsIn K mainGlobals "CHECK_BASE" = some (some (.int 250 t_CHECK_BASE)))
    (z_CHECK_MODULUS : PySem.W.nsIn K mainGlobals "CHECK_MODULUS" = some (some (.int 62500 t_CHECK_MODULUS)))
    (z_FIRST_BYTE : PySem.W.nsIn K mainGlobals "FIRST_BYTE" = some (some (.int 255 t_FIRST_BYTE)))
    (z_HIGHEST_BYTE : PySem.W.nsIn K mainGlobals "HIGHEST_BYTE" = some (some (.int 249 t_HIGHEST_BYTE)))
    (z_LAST_BYTE : PySem.W.nsIn K mainGlobals "LAST_BYTE" = some (some (.int 254 t_LAST_BYTE)))
    (z_NUMBER_BASE : PySem.W.nsIn K mainGlobals "NUMBER_BASE" = some (some (.int 250 t_NUMBER_BASE)))
    (z_SEAL_LENGTH : PySem.W.nsIn K mainGlobals "SEAL_LENGTH" = some (some (.int 28 t_SEAL_LENGTH)))
    (z_bool : PySem.W.nsIn K mainGlobals "bool" = some none)
    (z_int : PySem.W.nsIn K mainGlobals "int" = some none)
    (z_isinstance : PySem.W.nsIn K mainGlobals "isinstance" = some none)
    (z_len : PySem.W.nsIn K mainGlobals "len" = some none)
    (z_list : PySem.W.nsIn K mainGlobals "list" = some none)
    (z_max : PySem.W.nsIn K mainGlobals "max" = some none)
    (z_min : PySem.W.nsIn K mainGlobals "min" = some none)
    (z_range : PySem.W.nsIn K mainGlobals "range" = some none)
    (z_sum : PySem.W.nsIn K mainGlobals "sum" = some none) : Top K mg :=
  { f_check_of := ⟨_, _, fun_mk (st := s_check_of) l_check_of c_check_of k_check_of, PySem.W.mg_of X G a_check_of, (fun_mk (st := s_check_of) l_check_of c_check_of k_check_of).binds (ps := ["values"]) fun _ _ _ _ _ _ us hl => match us, hl with | [_], _ => rfl⟩,
    f_read_eight := ⟨_, _, fun_mk (st := s_read_eight) l_read_eight c_read_eight k_read_eight, PySem.W.mg_of X G a_read_eight, (fun_mk (st := s_read_eight) l_read_eight c_read_eight k_read_eight).binds (ps := ["digits"]) fun _ _ _ _ _ _ us hl => match us, hl with | [_], _ => rfl⟩,
    f_is_whole_seal := ⟨_, _, fun_mk (st := s_is_whole_seal) l_is_whole_seal c_is_whole_seal k_is_whole_seal, PySem.W.mg_of X G a_is_whole_seal, (fun_mk (st := s_is_whole_seal) l_is_whole_seal c_is_whole_seal k_is_whole_seal).binds (ps := ["found"]) fun _ _ _ _ _ _ us hl => match us, hl with | [_], _ => rfl⟩,
    f_seal_at := ⟨_, _, fun_mk (st := s_seal_at) l_seal_at c_seal_at k_seal_at, PySem.W.mg_of X G a_seal_at, (fun_mk (st := s_seal_at) l_seal_at c_seal_at k_seal_at).binds (ps := ["disk", "address"]) fun _ _ _ _ _ _ us hl => match us, hl with | [_, _], _ => rfl⟩,
    f_last_seal := ⟨_, _, fun_mk (st := s_last_seal) l_last_seal c_last_seal k_last_seal, PySem.W.mg_of X G a_last_seal, (fun_mk (st := s_last_seal) l_last_seal c_last_seal k_last_seal).binds (ps := ["disk"]) fun _ _ _ _ _ _ us hl => match us, hl with | [_], _ => rfl⟩,
    f_make_ready := ⟨_, _, fun_mk (st := s_make_ready) l_make_ready c_make_ready k_make_ready, PySem.W.mg_of X G a_make_ready, (fun_mk (st := s_make_ready) l_make_ready c_make_ready k_make_ready).binds (ps := ["disk"]) fun _ _ _ _ _ _ us hl => match us, hl with | [_], _ => rfl⟩,
    f_is_doubled := ⟨_, _, fun_mk (st := s_is_doubled) l_is_doubled c_is_doubled k_is_doubled, PySem.W.mg_of X G a_is_doubled, (fun_mk (st := s_is_doubled) l_is_doubled c_is_doubled k_is_doubled).binds (ps := ["disk", "address"]) fun _ _ _ _ _ _ us hl => match us, hl with | [_, _], _ => rfl⟩,
    f__law_cell := ⟨_, _, fun_mk (st := s__law_cell) l__law_cell c__law_cell k__law_cell, PySem.W.mg_of X G a__law_cell, (fun_mk (st := s__law_cell) l__law_cell c__law_cell k__law_cell).binds (ps := ["script", "k"]) fun _ _ _ _ _ _ us hl => match us, hl with | [_, _], _ => rfl⟩,
    f__law_draws := ⟨_, _, fun_mk (st := s__law_draws) l__law_draws c__law_draws k__law_draws, PySem.W.mg_of X G a__law_draws, (fun_mk (st := s__law_draws) l__law_draws c__law_draws k__law_draws).binds (ps := ["cell", "count"]) fun _ _ _ _ _ _ us hl => match us, hl with | [_, _], _ => rfl⟩,
    f__law_is_int := ⟨_, _, fun_mk (st := s__law_is_int) l__law_is_int c__law_is_int k__law_is_int, PySem.W.mg_of X G a__law_is_int, (fun_mk (st := s__law_is_int) l__law_is_int c__law_is_int k__law_is_int).binds (ps := ["x"]) fun _ _ _ _ _ _ us hl => match us, hl with | [_], _ => rfl⟩,
    f__law_is_number := ⟨_, _, fun_mk (st := s__law_is_number) l__law_is_number c__law_is_number k__law_is_number, PySem.W.mg_of X G a__law_is_number, (fun_mk (st := s__law_is_number) l__law_is_number c__law_is_number k__law_is_number).binds (ps := ["x", "due"]) fun _ _ _ _ _ _ us hl => match us, hl with | [_, _], _ => rfl⟩,
    f__law_sum := ⟨_, _, fun_mk (st := s__law_sum) l__law_sum c__law_sum k__law_sum, PySem.W.mg_of X G a__law_sum, (fun_mk (st := s__law_sum) l__law_sum c__law_sum k__law_sum).binds (ps := ["values"]) fun _ _ _ _ _ _ us hl => match us, hl with | [_], _ => rfl⟩,
    f__law_record := ⟨_, _, fun_mk (st := s__law_record) l__law_record c__law_record k__law_record, PySem.W.mg_of X G a__law_record, (fun_mk (st := s__law_record) l__law_record c__law_record k__law_record).binds (ps := ["kind", "content"]) fun _ _ _ _ _ _ us hl => match us, hl with | [_, _], _ => rfl⟩,
    f__law_digits := ⟨_, _, fun_mk (st := s__law_digits) l__law_digits c__law_digits k__law_digits, PySem.W.mg_of X G a__law_digits, (fun_mk (st := s__law_digits) l__law_digits c__law_digits k__law_digits).binds (ps := ["number"]) fun _ _ _ _ _ _ us hl => match us, hl with | [_], _ => rfl⟩,
    f__law_seal := ⟨_, _, fun_mk (st := s__law_seal) l__law_seal c__law_seal k__law_seal, PySem.W.mg_of X G a__law_seal, (fun_mk (st := s__law_seal) l__law_seal c__law_seal k__law_seal).binds (ps := ["batch", "root"]) fun _ _ _ _ _ _ us hl => match us, hl with | [_, _], _ => rfl⟩,
    f__law_seal_in := ⟨_, _, fun_mk (st := s__law_seal_in) l__law_seal_in c__law_seal_in k__law_seal_in, PySem.W.mg_of X G a__law_seal_in, (fun_mk (st := s__law_seal_in) l__law_seal_in c__law_seal_in k__law_seal_in).binds (ps := ["values", "at"]) fun _ _ _ _ _ _ us hl => match us, hl with | [_, _], _ => rfl⟩,
    f__law_file := ⟨_, _, fun_mk (st := s__law_file) l__law_file c__law_file k__law_file, PySem.W.mg_of X G a__law_file, (fun_mk (st := s__law_file) l__law_file c__law_file k__law_file).binds (ps := ["cell"]) fun _ _ _ _ _ _ us hl => match us, hl with | [_], _ => rfl⟩,
    f__law_told := ⟨_, _, fun_mk (st := s__law_told) l__law_told c__law_told k__law_told, PySem.W.mg_of X G a__law_told, (fun_mk (st := s__law_told) l__law_told c__law_told k__law_told).binds (ps := ["values"]) fun _ _ _ _ _ _ us hl => match us, hl with | [_], _ => rfl⟩,
    f_law := ⟨_, _, fun_mk (st := s_law) l_law c_law k_law, PySem.W.mg_of X G a_law, (fun_mk (st := s_law) l_law c_law k_law).binds (ps := ["script"]) fun _ _ _ _ _ _ us hl => match us, hl with | [_], _ => rfl⟩,
    c_Disk := ⟨K_Disk, { cl := ⟨pg_K_Disk, hd_K_Disk, po_K_Disk, sa_K_Disk⟩, at_ := PySem.W.mg_of X G a_K_Disk, a__file := n_K_Disk__file, i_ := ⟨_, _, fun_mk (st := s_Disk___init__) l_Disk___init__ c_Disk___init__ k_Disk___init__, ⟨mk_K_Disk, a_Disk___init__, i_Disk___init__, kc_K_Disk⟩, (fun_mk (st := s_Disk___init__) l_Disk___init__ c_Disk___init__ k_Disk___init__).binds (ps := ["self", "values"]) fun _ _ _ _ _ _ us hl => match us, hl with | [_, _], _ => rfl⟩, m___len__ := ⟨_, _, fun_mk (st := s_Disk___len__) l_Disk___len__ c_Disk___len__ k_Disk___len__, ⟨a_Disk___len__, i_Disk___len__, k_Disk___len__⟩, (fun_mk (st := s_Disk___len__) l_Disk___len__ c_Disk___len__ k_Disk___len__).binds (ps := ["self"]) fun _ _ _ _ _ _ us hl => match us, hl with | [_], _ => rfl⟩, m_part := ⟨_, _, fun_mk (st := s_Disk_part) l_Disk_part c_Disk_part k_Disk_part, ⟨a_Disk_part, i_Disk_part, k_Disk_part⟩, (fun_mk (st := s_Disk_part) l_Disk_part c_Disk_part k_Disk_part).binds (ps := ["self", "address", "count"]) fun _ _ _ _ _ _ us hl => match us, hl with | [_, _, _], _ => rfl⟩, m_append := ⟨_, _, fun_mk (st := s_Disk_append) l_Disk_append c_Disk_append k_Disk_append, ⟨a_Disk_append, i_Disk_append, k_Disk_append⟩, (fun_mk (st := s_Disk_append) l_Disk_append c_Disk_append k_Disk_append).binds (ps := ["self", "values"]) fun _ _ _ _ _ _ us hl => match us, hl with | [_, _], _ => rfl⟩, m_cut := ⟨_, _, fun_mk (st := s_Disk_cut) l_Disk_cut c_Disk_cut k_Disk_cut, ⟨a_Disk_cut, i_Disk_cut, k_Disk_cut⟩, (fun_mk (st := s_Disk_cut) l_Disk_cut c_Disk_cut k_Disk_cut).binds (ps := ["self", "count"]) fun _ _ _ _ _ _ us hl => match us, hl with | [_, _], _ => rfl⟩ }⟩,
    errs := ⟨K_TesseraError, K_NotAStore, { c_TesseraError := ⟨PySem.W.mg_of X G ea_TesseraError, ⟨ega_TesseraError, egg_TesseraError, eex_TesseraError, ehd_TesseraError⟩, ⟨ega_TesseraError, egg_TesseraError, eex_TesseraError, ehd_TesseraError, eha_TesseraError, egn, egt, ehm_TesseraError⟩, ety_TesseraError⟩, c_NotAStore := ⟨PySem.W.mg_of X G ea_NotAStore, ⟨ega_NotAStore, egg_NotAStore, eex_NotAStore, ehd_NotAStore⟩, ⟨ega_NotAStore, egg_NotAStore, eex_NotAStore, ehd_NotAStore, eha_NotAStore, egn, egt, ehm_NotAStore⟩, ety_NotAStore⟩, p_NotAStore := ⟨epx_NotAStore, epk_NotAStore⟩, s_TesseraError_TesseraError := es_TesseraError_TesseraError, s_TesseraError_NotAStore := es_TesseraError_NotAStore, s_NotAStore_TesseraError := es_NotAStore_TesseraError, s_NotAStore_NotAStore := es_NotAStore_NotAStore }⟩,
    g_CHECK_BASE := ⟨_, PySem.W.mg_of X G z_CHECK_BASE⟩,
    g_CHECK_MODULUS := ⟨_, PySem.W.mg_of X G z_CHECK_MODULUS⟩,
    g_FIRST_BYTE := ⟨_, PySem.W.mg_of X G z_FIRST_BYTE⟩,
    g_HIGHEST_BYTE := ⟨_, PySem.W.mg_of X G z_HIGHEST_BYTE⟩,
    g_LAST_BYTE := ⟨_, PySem.W.mg_of X G z_LAST_BYTE⟩,
    g_NUMBER_BASE := ⟨_, PySem.W.mg_of X G z_NUMBER_BASE⟩,
    g_SEAL_LENGTH := ⟨_, PySem.W.mg_of X G z_SEAL_LENGTH⟩,
    b_bool := PySem.W.mg_none_of X G z_bool,
    b_int := PySem.W.mg_none_of X G z_int,
    b_isinstance := PySem.W.mg_none_of X G z_isinstance,
    b_len := PySem.W.mg_none_of X G z_len,
    b_list := PySem.W.mg_none_of X G z_list,
    b_max := PySem.W.mg_none_of X G z_max,
    b_min := PySem.W.mg_none_of X G z_min,
    b_range := PySem.W.mg_none_of X G z_range,
    b_sum := PySem.W.mg_none_of X G z_sum }
theorem law_mk {l : PySem.W.OpenLaw} {w : World} {K : PySem.W.Frag} {mg : Str → Option Value} {fa : Addr} {k : Nat} {sp : Sp} (hfa : mg "law" = some (.ref fa)) (T : Top K mg)
    (F : ∀ (base : Heap) (f : Addr) (fd : FuncData), Fun K "law" "law" s_law f fd → FnOk l.prog w K mg base CX0 k f fd ["script"] sp) :
    ∃ fd : FuncData, (∀ (s : Shared) (v : Value), BindsTo s fd ⟨[v], []⟩ [("script", v)]) ∧ ∀ base : Heap, K.In base → base.Ns mainGlobals mg → FnOk l.prog w K mg base CX0 k fa fd ["script"] sp := by
  obtain ⟨f, fd, FF, hm, hb⟩ := T.f_law.ex
  have e : f = fa := by rw [hm] at hfa; exact Value.ref.inj (Option.some.inj hfa)
  subst e
  have FF2 := FF
  obtain ⟨oc, od, kV, doc, pm, an, cdv, ct, osl, rfl, lk, hcd⟩ := FF2.ex
  exact ⟨_, fun s v => .of_eq rfl, fun base _ _ => F base f _ FF⟩
end My
open PySem PySem.W PyProof.Rows
set_option maxHeartbeats 0 in
theorem PySem.Challenge.cw_tessera_k36_whole_cut_batches_holds : PySem.Challenge.rw_tessera_k36_whole_cut_batches.Holds := by
  w_on; o_law; k_head; (case hw => w_witness2)
  k_fill
  refine L2.walk_ofB (l := PySem.Challenge.rw_tessera_k36_whole_cut_batches) (n := 63) (k := My.lawK) (x := "script") (CX := fun _ => L2.CX0) (sp := fun w => My.spLaw _) rfl (by decide) rfl ⟨rfl, by decide, by decide⟩ (fun w h Y => PySem.W.kIn_of Y) ?F (fun w H a ns hl hb _ hS => My.law_in hl hb hS) (fun _ _ _ _ _ h => h)
  case F =>
    intro w mg fa h KX G hmg
    refine' (fun T => My.law_mk hmg T (fun base f fd F => My.ok_law F T)) ?T
    refine' My.top_mk KX G ?a_check_of ?l_check_of ?c_check_of ?k_check_of ?a_read_eight ?l_read_eight ?c_read_eight ?k_read_eight ?a_is_whole_seal ?l_is_whole_seal ?c_is_whole_seal ?k_is_whole_seal ?a_seal_at ?l_seal_at ?c_seal_at ?k_seal_at ?a_last_seal ?l_last_seal ?c_last_seal ?k_last_seal ?a_make_ready ?l_make_ready ?c_make_ready ?k_make_ready ?a_is_doubled ?l_is_doubled ?c_is_doubled ?k_is_doubled ?a__law_cell ?l__law_cell ?c__law_cell ?k__law_cell ?a__law_draws ?l__law_draws ?c__law_draws ?k__law_draws ?a__law_is_int ?l__law_is_int ?c__law_is_int ?k__law_is_int ?a__law_is_number ?l__law_is_number ?c__law_is_number ?k__law_is_number ?a__law_sum ?l__law_sum ?c__law_sum ?k__law_sum ?a__law_record ?l__law_record ?c__law_record ?k__law_record ?a__law_digits ?l__law_digits ?c__law_digits ?k__law_digits ?a__law_seal ?l__law_seal ?c__law_seal ?k__law_seal ?a__law_seal_in ?l__law_seal_in ?c__law_seal_in ?k__law_seal_in ?a__law_file ?l__law_file ?c__law_file ?k__law_file ?a__law_told ?l__law_told ?c__law_told ?k__law_told ?a_law ?l_law ?c_law ?k_law ?a_K_Disk ?pg_K_Disk ?hd_K_Disk ?po_K_Disk ?sa_K_Disk ?n_K_Disk__file ?a_Disk___init__ ?i_Disk___init__ ?l_Disk___init__ ?c_Disk___init__ ?k_Disk___init__ ?mk_K_Disk ?kc_K_Disk ?a_Disk___len__ ?i_Disk___len__ ?l_Disk___len__ ?c_Disk___len__ ?k_Disk___len__ ?a_Disk_part ?i_Disk_part ?l_Disk_part ?c_Disk_part ?k_Disk_part ?a_Disk_append ?i_Disk_append ?l_Disk_append ?c_Disk_append ?k_Disk_append ?a_Disk_cut ?i_Disk_cut ?l_Disk_cut ?c_Disk_cut ?k_Disk_cut ?ea_TesseraError ?ega_TesseraError ?egg_TesseraError ?eex_TesseraError ?ehd_TesseraError ?eha_TesseraError ?ehm_TesseraError ?ety_TesseraError ?ea_NotAStore ?ega_NotAStore ?egg_NotAStore ?eex_NotAStore ?ehd_NotAStore ?eha_NotAStore ?ehm_NotAStore ?ety_NotAStore ?egn ?egt ?epx_NotAStore ?epk_NotAStore ?es_TesseraError_TesseraError ?es_TesseraError_NotAStore ?es_NotAStore_TesseraError ?es_NotAStore_NotAStore ?z_CHECK_BASE ?z_CHECK_MODULUS ?z_FIRST_BYTE ?z_HIGHEST_BYTE ?z_LAST_BYTE ?z_NUMBER_BASE ?z_SEAL_LENGTH ?z_bool ?z_int ?z_isinstance ?z_len ?z_list ?z_max ?z_min ?z_range ?z_sum
    (case a_check_of => k_is); (case l_check_of => k_is); (case c_check_of => k_is); (case k_check_of => k_is); (case a_read_eight => k_is); (case l_read_eight => k_is); (case c_read_eight => k_is); (case k_read_eight => k_is); (case a_is_whole_seal => k_is); (case l_is_whole_seal => k_is); (case c_is_whole_seal => k_is); (case k_is_whole_seal => k_is); (case a_seal_at => k_is); (case l_seal_at => k_is); (case c_seal_at => k_is); (case k_seal_at => k_is); (case a_last_seal => k_is); (case l_last_seal => k_is); (case c_last_seal => k_is); (case k_last_seal => k_is); (case a_make_ready => k_is); (case l_make_ready => k_is); (case c_make_ready => k_is); (case k_make_ready => k_is); (case a_is_doubled => k_is); (case l_is_doubled => k_is); (case c_is_doubled => k_is); (case k_is_doubled => k_is); (case a__law_cell => k_is); (case l__law_cell => k_is); (case c__law_cell => k_is); (case k__law_cell => k_is); (case a__law_draws => k_is); (case l__law_draws => k_is); (case c__law_draws => k_is); (case k__law_draws => k_is); (case a__law_is_int => k_is); (case l__law_is_int => k_is); (case c__law_is_int => k_is); (case k__law_is_int => k_is); (case a__law_is_number => k_is); (case l__law_is_number => k_is); (case c__law_is_number => k_is); (case k__law_is_number => k_is); (case a__law_sum => k_is); (case l__law_sum => k_is); (case c__law_sum => k_is); (case k__law_sum => k_is); (case a__law_record => k_is); (case l__law_record => k_is); (case c__law_record => k_is); (case k__law_record => k_is); (case a__law_digits => k_is); (case l__law_digits => k_is); (case c__law_digits => k_is); (case k__law_digits => k_is); (case a__law_seal => k_is); (case l__law_seal => k_is); (case c__law_seal => k_is); (case k__law_seal => k_is); (case a__law_seal_in => k_is); (case l__law_seal_in => k_is); (case c__law_seal_in => k_is); (case k__law_seal_in => k_is); (case a__law_file => k_is); (case l__law_file => k_is); (case c__law_file => k_is); (case k__law_file => k_is); (case a__law_told => k_is); (case l__law_told => k_is); (case c__law_told => k_is); (case k__law_told => k_is); (case a_law => k_is); (case l_law => k_is); (case c_law => k_is); (case k_law => k_is); (case a_K_Disk => k_is); (case pg_K_Disk => k_is); (case hd_K_Disk => k_is); (case po_K_Disk => k_is); (case sa_K_Disk => k_is); (case n_K_Disk__file => k_is); (case a_Disk___init__ => k_is); (case i_Disk___init__ => k_is); (case l_Disk___init__ => k_is); (case c_Disk___init__ => k_is); (case k_Disk___init__ => k_is); (case mk_K_Disk => k_is); (case kc_K_Disk => k_is); (case a_Disk___len__ => k_is); (case i_Disk___len__ => k_is); (case l_Disk___len__ => k_is); (case c_Disk___len__ => k_is); (case k_Disk___len__ => k_is); (case a_Disk_part => k_is); (case i_Disk_part => k_is); (case l_Disk_part => k_is); (case c_Disk_part => k_is); (case k_Disk_part => k_is); (case a_Disk_append => k_is); (case i_Disk_append => k_is); (case l_Disk_append => k_is); (case c_Disk_append => k_is); (case k_Disk_append => k_is); (case a_Disk_cut => k_is); (case i_Disk_cut => k_is); (case l_Disk_cut => k_is); (case c_Disk_cut => k_is); (case k_Disk_cut => k_is); (case ea_TesseraError => k_is); (case ega_TesseraError => k_is); (case egg_TesseraError => k_is); (case eex_TesseraError => k_is); (case ehd_TesseraError => k_is); (case eha_TesseraError => k_is); (case ehm_TesseraError => k_is); (case ety_TesseraError => k_is); (case ea_NotAStore => k_is); (case ega_NotAStore => k_is); (case egg_NotAStore => k_is); (case eex_NotAStore => k_is); (case ehd_NotAStore => k_is); (case eha_NotAStore => k_is); (case ehm_NotAStore => k_is); (case ety_NotAStore => k_is); (case egn => k_is); (case egt => k_is); (case epx_NotAStore => k_exc); (case epk_NotAStore => k_is); (case es_TesseraError_TesseraError => k_is); (case es_TesseraError_NotAStore => k_is); (case es_NotAStore_TesseraError => k_is); (case es_NotAStore_NotAStore => k_is); (case z_CHECK_BASE => k_is); (case z_CHECK_MODULUS => k_is); (case z_FIRST_BYTE => k_is); (case z_HIGHEST_BYTE => k_is); (case z_LAST_BYTE => k_is); (case z_NUMBER_BASE => k_is); (case z_SEAL_LENGTH => k_is); (case z_bool => k_is); (case z_int => k_is); (case z_isinstance => k_is); (case z_len => k_is); (case z_list => k_is); (case z_max => k_is); (case z_min => k_is); (case z_range => k_is); (case z_sum => k_is)


