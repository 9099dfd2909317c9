import PyProof.Rows.All
import Wide.All
import OpenK.AllK
import Wide.FinOn
import HandS.ForMost
import HandS.IsInst
import HandS.Evl
import HandS.Style
import HandS.Zip
import HandS.EndBits
import KE.GoesZip
import HandS.TupMul
import HandS.TupAny
import PySem.Challenge.RW_tessera_k11_selections_that_fit
set_option Elab.async false
set_option linter.all false
set_option maxRecDepth 100000
set_option maxHeartbeats 4000000
/-! Readings stepped forward over an abstract heap that a list of owned objects describes. -/
namespace RD
open PySem PySem.Spec PyProof.Rows L2

/-! ### the heap: H extends H0; the objects of L are new since H0 and stand apart -/
structure Own (H0 H : Hp) (L : List (Addr × HO)) : Prop where
  ex : Same H0 H
  fr : ∀ x ∈ L, H0 x.1 = none ∧ H x.1 = some x.2
  nd : (L.map (·.1)).Nodup
theorem Own.nil (H : Hp) : Own H H [] := ⟨Same.refl H, fun _ h => absurd h (by simp), List.nodup_nil⟩
theorem same_new {H : Hp} {p : Addr} {u : HO} (h : H p = none) : Same H (upd H p u) := fun b x e => by
  rw [upd_ne (ne_of_none e h)]
  exact e
section
variable {H0 H H' : Hp} {L : List (Addr × HO)} {p l : Addr} {u v : HO} {K : PySem.W.Frag}
theorem Own.mono (o : Own H0 H L) (e : Same H H') : Own H0 H' L := ⟨o.ex.trans e, fun x hx => ⟨(o.fr x hx).1, e _ _ (o.fr x hx).2⟩, o.nd⟩
theorem Own.add (o : Own H0 H L) (e : Same H H') (hp : H p = none) (hv : H' p = some u) : Own H0 H' ((p, u) :: L) := by
  refine ⟨o.ex.trans e, fun x hx => ?_, ?_⟩
  · rcases List.mem_cons.mp hx with rfl | hx
    · exact ⟨o.ex.free hp, hv⟩
    · exact ⟨(o.fr x hx).1, e _ _ (o.fr x hx).2⟩
  · rw [List.map_cons, List.nodup_cons]
    refine ⟨fun hm => ?_, o.nd⟩
    obtain ⟨x, hx, e1⟩ := List.mem_map.mp hm
    have := (o.fr x hx).2
    rw [e1] at this
    show False
    rw [hp] at this
    cases this
theorem Own.new (o : Own H0 H L) (hp : H p = none) : Own H0 (upd H p u) ((p, u) :: L) := o.add (same_new hp) hp upd_same
theorem Own.at (o : Own H0 H L) (i : Nat) (h : L[i]? = some (l, u)) : H l = some u := (o.fr _ (List.mem_of_getElem? h)).2
theorem Own.fresh (o : Own H0 H L) (i : Nat) (h : L[i]? = some (l, u)) : H0 l = none := (o.fr _ (List.mem_of_getElem? h)).1
theorem map_set_fst {α β : Type} : ∀ {L : List (α × β)} {i : Nat} {l : α} {u v : β}, L[i]? = some (l, u) → (L.set i (l, v)).map (·.1) = L.map (·.1)
  | [], _, _, _, _, h => by simp at h
  | x :: L, 0, l, u, v, h => by
    have e : x = (l, u) := Option.some.inj h
    subst e
    rfl
  | x :: L, i + 1, l, u, v, h => by
    show x.1 :: (L.set i (l, v)).map (·.1) = x.1 :: L.map (·.1)
    rw [map_set_fst (L := L) (i := i) (l := l) (u := u) (v := v) h]
theorem nodup_fst {α β : Type} : ∀ {L : List (α × β)} {i j : Nat} {l : α} {u v : β}, (L.map (·.1)).Nodup → L[i]? = some (l, u) → L[j]? = some (l, v) → i = j
  | L, i, j, l, u, v, hN, hi, hj => by
    refine nd_ix (l := L.map (·.1)) hN (x := l) ?_ ?_
    · rw [List.getElem?_map, hi]; rfl
    · rw [List.getElem?_map, hj]; rfl
/-- the object at l is changed; nothing else -/
theorem Own.chg (o : Own H0 H L) (i : Nat) (h : L[i]? = some (l, u)) (e : ∀ b x, b ≠ l → H b = some x → H' b = some x) (hv : H' l = some v) : Own H0 H' (L.set i (l, v)) := by
  refine ⟨fun b x hb => ?_, fun x hx => ?_, ?_⟩
  · exact e b x (ne_of_none hb (o.fresh i h)) (o.ex b x hb)
  · obtain ⟨j, hj⟩ := List.mem_iff_getElem?.mp hx
    by_cases hij : i = j
    · subst hij
      have hlt : i < L.length := (List.getElem?_eq_some_iff.mp h).1
      rw [List.getElem?_set_self hlt] at hj
      cases hj
      exact ⟨o.fresh i h, hv⟩
    · rw [List.getElem?_set_ne hij] at hj
      have hm := List.mem_of_getElem? hj
      have hne : x.1 ≠ l := fun z => hij (by
        have : L[j]? = some (l, x.2) := by rw [hj, ← z]
        exact nodup_fst o.nd h this)
      exact ⟨(o.fr x hm).1, e _ _ hne (o.fr x hm).2⟩
  · rw [map_set_fst h]
    exact o.nd
theorem Own.set (o : Own H0 H L) (i : Nat) (h : L[i]? = some (l, u)) : Own H0 (upd H l v) (L.set i (l, v)) :=
  o.chg i h (fun b x hb e => by rw [upd_ne hb]; exact e) upd_same
theorem Own.sub {L' : List (Addr × HO)} (o : Own H0 H L) (h : L'.Sublist L) : Own H0 H L' :=
  ⟨o.ex, fun x hx => o.fr x (h.subset hx), List.Sublist.nodup (h.map _) o.nd⟩
theorem Own.tl {x : Addr × HO} (o : Own H0 H (x :: L)) : Own H0 H L := o.sub (List.sublist_cons_self x L)
theorem Own.ne (o : Own H0 H L) {q : Addr} {i j : Nat} (hi : L[i]? = some (l, u)) (hj : L[j]? = some (q, v)) (h : i ≠ j) : l ≠ q := fun e => by
  subst e
  exact h (nodup_fst o.nd hi hj)
theorem Own.sqL (o : Own H0 H L) {xs : List V} (i : Nat) (h : L[i]? = some (l, .lst xs)) : SqL K H l xs := .inl (.inl (o.at i h))
theorem Own.sqT (o : Own H0 H L) {xs : List V} (i : Nat) (h : L[i]? = some (l, .tup xs)) : SqT K H l xs := .inl (.inl (o.at i h))
theorem Own.old (o : Own H0 H L) {xs : List V} (h : SqL K H0 l xs) : SqL K H l xs := o.ex.seq h
theorem same_seqT {xs : List V} (e : Same H H') (h : SqT K H l xs) : SqT K H' l xs := by
  rcases h with (h | ⟨o, h⟩) | h
  · exact .inl (.inl (e _ _ h))
  · exact .inl (.inr ⟨o, e _ _ h⟩)
  · exact .inr h
theorem Own.oldT (o : Own H0 H L) {xs : List V} (h : SqT K H0 l xs) : SqT K H l xs := same_seqT o.ex h
/-- start a new frame of ownership at H, giving up L -/
theorem Own.trans {H1 : Hp} {L1 : List (Addr × HO)} (o : Own H0 H L) (o1 : Own H H1 L1) : Own H0 H1 (L1 ++ L) := by
  refine ⟨o.ex.trans o1.ex, fun x hx => ?_, ?_⟩
  · rcases List.mem_append.mp hx with h | h
    · exact ⟨o.ex.free (o1.fr x h).1, (o1.fr x h).2⟩
    · exact ⟨(o.fr x h).1, o1.ex _ _ (o.fr x h).2⟩
  · rw [List.map_append, List.nodup_append]
    refine ⟨o1.nd, o.nd, fun a ha b hb e => ?_⟩
    subst e
    obtain ⟨x, hx, rfl⟩ := List.mem_map.mp ha
    obtain ⟨y, hy, e⟩ := List.mem_map.mp hb
    have h1 := (o1.fr x hx).1
    have h2 := (o.fr y hy).2
    rw [e, h1] at h2
    cases h2
end

/-! ### what an answer is -/
/-- a value that is no new object -/
def RetV (H : Hp) (Q : VK) (v : V) : Prop := ∀ H', Same H H' → Q v H'
/-- a new object -/
def RetO (H : Hp) (Q : VK) (u : HO) : Prop := ∀ H' p, Same H H' → H p = none → H' p = some u → Q (.ref p) H'
theorem RetO.mk {H0 H : Hp} {Q : VK} {u : HO} {L : List (Addr × HO)} {p : Addr} (q : RetO H0 Q u) (o : Own H0 H L) (i : Nat) (h : L[i]? = some (p, u)) : Q (.ref p) H := q H p o.ex (o.fresh i h) (o.at i h)
theorem RetV.mk {H0 H : Hp} {Q : VK} {v : V} {L : List (Addr × HO)} (q : RetV H0 Q v) (o : Own H0 H L) : Q v H := q H o.ex

/-! ### readings -/
def RBl (x : V) (H : Hp) (Q : Bool → Hp → Prop) : Prop := ∃ k, x = .bl k ∧ Q k H
def RPt (x : V) (H : Hp) (R : Option Int → Hp → Prop) : Prop := ∃ i, x = .int i ∧ R (some i) H
def RIf (c : Bool) (A B : Prop) : Prop := if c = true then A else B
def RNewL (xs : List V) (H : Hp) (Q : VK) : Prop := xs.length ≤ sizeLine ∧ ∀ p, H p = none → Q (.ref p) (upd H p (.lst xs))
def RNewT (xs : List V) (H : Hp) (Q : VK) : Prop := xs.length ≤ sizeLine ∧ ∀ p, H p = none → Q (.ref p) (upd H p (.tup xs))
section
variable {σ : L2.St} {H H0 : Hp} {Q : VK} {v x y : V} {ta tb te : TE} {t u : TT} {r : R2} {i j : Int} {D : Ends} {ts tz : TS} {g : TG} {K : PySem.W.Frag} {L : List (Addr × HO)}
theorem r_var {n : Nat} (h : σ[n]? = some (some v)) (q : Q v H) : tVar n σ H Q := ⟨v, h, q⟩
theorem r_c (q : Q v H) : tC v σ H Q := q
theorem r_op (q : ta σ H fun x H1 => tb σ H1 fun y H2 => r x y H2 Q) : tOp r ta tb σ H Q := q
theorem r_I0 {f : Int → Int → V} (q : Q (f i j) H) : rI0 f (.int i) (.int j) H Q := ⟨i, j, rfl, rfl, q⟩
theorem r_I {C : Int → Int → Prop} {f : Int → Int → V} (c : C i j) (q : Q (f i j) H) : rI C f (.int i) (.int j) H Q := ⟨i, j, rfl, rfl, c, q⟩
theorem r_un {f : V → Hp → VK → Prop} (q : ta σ H fun x H1 => f x H1 Q) : tUn f ta σ H Q := q
theorem r_U {f : Int → V} (q : Q (f i) H) : rU f (.int i) H Q := ⟨i, rfl, q⟩
theorem r_eqI (q : Q (.bl (decide (i = j))) H) : rEq (.int i) (.int j) H Q := ⟨rfl, by
  have e : decide ((V.int i) = .int j) = decide (i = j) := by simp
  rw [e]; exact q⟩
theorem r_neI (q : Q (.bl (!decide (i = j))) H) : rNe (.int i) (.int j) H Q := ⟨rfl, by
  have e : decide ((V.int i) = .int j) = decide (i = j) := by simp
  rw [e]; exact q⟩
theorem r_eqS {a b : Str} (q : Q (.bl (decide (a = b))) H) : rEq (.str a) (.str b) H Q := ⟨rfl, by
  have e : decide ((V.str a) = .str b) = decide (a = b) := by simp
  rw [e]; exact q⟩
theorem r_neS {a b : Str} (q : Q (.bl (!decide (a = b))) H) : rNe (.str a) (.str b) H Q := ⟨rfl, by
  have e : decide ((V.str a) = .str b) = decide (a = b) := by simp
  rw [e]; exact q⟩
theorem r_test {Q : Bool → Hp → Prop} (q : ta σ H fun x H' => RBl x H' Q) : tTest ta σ H Q := q
theorem r_tB {Q : Bool → Hp → Prop} (q : ta σ H fun x H' => RBl x H' Q) : tB ta σ H Q := q
theorem r_bl {Q : Bool → Hp → Prop} {b : Bool} (q : Q b H) : RBl (.bl b) H Q := ⟨b, rfl, q⟩
theorem r_and {Q : Bool → Hp → Prop} (q : t σ H fun c H1 => RIf c (u σ H1 Q) (Q false H1)) : tAnd t u σ H Q := q
theorem r_or {Q : Bool → Hp → Prop} (q : t σ H fun c H1 => RIf c (Q true H1) (u σ H1 Q)) : tOr t u σ H Q := q
theorem r_not {Q : Bool → Hp → Prop} (q : t σ H fun c H1 => Q (!c) H1) : tNot t σ H Q := q
theorem r_andV (q : ta σ H fun x H1 => RBl x H1 fun c H1 => RIf c (tb σ H1 Q) (Q (.bl false) H1)) : tAndV ta tb σ H Q := q
theorem r_orV (q : ta σ H fun x H1 => RBl x H1 fun c H1 => RIf c (Q (.bl true) H1) (tb σ H1 Q)) : tOrV ta tb σ H Q := q
theorem r_notV (q : ta σ H fun x H1 => RBl x H1 fun c H1 => Q (.bl (!c)) H1) : tNotV ta σ H Q := q
theorem r_ifE (q : t σ H fun c H1 => RIf c (ta σ H1 Q) (tb σ H1 Q)) : tIf t ta tb σ H Q := q
theorem r_seq (q : ts { D with nx := tz D } σ H) : tSeq ts tz D σ H := q
theorem r_asg (q : te σ H fun x H1 => g x σ H1 D.nx) : tAsg te g D σ H := q
theorem r_name {n : Nat} {R : L2.St → Hp → Prop} (q : R (σ.set n (some v)) H) : gName n v σ H R := q
theorem r_ifS (q : t σ H fun b H1 => RIf b (ts D σ H1) (tz D σ H1)) : tIfS t ts tz D σ H := q
theorem r_ret (q : te σ H D.rt) : tRet te D σ H := q
theorem r_retN (q : D.rt .non H) : tRetN D σ H := q
theorem r_drop (q : te σ H fun _ H1 => D.nx σ H1) : tDrop te D σ H := q
theorem r_next (q : D.nx σ H) : tNext D σ H := q
theorem r_break (q : D.bk σ H) : tBreak D σ H := q
theorem r_cont (q : D.ct σ H) : tCont D σ H := q
theorem r_nil {R : List V → Hp → Prop} (q : R [] H) : tNil σ H R := q
theorem r_cons {tr : TA} {R : List V → Hp → Prop} (q : te σ H fun x H1 => tr σ H1 fun xs H2 => R (x :: xs) H2) : tCons te tr σ H R := q
theorem r_tup {tr : TA} (q : tr σ H fun xs H1 => RNewT xs H1 Q) : tTup tr σ H Q := q
theorem r_lst {tr : TA} (q : tr σ H fun xs H1 => RNewL xs H1 Q) : tLst tr σ H Q := q
theorem r_CB {f : List V → Hp → VK → Prop} {tr : TA} (q : tr σ H fun vs H1 => f vs H1 Q) : tCB f tr σ H Q := q
theorem r_call {sp : Sp} {E : XK} {tr : TA} (q : tr σ H fun vs H1 => sp (vs ++ []) H1 Q E) : tCall sp [] E tr σ H Q := q
theorem r_sl {f : V → Option Int → Option Int → Hp → VK → Prop} {tl th : TO} (q : te σ H fun x H1 => tl σ H1 fun l H2 => th σ H2 fun u H3 => f x l u H3 Q) : tSl f te tl th σ H Q := q
theorem r_par {i j : Nat} {ta : TA} {D : Ends} (q : ta σ H fun vs H1 => ∃ v w, vs = [v, w] ∧ D.nx ((σ.set i (some v)).set j (some w)) H1) : tPar i j ta D σ H := q
theorem r_nopart {R : Option Int → Hp → Prop} (q : R none H) : tNoPart σ H R := q
theorem r_part {R : Option Int → Hp → Prop} (q : te σ H fun x H1 => RPt x H1 R) : tPart te σ H R := q
theorem r_pt {R : Option Int → Hp → Prop} (q : R (some i) H) : RPt (.int i) H R := ⟨i, rfl, q⟩
theorem r_aug {n : Nat} {ti : TIp} (h : σ[n]? = some (some x)) (q : te σ H fun y H1 => ti x y H1 fun z H2 => D.nx (σ.set n (some z)) H2) : tAug n te ti D σ H := ⟨x, h, q⟩
theorem r_ipI {f : Int → Int → Int} (q : Q (.int (f i j)) H) : ipI f (.int i) (.int j) H Q := ⟨i, j, rfl, rfl, q⟩
theorem r_set {to ti : TE} {s : TSet} {R : L2.St → Hp → Prop} (q : to σ H fun o H1 => ti σ H1 fun i H2 => s o i v H2 fun H3 => R σ H3) : gSub to ti s v σ H R := q

/-! ### branches -/
theorem rif {p : Prop} [Decidable p] {A B : Prop} (h1 : p → A) (h2 : ¬ p → B) : RIf (decide p) A B := by
  unfold RIf
  by_cases h : p
  · rw [if_pos (decide_eq_true h)]; exact h1 h
  · rw [if_neg (by simpa using h)]; exact h2 h
theorem rif_n {p : Prop} [Decidable p] {A B : Prop} (h1 : ¬ p → A) (h2 : p → B) : RIf (!decide p) A B := by
  unfold RIf
  by_cases h : p
  · rw [if_neg (by simpa using h)]; exact h2 h
  · rw [if_pos (by simpa using h)]; exact h1 h
theorem rif_t {A B : Prop} (h : A) : RIf true A B := by unfold RIf; rw [if_pos rfl]; exact h
theorem rif_f {A B : Prop} (h : B) : RIf false A B := by unfold RIf; rw [if_neg Bool.false_ne_true]; exact h
theorem rif_nt {A B : Prop} (h : B) : RIf (!true) A B := rif_f h
theorem rif_nf {A B : Prop} (h : A) : RIf (!false) A B := rif_t h
theorem rif_yes {p : Prop} [Decidable p] {A B : Prop} (hp : p) (h1 : A) : RIf (decide p) A B := rif (fun _ => h1) fun h => absurd hp h
theorem rif_no {p : Prop} [Decidable p] {A B : Prop} (hp : ¬ p) (h1 : B) : RIf (decide p) A B := rif (fun h => absurd h hp) fun _ => h1
theorem rif_nyes {p : Prop} [Decidable p] {A B : Prop} (hp : p) (h1 : B) : RIf (!decide p) A B := rif_n (fun h => absurd hp h) fun _ => h1
theorem rif_nno {p : Prop} [Decidable p] {A B : Prop} (hp : ¬ p) (h1 : A) : RIf (!decide p) A B := rif_n (fun _ => h1) fun h => absurd h hp
theorem rif_b {b : Bool} {A B : Prop} (h1 : b = true → A) (h2 : b = false → B) : RIf b A B := by
  cases b
  · exact rif_f (h2 rfl)
  · exact rif_t (h1 rfl)

/-! ### new objects -/
theorem sz100 {n : Nat} (h : n ≤ 10000000) : n ≤ sizeLine := Nat.le_trans h (by decide)
theorem sz_lt {n : Nat} (h : n < 10000000) : n < sizeLine := Nat.lt_of_lt_of_le h (by decide)
theorem r_newL {xs : List V} (o : Own H0 H L) (hz : xs.length ≤ 10000000) (k : ∀ p H', Own H0 H' ((p, .lst xs) :: L) → Q (.ref p) H') : RNewL xs H Q := ⟨sz100 hz, fun p hp => k p _ (o.new hp)⟩
theorem r_newT {xs : List V} (o : Own H0 H L) (hz : xs.length ≤ 10000000) (k : ∀ p H', Own H0 H' ((p, .tup xs) :: L) → Q (.ref p) H') : RNewT xs H Q := ⟨sz100 hz, fun p hp => k p _ (o.new hp)⟩

/-! ### lists -/
theorem r_ixL {p : Addr} {xs : List V} (h : SqL K H p xs) (ha : atI xs i = some v) (q : Q v H) : rIxL K (.ref p) (.int i) H Q := ⟨p, xs, i, v, rfl, rfl, h, ha, q⟩
theorem r_ixT {p : Addr} {xs : List V} (h : SqT K H p xs) (ha : atI xs i = some v) (q : Q v H) : rIxT K (.ref p) (.int i) H Q := ⟨p, xs, i, v, rfl, rfl, h, ha, q⟩
theorem r_slL {a : Addr} {xs : List V} {lo hi : Option Int} (o : Own H0 H L) (h : SqL K H a xs) (k : ∀ p H', Own H0 H' ((p, .lst (cutV xs lo hi)) :: L) → Q (.ref p) H') : rSlL K (.ref a) lo hi H Q := ⟨a, xs, rfl, h, fun p hp => k p _ (o.new hp)⟩
theorem r_cat {a b : Addr} {xs ys : List V} (o : Own H0 H L) (ha : H a = some (.lst xs)) (hb : H b = some (.lst ys)) (hz : xs.length + ys.length ≤ 10000000) (k : ∀ p H', Own H0 H' ((p, .lst (xs ++ ys)) :: L) → Q (.ref p) H') : rCat (.ref a) (.ref b) H Q :=
  ⟨a, b, xs, ys, rfl, rfl, ha, hb, sz100 hz, fun p hp => k p _ (o.new hp)⟩
theorem r_app {l : Addr} {xs : List V} (o : Own H0 H L) (n : Nat) (h : L[n]? = some (l, .lst xs)) (hz : xs.length < 10000000) (k : ∀ H', Own H0 H' (L.set n (l, .lst (xs ++ [y]))) → Q .non H') : rAppend (.ref l) [y] H Q :=
  ⟨l, xs, y, rfl, rfl, o.at n h, sz_lt hz, k _ (o.set n h)⟩
/-- l.append(e) as a statement's expression: the receiver's slot, the argument -/
theorem r_bm {T : String} {f : V → List V → Hp → VK → Prop} {tr : TA} {n : Nat} {l : Addr} (h : σ[n]? = some (some (.ref l))) (ht : tyV K T (.ref l) H) (q : tr σ H fun vs H2 => f (.ref l) vs H2 Q) : tBM K T f (tVar n) tr σ H Q := ⟨_, h, ht, q⟩
theorem ty_lst {l : Addr} {xs : List V} (h : H l = some (.lst xs)) : tyV K "list" (.ref l) H := .inl ⟨rfl, _, SqL.of h⟩
theorem r_setL {l : Addr} {xs : List V} {k : Nat} {R : Hp → Prop} (o : Own H0 H L) (n : Nat) (h : L[n]? = some (l, .lst xs)) (hj : ixN xs.length i = some k) (q : ∀ H', Own H0 H' (L.set n (l, .lst (xs.set k v))) → R H') : rSetL (.ref l) (.int i) v H R :=
  ⟨l, xs, i, k, rfl, rfl, o.at n h, hj, q _ (o.set n h)⟩
end

/-! ### isinstance, sums, == of lists -/
section
variable {σ : L2.St} {H H0 : Hp} {Q : VK} {v x y : V} {i j : Int} {K : PySem.W.Frag} {L : List (Addr × HO)}
theorem r_isi {T S : String} {b : Bool} (ht : TyX K H x (.type T)) (hk : kitB T S = some b) (q : Q (.bl b) H) : rIsi K [x, .ty S] H Q := ⟨x, .ty S, .type T, .type S, b, rfl, .ty S, ht, kit_ty hk, q⟩
theorem ty_int {i : Int} : TyX K H (.int i) (.type "int") := .base (.int i)
theorem ty_str {z : Str} : TyX K H (.str z) (.type "str") := .base (.str z)
theorem ty_non : TyX K H .non (.type "NoneType") := .base .non
theorem ty_list {l : Addr} {xs : List V} (h : H l = some (.lst xs)) : TyX K H (.ref l) (.type "list") := .base (.lst h)
theorem ty_tup {l : Addr} {xs : List V} (h : H l = some (.tup xs)) : TyX K H (.ref l) (.type "tuple") := .base (.tup h)
theorem r_sum {a : Addr} {ns : List Int} (h : SqL K H a (ns.map V.int)) (q : Q (.int ns.sum) H) : rSum K [.ref a] H Q := ⟨a, ns, rfl, h, q⟩
theorem dpAll_ints : ∀ ns : List Int, DpAll K H (ns.map V.int) (ns.map PyData.int)
  | [] => .nil
  | n :: ns => .cons (.int n) (dpAll_ints ns)
theorem dp_ints {a : Addr} {ns : List Int} (h : SqL K H a (ns.map V.int)) : Dp K H (.ref a) (.list (ns.map PyData.int)) := .lst h (dpAll_ints ns)
theorem dp_intsT {a : Addr} {ns : List Int} (h : SqT K H a (ns.map V.int)) : Dp K H (.ref a) (.tuple (ns.map PyData.int)) := .tup h (dpAll_ints ns)
end
/-! ### items -/
/-- the i-th of a list of ints -/
def gi (ns : List Int) (i : Int) : Int := ns.getD i.toNat 0
theorem at_map {α : Type} {f : α → V} {ns : List α} {i : Int} {x : α} (h0 : 0 ≤ i) (h : ns[i.toNat]? = some x) : atI (ns.map f) i = some (f x) := by
  obtain ⟨n, rfl⟩ := Int.eq_ofNat_of_zero_le h0
  refine atI_nat ?_
  have e : (Int.toNat (n : Int)) = n := rfl
  rw [e] at h
  rw [List.getElem?_map, h]
  rfl
theorem at_ints {ns : List Int} {i : Int} (h0 : 0 ≤ i) (h1 : i < ns.length) : atI (ns.map V.int) i = some (.int (gi ns i)) := by
  refine at_map h0 ?_
  unfold gi
  have : i.toNat < ns.length := by omega
  rw [List.getD_eq_getElem?_getD, List.getElem?_eq_getElem this]
  rfl
theorem gi_mem {ns : List Int} {i : Int} (h0 : 0 ≤ i) (h1 : i < ns.length) : gi ns i ∈ ns := by
  unfold gi
  have h2 : i.toNat < ns.length := by omega
  rw [List.getD_eq_getElem?_getD, List.getElem?_eq_getElem h2]
  exact List.getElem_mem h2

/-! ### equal lists of ints -/
theorem canLay_ints : ∀ ns : List Int, PyData.canLayAll0 (ns.map PyData.int) = true
  | [] => rfl
  | n :: ns => by
    show (PyData.canLay0 (.int n) && PyData.canLayAll0 (ns.map PyData.int)) = true
    rw [canLay_ints ns]
    rfl
theorem depth_ints : ∀ ns : List Int, PyData.depthAll (ns.map PyData.int) ≤ 1
  | [] => by decide
  | n :: ns => by
    have h := depth_ints ns
    show max (PyData.depth (.int n)) (PyData.depthAll (ns.map PyData.int)) ≤ 1
    exact Nat.max_le.mpr ⟨Nat.zero_le 1, h⟩
theorem shaped_ints (ns : List Int) : SeqAt.shaped (.list (ns.map PyData.int)) = true := by
  unfold SeqAt.shaped
  rw [Bool.and_eq_true]
  refine ⟨canLay_ints ns, decide_eq_true ?_⟩
  have h := depth_ints ns
  show PyData.depthAll (ns.map PyData.int) + 1 ≤ 64
  omega
theorem shaped_intsT (ns : List Int) : SeqAt.shaped (.tuple (ns.map PyData.int)) = true := by
  unfold SeqAt.shaped
  rw [Bool.and_eq_true]
  refine ⟨canLay_ints ns, decide_eq_true ?_⟩
  have h := depth_ints ns
  show PyData.depthAll (ns.map PyData.int) + 1 ≤ 64
  omega
theorem eqvAll_ints : ∀ ns ms : List Int, PyData.eqvAll (ns.map PyData.int) (ms.map PyData.int) = decide (ns = ms)
  | [], [] => by simp [PyData.eqvAll]
  | [], _ :: _ => by simp [PyData.eqvAll]
  | _ :: _, [] => by simp [PyData.eqvAll]
  | n :: ns, m :: ms => by
    show (PyData.eqv (.int n) (.int m) && PyData.eqvAll (ns.map PyData.int) (ms.map PyData.int)) = _
    rw [eqvAll_ints ns ms]
    simp [PyData.eqv, Bool.beq_eq_decide_eq]
section
variable {H : Hp} {Q : VK} {K : PySem.W.Frag} {a b : Addr} {ns ms : List Int}
theorem r_eqLL (h : SqL K H a (ns.map V.int)) (h2 : SqL K H b (ms.map V.int)) (q : Q (.bl (decide (ns = ms))) H) : rEqD K (.ref a) (.ref b) H Q :=
  ⟨_, _, dp_ints h, dp_ints h2, shaped_ints ns, shaped_ints ms, by
    have e : PyData.eqv (.list (ns.map PyData.int)) (.list (ms.map PyData.int)) = decide (ns = ms) := by rw [PyData.eqv]; exact eqvAll_ints ns ms
    rw [e]; exact q⟩
theorem r_neLL (h : SqL K H a (ns.map V.int)) (h2 : SqL K H b (ms.map V.int)) (q : Q (.bl (!decide (ns = ms))) H) : rNeD K (.ref a) (.ref b) H Q :=
  ⟨_, _, dp_ints h, dp_ints h2, shaped_ints ns, shaped_ints ms, by
    have e : PyData.eqv (.list (ns.map PyData.int)) (.list (ms.map PyData.int)) = decide (ns = ms) := by rw [PyData.eqv]; exact eqvAll_ints ns ms
    rw [e]; exact q⟩
theorem r_eqTT (h : SqT K H a (ns.map V.int)) (h2 : SqT K H b (ms.map V.int)) (q : Q (.bl (decide (ns = ms))) H) : rEqD K (.ref a) (.ref b) H Q :=
  ⟨_, _, dp_intsT h, dp_intsT h2, shaped_intsT ns, shaped_intsT ms, by
    have e : PyData.eqv (.tuple (ns.map PyData.int)) (.tuple (ms.map PyData.int)) = decide (ns = ms) := by rw [PyData.eqv]; exact eqvAll_ints ns ms
    rw [e]; exact q⟩
theorem r_eqSame (h : SqL K H a (ns.map V.int)) (h2 : SqL K H b (ns.map V.int)) (q : Q (.bl true) H) : rEqD K (.ref a) (.ref b) H Q := r_eqLL h h2 (by rw [decide_eq_true rfl]; exact q)
theorem r_neSame (h : SqL K H a (ns.map V.int)) (h2 : SqL K H b (ns.map V.int)) (q : Q (.bl false) H) : rNeD K (.ref a) (.ref b) H Q := r_neLL h h2 (by rw [decide_eq_true rfl]; exact q)
theorem r_ixI {i : Int} {p : Addr} (h : SqL K H p (ns.map V.int)) (h0 : 0 ≤ i) (h1 : i < ns.length) (q : Q (.int (gi ns i)) H) : rIxL K (.ref p) (.int i) H Q := r_ixL h (at_ints h0 h1) q
theorem r_ixqL {i : Int} {p : Addr} (h : SqL K H p (ns.map V.int)) (h0 : 0 ≤ i) (h1 : i < ns.length) (q : Q (.int (gi ns i)) H) : rIx K (.ref p) (.int i) H Q := .inl (r_ixL h (at_ints h0 h1) q)
theorem r_ixqT {i : Int} {p : Addr} (h : SqT K H p (ns.map V.int)) (h0 : 0 ≤ i) (h1 : i < ns.length) (q : Q (.int (gi ns i)) H) : rIx K (.ref p) (.int i) H Q := .inr (.inl (r_ixT h (at_ints h0 h1) q))
theorem r_ixIT {i : Int} {p : Addr} (h : SqT K H p (ns.map V.int)) (h0 : 0 ≤ i) (h1 : i < ns.length) (q : Q (.int (gi ns i)) H) : rIxT K (.ref p) (.int i) H Q := r_ixT h (at_ints h0 h1) q
/-- a written list (or one of unknown form) at a place in it -/
theorem r_ixM {i : Int} {p : Addr} {vs : List V} (h : SqL K H p vs) (h0 : 0 ≤ i) (h1 : i < vs.length) (q : ∀ v, v ∈ vs → atI vs i = some v → Q v H) : rIxL K (.ref p) (.int i) H Q := by
  obtain ⟨n, rfl⟩ := Int.eq_ofNat_of_zero_le h0
  have hn : n < vs.length := by omega
  have e : atI vs (n : Int) = some vs[n] := atI_nat (List.getElem?_eq_getElem hn)
  exact r_ixL h e (q _ (List.getElem_mem hn) e)
theorem r_ret1 {H0 : Hp} {L : List (Addr × HO)} {u : HO} (o : Own H0 H L) (k : ∀ p H', Own H0 H' ((p, u) :: L) → Q (.ref p) H') : RetO H Q u := fun H' p e f h => k p H' (o.add e f h)
theorem r_retvs {H0 : Hp} {L : List (Addr × HO)} {v : V} (o : Own H0 H L) (k : ∀ H', Same H H' → Own H0 H' L → Q v H') : RetV H Q v := fun H' e => k H' e (o.mono e)
theorem r_retv {H0 : Hp} {L : List (Addr × HO)} {v : V} (o : Own H0 H L) (k : ∀ H', Own H0 H' L → Q v H') : RetV H Q v := fun H' e => k H' (o.mono e)
end

/-! ### named relations -/
def rTupS (K : PySem.W.Frag) : List V → Hp → VK → Prop := fun xs H Q => ∃ p ys, xs = [.ref p] ∧ ((SqL K H p ys ∧ ∀ l, H l = none → Q (.ref l) (upd H l (.tup ys))) ∨ (SqT K H p ys ∧ Q (.ref p) H))
def rInt1 : List V → Hp → VK → Prop := fun xs H Q => (∃ i, xs = [.int i] ∧ Q (.int i) H) ∨ ∃ k, xs = [.bl k] ∧ Q (.int (if k then 1 else 0)) H
section
variable {H H0 : Hp} {Q : VK} {K : PySem.W.Frag} {L : List (Addr × HO)} {p : Addr} {xs : List V}
theorem r_len (h : SqL K H p xs) (q : Q (.int xs.length) H) : Evl.rLenS K [.ref p] H Q := ⟨p, xs, rfl, .inl h, q⟩
theorem r_lenT (h : SqT K H p xs) (q : Q (.int xs.length) H) : Evl.rLenS K [.ref p] H Q := ⟨p, xs, rfl, .inr h, q⟩
theorem r_list (o : Own H0 H L) (h : SqL K H p xs) (k : ∀ l H', Own H0 H' ((l, .lst xs) :: L) → Q (.ref l) H') : Evl.rListS K [.ref p] H Q := ⟨p, xs, rfl, .inl h, fun l hl => k l _ (o.new hl)⟩
theorem r_listT (o : Own H0 H L) (h : SqT K H p xs) (k : ∀ l H', Own H0 H' ((l, .lst xs) :: L) → Q (.ref l) H') : Evl.rListS K [.ref p] H Q := ⟨p, xs, rfl, .inr h, fun l hl => k l _ (o.new hl)⟩
theorem r_tupL (o : Own H0 H L) (h : SqL K H p xs) (k : ∀ l H', Own H0 H' ((l, .tup xs) :: L) → Q (.ref l) H') : rTupS K [.ref p] H Q := ⟨p, xs, rfl, .inl ⟨h, fun l hl => k l _ (o.new hl)⟩⟩
theorem r_int {i : Int} (q : Q (.int i) H) : rInt1 [.int i] H Q := .inl ⟨i, rfl, q⟩
theorem r_intB {b : Bool} (q : Q (.int (if b then 1 else 0)) H) : rInt1 [.bl b] H Q := .inr ⟨b, rfl, q⟩
end

/-! ### slices -/
theorem cut_hi (xs : List V) (n : Nat) : cutV xs none (some (n : Int)) = xs.take n := by
  unfold cutV
  rw [HT.sIx_none, HT.sIx_nat, List.drop_zero, Nat.sub_zero]
  rcases Nat.le_total n xs.length with h | h
  · rw [Nat.min_eq_left h]
  · rw [Nat.min_eq_right h, List.take_of_length_le (Nat.le_refl _), List.take_of_length_le h]
theorem cut_lo (xs : List V) (n : Nat) : cutV xs (some (n : Int)) none = xs.drop n := by
  unfold cutV
  rw [HT.sIx_none, HT.sIx_nat]
  rcases Nat.le_total n xs.length with h | h
  · rw [Nat.min_eq_left h]
    exact List.take_of_length_le (by rw [List.length_drop]; omega)
  · rw [Nat.min_eq_right h, List.drop_of_length_le h, List.drop_of_length_le (Nat.le_refl _)]
    simp
theorem cut_both (xs : List V) (a b : Nat) : cutV xs (some (a : Int)) (some (b : Int)) = (xs.drop a).take (b - a) := by
  unfold cutV
  rw [HT.sIx_nat, HT.sIx_nat]
  rcases Nat.le_total a xs.length with h | h
  · rw [Nat.min_eq_left h]
    rcases Nat.le_total b xs.length with h2 | h2
    · rw [Nat.min_eq_left h2]
    · rw [Nat.min_eq_right h2, List.take_of_length_le (by rw [List.length_drop]; omega), List.take_of_length_le (by rw [List.length_drop]; omega)]
  · rw [Nat.min_eq_right h, List.drop_of_length_le h, List.drop_of_length_le (Nat.le_refl _)]
    simp
theorem cut_all (xs : List V) : cutV xs none none = xs := by
  unfold cutV
  rw [HT.sIx_none, HT.sIx_none]
  simp

/-! ### loops -/
def RFor (J : It) (g : TG) (tb : TS) (D : Ends) (σ : L2.St) (H : Hp) : Prop := ∃ W : Nat → Nat → L2.St → Hp → Prop, (∃ m, W 0 m σ H) ∧ ∀ i m σ H, W i m σ H →
    (J.stop i H ∧ D.nx σ H) ∨ (J.go i H ∧ ∃ N : L2.St → Hp → Prop, (∀ σ' H', N σ' H' → ∃ m', m' < m ∧ W (i + 1) m' σ' H') ∧ ∀ x H', J.yld i H x H' → g x σ H' fun σ2 H2 => tb { D with nx := N, ct := N, bk := D.nx } σ2 H2)
section
variable {σ : L2.St} {H H0 : Hp} {Q : VK} {v x y : V} {ta tb te tl : TE} {t u : TT} {i j : Int} {D : Ends} {ts tz : TS} {g : TG} {K : PySem.W.Frag} {L : List (Addr × HO)} {tr : TA} {wi : TI}
theorem r_for (q : wi σ H fun J H1 => RFor J g ts D σ H1) : tFor wi g ts D σ H := q
theorem r_rng1 {R : It → Hp → Prop} (q : tr σ H fun vs H1 => ∃ j : Int, vs = [.int j] ∧ -(2 ^ 62) ≤ j ∧ j < 2 ^ 62 ∧ R (Itr 0 j.toNat) H1) : iRng1 tr σ H R := q
theorem r_rng2 {R : It → Hp → Prop} (q : tr σ H fun vs H1 => ∃ i j : Int, vs = [.int i, .int j] ∧ (-(2 ^ 62) ≤ i ∧ i < 2 ^ 62 ∧ -(2 ^ 62) ≤ j ∧ j < 2 ^ 62) ∧ R (Itr i (j - i).toNat) H1) : iRng2 tr σ H R := q
theorem r_rng3 {R : It → Hp → Prop} (q : tr σ H fun vs H1 => ∃ (i j c : Int) (n : Nat), vs = [.int i, .int j, .int c] ∧ RgC i j c n ∧ R (Itc i c n) H1) : iRng3 tr σ H R := q
theorem r_iL {R : It → Hp → Prop} (q : tl σ H fun x H1 => ∃ a, x = .ref a ∧ (∃ xs, SqL K H1 a xs) ∧ R (Itl K a) H1) : iList K tl σ H R := q
theorem r_iT {R : It → Hp → Prop} (q : tl σ H fun x H1 => ∃ a, x = .ref a ∧ (∃ xs, SqT K H1 a xs) ∧ R (Itt K a) H1) : iTup K tl σ H R := q
/-- for k in range(j): behind the argument's reading -/
theorem forR1 {n : Nat} {s : Nat} (hn : j = (n : Int)) (hb : j < 2 ^ 62) (Pv : Nat → L2.St → Hp → Prop) (h0 : Pv 0 σ H)
    (hs : ∀ i σ H, i < n → Pv i σ H → ts { D with nx := Pv (i + 1), ct := Pv (i + 1), bk := D.nx } (σ.set s (some (.int (i : Int)))) H) (hd : ∀ σ H, Pv n σ H → D.nx σ H) :
    ∃ k : Int, [V.int j] = [.int k] ∧ -(2 ^ 62) ≤ k ∧ k < 2 ^ 62 ∧ RFor (Itr 0 k.toNat) (gName s) ts D σ H := by
  refine ⟨j, rfl, by omega, hb, ?_⟩
  have e : j.toNat = n := by omega
  rw [e]
  refine for_range (lo := 0) (n := n) Pv h0 (fun i σ H hi p => ?_) hd
  have e0 : (0 : Int) + (i : Int) = (i : Int) := Int.zero_add _
  show gName s (.int ((0 : Int) + (i : Int))) σ H _
  rw [e0]
  exact hs i σ H hi p
/-- for k in range(i, j) -/
theorem forR2 {n s : Nat} (hn : (j - i).toNat = n) (hb : -(2 ^ 62) ≤ i ∧ i < 2 ^ 62 ∧ -(2 ^ 62) ≤ j ∧ j < 2 ^ 62) (Pv : Nat → L2.St → Hp → Prop) (h0 : Pv 0 σ H)
    (hs : ∀ k σ H, k < n → Pv k σ H → ts { D with nx := Pv (k + 1), ct := Pv (k + 1), bk := D.nx } (σ.set s (some (.int (i + (k : Int))))) H) (hd : ∀ σ H, Pv n σ H → D.nx σ H) :
    ∃ i' j' : Int, [V.int i, V.int j] = [.int i', .int j'] ∧ (-(2 ^ 62) ≤ i' ∧ i' < 2 ^ 62 ∧ -(2 ^ 62) ≤ j' ∧ j' < 2 ^ 62) ∧ RFor (Itr i' (j' - i').toNat) (gName s) ts D σ H := by
  refine ⟨i, j, rfl, hb, ?_⟩
  rw [hn]
  exact for_range (lo := i) (n := n) Pv h0 (fun k σ H hi p => hs k σ H hi p) hd
theorem forR3 {c : Int} {n s : Nat} (hc : RgC i j c n) (Pv : Nat → L2.St → Hp → Prop) (h0 : Pv 0 σ H)
    (hs : ∀ k σ H, k < n → Pv k σ H → ts { D with nx := Pv (k + 1), ct := Pv (k + 1), bk := D.nx } (σ.set s (some (.int (i + (k : Nat) * c)))) H) (hd : ∀ σ H, Pv n σ H → D.nx σ H) :
    ∃ (i' j' c' : Int) (n' : Nat), [V.int i, V.int j, V.int c] = [.int i', .int j', .int c'] ∧ RgC i' j' c' n' ∧ RFor (Itc i' c' n') (gName s) ts D σ H :=
  ⟨i, j, c, n, rfl, hc, for_rangeC (lo := i) (c := c) (n := n) Pv h0 (fun k σ H hi p => hs k σ H hi p) hd⟩
/-- for x in l: behind the reading of l -/
theorem forL {a : Addr} {xs : List V} (h : SqL K H a xs) (Pv : Nat → L2.St → Hp → Prop) (h0 : Pv 0 σ H) (hl : ∀ i σ H, i ≤ xs.length → Pv i σ H → SqL K H a xs)
    (hs : ∀ i x σ H, xs[i]? = some x → Pv i σ H → g x σ H fun σ2 H2 => ts { D with nx := Pv (i + 1), ct := Pv (i + 1), bk := D.nx } σ2 H2) (hd : ∀ σ H, Pv xs.length σ H → D.nx σ H) :
    ∃ a', V.ref a = .ref a' ∧ (∃ xs, SqL K H a' xs) ∧ RFor (Itl K a') g ts D σ H := ⟨a, rfl, ⟨xs, h⟩, for_list (K := K) (a := a) (xs := xs) Pv h0 hl hs hd⟩
theorem forT {a : Addr} {xs : List V} (h : SqT K H a xs) (Pv : Nat → L2.St → Hp → Prop) (h0 : Pv 0 σ H) (hl : ∀ i σ H, i ≤ xs.length → Pv i σ H → SqT K H a xs)
    (hs : ∀ i x σ H, xs[i]? = some x → Pv i σ H → g x σ H fun σ2 H2 => ts { D with nx := Pv (i + 1), ct := Pv (i + 1), bk := D.nx } σ2 H2) (hd : ∀ σ H, Pv xs.length σ H → D.nx σ H) :
    ∃ a', V.ref a = .ref a' ∧ (∃ xs, SqT K H a' xs) ∧ RFor (Itt K a') g ts D σ H := ⟨a, rfl, ⟨xs, h⟩, for_tup (K := K) (a := a) (xs := xs) Pv h0 hl hs hd⟩
/-- while -/
def RWh (c : TT) (tb : TS) (D : Ends) (σ : L2.St) (H : Hp) : Prop := tWhile c tb D σ H
theorem whileB {c : TT} (Pv : Nat → L2.St → Hp → Prop) (m : Nat) (h0 : Pv m σ H)
    (hs : ∀ m σ H, Pv m σ H → c σ H fun b H1 => RIf b (∃ N : L2.St → Hp → Prop, (∀ σ' H', N σ' H' → ∃ m', m' < m ∧ Pv m' σ' H') ∧ ts { D with nx := N, ct := N, bk := D.nx } σ H1) (D.nx σ H1)) : tWhile c ts D σ H :=
  ⟨Pv, ⟨m, h0⟩, hs⟩
/-- the body's end in such a loop: a smaller number and the word again -/
theorem wh_turn {Pv : Nat → L2.St → Hp → Prop} {m : Nat} (h : ts { D with nx := fun σ' H' => ∃ m', m' < m ∧ Pv m' σ' H', ct := fun σ' H' => ∃ m', m' < m ∧ Pv m' σ' H', bk := D.nx } σ H) :
    ∃ N : L2.St → Hp → Prop, (∀ σ' H', N σ' H' → ∃ m', m' < m ∧ Pv m' σ' H') ∧ ts { D with nx := N, ct := N, bk := D.nx } σ H := ⟨_, fun _ _ h => h, h⟩

/-! ### comprehensions -/
def RLc (J : It) (g : TG) (tt : TT) (te : TE) (vs : List Nat) (σ : L2.St) (H1 : Hp) (Q : VK) : Prop := ∀ D, H1 D = none → ∃ W : Nat → Nat → Hp → Prop, (∃ m, W 0 m (upd H1 D (.lst []))) ∧ ∀ i m H, W i m H →
  (J.stop i H ∧ Q (.ref D) H) ∨ (J.go i H ∧ ∃ Nx : Hp → Prop, (∀ H', Nx H' → ∃ m', m' < m ∧ W (i + 1) m' H') ∧ ∀ x H', J.yld i H x H' → g x (wipe σ vs) H' fun σ2 H2 => wipe σ2 vs = wipe σ vs ∧ tt σ2 H2 fun b H3 =>
    if b = true then te σ2 H3 fun y H4 => ∃ acc, H4 D = some (.lst acc) ∧ acc.length < sizeLine ∧ Nx (upd H4 D (.lst (acc ++ [y]))) else Nx H3)
theorem r_lc {tt : TT} {vs : List Nat} (q : wi σ H fun J H1 => RLc J g tt te vs σ H1 Q) : tLc wi g tt te vs σ H Q := q
/-- what a turn of a comprehension without an if is to reach -/
theorem lc_turn {H' : Hp} {zs ys : List V} {P : Addr} {k : Nat} {y : V} {σ2 : L2.St} (o : Own H0 H' ((P, .lst (ys.take k)) :: L)) (hy : ys[k]? = some y) (hz : ys.length ≤ 10000000)
    (he : ∀ Q : VK, RetV H' Q y → te σ2 H' Q) :
    tYes σ2 H' fun b H3 => if b = true then te σ2 H3 fun y H4 => ∃ acc, H4 P = some (.lst acc) ∧ acc.length < sizeLine ∧ Own H0 (upd H4 P (.lst (acc ++ [y]))) ((P, .lst (ys.take (k + 1))) :: L) else Own H0 H3 ((P, .lst (ys.take (k + 1))) :: L) := by
  refine iteT (B := Own H0 H' ((P, .lst (ys.take (k + 1))) :: L)) (he _ fun H4 s4 => ?_)
  have o4 := o.mono s4
  have hk := (List.getElem?_eq_some_iff.mp hy).1
  refine ⟨ys.take k, o4.at 0 rfl, sz_lt (by rw [List.length_take]; omega), ?_⟩
  have o5 := o4.set (v := .lst (ys.take k ++ [y])) 0 rfl
  have e : ys.take (k + 1) = ys.take k ++ [y] := by rw [List.take_add_one, hy]; rfl
  rw [e]
  exact o5
/-- [e for x in range(n)], e no new object -/
theorem lcR1 {n s : Nat} {vs : List Nat} (ys : List V) (hy : ys.length = n) (o : Own H0 H L) (hn : j = (n : Int)) (hz : n ≤ 10000000) (hw : ∀ x, wipe ((wipe σ vs).set s (some x)) vs = wipe σ vs)
    (he : ∀ (i : Nat) (y : V) (p : Addr) (zs : List V) (H' : Hp) (Q : VK), i < n → ys[i]? = some y → Own H0 H' ((p, .lst zs) :: L) → RetV H' Q y → te ((wipe σ vs).set s (some (.int (i : Int)))) H' Q)
    (k : ∀ p H', Own H0 H' ((p, .lst ys) :: L) → Q (.ref p) H') :
    ∃ k : Int, [V.int j] = [.int k] ∧ -(2 ^ 62) ≤ k ∧ k < 2 ^ 62 ∧ RLc (Itr 0 k.toNat) (gName s) tYes te vs σ H Q := by
  refine ⟨j, rfl, by omega, by omega, fun P hP => ?_⟩
  have e : j.toNat = n := by omega
  rw [e]
  refine lc_range (lo := 0) (n := n) (fun i H' => Own H0 H' ((P, .lst (ys.take i)) :: L)) (o.new hP) (fun i H' hi p => ?_) (fun H' p => k P H' (by rw [List.take_of_length_le (by omega)] at p; exact p))
  have e0 : (0 : Int) + (i : Int) = (i : Int) := Int.zero_add _
  rw [e0]
  have hlt : i < ys.length := by omega
  refine ⟨hw _, ?_⟩
  exact lc_turn (zs := []) p (List.getElem?_eq_getElem hlt) (by omega) fun Q q => he i _ P _ H' Q hi (List.getElem?_eq_getElem hlt) p q
/-- [e for x in xs], e no new object -/
theorem lcL {a : Addr} {xs : List V} {s : Nat} {vs : List Nat} (ys : List V) (hy : ys.length = xs.length) (o : Own H0 H L) (h : ∀ H' p zs, Own H0 H' ((p, .lst zs) :: L) → SqL K H' a xs) (h1 : SqL K H a xs) (hz : xs.length ≤ 10000000) (hw : ∀ x, wipe ((wipe σ vs).set s (some x)) vs = wipe σ vs)
    (he : ∀ (i : Nat) (x y : V) (p : Addr) (zs : List V) (H' : Hp) (Q : VK), xs[i]? = some x → ys[i]? = some y → Own H0 H' ((p, .lst zs) :: L) → RetV H' Q y → te ((wipe σ vs).set s (some x)) H' Q)
    (k : ∀ p H', Own H0 H' ((p, .lst ys) :: L) → Q (.ref p) H') :
    ∃ a', V.ref a = .ref a' ∧ (∃ xs, SqL K H a' xs) ∧ RLc (Itl K a') (gName s) tYes te vs σ H Q := by
  refine ⟨a, rfl, ⟨xs, h1⟩, fun P hP => ?_⟩
  refine lc_list (K := K) (a := a) (xs := xs) (fun i H' => Own H0 H' ((P, .lst (ys.take i)) :: L)) (o.new hP) (fun i H' _ p => h H' _ _ p) (fun i x H' hi p => ?_) (fun H' p => k P H' (by rw [List.take_of_length_le (by omega)] at p; exact p))
  have hlt : i < ys.length := by have := (List.getElem?_eq_some_iff.mp hi).1; omega
  refine ⟨hw _, ?_⟩
  exact lc_turn (zs := []) p (List.getElem?_eq_getElem hlt) (by omega) fun Q q => he i x _ P _ H' Q hi (List.getElem?_eq_getElem hlt) p q
end
/-! ### comprehensions of ints -/
def mapR (n : Nat) (f : Nat → Int) : List Int := (List.range n).map f
theorem mapR_len (n : Nat) (f : Nat → Int) : (mapR n f).length = n := by unfold mapR; rw [List.length_map, List.length_range]
theorem mapR_mem {n : Nat} {f : Nat → Int} {x : Int} (h : x ∈ mapR n f) : ∃ k, k < n ∧ x = f k := by
  obtain ⟨k, hk, e⟩ := List.mem_map.mp h
  exact ⟨k, List.mem_range.mp hk, e.symm⟩
theorem mapR_get {n k : Nat} {f : Nat → Int} (h : k < n) : (mapR n f)[k]? = some (f k) := by
  unfold mapR
  rw [List.getElem?_map, List.getElem?_range h]
  rfl
theorem mapR_ext {n : Nat} {f g : Nat → Int} (h : ∀ k, k < n → f k = g k) : mapR n f = mapR n g := by
  unfold mapR
  exact List.map_congr_left fun k hk => h k (List.mem_range.mp hk)
theorem RetV.here {H : Hp} {Q : VK} {v : V} (q : RetV H Q v) : Q v H := q H (Same.refl H)
section
variable {σ : L2.St} {H H0 : Hp} {Q : VK} {te : TE} {j : Int} {K : PySem.W.Frag} {L : List (Addr × HO)}
theorem lcR1I {n s : Nat} {vs : List Nat} (f : Nat → Int) (o : Own H0 H L) (hn : j = (n : Int)) (hz : n ≤ 10000000) (hw : ∀ x, wipe ((wipe σ vs).set s (some x)) vs = wipe σ vs)
    (he : ∀ (i : Nat) (p : Addr) (zs : List V) (H' : Hp) (Q : VK), i < n → Own H0 H' ((p, .lst zs) :: L) → RetV H' Q (.int (f i)) → te ((wipe σ vs).set s (some (.int (i : Int)))) H' Q)
    (k : ∀ p H', Own H0 H' ((p, .lst ((mapR n f).map V.int)) :: L) → Q (.ref p) H') :
    ∃ k : Int, [V.int j] = [.int k] ∧ -(2 ^ 62) ≤ k ∧ k < 2 ^ 62 ∧ RLc (Itr 0 k.toNat) (gName s) tYes te vs σ H Q := by
  refine lcR1 ((mapR n f).map V.int) (by rw [List.length_map, mapR_len]) o hn hz hw (fun i y p zs H' Q hi hy o' q => ?_) k
  rw [List.getElem?_map, mapR_get hi] at hy
  cases hy
  exact he i p zs H' Q hi o' q
theorem lcLI {a : Addr} {ns : List Int} {s : Nat} {vs : List Nat} (f : Int → Int) (o : Own H0 H L) (h : ∀ H' p zs, Own H0 H' ((p, .lst zs) :: L) → SqL K H' a (ns.map V.int)) (h1 : SqL K H a (ns.map V.int)) (hz : ns.length ≤ 10000000) (hw : ∀ x, wipe ((wipe σ vs).set s (some x)) vs = wipe σ vs)
    (he : ∀ (i : Nat) (x : Int) (p : Addr) (zs : List V) (H' : Hp) (Q : VK), x ∈ ns → Own H0 H' ((p, .lst zs) :: L) → RetV H' Q (.int (f x)) → te ((wipe σ vs).set s (some (.int x))) H' Q)
    (k : ∀ p H', Own H0 H' ((p, .lst ((ns.map f).map V.int)) :: L) → Q (.ref p) H') :
    ∃ a', V.ref a = .ref a' ∧ (∃ xs, SqL K H a' xs) ∧ RLc (Itl K a') (gName s) tYes te vs σ H Q := by
  refine lcL ((ns.map f).map V.int) (by rw [List.length_map, List.length_map, List.length_map]) o h h1 (by rw [List.length_map]; exact hz) hw (fun i x y p zs H' Q hx hy o' q => ?_) k
  rw [List.getElem?_map] at hx
  rw [List.getElem?_map, List.getElem?_map] at hy
  cases e : ns[i]? with
  | none => rw [e] at hx; cases hx
  | some z =>
    rw [e] at hx hy
    cases hx
    cases hy
    exact he i z p zs H' Q (List.mem_of_getElem? e) o' q
end
section
variable {H0 H : Hp} {L : List (Addr × HO)} {x y z u v : Addr × HO}
theorem Own.pick1 (o : Own H0 H L) (i : Nat) (hi : L[i]? = some x) : Own H0 H [x] := ⟨o.ex, fun q hq => by rw [List.mem_singleton.mp hq]; exact o.fr _ (List.mem_of_getElem? hi), by simp⟩
theorem Own.cons_of (o : Own H0 H L) {L' : List (Addr × HO)} (o' : Own H0 H L') (hx : x ∈ L) (hn : ∀ q ∈ L', q.1 ≠ x.1) : Own H0 H (x :: L') :=
  ⟨o.ex, fun q hq => by
    rcases List.mem_cons.mp hq with rfl | hq
    · exact o.fr _ hx
    · exact o'.fr _ hq, by
    rw [List.map_cons, List.nodup_cons]
    refine ⟨fun hm => ?_, o'.nd⟩
    obtain ⟨q, hq, e⟩ := List.mem_map.mp hm
    exact hn q hq e⟩
theorem Own.nei (o : Own H0 H L) {i j : Nat} (hi : L[i]? = some x) (hj : L[j]? = some y) (h : i ≠ j) : x.1 ≠ y.1 := fun e => h (nodup_fst (l := x.1) (u := x.2) (v := y.2) o.nd hi (by rw [hj, e]))
theorem Own.pick2 (o : Own H0 H L) (i j : Nat) (hij : i ≠ j) (hi : L[i]? = some x) (hj : L[j]? = some y) : Own H0 H [x, y] :=
  o.cons_of (o.pick1 j hj) (List.mem_of_getElem? hi) fun q hq => by rw [List.mem_singleton.mp hq]; exact (o.nei hi hj hij).symm
theorem Own.pick3 (o : Own H0 H L) (i j k : Nat) (h : i ≠ j ∧ i ≠ k ∧ j ≠ k) (hi : L[i]? = some x) (hj : L[j]? = some y) (hk : L[k]? = some z) : Own H0 H [x, y, z] :=
  o.cons_of (o.pick2 j k h.2.2 hj hk) (List.mem_of_getElem? hi) fun q hq => by
    rcases List.mem_cons.mp hq with rfl | hq
    · exact (o.nei hi hj h.1).symm
    · rw [List.mem_singleton.mp hq]; exact (o.nei hi hk h.2.1).symm
theorem Own.pick4 (o : Own H0 H L) (i j k l : Nat) (h : i ≠ j ∧ i ≠ k ∧ i ≠ l ∧ j ≠ k ∧ j ≠ l ∧ k ≠ l) (hi : L[i]? = some x) (hj : L[j]? = some y) (hk : L[k]? = some z) (hl : L[l]? = some u) : Own H0 H [x, y, z, u] :=
  o.cons_of (o.pick3 j k l h.2.2.2 hj hk hl) (List.mem_of_getElem? hi) fun q hq => by
    rcases List.mem_cons.mp hq with rfl | hq
    · exact (o.nei hi hj h.1).symm
    · rcases List.mem_cons.mp hq with rfl | hq
      · exact (o.nei hi hk h.2.1).symm
      · rw [List.mem_singleton.mp hq]; exact (o.nei hi hl h.2.2.1).symm
end

/-! ### tuples stand -/
def Stp (H H' : Hp) : Prop := ∀ a xs, Rd H a (.tup xs) → Rd H' a (.tup xs)
theorem Stp.refl (H : Hp) : Stp H H := fun _ _ h => h
theorem Stp.trans {H H1 H2 : Hp} (a : Stp H H1) (b : Stp H1 H2) : Stp H H2 := fun x xs h => b x xs (a x xs h)
theorem Stp.of {H H' : Hp} (e : Same H H') : Stp H H' := fun a xs h => by
  rcases h with h | ⟨o, h⟩
  · exact .inl (e _ _ h)
  · exact .inr ⟨o, e _ _ h⟩
theorem Stp.set {H : Hp} {l : Addr} {xs : List V} {u : HO} (h : H l = some (.lst xs)) : Stp H (upd H l u) := fun a ys r => by
  have hne : a ≠ l := by
    rintro rfl
    rcases r with r | ⟨o, r⟩ <;> rw [h] at r <;> cases r
  rcases r with r | ⟨o, r⟩
  · exact .inl (by rw [upd_ne hne]; exact r)
  · exact .inr ⟨o, by rw [upd_ne hne]; exact r⟩
theorem Stp.sq {K : PySem.W.Frag} {H H' : Hp} {a : Addr} {xs : List V} (e : Stp H H') (h : SqT K H a xs) : SqT K H' a xs := by
  rcases h with h | h
  · exact .inl (e _ _ h)
  · exact .inr h
/-! ### comprehensions with a test -/
theorem lc_turnF {H0 H H' : Hp} {L : List (Addr × HO)} {te : TE} {tt : TT} {zs : List V} {P : Addr} {o1 : Option V} {σ2 : L2.St} (o : Own H0 H' ((P, .lst zs) :: L)) (s : Stp H H') (hz : zs.length < 10000000)
    (ht : ∀ Q : Bool → Hp → Prop, (∀ H2, Same H' H2 → Q o1.isSome H2) → tt σ2 H' Q) (he : ∀ y H2, o1 = some y → Same H' H2 → ∀ Q : VK, RetV H2 Q y → te σ2 H2 Q) :
    tt σ2 H' fun b H3 => if b = true then te σ2 H3 fun y H4 => ∃ acc, H4 P = some (.lst acc) ∧ acc.length < sizeLine ∧ (Own H0 (upd H4 P (.lst (acc ++ [y]))) ((P, .lst (zs ++ o1.toList)) :: L) ∧ Stp H (upd H4 P (.lst (acc ++ [y])))) else (Own H0 H3 ((P, .lst (zs ++ o1.toList)) :: L) ∧ Stp H H3) := by
  refine ht _ fun H2 s2 => ?_
  have o2 := o.mono s2
  cases e : o1 with
  | none =>
    show Own H0 H2 ((P, .lst (zs ++ [])) :: L) ∧ Stp H H2
    rw [List.append_nil]
    exact ⟨o2, s.trans (.of s2)⟩
  | some y =>
    refine iteT (B := Own H0 H2 ((P, .lst (zs ++ [y])) :: L) ∧ Stp H H2) (he y H2 e s2 _ fun H4 s4 => ?_)
    have o4 := o2.mono s4
    exact ⟨zs, o4.at 0 rfl, sz_lt hz, o4.set (v := .lst (zs ++ [y])) 0 rfl, (s.trans ((Stp.of s2).trans (.of s4))).trans (Stp.set (o4.at 0 rfl))⟩
theorem fm_take {α β : Type} {xs : List α} {sel : α → Option β} {i : Nat} {x : α} (h : xs[i]? = some x) : (xs.take (i + 1)).filterMap sel = (xs.take i).filterMap sel ++ (sel x).toList := by
  rw [List.take_add_one, h, List.filterMap_append]
  congr 1
theorem fm_le {α β : Type} (xs : List α) (sel : α → Option β) : (xs.filterMap sel).length ≤ xs.length := List.length_filterMap_le sel xs
section
variable {σ : L2.St} {H H0 : Hp} {Q : VK} {te : TE} {tt : TT} {j : Int} {K : PySem.W.Frag} {L : List (Addr × HO)}
/-- [e for x in xs if t], what it gives by the item alone -/
theorem lcGL {a : Addr} {xs : List V} {g : TG} {vs : List Nat} (sel : V → Option V) (o : Own H0 H L) (h : ∀ H' p zs, Own H0 H' ((p, .lst zs) :: L) → SqL K H' a xs) (h1 : SqL K H a xs) (hz : xs.length < 10000000)
    (he : ∀ (i : Nat) (x : V) (p : Addr) (zs : List V) (H' : Hp) (R : L2.St → Hp → Prop), xs[i]? = some x → Own H0 H' ((p, .lst zs) :: L) → Stp H H' →
      (∀ σ2, (∀ H2, Same H' H2 → wipe σ2 vs = wipe σ vs) → (∀ Q : Bool → Hp → Prop, (∀ H2, Same H' H2 → Q (sel x).isSome H2) → tt σ2 H' Q) → (∀ y H2, sel x = some y → Same H' H2 → ∀ Q : VK, RetV H2 Q y → te σ2 H2 Q) → R σ2 H') → g x (wipe σ vs) H' R)
    (k : ∀ p H', Stp H H' → Own H0 H' ((p, .lst (xs.filterMap sel)) :: L) → Q (.ref p) H') :
    ∃ a', V.ref a = .ref a' ∧ (∃ xs, SqL K H a' xs) ∧ RLc (Itl K a') g tt te vs σ H Q := by
  refine ⟨a, rfl, ⟨xs, h1⟩, fun P hP => ?_⟩
  refine lc_list (K := K) (a := a) (xs := xs) (fun i H' => Own H0 H' ((P, .lst ((xs.take i).filterMap sel)) :: L) ∧ Stp H H') ⟨o.new hP, .of (same_new hP)⟩ (fun i H' _ p => h H' _ _ p.1) (fun i x H' hi p => ?_) (fun H' p => k P H' p.2 (by have p := p.1; rw [List.take_of_length_le (Nat.le_refl _)] at p; exact p))
  refine he i x P _ H' _ hi p.1 p.2 fun σ2 hw ht hv => ⟨hw H' (Same.refl _), ?_⟩
  rw [fm_take hi]
  refine lc_turnF p.1 p.2 ?_ ht hv
  have h2 := fm_le (xs.take i) sel
  rw [List.length_take] at h2
  omega
theorem lcGT {a : Addr} {xs : List V} {g : TG} {vs : List Nat} (sel : V → Option V) (o : Own H0 H L) (h : ∀ H' p zs, Own H0 H' ((p, .lst zs) :: L) → SqT K H' a xs) (h1 : SqT K H a xs) (hz : xs.length < 10000000)
    (he : ∀ (i : Nat) (x : V) (p : Addr) (zs : List V) (H' : Hp) (R : L2.St → Hp → Prop), xs[i]? = some x → Own H0 H' ((p, .lst zs) :: L) → Stp H H' →
      (∀ σ2, (∀ H2, Same H' H2 → wipe σ2 vs = wipe σ vs) → (∀ Q : Bool → Hp → Prop, (∀ H2, Same H' H2 → Q (sel x).isSome H2) → tt σ2 H' Q) → (∀ y H2, sel x = some y → Same H' H2 → ∀ Q : VK, RetV H2 Q y → te σ2 H2 Q) → R σ2 H') → g x (wipe σ vs) H' R)
    (k : ∀ p H', Stp H H' → Own H0 H' ((p, .lst (xs.filterMap sel)) :: L) → Q (.ref p) H') :
    ∃ a', V.ref a = .ref a' ∧ (∃ xs, SqT K H a' xs) ∧ RLc (Itt K a') g tt te vs σ H Q := by
  refine ⟨a, rfl, ⟨xs, h1⟩, fun P hP => ?_⟩
  refine lc_tup (K := K) (a := a) (xs := xs) (fun i H' => Own H0 H' ((P, .lst ((xs.take i).filterMap sel)) :: L) ∧ Stp H H') ⟨o.new hP, .of (same_new hP)⟩ (fun i H' _ p => h H' _ _ p.1) (fun i x H' hi p => ?_) (fun H' p => k P H' p.2 (by have p := p.1; rw [List.take_of_length_le (Nat.le_refl _)] at p; exact p))
  refine he i x P _ H' _ hi p.1 p.2 fun σ2 hw ht hv => ⟨hw H' (Same.refl _), ?_⟩
  rw [fm_take hi]
  refine lc_turnF p.1 p.2 ?_ ht hv
  have h2 := fm_le (xs.take i) sel
  rw [List.length_take] at h2
  omega
/-- .. over range(n) -/
theorem lcGR {n s : Nat} {vs : List Nat} (sel : Nat → Option V) (o : Own H0 H L) (hn : j = (n : Int)) (hz : n < 10000000) (hw : ∀ x, wipe ((wipe σ vs).set s (some x)) vs = wipe σ vs)
    (ht : ∀ (i : Nat) (p : Addr) (zs : List V) (H' : Hp) (Q : Bool → Hp → Prop), i < n → Own H0 H' ((p, .lst zs) :: L) → Stp H H' → (∀ H2, Same H' H2 → Q (sel i).isSome H2) → tt ((wipe σ vs).set s (some (.int (i : Int)))) H' Q)
    (he : ∀ (i : Nat) (y : V) (p : Addr) (zs : List V) (H' : Hp) (Q : VK), i < n → sel i = some y → Own H0 H' ((p, .lst zs) :: L) → Stp H H' → RetV H' Q y → te ((wipe σ vs).set s (some (.int (i : Int)))) H' Q)
    (k : ∀ p H', Stp H H' → Own H0 H' ((p, .lst ((List.range n).filterMap sel)) :: L) → Q (.ref p) H') :
    ∃ k : Int, [V.int j] = [.int k] ∧ -(2 ^ 62) ≤ k ∧ k < 2 ^ 62 ∧ RLc (Itr 0 k.toNat) (gName s) tt te vs σ H Q := by
  refine ⟨j, rfl, by omega, by omega, fun P hP => ?_⟩
  have e : j.toNat = n := by omega
  rw [e]
  refine lc_range (lo := 0) (n := n) (fun i H' => Own H0 H' ((P, .lst ((List.range i).filterMap sel)) :: L) ∧ Stp H H') ⟨o.new hP, .of (same_new hP)⟩ (fun i H' hi p => ?_) (fun H' p => k P H' p.2 p.1)
  have e0 : (0 : Int) + (i : Int) = (i : Int) := Int.zero_add _
  rw [e0]
  refine ⟨hw _, ?_⟩
  have e1 : (List.range (i + 1)).filterMap sel = (List.range i).filterMap sel ++ (sel i).toList := by
    rw [List.range_succ, List.filterMap_append]
    congr 1
  rw [e1]
  refine lc_turnF p.1 p.2 ?_ (fun Q q => ht i P _ H' Q hi p.1 p.2 q) (fun y H2 hy s2 Q q => he i y P _ H2 Q hi hy (p.1.mono s2) (p.2.trans (.of s2)) q)
  have h2 := fm_le (List.range i) sel
  rw [List.length_range] at h2
  omega
end
/-- ints chosen and mapped -/
def selI (p : Int → Bool) (f : Int → V) : V → Option V
  | .int x => if p x then some (f x) else none
  | _ => none
theorem fm_ints (p : Int → Bool) (f : Int → V) : ∀ ns : List Int, (ns.map V.int).filterMap (selI p f) = (ns.filter p).map f
  | [] => rfl
  | n :: ns => by
    show List.filterMap (selI p f) (V.int n :: ns.map V.int) = _
    have e : selI p f (V.int n) = if p n then some (f n) else none := rfl
    rw [List.filterMap_cons, List.filter_cons, fm_ints p f ns, e]
    cases p n <;> rfl
section
variable {σ : L2.St} {H H0 : Hp} {Q : VK} {te : TE} {tt : TT} {K : PySem.W.Frag} {L : List (Addr × HO)}
theorem lcLIF {a : Addr} {ns : List Int} {s : Nat} {vs : List Nat} (p : Int → Bool) (f : Int → V) (o : Own H0 H L) (h : ∀ H' p zs, Own H0 H' ((p, .lst zs) :: L) → SqL K H' a (ns.map V.int)) (h1 : SqL K H a (ns.map V.int)) (hz : ns.length < 10000000) (hw : ∀ x, wipe ((wipe σ vs).set s (some x)) vs = wipe σ vs)
    (ht : ∀ (x : Int) (q : Addr) (zs : List V) (H' : Hp) (Q : Bool → Hp → Prop), x ∈ ns → Own H0 H' ((q, .lst zs) :: L) → (∀ H2, Same H' H2 → Q (p x) H2) → tt ((wipe σ vs).set s (some (.int x))) H' Q)
    (he : ∀ (x : Int) (q : Addr) (zs : List V) (H' : Hp) (Q : VK), x ∈ ns → p x = true → Own H0 H' ((q, .lst zs) :: L) → RetV H' Q (f x) → te ((wipe σ vs).set s (some (.int x))) H' Q)
    (k : ∀ q H', Own H0 H' ((q, .lst ((ns.filter p).map f)) :: L) → Q (.ref q) H') :
    ∃ a', V.ref a = .ref a' ∧ (∃ xs, SqL K H a' xs) ∧ RLc (Itl K a') (gName s) tt te vs σ H Q := by
  refine lcGL (selI p f) o h h1 (by rw [List.length_map]; exact hz) (fun i v q zs H' R hi o' _ r => ?_) (fun q H' _ o' => k q H' (by rw [fm_ints] at o'; exact o'))
  rw [List.getElem?_map] at hi
  cases e : ns[i]? with
  | none => rw [e] at hi; cases hi
  | some x =>
    rw [e] at hi
    cases hi
    have hx := List.mem_of_getElem? e
    refine r _ (fun _ _ => hw _) (fun Q qq => ht x q zs H' Q hx o' fun H2 s2 => ?_) fun y H2 hy s2 Q qq => ?_
    · have z := qq H2 s2
      have e2 : (selI p f (V.int x)).isSome = p x := by show (if p x then some (f x) else none).isSome = p x; cases p x <;> rfl
      rw [e2] at z
      exact z
    · have hy2 : (if p x then some (f x) else none) = some y := hy
      cases hp : p x with
      | false => rw [hp] at hy2; cases hy2
      | true =>
        rw [hp] at hy2
        cases hy2
        exact he x q zs H2 Q hx hp (o'.mono s2) qq
theorem lcTIF {a : Addr} {ns : List Int} {s : Nat} {vs : List Nat} (p : Int → Bool) (f : Int → V) (o : Own H0 H L) (h : ∀ H' p zs, Own H0 H' ((p, .lst zs) :: L) → SqT K H' a (ns.map V.int)) (h1 : SqT K H a (ns.map V.int)) (hz : ns.length < 10000000) (hw : ∀ x, wipe ((wipe σ vs).set s (some x)) vs = wipe σ vs)
    (ht : ∀ (x : Int) (q : Addr) (zs : List V) (H' : Hp) (Q : Bool → Hp → Prop), x ∈ ns → Own H0 H' ((q, .lst zs) :: L) → (∀ H2, Same H' H2 → Q (p x) H2) → tt ((wipe σ vs).set s (some (.int x))) H' Q)
    (he : ∀ (x : Int) (q : Addr) (zs : List V) (H' : Hp) (Q : VK), x ∈ ns → p x = true → Own H0 H' ((q, .lst zs) :: L) → RetV H' Q (f x) → te ((wipe σ vs).set s (some (.int x))) H' Q)
    (k : ∀ q H', Own H0 H' ((q, .lst ((ns.filter p).map f)) :: L) → Q (.ref q) H') :
    ∃ a', V.ref a = .ref a' ∧ (∃ xs, SqT K H a' xs) ∧ RLc (Itt K a') (gName s) tt te vs σ H Q := by
  refine lcGT (selI p f) o h h1 (by rw [List.length_map]; exact hz) (fun i v q zs H' R hi o' _ r => ?_) (fun q H' _ o' => k q H' (by rw [fm_ints] at o'; exact o'))
  rw [List.getElem?_map] at hi
  cases e : ns[i]? with
  | none => rw [e] at hi; cases hi
  | some x =>
    rw [e] at hi
    cases hi
    have hx := List.mem_of_getElem? e
    refine r _ (fun _ _ => hw _) (fun Q qq => ht x q zs H' Q hx o' fun H2 s2 => ?_) fun y H2 hy s2 Q qq => ?_
    · have z := qq H2 s2
      have e2 : (selI p f (V.int x)).isSome = p x := by show (if p x then some (f x) else none).isSome = p x; cases p x <;> rfl
      rw [e2] at z
      exact z
    · have hy2 : (if p x then some (f x) else none) = some y := hy
      cases hp : p x with
      | false => rw [hp] at hy2; cases hy2
      | true =>
        rw [hp] at hy2
        cases hy2
        exact he x q zs H2 Q hx hp (o'.mono s2) qq
/-- without a test -/
theorem lcTIV {a : Addr} {ns : List Int} {s : Nat} {vs : List Nat} (f : Int → V) (o : Own H0 H L) (h : ∀ H' p zs, Own H0 H' ((p, .lst zs) :: L) → SqT K H' a (ns.map V.int)) (h1 : SqT K H a (ns.map V.int)) (hz : ns.length < 10000000) (hw : ∀ x, wipe ((wipe σ vs).set s (some x)) vs = wipe σ vs)
    (he : ∀ (x : Int) (q : Addr) (zs : List V) (H' : Hp) (Q : VK), x ∈ ns → Own H0 H' ((q, .lst zs) :: L) → RetV H' Q (f x) → te ((wipe σ vs).set s (some (.int x))) H' Q)
    (k : ∀ q H', Own H0 H' ((q, .lst (ns.map f)) :: L) → Q (.ref q) H') :
    ∃ a', V.ref a = .ref a' ∧ (∃ xs, SqT K H a' xs) ∧ RLc (Itt K a') (gName s) tYes te vs σ H Q :=
  lcTIF (fun _ => true) f o h h1 hz hw (fun x q zs H' Q _ _ r => r H' (Same.refl _)) (fun x q zs H' Q hx _ o' r => he x q zs H' Q hx o' r) (fun q H' o' => k q H' (by rw [List.filter_eq_self.mpr (fun _ _ => rfl)] at o'; exact o'))
end

/-! ### constants reckoned, chains, all, any, bools -/
theorem pe_powC {X : Cx} {a b c : Int} {j1 j2 : Nat} {p1 p2 pos : Pos} (hc : CPow a b) (h : a ^ b.toNat = c) : PE X (.BinOp (.Constant (.int a) j1 p1) .Pow (.Constant (.int b) j2 p2) pos) (tC (.int c)) :=
  ⟨fun pins s σ H Q I h0 => (pe_op op_pow pe_int pe_int).run pins s σ H Q I (show rI CPow (fun i j => .int (i ^ j.toNat)) (.int a) (.int b) H Q from ⟨a, b, rfl, rfl, hc, by show Q (.int (a ^ b.toNat)) H; rw [h]; exact h0⟩)⟩
section
variable {σ : L2.St} {H : Hp} {Q : VK} {ta tb tc : TE} {K : PySem.W.Frag} {i j k : Int}
theorem r_chain {r r' : R2} (q : ta σ H fun x H1 => tb σ H1 fun y H2 => r x y H2 fun z H3 => RBl z H3 fun k H3 => RIf k (tc σ H3 fun w' H4 => r' y w' H4 Q) (Q (.bl false) H3)) : tChain r r' ta tb tc σ H Q := q
theorem r_all {a : Addr} {bs : List Bool} (h : SqL K H a (bs.map V.bl)) (q : Q (.bl (bs.all id)) H) : rAll K [.ref a] H Q := ⟨a, bs, rfl, h, q⟩
theorem r_any {a : Addr} {bs : List Bool} (h : SqL K H a (bs.map V.bl)) (q : Q (.bl (bs.any id)) H) : rAny K [.ref a] H Q := ⟨a, bs, rfl, h, q⟩
theorem r_isB {a b : Bool} (q : Q (.bl (decide (a = b))) H) : rIsB (.bl a) (.bl b) H Q := ⟨a, b, rfl, rfl, q⟩
end

/-! ### items from the end -/
theorem at_neg {ns : List Int} {d : Nat} (h0 : 0 < d) (h1 : d ≤ ns.length) : atI (ns.map V.int) (-(d : Int)) = some (.int (gi ns ((ns.length : Int) - (d : Int)))) := by
  unfold atI ixN
  rw [List.length_map, if_neg (by omega), if_pos (by omega)]
  show (ns.map V.int)[(-(d : Int) + (ns.length : Int)).toNat]? = _
  rw [show (-(d : Int) + (ns.length : Int)).toNat = ns.length - d by omega, List.getElem?_map, List.getElem?_eq_getElem (show ns.length - d < ns.length by omega)]
  unfold gi
  rw [show ((ns.length : Int) - (d : Int)).toNat = ns.length - d by omega, List.getD_eq_getElem?_getD, List.getElem?_eq_getElem (show ns.length - d < ns.length by omega)]
  rfl
theorem ix_neg {n d : Nat} (h0 : 0 < d) (h1 : d ≤ n) : ixN n (-(d : Int)) = some (n - d) := by
  unfold ixN
  rw [if_neg (by omega), if_pos (by omega)]
  congr 1
  omega
theorem fm_filter {α β : Type} (p : α → Bool) (f : α → β) : ∀ l : List α, l.filterMap (fun k => if p k then some (f k) else none) = (l.filter p).map f
  | [] => rfl
  | x :: l => by
    rw [List.filterMap_cons, List.filter_cons, fm_filter p f l]
    cases p x <;> rfl
/-! ### lists of ints cut and glued -/
theorem gi_nat {ns : List Int} {k : Nat} (h : k < ns.length) : gi ns (k : Int) = ns[k] := by
  unfold gi
  rw [List.getD_eq_getElem?_getD, show ((k : Int)).toNat = k from rfl, List.getElem?_eq_getElem h]
  rfl
theorem take_drop_sum {ns : List Int} {k : Nat} {z : Int} (h : k < ns.length) : (ns.take k ++ [z] ++ ns.drop (k + 1)).sum = ns.sum - gi ns k + z := by
  have e : ns.sum = (ns.take k ++ [ns[k]] ++ ns.drop (k + 1)).sum := by
    congr 1
    rw [List.append_assoc, List.singleton_append, List.getElem_cons_drop, List.take_append_drop]
  rw [e, gi_nat h]
  simp only [List.sum_append, List.sum_cons, List.sum_nil]
  omega
theorem map_cut3 {ns : List Int} {k : Nat} {z : Int} : ((ns.map V.int).take k ++ [V.int z]) ++ (ns.map V.int).drop (k + 1) = (ns.take k ++ [z] ++ ns.drop (k + 1)).map V.int := by
  rw [List.map_append, List.map_append, List.map_take, List.map_drop]
  rfl
theorem len_cut3 {ns : List Int} {k : Nat} {z : Int} (h : k < ns.length) : (ns.take k ++ [z] ++ ns.drop (k + 1)).length = ns.length := by
  rw [List.length_append, List.length_append, List.length_take, List.length_drop]
  simp
  omega

/-! ### a value or an answer known by a word only -/
def tCutE (t : TE) : TE := fun σ H Q => ∃ R : VK, t σ H R ∧ ∀ v H', R v H' → Q v H'
def tCutT (t : TT) : TT := fun σ H Q => ∃ R : Bool → Hp → Prop, t σ H R ∧ ∀ b H', R b H' → Q b H'
theorem pe_cutE {X : Cx} {e : Expr} {t : TE} (he : PE X e t) : PE X e (tCutE t) := ⟨fun pins s σ H Q I ⟨R, h, k⟩ => thn (he.run pins s σ H R I h) fun _ _ ⟨v, H', I', r, q⟩ => ⟨v, H', I', r, k v H' q⟩⟩
theorem pt_cutT {X : Cx} {e : Expr} {t : TT} (he : PT X e t) : PT X e (tCutT t) := ⟨fun pins s σ H Q I ⟨R, h, k⟩ => thn (he.run pins s σ H R I h) fun b _ ⟨H', I', q⟩ => ⟨H', I', k b H' q⟩⟩
theorem r_cutE {σ : L2.St} {H : Hp} {Q : VK} {t : TE} (R : VK) (h : t σ H R) (k : ∀ v H', R v H' → Q v H') : tCutE t σ H Q := ⟨R, h, k⟩
theorem r_cutT {σ : L2.St} {H : Hp} {Q : Bool → Hp → Prop} {t : TT} (R : Bool → Hp → Prop) (h : t σ H R) (k : ∀ b H', R b H' → Q b H') : tCutT t σ H Q := ⟨R, h, k⟩
/-- the value is an int of which P holds; the heap stands -/
def IntR (H : Hp) (P : Int → Prop) : VK := fun v H' => H' = H ∧ ∃ m, v = .int m ∧ P m
theorem r_cutI {σ : L2.St} {H : Hp} {Q : VK} {t : TE} (P : Int → Prop) (h : t σ H (IntR H P)) (k : ∀ m, P m → Q (.int m) H) : tCutE t σ H Q := ⟨_, h, fun v H' ⟨e, m, e2, p⟩ => by subst e; subst e2; exact k m p⟩
/-- the answer is that of p; the heap stands -/
theorem r_cutB {σ : L2.St} {H : Hp} {Q : Bool → Hp → Prop} {t : TT} (c : Bool) (h : t σ H fun b H' => b = c ∧ H' = H) (k : Q c H) : tCutT t σ H Q := ⟨_, h, fun v H' ⟨e, e2⟩ => by subst e; subst e2; exact k⟩
/-- the value is v; the heap may have grown -/
theorem r_cutO {H0 : Hp} {σ : L2.St} {H : Hp} {Q : VK} {t : TE} (v : V) (L : List (Addr × HO)) (h : t σ H fun v' H' => v' = v ∧ Own H0 H' L) (k : ∀ H', Own H0 H' L → Q v H') : tCutE t σ H Q := ⟨_, h, fun v' H' ⟨e, o⟩ => by subst e; exact k H' o⟩
theorem rif_p {p : Prop} [Decidable p] {A B : Prop} (h1 : p → A) (h2 : ¬ p → B) : RIf (decide p) A B := rif h1 h2

/-! ### data of tuples: it stands while lists change -/
mutual
inductive Tp (K : PySem.W.Frag) (H : Hp) : V → PyData → Prop
  | non : Tp K H .non .none
  | bl (b : Bool) : Tp K H (.bl b) (.bool b)
  | int (i : Int) : Tp K H (.int i) (.int i)
  | str (x : Str) : Tp K H (.str x) (.str x)
  | tup {a : Addr} {xs : List V} {ds : List PyData} : SqT K H a xs → TpAll K H xs ds → Tp K H (.ref a) (.tuple ds)
inductive TpAll (K : PySem.W.Frag) (H : Hp) : List V → List PyData → Prop
  | nil : TpAll K H [] []
  | cons {v : V} {vs : List V} {d : PyData} {ds : List PyData} : Tp K H v d → TpAll K H vs ds → TpAll K H (v :: vs) (d :: ds)
end
section
variable {K : PySem.W.Frag} {H H' H0 : Hp} {Q : VK} {L : List (Addr × HO)}
mutual
theorem Tp.stp (e : Stp H H') : ∀ (d : PyData) (v : V), Tp K H v d → Tp K H' v d
  | .none, _, h => by cases h; exact .non
  | .bool b, _, h => by cases h; exact .bl b
  | .int i, _, h => by cases h; exact .int i
  | .str x, _, h => by cases h; exact .str x
  | .tuple ds, _, h => by
    cases h with
    | tup hs ha => exact .tup (e.sq hs) (TpAll.stp e ds _ ha)
  | .list _, _, h => by cases h
  | .dict _, _, h => by cases h
theorem TpAll.stp (e : Stp H H') : ∀ (ds : List PyData) (vs : List V), TpAll K H vs ds → TpAll K H' vs ds
  | [], _, h => by cases h; exact .nil
  | d :: ds, _, h => by
    cases h with
    | cons h1 h2 => exact .cons (Tp.stp e d _ h1) (TpAll.stp e ds _ h2)
end
mutual
theorem Tp.dp : ∀ (d : PyData) (v : V), Tp K H v d → Dp K H v d
  | .none, _, h => by cases h; exact .non
  | .bool b, _, h => by cases h; exact .bl b
  | .int i, _, h => by cases h; exact .int i
  | .str x, _, h => by cases h; exact .str x
  | .tuple ds, _, h => by
    cases h with
    | tup hs ha => exact .tup hs (TpAll.dp ds _ ha)
  | .list _, _, h => by cases h
  | .dict _, _, h => by cases h
theorem TpAll.dp : ∀ (ds : List PyData) (vs : List V), TpAll K H vs ds → DpAll K H vs ds
  | [], _, h => by cases h; exact .nil
  | d :: ds, _, h => by
    cases h with
    | cons h1 h2 => exact .cons (Tp.dp d _ h1) (TpAll.dp ds _ h2)
end
theorem Tp.up {v : V} {d : PyData} (h : Tp K H v d) (e : Stp H H') : Tp K H' v d := Tp.stp e d v h
theorem TpAll.up {vs : List V} {ds : List PyData} (h : TpAll K H vs ds) (e : Stp H H') : TpAll K H' vs ds := TpAll.stp e ds vs h
theorem TpAll.len : ∀ {vs : List V} {ds : List PyData}, TpAll K H vs ds → vs.length = ds.length
  | _, _, .nil => rfl
  | _, _, .cons _ h => by rw [List.length_cons, List.length_cons, TpAll.len h]
theorem TpAll.get : ∀ {vs : List V} {ds : List PyData} {i : Nat} {d : PyData}, TpAll K H vs ds → ds[i]? = some d → ∃ v, vs[i]? = some v ∧ Tp K H v d
  | _, _, _, _, .nil, h => by simp at h
  | _, _, 0, _, .cons a _, h => by simp at h; subst h; exact ⟨_, rfl, a⟩
  | _, _, i + 1, _, .cons _ t, h => by
    obtain ⟨v, h1, h2⟩ := TpAll.get (i := i) t (by simpa using h)
    exact ⟨v, by simpa using h1, h2⟩
theorem TpAll.getV : ∀ {vs : List V} {ds : List PyData} {i : Nat} {v : V}, TpAll K H vs ds → vs[i]? = some v → ∃ d, ds[i]? = some d ∧ Tp K H v d
  | _, _, _, _, .nil, h => by simp at h
  | _, _, 0, _, .cons a _, h => by simp at h; subst h; exact ⟨_, rfl, a⟩
  | _, _, i + 1, _, .cons _ t, h => by
    obtain ⟨v, h1, h2⟩ := TpAll.getV (i := i) t (by simpa using h)
    exact ⟨v, by simpa using h1, h2⟩
theorem TpAll.app : ∀ {vs ws : List V} {ds es : List PyData}, TpAll K H vs ds → TpAll K H ws es → TpAll K H (vs ++ ws) (ds ++ es)
  | _, _, _, _, .nil, h => h
  | _, _, _, _, .cons a t, h => .cons a (TpAll.app t h)
theorem TpAll.snoc {vs : List V} {ds : List PyData} {v : V} {d : PyData} (h : TpAll K H vs ds) (t : Tp K H v d) : TpAll K H (vs ++ [v]) (ds ++ [d]) := h.app (.cons t .nil)
theorem TpAll.take : ∀ {vs : List V} {ds : List PyData} (n : Nat), TpAll K H vs ds → TpAll K H (vs.take n) (ds.take n)
  | _, _, _, .nil => by simp; exact .nil
  | _, _, 0, .cons _ _ => .nil
  | _, _, n + 1, .cons a t => .cons a (TpAll.take n t)
theorem TpAll.drop : ∀ {vs : List V} {ds : List PyData} (n : Nat), TpAll K H vs ds → TpAll K H (vs.drop n) (ds.drop n)
  | _, _, _, .nil => by simp; exact .nil
  | _, _, 0, .cons a t => .cons a t
  | _, _, n + 1, .cons _ t => TpAll.drop n t
theorem TpAll.ints : ∀ ns : List Int, TpAll K H (ns.map V.int) (ns.map PyData.int)
  | [] => .nil
  | n :: ns => .cons (.int n) (TpAll.ints ns)
theorem TpAll.ints_inv : ∀ {vs : List V} {ns : List Int}, TpAll K H vs (ns.map PyData.int) → vs = ns.map V.int
  | _, [], h => by cases h; rfl
  | _, n :: ns, h => by
    cases h with
    | cons a t => cases a; rw [TpAll.ints_inv t]; rfl
theorem Tp.inv {v : V} {ds : List PyData} (h : Tp K H v (.tuple ds)) : ∃ a xs, v = .ref a ∧ SqT K H a xs ∧ TpAll K H xs ds := by
  cases h with
  | tup hs ha => exact ⟨_, _, rfl, hs, ha⟩
theorem Tp.invI {v : V} {ns : List Int} (h : Tp K H v (.tuple (ns.map PyData.int))) : ∃ a, v = .ref a ∧ SqT K H a (ns.map V.int) := by
  obtain ⟨a, xs, rfl, hs, ha⟩ := h.inv
  rw [TpAll.ints_inv ha] at hs
  exact ⟨a, rfl, hs⟩
theorem Tp.intsT {a : Addr} {ns : List Int} (h : SqT K H a (ns.map V.int)) : Tp K H (.ref a) (.tuple (ns.map PyData.int)) := .tup h (TpAll.ints ns)
theorem Tp.int_inv {v : V} {n : Int} (h : Tp K H v (.int n)) : v = .int n := by cases h; rfl
theorem Tp.str_inv {v : V} {n : Str} (h : Tp K H v (.str n)) : v = .str n := by cases h; rfl
/-- t[i] of such a tuple -/
theorem r_ixTp {v : V} {ds : List PyData} {i : Nat} {d : PyData} (h : Tp K H v (.tuple ds)) (hd : ds[i]? = some d) (k : ∀ u, Tp K H u d → Q u H) : rIxT K v (.int (i : Int)) H Q := by
  obtain ⟨a, xs, rfl, hs, ha⟩ := h.inv
  obtain ⟨u, hu, t⟩ := ha.get hd
  exact r_ixT hs (atI_nat hu) (k u t)
theorem r_ixTpI {v : V} {ds : List PyData} {i : Nat} {n : Int} (h : Tp K H v (.tuple ds)) (hd : ds[i]? = some (.int n)) (q : Q (.int n) H) : rIxT K v (.int (i : Int)) H Q := r_ixTp h hd fun u t => by cases t; exact q
/-- a value of such data that a call hands back -/
def RetD (K : PySem.W.Frag) (H : Hp) (Q : VK) (d : PyData) : Prop := ∀ H' v, Same H H' → Tp K H' v d → Q v H'
theorem r_retD {v : PyData} (o : Own H0 H L) (k : ∀ u H', Same H H' → Own H0 H' L → Tp K H' u v → Q u H') : RetD K H Q v := fun H' u e t => k u H' e (o.mono e) t
theorem RetD.mk {v : V} {d : PyData} (q : RetD K H0 Q d) (o : Own H0 H L) (t : Tp K H v d) : Q v H := q H v o.ex t
/-! the rules that tell that tuples stand -/
theorem r_newLs {xs : List V} (o : Own H0 H L) (hz : xs.length ≤ 10000000) (k : ∀ p H', Stp H H' → Own H0 H' ((p, .lst xs) :: L) → Q (.ref p) H') : RNewL xs H Q := ⟨sz100 hz, fun p hp => k p _ (.of (same_new hp)) (o.new hp)⟩
theorem r_newTs {xs : List V} (o : Own H0 H L) (hz : xs.length ≤ 10000000) (k : ∀ p H', Stp H H' → Own H0 H' L → SqT K H' p xs → Q (.ref p) H') : RNewT xs H Q := ⟨sz100 hz, fun p hp => k p _ (.of (same_new hp)) (o.mono (same_new hp)) (SqT.of upd_same)⟩
theorem r_newTi {xs : List V} (ns : List Int) (e : xs = ns.map V.int) (o : Own H0 H L) (hz : ns.length ≤ 10000000) (k : ∀ p H', Stp H H' → Own H0 H' L → SqT K H' p (ns.map V.int) → Q (.ref p) H') : RNewT xs H Q := by
  subst e
  exact r_newTs o (by rw [List.length_map]; exact hz) k
theorem r_newTp {xs : List V} {ds : List PyData} (o : Own H0 H L) (ha : TpAll K H xs ds) (hz : xs.length ≤ 10000000) (k : ∀ p H', Stp H H' → Own H0 H' L → Tp K H' (.ref p) (.tuple ds) → Q (.ref p) H') : RNewT xs H Q :=
  r_newTs o hz fun p H' s o' h => k p H' s o' (.tup h (ha.up s))
theorem r_apps {l : Addr} {xs : List V} {y : V} (o : Own H0 H L) (n : Nat) (h : L[n]? = some (l, .lst xs)) (hz : xs.length < 10000000) (k : ∀ H', Stp H H' → Own H0 H' (L.set n (l, .lst (xs ++ [y]))) → Q .non H') : rAppend (.ref l) [y] H Q :=
  ⟨l, xs, y, rfl, rfl, o.at n h, sz_lt hz, k _ (Stp.set (o.at n h)) (o.set n h)⟩
theorem r_setLs {l : Addr} {xs : List V} {k : Nat} {i : Int} {v : V} {R : Hp → Prop} (o : Own H0 H L) (n : Nat) (h : L[n]? = some (l, .lst xs)) (hj : ixN xs.length i = some k) (q : ∀ H', Stp H H' → Own H0 H' (L.set n (l, .lst (xs.set k v))) → R H') : rSetL (.ref l) (.int i) v H R :=
  ⟨l, xs, i, k, rfl, rfl, o.at n h, hj, q _ (Stp.set (o.at n h)) (o.set n h)⟩
theorem r_tupLs {p : Addr} {xs : List V} (o : Own H0 H L) (h : SqL K H p xs) (k : ∀ l H', Stp H H' → Own H0 H' L → SqT K H' l xs → Q (.ref l) H') : rTupS K [.ref p] H Q :=
  ⟨p, xs, rfl, .inl ⟨h, fun l hl => k l _ (.of (same_new hl)) (o.mono (same_new hl)) (SqT.of upd_same)⟩⟩
theorem r_ret1s {u : HO} (o : Own H0 H L) (k : ∀ p H', Stp H H' → Own H0 H' ((p, u) :: L) → Q (.ref p) H') : RetO H Q u := fun H' p e f h => k p H' (.of e) (o.add e f h)
theorem r_slLs {a : Addr} {xs : List V} {lo hi : Option Int} (o : Own H0 H L) (h : SqL K H a xs) (k : ∀ p H', Stp H H' → Own H0 H' ((p, .lst (cutV xs lo hi)) :: L) → Q (.ref p) H') : rSlL K (.ref a) lo hi H Q := ⟨a, xs, rfl, h, fun p hp => k p _ (.of (same_new hp)) (o.new hp)⟩
theorem r_cats {a b : Addr} {xs ys : List V} (o : Own H0 H L) (ha : H a = some (.lst xs)) (hb : H b = some (.lst ys)) (hz : xs.length + ys.length ≤ 10000000) (k : ∀ p H', Stp H H' → Own H0 H' ((p, .lst (xs ++ ys)) :: L) → Q (.ref p) H') : rCat (.ref a) (.ref b) H Q :=
  ⟨a, b, xs, ys, rfl, rfl, ha, hb, sz100 hz, fun p hp => k p _ (.of (same_new hp)) (o.new hp)⟩
theorem r_lists {p : Addr} {xs : List V} (o : Own H0 H L) (h : SqL K H p xs) (k : ∀ l H', Stp H H' → Own H0 H' ((l, .lst xs) :: L) → Q (.ref l) H') : Evl.rListS K [.ref p] H Q := ⟨p, xs, rfl, .inl h, fun l hl => k l _ (.of (same_new hl)) (o.new hl)⟩
theorem r_listTs {p : Addr} {xs : List V} (o : Own H0 H L) (h : SqT K H p xs) (k : ∀ l H', Stp H H' → Own H0 H' ((l, .lst xs) :: L) → Q (.ref l) H') : Evl.rListS K [.ref p] H Q := ⟨p, xs, rfl, .inr h, fun l hl => k l _ (.of (same_new hl)) (o.new hl)⟩
theorem r_eqTp {v u : V} {d e : PyData} (h : Tp K H v d) (h2 : Tp K H u e) (s1 : SeqAt.shaped d = true) (s2 : SeqAt.shaped e = true) (q : Q (.bl (PyData.eqv d e)) H) : rEqD K v u H Q := ⟨d, e, h.dp, h2.dp, s1, s2, q⟩
end

theorem ty_sqT {K : PySem.W.Frag} {H : Hp} {a : Addr} {xs : List V} (h : SqT K H a xs) : TyX K H (.ref a) (.type "tuple") := by
  rcases h with (h | ⟨o, h⟩) | ⟨o, its, n, h1, h2, _⟩
  · exact .base (.tup h)
  · exact .fTuple h
  · exact .kTuple h1 h2
theorem ty_sqL {K : PySem.W.Frag} {H : Hp} {a : Addr} {xs : List V} (h : SqL K H a xs) : TyX K H (.ref a) (.type "list") := by
  rcases h with (h | ⟨o, h⟩) | ⟨o, its, n, h1, h2, _⟩
  · exact .base (.lst h)
  · exact .base (.frz h)
  · exact .kList h1 h2
/-! ### zip -/
section
variable {σ : L2.St} {H : Hp} {K : PySem.W.Frag} {tr : TA} {D : Ends} {ts : TS} {g : TG}
def RZipA (K : PySem.W.Frag) (vs : List V) (H1 : Hp) (R : It → Hp → Prop) : Prop := ∃ a b xs ys, vs = [.ref a, .ref b] ∧ ((SqL K H1 a xs ∧ SqL K H1 b ys ∧ R (Itz K a b) H1) ∨ (SqT K H1 a xs ∧ SqT K H1 b ys ∧ R (RZ.ItzT K a b) H1))
theorem r_zipA {R : It → Hp → Prop} (q : tr σ H fun vs H1 => RZipA K vs H1 R) : RZ.iZipA K tr σ H R := q
theorem forZT {a b : Addr} {xs ys : List V} (ha : SqT K H a xs) (hb : SqT K H b ys) (hl : xs.length = ys.length) (Pv : Nat → L2.St → Hp → Prop) (h0 : Pv 0 σ H) (hq : ∀ i σ H, Pv i σ H → SqT K H a xs ∧ SqT K H b ys)
    (hs : ∀ (i : Nat) (x y : V) (T : Addr) (σ : L2.St) (H : Hp), xs[i]? = some x → ys[i]? = some y → Pv i σ H → H T = none → g (.ref T) σ (upd H T (.tup [x, y])) fun σ2 H2 => ts { D with nx := Pv (i + 1), ct := Pv (i + 1), bk := D.nx } σ2 H2) (hd : ∀ σ H, Pv xs.length σ H → D.nx σ H) :
    RZipA K [.ref a, .ref b] H fun J H1 => RFor J g ts D σ H1 := ⟨a, b, xs, ys, rfl, .inr ⟨ha, hb, RZ.for_zipT hl Pv h0 hq hs hd⟩⟩
theorem forZL {a b : Addr} {xs ys : List V} (ha : SqL K H a xs) (hb : SqL K H b ys) (hl : xs.length = ys.length) (Pv : Nat → L2.St → Hp → Prop) (h0 : Pv 0 σ H) (hq : ∀ i σ H, Pv i σ H → SqL K H a xs ∧ SqL K H b ys)
    (hs : ∀ (i : Nat) (x y : V) (T : Addr) (σ : L2.St) (H : Hp), xs[i]? = some x → ys[i]? = some y → Pv i σ H → H T = none → g (.ref T) σ (upd H T (.tup [x, y])) fun σ2 H2 => ts { D with nx := Pv (i + 1), ct := Pv (i + 1), bk := D.nx } σ2 H2) (hd : ∀ σ H, Pv xs.length σ H → D.nx σ H) :
    RZipA K [.ref a, .ref b] H fun J H1 => RFor J g ts D σ H1 := ⟨a, b, xs, ys, rfl, .inl ⟨ha, hb, RZ.for_zipL hl Pv h0 hq hs hd⟩⟩
/-- x, y = t: the target of a walk over pairs -/
theorem r_gTup2 {a : Addr} {x y : V} {i j : Nat} {R : L2.St → Hp → Prop} (h : SqT K H a [x, y]) (q : R ((σ.set i (some x)).set j (some y)) H) : gTup K 2 (gCons (gName i) (gCons (gName j) gNil)) (.ref a) σ H R :=
  ⟨a, [x, y], rfl, h, rfl, x, [y], rfl, y, [], rfl, rfl, q⟩
theorem r_gTup3 {a : Addr} {x y z : V} {i j k : Nat} {R : L2.St → Hp → Prop} (h : SqT K H a [x, y, z]) (q : R (((σ.set i (some x)).set j (some y)).set k (some z)) H) : gTup K 3 (gCons (gName i) (gCons (gName j) (gCons (gName k) gNil))) (.ref a) σ H R :=
  ⟨a, [x, y, z], rfl, h, rfl, x, [y, z], rfl, y, [z], rfl, z, [], rfl, rfl, q⟩
def rMax2 : List V → Hp → VK → Prop := fun xs H Q => ∃ i j, xs = [.int i, .int j] ∧ Q (.int (if j > i then j else i)) H
def rMin2 : List V → Hp → VK → Prop := fun xs H Q => ∃ i j, xs = [.int i, .int j] ∧ Q (.int (if j < i then j else i)) H
theorem r_max2 {i j : Int} {Q : VK} (q : Q (.int (if j > i then j else i)) H) : rMax2 [.int i, .int j] H Q := ⟨i, j, rfl, q⟩
theorem r_min2 {i j : Int} {Q : VK} (q : Q (.int (if j < i then j else i)) H) : rMin2 [.int i, .int j] H Q := ⟨i, j, rfl, q⟩
def rIsNon : R2 := fun x y H Q => y = .non ∧ Q (.bl (decide (x = .non))) H
def rNotNon : R2 := fun x y H Q => y = .non ∧ Q (.bl (!decide (x = .non))) H
theorem r_isNonN {Q : VK} (q : Q (.bl true) H) : rIsNon .non .non H Q := ⟨rfl, by rw [decide_eq_true rfl]; exact q⟩
theorem r_isNonR {a : Addr} {Q : VK} (q : Q (.bl false) H) : rIsNon (.ref a) .non H Q := ⟨rfl, by rw [decide_eq_false (by simp)]; exact q⟩
theorem r_isNonI {a : Int} {Q : VK} (q : Q (.bl false) H) : rIsNon (.int a) .non H Q := ⟨rfl, by rw [decide_eq_false (by simp)]; exact q⟩
theorem r_notNonN {Q : VK} (q : Q (.bl false) H) : rNotNon .non .non H Q := ⟨rfl, by rw [decide_eq_true rfl]; exact q⟩
theorem r_notNonR {a : Addr} {Q : VK} (q : Q (.bl true) H) : rNotNon (.ref a) .non H Q := ⟨rfl, by rw [decide_eq_false (by simp)]; exact q⟩
theorem r_notNonI {a : Int} {Q : VK} (q : Q (.bl true) H) : rNotNon (.int a) .non H Q := ⟨rfl, by rw [decide_eq_false (by simp)]; exact q⟩
end

/-! ### texts -/
def rAddStr : R2 := fun x y H Q => ∃ i j, x = .str i ∧ y = .str j ∧ i.length + j.length ≤ sizeLine ∧ Q (.str (i ++ j)) H
def rIntS : List V → Hp → VK → Prop := fun xs H Q => ∃ a n, xs = [.str a] ∧ PySem.intText? a = some n ∧ a.length ≤ 640 ∧ Q (.int n) H
def rLenStr : List V → Hp → VK → Prop := fun xs H Q => ∃ z, xs = [.str z] ∧ z.length ≤ sizeLine ∧ Q (.int z.length) H
section
variable {σ : L2.St} {H H0 : Hp} {Q : VK} {K : PySem.W.Frag} {L : List (Addr × HO)} {te : TE} {tt : TT}
theorem r_addS {a b : Str} (hz : a.length + b.length ≤ 10000000) (q : Q (.str (a ++ b)) H) : rAddStr (.str a) (.str b) H Q := ⟨a, b, rfl, rfl, sz100 hz, q⟩
theorem r_lenS {a : Str} (hz : a.length ≤ 10000000) (q : Q (.int a.length) H) : rLenStr [.str a] H Q := ⟨a, rfl, sz100 hz, q⟩
theorem r_slS {a : Str} {lo hi : Option Int} (hz : a.length ≤ 10000000) (q : Q (.str (cutS a lo hi)) H) : rSlS (.str a) lo hi H Q := ⟨a, rfl, sz100 hz, q⟩
theorem cutS_len (a : Str) (lo hi : Option Int) : (cutS a lo hi).length ≤ a.length := by
  unfold cutS
  show (List.toArray _).size ≤ a.cps.size
  rw [List.size_toArray, List.length_take, List.length_drop, Array.length_toList]
  omega
theorem addS_len (a b : Str) : (a ++ b).length = a.length + b.length := by
  show (a.cps ++ b.cps).size = a.cps.size + b.cps.size
  exact Array.size_append
theorem r_in {neg : Bool} {x : V} {p : Addr} {xs : List V} (h : SqL K H p xs ∨ SqT K H p xs) (hx : flatV x = true) (ha : xs.all flatV = true) (q : Q (.bl (if neg then !inV x xs else inV x xs)) H) : rIn K neg x (.ref p) H Q := ⟨p, xs, rfl, h, hx, ha, q⟩
theorem r_inY {x : V} {p : Addr} {xs : List V} (h : SqL K H p xs ∨ SqT K H p xs) (hx : flatV x = true) (ha : xs.all flatV = true) (q : Q (.bl (inV x xs)) H) : rIn K false x (.ref p) H Q := r_in h hx ha q
theorem r_inN {x : V} {p : Addr} {xs : List V} (h : SqL K H p xs ∨ SqT K H p xs) (hx : flatV x = true) (ha : xs.all flatV = true) (q : Q (.bl (!inV x xs)) H) : rIn K true x (.ref p) H Q := r_in h hx ha q
theorem r_ixS {p : Addr} {zs : List Str} {i : Int} (h : SqL K H p (zs.map V.str)) (h0 : 0 ≤ i) (h1 : i < zs.length) (q : ∀ z, z ∈ zs → zs[i.toNat]? = some z → Q (.str z) H) : rIxL K (.ref p) (.int i) H Q := by
  have h2 : i.toNat < zs.length := by omega
  have e := List.getElem?_eq_getElem h2
  exact r_ixL h (at_map h0 e) (q _ (List.getElem_mem h2) e)
theorem flat_strs (zs : List Str) : (zs.map V.str).all flatV = true := by
  rw [List.all_map, List.all_eq_true]
  intro _ _
  rfl
/-- [e for x in t], over a tuple, by the item -/
theorem lcTV {a : Addr} {xs : List V} {s : Nat} {vs : List Nat} (f : V → V) (o : Own H0 H L) (h : ∀ H' p zs, Own H0 H' ((p, .lst zs) :: L) → SqT K H' a xs) (h1 : SqT K H a xs) (hz : xs.length < 10000000) (hw : ∀ x, wipe ((wipe σ vs).set s (some x)) vs = wipe σ vs)
    (he : ∀ (i : Nat) (x : V) (q : Addr) (zs : List V) (H' : Hp) (Q : VK), xs[i]? = some x → Own H0 H' ((q, .lst zs) :: L) → Stp H H' → RetV H' Q (f x) → te ((wipe σ vs).set s (some x)) H' Q)
    (k : ∀ q H', Stp H H' → Own H0 H' ((q, .lst (xs.map f)) :: L) → Q (.ref q) H') :
    ∃ a', V.ref a = .ref a' ∧ (∃ xs, SqT K H a' xs) ∧ RLc (Itt K a') (gName s) tYes te vs σ H Q :=
  lcGT (fun v => some (f v)) o h h1 hz (fun i x p zs H' R hi o' s' r => r _ (fun _ _ => hw _) (fun Q q => q H' (Same.refl _)) fun y H2 hy s2 Q q => by
    cases hy
    exact he i x p zs H2 Q hi (o'.mono s2) (s'.trans (.of s2)) q) (fun q H' s' o' => k q H' s' (by rw [show (fun v => some (f v)) = some ∘ f from rfl, List.filterMap_eq_map] at o'; exact o'))
theorem lcLV {a : Addr} {xs : List V} {s : Nat} {vs : List Nat} (f : V → V) (o : Own H0 H L) (h : ∀ H' p zs, Own H0 H' ((p, .lst zs) :: L) → SqL K H' a xs) (h1 : SqL K H a xs) (hz : xs.length < 10000000) (hw : ∀ x, wipe ((wipe σ vs).set s (some x)) vs = wipe σ vs)
    (he : ∀ (i : Nat) (x : V) (q : Addr) (zs : List V) (H' : Hp) (Q : VK), xs[i]? = some x → Own H0 H' ((q, .lst zs) :: L) → Stp H H' → RetV H' Q (f x) → te ((wipe σ vs).set s (some x)) H' Q)
    (k : ∀ q H', Stp H H' → Own H0 H' ((q, .lst (xs.map f)) :: L) → Q (.ref q) H') :
    ∃ a', V.ref a = .ref a' ∧ (∃ xs, SqL K H a' xs) ∧ RLc (Itl K a') (gName s) tYes te vs σ H Q :=
  lcGL (fun v => some (f v)) o h h1 hz (fun i x p zs H' R hi o' s' r => r _ (fun _ _ => hw _) (fun Q q => q H' (Same.refl _)) fun y H2 hy s2 Q q => by
    cases hy
    exact he i x p zs H2 Q hi (o'.mono s2) (s'.trans (.of s2)) q) (fun q H' s' o' => k q H' s' (by rw [show (fun v => some (f v)) = some ∘ f from rfl, List.filterMap_eq_map] at o'; exact o'))
/-- .. with a test, over a list -/
theorem lcLVF {a : Addr} {xs : List V} {s : Nat} {vs : List Nat} (sel : V → Option V) (o : Own H0 H L) (h : ∀ H' p zs, Own H0 H' ((p, .lst zs) :: L) → SqL K H' a xs) (h1 : SqL K H a xs) (hz : xs.length < 10000000) (hw : ∀ x, wipe ((wipe σ vs).set s (some x)) vs = wipe σ vs)
    (ht : ∀ (i : Nat) (x : V) (q : Addr) (zs : List V) (H' : Hp) (Q : Bool → Hp → Prop), xs[i]? = some x → Own H0 H' ((q, .lst zs) :: L) → Stp H H' → (∀ H2, Same H' H2 → Q (sel x).isSome H2) → tt ((wipe σ vs).set s (some x)) H' Q)
    (he : ∀ (i : Nat) (x y : V) (q : Addr) (zs : List V) (H' : Hp) (Q : VK), xs[i]? = some x → sel x = some y → Own H0 H' ((q, .lst zs) :: L) → Stp H H' → RetV H' Q y → te ((wipe σ vs).set s (some x)) H' Q)
    (k : ∀ q H', Stp H H' → Own H0 H' ((q, .lst (xs.filterMap sel)) :: L) → Q (.ref q) H') :
    ∃ a', V.ref a = .ref a' ∧ (∃ xs, SqL K H a' xs) ∧ RLc (Itl K a') (gName s) tt te vs σ H Q :=
  lcGL sel o h h1 hz (fun i x p zs H' R hi o' s' r => r _ (fun _ _ => hw _) (fun Q q => ht i x p zs H' Q hi o' s' q) fun y H2 hy s2 Q q => he i x y p zs H2 Q hi hy (o'.mono s2) (s'.trans (.of s2)) q) k
end
/-- a written tuple of the module -/
theorem sqT_top {K : PySem.W.Frag} {p : Addr} {od : Option Addr} {its : Array Value} {n : Nat} {sl : Array (Option Value)} {xs : List V} (l : K.lookup p = some ⟨.type "tuple", od, .seq its n, sl⟩) (hz : its.size ≤ sizeLine) (hv : Vals xs its.toList) : ∀ H : Hp, SqT K H p xs :=
  fun _ => .inr ⟨_, its, n, l, rfl, rfl, hz, hv⟩

/-! ### [e for p in range(n) for q in range(lo, hi, c)] -/
def RLc2 (J : It) (g : TG) (tt : TT) (wi1 : TI) (g1 : TG) (tt1 : TT) (te : TE) (vs vs1 : List Nat) (σ : L2.St) (H1 : Hp) (Q : VK) : Prop := ∀ D, H1 D = none → ∃ W : Nat → Nat → Hp → Prop, (∃ m, W 0 m (upd H1 D (.lst []))) ∧ ∀ i m H, W i m H →
  (J.stop i H ∧ Q (.ref D) H) ∨ (J.go i H ∧ ∃ Nx : Hp → Prop, (∀ H', Nx H' → ∃ m', m' < m ∧ W (i + 1) m' H') ∧ ∀ x H', J.yld i H x H' → g x (wipe σ vs) H' fun σ2 H2 => wipe σ2 vs = wipe σ vs ∧ tt σ2 H2 fun b H3 =>
    if b = true then wi1 σ2 H3 fun J1 H4 => ∃ W1 : Nat → Nat → Hp → Prop, (∃ m, W1 0 m H4) ∧ ∀ j k H, W1 j k H →
      (J1.stop j H ∧ Nx H) ∨ (J1.go j H ∧ ∃ Nx1 : Hp → Prop, (∀ H', Nx1 H' → ∃ k', k' < k ∧ W1 (j + 1) k' H') ∧ ∀ x H', J1.yld j H x H' → g1 x (wipe σ2 vs1) H' fun σ3 H5 => wipe σ3 vs1 = wipe σ2 vs1 ∧ tt1 σ3 H5 fun b H6 =>
        if b = true then te σ3 H6 fun y H7 => ∃ acc, H7 D = some (.lst acc) ∧ acc.length < sizeLine ∧ Nx1 (upd H7 D (.lst (acc ++ [y]))) else Nx1 H6)
    else Nx H3)
theorem r_lc2 {σ : L2.St} {H : Hp} {Q : VK} {wi wi1 : TI} {g g1 : TG} {tt tt1 : TT} {te : TE} {vs vs1 : List Nat} (q : wi σ H fun J H1 => RLc2 J g tt wi1 g1 tt1 te vs vs1 σ H1 Q) : tLc2 wi g tt wi1 g1 tt1 te vs vs1 σ H Q := q
theorem lc2R3 {σ : L2.St} {H H0 : Hp} {Q : VK} {L : List (Addr × HO)} {te : TE} {wi1 : TI} {j c : Int} {n s s1 : Nat} {vs vs1 : List Nat} (lo : Nat → Int) (m : Nat → Nat) (o : Own H0 H L) (hn : j = (n : Int)) (hz : n ≤ 10000000)
    (hzz : ((List.range n).flatMap fun p => (List.range (m p)).map fun (k : Nat) => V.int (lo p + (k : Int) * c)).length < 10000000)
    (hw : ∀ x, wipe ((wipe σ vs).set s (some x)) vs = wipe σ vs) (hw1 : ∀ x y, wipe ((wipe ((wipe σ vs).set s (some x)) vs1).set s1 (some y)) vs1 = wipe ((wipe σ vs).set s (some x)) vs1)
    (hin : ∀ (p : Nat) (H' : Hp) (R : It → Hp → Prop), p < n → R (Itc (lo p) c (m p)) H' → wi1 ((wipe σ vs).set s (some (.int (p : Int)))) H' R)
    (he : ∀ (x : V) (z : Int) (H' : Hp) (Q : VK), Q (.int z) H' → te ((wipe ((wipe σ vs).set s (some x)) vs1).set s1 (some (.int z))) H' Q)
    (k : ∀ p H', Own H0 H' ((p, .lst ((List.range n).flatMap fun p => (List.range (m p)).map fun (k : Nat) => V.int (lo p + (k : Int) * c))) :: L) → Q (.ref p) H') :
    ∃ k : Int, [V.int j] = [.int k] ∧ -(2 ^ 62) ≤ k ∧ k < 2 ^ 62 ∧ RLc2 (Itr 0 k.toNat) (gName s) tYes wi1 (gName s1) tYes te vs vs1 σ H Q := by
  have hout : ∀ i, i ≤ n → ((List.range i).flatMap fun p => (List.range (m p)).map fun (k : Nat) => V.int (lo p + (k : Int) * c)).length ≤ ((List.range n).flatMap fun p => (List.range (m p)).map fun (k : Nat) => V.int (lo p + (k : Int) * c)).length := fun i hi => by
    have e : List.range n = List.range i ++ (List.range (n - i)).map (i + ·) := by
      rw [← List.range_add]
      congr 1
      omega
    rw [e, List.flatMap_append, List.length_append]
    omega
  refine ⟨j, rfl, by omega, by omega, fun D hD => ?_⟩
  have e : j.toNat = n := by omega
  rw [e]
  refine ⟨fun i mm H' => mm = n - i ∧ i ≤ n ∧ Own H0 H' ((D, .lst ((List.range i).flatMap fun p => (List.range (m p)).map fun (k : Nat) => V.int (lo p + (k : Int) * c))) :: L), ⟨n, rfl, Nat.zero_le _, o.new hD⟩, ?_⟩
  rintro i mm H' ⟨rfl, hi, o'⟩
  by_cases hlt : i < n
  · refine .inr ⟨hlt, fun H2 => Own H0 H2 ((D, .lst ((List.range (i + 1)).flatMap fun p => (List.range (m p)).map fun (k : Nat) => V.int (lo p + (k : Int) * c))) :: L), fun H2 p2 => ⟨n - (i + 1), by omega, rfl, hlt, p2⟩, ?_⟩
    rintro x H2 ⟨rfl, rfl⟩
    have e0 : (0 : Int) + (i : Int) = (i : Int) := Int.zero_add _
    rw [e0]
    refine ⟨hw _, ?_⟩
    refine iteT (B := Own H0 H2 ((D, .lst ((List.range (i + 1)).flatMap fun p => (List.range (m p)).map fun (k : Nat) => V.int (lo p + (k : Int) * c))) :: L)) (hin i H2 _ hlt ?_)
    have hs : (List.range (i + 1)).flatMap (fun p => (List.range (m p)).map fun (k : Nat) => V.int (lo p + (k : Int) * c)) = (List.range i).flatMap (fun p => (List.range (m p)).map fun (k : Nat) => V.int (lo p + (k : Int) * c)) ++ (List.range (m i)).map fun (k : Nat) => V.int (lo i + (k : Int) * c) := by
      rw [List.range_succ, List.flatMap_append]
      simp
    rw [hs]
    have hl2 := hout (i + 1) hlt
    rw [hs, List.length_append, List.length_map, List.length_range] at hl2
    refine ⟨fun j2 k2 H3 => k2 = m i - j2 ∧ j2 ≤ m i ∧ Own H0 H3 ((D, .lst ((List.range i).flatMap (fun p => (List.range (m p)).map fun (k : Nat) => V.int (lo p + (k : Int) * c)) ++ (List.range j2).map fun (k : Nat) => V.int (lo i + (k : Int) * c))) :: L), ⟨m i, rfl, Nat.zero_le _, by rw [show ((List.range 0).map fun (k : Nat) => V.int (lo i + ((k : Nat) : Int) * c)) = [] from rfl, List.append_nil]; exact o'⟩, ?_⟩
    rintro j2 k2 H3 ⟨rfl, hj, o3⟩
    by_cases hlt2 : j2 < m i
    · refine .inr ⟨hlt2, fun H4 => Own H0 H4 ((D, .lst ((List.range i).flatMap (fun p => (List.range (m p)).map fun (k : Nat) => V.int (lo p + (k : Int) * c)) ++ (List.range (j2 + 1)).map fun (k : Nat) => V.int (lo i + (k : Int) * c))) :: L), fun H4 p4 => ⟨m i - (j2 + 1), by omega, rfl, hlt2, p4⟩, ?_⟩
      rintro x H4 ⟨rfl, rfl⟩
      refine ⟨hw1 _ _, ?_⟩
      refine iteT (B := Own H0 H4 ((D, .lst ((List.range i).flatMap (fun p => (List.range (m p)).map fun (k : Nat) => V.int (lo p + (k : Int) * c)) ++ (List.range (j2 + 1)).map fun (k : Nat) => V.int (lo i + (k : Int) * c))) :: L)) (he _ _ H4 _ ⟨_, o3.at 0 rfl, sz_lt ?_, ?_⟩)
      · rw [List.length_append, List.length_map, List.length_range]
        omega
      · have o5 := o3.set (v := .lst (((List.range i).flatMap (fun p => (List.range (m p)).map fun (k : Nat) => V.int (lo p + (k : Int) * c)) ++ (List.range j2).map fun (k : Nat) => V.int (lo i + (k : Int) * c)) ++ [V.int (lo i + (j2 : Int) * c)])) 0 rfl
        rw [List.range_succ, List.map_append, ← List.append_assoc]
        exact o5
    · refine .inl ⟨show m i ≤ j2 by omega, ?_⟩
      have ej : j2 = m i := by omega
      rw [ej] at o3
      exact o3
  · refine .inl ⟨show n ≤ i by omega, ?_⟩
    have ei : i = n := by omega
    rw [ei] at o'
    exact k D _ o'

theorem fm_some {α β : Type} (f : α → Option β) (g : α → β) : ∀ (l : List α), (∀ k ∈ l, f k = some (g k)) → l.filterMap f = l.map g
  | [], _ => rfl
  | x :: l, h => by
    rw [List.filterMap_cons, h x List.mem_cons_self, List.map_cons, fm_some f g l fun k hk => h k (List.mem_cons_of_mem _ hk)]
/-! ### xs[lo:hi:c] -/
def stpV (xs : List V) (lo hi : Option Int) (c : Int) : List V := (sliceRange (sliceBounds lo hi (some c) xs.length).1 (sliceBounds lo hi (some c) xs.length).2.1 (sliceBounds lo hi (some c) xs.length).2.2).filterMap (xs[·]?)
theorem vals_pick {xs : List V} {us : List Value} (r : Vals xs us) : ∀ is : List Nat, Vals (is.filterMap (xs[·]?)) (is.filterMap (us[·]?))
  | [] => .nil
  | i :: is => by
    rw [List.filterMap_cons, List.filterMap_cons]
    cases h : xs[i]? with
    | none =>
      rw [r.none_of h]
      exact vals_pick r is
    | some x =>
      obtain ⟨u, hu, ru⟩ := r.get h
      rw [hu]
      exact .cons ru (vals_pick r is)
def tSl3 (K : PySem.W.Frag) (te : TE) (tl th ts : TO) : TE := fun σ H Q => te σ H fun x H1 => tl σ H1 fun l H2 => th σ H2 fun u H3 => ts σ H3 fun c H4 => ∃ a xs i, x = .ref a ∧ c = some i ∧ i ≠ 0 ∧ SqL K H4 a xs ∧ (stpV xs l u i).length ≤ sizeLine ∧ ∀ p, H4 p = none → Q (.ref p) (upd H4 p (.lst (stpV xs l u i)))
theorem pe_sl3 {X : Cx} {e : Expr} {lo hi : Option Expr} {st : Expr} {te : TE} {tl th ts : TO} {p2 pos : Pos} (he : PE X e te) (hl : PO X lo tl) (hu : PO X hi th) (hst : PO X (some st) ts) : PE X (.Subscript e (.Slice lo hi (some st) p2) pos) (tSl3 X.K te tl th ts) := by
  refine ⟨fun pins s σ H Q I h => ?_⟩
  refine Subscript_ (thn (he.run pins s σ H _ I h) fun v s1 ⟨x, H1, I1, r1, q1⟩ => ?_)
  refine wpAny_Slice (thn (hl.run pins s1 σ H1 _ I1 q1) fun vl s2 ⟨l, H2, I2, pl, q2⟩ => ?_)
  refine thn (hu.run pins s2 σ H2 _ I2 q2) fun vu s3 ⟨u, H3, I3, pu, q3⟩ => ?_
  refine thn (hst.run pins s3 σ H3 _ I3 q3) fun vs s4 ⟨c, H4, I4, ps, q4⟩ => ?_
  obtain ⟨a, xs, i, ex, ec, h0, hx, hzz, q⟩ := q4
  subst ex
  subst ec
  cases r1
  have I5 : Inv X pins σ H4 { s4 with heap := s4.heap.push { cls := .type "slice", data := .fields #[vl, vu, vs] } } := I4.kept (t' := s4.toks) fun b ob q => Heap.get?_push_of_some _ q
  obtain ⟨its, r, ht, hz⟩ := I5.list hx
  have hlen := r.length
  show wpAny (model X.prog X.w) X.A (subscriptTail e (.Slice lo hi (some st) p2) (.ref a) (.ref s4.heap.objs.size)) (EP X pins σ Q) X.xe { s4 with heap := s4.heap.push { cls := .type "slice", data := .fields #[vl, vu, vs] } }
  refine tail_any (ops := [.ref a, .ref s4.heap.objs.size]) ht.isList.typeIs (PySem.slot_list_getitem.lookup) ?_ (by with_unfolding_all rfl)
  refine wpAny_getItem_list_slice ht.isList (Heap.IsSliceOf.new _ vl vu vs) pl pu ps (fun z => h0 (Option.some.inj z)) ?_ (by rw [List.size_toArray]; omega)
  have ep : slicePick its.toArray l u (some i) = ((sliceRange (sliceBounds l u (some i) xs.length).1 (sliceBounds l u (some i) xs.length).2.1 (sliceBounds l u (some i) xs.length).2.2).filterMap (its[·]?)).toArray := by
    unfold slicePick
    rw [List.size_toArray, ← hlen]
    simp only [List.getElem?_toArray]
  rw [ep]
  refine ⟨.ref _, _, I5.laid (t' := s4.toks) (o := .lst (stpV xs l u i)) (fun b ob q => Heap.get?_push_of_some _ q) (Nat.le_refl _) ?_, rfl, q _ (I5.hok.fresh (Nat.le_refl _))⟩
  exact ⟨hzz, _, 0, vals_pick r _, Heap.get?_push_size _ rfl⟩
def RSl3 (K : PySem.W.Frag) (x : V) (l u c : Option Int) (H : Hp) (Q : VK) : Prop := ∃ a xs i, x = .ref a ∧ c = some i ∧ i ≠ 0 ∧ SqL K H a xs ∧ (stpV xs l u i).length ≤ sizeLine ∧ ∀ p, H p = none → Q (.ref p) (upd H p (.lst (stpV xs l u i)))
theorem r_sl3 {K : PySem.W.Frag} {σ : L2.St} {H : Hp} {Q : VK} {te : TE} {tl th ts : TO} (q : te σ H fun x H1 => tl σ H1 fun l H2 => th σ H2 fun u H3 => ts σ H3 fun c H4 => RSl3 K x l u c H4 Q) : tSl3 K te tl th ts σ H Q := q
theorem r_slc {K : PySem.W.Frag} {H H0 : Hp} {Q : VK} {L : List (Addr × HO)} {a : Addr} {xs : List V} {l u : Option Int} {i : Int} (o : Own H0 H L) (h : SqL K H a xs) (h0 : i ≠ 0) (hz : (stpV xs l u i).length ≤ 10000000) (k : ∀ p H', Stp H H' → Own H0 H' ((p, .lst (stpV xs l u i)) :: L) → Q (.ref p) H') : RSl3 K (.ref a) l u (some i) H Q :=
  ⟨a, xs, i, rfl, rfl, h0, h, sz100 hz, fun p hp => k p _ (.of (same_new hp)) (o.new hp)⟩
theorem flat_rep {α : Type} : ∀ (n : Nat) (x : α), (List.replicate n [x]).flatten = List.replicate n x
  | 0, _ => rfl
  | n + 1, x => by rw [List.replicate_succ, List.flatten_cons, flat_rep n x]; rfl
/-- a list times an int -/
theorem r_rep {H H0 : Hp} {Q : VK} {L : List (Addr × HO)} {a : Addr} {x : V} {i : Int} {n : Nat} (o : Own H0 H L) (ha : H a = some (.lst [x])) (hi : i.toNat = n) (hk : -(2 ^ 63) ≤ i ∧ i < 2 ^ 63) (hz : n ≤ 10000000) (k : ∀ p H', Stp H H' → Own H0 H' ((p, .lst (List.replicate n x)) :: L) → Q (.ref p) H') : rRep (.ref a) (.int i) H Q := by
  refine ⟨a, i, [x], rfl, rfl, ha, hk.1, hk.2, sz100 (by rw [hi]; simp; exact hz), fun p hp => ?_⟩
  have e : (List.replicate i.toNat [x]).flatten = List.replicate n x := by
    rw [hi]
    exact flat_rep n x
  rw [e]
  exact k p _ (.of (same_new hp)) (o.new hp)

/-! ### defs -/
/-- the def x of the text stands at its name -/
structure FunAt (K : PySem.W.Frag) (mg : Str → Option Value) (x : Str) (st : Stmt) (ps : List Str) : Prop where
  ex : ∃ f fd, Fun K x x st f fd ∧ mg x = some (.ref f) ∧ Binds K fd ps []
/-- .. and keeps a promise -/
structure Def (P : Program) (w : World) (K : PySem.W.Frag) (mg : Str → Option Value) (base : Heap) (CX : CXT) (k : Nat) (x : Str) (ps : List Str) (sp : Sp) : Prop where
  ex : ∃ f fd, FnOk P w K mg base CX k f fd ps sp ∧ mg x = some (.ref f) ∧ PySem.W.keepIn K (.ref f) = true ∧ Binds K fd ps []
section
variable {P : Program} {w : World} {K : PySem.W.Frag} {mg : Str → Option Value} {base : Heap}
theorem FunAt.ok {x : Str} {st : Stmt} {N ps : List Str} {k : Nat} {sp : Sp} (F : FunAt K mg x st ps) (S : FnScope N ps (defScope st)) (len : ∀ vs H Q E, sp vs H Q E → vs.length = ps.length)
    (hbody : ∀ (f : Addr) (cdv : Value) (A : Around) (outer : List Env) (s : Shared) (H : Hp) (vs : List V) (Q : VK) (E : XK), Room k (A.deeper (envOfC x (defScope st) s.heap.objs.size f cdv)) → sp vs H Q E →
      ∃ t, PSs (cxOf CX0 P w K mg base N x (defScope st) f cdv A outer s H E).nox (defBody st) t ∧ t { nx := fun _ H' => Q .non H', rt := Q } (start N vs) H) : Def P w K mg base CX0 (k + 1) x ps sp := by
  obtain ⟨f, fd, F, hm, hb⟩ := F.ex
  exact ⟨f, fd, F.ok S len (hbody f), hm, F.kp, hb⟩
theorem Def.imp {CX : CXT} {k : Nat} {x : Str} {ps : List Str} {sp sp' : Sp} (F : Def P w K mg base CX k x ps sp) (h : ∀ vs H Q E, sp' vs H Q E → sp vs H Q E) : Def P w K mg base CX k x ps sp' := by
  obtain ⟨f, fd, F, r⟩ := F.ex
  exact ⟨f, fd, F.imp h, r⟩
theorem Def.mono {CX : CXT} {k j : Nat} {x : Str} {ps : List Str} {sp : Sp} (F : Def P w K mg base CX k x ps sp) (h : k ≤ j) : Def P w K mg base CX j x ps sp := by
  obtain ⟨f, fd, F, r⟩ := F.ex
  exact ⟨f, fd, F.mono h, r⟩
end
theorem pe_callD {X : Cx} {k : Nat} {ps : List Str} {sp : Sp} {x : Str} {p pos : Pos} {e : Expr} {es : List Expr} {t : TA} (G : Def X.prog X.w X.K X.mg X.base CX0 k x ps sp) (hr : Room k X.A) (ha : PA X (e :: es) t) (hg : Gl X x := by rfl)
    (hdb : (x == ("__debug__" : Str)) = false := by decide) (he : starEach (e :: es) X.env = (false, eval e X.env) :: starEach es X.env := by rfl) (hpl : (backTo pos (starEach es X.env)).any (·.1) = false := by rfl) : PE X (.Call (.Name x p) (e :: es) [] pos) (tCall sp [] E0 t) := by
  obtain ⟨f, fd, F, hm, hk, hb⟩ := G.ex
  exact pe_call F hr hg hm hk hb .nil pass0 ha hdb he hpl
/-! ### own classes -/
structure MethAt (K : PySem.W.Frag) (C : Addr) (m qn : Str) (st : Stmt) (ps : List Str) : Prop where
  ex : ∃ f fd, Fun K m qn st f fd ∧ Meth K C m f ∧ Binds K fd ps []
structure MkAt (K : PySem.W.Frag) (C : Addr) (qn : Str) (st : Stmt) (ps : List Str) : Prop where
  ex : ∃ f fd, Fun K "__init__" qn st f fd ∧ Mk K C f ∧ Binds K fd ps []
structure MDef (P : Program) (w : World) (K : PySem.W.Frag) (mg : Str → Option Value) (base : Heap) (CX : CXT) (k : Nat) (C : Addr) (m : Str) (ps : List Str) (sp : Sp) : Prop where
  ex : ∃ f fd, FnOk P w K mg base CX k f fd ps sp ∧ Meth K C m f ∧ Binds K fd ps []
structure KDef (P : Program) (w : World) (K : PySem.W.Frag) (mg : Str → Option Value) (base : Heap) (CX : CXT) (k : Nat) (C : Addr) (ps : List Str) (sp : Sp) : Prop where
  ex : ∃ f fd, FnOk P w K mg base CX k f fd ps sp ∧ Mk K C f ∧ Binds K fd ps []
section
variable {P : Program} {w : World} {K : PySem.W.Frag} {mg : Str → Option Value} {base : Heap}
theorem MethAt.ok {C : Addr} {m qn : Str} {st : Stmt} {N ps : List Str} {k : Nat} {sp : Sp} (F : MethAt K C m qn st ps) (S : FnScope N ps (defScope st)) (len : ∀ vs H Q E, sp vs H Q E → vs.length = ps.length)
    (hbody : ∀ (f : Addr) (cdv : Value) (A : Around) (outer : List Env) (s : Shared) (H : Hp) (vs : List V) (Q : VK) (E : XK), Room k (A.deeper (envOfC qn (defScope st) s.heap.objs.size f cdv)) → sp vs H Q E →
      ∃ t, PSs (cxOf CX0 P w K mg base N qn (defScope st) f cdv A outer s H E).nox (defBody st) t ∧ t { nx := fun _ H' => Q .non H', rt := Q } (start N vs) H) : MDef P w K mg base CX0 (k + 1) C m ps sp := by
  obtain ⟨f, fd, F, hm, hb⟩ := F.ex
  exact ⟨f, fd, F.ok S len (hbody f), hm, hb⟩
theorem MkAt.ok {C : Addr} {qn : Str} {st : Stmt} {N ps : List Str} {k : Nat} {sp : Sp} (F : MkAt K C qn st ps) (S : FnScope N ps (defScope st)) (len : ∀ vs H Q E, sp vs H Q E → vs.length = ps.length)
    (hbody : ∀ (f : Addr) (cdv : Value) (A : Around) (outer : List Env) (s : Shared) (H : Hp) (vs : List V) (Q : VK) (E : XK), Room k (A.deeper (envOfC qn (defScope st) s.heap.objs.size f cdv)) → sp vs H Q E →
      ∃ t, PSs (cxOf CX0 P w K mg base N qn (defScope st) f cdv A outer s H E).nox (defBody st) t ∧ t { nx := fun _ H' => Q .non H', rt := Q } (start N vs) H) : KDef P w K mg base CX0 (k + 1) C ps sp := by
  obtain ⟨f, fd, F, hm, hb⟩ := F.ex
  exact ⟨f, fd, F.ok S len (hbody f), hm, hb⟩
end
theorem pe_makeD {X : Cx} {k : Nat} {ps : List Str} {sp : Sp} {C : Addr} {x : Str} {p pos : Pos} {e : Expr} {es : List Expr} {t : TA} (G : KDef X.prog X.w X.K X.mg X.base CX0 k C ps sp) (hm : X.mg x = some (.ref C)) (hr : Room (k + 1) X.A) (ha : PA X (e :: es) t) (hg : Gl X x := by rfl)
    (hdb : (x == ("__debug__" : Str)) = false := by decide) (he : starEach (e :: es) X.env = (false, eval e X.env) :: starEach es X.env := by rfl) (hpl : (backTo pos (starEach es X.env)).any (·.1) = false := by rfl) : PE X (.Call (.Name x p) (e :: es) [] pos) (tMake C sp [] E0 t) := by
  obtain ⟨f, fd, F, M, hb⟩ := G.ex
  exact pe_make M F hr hg hm hb .nil pass0 ha hdb he hpl
theorem pe_methD {X : Cx} {k : Nat} {ps : List Str} {sp : Sp} {C : Addr} {m : Str} {o e : Expr} {es : List Expr} {apos pos : Pos} {ta : TE} {t : TA} {pl : Sem Bool} (he : PE X o ta) (c : Cls X.K C) (G : MDef X.prog X.w X.K X.mg X.base CX0 k C m ps sp) (hr : Room k X.A) (ha : PA X (e :: es) t)
    (hst : starEach (e :: es) X.env = (false, eval e X.env) :: starEach es X.env := by rfl) (hpl : (backTo pos (starEach es X.env)).any (·.1) = false := by rfl)
    (ht : eval (.Call (.Attribute o m apos) (e :: es) [] pos) X.env = (do
      let ov ← eval o X.env
      standAt apos.atName
      let (f, first) ← holding [ov] (getMethod ov m pl)
      callWith pos f first (backTo pos (starEach (e :: es) X.env)) (backToKw pos (keywordEach [] X.env))) := by rfl) :
    PE X (.Call (.Attribute o m apos) (e :: es) [] pos) (tMeth C m sp [] E0 ta t) := by
  obtain ⟨f, fd, F, M, hb⟩ := G.ex
  exact pe_meth he c M F hr hb .nil pass0 ha hst hpl ht
theorem r_make {C : Addr} {sp : Sp} {E : XK} {t : TA} {σ : L2.St} {H : Hp} {Q : VK} (q : t σ H fun vs H1 => ∀ x dx, H1 x = none → H1 dx = none → dx ≠ x → sp (.ref x :: (vs ++ [])) (upd (upd H1 dx (.own x)) x (.ins C dx [])) (fun v H2 => v = .non ∧ Q (.ref x) H2) E) : tMake C sp [] E t σ H Q := q
theorem r_meth {C : Addr} {m : Str} {sp : Sp} {E : XK} {ta : TE} {t : TA} {σ : L2.St} {H : Hp} {Q : VK} (q : ta σ H fun x H1 => ∃ a dx fs, x = .ref a ∧ H1 a = some (.ins C dx fs) ∧ fs.lookup m = none ∧ t σ H1 fun vs H2 => sp (x :: (vs ++ [])) H2 Q E) : tMeth C m sp [] E ta t σ H Q := q
theorem r_fldq {K : PySem.W.Frag} {ta : TE} {f : Str} {σ : L2.St} {H : Hp} {Q : VK} (q : ta σ H fun x H1 => ∃ a C dx fs v, x = .ref a ∧ H1 a = some (.ins C dx fs) ∧ Cls K C ∧ NoAttr K C f ∧ fs.lookup f = some v ∧ Q v H1) : tFld K ta f σ H Q := q
theorem r_sfld {K : PySem.W.Frag} {ta tv : TE} {f : Str} {D : Ends} {σ : L2.St} {H : Hp} (q : tv σ H fun y H1 => ta σ H1 fun x H2 => ∃ a C dx fs, x = .ref a ∧ H2 a = some (.ins C dx fs) ∧ Cls K C ∧ NoAttr K C f ∧ fs.length < 1000 ∧ D.nx σ (upd H2 a (.ins C dx (putF f y fs)))) : sFld K ta tv f D σ H := q
/-! ### the same rules, K told -/
theorem pg_tupK {X : Cx} {K : PySem.W.Frag} {es : List Expr} {k : Nat} {t : TGs} {n : Nat} {pos : Pos} (hK : X.K = K) (hc : X.calm = true) (h : PGs X es t)
    (hn : (assignEach es X.env).length = n := by rfl) (hst : (assignEach es X.env).findIdx? (·.1) = none := by rfl) : PG X (.Tuple es k pos) (gTup K n t) := by
  subst hK
  exact pg_tup hc h hn hst
theorem pe_bmK {X : Cx} {K : PySem.W.Frag} {o e : Expr} {es : List Expr} {to : TE} {t : TA} {name : Str} {apos cpos : Pos} {T id : String} {r : V → List V → Hp → VK → Prop} (hK : X.K = K) (pa : PlainAttrs T) (slot : Slot T name id) (hty : typeOf (.builtin id) = pure (.type "method_descriptor")) (hm : MtR X id r) (ho : PE X o to) (ha : PA X (e :: es) t)
    (hbase : attributeBase o name X.env (eval o X.env) = eval o X.env := by rfl) (hfew : ((backTo cpos (starEach (e :: es) X.env)).all (fun x => !x.1) && (backToKw cpos (keywordEach [] X.env)).all (fun x => x.1.isSome) && decide ((e :: es).length + ([] : List Keyword).length + (if ([] : List Keyword).isEmpty then 0 else 1) < 30)) = true := by rfl)
    (hline : (apos.endLine == cpos.line) = true := by rfl) (hst : starEach (e :: es) X.env = (false, eval e X.env) :: starEach es X.env := by rfl) (hpl : (backTo cpos (starEach es X.env)).any (·.1) = false := by rfl) : PE X (.Call (.Attribute o name apos) (e :: es) [] cpos) (tBM K T r to t) := by
  subst hK
  exact pe_bm pa slot hty hm ho ha hbase hfew hline hst hpl
theorem r_ext {H H0 : Hp} {Q : VK} {L : List (Addr × HO)} {l b : Addr} {xs zs : List V} (o : Own H0 H L) (n m : Nat) (h : L[n]? = some (l, .lst xs)) (h2 : L[m]? = some (b, .lst zs)) (hz : xs.length + zs.length ≤ 10000000) (k : ∀ H', Own H0 H' (L.set n (l, .lst (xs ++ zs))) → Q .non H') : rExtend (.ref l) [.ref b] H Q :=
  ⟨l, b, xs, zs, rfl, rfl, o.at n h, o.at m h2, sz100 hz, k _ (o.set n h)⟩
theorem take_flat {α β : Type} {f : α → List β} {zs : List α} {i : Nat} {z : α} (h : zs[i]? = some z) : (zs.take (i + 1)).flatMap f = (zs.take i).flatMap f ++ f z := by
  rw [List.take_add_one, h, List.flatMap_append]
  simp
theorem get_ints {ns : List Int} {i : Nat} {x : V} (h : (ns.map V.int)[i]? = some x) : ∃ z, ns[i]? = some z ∧ x = .int z := by
  rw [List.getElem?_map] at h
  cases h2 : ns[i]? with
  | none => rw [h2] at h; cases h
  | some v => rw [h2] at h; cases h; exact ⟨v, rfl, rfl⟩
theorem r_bmE {K : PySem.W.Frag} {T : String} {f : V → List V → Hp → VK → Prop} {te : TE} {tr : TA} {σ : L2.St} {H : Hp} {Q : VK} (q : te σ H fun x H1 => tyV K T x H1 ∧ tr σ H1 fun vs H2 => f x vs H2 Q) : tBM K T f te tr σ H Q := q
theorem pe_callD0 {X : Cx} {k : Nat} {sp : Sp} {x : Str} {p pos : Pos} (G : Def X.prog X.w X.K X.mg X.base CX0 k x [] sp) (hr : Room k X.A) (hg : Gl X x := by rfl) (hdb : (x == ("__debug__" : Str)) = false := by decide) : PE X (.Call (.Name x p) [] [] pos) (tCall sp [] E0 tNil) := by
  obtain ⟨f, fd, F, hm, hk, hb⟩ := G.ex
  exact pe_call0 F hr hg hm hk hb .nil pass0 hdb
theorem pe_methD0 {X : Cx} {k : Nat} {ps : List Str} {sp : Sp} {C : Addr} {m : Str} {o : Expr} {apos pos : Pos} {ta : TE} {pl : Sem Bool} (he : PE X o ta) (c : Cls X.K C) (G : MDef X.prog X.w X.K X.mg X.base CX0 k C m ps sp) (hr : Room k X.A)
    (ht : eval (.Call (.Attribute o m apos) [] [] pos) X.env = (do
      let ov ← eval o X.env
      standAt apos.atName
      let (f, first) ← holding [ov] (getMethod ov m pl)
      callWith pos f first (backTo pos (starEach [] X.env)) (backToKw pos (keywordEach [] X.env))) := by rfl) :
    PE X (.Call (.Attribute o m apos) [] [] pos) (tMeth C m sp [] E0 ta tNil) := by
  obtain ⟨f, fd, F, M, hb⟩ := G.ex
  exact pe_meth0 he c M F hr hb .nil pass0 ht
end RD
namespace My
open PySem PySem.Spec PyProof.Rows L2 RD
local macro_rules | `(tactic| walk_at "sq") => `(tactic| (first
  | assumption
  | exact Own.sqL (by assumption) 0 (by exact rfl)
  | exact Own.sqL (by assumption) 1 (by exact rfl)
  | exact Own.sqL (by assumption) 2 (by exact rfl)
  | exact Own.sqL (by assumption) 3 (by exact rfl)
  | exact Own.sqL (by assumption) 4 (by exact rfl)
  | exact Own.sqL (by assumption) 5 (by exact rfl)
  | exact Own.sqL (by assumption) 6 (by exact rfl)
  | exact Own.sqL (by assumption) 7 (by exact rfl)
  | exact Own.sqL (by assumption) 8 (by exact rfl)
  | exact Own.sqL (by assumption) 9 (by exact rfl)
  | exact Own.sqL (by assumption) 10 (by exact rfl)
  | exact Own.sqL (by assumption) 11 (by exact rfl)
  | exact Own.sqL (by assumption) 12 (by exact rfl)
  | exact Own.sqL (by assumption) 13 (by exact rfl)
  | exact Own.sqL (by assumption) 14 (by exact rfl)
  | exact Own.sqL (by assumption) 15 (by exact rfl)
  | exact Own.sqL (by assumption) 16 (by exact rfl)
  | exact Own.old (by assumption) (by assumption)))
local macro_rules | `(tactic| walk_at "sqT") => `(tactic| (first
  | assumption
  | exact Own.sqT (by assumption) 0 (by exact rfl)
  | exact Own.sqT (by assumption) 1 (by exact rfl)
  | exact Own.sqT (by assumption) 2 (by exact rfl)
  | exact Own.sqT (by assumption) 3 (by exact rfl)
  | exact Own.sqT (by assumption) 4 (by exact rfl)
  | exact Own.sqT (by assumption) 5 (by exact rfl)
  | exact Own.sqT (by assumption) 6 (by exact rfl)
  | exact Own.sqT (by assumption) 7 (by exact rfl)
  | exact Own.sqT (by assumption) 8 (by exact rfl)
  | exact Own.sqT (by assumption) 9 (by exact rfl)
  | exact Own.sqT (by assumption) 10 (by exact rfl)
  | exact Own.sqT (by assumption) 11 (by exact rfl)
  | exact Own.sqT (by assumption) 12 (by exact rfl)
  | exact Own.sqT (by assumption) 13 (by exact rfl)
  | exact Own.sqT (by assumption) 14 (by exact rfl)
  | exact Own.sqT (by assumption) 15 (by exact rfl)
  | exact Own.sqT (by assumption) 16 (by exact rfl)
  | exact Own.oldT (by assumption) (by assumption)))
local macro_rules | `(tactic| walk_at "at") => `(tactic| (first
  | assumption
  | exact Own.at (by assumption) 0 (by exact rfl)
  | exact Own.at (by assumption) 1 (by exact rfl)
  | exact Own.at (by assumption) 2 (by exact rfl)
  | exact Own.at (by assumption) 3 (by exact rfl)
  | exact Own.at (by assumption) 4 (by exact rfl)
  | exact Own.at (by assumption) 5 (by exact rfl)
  | exact Own.at (by assumption) 6 (by exact rfl)
  | exact Own.at (by assumption) 7 (by exact rfl)
  | exact Own.at (by assumption) 8 (by exact rfl)
  | exact Own.at (by assumption) 9 (by exact rfl)
  | exact Own.at (by assumption) 10 (by exact rfl)
  | exact Own.at (by assumption) 11 (by exact rfl)
  | exact Own.at (by assumption) 12 (by exact rfl)
  | exact Own.at (by assumption) 13 (by exact rfl)
  | exact Own.at (by assumption) 14 (by exact rfl)
  | exact Own.at (by assumption) 15 (by exact rfl)
  | exact Own.at (by assumption) 16 (by exact rfl)))
/-! ### the words -/
local macro_rules | `(tactic| walk_at "rd1") => `(tactic| (first
  | with_reducible refine r_seq ?_
  | with_reducible refine r_asg ?_
  | with_reducible refine r_name ?_
  | ((with_reducible refine r_var (v := ?_) ?h ?_); (case h => exact rfl))
  | with_reducible refine r_c ?_
  | with_reducible refine r_op ?_
  | with_reducible refine r_I0 ?_
  | with_reducible refine r_un ?_
  | with_reducible refine r_U ?_
  | with_reducible refine r_eqI ?_
  | with_reducible refine r_neI ?_
  | with_reducible refine r_eqS ?_
  | with_reducible refine r_neS ?_
  | with_reducible refine r_test ?_
  | with_reducible refine r_tB ?_
  | with_reducible refine r_bl ?_
  | with_reducible refine r_and ?_
  | with_reducible refine r_or ?_
  | with_reducible refine r_not ?_
  | with_reducible refine r_andV ?_
  | with_reducible refine r_orV ?_
  | with_reducible refine r_notV ?_
  | with_reducible refine r_ifE ?_
  | with_reducible refine r_ifS ?_
  | with_reducible refine r_ret ?_
  | with_reducible refine r_retN ?_
  | with_reducible refine r_drop ?_
  | with_reducible refine r_next ?_
  | with_reducible refine r_break ?_
  | with_reducible refine r_cont ?_
  | with_reducible refine r_nil ?_
  | with_reducible refine r_cons ?_
  | with_reducible refine r_tup ?_
  | with_reducible refine r_lst ?_
  | with_reducible refine r_CB ?_
  | with_reducible refine r_call ?_
  | with_reducible refine r_sl ?_
  | with_reducible refine r_par ?_
  | with_reducible refine r_make ?_
  | with_reducible refine r_meth ?_
  | with_reducible refine r_fldq ?_
  | with_reducible refine r_sfld ?_
  | with_reducible refine r_nopart ?_
  | with_reducible refine r_part ?_
  | with_reducible refine r_pt ?_
  | ((with_reducible refine r_aug (x := ?_) ?h ?_); (case h => exact rfl))
  | with_reducible refine r_ipI ?_
  | ((with_reducible refine r_isi (T := ?_) (b := true) ?t ?k ?_); (case t => first | exact ty_int | exact ty_str | exact ty_non | exact ty_list (by walk_at "at") | exact ty_tup (by walk_at "at") | exact ty_sqT (by assumption) | exact ty_sqL (by assumption)); (case k => decide +kernel))
  | ((with_reducible refine r_isi (T := ?_) (b := false) ?t ?k ?_); (case t => first | exact ty_int | exact ty_str | exact ty_non | exact ty_list (by walk_at "at") | exact ty_tup (by walk_at "at") | exact ty_sqT (by assumption) | exact ty_sqL (by assumption)); (case k => decide +kernel))
  | with_reducible refine rif_t ?_
  | with_reducible refine rif_f ?_
  | with_reducible refine rif_nt ?_
  | with_reducible refine rif_nf ?_
  | with_reducible refine r_for ?_
  | with_reducible refine r_rng1 ?_
  | with_reducible refine r_rng2 ?_
  | with_reducible refine r_rng3 ?_
  | with_reducible refine r_iL ?_
  | with_reducible refine r_iT ?_
  | with_reducible refine r_lc ?_
  | with_reducible refine r_lc2 ?_
  | with_reducible refine r_sl3 ?_
  | ((with_reducible refine r_I ?c ?_); (case c => first | exact ⟨by decide, by decide⟩ | exact ⟨by decide, by decide, by decide⟩ | exact ⟨by decide, by decide, by omega⟩ | (show (0 : Int) < _; decide) | exact .inr ⟨by decide, by decide⟩ | exact .inl ⟨by decide, by decide⟩ | assumption | exact .inl ⟨by omega, by omega⟩ | exact .inr ⟨by omega, by omega⟩ | (show (0 : Int) < _; omega) | exact ⟨by omega, by omega⟩))
  | ((with_reducible refine r_bm (l := ?_) ?h ?t ?_); (case h => exact rfl); (case t => exact ty_lst (by walk_at "at")))
  | with_reducible refine r_int ?_
  | ((with_reducible refine r_lenS ?z ?_); (case z => first | omega | (simp; done)))
  | ((with_reducible refine r_slS ?z ?_); (case z => omega))
  | ((with_reducible refine r_addS ?z ?_); (case z => omega))
  | with_reducible refine r_zipA ?_
  | with_reducible refine r_max2 ?_
  | with_reducible refine r_min2 ?_
  | with_reducible refine r_isNonN ?_
  | with_reducible refine r_isNonR ?_
  | with_reducible refine r_isNonI ?_
  | with_reducible refine r_notNonN ?_
  | with_reducible refine r_notNonR ?_
  | with_reducible refine r_notNonI ?_
  | with_reducible refine r_chain ?_
  | with_reducible refine r_isB ?_
  | ((with_reducible refine r_ixI (ns := ?_) ?h ?b0 ?b1 ?_); (case h => walk_at "sq"); (case b0 => omega); (case b1 => first | omega | (simp; done) | (simp; omega)))
  | ((with_reducible refine r_ixIT (ns := ?_) ?h ?b0 ?b1 ?_); (case h => walk_at "sqT"); (case b0 => omega); (case b1 => first | omega | (simp; done) | (simp; omega)))
  | ((with_reducible refine r_ixqL (ns := ?_) ?h ?b0 ?b1 ?_); (case h => walk_at "sq"); (case b0 => omega); (case b1 => first | omega | (simp; done) | (simp; omega)))
  | ((with_reducible refine r_ixqT (ns := ?_) ?h ?b0 ?b1 ?_); (case h => walk_at "sqT"); (case b0 => omega); (case b1 => first | omega | (simp; done) | (simp; omega)))
  | ((with_reducible refine r_sum (ns := ?_) ?h ?_); (case h => walk_at "sq"))
  | ((with_reducible refine r_eqSame (ns := ?_) ?h ?h2 ?_); (case h => walk_at "sq"); (case h2 => walk_at "sq"))
  | ((with_reducible refine r_neSame (ns := ?_) ?h ?h2 ?_); (case h => walk_at "sq"); (case h2 => walk_at "sq"))
  | with_reducible refine r_intB ?_
  | ((with_reducible refine r_len (xs := ?_) ?h ?_); (case h => walk_at "sq"))
  | ((with_reducible refine r_lenT (xs := ?_) ?h ?_); (case h => walk_at "sqT"))
  | ((with_reducible refine r_gTup2 (x := ?_) (y := ?_) ?h ?_); (case h => walk_at "sqT"))
  | with_reducible refine r_bmE ?_
  | with_reducible refine r_set ?_))
local macro_rules | `(tactic| walk_at "rd") => `(tactic| (repeat' (walk_at "rd1")))
/-! ### zip of two or three sequences, each a list (false) or a tuple (true) -/
section
variable {prog : Program} {w : World} {A : Around} {E : Value → Shared → Prop} {s : Shared}
def HIt (k : Bool) (h : Heap) (it l : Addr) (i : Nat) : Prop := match k with | true => h.IsTupleIter it l i | false => h.IsListIter it l i
def HSq (k : Bool) (h : Heap) (l : Addr) (xs : Array Value) : Prop := match k with | true => h.IsTuple l xs | false => h.IsList l xs
def itTy (k : Bool) : String := match k with | true => "tuple_iterator" | false => "list_iterator"
def SqK (K : PySem.W.Frag) (k : Bool) (H : Hp) (a : Addr) (xs : List V) : Prop := match k with | true => SqT K H a xs | false => SqL K H a xs
theorem HIt.at {k : Bool} {h h' : Heap} {it l : Addr} {i : Nat} (x : HIt k h it l i) (e : ∀ o, h.get? it = some o → h'.get? it = some o) : HIt k h' it l i := by
  cases k
  · exact Heap.IsListIter.at x e
  · exact Heap.IsTupleIter.at x e
theorem HIt.obj {k : Bool} {h : Heap} {it l : Addr} {i : Nat} (x : HIt k h it l i) : ∃ o, h.get? it = some o ∧ ∀ v, o.data ≠ .cell v := by
  cases k
  · obtain ⟨o, e, _, d⟩ := (show h.IsListIter it l i from x)
    exact ⟨o, e, fun v z => by rw [d] at z; cases z⟩
  · obtain ⟨o, e, _, d⟩ := (show h.IsTupleIter it l i from x)
    exact ⟨o, e, fun v z => by rw [d] at z; cases z⟩
theorem HIt.lt {k : Bool} {h : Heap} {it l : Addr} {i : Nat} (x : HIt k h it l i) : it < h.objs.size := by
  obtain ⟨o, e, _⟩ := x.obj
  exact Heap.lt_size e
theorem HSq.lt {k : Bool} {h : Heap} {l : Addr} {xs : Array Value} (x : HSq k h l xs) : l < h.objs.size := by
  cases k
  · obtain ⟨o, e, _⟩ := (show h.IsList l xs from x)
    exact Heap.lt_size e
  · obtain ⟨o, e, _⟩ := (show h.IsTuple l xs from x)
    exact Heap.lt_size e
theorem drawsK (k : Bool) (hh : A.handled = none) {it l : Addr} (hne : l ≠ it) (items : Array Value) :
    Draws prog w A it [it, l] items.size (fun i v => items[i]? = some v) (fun i h => HIt k h it l i ∧ HSq k h l items) := by
  cases k
  · exact Draws.list hh it l hne items
  · refine ⟨fun i h st => ?_, fun i h h' st hk => ?_, fun i s Q E hi st hQ => ?_, fun s Q E st hE => ?_⟩
    · obtain ⟨o, ho, _⟩ := HIt.obj st.1
      exact ⟨o, ho⟩
    · exact ⟨st.1.at fun o e => hk it (by simp) o e, Heap.IsTuple.at st.2 fun o e => hk l (by simp) o e⟩
    · have st2 := (show s.heap.IsTuple l items from st.2)
      refine RZ.nextOf_tuple_item st.1 st2 (x := items[i]) (by simp [hi]) fun h1 it1 sb => ?_
      exact hQ _ h1 s.toks (by simp [hi]) ⟨it1, Heap.IsTuple.extBut st2 sb.extBut hne⟩ sb
    · exact RZ.nextOf_tuple_end hh st.1 st.2 (by simp) hE
def itO (k : Bool) (l : Addr) : Obj := { cls := .type (itTy k), data := .fields #[.ref l, .int 0 0] }
theorem iterK {k : Bool} {l : Addr} {items : Array Value} {Q : Value → Shared → Prop} (hl : HSq k s.heap l items) (h : Q (.ref s.heap.objs.size) { s with heap := s.heap.push (itO k l) }) : wpAny (model prog w) A (pyIter (.ref l)) Q E s := by
  cases k
  · exact wpAny_pyIter_list hl h
  · exact wpAny_pyIter_tuple hl h
theorem HSq.push {k : Bool} {h : Heap} {l : Addr} {xs : Array Value} (x : HSq k h l xs) (o : Obj) : HSq k (h.push o) l xs := by
  cases k
  · exact Heap.IsList.push x o
  · exact Heap.IsTuple.push x o
theorem HIt.mk0 {k : Bool} {h : Heap} {it l : Addr} (e : h.get? it = some (itO k l)) : HIt k h it l 0 := by
  cases k
  · exact ⟨_, e, rfl, rfl⟩
  · exact ⟨_, e, rfl, rfl⟩
def zA (h : Heap) (k1 : Bool) (l1 : Addr) : Heap := h.push (itO k1 l1)
def zB (h : Heap) (k1 k2 : Bool) (l1 l2 : Addr) : Heap := (zA h k1 l1).push (itO k2 l2)
def zC (h : Heap) (k1 k2 : Bool) (l1 l2 : Addr) : Heap := (zB h k1 k2 l1 l2).push { cls := .type "tuple", data := .seq #[.ref h.objs.size, .ref (zA h k1 l1).objs.size] }
def zD (h : Heap) (k1 k2 : Bool) (l1 l2 : Addr) : Heap := (zC h k1 k2 l1 l2).push { cls := .type "tuple", data := .seq #[.none, .none] }
def zE (h : Heap) (k1 k2 : Bool) (l1 l2 : Addr) : Heap := (zD h k1 k2 l1 l2).push { cls := .type "zip", data := .fields #[.none, .bool false, .bool false, .ref (zB h k1 k2 l1 l2).objs.size, .ref (zC h k1 k2 l1 l2).objs.size] }
theorem zip_new2 (k1 k2 : Bool) (l1 l2 : Addr) (xs ys : Array Value) :
    Meets (Builtin.«zip.__new__» ⟨[.type "zip", .ref l1, .ref l2], []⟩) (fun _ R s => HSq k1 s.heap l1 xs ∧ HSq k2 s.heap l2 ys ∧
      R (.ok (.ret (.ref (zD s.heap k1 k2 l1 l2).objs.size))) { s with heap := zE s.heap k1 k2 l1 l2 }) :=
  .of_wp fun prog w A R s h => by
    obtain ⟨hp, g, d, tk, os⟩ := s
    obtain ⟨q1, q2, h⟩ := h
    have hsub := sub_zip
    have p1 : HSq k1 (Shared.heap ⟨hp, g, d, tk, os⟩) l1 xs := q1
    have p2 : HSq k2 (Shared.heap ⟨hp.push (itO k1 l1), g, d, tk, os⟩) l2 ys := HSq.push q2 _
    wp_walk using iterK p1, iterK p2
    exact ⟨_, rfl, h⟩
theorem zip_call2 {k1 k2 : Bool} {l1 l2 : Addr} {xs ys : Array Value} {Q : Value → Shared → Prop} (q1 : HSq k1 s.heap l1 xs) (q2 : HSq k2 s.heap l2 ys)
    (h : ∀ h' n, n = s.heap.objs.size → IsZip h' (n + 4) (n + 2) (n + 3) .none → IsTupOf2 h' (n + 2) (.ref n) (.ref (n + 1)) → IsTupOf2 h' (n + 3) .none .none → HIt k1 h' n l1 0 → HIt k2 h' (n + 1) l2 0 →
      (∀ c o, s.heap.get? c = some o → h'.get? c = some o) → Q (.ref (n + 4)) { s with heap := h' }) :
    wpAny (model prog w) A (call (.type "zip") [.ref l1, .ref l2]) Q E s := by
  refine callType_new F.called_zip (by decide) (F.typeCall_zip_2 _ _) (F.newCall_zip_2 _ _) (fun obj => F.args_object_init_3 obj _ _) F.entry_zip_new (zip_new2 k1 k2 l1 l2 xs ys) ⟨q1, q2, ?_⟩
  have eA : (zA s.heap k1 l1).objs.size = s.heap.objs.size + 1 := Heap.size_push ..
  have eB : (zB s.heap k1 k2 l1 l2).objs.size = s.heap.objs.size + 2 := by unfold zB; rw [Heap.size_push, eA]
  have eC : (zC s.heap k1 k2 l1 l2).objs.size = s.heap.objs.size + 3 := by unfold zC; rw [Heap.size_push, eB]
  have eD : (zD s.heap k1 k2 l1 l2).objs.size = s.heap.objs.size + 4 := by unfold zD; rw [Heap.size_push, eC]
  have uE : ∀ c o, (zD s.heap k1 k2 l1 l2).get? c = some o → (zE s.heap k1 k2 l1 l2).get? c = some o := fun c o e => Heap.get?_push_of_some _ e
  have uD : ∀ c o, (zC s.heap k1 k2 l1 l2).get? c = some o → (zE s.heap k1 k2 l1 l2).get? c = some o := fun c o e => uE c o (Heap.get?_push_of_some _ e)
  have uC : ∀ c o, (zB s.heap k1 k2 l1 l2).get? c = some o → (zE s.heap k1 k2 l1 l2).get? c = some o := fun c o e => uD c o (Heap.get?_push_of_some _ e)
  have uB : ∀ c o, (zA s.heap k1 l1).get? c = some o → (zE s.heap k1 k2 l1 l2).get? c = some o := fun c o e => uC c o (Heap.get?_push_of_some _ e)
  have uA : ∀ c o, s.heap.get? c = some o → (zE s.heap k1 k2 l1 l2).get? c = some o := fun c o e => uB c o (Heap.get?_push_of_some _ e)
  have gE : (zE s.heap k1 k2 l1 l2).get? (zD s.heap k1 k2 l1 l2).objs.size = some _ := Heap.get?_push_size _ rfl
  have gD : (zE s.heap k1 k2 l1 l2).get? (zC s.heap k1 k2 l1 l2).objs.size = some _ := uE _ _ (Heap.get?_push_size _ rfl)
  have gC : (zE s.heap k1 k2 l1 l2).get? (zB s.heap k1 k2 l1 l2).objs.size = some _ := uD _ _ (Heap.get?_push_size _ rfl)
  have gB : (zE s.heap k1 k2 l1 l2).get? (zA s.heap k1 l1).objs.size = some _ := uC _ _ (Heap.get?_push_size _ rfl)
  have gA : (zE s.heap k1 k2 l1 l2).get? s.heap.objs.size = some _ := uB _ _ (Heap.get?_push_size _ rfl)
  rw [eD, eB, eC] at gE
  rw [eB, eA] at gC
  rw [eC] at gD
  rw [eA] at gB
  show _ ∧ _
  rw [eD]
  exact ⟨⟨_, gE, rfl⟩, h _ _ rfl gE gC gD (HIt.mk0 gA) (HIt.mk0 gB) uA⟩
theorem typeCall_zip3 (a b c : Value) : checkTypeCall "zip" ⟨[a, b, c], []⟩ = pure () := by kernel_rfl
theorem newCall_zip3 (a b c : Value) : checkBuiltinCall "zip.__new__" ⟨[.type "zip", a, b, c], []⟩ = pure () := by kernel_rfl
theorem args_object_init4 (a b c d : Value) : argsOk "object.__init__" ⟨[a, b, c, d], []⟩ := by
  unfold argsOk
  rw [signature?_of (id := "object.__init__") (n := ['_', '_', 't', 'i', 'n', 'i', '_', '_']) (o := ['t', 'c', 'e', 'j', 'b', 'o']) (by kernel_rfl) F.owner_object]
  kernel_rfl
def yB (h : Heap) (k1 k2 k3 : Bool) (l1 l2 l3 : Addr) : Heap := (zB h k1 k2 l1 l2).push (itO k3 l3)
def yC (h : Heap) (k1 k2 k3 : Bool) (l1 l2 l3 : Addr) : Heap := (yB h k1 k2 k3 l1 l2 l3).push { cls := .type "tuple", data := .seq #[.ref h.objs.size, .ref (zA h k1 l1).objs.size, .ref (zB h k1 k2 l1 l2).objs.size] }
def yD (h : Heap) (k1 k2 k3 : Bool) (l1 l2 l3 : Addr) : Heap := (yC h k1 k2 k3 l1 l2 l3).push { cls := .type "tuple", data := .seq #[.none, .none, .none] }
def yE (h : Heap) (k1 k2 k3 : Bool) (l1 l2 l3 : Addr) : Heap := (yD h k1 k2 k3 l1 l2 l3).push { cls := .type "zip", data := .fields #[.none, .bool false, .bool false, .ref (yB h k1 k2 k3 l1 l2 l3).objs.size, .ref (yC h k1 k2 k3 l1 l2 l3).objs.size] }
theorem zip_new3 (k1 k2 k3 : Bool) (l1 l2 l3 : Addr) (xs ys zs : Array Value) :
    Meets (Builtin.«zip.__new__» ⟨[.type "zip", .ref l1, .ref l2, .ref l3], []⟩) (fun _ R s => HSq k1 s.heap l1 xs ∧ HSq k2 s.heap l2 ys ∧ HSq k3 s.heap l3 zs ∧
      R (.ok (.ret (.ref (yD s.heap k1 k2 k3 l1 l2 l3).objs.size))) { s with heap := yE s.heap k1 k2 k3 l1 l2 l3 }) :=
  .of_wp fun prog w A R s h => by
    obtain ⟨hp, g, d, tk, os⟩ := s
    obtain ⟨q1, q2, q3, h⟩ := h
    have hsub := sub_zip
    have p1 : HSq k1 (Shared.heap ⟨hp, g, d, tk, os⟩) l1 xs := q1
    have p2 : HSq k2 (Shared.heap ⟨hp.push (itO k1 l1), g, d, tk, os⟩) l2 ys := HSq.push q2 _
    have p3 : HSq k3 (Shared.heap ⟨(hp.push (itO k1 l1)).push (itO k2 l2), g, d, tk, os⟩) l3 zs := HSq.push (HSq.push q3 _) _
    wp_walk using iterK p1, iterK p2, iterK p3
    exact ⟨_, rfl, h⟩
theorem zip_call3 {k1 k2 k3 : Bool} {l1 l2 l3 : Addr} {xs ys zs : Array Value} {Q : Value → Shared → Prop} (q1 : HSq k1 s.heap l1 xs) (q2 : HSq k2 s.heap l2 ys) (q3 : HSq k3 s.heap l3 zs)
    (h : ∀ h' n, n = s.heap.objs.size → IsZip h' (n + 5) (n + 3) (n + 4) .none → IsTupOf3 h' (n + 3) (.ref n) (.ref (n + 1)) (.ref (n + 2)) → IsTupOf3 h' (n + 4) .none .none .none → HIt k1 h' n l1 0 → HIt k2 h' (n + 1) l2 0 → HIt k3 h' (n + 2) l3 0 →
      (∀ c o, s.heap.get? c = some o → h'.get? c = some o) → Q (.ref (n + 5)) { s with heap := h' }) :
    wpAny (model prog w) A (call (.type "zip") [.ref l1, .ref l2, .ref l3]) Q E s := by
  refine callType_new F.called_zip (by decide) (typeCall_zip3 _ _ _) (newCall_zip3 _ _ _) (fun obj => args_object_init4 obj _ _ _) F.entry_zip_new (zip_new3 k1 k2 k3 l1 l2 l3 xs ys zs) ⟨q1, q2, q3, ?_⟩
  have eA : (zA s.heap k1 l1).objs.size = s.heap.objs.size + 1 := Heap.size_push ..
  have eB : (zB s.heap k1 k2 l1 l2).objs.size = s.heap.objs.size + 2 := by unfold zB; rw [Heap.size_push, eA]
  have eF : (yB s.heap k1 k2 k3 l1 l2 l3).objs.size = s.heap.objs.size + 3 := by unfold yB; rw [Heap.size_push, eB]
  have eC : (yC s.heap k1 k2 k3 l1 l2 l3).objs.size = s.heap.objs.size + 4 := by unfold yC; rw [Heap.size_push, eF]
  have eD : (yD s.heap k1 k2 k3 l1 l2 l3).objs.size = s.heap.objs.size + 5 := by unfold yD; rw [Heap.size_push, eC]
  have uE : ∀ c o, (yD s.heap k1 k2 k3 l1 l2 l3).get? c = some o → (yE s.heap k1 k2 k3 l1 l2 l3).get? c = some o := fun c o e => Heap.get?_push_of_some _ e
  have uD : ∀ c o, (yC s.heap k1 k2 k3 l1 l2 l3).get? c = some o → (yE s.heap k1 k2 k3 l1 l2 l3).get? c = some o := fun c o e => uE c o (Heap.get?_push_of_some _ e)
  have uF : ∀ c o, (yB s.heap k1 k2 k3 l1 l2 l3).get? c = some o → (yE s.heap k1 k2 k3 l1 l2 l3).get? c = some o := fun c o e => uD c o (Heap.get?_push_of_some _ e)
  have uC : ∀ c o, (zB s.heap k1 k2 l1 l2).get? c = some o → (yE s.heap k1 k2 k3 l1 l2 l3).get? c = some o := fun c o e => uF c o (Heap.get?_push_of_some _ e)
  have uB : ∀ c o, (zA s.heap k1 l1).get? c = some o → (yE s.heap k1 k2 k3 l1 l2 l3).get? c = some o := fun c o e => uC c o (Heap.get?_push_of_some _ e)
  have uA : ∀ c o, s.heap.get? c = some o → (yE s.heap k1 k2 k3 l1 l2 l3).get? c = some o := fun c o e => uB c o (Heap.get?_push_of_some _ e)
  have gE : (yE s.heap k1 k2 k3 l1 l2 l3).get? (yD s.heap k1 k2 k3 l1 l2 l3).objs.size = some _ := Heap.get?_push_size _ rfl
  have gD : (yE s.heap k1 k2 k3 l1 l2 l3).get? (yC s.heap k1 k2 k3 l1 l2 l3).objs.size = some _ := uE _ _ (Heap.get?_push_size _ rfl)
  have gC : (yE s.heap k1 k2 k3 l1 l2 l3).get? (yB s.heap k1 k2 k3 l1 l2 l3).objs.size = some _ := uD _ _ (Heap.get?_push_size _ rfl)
  have gF : (yE s.heap k1 k2 k3 l1 l2 l3).get? (zB s.heap k1 k2 l1 l2).objs.size = some _ := uF _ _ (Heap.get?_push_size _ rfl)
  have gB : (yE s.heap k1 k2 k3 l1 l2 l3).get? (zA s.heap k1 l1).objs.size = some _ := uC _ _ (Heap.get?_push_size _ rfl)
  have gA : (yE s.heap k1 k2 k3 l1 l2 l3).get? s.heap.objs.size = some _ := uB _ _ (Heap.get?_push_size _ rfl)
  rw [eD, eF, eC] at gE
  rw [eF, eA, eB] at gC
  rw [eC] at gD
  rw [eB] at gF
  rw [eA] at gB
  show _ ∧ _
  rw [eD]
  exact ⟨⟨_, gE, rfl⟩, h _ _ rfl gE gC gD (HIt.mk0 gA) (HIt.mk0 gB) (HIt.mk0 gF) uA⟩
end
section
variable {X : Cx} {pins : List (Addr × Obj)} {σ : L2.St} {H : Hp} {s : Shared}
theorem seqK {k : Bool} {a : Addr} {xs : List V} (I : Inv X pins σ H s) (h : SqK X.K k H a xs) : ∃ its : List Value, Vals xs its ∧ HSq k s.heap a its.toArray := by
  cases k
  · obtain ⟨its, r, p, _⟩ := I.list (show SqL X.K H a xs from h)
    exact ⟨its, r, p.isList⟩
  · obtain ⟨its, r, p, _⟩ := I.tuple (show SqT X.K H a xs from h)
    exact ⟨its, r, p⟩
theorem seqK_inj {k : Bool} {a : Addr} {xs ys : List V} (I : Inv X pins σ H s) (h : SqK X.K k H a xs) (h' : SqK X.K k H a ys) : xs = ys := by
  cases k
  · exact I.list_inj (show SqL X.K H a xs from h) h'
  · exact I.tuple_inj (show SqT X.K H a xs from h) h'
theorem hd_in1 {A : Around} (h : A.handled = none) : A.in1.handled = none := h
end
/-- two sequences as they stand at each turn, the items in new pairs -/
def It2 (K : PySem.W.Frag) (k1 k2 : Bool) (a b : Addr) : It :=
  ⟨fun i H => ∃ (xs ys : List V), SqK K k1 H a xs ∧ SqK K k2 H b ys ∧ i < xs.length ∧ i < ys.length,
    fun i H v H' => ∃ T x y, v = .ref T ∧ H T = none ∧ H' = upd H T (.tup [x, y]) ∧ (∀ xs, SqK K k1 H a xs → xs[i]? = some x) ∧ (∀ ys, SqK K k2 H b ys → ys[i]? = some y),
    fun i H => ∃ xs ys : List V, SqK K k1 H a xs ∧ SqK K k2 H b ys ∧ i ≤ xs.length ∧ i ≤ ys.length ∧ (i = xs.length ∨ i = ys.length)⟩
structure Ap2 (n z TI TO i1 i2 a b : Addr) : Prop where
  e0 : i1 = n
  e1 : i2 = n + 1
  e2 : TI = n + 2
  e3 : TO = n + 3
  e4 : z = n + 4
  la : a < n
  lb : b < n
theorem nin2 {z i a : Nat} (h : z ≠ i ∧ z ≠ a) : z ∉ [i, a] := by
  intro h2
  rcases List.mem_cons.mp h2 with e | h2
  · exact h.1 e
  · exact h.2 (List.mem_singleton.mp h2)
theorem sepN (n a b : Nat) (la : a < n) (lb : b < n) : ZipSep2 (n + 4) (n + 2) (n + 3) n (n + 1) [n, a] [n + 1, b] where
  TIz := show @Ne Nat _ _ by omega
  TOz := show @Ne Nat _ _ by omega
  TITO := show @Ne Nat _ _ by omega
  TIi1 := show @Ne Nat _ _ by omega
  mem1 := List.mem_cons_self
  zf1 := nin2 (by omega)
  Tf1 := nin2 (by omega)
  TIi2 := show @Ne Nat _ _ by omega
  mem2 := List.mem_cons_self
  zf2 := nin2 (by omega)
  Tf2 := nin2 (by omega)
  sep1_2 := nin2 (by omega)
  sep2_1 := nin2 (by omega)
theorem Ap2.sep {n z TI TO i1 i2 a b : Addr} (D : Ap2 n z TI TO i1 i2 a b) : ZipSep2 z TI TO i1 i2 [i1, a] [i2, b] := by
  obtain ⟨rfl, rfl, rfl, rfl, rfl, la, lb⟩ := D
  exact sepN _ a b la lb
theorem Ap2.na {n z TI TO i1 i2 a b : Addr} (D : Ap2 n z TI TO i1 i2 a b) : a ≠ i1 := by
  rw [D.e0]
  exact Nat.ne_of_lt D.la
theorem Ap2.nb {n z TI TO i1 i2 a b : Addr} (D : Ap2 n z TI TO i1 i2 a b) : b ≠ i2 := by
  rw [D.e1]
  exact Nat.ne_of_lt (Nat.lt_succ_of_lt D.lb)
theorem vals_of : ∀ {xs : List V} {us : List Value} {i : Nat} {u : Value}, Vals xs us → us[i]? = some u → ∃ x, xs[i]? = some x ∧ RelV x u
  | _, _, _, _, .nil, e => by simp at e
  | _, _, 0, _, .cons r _, e => by
    have e' := Option.some.inj e
    subst e'
    exact ⟨_, rfl, r⟩
  | _, _, i + 1, u, .cons _ t, e => by
    obtain ⟨x, h1, h2⟩ := vals_of (i := i) (u := u) t e
    exact ⟨x, h1, h2⟩
theorem turn2 {P : Program} {w : World} {K : PySem.W.Frag} {k1 k2 : Bool} {elts : List Expr} {kk : Nat} {tpos : Pos} {n a b z TI TO i1 i2 : Addr} (D : Ap2 n z TI TO i1 i2 a b) :
    Turn P w K (.Tuple elts kk tpos) (It2 K k1 k2 a b) [z, TI, TO, i1, i2] z (fun i h => IsZip h z TI TO .none ∧ IsTupOf2 h TI (.ref i1) (.ref i2) ∧ (∃ x y, IsTupOf2 h TO x y) ∧ HIt k1 h i1 a i ∧ HIt k2 h i2 b i) := by
  have S := D.sep
  have na := D.na
  have nb := D.nb
  refine ⟨by simp, fun i h st c hc => ?_, fun i h h' st k => ?_, ?_, ?_, fun A i s Q E st h => wpAny_pyIter_zip st.1 h⟩
  · obtain ⟨z1, z2, ⟨x, y, z3⟩, z4, z5⟩ := st
    simp only [List.mem_cons, List.not_mem_nil, or_false] at hc
    rcases hc with q | q | q | q | q <;> rw [q]
    · exact ⟨_, z1, fun v q => nomatch q⟩
    · exact ⟨_, z2, fun v q => nomatch q⟩
    · exact ⟨_, z3, fun v q => nomatch q⟩
    · exact z4.obj
    · exact z5.obj
  · obtain ⟨z1, z2, ⟨x, y, z3⟩, z4, z5⟩ := st
    exact ⟨k z (by simp) _ z1, k TI (by simp) _ z2, ⟨x, y, k TO (by simp) _ z3⟩, z4.at fun o q => k i1 (by simp) o q, z5.at fun o q => k i2 (by simp) o q⟩
  · intro X hP hw hK hc i pins s σ H E I hf st hg
    subst hP hw hK
    obtain ⟨z1, z2, ⟨x0, y0, z3⟩, z4, z5⟩ := st
    obtain ⟨xs, ys, sx, sy, hx, hy⟩ := hg
    obtain ⟨its, rv, p⟩ := seqK I sx
    obtain ⟨its2, rv2, p2⟩ := seqK I sy
    have hh := hd_in1 (I.ok.hd hc)
    have l1 := rv.length
    have l2 := rv2.length
    have zlt : z < s.heap.objs.size := Heap.lt_size z1
    have lti : ∀ c ∈ [z, TI, TO, i1, i2], c < s.heap.objs.size := fun c hcm => by
      simp only [List.mem_cons, List.not_mem_nil, or_false] at hcm
      rcases hcm with q | q | q | q | q <;> rw [q]
      · exact zlt
      · exact Heap.lt_size z2
      · exact Heap.lt_size z3
      · exact z4.lt
      · exact z5.lt
    refine wpAny_pyNext_zipD2_item S (drawsK k1 hh na its.toArray) (drawsK k2 hh nb its2.toArray) z1 z2 z3 ⟨z4, p⟩ ⟨z5, p2⟩ (by simp; omega) (by simp; omega) fun u1 u2 h' tk hu1 hu2 g1 g2 g3 g4 g5 g6 g7 => ?_
    refine ⟨_, rfl, wpAny_letOwnedTupleGo_zip (s := { s with heap := h', toks := tk }) g1 fun h2 y1 sb => ?_⟩
    have hu1' : its[i]? = some u1 := by simpa using hu1
    have hu2' : its2[i]? = some u2 := by simpa using hu2
    obtain ⟨x, hx1, r1⟩ := vals_of rv hu1'
    obtain ⟨y, hy1, r2⟩ := vals_of rv2 hu2'
    have eT : h2.get? s.heap.objs.size = some { cls := .type "tuple", data := .seq #[u1, u2] } := (sb.2 _ (Nat.ne_of_gt zlt)).trans g5
    have new : ObjOk X.prog X.w (upd H s.heap.objs.size (.tup [x, y])) h2 s.heap.objs.size (.tup [x, y]) :=
      ⟨by show 2 ≤ sizeLine; decide, [u1, u2], .cons r1 (.cons r2 .nil), ⟨_, eT, rfl, _, rfl⟩⟩
    have kept : ∀ c o, c ∉ [z, TI, TO, i1, i2] → s.heap.get? c = some o → h2.get? c = some o := fun c o hb q => by
      simp only [List.mem_cons, List.not_mem_nil, or_false, not_or] at hb
      exact (sb.2 c hb.1).trans (g7 c o hb.1 hb.2.2.1 hb.2.2.2.1 hb.2.2.2.2 q)
    have I1 : Inv X pins σ (upd H s.heap.objs.size (.tup [x, y])) { s with heap := h2, toks := tk } := I.turnedNew (t' := tk) kept hf (Nat.le_refl _) new
    refine ⟨.ref s.heap.objs.size, _, I1, rfl, ⟨_, x, y, rfl, I.hok.fresh (Nat.le_refl _), rfl, fun l hl => by rw [seqK_inj I hl sx]; exact hx1, fun l hl => by rw [seqK_inj I hl sy]; exact hy1⟩, ⟨y1, ?_, ⟨u1, u2, ?_⟩, ?_, ?_⟩, fun c hcm => ?_⟩
    · exact (sb.2 _ S.TIz).trans (g7 _ _ S.TIz S.TITO S.TIi1 S.TIi2 z2)
    · exact (sb.2 _ S.TOz).trans g2
    · exact g3.1.at fun o q => (sb.2 _ S.zi1.symm).trans q
    · exact g4.1.at fun o q => (sb.2 _ S.zi2.symm).trans q
    · rw [upd_ne (Nat.ne_of_lt (lti c hcm))]
      exact (hf c hcm).1
  · intro X hP hw hK hc i pins s σ H E I hf st hg
    subst hP hw hK
    obtain ⟨z1, z2, ⟨x0, y0, z3⟩, z4, z5⟩ := st
    obtain ⟨xs, ys, sx, sy, hx, hy, he⟩ := hg
    obtain ⟨its, rv, p⟩ := seqK I sx
    obtain ⟨its2, rv2, p2⟩ := seqK I sy
    have hh := hd_in1 (I.ok.hd hc)
    have l1 := rv.length
    have l2 := rv2.length
    refine wpAny_pyNext_zipD2_end S (drawsK k1 hh na its.toArray) (drawsK k2 hh nb its2.toArray) z1 z2 z3 ⟨z4, p⟩ ⟨z5, p2⟩ (by simp; omega) (by simp; omega) (by simp; omega) fun h' tk g7 => ⟨rfl, ?_⟩
    refine I.turnedL (t' := tk) (ch := [z, TI, TO, i1, i2]) (fun c o hb q => ?_) hf
    simp only [List.mem_cons, List.not_mem_nil, or_false, not_or] at hb
    exact g7 c o hb.1 hb.2.2.1 hb.2.2.2.1 hb.2.2.2.2 q
def iZip2 (K : PySem.W.Frag) (k1 k2 : Bool) (ta : TA) : TI := fun σ H R => ta σ H fun vs H1 => ∃ a b xs ys, vs = [.ref a, .ref b] ∧ SqK K k1 H1 a xs ∧ SqK K k2 H1 b ys ∧ R (It2 K k1 k2 a b) H1
theorem pi_zip2 {X : Cx} {k1 k2 : Bool} {e e2 : Expr} {ta : TA} {p pos tpos : Pos} {elts : List Expr} {kk : Nat} (hg : Gl X "zip") (hm : X.mg "zip" = none) (ha : PA X [e, e2] ta)
    (hst : starEach [e, e2] X.env = (false, eval e X.env) :: starEach [e2] X.env := by rfl) (hpl : (backTo pos (starEach [e2] X.env)).any (·.1) = false := by rfl) :
    PI X (.Tuple elts kk tpos) (.Call (.Name "zip" p) [e, e2] [] pos) (iZip2 X.K k1 k2 ta) := by
  refine ⟨fun pins s σ H R I h => ?_⟩
  refine Call_ (ld_blt I hg hm PyProof.Rows.boot_zip (PyProof.Rows.callWith_type1 (thn (ha.run pos pins s σ H _ I h) fun us s1 ⟨vs, H1, I1, r1, q1⟩ => ?_) hst hpl))
  obtain ⟨a, b, xs, ys, ex, qx, qy, q⟩ := q1
  subst ex
  obtain ⟨its, rv, p1⟩ := seqK I1 qx
  obtain ⟨its2, rv2, p2⟩ := seqK I1 qy
  cases r1 with
  | cons r rr =>
    cases rr with
    | cons r' rr =>
      cases rr
      cases r
      cases r'
      refine zip_call2 p1 p2 fun h' n en g1 g2 g3 g4 g5 hk => wpAny_pyIter_zip g1 ?_
      have I2 : Inv X pins σ H1 { s1 with heap := h' } := I1.kept (t' := s1.toks) hk
      refine ⟨n + 4, [n + 4, n + 2, n + 3, n, n + 1], _, _, H1, rfl, I2, turn2 (n := n) ⟨rfl, rfl, rfl, rfl, rfl, by rw [en]; exact p1.lt, by rw [en]; exact p2.lt⟩, ⟨g1, g2, ⟨_, _, g3⟩, g4, g5⟩, fun c hcm => ?_, q⟩
      have hle : s1.heap.objs.size ≤ c := by
        simp only [List.mem_cons, List.not_mem_nil, or_false] at hcm
        have en' : (n : Nat) = s1.heap.objs.size := en
        rcases hcm with z | z | z | z | z <;> rw [z] <;> omega
      exact I1.fpOk hle (I1.hok.fresh hle)
/-! ### comprehensions whose items are data of tuples -/
theorem bools_inv {K : PySem.W.Frag} {H : Hp} : ∀ {vs : List V} {bs : List Bool}, TpAll K H vs (bs.map PyData.bool) → vs = bs.map V.bl
  | _, [], h => by cases h; rfl
  | _, b :: bs, h => by
    cases h with
    | cons a t => cases a; rw [bools_inv t]; rfl
theorem strs_inv {K : PySem.W.Frag} {H : Hp} : ∀ {vs : List V} {bs : List Str}, TpAll K H vs (bs.map PyData.str) → vs = bs.map V.str
  | _, [], h => by cases h; rfl
  | _, b :: bs, h => by
    cases h with
    | cons a t => cases a; rw [strs_inv t]; rfl
theorem bools_invF {K : PySem.W.Frag} {H : Hp} {α : Type} {vs : List V} {l : List α} {f : α → Bool} (h : TpAll K H vs (l.map fun x => PyData.bool (f x))) : vs = (l.map f).map V.bl := by
  refine bools_inv (K := K) (H := H) (bs := l.map f) ?_
  rw [List.map_map]
  exact h
theorem ints_invF {K : PySem.W.Frag} {H : Hp} {α : Type} {vs : List V} {l : List α} {f : α → Int} (h : TpAll K H vs (l.map fun x => PyData.int (f x))) : vs = (l.map f).map V.int := by
  refine TpAll.ints_inv (K := K) (H := H) (ns := l.map f) ?_
  rw [List.map_map]
  exact h
theorem TpAll.bools {K : PySem.W.Frag} {H : Hp} : ∀ bs : List Bool, TpAll K H (bs.map V.bl) (bs.map PyData.bool)
  | [] => .nil
  | b :: bs => .cons (.bl b) (TpAll.bools bs)
theorem TpAll.strs {K : PySem.W.Frag} {H : Hp} : ∀ bs : List Str, TpAll K H (bs.map V.str) (bs.map PyData.str)
  | [] => .nil
  | b :: bs => .cons (.str b) (TpAll.strs bs)
theorem rfm_all {α : Type} (n : Nat) (f : Nat → α) : (List.range n).filterMap (fun i => some (f i)) = (List.range n).map f := congrFun List.filterMap_eq_map _
theorem rfm_succ {α : Type} (n : Nat) (f : Nat → Option α) : (List.range (n + 1)).filterMap f = (List.range n).filterMap f ++ (f n).toList := by
  rw [List.range_succ, List.filterMap_append]
  congr 1
theorem range_map_get {α β : Type} (xs : List α) (f : α → β) (g : Nat → β) (h : ∀ i x, xs[i]? = some x → g i = f x) : (List.range xs.length).map g = xs.map f := by
  apply List.ext_getElem?
  intro i
  rw [List.getElem?_map, List.getElem?_map]
  by_cases hi : i < xs.length
  · rw [List.getElem?_range hi, List.getElem?_eq_getElem hi]
    exact congrArg some (h i _ (List.getElem?_eq_getElem hi))
  · rw [List.getElem?_eq_none (by rw [List.length_range]; omega), List.getElem?_eq_none (by omega)]
    rfl
theorem range_pick1 {α β : Type} (xs : List α) (f : α → β) : ∀ n, n ≤ xs.length → (List.range n).filterMap (fun i => (xs[i]?).map f) = (xs.take n).map f
  | 0, _ => rfl
  | n + 1, h => by
    rw [rfm_succ, range_pick1 xs f n (by omega), List.take_add_one, List.map_append, List.getElem?_eq_getElem (show n < xs.length by omega)]
    rfl
theorem range_pick {α β : Type} (xs : List α) (f : α → β) : (List.range xs.length).filterMap (fun i => (xs[i]?).map f) = xs.map f := by
  rw [range_pick1 xs f _ (Nat.le_refl _), List.take_length]
theorem gi_get {ns : List Int} {i : Nat} {x : Int} (h : ns[i]? = some x) : gi ns (i : Int) = x := by
  obtain ⟨h1, h2⟩ := List.getElem?_eq_some_iff.mp h
  rw [gi_nat h1]
  exact h2
section
variable {σ : L2.St} {H H0 : Hp} {Q : VK} {te : TE} {tt : TT} {g : TG} {j : Int} {K : PySem.W.Frag} {L : List (Addr × HO)} {J : It} {vs : List Nat}
/-- what a turn's target is to reach: the test and the item there -/
def CGo (K : PySem.W.Frag) (tt : TT) (te : TE) (vs : List Nat) (σ : L2.St) (od : Option PyData) (H' : Hp) (R : L2.St → Hp → Prop) : Prop :=
  ∀ σ2, wipe σ2 vs = wipe σ vs → (∀ Qb : Bool → Hp → Prop, (∀ H2, Same H' H2 → Qb od.isSome H2) → tt σ2 H' Qb) → (∀ d H2, od = some d → Same H' H2 → ∀ Qv : VK, RetD K H2 Qv d → te σ2 H2 Qv) → R σ2 H'
theorem lcJ (n : Nat) (sel : Nat → Option PyData) (o : Own H0 H L) (hz : n < 10000000)
    (hst : ∀ H' p zs, Own H0 H' ((p, .lst zs) :: L) → Stp H H' → J.stop n H')
    (hgo : ∀ i H' p zs, i < n → Own H0 H' ((p, .lst zs) :: L) → Stp H H' → J.go i H')
    (he : ∀ (i : Nat) (x : V) (p : Addr) (zs : List V) (H' H1 : Hp) (R : L2.St → Hp → Prop), i < n → Own H0 H' ((p, .lst zs) :: L) → Stp H H' → J.yld i H' x H1 → (Same H' H1 → CGo K tt te vs σ (sel i) H1 R) → g x (wipe σ vs) H1 R)
    (hs : ∀ i H' x H1, J.yld i H' x H1 → Same H' H1)
    (k : ∀ p H' zs, Stp H H' → Own H0 H' ((p, .lst zs) :: L) → TpAll K H' zs ((List.range n).filterMap sel) → Q (.ref p) H') : RLc J g tt te vs σ H Q := by
  intro P hP
  refine ⟨fun i m H' => m = n - i ∧ i ≤ n ∧ ∃ zs, Own H0 H' ((P, .lst zs) :: L) ∧ Stp H H' ∧ TpAll K H' zs ((List.range i).filterMap sel), ⟨n, rfl, Nat.zero_le _, [], o.new hP, .of (same_new hP), .nil⟩, ?_⟩
  rintro i m H' ⟨rfl, hi, zs, o', s', t'⟩
  by_cases hlt : i < n
  · refine .inr ⟨hgo i H' P zs hlt o' s', fun H2 => ∃ zs, Own H0 H2 ((P, .lst zs) :: L) ∧ Stp H H2 ∧ TpAll K H2 zs ((List.range (i + 1)).filterMap sel), fun H2 p2 => ⟨n - (i + 1), by omega, rfl, hlt, p2⟩, fun x H1 hy => ?_⟩
    have s1 := hs i H' x H1 hy
    refine he i x P zs H' H1 _ hlt o' s' hy fun _ σ2 hw ht hv => ⟨hw, ?_⟩
    have o1 := o'.mono s1
    refine ht _ fun H2 s2 => ?_
    have o2 := o1.mono s2
    have t2 := (t'.up (.of s1)).up (Stp.of s2)
    have hl := t2.len
    have hl2 := fm_le (List.range i) sel
    rw [List.length_range] at hl2
    cases e : sel i with
    | none =>
      show ∃ zs, _
      rw [rfm_succ, e]
      exact ⟨zs, o2, (s'.trans (.of s1)).trans (.of s2), by rw [Option.toList_none, List.append_nil]; exact t2⟩
    | some d =>
      refine iteT (B := ∃ zs, Own H0 H2 ((P, .lst zs) :: L) ∧ Stp H H2 ∧ TpAll K H2 zs ((List.range (i + 1)).filterMap sel)) (hv d H2 e s2 _ fun H4 v s4 tv => ?_)
      have o4 := o2.mono s4
      have s5 := Stp.set (u := .lst (zs ++ [v])) (o4.at 0 rfl)
      refine ⟨zs, o4.at 0 rfl, sz_lt (by omega), zs ++ [v], o4.set (v := .lst (zs ++ [v])) 0 rfl, (((s'.trans (.of s1)).trans (.of s2)).trans (.of s4)).trans s5, ?_⟩
      rw [rfm_succ, e]
      exact (((t2.up (.of s4)).snoc tv).up s5)
  · refine .inl ⟨?_, ?_⟩
    · have e : i = n := by omega
      subst e
      exact hst H' P zs o' s'
    · have e : i = n := by omega
      subst e
      exact k P H' zs s' o' t'
/-- over a tuple -/
theorem lcjT {a : Addr} {xs : List V} (sel : Nat → Option PyData) (o : Own H0 H L) (h1 : SqT K H a xs) (hz : xs.length < 10000000)
    (he : ∀ (i : Nat) (x : V) (p : Addr) (zs : List V) (H' : Hp) (R : L2.St → Hp → Prop), xs[i]? = some x → Own H0 H' ((p, .lst zs) :: L) → Stp H H' → CGo K tt te vs σ (sel i) H' R → g x (wipe σ vs) H' R)
    (k : ∀ p H' zs, Stp H H' → Own H0 H' ((p, .lst zs) :: L) → TpAll K H' zs ((List.range xs.length).filterMap sel) → Q (.ref p) H') :
    ∃ a', V.ref a = .ref a' ∧ (∃ xs, SqT K H a' xs) ∧ RLc (Itt K a') g tt te vs σ H Q := by
  refine ⟨a, rfl, ⟨xs, h1⟩, lcJ xs.length sel o hz (fun H' p zs _ s' => ⟨xs, s'.sq h1, Nat.le_refl _⟩) (fun i H' p zs hi _ s' => ⟨xs, _, s'.sq h1, List.getElem?_eq_getElem hi⟩) (fun i x p zs H' H1 R hi o' s' hy r => ?_) (fun i H' x H1 hy => by rw [hy.1]; exact Same.refl _) k⟩
  obtain ⟨e, hx⟩ := hy
  subst e
  exact he i x p zs H1 R (hx xs (s'.sq h1)) o' s' (r (Same.refl _))
/-- over a list -/
theorem lcjL {a : Addr} {xs : List V} (sel : Nat → Option PyData) (o : Own H0 H L) (h : ∀ H' p zs, Own H0 H' ((p, .lst zs) :: L) → SqL K H' a xs) (h1 : SqL K H a xs) (hz : xs.length < 10000000)
    (he : ∀ (i : Nat) (x : V) (p : Addr) (zs : List V) (H' : Hp) (R : L2.St → Hp → Prop), xs[i]? = some x → Own H0 H' ((p, .lst zs) :: L) → Stp H H' → CGo K tt te vs σ (sel i) H' R → g x (wipe σ vs) H' R)
    (k : ∀ p H' zs, Stp H H' → Own H0 H' ((p, .lst zs) :: L) → TpAll K H' zs ((List.range xs.length).filterMap sel) → Q (.ref p) H') :
    ∃ a', V.ref a = .ref a' ∧ (∃ xs, SqL K H a' xs) ∧ RLc (Itl K a') g tt te vs σ H Q := by
  refine ⟨a, rfl, ⟨xs, h1⟩, lcJ xs.length sel o hz (fun H' p zs o' _ => ⟨xs, h H' p zs o', Nat.le_refl _⟩) (fun i H' p zs hi o' s' => ⟨xs, _, h H' p zs o', List.getElem?_eq_getElem hi⟩) (fun i x p zs H' H1 R hi o' s' hy r => ?_) (fun i H' x H1 hy => by rw [hy.1]; exact Same.refl _) k⟩
  obtain ⟨e, hx⟩ := hy
  subst e
  exact he i x p zs H1 R (hx xs (h H1 p zs o')) o' s' (r (Same.refl _))
/-- over range(n) -/
theorem lcjR {n : Nat} (sel : Nat → Option PyData) (o : Own H0 H L) (hn : j = (n : Int)) (hz : n < 10000000)
    (he : ∀ (i : Nat) (p : Addr) (zs : List V) (H' : Hp) (R : L2.St → Hp → Prop), i < n → Own H0 H' ((p, .lst zs) :: L) → Stp H H' → CGo K tt te vs σ (sel i) H' R → g (.int (i : Int)) (wipe σ vs) H' R)
    (k : ∀ p H' zs, Stp H H' → Own H0 H' ((p, .lst zs) :: L) → TpAll K H' zs ((List.range n).filterMap sel) → Q (.ref p) H') :
    ∃ k : Int, [V.int j] = [.int k] ∧ -(2 ^ 62) ≤ k ∧ k < 2 ^ 62 ∧ RLc (Itr 0 k.toNat) g tt te vs σ H Q := by
  refine ⟨j, rfl, by omega, by omega, ?_⟩
  have e : j.toNat = n := by omega
  rw [e]
  refine lcJ n sel o hz (fun H' p zs _ _ => Nat.le_refl _) (fun i H' p zs hi _ _ => hi) (fun i x p zs H' H1 R hi o' s' hy r => ?_) (fun i H' x H1 hy => by rw [hy.1]; exact Same.refl _) k
  obtain ⟨e, rfl⟩ := hy
  subst e
  have e0 : (0 : Int) + (i : Int) = (i : Int) := Int.zero_add _
  rw [e0]
  exact he i p zs H1 R hi o' s' (r (Same.refl _))
/-- over zip of two tuples, the shorter one ends it -/
theorem lcjZ {a b : Addr} {xs ys : List V} {n : Nat} (sel : Nat → Option PyData) (o : Own H0 H L) (h1 : SqT K H a xs) (h2 : SqT K H b ys) (hn : n = min xs.length ys.length) (hz : n < 10000000)
    (he : ∀ (i : Nat) (x y : V) (T : Addr) (p : Addr) (zs : List V) (H' : Hp) (R : L2.St → Hp → Prop), xs[i]? = some x → ys[i]? = some y → SqT K H' T [x, y] → Own H0 H' ((p, .lst zs) :: L) → Stp H H' → CGo K tt te vs σ (sel i) H' R → g (.ref T) (wipe σ vs) H' R)
    (k : ∀ p H' zs, Stp H H' → Own H0 H' ((p, .lst zs) :: L) → TpAll K H' zs ((List.range n).filterMap sel) → Q (.ref p) H') :
    RZipA K [.ref a, .ref b] H fun J H1 => RLc J g tt te vs σ H1 Q := by
  refine ⟨a, b, xs, ys, rfl, .inr ⟨h1, h2, lcJ n sel o hz (fun H' p zs _ s' => ⟨xs, ys, s'.sq h1, s'.sq h2, by omega⟩) (fun i H' p zs hi _ s' => ⟨xs, ys, _, _, s'.sq h1, s'.sq h2, List.getElem?_eq_getElem (by omega), List.getElem?_eq_getElem (by omega)⟩) (fun i x p zs H' H1 R hi o' s' hy r => ?_) (fun i H' x H1 hy => ?_) k⟩⟩
  · obtain ⟨T, u, v, rfl, hT, rfl, f1, f2⟩ := hy
    have s1 : Same H' (upd H' T (.tup [u, v])) := same_new hT
    exact he i u v T p zs _ R (f1 xs (s'.sq h1)) (f2 ys (s'.sq h2)) (SqT.of upd_same) (o'.mono s1) (s'.trans (.of s1)) (r s1)
  · obtain ⟨T, u, v, rfl, hT, rfl, f1, f2⟩ := hy
    exact same_new hT
/-- over zip of two lists -/
theorem lcjZL {a b : Addr} {xs ys : List V} {n : Nat} (sel : Nat → Option PyData) (o : Own H0 H L) (h : ∀ H' p zs, Own H0 H' ((p, .lst zs) :: L) → SqL K H' a xs ∧ SqL K H' b ys) (h1 : SqL K H a xs) (h2 : SqL K H b ys) (hn : n = min xs.length ys.length) (hz : n < 10000000)
    (he : ∀ (i : Nat) (x y : V) (T : Addr) (p : Addr) (zs : List V) (H' : Hp) (R : L2.St → Hp → Prop), xs[i]? = some x → ys[i]? = some y → SqT K H' T [x, y] → Own H0 H' ((p, .lst zs) :: L) → Stp H H' → CGo K tt te vs σ (sel i) H' R → g (.ref T) (wipe σ vs) H' R)
    (k : ∀ p H' zs, Stp H H' → Own H0 H' ((p, .lst zs) :: L) → TpAll K H' zs ((List.range n).filterMap sel) → Q (.ref p) H') :
    RZipA K [.ref a, .ref b] H fun J H1 => RLc J g tt te vs σ H1 Q := by
  refine ⟨a, b, xs, ys, rfl, .inl ⟨h1, h2, lcJ n sel o hz (fun H' p zs o' s' => ⟨xs, ys, (h H' p zs o').1, (h H' p zs o').2, by omega⟩) (fun i H' p zs hi o' s' => ⟨xs, ys, _, _, (h H' p zs o').1, (h H' p zs o').2, List.getElem?_eq_getElem (by omega), List.getElem?_eq_getElem (by omega)⟩) (fun i x p zs H' H1 R hi o' s' hy r => ?_) (fun i H' x H1 hy => ?_) k⟩⟩
  · obtain ⟨T, u, v, rfl, hT, rfl, f1, f2⟩ := hy
    have s1 : Same H' (upd H' T (.tup [u, v])) := same_new hT
    exact he i u v T p zs _ R (f1 xs (h H' p zs o').1) (f2 ys (h H' p zs o').2) (SqT.of upd_same) (o'.mono s1) (s'.trans (.of s1)) (r s1)
  · obtain ⟨T, u, v, rfl, hT, rfl, f1, f2⟩ := hy
    exact same_new hT
/-- enumerate(list) -/
theorem lcjE {a : Addr} {xs : List V} (sel : Nat → Option PyData) (o : Own H0 H L) (h : ∀ H' p zs, Own H0 H' ((p, .lst zs) :: L) → SqL K H' a xs) (h1 : SqL K H a xs) (hz : xs.length < 10000000)
    (he : ∀ (i : Nat) (x : V) (T : Addr) (p : Addr) (zs : List V) (H' : Hp) (R : L2.St → Hp → Prop), xs[i]? = some x → SqT K H' T [.int (i : Int), x] → Own H0 H' ((p, .lst zs) :: L) → Stp H H' → CGo K tt te vs σ (sel i) H' R → g (.ref T) (wipe σ vs) H' R)
    (k : ∀ p H' zs, Stp H H' → Own H0 H' ((p, .lst zs) :: L) → TpAll K H' zs ((List.range xs.length).filterMap sel) → Q (.ref p) H') :
    ∃ a' xs', [V.ref a] = [.ref a'] ∧ SqL K H a' xs' ∧ RLc (Ite K a') g tt te vs σ H Q := by
  refine ⟨a, xs, rfl, h1, lcJ xs.length sel o hz (fun H' p zs o' _ => ⟨xs, h H' p zs o', Nat.le_refl _⟩) (fun i H' p zs hi o' s' => ⟨xs, _, h H' p zs o', List.getElem?_eq_getElem hi⟩) (fun i x p zs H' H1 R hi o' s' hy r => ?_) (fun i H' x H1 hy => ?_) k⟩
  · obtain ⟨T, u, rfl, hT, rfl, f1⟩ := hy
    have s1 : Same H' (upd H' T (.tup [.int (i : Nat), u])) := same_new hT
    exact he i u T p zs _ R (f1 xs (h H' p zs o')) (SqT.of upd_same) (o'.mono s1) (s'.trans (.of s1)) (r s1)
  · obtain ⟨T, u, rfl, hT, rfl, f1⟩ := hy
    exact same_new hT
end
/-- three sequences as they stand at each turn, the items in new triples -/
def It3 (K : PySem.W.Frag) (k1 k2 k3 : Bool) (a b d : Addr) : It :=
  ⟨fun i H => ∃ (xs ys zs : List V), SqK K k1 H a xs ∧ SqK K k2 H b ys ∧ SqK K k3 H d zs ∧ i < xs.length ∧ i < ys.length ∧ i < zs.length,
    fun i H v H' => ∃ T x y u, v = .ref T ∧ H T = none ∧ H' = upd H T (.tup [x, y, u]) ∧ (∀ xs, SqK K k1 H a xs → xs[i]? = some x) ∧ (∀ ys, SqK K k2 H b ys → ys[i]? = some y) ∧ (∀ zs, SqK K k3 H d zs → zs[i]? = some u),
    fun i H => ∃ xs ys zs : List V, SqK K k1 H a xs ∧ SqK K k2 H b ys ∧ SqK K k3 H d zs ∧ i ≤ xs.length ∧ i ≤ ys.length ∧ i ≤ zs.length ∧ (i = xs.length ∨ i = ys.length ∨ i = zs.length)⟩
structure Ap3 (n z TI TO i1 i2 i3 a b d : Addr) : Prop where
  e0 : i1 = n
  e1 : i2 = n + 1
  e5 : i3 = n + 2
  e2 : TI = n + 3
  e3 : TO = n + 4
  e4 : z = n + 5
  la : a < n
  lb : b < n
  ld : d < n
theorem sepN3 (n a b d : Nat) (la : a < n) (lb : b < n) (ld : d < n) : ZipSep3 (n + 5) (n + 3) (n + 4) n (n + 1) (n + 2) [n, a] [n + 1, b] [n + 2, d] where
  TIz := show @Ne Nat _ _ by omega
  TOz := show @Ne Nat _ _ by omega
  TITO := show @Ne Nat _ _ by omega
  TIi1 := show @Ne Nat _ _ by omega
  mem1 := List.mem_cons_self
  zf1 := nin2 (by omega)
  Tf1 := nin2 (by omega)
  TIi2 := show @Ne Nat _ _ by omega
  mem2 := List.mem_cons_self
  zf2 := nin2 (by omega)
  Tf2 := nin2 (by omega)
  TIi3 := show @Ne Nat _ _ by omega
  mem3 := List.mem_cons_self
  zf3 := nin2 (by omega)
  Tf3 := nin2 (by omega)
  sep1_2 := nin2 (by omega)
  sep1_3 := nin2 (by omega)
  sep2_1 := nin2 (by omega)
  sep2_3 := nin2 (by omega)
  sep3_1 := nin2 (by omega)
  sep3_2 := nin2 (by omega)
theorem Ap3.sep {n z TI TO i1 i2 i3 a b d : Addr} (D : Ap3 n z TI TO i1 i2 i3 a b d) : ZipSep3 z TI TO i1 i2 i3 [i1, a] [i2, b] [i3, d] := by
  obtain ⟨rfl, rfl, rfl, rfl, rfl, rfl, la, lb, ld⟩ := D
  exact sepN3 _ a b d la lb ld
theorem Ap3.na {n z TI TO i1 i2 i3 a b d : Addr} (D : Ap3 n z TI TO i1 i2 i3 a b d) : a ≠ i1 := by
  rw [D.e0]
  exact Nat.ne_of_lt D.la
theorem Ap3.nb {n z TI TO i1 i2 i3 a b d : Addr} (D : Ap3 n z TI TO i1 i2 i3 a b d) : b ≠ i2 := by
  rw [D.e1]
  exact Nat.ne_of_lt (Nat.lt_succ_of_lt D.lb)
theorem Ap3.nd {n z TI TO i1 i2 i3 a b d : Addr} (D : Ap3 n z TI TO i1 i2 i3 a b d) : d ≠ i3 := by
  rw [D.e5]
  exact Nat.ne_of_lt (Nat.lt_succ_of_lt (Nat.lt_succ_of_lt D.ld))
theorem turn3 {P : Program} {w : World} {K : PySem.W.Frag} {k1 k2 k3 : Bool} {elts : List Expr} {kk : Nat} {tpos : Pos} {n a b d z TI TO i1 i2 i3 : Addr} (D : Ap3 n z TI TO i1 i2 i3 a b d) :
    Turn P w K (.Tuple elts kk tpos) (It3 K k1 k2 k3 a b d) [z, TI, TO, i1, i2, i3] z (fun i h => IsZip h z TI TO .none ∧ IsTupOf3 h TI (.ref i1) (.ref i2) (.ref i3) ∧ (∃ x y u, IsTupOf3 h TO x y u) ∧ HIt k1 h i1 a i ∧ HIt k2 h i2 b i ∧ HIt k3 h i3 d i) := by
  have S := D.sep
  have na := D.na
  have nb := D.nb
  have nd := D.nd
  refine ⟨by simp, fun i h st c hc => ?_, fun i h h' st k => ?_, ?_, ?_, fun A i s Q E st h => wpAny_pyIter_zip st.1 h⟩
  · obtain ⟨z1, z2, ⟨x, y, u, z3⟩, z4, z5, z6⟩ := st
    simp only [List.mem_cons, List.not_mem_nil, or_false] at hc
    rcases hc with q | q | q | q | q | q <;> rw [q]
    · exact ⟨_, z1, fun v q => nomatch q⟩
    · exact ⟨_, z2, fun v q => nomatch q⟩
    · exact ⟨_, z3, fun v q => nomatch q⟩
    · exact z4.obj
    · exact z5.obj
    · exact z6.obj
  · obtain ⟨z1, z2, ⟨x, y, u, z3⟩, z4, z5, z6⟩ := st
    exact ⟨k z (by simp) _ z1, k TI (by simp) _ z2, ⟨x, y, u, k TO (by simp) _ z3⟩, z4.at fun o q => k i1 (by simp) o q, z5.at fun o q => k i2 (by simp) o q, z6.at fun o q => k i3 (by simp) o q⟩
  · intro X hP hw hK hc i pins s σ H E I hf st hg
    subst hP hw hK
    obtain ⟨z1, z2, ⟨x0, y0, u0, z3⟩, z4, z5, z6⟩ := st
    obtain ⟨xs, ys, zs, sx, sy, sz, hx, hy, hz⟩ := hg
    obtain ⟨its, rv, p⟩ := seqK I sx
    obtain ⟨its2, rv2, p2⟩ := seqK I sy
    obtain ⟨its3, rv3, p3⟩ := seqK I sz
    have hh := hd_in1 (I.ok.hd hc)
    have l1 := rv.length
    have l2 := rv2.length
    have l3 := rv3.length
    have zlt : z < s.heap.objs.size := Heap.lt_size z1
    have lti : ∀ c ∈ [z, TI, TO, i1, i2, i3], c < s.heap.objs.size := fun c hcm => by
      simp only [List.mem_cons, List.not_mem_nil, or_false] at hcm
      rcases hcm with q | q | q | q | q | q <;> rw [q]
      · exact zlt
      · exact Heap.lt_size z2
      · exact Heap.lt_size z3
      · exact z4.lt
      · exact z5.lt
      · exact z6.lt
    refine wpAny_pyNext_zipD3_item S (drawsK k1 hh na its.toArray) (drawsK k2 hh nb its2.toArray) (drawsK k3 hh nd its3.toArray) z1 z2 z3 ⟨z4, p⟩ ⟨z5, p2⟩ ⟨z6, p3⟩ (by simp; omega) (by simp; omega) (by simp; omega) fun u1 u2 u3 h' tk hu1 hu2 hu3 g1 g2 g3 g4 g8 g5 g6 g7 => ?_
    refine ⟨_, rfl, wpAny_letOwnedTupleGo_zip (s := { s with heap := h', toks := tk }) g1 fun h2 y1 sb => ?_⟩
    have hu1' : its[i]? = some u1 := by simpa using hu1
    have hu2' : its2[i]? = some u2 := by simpa using hu2
    have hu3' : its3[i]? = some u3 := by simpa using hu3
    obtain ⟨x, hx1, r1⟩ := vals_of rv hu1'
    obtain ⟨y, hy1, r2⟩ := vals_of rv2 hu2'
    obtain ⟨u, hz1, r3⟩ := vals_of rv3 hu3'
    have eT : h2.get? s.heap.objs.size = some { cls := .type "tuple", data := .seq #[u1, u2, u3] } := (sb.2 _ (Nat.ne_of_gt zlt)).trans g5
    have new : ObjOk X.prog X.w (upd H s.heap.objs.size (.tup [x, y, u])) h2 s.heap.objs.size (.tup [x, y, u]) :=
      ⟨by show 3 ≤ sizeLine; decide, [u1, u2, u3], .cons r1 (.cons r2 (.cons r3 .nil)), ⟨_, eT, rfl, _, rfl⟩⟩
    have kept : ∀ c o, c ∉ [z, TI, TO, i1, i2, i3] → s.heap.get? c = some o → h2.get? c = some o := fun c o hb q => by
      simp only [List.mem_cons, List.not_mem_nil, or_false, not_or] at hb
      exact (sb.2 c hb.1).trans (g7 c o hb.1 hb.2.2.1 hb.2.2.2.1 hb.2.2.2.2.1 hb.2.2.2.2.2 q)
    have I1 : Inv X pins σ (upd H s.heap.objs.size (.tup [x, y, u])) { s with heap := h2, toks := tk } := I.turnedNew (t' := tk) kept hf (Nat.le_refl _) new
    refine ⟨.ref s.heap.objs.size, _, I1, rfl, ⟨_, x, y, u, rfl, I.hok.fresh (Nat.le_refl _), rfl, fun l hl => by rw [seqK_inj I hl sx]; exact hx1, fun l hl => by rw [seqK_inj I hl sy]; exact hy1, fun l hl => by rw [seqK_inj I hl sz]; exact hz1⟩, ⟨y1, ?_, ⟨u1, u2, u3, ?_⟩, ?_, ?_, ?_⟩, fun c hcm => ?_⟩
    · exact (sb.2 _ S.TIz).trans (g7 _ _ S.TIz S.TITO S.TIi1 S.TIi2 S.TIi3 z2)
    · exact (sb.2 _ S.TOz).trans g2
    · exact g3.1.at fun o q => (sb.2 _ S.zi1.symm).trans q
    · exact g4.1.at fun o q => (sb.2 _ S.zi2.symm).trans q
    · exact g8.1.at fun o q => (sb.2 _ S.zi3.symm).trans q
    · rw [upd_ne (Nat.ne_of_lt (lti c hcm))]
      exact (hf c hcm).1
  · intro X hP hw hK hc i pins s σ H E I hf st hg
    subst hP hw hK
    obtain ⟨z1, z2, ⟨x0, y0, u0, z3⟩, z4, z5, z6⟩ := st
    obtain ⟨xs, ys, zs, sx, sy, sz, hx, hy, hz, he⟩ := hg
    obtain ⟨its, rv, p⟩ := seqK I sx
    obtain ⟨its2, rv2, p2⟩ := seqK I sy
    obtain ⟨its3, rv3, p3⟩ := seqK I sz
    have hh := hd_in1 (I.ok.hd hc)
    have l1 := rv.length
    have l2 := rv2.length
    have l3 := rv3.length
    refine wpAny_pyNext_zipD3_end S (drawsK k1 hh na its.toArray) (drawsK k2 hh nb its2.toArray) (drawsK k3 hh nd its3.toArray) z1 z2 z3 ⟨z4, p⟩ ⟨z5, p2⟩ ⟨z6, p3⟩ (by simp; omega) (by simp; omega) (by simp; omega) (by simp; omega) fun h' tk g7 => ⟨rfl, ?_⟩
    refine I.turnedL (t' := tk) (ch := [z, TI, TO, i1, i2, i3]) (fun c o hb q => ?_) hf
    simp only [List.mem_cons, List.not_mem_nil, or_false, not_or] at hb
    exact g7 c o hb.1 hb.2.2.1 hb.2.2.2.1 hb.2.2.2.2.1 hb.2.2.2.2.2 q
def iZip3 (K : PySem.W.Frag) (k1 k2 k3 : Bool) (ta : TA) : TI := fun σ H R => ta σ H fun vs H1 => ∃ a b d xs ys zs, vs = [.ref a, .ref b, .ref d] ∧ SqK K k1 H1 a xs ∧ SqK K k2 H1 b ys ∧ SqK K k3 H1 d zs ∧ R (It3 K k1 k2 k3 a b d) H1
theorem pi_zip3 {X : Cx} {k1 k2 k3 : Bool} {e e2 e3 : Expr} {ta : TA} {p pos tpos : Pos} {elts : List Expr} {kk : Nat} (hg : Gl X "zip") (hm : X.mg "zip" = none) (ha : PA X [e, e2, e3] ta)
    (hst : starEach [e, e2, e3] X.env = (false, eval e X.env) :: starEach [e2, e3] X.env := by rfl) (hpl : (backTo pos (starEach [e2, e3] X.env)).any (·.1) = false := by rfl) :
    PI X (.Tuple elts kk tpos) (.Call (.Name "zip" p) [e, e2, e3] [] pos) (iZip3 X.K k1 k2 k3 ta) := by
  refine ⟨fun pins s σ H R I h => ?_⟩
  refine Call_ (ld_blt I hg hm PyProof.Rows.boot_zip (PyProof.Rows.callWith_type1 (thn (ha.run pos pins s σ H _ I h) fun us s1 ⟨vs, H1, I1, r1, q1⟩ => ?_) hst hpl))
  obtain ⟨a, b, d, xs, ys, zs, ex, qx, qy, qz, q⟩ := q1
  subst ex
  obtain ⟨its, rv, p1⟩ := seqK I1 qx
  obtain ⟨its2, rv2, p2⟩ := seqK I1 qy
  obtain ⟨its3, rv3, p3⟩ := seqK I1 qz
  cases r1 with
  | cons r rr =>
    cases rr with
    | cons r' rr =>
      cases rr with
      | cons r'' rr =>
        cases rr
        cases r
        cases r'
        cases r''
        refine zip_call3 p1 p2 p3 fun h' n en g1 g2 g3 g4 g5 g6 hk => wpAny_pyIter_zip g1 ?_
        have I2 : Inv X pins σ H1 { s1 with heap := h' } := I1.kept (t' := s1.toks) hk
        refine ⟨n + 5, [n + 5, n + 3, n + 4, n, n + 1, n + 2], _, _, H1, rfl, I2, turn3 (n := n) ⟨rfl, rfl, rfl, rfl, rfl, rfl, by rw [en]; exact p1.lt, by rw [en]; exact p2.lt, by rw [en]; exact p3.lt⟩, ⟨g1, g2, ⟨_, _, _, g3⟩, g4, g5, g6⟩, fun c hcm => ?_, q⟩
        have hle : s1.heap.objs.size ≤ c := by
          simp only [List.mem_cons, List.not_mem_nil, or_false] at hcm
          have en' : (n : Nat) = s1.heap.objs.size := en
          rcases hcm with z | z | z | z | z | z <;> rw [z] <;> omega
        exact I1.fpOk hle (I1.hok.fresh hle)
section
variable {σ : L2.St} {H H0 : Hp} {Q : VK} {te : TE} {tt : TT} {g : TG} {K : PySem.W.Frag} {L : List (Addr × HO)} {vs : List Nat} {tr : TA}
def RZ2 (K : PySem.W.Frag) (k1 k2 : Bool) (vs : List V) (H1 : Hp) (R : It → Hp → Prop) : Prop := ∃ a b xs ys, vs = [.ref a, .ref b] ∧ SqK K k1 H1 a xs ∧ SqK K k2 H1 b ys ∧ R (It2 K k1 k2 a b) H1
def RZ3 (K : PySem.W.Frag) (k1 k2 k3 : Bool) (vs : List V) (H1 : Hp) (R : It → Hp → Prop) : Prop := ∃ a b d xs ys zs, vs = [.ref a, .ref b, .ref d] ∧ SqK K k1 H1 a xs ∧ SqK K k2 H1 b ys ∧ SqK K k3 H1 d zs ∧ R (It3 K k1 k2 k3 a b d) H1
theorem r_z2 {k1 k2 : Bool} {R : It → Hp → Prop} (q : tr σ H fun vs H1 => RZ2 K k1 k2 vs H1 R) : iZip2 K k1 k2 tr σ H R := q
theorem r_z3 {k1 k2 k3 : Bool} {R : It → Hp → Prop} (q : tr σ H fun vs H1 => RZ3 K k1 k2 k3 vs H1 R) : iZip3 K k1 k2 k3 tr σ H R := q
/-- a comprehension over zip of two; sa, sb: that they stand -/
theorem lcj2 {k1 k2 : Bool} {a b : Addr} {xs ys : List V} {n : Nat} (sel : Nat → Option PyData) (o : Own H0 H L) (hq : ∀ H' p zs, Own H0 H' ((p, .lst zs) :: L) → Stp H H' → SqK K k1 H' a xs ∧ SqK K k2 H' b ys) (h1 : SqK K k1 H a xs) (h2 : SqK K k2 H b ys) (hn : n = min xs.length ys.length) (hz : n < 10000000)
    (he : ∀ (i : Nat) (x y : V) (T : Addr) (p : Addr) (zs : List V) (H' : Hp) (R : L2.St → Hp → Prop), xs[i]? = some x → ys[i]? = some y → SqT K H' T [x, y] → Own H0 H' ((p, .lst zs) :: L) → Stp H H' → CGo K tt te vs σ (sel i) H' R → g (.ref T) (wipe σ vs) H' R)
    (k : ∀ p H' zs, Stp H H' → Own H0 H' ((p, .lst zs) :: L) → TpAll K H' zs ((List.range n).filterMap sel) → Q (.ref p) H') :
    RZ2 K k1 k2 [.ref a, .ref b] H fun J H1 => RLc J g tt te vs σ H1 Q := by
  refine ⟨a, b, xs, ys, rfl, h1, h2, lcJ n sel o hz (fun H' p zs o' s' => ⟨xs, ys, (hq H' p zs o' s').1, (hq H' p zs o' s').2, by omega, by omega, by omega⟩) (fun i H' p zs hi o' s' => ⟨xs, ys, (hq H' p zs o' s').1, (hq H' p zs o' s').2, by omega, by omega⟩) (fun i x p zs H' H1 R hi o' s' hy r => ?_) (fun i H' x H1 hy => ?_) k⟩
  · obtain ⟨T, u, v, rfl, hT, rfl, f1, f2⟩ := hy
    have s1 : Same H' (upd H' T (.tup [u, v])) := same_new hT
    exact he i u v T p zs _ R (f1 xs (hq H' p zs o' s').1) (f2 ys (hq H' p zs o' s').2) (SqT.of upd_same) (o'.mono s1) (s'.trans (.of s1)) (r s1)
  · obtain ⟨T, u, v, rfl, hT, rfl, f1, f2⟩ := hy
    exact same_new hT
theorem lcj3 {k1 k2 k3 : Bool} {a b d : Addr} {xs ys us : List V} {n : Nat} (sel : Nat → Option PyData) (o : Own H0 H L) (hq : ∀ H' p zs, Own H0 H' ((p, .lst zs) :: L) → Stp H H' → SqK K k1 H' a xs ∧ SqK K k2 H' b ys ∧ SqK K k3 H' d us) (h1 : SqK K k1 H a xs) (h2 : SqK K k2 H b ys) (h3 : SqK K k3 H d us) (hn : n = min (min xs.length ys.length) us.length) (hz : n < 10000000)
    (he : ∀ (i : Nat) (x y u : V) (T : Addr) (p : Addr) (zs : List V) (H' : Hp) (R : L2.St → Hp → Prop), xs[i]? = some x → ys[i]? = some y → us[i]? = some u → SqT K H' T [x, y, u] → Own H0 H' ((p, .lst zs) :: L) → Stp H H' → CGo K tt te vs σ (sel i) H' R → g (.ref T) (wipe σ vs) H' R)
    (k : ∀ p H' zs, Stp H H' → Own H0 H' ((p, .lst zs) :: L) → TpAll K H' zs ((List.range n).filterMap sel) → Q (.ref p) H') :
    RZ3 K k1 k2 k3 [.ref a, .ref b, .ref d] H fun J H1 => RLc J g tt te vs σ H1 Q := by
  refine ⟨a, b, d, xs, ys, us, rfl, h1, h2, h3, lcJ n sel o hz (fun H' p zs o' s' => ?_) (fun i H' p zs hi o' s' => ?_) (fun i x p zs H' H1 R hi o' s' hy r => ?_) (fun i H' x H1 hy => ?_) k⟩
  · obtain ⟨q1, q2, q3⟩ := hq H' p zs o' s'
    exact ⟨xs, ys, us, q1, q2, q3, by omega, by omega, by omega, by omega⟩
  · obtain ⟨q1, q2, q3⟩ := hq H' p zs o' s'
    exact ⟨xs, ys, us, q1, q2, q3, by omega, by omega, by omega⟩
  · obtain ⟨q1, q2, q3⟩ := hq H' p zs o' s'
    obtain ⟨T, u, v, w, rfl, hT, rfl, f1, f2, f3⟩ := hy
    have s1 : Same H' (upd H' T (.tup [u, v, w])) := same_new hT
    exact he i u v w T p zs _ R (f1 xs q1) (f2 ys q2) (f3 us q3) (SqT.of upd_same) (o'.mono s1) (s'.trans (.of s1)) (r s1)
  · obtain ⟨T, u, v, w, rfl, hT, rfl, f1, f2, f3⟩ := hy
    exact same_new hT
end
/-! ### enumerate of any sequence -/
def eA (h : Heap) (k : Bool) (l : Addr) : Heap := h.push (itO k l)
def eB (h : Heap) (k : Bool) (l : Addr) : Heap := (eA h k l).push { cls := .type "enumerate", data := .fields #[.none, .bool false, .ref h.objs.size, rawInt 0, .none, .none] }
theorem enum_newK (k : Bool) (l : Addr) (items : Array Value) :
    Meets (Builtin.«enumerate.__new__» ⟨[.type "enumerate", .ref l], []⟩) (fun _ R s => HSq k s.heap l items ∧ (∃ o : Obj, s.heap.get? l = some o ∧ o.cls = .type (if k then "tuple" else "list") ∧ ∃ n, o.data = .seq items n) ∧
      R (.ok (.ret (.ref (eA s.heap k l).objs.size))) { s with heap := eB s.heap k l }) :=
  .of_wp fun prog w A R s h => by
    obtain ⟨hp, g, d, tk, os⟩ := s
    obtain ⟨q1, ⟨⟨c, dct, dt, sl⟩, hl, hc, n, hd⟩, h⟩ := h
    have hsub := sub_enumerate
    have p1 : HSq k (Shared.heap ⟨hp, g, d, tk, os⟩) l items := q1
    cases hc
    cases hd
    cases k
    all_goals
      wp_walk
      refine wpAny_stack_any fun st => wpAny_pure ?_
      split
      · rename_i c _ _ _ _ _
        cases (c == Value.type "enumerate")
        · wp_walk using wpAny_loadPart' hl, iterK p1
          exact ⟨_, rfl, h⟩
        · wp_walk using wpAny_loadPart' hl, iterK p1
          exact ⟨_, rfl, h⟩
      · wp_walk using wpAny_loadPart' hl, iterK p1
        exact ⟨_, rfl, h⟩
theorem HSq.obj {k : Bool} {h : Heap} {l : Addr} {xs : Array Value} (x : HSq k h l xs) : ∃ o : Obj, h.get? l = some o ∧ o.cls = .type (if k then "tuple" else "list") ∧ ∃ n, o.data = .seq xs n := by
  cases k
  · exact (show h.IsList l xs from x)
  · exact (show h.IsTuple l xs from x)
section
variable {prog : Program} {w : World} {A : Around} {E : Value → Shared → Prop} {s : Shared}
theorem enum_callK {k : Bool} {l : Addr} {items : Array Value} {Q : Value → Shared → Prop} (q1 : HSq k s.heap l items)
    (h : ∀ h' n, n = s.heap.objs.size → IsEnum h' (n + 1) n 0 .none → HIt k h' n l 0 → (∀ b o, s.heap.get? b = some o → h'.get? b = some o) → Q (.ref (n + 1)) { s with heap := h' }) :
    wpAny (model prog w) A (call (.type "enumerate") [.ref l]) Q E s := by
  refine callType_new F.called_enumerate (by decide) (F.typeCall_enumerate_1 _) (F.newCall_enumerate_1 _) (fun obj => F.args_object_init_2 obj _) F.entry_enumerate_new (enum_newK k l items) ⟨q1, q1.obj, ?_⟩
  have e1 : (eA s.heap k l).objs.size = s.heap.objs.size + 1 := Heap.size_push ..
  have uB : ∀ c o, (eA s.heap k l).get? c = some o → (eB s.heap k l).get? c = some o := fun c o e => Heap.get?_push_of_some _ e
  have g1 : (eB s.heap k l).get? (eA s.heap k l).objs.size = some _ := Heap.get?_push_size _ rfl
  rw [e1] at g1
  show _ ∧ _
  rw [e1]
  exact ⟨⟨_, g1, rfl⟩, h _ _ rfl g1 (HIt.mk0 (uB _ _ (Heap.get?_push_size _ rfl))) fun c o e => uB c o (Heap.get?_push_of_some _ e)⟩
end
/-- the sequence at a, each item in a new pair with its place -/
def ItE (K : PySem.W.Frag) (k : Bool) (a : Addr) : It :=
  ⟨fun i H => ∃ (xs : List V), SqK K k H a xs ∧ i < xs.length, fun i H v H' => ∃ T x, v = .ref T ∧ H T = none ∧ H' = upd H T (.tup [.int (i : Nat), x]) ∧ ∀ xs, SqK K k H a xs → xs[i]? = some x, fun i H => ∃ xs : List V, SqK K k H a xs ∧ i = xs.length⟩
theorem turnE {P : Program} {w : World} {K : PySem.W.Frag} {k : Bool} {elts : List Expr} {kk : Nat} {tpos : Pos} {a e it : Addr} (na : a ≠ it) (ne : e ≠ it) (nea : e ≠ a) :
    Turn P w K (.Tuple elts kk tpos) (ItE K k a) [e, it] e (fun i h => (∃ old, IsEnum h e it ((i : Nat) : Int) old) ∧ HIt k h it a i) := by
  refine ⟨by simp, fun i h st b hb => ?_, fun i h h' st kp => ?_, ?_, ?_, fun A i s Q E st h => by obtain ⟨⟨_, he⟩, _⟩ := st; exact wpAny_pyIter_enum he h⟩
  · obtain ⟨⟨old, he⟩, hi⟩ := st
    rcases List.mem_cons.mp hb with q | q
    · rw [q]; exact ⟨_, he, fun v q => nomatch q⟩
    · rw [List.mem_singleton.mp q]; exact hi.obj
  · obtain ⟨⟨old, he⟩, hi⟩ := st
    exact ⟨⟨old, kp e (by simp) _ he⟩, hi.at fun o q => kp it (by simp) o q⟩
  · intro X hP hw hK hc i pins s σ H E I hf st hg
    subst hP hw hK
    obtain ⟨⟨old, he⟩, hi⟩ := st
    obtain ⟨xs, sx, hx⟩ := hg
    obtain ⟨its, rv, p⟩ := seqK I sx
    have hh := hd_in1 (I.ok.hd hc)
    have l1 := rv.length
    have elt : e < s.heap.objs.size := Heap.lt_size he
    have ilt : it < s.heap.objs.size := hi.lt
    refine wpAny_pyNext_enum_itemD (drawsK k hh na its.toArray) he ⟨hi, p⟩ (by simp; omega) ne (nin2 ⟨ne, nea⟩) fun u h' tk hu ho st' hT hsz hk => ?_
    refine ⟨_, rfl, wpAny_letOwnedTupleGo_enum (s := { s with heap := h', toks := tk + 1 }) ho fun h2 he2 sb => ?_⟩
    have hu' : its[i]? = some u := by simpa using hu
    obtain ⟨x, hx1, r1⟩ := vals_of rv hu'
    have eT : h2.get? s.heap.objs.size = some { cls := .type "tuple", data := .seq #[.int i tk, u] } := (sb.2 _ (Nat.ne_of_gt elt)).trans hT
    have new : ObjOk X.prog X.w (upd H s.heap.objs.size (.tup [.int (i : Nat), x])) h2 s.heap.objs.size (.tup [.int (i : Nat), x]) :=
      ⟨by show 2 ≤ sizeLine; decide, [.int i tk, u], .cons ⟨_, rfl⟩ (.cons r1 .nil), ⟨_, eT, rfl, _, rfl⟩⟩
    have kept : ∀ c o, c ∉ [e, it] → s.heap.get? c = some o → h2.get? c = some o := fun c o hb q => by
      simp only [List.mem_cons, List.not_mem_nil, or_false, not_or] at hb
      exact (sb.2 c hb.1).trans (hk c o hb.1 hb.2 q)
    have I1 : Inv X pins σ (upd H s.heap.objs.size (.tup [.int (i : Nat), x])) { s with heap := h2, toks := tk + 1 } := I.turnedNew (t' := tk + 1) kept hf (Nat.le_refl _) new
    refine ⟨.ref s.heap.objs.size, _, I1, rfl, ⟨_, x, rfl, I.hok.fresh (Nat.le_refl _), rfl, fun l hl => by rw [seqK_inj I hl sx]; exact hx1⟩, ⟨⟨u, ?_⟩, st'.1.at fun o q => (sb.2 it (Ne.symm ne)).trans q⟩, fun c hcm => ?_⟩
    · have e1 : ((i + 1 : Nat) : Int) = (i : Int) + 1 := by omega
      rw [e1]
      exact he2
    · have clt : c < s.heap.objs.size := by
        rcases List.mem_cons.mp hcm with q | q
        · rw [q]; exact elt
        · rw [List.mem_singleton.mp q]; exact ilt
      rw [upd_ne (Nat.ne_of_lt clt)]
      exact (hf c hcm).1
  · intro X hP hw hK hc i pins s σ H E I hf st hg
    subst hP hw hK
    obtain ⟨⟨old, he⟩, hi⟩ := st
    obtain ⟨xs, sx, hx⟩ := hg
    obtain ⟨its, rv, p⟩ := seqK I sx
    have hh := hd_in1 (I.ok.hd hc)
    have l1 := rv.length
    have ei : i = its.toArray.size := by simp; omega
    refine wpAny_pyNext_enum_endD (drawsK k hh na its.toArray) he ⟨by rw [← ei]; exact hi, p⟩ fun h' eb => ⟨rfl, ?_⟩
    refine I.turnedL (t' := s.toks) (ch := [e, it]) (fun c o hb q => ?_) hf
    simp only [List.mem_cons, List.not_mem_nil, or_false, not_or] at hb
    exact eb c o hb.2 q
def iEnumK (K : PySem.W.Frag) (k : Bool) (ta : TA) : TI := fun σ H R => ta σ H fun vs H1 => ∃ a xs, vs = [.ref a] ∧ SqK K k H1 a xs ∧ R (ItE K k a) H1
theorem pi_enumK {X : Cx} {k : Bool} {e : Expr} {ta : TA} {p pos tpos : Pos} {elts : List Expr} {kk : Nat} (hg : Gl X "enumerate") (hm : X.mg "enumerate" = none) (ha : PA X [e] ta) (hst : starEach [e] X.env = [(false, eval e X.env)] := by rfl) :
    PI X (.Tuple elts kk tpos) (.Call (.Name "enumerate" p) [e] [] pos) (iEnumK X.K k ta) := by
  refine ⟨fun pins s σ H R I h => ?_⟩
  refine Call_ (ld_blt I hg hm boot_enumerate (PyProof.Rows.callWith_type1 (thn (ha.run pos pins s σ H _ I h) fun us s1 ⟨vs, H1, I1, r1, q1⟩ => ?_) hst rfl))
  obtain ⟨a, xs, ex, hq, q⟩ := q1
  subst ex
  obtain ⟨its, rv, p1⟩ := seqK I1 hq
  cases r1 with
  | cons r rr =>
    cases rr
    cases r
    refine enum_callK p1 fun h' n en g1 g2 hk => wpAny_pyIter_enum g1 ?_
    have I2 : Inv X pins σ H1 { s1 with heap := h' } := I1.kept (t' := s1.toks) hk
    have al : a < n := by rw [en]; exact p1.lt
    refine ⟨n + 1, [n + 1, n], _, _, H1, rfl, I2, turnE (Nat.ne_of_lt al) (Nat.succ_ne_self _) (Nat.ne_of_gt (Nat.lt_succ_of_lt al)), ⟨⟨.none, g1⟩, g2⟩, fun c hcm => ?_, q⟩
    have hle : s1.heap.objs.size ≤ c := by
      rcases List.mem_cons.mp hcm with z | z
      · rw [z, en]; exact Nat.le_succ _
      · rw [List.mem_singleton.mp z, en]; exact Nat.le_refl _
    exact I1.fpOk hle (I1.hok.fresh hle)
section
variable {σ : L2.St} {H H0 : Hp} {Q : VK} {te : TE} {tt : TT} {g : TG} {K : PySem.W.Frag} {L : List (Addr × HO)} {vs : List Nat} {tr : TA}
def REn (K : PySem.W.Frag) (k : Bool) (vs : List V) (H1 : Hp) (R : It → Hp → Prop) : Prop := ∃ a xs, vs = [.ref a] ∧ SqK K k H1 a xs ∧ R (ItE K k a) H1
theorem r_en {k : Bool} {R : It → Hp → Prop} (q : tr σ H fun vs H1 => REn K k vs H1 R) : iEnumK K k tr σ H R := q
theorem lcjEn {k : Bool} {a : Addr} {xs : List V} (sel : Nat → Option PyData) (o : Own H0 H L) (hq : ∀ H' p zs, Own H0 H' ((p, .lst zs) :: L) → Stp H H' → SqK K k H' a xs) (h1 : SqK K k H a xs) (hz : xs.length < 10000000)
    (he : ∀ (i : Nat) (x : V) (T : Addr) (p : Addr) (zs : List V) (H' : Hp) (R : L2.St → Hp → Prop), xs[i]? = some x → SqT K H' T [.int (i : Int), x] → Own H0 H' ((p, .lst zs) :: L) → Stp H H' → CGo K tt te vs σ (sel i) H' R → g (.ref T) (wipe σ vs) H' R)
    (kd : ∀ p H' zs, Stp H H' → Own H0 H' ((p, .lst zs) :: L) → TpAll K H' zs ((List.range xs.length).filterMap sel) → Q (.ref p) H') :
    REn K k [.ref a] H fun J H1 => RLc J g tt te vs σ H1 Q := by
  refine ⟨a, xs, rfl, h1, lcJ xs.length sel o hz (fun H' p zs o' s' => ⟨xs, hq H' p zs o' s', rfl⟩) (fun i H' p zs hi o' s' => ⟨xs, hq H' p zs o' s', hi⟩) (fun i x p zs H' H1 R hi o' s' hy r => ?_) (fun i H' x H1 hy => ?_) kd⟩
  · obtain ⟨T, u, rfl, hT, rfl, f1⟩ := hy
    have s1 : Same H' (upd H' T (.tup [.int (i : Nat), u])) := same_new hT
    exact he i u T p zs _ R (f1 xs (hq H' p zs o' s')) (SqT.of upd_same) (o'.mono s1) (s'.trans (.of s1)) (r s1)
  · obtain ⟨T, u, rfl, hT, rfl, f1⟩ := hy
    exact same_new hT
end
/-! ### a tuple times an int: once is the tuple itself, not at all the empty one -/
theorem tup_mul1 (l : Addr) (items : Array Value) (n : Nat) (dd : Option Addr) (sl : Array (Option Value)) (u : Tok) :
    Meets (Builtin.«tuple.__mul__» ⟨[.ref l, .int 1 u], []⟩) (fun _ R s => s.heap.get? l = some { cls := .type "tuple", dict := dd, data := .seq items n, slots := sl } ∧ R (.ok (.ret (.ref l))) s) :=
  .of_wp fun prog w A R s h => by
    obtain ⟨hp, g, d, tk, os⟩ := s
    obtain ⟨hl, h⟩ := h
    have f1 := AutoSeq1.idx_int
    have c1 : (items.isEmpty || (1 : Int) == 1) = true := by simp
    wp_walk using wpAny_loadPart' hl
    exact ⟨_, rfl, h⟩
theorem tup_mul0 (l : Addr) (items : Array Value) (n : Nat) (dd : Option Addr) (sl : Array (Option Value)) (u : Tok) (c1 : items.isEmpty = false) :
    Meets (Builtin.«tuple.__mul__» ⟨[.ref l, .int 0 u], []⟩) (fun _ R s => s.heap.get? l = some { cls := .type "tuple", dict := dd, data := .seq items n, slots := sl } ∧
      R (.ok (.ret (.ref s.heap.objs.size))) { s with heap := s.heap.push { cls := .type "tuple", data := .seq #[] } }) :=
  .of_wp fun prog w A R s h => by
    obtain ⟨hp, g, d, tk, os⟩ := s
    obtain ⟨hl, h⟩ := h
    have f1 := AutoSeq1.idx_int
    have c2 : (items.isEmpty || (0 : Int) == 1) = false := by rw [c1]; rfl
    wp_walk using wpAny_loadPart' hl
    repeat (first
      | (refine wpAny_ite_false (decide_eq_false (by rw [c2]; exact Bool.false_ne_true)) ?_; wp_walk using wpAny_loadPart' hl))
    exact ⟨_, rfl, h⟩
def rRepA (K : PySem.W.Frag) : R2 := fun x y H Q => ∃ l k xs, x = .ref l ∧ y = .int k ∧ SqT K H l xs ∧ xs ≠ [] ∧ 0 ≤ k ∧ k ≤ 1000 ∧ xs.length ≤ 1000 ∧ (k = 1 → Q (.ref l) H) ∧ (k ≠ 1 → ∀ p, H p = none → Q (.ref p) (upd H p (.tup (List.replicate k.toNat xs).flatten)))
theorem op_repA {X : Cx} : OpR X (binaryOp .Mult) (rRepA X.K) := by
  intro pins s σ H x y v u Q I rx ry h
  obtain ⟨l, k, xs, rfl, rfl, hT, hne, h1, h2, hz, q1, q⟩ := h
  by_cases hk1 : k = 1
  · subst hk1
    cases rx
    obtain ⟨t, rfl⟩ := ry
    obtain ⟨its, r, ⟨⟨cls, dd, data, sl⟩, ho, hc, n, hd⟩, hs⟩ := I.tuple hT
    simp only at hc hd
    subst hc hd
    refine wpAny_binaryOp_repeat_ref (T := "tuple") (U := "int") (by decide) ⟨_, ho, rfl⟩ (fun s' => typeIs_int s' 1 t) noFill_tuple_mul F.fills_int_mul F.slot_int_rmul repeat_tuple F.slot_int_index.lookup
      (call_meets F.slot_int_rmul (typeIs_int s 1 t) F.entry_int_rmul (F.args_int_rmul_2 _ _) (int_rmul_tuple 1 t l its.toArray n dd sl)
        ⟨ho, rfl, ⟨_, ho, rfl⟩, call_meets F.slot_tuple_mul ⟨_, ho, rfl⟩ F.entry_tuple_mul (F.args_tuple_mul_2 _ _) (tup_mul1 l its.toArray n dd sl t) ⟨ho, ?_⟩⟩)
    exact ⟨.ref l, H, I, rfl, q1 rfl⟩
  by_cases hk0 : k = 0
  · subst hk0
    cases rx
    obtain ⟨t, rfl⟩ := ry
    obtain ⟨its, r, ⟨⟨cls, dd, data, sl⟩, ho, hc, n, hd⟩, hs⟩ := I.tuple hT
    simp only at hc hd
    subst hc hd
    have hi : its.toArray.isEmpty = false := by
      have hl := r.length
      cases its with
      | nil => exact absurd (List.eq_nil_of_length_eq_zero hl) hne
      | cons a b => rfl
    refine wpAny_binaryOp_repeat_ref (T := "tuple") (U := "int") (by decide) ⟨_, ho, rfl⟩ (fun s' => typeIs_int s' 0 t) noFill_tuple_mul F.fills_int_mul F.slot_int_rmul repeat_tuple F.slot_int_index.lookup
      (call_meets F.slot_int_rmul (typeIs_int s 0 t) F.entry_int_rmul (F.args_int_rmul_2 _ _) (int_rmul_tuple 0 t l its.toArray n dd sl)
        ⟨ho, rfl, ⟨_, ho, rfl⟩, call_meets F.slot_tuple_mul ⟨_, ho, rfl⟩ F.entry_tuple_mul (F.args_tuple_mul_2 _ _) (tup_mul0 l its.toArray n dd sl t hi) ⟨ho, ?_⟩⟩)
    refine ⟨.ref s.heap.objs.size, _, I.laid (t' := s.toks) (o := .tup []) (fun b ob q => Heap.get?_push_of_some _ q) (Nat.le_refl _) ?_, rfl, q hk1 _ (I.hok.fresh (Nat.le_refl _))⟩
    exact ⟨Nat.zero_le _, _, .nil, IsTup.new _ _⟩
  · exact op_repT pins s σ H _ _ v u Q I rx ry ⟨l, k, xs, rfl, rfl, hT, hne, by omega, h2, hz, q hk1⟩
section
variable {H0 H : Hp} {Q : VK} {K : PySem.W.Frag} {L : List (Addr × HO)}
/-- (x,) * n -/
theorem r_repA {a : Addr} {x : V} {i : Int} {n : Nat} (o : Own H0 H L) (ha : SqT K H a [x]) (hi : i = (n : Int)) (hn : n ≤ 1000) (k : ∀ p H', Stp H H' → Own H0 H' L → SqT K H' p (List.replicate n x) → Q (.ref p) H') : rRepA K (.ref a) (.int i) H Q := by
  subst hi
  refine ⟨a, _, [x], rfl, rfl, ha, by simp, by omega, by omega, by simp, fun e => ?_, fun e p hp => ?_⟩
  · have en : n = 1 := by omega
    subst en
    exact k a H (.refl _) o ha
  · have e2 : (List.replicate (n : Int).toNat [x]).flatten = List.replicate n x := by
      rw [show (n : Int).toNat = n from rfl]
      exact flat_rep n x
    rw [e2]
    exact k p _ (.of (same_new hp)) (o.mono (same_new hp)) (SqT.of upd_same)
/-- t[lo:hi] -/
theorem r_slA {a : Addr} {xs : List V} {lo hi : Option Int} (o : Own H0 H L) (ha : SqT K H a xs) (k : ∀ p H', Stp H H' → Own H0 H' L → SqT K H' p (cutV xs lo hi) → Q (.ref p) H') : rSlA K (.ref a) lo hi H Q := by
  refine ⟨a, xs, rfl, ha, fun e => ?_, fun _ p hp => k p _ (.of (same_new hp)) (o.mono (same_new hp)) (SqT.of upd_same)⟩
  refine k a H (.refl _) o ?_
  have e2 : cutV xs lo hi = xs := by
    unfold cutV
    rw [e.1, e.2]
    simp
  rw [e2]
  exact ha
/-- t + u -/
theorem r_catA {a b : Addr} {xs ys : List V} (o : Own H0 H L) (ha : SqT K H a xs) (hb : SqT K H b ys) (hz : xs.length + ys.length ≤ 10000000) (k : ∀ p H', Stp H H' → Own H0 H' L → SqT K H' p (xs ++ ys) → Q (.ref p) H') : rCatA K (.ref a) (.ref b) H Q := by
  refine ⟨a, b, xs, ys, rfl, rfl, ha, hb, sz100 hz, fun e => ?_, fun _ e => ?_, fun _ _ p hp => k p _ (.of (same_new hp)) (o.mono (same_new hp)) (SqT.of upd_same)⟩
  · subst e
    exact k b H (.refl _) o hb
  · subst e
    exact k a H (.refl _) o (by rw [List.append_nil]; exact ha)
end
/-! ### walks with K told (within comprehensions) -/
theorem pi_listK {X : Cx} {K : PySem.W.Frag} {tg e : Expr} {te : TE} (hK : X.K = K) (he : PE X e te) : PI X tg e (iList K te) := by
  subst hK
  exact pi_list he
theorem pi_tupK {X : Cx} {K : PySem.W.Frag} {tg e : Expr} {te : TE} (hK : X.K = K) (he : PE X e te) : PI X tg e (iTup K te) := by
  subst hK
  exact pi_tup he
theorem pi_zip2K {X : Cx} {K : PySem.W.Frag} {k1 k2 : Bool} {e e2 : Expr} {ta : TA} {p pos tpos : Pos} {elts : List Expr} {kk : Nat} (hK : X.K = K) (hg : Gl X "zip") (hm : X.mg "zip" = none) (ha : PA X [e, e2] ta)
    (hst : starEach [e, e2] X.env = (false, eval e X.env) :: starEach [e2] X.env := by rfl) (hpl : (backTo pos (starEach [e2] X.env)).any (·.1) = false := by rfl) :
    PI X (.Tuple elts kk tpos) (.Call (.Name "zip" p) [e, e2] [] pos) (iZip2 K k1 k2 ta) := by
  subst hK
  exact pi_zip2 hg hm ha hst hpl
theorem pi_zip3K {X : Cx} {K : PySem.W.Frag} {k1 k2 k3 : Bool} {e e2 e3 : Expr} {ta : TA} {p pos tpos : Pos} {elts : List Expr} {kk : Nat} (hK : X.K = K) (hg : Gl X "zip") (hm : X.mg "zip" = none) (ha : PA X [e, e2, e3] ta)
    (hst : starEach [e, e2, e3] X.env = (false, eval e X.env) :: starEach [e2, e3] X.env := by rfl) (hpl : (backTo pos (starEach [e2, e3] X.env)).any (·.1) = false := by rfl) :
    PI X (.Tuple elts kk tpos) (.Call (.Name "zip" p) [e, e2, e3] [] pos) (iZip3 K k1 k2 k3 ta) := by
  subst hK
  exact pi_zip3 hg hm ha hst hpl
theorem pi_enumKK {X : Cx} {K : PySem.W.Frag} {k : Bool} {e : Expr} {ta : TA} {p pos tpos : Pos} {elts : List Expr} {kk : Nat} (hK : X.K = K) (hg : Gl X "enumerate") (hm : X.mg "enumerate" = none) (ha : PA X [e] ta) (hst : starEach [e] X.env = [(false, eval e X.env)] := by rfl) :
    PI X (.Tuple elts kk tpos) (.Call (.Name "enumerate" p) [e] [] pos) (iEnumK K k ta) := by
  subst hK
  exact pi_enumK hg hm ha hst
def topS (i : Nat) : Stmt := PySem.Challenge.pw_tessera_k11_selections_that_fit.main.body.getD i (.Pass ⟨0, 0, 0, 0⟩)
abbrev s_whole : Stmt := topS 1
abbrev N_whole : List Str := ["shape", "size"]
theorem sc_whole : FnScope N_whole ["shape"] (defScope s_whole) := ⟨rfl, rfl, rfl, by decide +kernel, rfl, by decide +kernel, by decide +kernel⟩
abbrev s_selection_size : Stmt := topS 2
abbrev N_selection_size : List Str := ["selection", "form", "parts", "size", "_", "count"]
theorem sc_selection_size : FnScope N_selection_size ["selection"] (defScope s_selection_size) := ⟨rfl, rfl, rfl, by decide +kernel, rfl, by decide +kernel, by decide +kernel⟩
abbrev s_fits : Stmt := topS 3
abbrev N_fits : List Str := ["shape", "selection", "form", "parts", "index"]
theorem sc_fits : FnScope N_fits ["shape", "selection"] (defScope s_fits) := ⟨rfl, rfl, rfl, by decide +kernel, rfl, by decide +kernel, by decide +kernel⟩
abbrev s_is_index : Stmt := topS 4
abbrev N_is_index : List Str := ["shape", "index", "place", "size"]
theorem sc_is_index : FnScope N_is_index ["shape", "index"] (defScope s_is_index) := ⟨rfl, rfl, rfl, by decide +kernel, rfl, by decide +kernel, by decide +kernel⟩
abbrev s_box_fits : Stmt := topS 5
abbrev N_box_fits : List Str := ["shape", "ranges", "start", "step", "count", "_", "lasts", "last", "size"]
theorem sc_box_fits : FnScope N_box_fits ["shape", "ranges"] (defScope s_box_fits) := ⟨rfl, rfl, rfl, by decide +kernel, rfl, by decide +kernel, by decide +kernel⟩
abbrev s__law_cell : Stmt := topS 7
abbrev N__law_cell : List Str := ["script", "k"]
theorem sc__law_cell : FnScope N__law_cell ["script", "k"] (defScope s__law_cell) := ⟨rfl, rfl, rfl, by decide +kernel, rfl, by decide +kernel, by decide +kernel⟩
abbrev s__law_draws : Stmt := topS 8
abbrev N__law_draws : List Str := ["cell", "count", "rows", "left", "k", "mixed"]
theorem sc__law_draws : FnScope N__law_draws ["cell", "count"] (defScope s__law_draws) := ⟨rfl, rfl, rfl, by decide +kernel, rfl, by decide +kernel, by decide +kernel⟩
abbrev s__law_is_int : Stmt := topS 9
abbrev N__law_is_int : List Str := ["x"]
theorem sc__law_is_int : FnScope N__law_is_int ["x"] (defScope s__law_is_int) := ⟨rfl, rfl, rfl, by decide +kernel, rfl, by decide +kernel, by decide +kernel⟩
abbrev s__law_is_bool : Stmt := topS 10
abbrev N__law_is_bool : List Str := ["x", "due"]
theorem sc__law_is_bool : FnScope N__law_is_bool ["x", "due"] (defScope s__law_is_bool) := ⟨rfl, rfl, rfl, by decide +kernel, rfl, by decide +kernel, by decide +kernel⟩
abbrev s__law_ints : Stmt := topS 11
abbrev N__law_ints : List Str := ["x", "kind", "k"]
theorem sc__law_ints : FnScope N__law_ints ["x", "kind"] (defScope s__law_ints) := ⟨rfl, rfl, rfl, by decide +kernel, rfl, by decide +kernel, by decide +kernel⟩
abbrev s__law_is_tuple : Stmt := topS 12
abbrev N__law_is_tuple : List Str := ["x", "due"]
theorem sc__law_is_tuple : FnScope N__law_is_tuple ["x", "due"] (defScope s__law_is_tuple) := ⟨rfl, rfl, rfl, by decide +kernel, rfl, by decide +kernel, by decide +kernel⟩
abbrev s__law_is_number : Stmt := topS 13
abbrev N__law_is_number : List Str := ["x", "due"]
theorem sc__law_is_number : FnScope N__law_is_number ["x", "due"] (defScope s__law_is_number) := ⟨rfl, rfl, rfl, by decide +kernel, rfl, by decide +kernel, by decide +kernel⟩
abbrev s__law_inside : Stmt := topS 14
abbrev N__law_inside : List Str := ["shape", "index", "k"]
theorem sc__law_inside : FnScope N__law_inside ["shape", "index"] (defScope s__law_inside) := ⟨rfl, rfl, rfl, by decide +kernel, rfl, by decide +kernel, by decide +kernel⟩
abbrev s__law_whole : Stmt := topS 15
abbrev N__law_whole : List Str := ["shape", "size"]
theorem sc__law_whole : FnScope N__law_whole ["shape"] (defScope s__law_whole) := ⟨rfl, rfl, rfl, by decide +kernel, rfl, by decide +kernel, by decide +kernel⟩
abbrev s__law_stream : Stmt := topS 16
abbrev N__law_stream : List Str := ["script", "count", "rows", "k"]
theorem sc__law_stream : FnScope N__law_stream ["script", "count"] (defScope s__law_stream) := ⟨rfl, rfl, rfl, by decide +kernel, rfl, by decide +kernel, by decide +kernel⟩
abbrev s__law_many : Stmt := topS 17
abbrev N__law_many : List Str := ["shape", "many", "size"]
theorem sc__law_many : FnScope N__law_many ["shape"] (defScope s__law_many) := ⟨rfl, rfl, rfl, by decide +kernel, rfl, by decide +kernel, by decide +kernel⟩
abbrev s__law_drawn_shape : Stmt := topS 18
abbrev N__law_drawn_shape : List Str := ["draws", "at", "most", "k"]
theorem sc__law_drawn_shape : FnScope N__law_drawn_shape ["draws", "at", "most"] (defScope s__law_drawn_shape) := ⟨rfl, rfl, rfl, by decide +kernel, rfl, by decide +kernel, by decide +kernel⟩
abbrev s__law_ranges : Stmt := topS 19
abbrev N__law_ranges : List Str := ["draws", "shape", "ranges", "k", "draw", "count", "step", "start"]
theorem sc__law_ranges : FnScope N__law_ranges ["draws", "shape"] (defScope s__law_ranges) := ⟨rfl, rfl, rfl, by decide +kernel, rfl, by decide +kernel, by decide +kernel⟩
abbrev s__law_same_box : Stmt := topS 20
abbrev N__law_same_box : List Str := ["told", "due", "k"]
theorem sc__law_same_box : FnScope N__law_same_box ["told", "due"] (defScope s__law_same_box) := ⟨rfl, rfl, rfl, by decide +kernel, rfl, by decide +kernel, by decide +kernel⟩
abbrev s_law : Stmt := topS 21
abbrev N_law : List Str := ["script", "draws", "shape", "points", "k", "size", "j", "selection", "due", "index", "ranges", "at", "row", "good", "empty"]
theorem sc_law : FnScope N_law ["script"] (defScope s_law) := ⟨rfl, rfl, rfl, by decide +kernel, rfl, by decide +kernel, by decide +kernel⟩
structure Top (K : PySem.W.Frag) (mg : Str → Option Value) : Prop where
  f_whole : FunAt K mg "whole" s_whole ["shape"]
  f_selection_size : FunAt K mg "selection_size" s_selection_size ["selection"]
  f_fits : FunAt K mg "fits" s_fits ["shape", "selection"]
  f_is_index : FunAt K mg "is_index" s_is_index ["shape", "index"]
  f_box_fits : FunAt K mg "box_fits" s_box_fits ["shape", "ranges"]
  f__law_cell : FunAt K mg "_law_cell" s__law_cell ["script", "k"]
  f__law_draws : FunAt K mg "_law_draws" s__law_draws ["cell", "count"]
  f__law_is_int : FunAt K mg "_law_is_int" s__law_is_int ["x"]
  f__law_is_bool : FunAt K mg "_law_is_bool" s__law_is_bool ["x", "due"]
  f__law_ints : FunAt K mg "_law_ints" s__law_ints ["x", "kind"]
  f__law_is_tuple : FunAt K mg "_law_is_tuple" s__law_is_tuple ["x", "due"]
  f__law_is_number : FunAt K mg "_law_is_number" s__law_is_number ["x", "due"]
  f__law_inside : FunAt K mg "_law_inside" s__law_inside ["shape", "index"]
  f__law_whole : FunAt K mg "_law_whole" s__law_whole ["shape"]
  f__law_stream : FunAt K mg "_law_stream" s__law_stream ["script", "count"]
  f__law_many : FunAt K mg "_law_many" s__law_many ["shape"]
  f__law_drawn_shape : FunAt K mg "_law_drawn_shape" s__law_drawn_shape ["draws", "at", "most"]
  f__law_ranges : FunAt K mg "_law_ranges" s__law_ranges ["draws", "shape"]
  f__law_same_box : FunAt K mg "_law_same_box" s__law_same_box ["told", "due"]
  f_law : FunAt K mg "law" s_law ["script"]
  b_all : mg "all" = none
  b_any : mg "any" = none
  b_bool : mg "bool" = none
  b_enumerate : mg "enumerate" = none
  b_int : mg "int" = none
  b_isinstance : mg "isinstance" = none
  b_len : mg "len" = none
  b_list : mg "list" = none
  b_max : mg "max" = none
  b_range : mg "range" = none
  b_tuple : mg "tuple" = none
  b_zip : mg "zip" = none
/-! ### the law's helpers -/
def Dr (ns : List Int) : Prop := ∀ x ∈ ns, 0 ≤ x ∧ x < 4096
theorem Dr.gi {ns : List Int} (d : Dr ns) {i : Int} (h0 : 0 ≤ i) (h1 : i < ns.length) : 0 ≤ gi ns i ∧ gi ns i < 4096 := d _ (gi_mem h0 h1)
theorem Dr.app {ns : List Int} (d : Dr ns) {x : Int} (h0 : 0 ≤ x) (h1 : x < 4096) : Dr (ns ++ [x]) := fun y hy => by
  rcases List.mem_append.mp hy with h | h
  · exact d y h
  · rw [List.mem_singleton.mp h]; exact ⟨h0, h1⟩
theorem Dr.app2 {ns ms : List Int} (d : Dr ns) (e : Dr ms) : Dr (ns ++ ms) := fun y hy => by
  rcases List.mem_append.mp hy with h | h
  · exact d y h
  · exact e y h
theorem Dr.take {ns : List Int} (d : Dr ns) (n : Nat) : Dr (ns.take n) := fun y hy => d y (List.mem_of_mem_take hy)
section
variable {P : Program} {w : World} {K : PySem.W.Frag} {mg : Str → Option Value} {base : Heap}
def sp_cell (K : PySem.W.Frag) : Sp := fun vs H Q _ => ∃ (a : Addr) (ns : List Int) (i : Int), vs = [.ref a, .int i] ∧ SqL K H a (ns.map V.int) ∧ 0 ≤ i ∧ Q (.int (gi ns i)) H
theorem d_cell (T : Top K mg) : Def P w K mg base CX0 1 "_law_cell" ["script", "k"] (sp_cell K) := by
  refine T.f__law_cell.ok sc__law_cell (by rintro vs H Q E ⟨a, ns, i, rfl, _⟩; rfl) (fun f cdv A outer s H vs Q E hr h => ?_)
  obtain ⟨a, ns, i, rfl, hS, h0, q⟩ := h
  refine ⟨_, (pss_cons (ps_if (pt_cmpR op_lt (pv 1) (pe_callB (r := Evl.rLenS K) call_len_seq (by rfl) T.b_len (by decide +kernel) (pa_cons (pv 0) pa_nil)) (nomark _)) (pss_one (ps_ret (pe_ix (r := rIxL K) ix_list (pv 0) (pv 1) (fun _ _ => rfl)))) pss_nil)
      (pss_one (ps_ret pe_int))), ?_⟩
  walk_at "rd"
  refine rif (fun h => ?_) fun h => ?_
  · walk_at "rd"
    rw [List.length_map] at h
    exact r_ixL hS (at_ints h0 h) q
  · walk_at "rd"
    rw [List.length_map] at h
    have e : gi ns i = 0 := by
      unfold gi
      rw [List.getD_eq_getElem?_getD, List.getElem?_eq_none (by omega)]
      rfl
    rw [e] at q
    exact q
def sp_draws : Sp := fun vs H Q _ => ∃ (c : Int) (n : Nat), vs = [.int c, .int n] ∧ n ≤ 1000 ∧ ∀ ns : List Int, ns.length = n → Dr ns → RetO H Q (.lst (ns.map V.int))
theorem d_draws (T : Top K mg) : Def P w K mg base CX0 1 "_law_draws" ["cell", "count"] sp_draws := by
  refine T.f__law_draws.ok sc__law_draws (by rintro vs H Q E ⟨c, n, rfl, _⟩; rfl) (fun f cdv A outer s H vs Q E hr h => ?_)
  obtain ⟨c, n, rfl, hn, q⟩ := h
  refine ⟨_, (pss_cons (ps_set (i := 2) sc__law_draws.nd rfl (Or.inl rfl) (pe_lst pa_nil))
      (pss_cons (ps_set (i := 3) sc__law_draws.nd rfl (Or.inl rfl) (pv 0))
      (pss_cons (ps_for PassesOwn.never rfl (pi_range1 (by rfl) T.b_range (pa_cons (pv 1) pa_nil)) (pg_name (i := 4) sc__law_draws.nd rfl (Or.inl rfl)) (pss_one (ps_if (pt_cutT (PW.pt (pw_and (pt_cmpR op_ge (pv 0) (pe_powC (c := 1000000000000000000) ⟨by decide, by decide, by decide⟩ (by decide +kernel)) (nomark _)) (pw_and1 (pt_cmpR op_gt (pv 3) pe_int (nomark _)))))) (pss_cons (ps_expr (pe_bm PySem.F.plainAttrs_list PySem.F.slot_list_append PySem.F.type_list_append mt_append (pv 2) (pa_cons (pe_op op_mod (pe_callTy (r := rInt1) call_int1 (by rfl) T.b_int (by decide +kernel) (pa_cons (pv 3) pa_nil)) pe_int) pa_nil)))
      (pss_one (ps_set (i := 3) sc__law_draws.nd rfl (Or.inl rfl) (pe_op op_fdiv (pv 3) pe_int)))) (pss_cons (ps_set (i := 5) sc__law_draws.nd rfl (Or.inl rfl) (pe_op op_mod (pe_callTy (r := rInt1) call_int1 (by rfl) T.b_int (by decide +kernel) (pa_cons (pe_op op_add (pe_op op_mul (pv 0) pe_int) (pe_op op_mul (pe_op op_add (pv 4) pe_int) pe_int)) pa_nil)) pe_int))
      (pss_cons (ps_set (i := 5) sc__law_draws.nd rfl (Or.inl rfl) (pe_op op_mod (pe_callTy (r := rInt1) call_int1 (by rfl) T.b_int (by decide +kernel) (pa_cons (pe_op op_add (pe_op op_add (pe_op op_mul (pv 5) (pv 5)) (pe_op op_mul (pv 5) pe_int)) (pe_op op_mul (pv 4) pe_int)) pa_nil)) pe_int))
      (pss_cons (ps_set (i := 5) sc__law_draws.nd rfl (Or.inl rfl) (pe_op op_mod (pe_callTy (r := rInt1) call_int1 (by rfl) T.b_int (by decide +kernel) (pa_cons (pe_op op_add (pe_op op_add (pe_op op_mul (pv 5) (pv 5)) (pv 0)) (pe_op op_mul pe_int (pv 4))) pa_nil)) pe_int))
      (pss_one (ps_expr (pe_bm PySem.F.plainAttrs_list PySem.F.slot_list_append PySem.F.type_list_append mt_append (pv 2) (pa_cons (pe_op op_mod (pe_op op_fdiv (pv 5) pe_int) pe_int) pa_nil))))))))))
      (pss_one (ps_ret (pv 2)))))), ?_⟩
  walk_at "rd"
  refine r_newL (Own.nil H) (Nat.zero_le _) fun l H1 o1 => ?_
  walk_at "rd"
  refine forR1 (n := n) rfl (by omega) (fun i σ H' => ∃ (left : Int) (v1 v2 : Option V) (ns : List Int), σ = [some (.int c), some (.int n), some (.ref l), some (.int left), v1, v2] ∧ ns.length = i ∧ Dr ns ∧ Own H H' [(l, .lst (ns.map V.int))])
    ⟨c, none, none, [], rfl, rfl, fun _ h => absurd h (by simp), o1⟩ ?_ ?_
  · rintro i σ H' hi ⟨left, v1, v2, ns, rfl, hl, hd, o⟩
    have hz : (ns.map V.int).length < 10000000 := by rw [List.length_map]; omega
    walk_at "rd"
    refine r_cutT (fun _ H2 => H2 = H') ?_ ?_
    · walk_at "rd"
      refine rif (fun h1 => ?_) fun h1 => ?_ <;> walk_at "rd" <;> rfl
    rintro b _ rfl
    refine rif_b (fun _ => ?_) fun _ => ?_ <;> walk_at "rd"
    · refine r_app o 0 rfl hz fun H2 o2 => ?_
      walk_at "rd"
      refine ⟨_, _, _, ns ++ [_], rfl, ?_, ?_, (by rw [List.map_append]; exact o2)⟩
      · rw [List.length_append]; simp [hl]
      · exact hd.app (by omega) (by omega)
    · refine r_app o 0 rfl hz fun H2 o2 => ?_
      refine ⟨_, _, _, ns ++ [_], rfl, ?_, ?_, (by rw [List.map_append]; exact o2)⟩
      · rw [List.length_append]; simp [hl]
      · exact hd.app (by omega) (by omega)
  · rintro σ H' ⟨left, v1, v2, ns, rfl, hl, hd, o⟩
    walk_at "rd"
    exact (q ns hl hd).mk o 0 rfl
def sp_is_int : Sp := fun vs H Q _ => ∃ (i : Int), vs = [.int i] ∧ Q (.bl true) H
theorem d_is_int (T : Top K mg) : Def P w K mg base CX0 1 "_law_is_int" ["x"] sp_is_int := by
  refine T.f__law_is_int.ok sc__law_is_int (by rintro vs H Q E ⟨i, rfl, _⟩; rfl) (fun f cdv A outer s H vs Q E hr h => ?_)
  obtain ⟨i, rfl, q⟩ := h
  refine ⟨_, (pss_one (ps_ret (pe_and (pe_callB (r := rIsi K) call_isi (by rfl) T.b_isinstance (by decide +kernel) (pa_cons (pv 0) (pa_cons (pe_bltn (v := .ty "int") (by rfl) T.b_int (by decide +kernel) rfl) pa_nil))) (pe_one (pe_not (pe_callB (r := rIsi K) call_isi (by rfl) T.b_isinstance (by decide +kernel) (pa_cons (pv 0) (pa_cons (pe_bltn (v := .ty "bool") (by rfl) T.b_bool (by decide +kernel) rfl) pa_nil)))))))), ?_⟩
  walk_at "rd"
  exact q
def sp_is_number : Sp := fun vs H Q _ => ∃ (i j : Int), vs = [.int i, .int j] ∧ Q (.bl (decide (i = j))) H
theorem d_is_number (T : Top K mg) : Def P w K mg base CX0 2 "_law_is_number" ["x", "due"] sp_is_number := by
  have G__law_is_int : Def P w K mg base CX0 1 "_law_is_int" ["x"] sp_is_int := d_is_int T
  refine T.f__law_is_number.ok sc__law_is_number (by rintro vs H Q E ⟨i, j, rfl, _⟩; rfl) (fun f cdv A outer s H vs Q E hr h => ?_)
  obtain ⟨i, j, rfl, q⟩ := h
  refine ⟨_, (pss_one (ps_ret (pe_and (pe_callD G__law_is_int (hr.mono (by decide)) (pa_cons (pv 0) pa_nil)) (pe_one (pe_cmpR op_eq (pv 0) (pv 1) (nomark _)))))), ?_⟩
  walk_at "rd"
  refine ⟨i, rfl, ?_⟩
  walk_at "rd"
  exact q
def sp_stream (K : PySem.W.Frag) : Sp := fun vs H Q _ => ∃ (a : Addr) (ss : List Int) (n : Nat), vs = [.ref a, .int n] ∧ SqL K H a (ss.map V.int) ∧ n ≤ 1000 ∧ ∀ ns : List Int, ns.length = n → Dr ns → RetO H Q (.lst (ns.map V.int))
theorem d_stream (T : Top K mg) : Def P w K mg base CX0 2 "_law_stream" ["script", "count"] (sp_stream K) := by
  have G__law_cell : Def P w K mg base CX0 1 "_law_cell" ["script", "k"] (sp_cell K) := d_cell T
  have G__law_draws : Def P w K mg base CX0 1 "_law_draws" ["cell", "count"] sp_draws := d_draws T
  refine T.f__law_stream.ok sc__law_stream (by rintro vs H Q E ⟨a, ss, n, rfl, _⟩; rfl) (fun f cdv A outer s H vs Q E hr h => ?_)
  obtain ⟨a, ss, n, rfl, hS, hn, q⟩ := h
  refine ⟨_, (pss_cons (ps_set (i := 2) sc__law_stream.nd rfl (Or.inl rfl) (pe_lst pa_nil))
      (pss_cons (ps_for PassesOwn.never rfl (pi_range1 (by rfl) T.b_range (pa_cons (pe_op op_add pe_int (pe_op op_fdiv (pv 1) pe_int)) pa_nil)) (pg_name (i := 3) sc__law_stream.nd rfl (Or.inl rfl)) (pss_one (ps_set (i := 2) sc__law_stream.nd rfl (Or.inl rfl) (pe_op op_cat (pv 2) (pe_callD G__law_draws (hr.mono (by decide)) (pa_cons (pe_op op_add (pe_callD G__law_cell (hr.mono (by decide)) (pa_cons (pv 0) (pa_cons (pv 3) pa_nil))) (pe_op op_mul pe_int (pv 3))) (pa_cons pe_int pa_nil)))))))
      (pss_one (ps_ret (pe_slice (r := rSlL K) sl_list (pv 2) po_none (po_some (pv 1))))))), ?_⟩
  walk_at "rd"
  refine r_newL (Own.nil H) (Nat.zero_le _) fun l H1 o1 => ?_
  walk_at "rd"
  refine forR1 (n := 1 + n / 16) (by omega) (by omega) (fun i σ H' => ∃ (p : Addr) (v : Option V) (ns : List Int) (L : List (Addr × HO)), σ = [some (.ref a), some (.int n), some (.ref p), v] ∧ ns.length = 16 * i ∧ Dr ns ∧ Own H H' ((p, .lst (ns.map V.int)) :: L))
    ⟨l, none, [], [], rfl, rfl, fun _ h => absurd h (by simp), o1⟩ ?_ ?_
  · rintro i σ H' hi ⟨p, v, ns, L, rfl, hl, hd, o⟩
    walk_at "rd"
    refine ⟨_, _, _, rfl, o.old hS, by omega, ?_⟩
    walk_at "rd"
    refine ⟨_, 16, rfl, by omega, fun ms hm hdm H2 p2 s2 f2 e2 => ?_⟩
    have o2 := o.add s2 f2 e2
    refine r_cat o2 (o2.at 1 rfl) (o2.at 0 rfl) (by rw [List.length_map, List.length_map]; omega) fun p3 H3 o3 => ?_
    walk_at "rd"
    rw [← List.map_append] at o3
    refine ⟨p3, _, _, _, rfl, ?_, hd.app2 hdm, o3⟩
    rw [List.length_append]
    omega
  · rintro σ H' ⟨p, v, ns, L, rfl, hl, hd, o⟩
    walk_at "rd"
    refine r_slL o (o.sqL 0 rfl) fun p3 H3 o3 => ?_
    rw [cut_hi, ← List.map_take] at o3
    refine (q _ ?_ (hd.take n)).mk o3 0 rfl
    rw [List.length_take]
    omega
def spLaw (K : PySem.W.Frag) : Sp := fun vs H Q _ => ∃ (a : Addr) (ss : List Int), vs = [.ref a] ∧ SqL K H a (ss.map V.int) ∧ ss.length ≤ 63 ∧ (∀ z ∈ ss, PySem.Builtin.Int.intBits z ≤ 1048576) ∧ ∀ H', Q (.bl true) H'
theorem law_in {a : Addr} {ss : List Int} {H : Hp} (hl : ss.length ≤ 63) (hb : ∀ z ∈ ss, PySem.Builtin.Int.intBits z ≤ 1048576) (hS : SqL K H a (ss.map V.int)) : spLaw K [.ref a] H (fun v _ => v = .bl true) fun _ _ _ => False :=
  ⟨a, ss, rfl, hS, hl, hb, fun _ => rfl⟩
end

local macro_rules | `(tactic| walk_at "rd1") => `(tactic| (first
  | with_reducible refine r_z2 ?_
  | with_reducible refine r_z3 ?_
  | with_reducible refine r_en ?_
  | ((with_reducible refine r_gTup3 (x := ?_) (y := ?_) (z := ?_) ?h ?_); (case h => walk_at "sqT"))))
/-! ### selections -/
inductive Sel where
  | pts (ps : List (List Int))
  | box (rs : List (Int × Int × Int))
def tupI (p : List Int) : PyData := .tuple (p.map PyData.int)
def triI (r : Int × Int × Int) : PyData := .tuple [.int r.1, .int r.2.1, .int r.2.2]
def Sel.d : Sel → PyData
  | .pts ps => .tuple [.str (PySem.Str.ofString "points"), .tuple (ps.map tupI)]
  | .box rs => .tuple [.str (PySem.Str.ofString "box"), .tuple (rs.map triI)]
def isIdx (sh ix : List Int) : Bool := decide (ix.length = sh.length) && (ix.zip sh).all fun p => decide (0 ≤ p.1) && decide (p.1 < p.2)
def prodL (ns : List Int) : Int := ns.foldl (· * ·) 1
def rLast (r : Int × Int × Int) : Int := r.1 + r.2.1 * (r.2.2 - 1)
def rOk (r : Int × Int × Int) : Bool := decide (0 ≤ r.1) && decide (1 ≤ r.2.1) && decide (0 ≤ r.2.2)
def boxFits (sh : List Int) (rs : List (Int × Int × Int)) : Bool :=
  decide (rs.length = sh.length) && rs.all rOk && (rs.any (fun r => decide (r.2.2 = 0)) || ((rs.map rLast).zip sh).all fun p => decide (p.1 < p.2))
def Sel.fits (sh : List Int) : Sel → Bool
  | .pts ps => ps.all (isIdx sh)
  | .box rs => boxFits sh rs
def Sel.size : Sel → Int
  | .pts ps => ps.length
  | .box rs => prodL (rs.map (·.2.2))
def Sel.len : Sel → Nat
  | .pts ps => ps.length
  | .box rs => rs.length
/-- the sizes of what is passed -/
def Sel.ok : Sel → Prop
  | .pts ps => ps.length ≤ 200000 ∧ ∀ p ∈ ps, p.length ≤ 1000
  | .box rs => rs.length ≤ 1000 ∧ ∀ r ∈ rs, -1000000000000000000 ≤ r.2.1 ∧ r.2.1 ≤ 1000000000000000000
theorem prodL_take {ns : List Int} {i : Nat} {x : Int} (h : ns[i]? = some x) : prodL (ns.take (i + 1)) = prodL (ns.take i) * x := by
  unfold prodL
  rw [List.take_add_one, h, List.foldl_append]
  rfl
theorem int_atT {ns : List Int} {i : Nat} {v : V} (h : (ns.map V.int)[i]? = some v) : ∃ x, ns[i]? = some x ∧ v = .int x := by
  rw [List.getElem?_map] at h
  cases e : ns[i]? with
  | none => rw [e] at h; cases h
  | some x => rw [e] at h; cases h; exact ⟨x, rfl, rfl⟩
theorem zip_get {α β : Type} {xs : List α} {ys : List β} {i : Nat} {x : α} {y : β} (h : xs[i]? = some x) (h2 : ys[i]? = some y) : (xs.zip ys)[i]? = some (x, y) := List.getElem?_zip_eq_some.mpr ⟨h, h2⟩
/-- the answers of a zip's turns -/
theorem zip_map {α β γ : Type} {xs : List α} {ys : List β} {n : Nat} (hn : n = min xs.length ys.length) (g : Nat → γ) (f : α × β → γ) (h : ∀ i x y, xs[i]? = some x → ys[i]? = some y → g i = f (x, y)) : (List.range n).map g = (xs.zip ys).map f := by
  subst hn
  have e : min xs.length ys.length = (xs.zip ys).length := by rw [List.length_zip]
  rw [e]
  refine range_map_get (xs.zip ys) f g fun i p hp => ?_
  obtain ⟨h1, h2⟩ := List.getElem?_zip_eq_some.mp hp
  exact h i _ _ h1 h2
theorem same_seqL' {K : PySem.W.Frag} {H H' : Hp} {l : Addr} {xs : List V} (e : Same H H') (h : SqL K H l xs) : SqL K H' l xs := e.seq h
section
variable {P : Program} {w : World} {K : PySem.W.Frag} {mg : Str → Option Value} {base : Heap}
theorem sel_inv {H : Hp} {v : V} {s : Str} {ds : List PyData} (h : Tp K H v (.tuple [.str s, .tuple ds])) : ∃ a c ws, v = .ref a ∧ SqT K H a [.str s, .ref c] ∧ SqT K H c ws ∧ TpAll K H ws ds := by
  obtain ⟨a, xs, rfl, hs, ha⟩ := h.inv
  cases ha with
  | cons h1 h2 =>
    cases h2 with
    | cons h3 h4 =>
      cases h4
      cases h1
      obtain ⟨c, ws, rfl, hc, hw⟩ := h3.inv
      exact ⟨a, c, ws, rfl, hs, hc, hw⟩
theorem tri_inv {H : Hp} {v : V} {r : Int × Int × Int} (h : Tp K H v (triI r)) : ∃ a, v = .ref a ∧ SqT K H a [.int r.1, .int r.2.1, .int r.2.2] := by
  obtain ⟨a, xs, rfl, hs, ha⟩ := h.inv
  have e := TpAll.ints_inv (ns := [r.1, r.2.1, r.2.2]) ha
  subst e
  exact ⟨a, rfl, hs⟩
theorem tri_at {H : Hp} {ws : List V} {rs : List (Int × Int × Int)} {i : Nat} {v : V} (h : TpAll K H ws (rs.map triI)) (hv : ws[i]? = some v) : ∃ r a, rs[i]? = some r ∧ v = .ref a ∧ SqT K H a [.int r.1, .int r.2.1, .int r.2.2] := by
  obtain ⟨d, hd, t⟩ := h.getV hv
  rw [List.getElem?_map] at hd
  cases e : rs[i]? with
  | none => rw [e] at hd; cases hd
  | some r =>
    rw [e] at hd
    cases hd
    obtain ⟨a, rfl, hs⟩ := tri_inv t
    exact ⟨r, a, rfl, rfl, hs⟩
theorem pt_at {H : Hp} {ws : List V} {ps : List (List Int)} {i : Nat} {v : V} (h : TpAll K H ws (ps.map tupI)) (hv : ws[i]? = some v) : ∃ r a, ps[i]? = some r ∧ v = .ref a ∧ SqT K H a (r.map V.int) := by
  obtain ⟨d, hd, t⟩ := h.getV hv
  rw [List.getElem?_map] at hd
  cases e : ps[i]? with
  | none => rw [e] at hd; cases hd
  | some r =>
    rw [e] at hd
    cases hd
    obtain ⟨a, rfl, hs⟩ := Tp.invI (ns := r) t
    exact ⟨r, a, rfl, rfl, hs⟩
end

section
variable {P : Program} {w : World} {K : PySem.W.Frag} {mg : Str → Option Value} {base : Heap}
def sp_is_index (K : PySem.W.Frag) : Sp := fun vs H Q _ => ∃ (a b : Addr) (sh ix : List Int), vs = [.ref a, .ref b] ∧ SqT K H a (sh.map V.int) ∧ SqT K H b (ix.map V.int) ∧ ix.length ≤ 1000 ∧ RetV H Q (.bl (isIdx sh ix))
theorem d_is_index (T : Top K mg) : Def P w K mg base CX0 1 "is_index" ["shape", "index"] (sp_is_index K) := by
  refine T.f_is_index.ok sc_is_index (by rintro vs H Q E ⟨a, b, sh, ix, rfl, _⟩; rfl) (fun f cdv A outer s H vs Q E hr h => ?_)
  obtain ⟨a, b, sh, ix, rfl, ha, hb, hz, q⟩ := h
  refine ⟨_, (pss_cons (ps_if (pt_cmpR op_ne (pe_callB (r := Evl.rLenS K) call_len_seq (by rfl) T.b_len (by decide +kernel) (pa_cons (pv 1) pa_nil)) (pe_callB (r := Evl.rLenS K) call_len_seq (by rfl) T.b_len (by decide +kernel) (pa_cons (pv 0) pa_nil)) (nomark _)) (pss_one (ps_ret pe_bl)) pss_nil)
      (pss_one (ps_ret (pe_callB (r := rAll K) (cr_all rfl) (by rfl) T.b_all (by decide +kernel) (pa_cons (pe_lc (own := [("place", 2), ("size", 3)]) (g := (gTup K 2 (gCons (gName 2) (gCons (gName 3) gNil)))) (tt := tYes) rfl sc_is_index.nd (pi_zip2 (k1 := true) (k2 := true) (by rfl) T.b_zip (pa_cons (pv 1) (pa_cons (pv 0) pa_nil))) (blkOk_by (N := N_is_index) (sc := defScope s_is_index) (by decide +kernel)) (fun _ _ _ _ _ => (pg_tupK (K := K) (n := 2) rfl rfl (pgs_cons (pg_name (i := 2) sc_is_index.nd rfl (Or.inl rfl)) (pgs_cons (pg_name (i := 3) sc_is_index.nd rfl (Or.inl rfl)) pgs_nil)))) (fun _ _ _ _ _ => pts_nil) (fun _ _ _ _ _ => (pe_chain op_le op_lt pe_int (pv 2) (pv 3)))) pa_nil))))), ?_⟩
  walk_at "rd"
  rw [List.length_map, List.length_map]
  refine rif_n (fun hl => ?_) fun hl => ?_
  · walk_at "rd"
    have e : isIdx sh ix = false := by unfold isIdx; rw [decide_eq_false (by omega), Bool.false_and]
    rw [e] at q
    exact q.here
  · walk_at "rd"
    refine lcj2 (n := ix.length) (fun i => some (.bool (decide (0 ≤ gi ix i) && decide (gi ix i < gi sh i)))) (Own.nil H) (fun H' p zs _ s' => ⟨s'.sq hb, s'.sq ha⟩) hb ha (by rw [List.length_map, List.length_map]; omega) (by omega) ?_ ?_
    · intro i x y U p zs H' R hx hy hT o' s' r
      obtain ⟨x, hx', rfl⟩ := int_atT hx
      obtain ⟨y, hy', rfl⟩ := int_atT hy
      refine r_gTup2 hT (r _ rfl (fun Qb k => k H' (Same.refl _)) fun d H2 hd s2 Qv qv => ?_)
      cases hd
      rw [gi_get hx', gi_get hy'] at qv
      walk_at "rd"
      refine rif (fun h0 => ?_) fun h0 => ?_
      · walk_at "rd"
        rw [decide_eq_true h0, Bool.true_and] at qv
        exact qv _ _ (Same.refl _) (.bl _)
      · walk_at "rd"
        rw [decide_eq_false h0, Bool.false_and] at qv
        exact qv _ _ (Same.refl _) (.bl _)
    · intro p H' zs s' o' t
      have hn : ix.length = min ix.length sh.length := by omega
      rw [rfm_all, zip_map hn _ (fun p : Int × Int => PyData.bool (decide (0 ≤ p.1) && decide (p.1 < p.2))) (fun i x y hx hy => ?_)] at t
      · have e := bools_invF t
        subst e
        walk_at "rd"
        refine r_all (o'.sqL 0 rfl) ?_
        have e2 : isIdx sh ix = ((ix.zip sh).map fun p : Int × Int => decide (0 ≤ p.1) && decide (p.1 < p.2)).all id := by
          unfold isIdx
          rw [decide_eq_true (by omega), Bool.true_and, List.all_map]
          rfl
        rw [← e2]
        exact q.mk o'
      · rw [gi_get hx, gi_get hy]
end

section
variable {P : Program} {w : World} {K : PySem.W.Frag} {mg : Str → Option Value} {base : Heap}
def sp_box_fits (K : PySem.W.Frag) : Sp := fun vs H Q _ => ∃ (a b : Addr) (ws : List V) (sh : List Int) (rs : List (Int × Int × Int)), vs = [.ref a, .ref b] ∧ SqT K H a (sh.map V.int) ∧ SqT K H b ws ∧ TpAll K H ws (rs.map triI) ∧ (Sel.box rs).ok ∧ RetV H Q (.bl (boxFits sh rs))
theorem d_box_fits (T : Top K mg) : Def P w K mg base CX0 1 "box_fits" ["shape", "ranges"] (sp_box_fits K) := by
  refine T.f_box_fits.ok sc_box_fits (by rintro vs H Q E ⟨a, b, ws, sh, rs, rfl, _⟩; rfl) (fun f cdv A outer s H vs Q E hr h => ?_)
  obtain ⟨a, b, ws, sh, rs, rfl, ha, hb, hw, hok, q⟩ := h
  have hwl : ws.length = rs.length := by rw [hw.len, List.length_map]
  obtain ⟨hz, hrb⟩ := hok
  refine ⟨_, (pss_cons (ps_if (pt_cmpR op_ne (pe_callB (r := Evl.rLenS K) call_len_seq (by rfl) T.b_len (by decide +kernel) (pa_cons (pv 1) pa_nil)) (pe_callB (r := Evl.rLenS K) call_len_seq (by rfl) T.b_len (by decide +kernel) (pa_cons (pv 0) pa_nil)) (nomark _)) (pss_one (ps_ret pe_bl)) pss_nil)
      (pss_cons (ps_if (pt_not (pt_val (pe_callB (r := rAll K) (cr_all rfl) (by rfl) T.b_all (by decide +kernel) (pa_cons (pe_lc (own := [("start", 2), ("step", 3), ("count", 4)]) (g := (gTup K 3 (gCons (gName 2) (gCons (gName 3) (gCons (gName 4) gNil))))) (tt := tYes) rfl sc_box_fits.nd (pi_tup (pv 1)) (blkOk_by (N := N_box_fits) (sc := defScope s_box_fits) (by decide +kernel)) (fun _ _ _ _ _ => (pg_tupK (K := K) (n := 3) rfl rfl (pgs_cons (pg_name (i := 2) sc_box_fits.nd rfl (Or.inl rfl)) (pgs_cons (pg_name (i := 3) sc_box_fits.nd rfl (Or.inl rfl)) (pgs_cons (pg_name (i := 4) sc_box_fits.nd rfl (Or.inl rfl)) pgs_nil))))) (fun _ _ _ _ _ => pts_nil) (fun _ _ _ _ _ => (pe_and (pe_cmpR op_ge (pv 2) pe_int (nomark _)) (pe_and (pe_cmpR op_ge (pv 3) pe_int (nomark _)) (pe_one (pe_cmpR op_ge (pv 4) pe_int (nomark _))))))) pa_nil)))) (pss_one (ps_ret pe_bl)) pss_nil)
      (pss_cons (ps_if (pt_val (pe_callB (r := rAny K) (cr_any rfl) (by rfl) T.b_any (by decide +kernel) (pa_cons (pe_lc (own := [("_", 5), ("count", 4)]) (g := (gTup K 3 (gCons (gName 5) (gCons (gName 5) (gCons (gName 4) gNil))))) (tt := tYes) rfl sc_box_fits.nd (pi_tup (pv 1)) (blkOk_by (N := N_box_fits) (sc := defScope s_box_fits) (by decide +kernel)) (fun _ _ _ _ _ => (pg_tupK (K := K) (n := 3) rfl rfl (pgs_cons (pg_name (i := 5) sc_box_fits.nd rfl (Or.inl rfl)) (pgs_cons (pg_name (i := 5) sc_box_fits.nd rfl (Or.inl rfl)) (pgs_cons (pg_name (i := 4) sc_box_fits.nd rfl (Or.inl rfl)) pgs_nil))))) (fun _ _ _ _ _ => pts_nil) (fun _ _ _ _ _ => (pe_cmpR op_eq (pv 4) pe_int (nomark _)))) pa_nil))) (pss_one (ps_ret pe_bl)) pss_nil)
      (pss_cons (ps_setLc (i := 6) (own := [("start", 2), ("step", 3), ("count", 4)]) (g := (gTup K 3 (gCons (gName 2) (gCons (gName 3) (gCons (gName 4) gNil))))) (tt := tYes) rfl sc_box_fits.nd rfl rfl (sw_true rfl rfl rfl (by decide +kernel)) (pi_tup (pv 1)) (blkOk_by (N := N_box_fits) (sc := defScope s_box_fits) (by decide +kernel)) (fun _ _ _ _ _ => (pg_tupK (K := K) (n := 3) rfl rfl (pgs_cons (pg_name (i := 2) sc_box_fits.nd rfl (Or.inl rfl)) (pgs_cons (pg_name (i := 3) sc_box_fits.nd rfl (Or.inl rfl)) (pgs_cons (pg_name (i := 4) sc_box_fits.nd rfl (Or.inl rfl)) pgs_nil))))) (fun _ _ _ _ _ => pts_nil) (fun _ _ _ _ _ => (pe_op op_add (pv 2) (pe_op op_mul (pv 3) (pe_op op_sub (pv 4) pe_int)))))
      (pss_one (ps_ret (pe_callB (r := rAll K) (cr_all rfl) (by rfl) T.b_all (by decide +kernel) (pa_cons (pe_lc (own := [("last", 7), ("size", 8)]) (g := (gTup K 2 (gCons (gName 7) (gCons (gName 8) gNil)))) (tt := tYes) rfl sc_box_fits.nd (pi_zip2 (k1 := false) (k2 := true) (by rfl) T.b_zip (pa_cons (pv 6) (pa_cons (pv 0) pa_nil))) (blkOk_by (N := N_box_fits) (sc := defScope s_box_fits) (by decide +kernel)) (fun _ _ _ _ _ => (pg_tupK (K := K) (n := 2) rfl rfl (pgs_cons (pg_name (i := 7) sc_box_fits.nd rfl (Or.inl rfl)) (pgs_cons (pg_name (i := 8) sc_box_fits.nd rfl (Or.inl rfl)) pgs_nil)))) (fun _ _ _ _ _ => pts_nil) (fun _ _ _ _ _ => (pe_cmpR op_lt (pv 7) (pv 8) (nomark _)))) pa_nil)))))))), ?_⟩
  walk_at "rd"
  rw [List.length_map]
  refine rif_n (fun hl => ?_) fun hl => ?_
  · walk_at "rd"
    have e : boxFits sh rs = false := by unfold boxFits; rw [decide_eq_false (by omega)]; rfl
    rw [e] at q
    exact q.here
  walk_at "rd"
  refine lcjT (fun i => (rs[i]?).map fun r => .bool (rOk r)) (Own.nil H) hb (by omega) ?_ ?_
  · intro i x p zs H' R hx o' s' r
    obtain ⟨d, U, hd, rfl, hU⟩ := tri_at (hw.up s') hx
    refine r_gTup3 hU (r _ rfl (fun Qb k => k H' (Same.refl _) |> fun z => by rw [hd] at z; exact z) fun d' H2 hd' s2 Qv qv => ?_)
    rw [hd] at hd'
    cases hd'
    replace qv : RetD K H2 Qv (.bool (rOk d)) := qv
    walk_at "rd"
    refine rif (fun h0 => ?_) fun h0 => ?_
    · walk_at "rd"
      refine rif (fun h1 => ?_) fun h1 => ?_
      · walk_at "rd"
        have e : rOk d = decide (d.2.2 ≥ 0) := by unfold rOk; rw [decide_eq_true (show 0 ≤ d.1 from h0), decide_eq_true (show 1 ≤ d.2.1 from h1)]; rfl
        rw [← e]
        exact qv _ _ (Same.refl _) (.bl _)
      · walk_at "rd"
        have e : rOk d = false := by unfold rOk; rw [decide_eq_false (show ¬ 1 ≤ d.2.1 from h1)]; simp
        rw [e] at qv
        exact qv _ _ (Same.refl _) (.bl _)
    · walk_at "rd"
      have e : rOk d = false := by unfold rOk; rw [decide_eq_false (show ¬ 0 ≤ d.1 from h0)]; simp
      rw [e] at qv
      exact qv _ _ (Same.refl _) (.bl _)
  intro p1 H1 zs s1 o1 t1
  have t1' : zs = (rs.map rOk).map V.bl := by
    refine bools_invF (K := K) (H := H1) (l := rs) (f := rOk) ?_
    have e : (List.range ws.length).filterMap (fun i => (rs[i]?).map fun r => PyData.bool (rOk r)) = rs.map fun r => PyData.bool (rOk r) := by
      rw [hwl]
      exact range_pick rs _
    rw [e] at t1
    exact t1
  subst t1'
  walk_at "rd"
  refine r_all (o1.sqL 0 rfl) ?_
  walk_at "rd"
  rw [show (rs.map rOk).all id = rs.all rOk by rw [List.all_map]; rfl]
  cases hg : rs.all rOk with
  | false =>
    walk_at "rd"
    have e : boxFits sh rs = false := by unfold boxFits; rw [hg]; simp
    rw [e] at q
    exact q.mk o1
  | true =>
    walk_at "rd"
    refine lcjT (fun i => (rs[i]?).map fun r => .bool (decide (r.2.2 = 0))) o1 (s1.sq hb) (by omega) ?_ ?_
    · intro i x p zs H' R hx o' s' r
      obtain ⟨d, U, hd, rfl, hU⟩ := tri_at ((hw.up s1).up s') hx
      refine r_gTup3 hU (r _ rfl (fun Qb k => k H' (Same.refl _) |> fun z => by rw [hd] at z; exact z) fun d' H2 hd' s2 Qv qv => ?_)
      rw [hd] at hd'
      cases hd'
      walk_at "rd"
      exact qv _ _ (Same.refl _) (.bl _)
    intro p2 H2 zs s2 o2 t2
    have t2' : zs = (rs.map fun r => decide (r.2.2 = 0)).map V.bl := by
      refine bools_invF (K := K) (H := H2) (l := rs) (f := fun r => decide (r.2.2 = 0)) ?_
      have e : (List.range ws.length).filterMap (fun i => (rs[i]?).map fun r => PyData.bool (decide (r.2.2 = 0))) = rs.map fun r => PyData.bool (decide (r.2.2 = 0)) := by
        rw [hwl]
        exact range_pick rs _
      rw [e] at t2
      exact t2
    subst t2'
    walk_at "rd"
    refine r_any (o2.sqL 0 rfl) ?_
    walk_at "rd"
    rw [show (rs.map fun r : Int × Int × Int => decide (r.2.2 = 0)).any id = rs.any (fun r => decide (r.2.2 = 0)) by rw [List.any_map]; rfl]
    cases hy : rs.any (fun r => decide (r.2.2 = 0)) with
    | true =>
      walk_at "rd"
      have e : boxFits sh rs = true := by unfold boxFits; rw [hg, hy, decide_eq_true (by omega)]; rfl
      rw [e] at q
      exact q.mk o2
    | false =>
      walk_at "rd"
      refine lcjT (fun i => (rs[i]?).map fun r => .int (rLast r)) o2 ((s1.trans s2).sq hb) (by omega) ?_ ?_
      · intro i x p zs H' R hx o' s' r
        obtain ⟨d, U, hd, rfl, hU⟩ := tri_at (((hw.up s1).up s2).up s') hx
        have hd0 := hrb d (List.mem_of_getElem? hd)
        refine r_gTup3 hU (r _ rfl (fun Qb k => k H' (Same.refl _) |> fun z => by rw [hd] at z; exact z) fun d' H2 hd' s2 Qv qv => ?_)
        rw [hd] at hd'
        cases hd'
        walk_at "rd"
        exact qv _ _ (Same.refl _) (.int _)
      intro p3 H3 zs s3 o3 t3
      have t3' : zs = (rs.map rLast).map V.int := by
        refine ints_invF (K := K) (H := H3) (l := rs) (f := rLast) ?_
        have e : (List.range ws.length).filterMap (fun i => (rs[i]?).map fun r => PyData.int (rLast r)) = rs.map fun r => PyData.int (rLast r) := by
          rw [hwl]
          exact range_pick rs _
        rw [e] at t3
        exact t3
      subst t3'
      walk_at "rd"
      have hS := ((s1.trans s2).trans s3).sq ha
      refine lcj2 (n := rs.length) (fun i => some (.bool (decide (gi (rs.map rLast) i < gi sh i)))) o3 (fun H' p zs o' s' => ⟨o'.sqL 1 rfl, s'.sq hS⟩) (o3.sqL 0 rfl) hS (by simp only [List.length_map]; omega) (by omega) ?_ ?_
      · intro i x y U p zs H' R hx hy hT o' s' r
        obtain ⟨x, hx', rfl⟩ := int_atT hx
        obtain ⟨y, hy', rfl⟩ := int_atT hy
        refine r_gTup2 hT (r _ rfl (fun Qb k => k H' (Same.refl _)) fun d H2 hd s2 Qv qv => ?_)
        cases hd
        rw [gi_get hx', gi_get hy'] at qv
        walk_at "rd"
        exact qv _ _ (Same.refl _) (.bl _)
      intro p4 H4 zs s4 o4 t4
      have hn : rs.length = min (rs.map rLast).length sh.length := by rw [List.length_map]; omega
      rw [rfm_all, zip_map hn _ (fun p : Int × Int => PyData.bool (decide (p.1 < p.2))) (fun i x y hx hy => by rw [gi_get hx, gi_get hy])] at t4
      have e := bools_invF t4
      subst e
      walk_at "rd"
      refine r_all (o4.sqL 0 rfl) ?_
      have e : boxFits sh rs = (((rs.map rLast).zip sh).map fun p : Int × Int => decide (p.1 < p.2)).all id := by
        unfold boxFits
        rw [hg, hy, decide_eq_true (by omega), List.all_map]
        rfl
      rw [← e]
      exact q.mk o4
def sp_fits (K : PySem.W.Frag) : Sp := fun vs H Q _ => ∃ (a : Addr) (v : V) (sh : List Int) (S : Sel), vs = [.ref a, v] ∧ SqT K H a (sh.map V.int) ∧ Tp K H v S.d ∧ S.ok ∧ RetV H Q (.bl (S.fits sh))
theorem d_fits (T : Top K mg) : Def P w K mg base CX0 2 "fits" ["shape", "selection"] (sp_fits K) := by
  have G_is_index : Def P w K mg base CX0 1 "is_index" ["shape", "index"] (sp_is_index K) := d_is_index T
  have G_box_fits : Def P w K mg base CX0 1 "box_fits" ["shape", "ranges"] (sp_box_fits K) := d_box_fits T
  refine T.f_fits.ok sc_fits (by rintro vs H Q E ⟨a, v, sh, S, rfl, _⟩; rfl) (fun f cdv A outer s H vs Q E hr h => ?_)
  obtain ⟨a, v, sh, S, rfl, ha, hv, hok, q⟩ := h
  cases S with
  | pts ps =>
    obtain ⟨b, c, ws, rfl, hb, hc, hw⟩ := sel_inv hv
    have hwl : ws.length = ps.length := by rw [hw.len, List.length_map]
    obtain ⟨hz, hpl⟩ := hok
    refine ⟨_, (pss_cons (ps_asg (pv 1) (pg_tup (n := 2) rfl (pgs_cons (pg_name (i := 2) sc_fits.nd rfl (Or.inl rfl)) (pgs_cons (pg_name (i := 3) sc_fits.nd rfl (Or.inl rfl)) pgs_nil))))
      (pss_cons (ps_if (pt_cmpR op_eq (pv 2) pe_str (nomark _)) (pss_one (ps_ret (pe_callB (r := rAll K) (cr_all rfl) (by rfl) T.b_all (by decide +kernel) (pa_cons (pe_lc (own := [("index", 4)]) (g := (gName 4)) (tt := tYes) rfl sc_fits.nd (pi_tup (pv 3)) (blkOk_by (N := N_fits) (sc := defScope s_fits) (by decide +kernel)) (fun _ _ _ _ _ => (pg_name (i := 4) sc_fits.nd rfl (Or.inl rfl))) (fun _ _ _ _ _ => pts_nil) (fun _ _ _ _ _ => (pe_callD G_is_index (hr.mono (by decide)) (pa_cons (pv 0) (pa_cons (pv 4) pa_nil))))) pa_nil)))) pss_nil)
      (pss_one (ps_ret (pe_callD G_box_fits (hr.mono (by decide)) (pa_cons (pv 0) (pa_cons (pv 3) pa_nil))))))), ?_⟩
    walk_at "rd"
    refine rif_yes (by decide +kernel) ?_
    walk_at "rd"
    refine lcjT (fun i => (ps[i]?).map fun r => .bool (isIdx sh r)) (Own.nil H) hc (by omega) ?_ ?_
    · intro i x p zs H' R hx o' s' r
      obtain ⟨d, U, hd, rfl, hU⟩ := pt_at (hw.up s') hx
      have hd0 := hpl d (List.mem_of_getElem? hd)
      refine r_name (r _ rfl (fun Qb k => k H' (Same.refl _) |> fun z => by rw [hd] at z; exact z) fun d' H2 hd' s2 Qv qv => ?_)
      rw [hd] at hd'
      cases hd'
      walk_at "rd"
      refine ⟨_, _, sh, d, rfl, (s'.trans (.of s2)).sq ha, (Stp.of s2).sq hU, hd0, fun H3 s3 => qv _ _ s3 (.bl _)⟩
    intro p1 H1 zs s1 o1 t1
    have t1' : zs = (ps.map (isIdx sh)).map V.bl := by
      refine bools_invF (K := K) (H := H1) (l := ps) (f := isIdx sh) ?_
      have e : (List.range ws.length).filterMap (fun i => (ps[i]?).map fun r => PyData.bool (isIdx sh r)) = ps.map fun r => PyData.bool (isIdx sh r) := by
        rw [hwl]
        exact range_pick ps _
      rw [e] at t1
      exact t1
    subst t1'
    walk_at "rd"
    refine r_all (o1.sqL 0 rfl) ?_
    rw [show (ps.map (isIdx sh)).all id = (Sel.pts ps).fits sh by rw [List.all_map]; rfl]
    exact q.mk o1
  | box rs =>
    obtain ⟨b, c, ws, rfl, hb, hc, hw⟩ := sel_inv hv
    refine ⟨_, (pss_cons (ps_asg (pv 1) (pg_tup (n := 2) rfl (pgs_cons (pg_name (i := 2) sc_fits.nd rfl (Or.inl rfl)) (pgs_cons (pg_name (i := 3) sc_fits.nd rfl (Or.inl rfl)) pgs_nil))))
      (pss_cons (ps_if (pt_cmpR op_eq (pv 2) pe_str (nomark _)) (pss_one (ps_ret (pe_callB (r := rAll K) (cr_all rfl) (by rfl) T.b_all (by decide +kernel) (pa_cons (pe_lc (own := [("index", 4)]) (g := (gName 4)) (tt := tYes) rfl sc_fits.nd (pi_tup (pv 3)) (blkOk_by (N := N_fits) (sc := defScope s_fits) (by decide +kernel)) (fun _ _ _ _ _ => (pg_name (i := 4) sc_fits.nd rfl (Or.inl rfl))) (fun _ _ _ _ _ => pts_nil) (fun _ _ _ _ _ => (pe_callD G_is_index (hr.mono (by decide)) (pa_cons (pv 0) (pa_cons (pv 4) pa_nil))))) pa_nil)))) pss_nil)
      (pss_one (ps_ret (pe_callD G_box_fits (hr.mono (by decide)) (pa_cons (pv 0) (pa_cons (pv 3) pa_nil))))))), ?_⟩
    walk_at "rd"
    refine rif_no (by decide +kernel) ?_
    walk_at "rd"
    exact ⟨_, _, ws, sh, rs, rfl, ha, hc, hw, hok, q⟩
def sp_sel_size (K : PySem.W.Frag) : Sp := fun vs H Q _ => ∃ (v : V) (S : Sel), vs = [v] ∧ Tp K H v S.d ∧ (match S with | .pts _ => True | .box rs => ∀ r ∈ rs, -(2 ^ 60) ≤ r.2.2 ∧ r.2.2 ≤ 2 ^ 60) ∧ Q (.int S.size) H
theorem d_sel_size (T : Top K mg) : Def P w K mg base CX0 1 "selection_size" ["selection"] (sp_sel_size K) := by
  refine T.f_selection_size.ok sc_selection_size (by rintro vs H Q E ⟨v, S, rfl, _⟩; rfl) (fun f cdv A outer s H vs Q E hr h => ?_)
  obtain ⟨v, S, rfl, hv, hok, q⟩ := h
  cases S with
  | pts ps =>
    obtain ⟨b, c, ws, rfl, hb, hc, hw⟩ := sel_inv hv
    have hwl : ws.length = ps.length := by rw [hw.len, List.length_map]
    refine ⟨_, (pss_cons (ps_asg (pv 0) (pg_tup (n := 2) rfl (pgs_cons (pg_name (i := 1) sc_selection_size.nd rfl (Or.inl rfl)) (pgs_cons (pg_name (i := 2) sc_selection_size.nd rfl (Or.inl rfl)) pgs_nil))))
      (pss_cons (ps_if (pt_cmpR op_eq (pv 1) pe_str (nomark _)) (pss_one (ps_ret (pe_callB (r := Evl.rLenS K) call_len_seq (by rfl) T.b_len (by decide +kernel) (pa_cons (pv 2) pa_nil)))) pss_nil)
      (pss_cons (ps_set (i := 3) sc_selection_size.nd rfl (Or.inl rfl) pe_int)
      (pss_cons (ps_for PassesOwn.never rfl (pi_tup (pv 2)) (pg_tup (n := 3) rfl (pgs_cons (pg_name (i := 4) sc_selection_size.nd rfl (Or.inl rfl)) (pgs_cons (pg_name (i := 4) sc_selection_size.nd rfl (Or.inl rfl)) (pgs_cons (pg_name (i := 5) sc_selection_size.nd rfl (Or.inl rfl)) pgs_nil)))) (pss_one (ps_set (i := 3) sc_selection_size.nd rfl (Or.inl rfl) (pe_op op_mul (pv 3) (pv 5)))))
      (pss_one (ps_ret (pv 3))))))), ?_⟩
    walk_at "rd"
    refine rif_yes (by decide +kernel) ?_
    walk_at "rd"
    rw [hwl]
    exact q
  | box rs =>
    obtain ⟨b, c, ws, rfl, hb, hc, hw⟩ := sel_inv hv
    have hwl : ws.length = rs.length := by rw [hw.len, List.length_map]
    refine ⟨_, (pss_cons (ps_asg (pv 0) (pg_tup (n := 2) rfl (pgs_cons (pg_name (i := 1) sc_selection_size.nd rfl (Or.inl rfl)) (pgs_cons (pg_name (i := 2) sc_selection_size.nd rfl (Or.inl rfl)) pgs_nil))))
      (pss_cons (ps_if (pt_cmpR op_eq (pv 1) pe_str (nomark _)) (pss_one (ps_ret (pe_callB (r := Evl.rLenS K) call_len_seq (by rfl) T.b_len (by decide +kernel) (pa_cons (pv 2) pa_nil)))) pss_nil)
      (pss_cons (ps_set (i := 3) sc_selection_size.nd rfl (Or.inl rfl) pe_int)
      (pss_cons (ps_for PassesOwn.never rfl (pi_tup (pv 2)) (pg_tup (n := 3) rfl (pgs_cons (pg_name (i := 4) sc_selection_size.nd rfl (Or.inl rfl)) (pgs_cons (pg_name (i := 4) sc_selection_size.nd rfl (Or.inl rfl)) (pgs_cons (pg_name (i := 5) sc_selection_size.nd rfl (Or.inl rfl)) pgs_nil)))) (pss_one (ps_set (i := 3) sc_selection_size.nd rfl (Or.inl rfl) (pe_op op_mul (pv 3) (pv 5)))))
      (pss_one (ps_ret (pv 3))))))), ?_⟩
    walk_at "rd"
    refine rif_no (by decide +kernel) ?_
    walk_at "rd"
    refine forT hc (fun i σ' H' => H' = H ∧ ∃ v4 v5, σ' = [some (.ref b), some (.str (PySem.Str.ofString "box")), some (.ref c), some (.int (prodL ((rs.map (·.2.2)).take i))), v4, v5]) ⟨rfl, _, _, rfl⟩ (fun i σ' H' _ ⟨e, _⟩ => by rw [e]; exact hc) ?_ ?_
    · rintro i x σ' H' hx ⟨rfl, v4, v5, rfl⟩
      obtain ⟨d, U, hd, rfl, hU⟩ := tri_at hw hx
      have hd0 := hok d (List.mem_of_getElem? hd)
      refine r_gTup3 hU ?_
      walk_at "rd"
      refine ⟨rfl, some (.int d.2.1), some (.int d.2.2), ?_⟩
      rw [prodL_take (x := d.2.2) (by rw [List.getElem?_map, hd]; rfl)]
      rfl
    · rintro σ' H' ⟨rfl, v4, v5, rfl⟩
      walk_at "rd"
      rw [hwl, List.take_of_length_le (by rw [List.length_map]; omega)]
      exact q
def wholeR (sh : List Int) : List (Int × Int × Int) := sh.map fun z => (0, 1, z)
def sp_whole (K : PySem.W.Frag) : Sp := fun vs H Q _ => ∃ (a : Addr) (sh : List Int), vs = [.ref a] ∧ SqT K H a (sh.map V.int) ∧ sh.length ≤ 1000 ∧ RetD K H Q (Sel.box (wholeR sh)).d
theorem d_whole (T : Top K mg) : Def P w K mg base CX0 1 "whole" ["shape"] (sp_whole K) := by
  refine T.f_whole.ok sc_whole (by rintro vs H Q E ⟨a, sh, rfl, _⟩; rfl) (fun f cdv A outer s H vs Q E hr h => ?_)
  obtain ⟨a, sh, rfl, ha, hz, q⟩ := h
  refine ⟨_, (pss_one (ps_ret (pe_tup (pa_cons pe_str (pa_cons (pe_callTy (r := rTupS K) call_tuple_of (by rfl) T.b_tuple (by decide +kernel) (pa_cons (pe_lc (own := [("size", 1)]) (g := (gName 1)) (tt := tYes) rfl sc_whole.nd (pi_tup (pv 0)) (blkOk_by (N := N_whole) (sc := defScope s_whole) (by decide +kernel)) (fun _ _ _ _ _ => (pg_name (i := 1) sc_whole.nd rfl (Or.inl rfl))) (fun _ _ _ _ _ => pts_nil) (fun _ _ _ _ _ => (pe_tup (pa_cons pe_int (pa_cons pe_int (pa_cons (pv 1) pa_nil)))))) pa_nil)) pa_nil))))), ?_⟩
  walk_at "rd"
  refine lcjT (fun i => (sh[i]?).map fun z => triI (0, 1, z)) (Own.nil H) ha (by rw [List.length_map]; omega) ?_ ?_
  · intro i x p zs H' R hx o' s' r
    obtain ⟨z, hz', rfl⟩ := int_atT hx
    refine r_name (r _ rfl (fun Qb k => k H' (Same.refl _) |> fun z => by rw [hz'] at z; exact z) fun d' H2 hd' s2 Qv qv => ?_)
    rw [hz'] at hd'
    cases hd'
    walk_at "rd"
    refine r_newTi (K := K) [0, 1, z] rfl (Own.nil H2) (Nat.le_of_ble_eq_true rfl) fun t H3 s3 o3 h3 => ?_
    exact qv _ _ o3.ex (.tup h3 (TpAll.ints [0, 1, z]))
  intro p1 H1 zs s1 o1 t1
  have t1' : TpAll K H1 zs ((wholeR sh).map triI) := by
    have e : (List.range (sh.map V.int).length).filterMap (fun i => (sh[i]?).map fun z => triI (0, 1, z)) = (wholeR sh).map triI := by
      rw [List.length_map, range_pick sh _]
      unfold wholeR
      rw [List.map_map]
      rfl
    rw [e] at t1
    exact t1
  walk_at "rd"
  refine r_tupLs o1 (o1.sqL 0 rfl) fun t H2 s2 o2 h2 => ?_
  walk_at "rd"
  refine r_newTp (K := K) (ds := [.str (PySem.Str.ofString "box"), .tuple ((wholeR sh).map triI)]) o2 (.cons (.str _) (.cons (.tup h2 (t1'.up s2)) .nil)) (Nat.le_of_ble_eq_true rfl) fun t2 H3 s3 o3 h3 => ?_
  exact q.mk o3 h3
end

section
variable {P : Program} {w : World} {K : PySem.W.Frag} {mg : Str → Option Value} {base : Heap}
/-- of a tuple or a list of ints -/
def sp_ints (K : PySem.W.Frag) : Sp := fun vs H Q _ => ∃ (a : Addr) (ns : List Int), ((vs = [.ref a, .str (PySem.Str.ofString "tuple")] ∧ SqT K H a (ns.map V.int)) ∨ (vs = [.ref a, .str (PySem.Str.ofString "list")] ∧ SqL K H a (ns.map V.int))) ∧ ns.length ≤ 10000000 ∧ Q (.bl true) H
theorem d_ints (T : Top K mg) : Def P w K mg base CX0 2 "_law_ints" ["x", "kind"] (sp_ints K) := by
  have G__law_is_int : Def P w K mg base CX0 1 "_law_is_int" ["x"] sp_is_int := d_is_int T
  refine T.f__law_ints.ok sc__law_ints (by rintro vs H Q E ⟨a, ns, ⟨rfl, _⟩ | ⟨rfl, _⟩, _⟩ <;> rfl) (fun f cdv A outer s H vs Q E hr h => ?_)
  obtain ⟨a, ns, h, hz, q⟩ := h
  rcases h with ⟨rfl, hS⟩ | ⟨rfl, hS⟩
  all_goals
    refine ⟨_, (Evl.pss_cut (ps_if (pt_cmpR op_eq (pv 1) pe_str (nomark _)) (pss_one (ps_if (pt_not (pt_val (pe_callB (r := rIsi K) call_isi (by rfl) T.b_isinstance (by decide +kernel) (pa_cons (pv 0) (pa_cons (pe_bltn (v := .ty "list") (by rfl) T.b_list (by decide +kernel) rfl) pa_nil))))) (pss_one (ps_ret pe_bl)) pss_nil)) (pss_one (ps_if (pt_not (pt_val (pe_callB (r := rIsi K) call_isi (by rfl) T.b_isinstance (by decide +kernel) (pa_cons (pv 0) (pa_cons (pe_bltn (v := .ty "tuple") (by rfl) T.b_tuple (by decide +kernel) rfl) pa_nil))))) (pss_one (ps_ret pe_bl)) pss_nil)))
      (pss_cons (ps_for PassesOwn.never rfl (pi_range1 (by rfl) T.b_range (pa_cons (pe_callB (r := Evl.rLenS K) call_len_seq (by rfl) T.b_len (by decide +kernel) (pa_cons (pv 0) pa_nil)) pa_nil)) (pg_name (i := 2) sc__law_ints.nd rfl (Or.inl rfl)) (pss_one (ps_if (pt_not (pt_val (pe_callD G__law_is_int (hr.mono (by decide)) (pa_cons (pe_ix (r := rIx K) ix_seq (pv 0) (pv 2) (fun _ _ => rfl)) pa_nil)))) (pss_one (ps_ret pe_bl)) pss_nil)))
      (pss_one (ps_ret pe_bl)))), ?_⟩
    walk_at "rd"
  · refine ⟨fun σ' H' => σ' = [some (.ref a), some (.str (PySem.Str.ofString "tuple")), none] ∧ H' = H, ?_, ?_⟩
    · walk_at "rd"
      refine rif_no (by decide +kernel) ?_
      walk_at "rd"
      exact ⟨rfl, rfl⟩
    rintro σ' H' ⟨rfl, rfl⟩
    walk_at "rd"
    refine forR1 (n := ns.length) (by rw [List.length_map]) (by rw [List.length_map]; omega) (fun i σ' H2 => H2 = H' ∧ ∃ v, σ' = [some (.ref a), some (.str (PySem.Str.ofString "tuple")), v]) ⟨rfl, _, rfl⟩ ?_ ?_
    · rintro i σ' H2 hi ⟨rfl, v, rfl⟩
      walk_at "rd"
      refine ⟨_, rfl, ?_⟩
      walk_at "rd"
      exact ⟨rfl, _, rfl⟩
    · rintro σ' H2 ⟨rfl, v, rfl⟩
      walk_at "rd"
      exact q
  · refine ⟨fun σ' H' => σ' = [some (.ref a), some (.str (PySem.Str.ofString "list")), none] ∧ H' = H, ?_, ?_⟩
    · walk_at "rd"
      refine rif_yes (by decide +kernel) ?_
      walk_at "rd"
      exact ⟨rfl, rfl⟩
    rintro σ' H' ⟨rfl, rfl⟩
    walk_at "rd"
    refine forR1 (n := ns.length) (by rw [List.length_map]) (by rw [List.length_map]; omega) (fun i σ' H2 => H2 = H' ∧ ∃ v, σ' = [some (.ref a), some (.str (PySem.Str.ofString "list")), v]) ⟨rfl, _, rfl⟩ ?_ ?_
    · rintro i σ' H2 hi ⟨rfl, v, rfl⟩
      walk_at "rd"
      refine ⟨_, rfl, ?_⟩
      walk_at "rd"
      exact ⟨rfl, _, rfl⟩
    · rintro σ' H2 ⟨rfl, v, rfl⟩
      walk_at "rd"
      exact q
/-- of equal tuples of ints -/
def sp_is_tuple (K : PySem.W.Frag) : Sp := fun vs H Q _ => ∃ (a b : Addr) (ns : List Int), vs = [.ref a, .ref b] ∧ SqT K H a (ns.map V.int) ∧ SqT K H b (ns.map V.int) ∧ ns.length ≤ 10000000 ∧ Q (.bl true) H
theorem d_is_tuple (T : Top K mg) : Def P w K mg base CX0 3 "_law_is_tuple" ["x", "due"] (sp_is_tuple K) := by
  have G__law_ints : Def P w K mg base CX0 2 "_law_ints" ["x", "kind"] (sp_ints K) := d_ints T
  refine T.f__law_is_tuple.ok sc__law_is_tuple (by rintro vs H Q E ⟨a, b, ns, rfl, _⟩; rfl) (fun f cdv A outer s H vs Q E hr h => ?_)
  obtain ⟨a, b, ns, rfl, hA, hB, hz, q⟩ := h
  refine ⟨_, (pss_one (ps_ret (pe_and (pe_callD G__law_ints (hr.mono (by decide)) (pa_cons (pv 0) (pa_cons pe_str pa_nil))) (pe_one (pe_cmpR (r := rEqD K) (op_eqD hr.units) (pv 0) (pv 1) (nomark _)))))), ?_⟩
  walk_at "rd"
  refine ⟨_, _, .inl ⟨rfl, hA⟩, hz, ?_⟩
  walk_at "rd"
  refine r_eqTT hA hB ?_
  rw [decide_eq_true rfl]
  exact q
end

section
variable {P : Program} {w : World} {K : PySem.W.Frag} {mg : Str → Option Value} {base : Heap}
def sp_is_bool : Sp := fun vs H Q _ => ∃ (x y : Bool), vs = [.bl x, .bl y] ∧ Q (.bl (decide (x = y))) H
theorem d_is_bool (T : Top K mg) : Def P w K mg base CX0 1 "_law_is_bool" ["x", "due"] sp_is_bool := by
  refine T.f__law_is_bool.ok sc__law_is_bool (by rintro vs H Q E ⟨x, y, rfl, _⟩; rfl) (fun f cdv A outer s H vs Q E hr h => ?_)
  obtain ⟨x, y, rfl, q⟩ := h
  refine ⟨_, (pss_cons (ps_if (pt_val (pv 1)) (pss_one (ps_ret (pe_cmpR (r := rIsB) op_isBl (pv 0) pe_bl (nomark _)))) pss_nil)
      (pss_one (ps_ret (pe_cmpR (r := rIsB) op_isBl (pv 0) pe_bl (nomark _))))), ?_⟩
  walk_at "rd"
  cases y <;> walk_at "rd" <;> exact q
end

/-! ### the law's own reckoning of selections -/
theorem isIdx_yes {sh ix : List Int} (hl : ix.length = sh.length) (h : ∀ k : Nat, k < sh.length → 0 ≤ gi ix k ∧ gi ix k < gi sh k) : isIdx sh ix = true := by
  unfold isIdx
  rw [decide_eq_true hl, Bool.true_and, List.all_eq_true]
  intro p hp
  obtain ⟨k, hk, e⟩ := List.getElem_of_mem hp
  have hk2 : k < sh.length := by rw [List.length_zip] at hk; omega
  have hk3 : k < ix.length := by omega
  have e2 := (List.getElem_zip (h := hk)).symm.trans e
  obtain ⟨h1, h2⟩ := h k hk2
  rw [gi_nat hk3] at h1 h2
  rw [gi_nat hk2] at h2
  rw [← e2, decide_eq_true h1, decide_eq_true h2]
  rfl
theorem isIdx_no {sh ix : List Int} {k : Nat} (hl : ix.length = sh.length) (hk : k < sh.length) (h : gi ix k < 0 ∨ gi sh k ≤ gi ix k) : isIdx sh ix = false := by
  unfold isIdx
  rw [decide_eq_true hl, Bool.true_and, List.all_eq_false]
  have hk3 : k < ix.length := by omega
  have hz : k < (ix.zip sh).length := by rw [List.length_zip]; omega
  refine ⟨(ix.zip sh)[k], List.getElem_mem hz, ?_⟩
  rw [List.getElem_zip]
  rw [gi_nat hk3, gi_nat hk] at h
  intro h2
  rw [Bool.and_eq_true, decide_eq_true_eq, decide_eq_true_eq] at h2
  simp only at h2
  omega
theorem range_fm1 {α β : Type} (xs : List α) (f : α → Option β) : ∀ n, n ≤ xs.length → (List.range n).filterMap (fun i => (xs[i]?).bind f) = (xs.take n).filterMap f
  | 0, _ => rfl
  | n + 1, h => by
    rw [rfm_succ, range_fm1 xs f n (by omega), List.take_add_one, List.filterMap_append, List.getElem?_eq_getElem (show n < xs.length by omega)]
    congr 1
theorem range_fm {α β : Type} (xs : List α) (f : α → Option β) : (List.range xs.length).filterMap (fun i => (xs[i]?).bind f) = xs.filterMap f := by
  rw [range_fm1 xs f _ (Nat.le_refl _), List.take_length]
theorem fm_len {α β : Type} (p : α → Bool) (g : α → β) (xs : List α) : (xs.filterMap fun x => if p x then none else some (g x)).length = (xs.filter fun x => !p x).length := by
  induction xs with
  | nil => rfl
  | cons x xs ih =>
    rw [List.filterMap_cons, List.filter_cons]
    cases p x
    · exact congrArg (· + 1) ih
    · exact ih
theorem fm_lenP {α β : Type} (p : α → Bool) (g : α → β) (xs : List α) : (xs.filterMap fun x => if p x then some (g x) else none).length = (xs.filter fun x => p x).length := by
  induction xs with
  | nil => rfl
  | cons x xs ih =>
    rw [List.filterMap_cons, List.filter_cons]
    cases p x
    · exact ih
    · exact congrArg (· + 1) ih
/-- a new list whose items are data of tuples -/
def RetLD (K : PySem.W.Frag) (H : Hp) (Q : VK) (ds : List PyData) : Prop := ∀ H' p zs, Same H H' → H p = none → H' p = some (.lst zs) → TpAll K H' zs ds → Q (.ref p) H'
section
variable {P : Program} {w : World} {K : PySem.W.Frag} {mg : Str → Option Value} {base : Heap}
def sp_law_inside (K : PySem.W.Frag) : Sp := fun vs H Q _ => ∃ (a b : Addr) (sh ix : List Int), vs = [.ref a, .ref b] ∧ SqT K H a (sh.map V.int) ∧ SqT K H b (ix.map V.int) ∧ ix.length ≤ 1000 ∧ Q (.bl (isIdx sh ix)) H
theorem d_law_inside (T : Top K mg) : Def P w K mg base CX0 1 "_law_inside" ["shape", "index"] (sp_law_inside K) := by
  refine T.f__law_inside.ok sc__law_inside (by rintro vs H Q E ⟨a, b, sh, ix, rfl, _⟩; rfl) (fun f cdv A outer s H vs Q E hr h => ?_)
  obtain ⟨a, b, sh, ix, rfl, ha, hb, hz, q⟩ := h
  refine ⟨_, (pss_cons (ps_if (pt_cmpR op_ne (pe_callB (r := Evl.rLenS K) call_len_seq (by rfl) T.b_len (by decide +kernel) (pa_cons (pv 1) pa_nil)) (pe_callB (r := Evl.rLenS K) call_len_seq (by rfl) T.b_len (by decide +kernel) (pa_cons (pv 0) pa_nil)) (nomark _)) (pss_one (ps_ret pe_bl)) pss_nil)
      (pss_cons (ps_for PassesOwn.never rfl (pi_range1 (by rfl) T.b_range (pa_cons (pe_callB (r := Evl.rLenS K) call_len_seq (by rfl) T.b_len (by decide +kernel) (pa_cons (pv 0) pa_nil)) pa_nil)) (pg_name (i := 2) sc__law_inside.nd rfl (Or.inl rfl)) (pss_one (ps_if (PW.pt (pw_or (pt_cmpR op_lt (pe_ix (r := rIxT K) ix_tup (pv 1) (pv 2) (fun _ _ => rfl)) pe_int (nomark _)) (pw_or1 (pt_cmpR op_ge (pe_ix (r := rIxT K) ix_tup (pv 1) (pv 2) (fun _ _ => rfl)) (pe_ix (r := rIxT K) ix_tup (pv 0) (pv 2) (fun _ _ => rfl)) (nomark _))))) (pss_one (ps_ret pe_bl)) pss_nil)))
      (pss_one (ps_ret pe_bl)))), ?_⟩
  walk_at "rd"
  rw [List.length_map, List.length_map]
  refine rif_n (fun hl => ?_) fun hl => ?_
  · walk_at "rd"
    have e : isIdx sh ix = false := by unfold isIdx; rw [decide_eq_false (by omega), Bool.false_and]
    rw [e] at q
    exact q
  have hl2 : ix.length = sh.length := by omega
  walk_at "rd"
  refine forR1 (n := sh.length) (by rw [List.length_map]) (by rw [List.length_map]; omega) (fun i σ' H' => H' = H ∧ (∀ k : Nat, k < i → 0 ≤ gi ix k ∧ gi ix k < gi sh k) ∧ ∃ v, σ' = [some (.ref a), some (.ref b), v]) ⟨rfl, fun k hk => absurd hk (by omega), _, rfl⟩ ?_ ?_
  · rintro i σ' H' hi ⟨rfl, hk, v, rfl⟩
    walk_at "rd"
    refine rif (fun h => ?_) fun h => ?_
    · walk_at "rd"
      rw [isIdx_no hl2 hi (.inl h)] at q
      exact q
    walk_at "rd"
    refine rif (fun h2 => ?_) fun h2 => ?_
    · walk_at "rd"
      rw [isIdx_no hl2 hi (.inr h2)] at q
      exact q
    · walk_at "rd"
      refine ⟨rfl, fun k hk2 => ?_, _, rfl⟩
      by_cases e : k = i
      · subst e
        omega
      · exact hk k (by omega)
  · rintro σ' H' ⟨rfl, hk, v, rfl⟩
    walk_at "rd"
    rw [isIdx_yes hl2 hk] at q
    exact q
theorem d_law_whole (T : Top K mg) : Def P w K mg base CX0 1 "_law_whole" ["shape"] (sp_whole K) := by
  refine T.f__law_whole.ok sc__law_whole (by rintro vs H Q E ⟨a, sh, rfl, _⟩; rfl) (fun f cdv A outer s H vs Q E hr h => ?_)
  obtain ⟨a, sh, rfl, ha, hz, q⟩ := h
  refine ⟨_, (pss_one (ps_ret (pe_tup (pa_cons pe_str (pa_cons (pe_callTy (r := rTupS K) call_tuple_of (by rfl) T.b_tuple (by decide +kernel) (pa_cons (pe_lc (own := [("size", 1)]) (g := (gName 1)) (tt := tYes) rfl sc__law_whole.nd (pi_tup (pv 0)) (blkOk_by (N := N__law_whole) (sc := defScope s__law_whole) (by decide +kernel)) (fun _ _ _ _ _ => (pg_name (i := 1) sc__law_whole.nd rfl (Or.inl rfl))) (fun _ _ _ _ _ => pts_nil) (fun _ _ _ _ _ => (pe_tup (pa_cons pe_int (pa_cons pe_int (pa_cons (pv 1) pa_nil)))))) pa_nil)) pa_nil))))), ?_⟩
  walk_at "rd"
  refine lcjT (fun i => (sh[i]?).map fun z => triI (0, 1, z)) (Own.nil H) ha (by rw [List.length_map]; omega) ?_ ?_
  · intro i x p zs H' R hx o' s' r
    obtain ⟨z, hz', rfl⟩ := int_atT hx
    refine r_name (r _ rfl (fun Qb k => k H' (Same.refl _) |> fun z => by rw [hz'] at z; exact z) fun d' H2 hd' s2 Qv qv => ?_)
    rw [hz'] at hd'
    cases hd'
    walk_at "rd"
    refine r_newTi (K := K) [0, 1, z] rfl (Own.nil H2) (Nat.le_of_ble_eq_true rfl) fun t H3 s3 o3 h3 => ?_
    exact qv _ _ o3.ex (.tup h3 (TpAll.ints [0, 1, z]))
  intro p1 H1 zs s1 o1 t1
  have t1' : TpAll K H1 zs ((wholeR sh).map triI) := by
    have e : (List.range (sh.map V.int).length).filterMap (fun i => (sh[i]?).map fun z => triI (0, 1, z)) = (wholeR sh).map triI := by
      rw [List.length_map, range_pick sh _]
      unfold wholeR
      rw [List.map_map]
      rfl
    rw [e] at t1
    exact t1
  walk_at "rd"
  refine r_tupLs o1 (o1.sqL 0 rfl) fun t H2 s2 o2 h2 => ?_
  walk_at "rd"
  refine r_newTp (K := K) (ds := [.str (PySem.Str.ofString "box"), .tuple ((wholeR sh).map triI)]) o2 (.cons (.str _) (.cons (.tup h2 (t1'.up s2)) .nil)) (Nat.le_of_ble_eq_true rfl) fun t2 H3 s3 o3 h3 => ?_
  exact q.mk o3 h3
def sp_law_drawn_shape (K : PySem.W.Frag) : Sp := fun vs H Q _ => ∃ (a : Addr) (dr : List Int) (i m : Nat), vs = [.ref a, .int i, .int m] ∧ SqL K H a (dr.map V.int) ∧ Dr dr ∧ dr.length ≤ 1000 ∧ i < dr.length ∧ m ≤ 1000000 ∧ ∀ sh : List Int, sh.length ≤ 4 → (∀ z ∈ sh, 0 ≤ z ∧ z ≤ m) → RetD K H Q (tupI sh)
theorem d_law_drawn_shape (T : Top K mg) : Def P w K mg base CX0 1 "_law_drawn_shape" ["draws", "at", "most"] (sp_law_drawn_shape K) := by
  refine T.f__law_drawn_shape.ok sc__law_drawn_shape (by rintro vs H Q E ⟨a, dr, i, m, rfl, _⟩; rfl) (fun f cdv A outer s H vs Q E hr h => ?_)
  obtain ⟨a, dr, i, m, rfl, ha, hd, hz, hi, hm, q⟩ := h
  refine ⟨_, (pss_one (ps_ret (pe_callTy (r := rTupS K) call_tuple_of (by rfl) T.b_tuple (by decide +kernel) (pa_cons (pe_lc (own := [("k", 3)]) (g := (gName 3)) (tt := tYes) rfl sc__law_drawn_shape.nd (pi_range1 (by rfl) T.b_range (pa_cons (pe_op op_mod (pe_ix (r := rIxL K) ix_list (pv 0) (pv 1) (fun _ _ => rfl)) pe_int) pa_nil)) (blkOk_by (N := N__law_drawn_shape) (sc := defScope s__law_drawn_shape) (by decide +kernel)) (fun _ _ _ _ _ => (pg_name (i := 3) sc__law_drawn_shape.nd rfl (Or.inl rfl))) (fun _ _ _ _ _ => pts_nil) (fun _ _ _ _ _ => (pe_op op_mod (pe_ix (r := rIxL K) ix_list (pv 0) (pe_op op_mod (pe_op op_add (pe_op op_add (pv 1) pe_int) (pv 3)) (pe_callB (r := Evl.rLenS K) call_len_seq (by rfl) T.b_len (by decide +kernel) (pa_cons (pv 0) pa_nil))) (fun _ _ => rfl)) (pe_op op_add (pv 2) pe_int)))) pa_nil)))), ?_⟩
  have g0 := hd.gi (i := (i : Int)) (by omega) (by omega)
  walk_at "rd"
  obtain ⟨n, hn⟩ : ∃ n : Nat, gi dr (i : Int) % 5 = n := ⟨(gi dr (i : Int) % 5).toNat, by omega⟩
  rw [hn]
  have hlm := List.length_map (as := dr) V.int
  refine lcjR (K := K) (n := n) (fun k => some (.int (gi dr (((i : Int) + 1 + (k : Int)) % (dr.length : Int)) % ((m : Int) + 1)))) (Own.nil H) rfl (by omega) ?_ ?_
  · intro k p zs H' R hk o' s' r
    have hS : SqL K H' a (dr.map V.int) := o'.old ha
    refine r_name (r _ rfl (fun Qb k => k H' (Same.refl _)) fun d' H2 hd' s2 Qv qv => ?_)
    cases hd'
    have hS2 := same_seqL' s2 hS
    have m1 := Int.emod_nonneg ((i : Int) + 1 + (k : Int)) (show (dr.length : Int) ≠ 0 by omega)
    have m2 := Int.emod_lt_of_pos ((i : Int) + 1 + (k : Int)) (show (0 : Int) < (dr.length : Int) by omega)
    walk_at "rd"
    rw [hlm]
    refine r_ixI hS2 m1 m2 ?_
    walk_at "rd"
    exact qv _ _ (Same.refl _) (.int _)
  intro p1 H1 zs s1 o1 t1
  rw [rfm_all] at t1
  have e := ints_invF t1
  subst e
  walk_at "rd"
  refine r_tupLs o1 (o1.sqL 0 rfl) fun t H2 s2 o2 h2 => ?_
  refine (q _ (by rw [List.length_map, List.length_range]; omega) fun z hz' => ?_).mk o2 (Tp.intsT h2)
  obtain ⟨k, hk, rfl⟩ := List.mem_map.mp hz'
  have m3 := Int.emod_nonneg (gi dr (((i : Int) + 1 + (k : Int)) % (dr.length : Int))) (show (m : Int) + 1 ≠ 0 by omega)
  have m4 := Int.emod_lt_of_pos (gi dr (((i : Int) + 1 + (k : Int)) % (dr.length : Int))) (show (0 : Int) < (m : Int) + 1 by omega)
  omega
end

section
variable {P : Program} {w : World} {K : PySem.W.Frag} {mg : Str → Option Value} {base : Heap}
def sp_law_many (K : PySem.W.Frag) : Sp := fun vs H Q _ => ∃ (a : Addr) (ns : List Int), vs = [.ref a] ∧ SqL K H a (ns.map V.int) ∧ (∀ x ∈ ns, -(2 ^ 60) ≤ x ∧ x ≤ 2 ^ 60) ∧ Q (.int (prodL ns)) H
theorem d_law_many (T : Top K mg) : Def P w K mg base CX0 1 "_law_many" ["shape"] (sp_law_many K) := by
  refine T.f__law_many.ok sc__law_many (by rintro vs H Q E ⟨a, ns, rfl, _⟩; rfl) (fun f cdv A outer s H vs Q E hr h => ?_)
  obtain ⟨a, ns, rfl, hS, hok, q⟩ := h
  refine ⟨_, (pss_cons (ps_set (i := 1) sc__law_many.nd rfl (Or.inl rfl) pe_int)
      (pss_cons (ps_for PassesOwn.never rfl (pi_list (pv 0)) (pg_name (i := 2) sc__law_many.nd rfl (Or.inl rfl)) (pss_one (ps_set (i := 1) sc__law_many.nd rfl (Or.inl rfl) (pe_op op_mul (pv 1) (pv 2)))))
      (pss_one (ps_ret (pv 1))))), ?_⟩
  walk_at "rd"
  refine forL hS (fun i σ' H' => H' = H ∧ ∃ v, σ' = [some (.ref a), some (.int (prodL (ns.take i))), v]) ⟨rfl, _, rfl⟩ (fun i σ' H' _ ⟨e, _⟩ => by rw [e]; exact hS) ?_ ?_
  · rintro i v σ' H' hi ⟨rfl, v2, rfl⟩
    obtain ⟨x, hx, rfl⟩ := int_atT hi
    have hx0 := hok x (List.mem_of_getElem? hx)
    walk_at "rd"
    refine ⟨rfl, some (.int x), ?_⟩
    rw [prodL_take hx]
    rfl
  · rintro σ' H' ⟨rfl, v2, rfl⟩
    walk_at "rd"
    rw [List.length_map, List.take_length]
    exact q
def RgB (r : Int × Int × Int) : Prop := 0 ≤ r.1 ∧ r.1 ≤ 100000000000 ∧ 1 ≤ r.2.1 ∧ r.2.1 ≤ 1000000000 ∧ 0 ≤ r.2.2 ∧ r.2.2 ≤ 4
def sp_law_ranges (K : PySem.W.Frag) : Sp := fun vs H Q _ => ∃ (a b : Addr) (dr sh : List Int), vs = [.ref a, .ref b] ∧ SqL K H a (dr.map V.int) ∧ SqT K H b (sh.map V.int) ∧ Dr dr ∧ dr.length = 32 ∧ sh.length ≤ 4 ∧ (∀ z ∈ sh, 0 ≤ z ∧ z ≤ 6) ∧ ∀ rs : List (Int × Int × Int), rs.length = sh.length → (∀ r ∈ rs, RgB r) → RetLD K H Q (rs.map triI)
theorem d_law_ranges (T : Top K mg) : Def P w K mg base CX0 1 "_law_ranges" ["draws", "shape"] (sp_law_ranges K) := by
  refine T.f__law_ranges.ok sc__law_ranges (by rintro vs H Q E ⟨a, b, dr, sh, rfl, _⟩; rfl) (fun f cdv A outer s H vs Q E hr h => ?_)
  obtain ⟨a, b, dr, sh, rfl, ha, hb, hd, hl, hsl, hsb, q⟩ := h
  refine ⟨_, (pss_cons (ps_set (i := 2) sc__law_ranges.nd rfl (Or.inl rfl) (pe_lst pa_nil))
      (pss_cons (ps_for PassesOwn.never rfl (pi_range1 (by rfl) T.b_range (pa_cons (pe_callB (r := Evl.rLenS K) call_len_seq (by rfl) T.b_len (by decide +kernel) (pa_cons (pv 1) pa_nil)) pa_nil)) (pg_name (i := 3) sc__law_ranges.nd rfl (Or.inl rfl)) (pss_cons (ps_set (i := 4) sc__law_ranges.nd rfl (Or.inl rfl) (pe_ix (r := rIxL K) ix_list (pv 0) (pe_op op_add pe_int (pv 3)) (fun _ _ => rfl)))
      (pss_cons (ps_set (i := 5) sc__law_ranges.nd rfl (Or.inl rfl) (pe_op op_mod (pe_op op_fdiv (pv 4) pe_int) pe_int))
      (pss_cons (ps_set (i := 6) sc__law_ranges.nd rfl (Or.inl rfl) (pe_cutE (pe_ifExp (pt_cmpR op_gt (pe_op op_mod (pv 4) pe_int) pe_int (nomark _)) (pe_ix (r := rIxL K) ix_list (pe_lst (pa_cons pe_int (pa_cons pe_int (pa_cons pe_int (pa_cons (pe_powC (c := 1000000000) ⟨by decide, by decide, by decide⟩ (by decide +kernel)) pa_nil))))) (pe_op op_mod (pe_op op_fdiv (pv 4) pe_int) pe_int) (fun _ _ => rfl)) pe_int)))
      (pss_cons (ps_set (i := 7) sc__law_ranges.nd rfl (Or.inl rfl) (pe_op op_add (pe_op op_sub (pe_op op_sub (pe_ix (r := rIxT K) ix_tup (pv 1) (pv 3) (fun _ _ => rfl)) pe_int) (pe_op op_mul (pv 6) (pe_op op_sub (pv 5) pe_int))) (pe_ix (r := rIxL K) ix_list (pe_lst (pa_cons pe_int (pa_cons pe_int (pa_cons pe_int (pa_cons pe_int (pa_cons (pe_un un_neg pe_int) pa_nil)))))) (pe_op op_mod (pe_ix (r := rIxL K) ix_list (pv 0) (pe_op op_add pe_int (pv 3)) (fun _ _ => rfl)) pe_int) (fun _ _ => rfl))))
      (Evl.pss_cut (ps_if (pt_cmpR op_eq (pe_op op_mod (pe_op op_fdiv (pe_ix (r := rIxL K) ix_list (pv 0) (pe_op op_add pe_int (pv 3)) (fun _ _ => rfl)) pe_int) pe_int) pe_int (nomark _)) (pss_one (ps_set (i := 7) sc__law_ranges.nd rfl (Or.inl rfl) (pe_op op_mod (pe_op op_fdiv (pv 4) pe_int) pe_int))) pss_nil)
      (pss_one (ps_expr (pe_bm PySem.F.plainAttrs_list PySem.F.slot_list_append PySem.F.type_list_append mt_append (pv 2) (pa_cons (pe_tup (pa_cons (pe_callB (r := rMax2) (call_max2 rfl) (by rfl) T.b_max (by decide +kernel) (pa_cons pe_int (pa_cons (pv 7) pa_nil))) (pa_cons (pv 6) (pa_cons (pv 5) pa_nil)))) pa_nil))))))))))
      (pss_one (ps_ret (pv 2))))), ?_⟩
  walk_at "rd"
  refine r_newLs (Own.nil H) (Nat.zero_le _) fun p H1 s1 o1 => ?_
  walk_at "rd"
  refine forR1 (n := sh.length) (by rw [List.length_map]) (by rw [List.length_map]; omega) (fun i σ' H' => ∃ (zs : List V) (rs : List (Int × Int × Int)) (v3 v4 v5 v6 v7 : Option V), σ' = [some (.ref a), some (.ref b), some (.ref p), v3, v4, v5, v6, v7] ∧ rs.length = i ∧ (∀ r ∈ rs, RgB r) ∧ TpAll K H' zs (rs.map triI) ∧ Own H H' [(p, .lst zs)])
    ⟨[], [], _, _, _, _, _, rfl, rfl, (by intro r hr; cases hr), .nil, o1⟩ ?_ ?_
  · rintro i σ' H' hi ⟨zs, rs, v3, v4, v5, v6, v7, rfl, hrl, hrb, hzs, o⟩
    have g8 := hd.gi (i := 8 + (i : Int)) (by omega) (by omega)
    have g12 := hd.gi (i := 12 + (i : Int)) (by omega) (by omega)
    have hsi : 0 ≤ gi sh (i : Int) ∧ gi sh (i : Int) ≤ 6 := hsb _ (gi_mem (by omega) (by omega))
    have hA := o.old ha
    have hB := o.oldT hb
    walk_at "rd"
    refine r_cutE (fun v H2 => ∃ m, v = .int m ∧ (1 ≤ m ∧ m ≤ 1000000000) ∧ Own H H2 [(p, .lst zs)] ∧ Stp H' H2) ?_ ?_
    · walk_at "rd"
      refine rif (fun _ => ?_) fun _ => ?_
      · walk_at "rd"
        refine r_newLs o (Nat.le_of_ble_eq_true rfl) fun p2 H2 s2 o2 => ?_
        have hA2 := o2.old ha
        walk_at "rd"
        refine r_ixM (o2.sqL 0 rfl) (by omega) (show _ < (4 : Int) by omega) fun v hv _ => ?_
        simp only [List.mem_cons, List.not_mem_nil, or_false] at hv
        rcases hv with rfl | rfl | rfl | rfl <;> exact ⟨_, rfl, by decide, o2.tl, s2⟩
      · walk_at "rd"
        exact ⟨_, rfl, by decide, o, .refl _⟩
    rintro v H2 ⟨st, rfl, hst, o2, s2⟩
    have hA2 := o2.old ha
    have hB2 := o2.oldT hb
    walk_at "rd"
    refine r_newLs o2 (Nat.le_of_ble_eq_true rfl) fun p3 H3 s3 o3 => ?_
    have hA3 := o3.old ha
    walk_at "rd"
    refine r_ixM (o3.sqL 0 rfl) (by omega) (show _ < (5 : Int) by omega) fun v hv _ => ?_
    obtain ⟨e, rfl, he⟩ : ∃ e : Int, v = .int e ∧ (-1 ≤ e ∧ e ≤ 1) := by
      simp only [List.mem_cons, List.not_mem_nil, or_false] at hv
      rcases hv with rfl | rfl | rfl | rfl | rfl <;> exact ⟨_, rfl, by decide, by decide⟩
    have hc : 0 ≤ gi dr (8 + (i : Int)) / 7 % 5 ∧ gi dr (8 + (i : Int)) / 7 % 5 ≤ 4 := by omega
    generalize gi dr (8 + (i : Int)) / 7 % 5 = c at *
    walk_at "rd"
    have hb1 : -100000000000 ≤ gi sh (i : Int) - 1 - st * (c - 1) + e ∧ gi sh (i : Int) - 1 - st * (c - 1) + e ≤ 100000000000 := by
      have : c = 0 ∨ c = 1 ∨ c = 2 ∨ c = 3 ∨ c = 4 := by omega
      rcases this with rfl | rfl | rfl | rfl | rfl <;> omega
    generalize gi sh (i : Int) - 1 - st * (c - 1) + e = s0 at *
    refine ⟨fun σ' H4 => ∃ s1 : Int, (-100000000000 ≤ s1 ∧ s1 ≤ 100000000000) ∧ σ' = [some (.ref a), some (.ref b), some (.ref p), some (.int i), some (.int (gi dr (8 + (i : Int)))), some (.int c), some (.int st), some (.int s1)] ∧ Own H H4 [(p, .lst zs)] ∧ Stp H' H4, ?_, ?_⟩
    · walk_at "rd"
      refine rif (fun _ => ?_) fun _ => ?_
      · walk_at "rd"
        exact ⟨_, by omega, rfl, o3.tl, s2.trans s3⟩
      · walk_at "rd"
        exact ⟨_, hb1, rfl, o3.tl, s2.trans s3⟩
    rintro σ' H4 ⟨s1, hs1, rfl, o4, s4⟩
    walk_at "rd"
    refine r_newTi (K := K) [_, _, _] rfl o4 (Nat.le_of_ble_eq_true rfl) fun t H5 s5 o5 h5 => ?_
    have hz5 := hzs.up (s4.trans s5)
    have hzl := hz5.len
    rw [List.length_map] at hzl
    walk_at "rd"
    refine r_apps o5 0 rfl (by omega) fun H6 s6 o6 => ?_
    walk_at "rd"
    refine ⟨_, rs ++ [((if s1 > 0 then s1 else 0), st, c)], _, _, _, _, _, rfl, by rw [List.length_append, hrl]; rfl, ?_, ?_, o6⟩
    · intro r hr
      rcases List.mem_append.mp hr with hr | hr
      · exact hrb r hr
      · rw [List.mem_singleton.mp hr]
        unfold RgB
        simp only
        split <;> omega
    · rw [List.map_append]
      exact ((hz5.up s6).snoc (.tup (s6.sq h5) (TpAll.ints [_, _, _])))
  · rintro σ' H' ⟨zs, rs, v3, v4, v5, v6, v7, rfl, hrl, hrb, hzs, o⟩
    walk_at "rd"
    exact q rs hrl hrb H' p zs o.ex (o.fresh 0 rfl) (o.at 0 rfl) hzs
def sp_same_box (K : PySem.W.Frag) : Sp := fun vs H Q _ => ∃ (u v : V) (rs : List (Int × Int × Int)), vs = [u, v] ∧ Tp K H u (Sel.box rs).d ∧ Tp K H v (Sel.box rs).d ∧ rs.length ≤ 1000 ∧ RetV H Q (.bl true)
theorem d_same_box (T : Top K mg) : Def P w K mg base CX0 4 "_law_same_box" ["told", "due"] (sp_same_box K) := by
  have G__law_is_tuple : Def P w K mg base CX0 3 "_law_is_tuple" ["x", "due"] (sp_is_tuple K) := d_is_tuple T
  refine T.f__law_same_box.ok sc__law_same_box (by rintro vs H Q E ⟨u, v, rs, rfl, _⟩; rfl) (fun f cdv A outer s H vs Q E hr h => ?_)
  obtain ⟨u, v, rs, rfl, hu, hv, hz, q⟩ := h
  obtain ⟨b, c, ws, rfl, hb, hc, hw⟩ := sel_inv hu
  obtain ⟨b2, c2, ws2, rfl, hb2, hc2, hw2⟩ := sel_inv hv
  have hl1 : ws.length = rs.length := by rw [hw.len, List.length_map]
  have hl2 : ws2.length = rs.length := by rw [hw2.len, List.length_map]
  refine ⟨_, (pss_cons (ps_if (PW.pt (pw_or (pt_not (pt_val (pe_callB (r := rIsi K) call_isi (by rfl) T.b_isinstance (by decide +kernel) (pa_cons (pv 0) (pa_cons (pe_bltn (v := .ty "tuple") (by rfl) T.b_tuple (by decide +kernel) rfl) pa_nil))))) (pw_or (pt_cmpR op_ne (pe_callB (r := Evl.rLenS K) call_len_seq (by rfl) T.b_len (by decide +kernel) (pa_cons (pv 0) pa_nil)) pe_int (nomark _)) (pw_or (pt_cmpR op_ne (pe_ix (r := rIxT K) ix_tup (pv 0) pe_int (fun _ _ => rfl)) pe_str (nomark _)) (pw_or (pt_not (pt_val (pe_callB (r := rIsi K) call_isi (by rfl) T.b_isinstance (by decide +kernel) (pa_cons (pe_ix (r := rIxT K) ix_tup (pv 0) pe_int (fun _ _ => rfl)) (pa_cons (pe_bltn (v := .ty "tuple") (by rfl) T.b_tuple (by decide +kernel) rfl) pa_nil))))) (pw_or1 (pt_cmpR op_ne (pe_callB (r := Evl.rLenS K) call_len_seq (by rfl) T.b_len (by decide +kernel) (pa_cons (pe_ix (r := rIxT K) ix_tup (pv 0) pe_int (fun _ _ => rfl)) pa_nil)) (pe_callB (r := Evl.rLenS K) call_len_seq (by rfl) T.b_len (by decide +kernel) (pa_cons (pe_ix (r := rIxT K) ix_tup (pv 1) pe_int (fun _ _ => rfl)) pa_nil)) (nomark _)))))))) (pss_one (ps_ret pe_bl)) pss_nil)
      (pss_one (ps_ret (pe_cmpR op_eq (pe_callB (r := Evl.rLenS K) call_len_seq (by rfl) T.b_len (by decide +kernel) (pa_cons (pe_lc (own := [("k", 2)]) (g := (gName 2)) rfl sc__law_same_box.nd (pi_range1 (by rfl) T.b_range (pa_cons (pe_callB (r := Evl.rLenS K) call_len_seq (by rfl) T.b_len (by decide +kernel) (pa_cons (pe_ix (r := rIxT K) ix_tup (pv 1) pe_int (fun _ _ => rfl)) pa_nil)) pa_nil)) (blkOk_by (N := N__law_same_box) (sc := defScope s__law_same_box) (by decide +kernel)) (fun _ _ _ _ _ => (pg_name (i := 2) sc__law_same_box.nd rfl (Or.inl rfl))) (fun _ _ _ _ _ => pts_one (pt_not (pt_val (pe_callD G__law_is_tuple (hr.mono (by decide)) (pa_cons (pe_ix (r := rIxT K) ix_tup (pe_ix (r := rIxT K) ix_tup (pv 0) pe_int (fun _ _ => rfl)) (pv 2) (fun _ _ => rfl)) (pa_cons (pe_ix (r := rIxT K) ix_tup (pe_ix (r := rIxT K) ix_tup (pv 1) pe_int (fun _ _ => rfl)) (pv 2) (fun _ _ => rfl)) pa_nil)))))) (fun _ _ _ _ _ => (pv 2))) pa_nil)) pe_int (nomark _))))), ?_⟩
  walk_at "rd"
  refine r_isi (T := "tuple") (b := true) (ty_sqT hb) (by decide +kernel) ?_
  walk_at "rd"
  refine rif_nyes (by exact rfl) ?_
  walk_at "rd"
  refine r_ixT hb (atI_nat (j := 0) rfl) ?_
  walk_at "rd"
  refine rif_nyes (by decide +kernel) ?_
  walk_at "rd"
  refine r_ixT hb (atI_nat (j := 1) rfl) ?_
  walk_at "rd"
  refine r_isi (T := "tuple") (b := true) (ty_sqT hc) (by decide +kernel) ?_
  walk_at "rd"
  refine r_ixT hb (atI_nat (j := 1) rfl) ?_
  walk_at "rd"
  refine r_ixT hb2 (atI_nat (j := 1) rfl) ?_
  walk_at "rd"
  refine rif_nyes (by rw [hl1, hl2]) ?_
  walk_at "rd"
  refine r_ixT hb2 (atI_nat (j := 1) rfl) ?_
  walk_at "rd"
  refine lcjR (K := K) (n := ws2.length) (fun _ => none) (Own.nil H) rfl (by omega) ?_ ?_
  · intro k p zs H' R hk o' s' r
    refine r_name (r _ rfl (fun Qb qb => ?_) fun d' H2 hd' => by cases hd')
    have hk1 : k < ws.length := by omega
    obtain ⟨r1, a1, e1, ew1, ha1⟩ := tri_at (hw.up s') (List.getElem?_eq_getElem hk1)
    obtain ⟨r2, a2, e2, ew2, ha2⟩ := tri_at (hw2.up s') (List.getElem?_eq_getElem hk)
    rw [e1] at e2
    cases e2
    walk_at "rd"
    refine r_ixT (s'.sq hb) (atI_nat (j := 1) rfl) ?_
    walk_at "rd"
    refine r_ixT (s'.sq hc) (atI_nat (List.getElem?_eq_getElem hk1)) ?_
    rw [ew1]
    walk_at "rd"
    refine r_ixT (s'.sq hb2) (atI_nat (j := 1) rfl) ?_
    walk_at "rd"
    refine r_ixT (s'.sq hc2) (atI_nat (List.getElem?_eq_getElem hk)) ?_
    rw [ew2]
    walk_at "rd"
    refine ⟨_, _, [r1.1, r1.2.1, r1.2.2], rfl, ha1, ha2, Nat.le_of_ble_eq_true rfl, ?_⟩
    walk_at "rd"
    exact qb _ (Same.refl _)
  intro p1 H1 zs s1 o1 t1
  have e0 : ((List.range ws2.length).filterMap fun _ => (none : Option PyData)) = [] := by rw [List.filterMap_eq_nil_iff]; intro _ _; rfl
  rw [e0] at t1
  cases t1
  walk_at "rd"
  exact q.mk o1
end

section
variable {P : Program} {w : World} {K : PySem.W.Frag} {mg : Str → Option Value} {base : Heap}
theorem all_filterN {α : Type} (f : α → Bool) (ms : List α) : ms.all f = decide ((((ms.filter fun x => !f x).length : Nat) : Int) = 0) := by
  induction ms with
  | nil => rfl
  | cons m ms ih =>
    rw [List.all_cons, List.filter_cons, ih]
    cases f m with
    | true => simp
    | false =>
      rw [Bool.false_and]
      symm
      refine decide_eq_false ?_
      simp
      omega
theorem any_filterP {α : Type} (f : α → Bool) (ms : List α) : ms.any f = decide ((0 : Int) < ((ms.filter f).length : Nat)) := by
  induction ms with
  | nil => rfl
  | cons m ms ih =>
    rw [List.any_cons, List.filter_cons, ih]
    cases f m with
    | true =>
      rw [Bool.true_or]
      symm
      refine decide_eq_true ?_
      simp
    | false => simp
def ptF (dr sh : List Int) (j : Nat) : List Int := (List.range sh.length).map fun (k : Nat) => if gi sh (k : Int) > 0 then gi dr ((9 + (j : Int) + (k : Int)) % 32) % (gi sh (k : Int) + (if gi dr 7 % 4 = 0 then 1 else 0)) else 0
theorem set_map {α β : Type} (f : α → β) (l : List α) (k : Nat) (x : α) : (l.map f).set k (f x) = (l.set k x).map f := by
  rw [List.map_set]
theorem TpAll.set {H : Hp} {v : V} {d : PyData} (t : Tp K H v d) : ∀ {vs : List V} {ds : List PyData} (k : Nat), TpAll K H vs ds → TpAll K H (vs.set k v) (ds.set k d)
  | _, _, _, .nil => .nil
  | _, _, 0, .cons _ h => .cons t h
  | _, _, k + 1, .cons a h => .cons a (TpAll.set t k h)
def RgW (r : Int × Int × Int) : Prop := -1000000000000 ≤ r.2.1 ∧ r.2.1 ≤ 1000000000000 ∧ -1000000000000 ≤ r.2.2 ∧ r.2.2 ≤ 1000000000000
theorem rgB_w {r : Int × Int × Int} (h : RgB r) : RgW r := by
  obtain ⟨_, _, h1, h2, h3, h4⟩ := h
  exact ⟨by omega, by omega, by omega, by omega⟩
def lawK : Nat := 8
theorem ok_law {f : Addr} {fd : FuncData} (F : Fun K "law" "law" s_law f fd) (T : Top K mg) : FnOk P w K mg base CX0 lawK f fd ["script"] (spLaw K) := by
  have G__law_stream : Def P w K mg base CX0 2 "_law_stream" ["script", "count"] (sp_stream K) := d_stream T
  have G__law_drawn_shape : Def P w K mg base CX0 1 "_law_drawn_shape" ["draws", "at", "most"] (sp_law_drawn_shape K) := d_law_drawn_shape T
  have G__law_same_box : Def P w K mg base CX0 4 "_law_same_box" ["told", "due"] (sp_same_box K) := d_same_box T
  have G_whole : Def P w K mg base CX0 1 "whole" ["shape"] (sp_whole K) := d_whole T
  have G__law_whole : Def P w K mg base CX0 1 "_law_whole" ["shape"] (sp_whole K) := d_law_whole T
  have G__law_inside : Def P w K mg base CX0 1 "_law_inside" ["shape", "index"] (sp_law_inside K) := d_law_inside T
  have G__law_is_bool : Def P w K mg base CX0 1 "_law_is_bool" ["x", "due"] sp_is_bool := d_is_bool T
  have G__law_is_number : Def P w K mg base CX0 2 "_law_is_number" ["x", "due"] sp_is_number := d_is_number T
  have G_fits : Def P w K mg base CX0 2 "fits" ["shape", "selection"] (sp_fits K) := d_fits T
  have G_selection_size : Def P w K mg base CX0 1 "selection_size" ["selection"] (sp_sel_size K) := d_sel_size T
  have G__law_ranges : Def P w K mg base CX0 1 "_law_ranges" ["draws", "shape"] (sp_law_ranges K) := d_law_ranges T
  have G__law_many : Def P w K mg base CX0 1 "_law_many" ["shape"] (sp_law_many K) := d_law_many T
  refine F.ok sc_law (by rintro vs H Q E ⟨a, ss, rfl, _⟩; rfl) (fun cdv A outer s H vs Q E hr h => ?_)
  obtain ⟨a, ss, rfl, hS, hl, hb, q⟩ := h
  refine ⟨_, (pss_cons (ps_set (i := 1) sc_law.nd rfl (Or.inr rfl) (pe_callD G__law_stream (hr.mono (by decide)) (pa_cons (pv 0) (pa_cons pe_int pa_nil))))
      (pss_cons (ps_set (i := 2) sc_law.nd rfl (Or.inr rfl) (pe_callD G__law_drawn_shape (hr.mono (by decide)) (pa_cons (pv 1) (pa_cons pe_int (pa_cons pe_int pa_nil)))))
      (pss_cons (ps_if (pt_not (pt_val (pe_callD G__law_same_box (hr.mono (by decide)) (pa_cons (pe_callD G_whole (hr.mono (by decide)) (pa_cons (pv 2) pa_nil)) (pa_cons (pe_callD G__law_whole (hr.mono (by decide)) (pa_cons (pv 2) pa_nil)) pa_nil))))) (pss_one (ps_ret pe_bl)) pss_nil)
      (pss_cons (ps_if (pt_cmpR op_eq (pe_op op_mod (pe_ix (r := rIxL K) ix_list (pv 1) pe_int (fun _ _ => rfl)) pe_int) pe_int (nomark _)) (pss_cons (ps_setLc (i := 3) (own := [("j", 6)]) (g := (gName 6)) (tt := tYes) rfl sc_law.nd rfl rfl (sw_true rfl rfl rfl (by decide +kernel)) (pi_range1 (by rfl) T.b_range (pa_cons (pe_op op_mod (pe_ix (r := rIxL K) ix_list (pv 1) pe_int (fun _ _ => rfl)) pe_int) pa_nil)) (blkOk_by (N := N_law) (sc := defScope s_law) (by decide +kernel)) (fun _ _ _ _ _ => (pg_name (i := 6) sc_law.nd rfl (Or.inr rfl))) (fun _ _ _ _ _ => pts_nil) (fun _ _ _ _ _ => (pe_callTy (r := rTupS K) call_tuple_of (by rfl) T.b_tuple (by decide +kernel) (pa_cons (pe_lc (own := [("k", 4), ("size", 5)]) (g := (gTup K 2 (gCons (gName 4) (gCons (gName 5) gNil)))) (tt := tYes) rfl sc_law.nd (pi_enumKK (K := K) rfl (k := true) (by rfl) T.b_enumerate (pa_cons (pv 2) pa_nil)) (blkOk_by (N := N_law) (sc := relS _ (defScope s_law)) (by decide +kernel)) (fun _ _ _ _ _ => (pg_tupK (K := K) (n := 2) rfl rfl (pgs_cons (pg_name (i := 4) sc_law.nd rfl (Or.inl rfl)) (pgs_cons (pg_name (i := 5) sc_law.nd rfl (Or.inl rfl)) pgs_nil)))) (fun _ _ _ _ _ => pts_nil) (fun _ _ _ _ _ => (pe_cutE (pe_ifExp (pt_cmpR op_gt (pv 5) pe_int (nomark _)) (pe_op op_mod (pe_ix (r := rIxL K) ix_list (pv 1) (pe_op op_mod (pe_op op_add (pe_op op_add pe_int (pv 6)) (pv 4)) pe_int) (fun _ _ => rfl)) (pe_op op_add (pv 5) (pe_callTy (r := rInt1) call_int1 (by rfl) T.b_int (by decide +kernel) (pa_cons (pe_cmpR op_eq (pe_op op_mod (pe_ix (r := rIxL K) ix_list (pv 1) pe_int (fun _ _ => rfl)) pe_int) pe_int (nomark _)) pa_nil)))) pe_int)))) pa_nil))))
      (Evl.pss_cut (ps_if (pt_cutT (PW.pt (pw_and (pt_cmpR op_gt (pe_callB (r := Evl.rLenS K) call_len_seq (by rfl) T.b_len (by decide +kernel) (pa_cons (pv 3) pa_nil)) pe_int (nomark _)) (pw_and1 (pt_cmpR op_eq (pe_op op_mod (pe_ix (r := rIxL K) ix_list (pv 1) pe_int (fun _ _ => rfl)) pe_int) pe_int (nomark _)))))) (pss_one (ps_asg (pe_ix (r := rIxL K) ix_list (pe_lst (pa_cons (pv 2) (pa_cons (pe_callTy (r := rTupS K) call_tuple_of (by rfl) T.b_tuple (by decide +kernel) (pa_cons (pe_op op_rep (pe_lst (pa_cons (pe_un un_neg pe_int) pa_nil)) (pe_callB (r := Evl.rLenS K) call_len_seq (by rfl) T.b_len (by decide +kernel) (pa_cons (pv 2) pa_nil))) pa_nil)) (pa_cons (pe_op (r := rRepA K) op_repA (pe_tup (pa_cons pe_int pa_nil)) (pe_op op_add (pe_callB (r := Evl.rLenS K) call_len_seq (by rfl) T.b_len (by decide +kernel) (pa_cons (pv 2) pa_nil)) pe_int)) (pa_cons (pe_slice (r := rSlA K) sl_tupA (pv 2) (po_some pe_int) po_none) pa_nil))))) (pe_op op_mod (pe_ix (r := rIxL K) ix_list (pv 1) pe_int (fun _ _ => rfl)) pe_int) (fun _ _ => rfl)) (pg_sub (pv 3) (pe_op op_mod (pe_ix (r := rIxL K) ix_list (pv 1) pe_int (fun _ _ => rfl)) (pe_callB (r := Evl.rLenS K) call_len_seq (by rfl) T.b_len (by decide +kernel) (pa_cons (pv 3) pa_nil))) set_list))) pss_nil)
      (pss_cons (ps_set (i := 7) sc_law.nd rfl (Or.inl rfl) (pe_tup (pa_cons pe_str (pa_cons (pe_callTy (r := rTupS K) call_tuple_of (by rfl) T.b_tuple (by decide +kernel) (pa_cons (pv 3) pa_nil)) pa_nil))))
      (pss_cons (ps_set (i := 8) sc_law.nd rfl (Or.inl rfl) (pe_cmpR op_eq (pe_callB (r := Evl.rLenS K) call_len_seq (by rfl) T.b_len (by decide +kernel) (pa_cons (pe_lc (own := [("index", 9)]) (g := (gName 9)) rfl sc_law.nd (pi_list (pv 3)) (blkOk_by (N := N_law) (sc := defScope s_law) (by decide +kernel)) (fun _ _ _ _ _ => (pg_name (i := 9) sc_law.nd rfl (Or.inl rfl))) (fun _ _ _ _ _ => pts_one (pt_not (pt_val (pe_callD G__law_inside (hr.mono (by decide)) (pa_cons (pv 2) (pa_cons (pv 9) pa_nil)))))) (fun _ _ _ _ _ => (pv 9))) pa_nil)) pe_int (nomark _)))
      (pss_one (ps_ret (pe_and (pe_callD G__law_is_bool (hr.mono (by decide)) (pa_cons (pe_callD G_fits (hr.mono (by decide)) (pa_cons (pv 2) (pa_cons (pv 7) pa_nil))) (pa_cons (pv 8) pa_nil))) (pe_one (pe_callD G__law_is_number (hr.mono (by decide)) (pa_cons (pe_callD G_selection_size (hr.mono (by decide)) (pa_cons (pv 7) pa_nil)) (pa_cons (pe_callB (r := Evl.rLenS K) call_len_seq (by rfl) T.b_len (by decide +kernel) (pa_cons (pv 3) pa_nil)) pa_nil))))))))))) pss_nil)
      (pss_cons (ps_set (i := 10) sc_law.nd rfl (Or.inr rfl) (pe_callD G__law_ranges (hr.mono (by decide)) (pa_cons (pv 1) (pa_cons (pv 2) pa_nil))))
      (Evl.pss_cut (ps_if (pt_cutT (PW.pt (pw_and (pt_cmpR op_gt (pe_callB (r := Evl.rLenS K) call_len_seq (by rfl) T.b_len (by decide +kernel) (pa_cons (pv 10) pa_nil)) pe_int (nomark _)) (pw_and1 (pt_cmpR op_eq (pe_op op_mod (pe_ix (r := rIxL K) ix_list (pv 1) pe_int (fun _ _ => rfl)) pe_int) pe_int (nomark _)))))) (pss_cons (ps_set (i := 11) sc_law.nd rfl (Or.inl rfl) (pe_op op_mod (pe_ix (r := rIxL K) ix_list (pv 1) pe_int (fun _ _ => rfl)) (pe_callB (r := Evl.rLenS K) call_len_seq (by rfl) T.b_len (by decide +kernel) (pa_cons (pv 10) pa_nil))))
      (pss_cons (ps_set (i := 12) sc_law.nd rfl (Or.inl rfl) (pe_ix (r := rIxL K) ix_list (pv 10) (pv 11) (fun _ _ => rfl)))
      (pss_one (ps_asg (pe_ix (r := rIxL K) ix_list (pe_lst (pa_cons (pe_tup (pa_cons (pe_un un_neg pe_int) (pa_cons (pe_ix (r := rIxT K) ix_tup (pv 12) pe_int (fun _ _ => rfl)) (pa_cons (pe_ix (r := rIxT K) ix_tup (pv 12) pe_int (fun _ _ => rfl)) pa_nil)))) (pa_cons (pe_tup (pa_cons (pe_ix (r := rIxT K) ix_tup (pv 12) pe_int (fun _ _ => rfl)) (pa_cons pe_int (pa_cons (pe_ix (r := rIxT K) ix_tup (pv 12) pe_int (fun _ _ => rfl)) pa_nil)))) (pa_cons (pe_tup (pa_cons (pe_ix (r := rIxT K) ix_tup (pv 12) pe_int (fun _ _ => rfl)) (pa_cons (pe_ix (r := rIxT K) ix_tup (pv 12) pe_int (fun _ _ => rfl)) (pa_cons (pe_un un_neg pe_int) pa_nil)))) (pa_cons (pe_tup (pa_cons (pe_powC (c := 1000000000000) ⟨by decide, by decide, by decide⟩ (by decide +kernel)) (pa_cons (pe_ix (r := rIxT K) ix_tup (pv 12) pe_int (fun _ _ => rfl)) (pa_cons pe_int pa_nil)))) (pa_cons (pe_tup (pa_cons (pe_ix (r := rIxT K) ix_tup (pv 12) pe_int (fun _ _ => rfl)) (pa_cons (pe_un un_neg pe_int) (pa_cons pe_int pa_nil)))) (pa_cons (pe_tup (pa_cons (pe_ix (r := rIxT K) ix_tup (pv 12) pe_int (fun _ _ => rfl)) (pa_cons (pe_ix (r := rIxT K) ix_tup (pv 12) pe_int (fun _ _ => rfl)) (pa_cons (pe_powC (c := 1000000000000) ⟨by decide, by decide, by decide⟩ (by decide +kernel)) pa_nil)))) pa_nil))))))) (pe_op op_mod (pe_ix (r := rIxL K) ix_list (pv 1) pe_int (fun _ _ => rfl)) pe_int) (fun _ _ => rfl)) (pg_sub (pv 10) (pv 11) set_list))))) pss_nil)
      (Evl.pss_cut (ps_if (pt_cmpR op_eq (pe_op op_mod (pe_ix (r := rIxL K) ix_list (pv 1) pe_int (fun _ _ => rfl)) pe_int) pe_int (nomark _)) (pss_one (ps_set (i := 10) sc_law.nd rfl (Or.inr rfl) (pe_cutE (pe_ifExp (pt_cmpR op_eq (pe_op op_mod (pe_ix (r := rIxL K) ix_list (pv 1) pe_int (fun _ _ => rfl)) pe_int) pe_int (nomark _)) (pe_slice (r := rSlL K) sl_list (pv 10) (po_some pe_int) po_none) (pe_op op_cat (pv 10) (pe_lst (pa_cons (pe_tup (pa_cons pe_int (pa_cons pe_int (pa_cons (pe_op op_mod (pe_op op_fdiv (pe_ix (r := rIxL K) ix_list (pv 1) pe_int (fun _ _ => rfl)) pe_int) pe_int) pa_nil)))) pa_nil))))))) pss_nil)
      (pss_cons (ps_set (i := 13) sc_law.nd rfl (Or.inl rfl) (pe_cmpR op_eq (pe_callB (r := Evl.rLenS K) call_len_seq (by rfl) T.b_len (by decide +kernel) (pa_cons (pe_lc (own := [("row", 12)]) (g := (gName 12)) rfl sc_law.nd (pi_list (pv 10)) (blkOk_by (N := N_law) (sc := defScope s_law) (by decide +kernel)) (fun _ _ _ _ _ => (pg_name (i := 12) sc_law.nd rfl (Or.inl rfl))) (fun _ _ _ _ _ => pts_one (PW.pt (pw_or (pt_cmpR op_lt (pe_ix (r := rIxT K) ix_tup (pv 12) pe_int (fun _ _ => rfl)) pe_int (nomark _)) (pw_or (pt_cmpR op_lt (pe_ix (r := rIxT K) ix_tup (pv 12) pe_int (fun _ _ => rfl)) pe_int (nomark _)) (pw_or1 (pt_cmpR op_lt (pe_ix (r := rIxT K) ix_tup (pv 12) pe_int (fun _ _ => rfl)) pe_int (nomark _))))))) (fun _ _ _ _ _ => (pv 12))) pa_nil)) pe_int (nomark _)))
      (pss_cons (ps_set (i := 14) sc_law.nd rfl (Or.inl rfl) (pe_cmpR op_gt (pe_callB (r := Evl.rLenS K) call_len_seq (by rfl) T.b_len (by decide +kernel) (pa_cons (pe_lc (own := [("row", 12)]) (g := (gName 12)) rfl sc_law.nd (pi_list (pv 10)) (blkOk_by (N := N_law) (sc := defScope s_law) (by decide +kernel)) (fun _ _ _ _ _ => (pg_name (i := 12) sc_law.nd rfl (Or.inl rfl))) (fun _ _ _ _ _ => pts_one (pt_cmpR op_eq (pe_ix (r := rIxT K) ix_tup (pv 12) pe_int (fun _ _ => rfl)) pe_int (nomark _))) (fun _ _ _ _ _ => (pv 12))) pa_nil)) pe_int (nomark _)))
      (pss_cons (ps_set (i := 8) sc_law.nd rfl (Or.inl rfl) (pe_cutE (pe_and (pv 13) (pe_one (pe_cmpR op_eq (pe_callB (r := Evl.rLenS K) call_len_seq (by rfl) T.b_len (by decide +kernel) (pa_cons (pv 10) pa_nil)) (pe_callB (r := Evl.rLenS K) call_len_seq (by rfl) T.b_len (by decide +kernel) (pa_cons (pv 2) pa_nil)) (nomark _))))))
      (Evl.pss_cut (ps_if (pt_cutT (PW.pt (pw_and (pt_val (pv 8)) (pw_and1 (pt_not (pt_val (pv 14))))))) (pss_one (ps_set (i := 8) sc_law.nd rfl (Or.inl rfl) (pe_cmpR op_eq (pe_callB (r := Evl.rLenS K) call_len_seq (by rfl) T.b_len (by decide +kernel) (pa_cons (pe_lc (own := [("k", 4)]) (g := (gName 4)) rfl sc_law.nd (pi_range1 (by rfl) T.b_range (pa_cons (pe_callB (r := Evl.rLenS K) call_len_seq (by rfl) T.b_len (by decide +kernel) (pa_cons (pv 2) pa_nil)) pa_nil)) (blkOk_by (N := N_law) (sc := defScope s_law) (by decide +kernel)) (fun _ _ _ _ _ => (pg_name (i := 4) sc_law.nd rfl (Or.inl rfl))) (fun _ _ _ _ _ => pts_one (pt_cmpR op_ge (pe_op op_add (pe_ix (r := rIxT K) ix_tup (pe_ix (r := rIxL K) ix_list (pv 10) (pv 4) (fun _ _ => rfl)) pe_int (fun _ _ => rfl)) (pe_op op_mul (pe_ix (r := rIxT K) ix_tup (pe_ix (r := rIxL K) ix_list (pv 10) (pv 4) (fun _ _ => rfl)) pe_int (fun _ _ => rfl)) (pe_op op_sub (pe_ix (r := rIxT K) ix_tup (pe_ix (r := rIxL K) ix_list (pv 10) (pv 4) (fun _ _ => rfl)) pe_int (fun _ _ => rfl)) pe_int))) (pe_ix (r := rIxT K) ix_tup (pv 2) (pv 4) (fun _ _ => rfl)) (nomark _))) (fun _ _ _ _ _ => (pv 4))) pa_nil)) pe_int (nomark _)))) pss_nil)
      (pss_cons (ps_set (i := 7) sc_law.nd rfl (Or.inl rfl) (pe_tup (pa_cons pe_str (pa_cons (pe_callTy (r := rTupS K) call_tuple_of (by rfl) T.b_tuple (by decide +kernel) (pa_cons (pv 10) pa_nil)) pa_nil))))
      (pss_cons (ps_if (pt_not (pt_val (pe_callD G__law_is_bool (hr.mono (by decide)) (pa_cons (pe_callD G_fits (hr.mono (by decide)) (pa_cons (pv 2) (pa_cons (pv 7) pa_nil))) (pa_cons (pv 8) pa_nil))))) (pss_one (ps_ret pe_bl)) pss_nil)
      (pss_one (ps_ret (pe_or (pe_not (pv 13)) (pe_one (pe_callD G__law_is_number (hr.mono (by decide)) (pa_cons (pe_callD G_selection_size (hr.mono (by decide)) (pa_cons (pv 7) pa_nil)) (pa_cons (pe_callD G__law_many (hr.mono (by decide)) (pa_cons (pe_lc (own := [("row", 12)]) (g := (gName 12)) (tt := tYes) rfl sc_law.nd (pi_list (pv 10)) (blkOk_by (N := N_law) (sc := defScope s_law) (by decide +kernel)) (fun _ _ _ _ _ => (pg_name (i := 12) sc_law.nd rfl (Or.inl rfl))) (fun _ _ _ _ _ => pts_nil) (fun _ _ _ _ _ => (pe_ix (r := rIxT K) ix_tup (pv 12) pe_int (fun _ _ => rfl)))) pa_nil)) pa_nil)))))))))))))))))))), ?_⟩
  walk_at "rd"
  refine ⟨_, _, 32, rfl, hS, by omega, fun dr hdl hd => r_ret1 (Own.nil H) fun p1 H1 o1 => ?_⟩
  walk_at "rd"
  refine ⟨_, _, 0, 6, rfl, o1.sqL 0 rfl, hd, by omega, by omega, by omega, fun sh hsl hsb => r_retD o1 fun u H2 e2 o2 hsh => ?_⟩
  obtain ⟨sa, rfl, hsa⟩ := Tp.invI hsh
  walk_at "rd"
  refine ⟨_, sh, rfl, hsa, by omega, r_retD o2 fun u3 H3 e3 o3 h3 => ?_⟩
  walk_at "rd"
  refine ⟨_, sh, rfl, (Stp.of e3).sq hsa, by omega, r_retD o3 fun u4 H4 e4 o4 h4 => ?_⟩
  refine ⟨_, _, wholeR sh, rfl, h3.up (.of e4), h4, by unfold wholeR; rw [List.length_map]; omega, r_retvs o4 fun B e5 o5 => ?_⟩
  walk_at "rd"
  have hsB : SqT K B sa (sh.map V.int) := (((Stp.of e3).trans (.of e4)).trans (.of e5)).sq hsa
  have hdB : SqL K B p1 (dr.map V.int) := o5.sqL 0 rfl
  have g6 := hd.gi (i := 6) (by omega) (by omega)
  have g7 := hd.gi (i := 7) (by omega) (by omega)
  have g16 := hd.gi (i := 16) (by omega) (by omega)
  have g17 := hd.gi (i := 17) (by omega) (by omega)
  have g18 := hd.gi (i := 18) (by omega) (by omega)
  have g19 := hd.gi (i := 19) (by omega) (by omega)
  have g20 := hd.gi (i := 20) (by omega) (by omega)
  have g21 := hd.gi (i := 21) (by omega) (by omega)
  have g22 := hd.gi (i := 22) (by omega) (by omega)
  have g23 := hd.gi (i := 23) (by omega) (by omega)
  clear o1 o2 o3 o4 o5 h3 h4 hsh
  refine rif (fun hc => ?_) fun hc => ?_
  · walk_at "rd"
    obtain ⟨n, hn⟩ : ∃ n : Nat, gi dr 7 % 4 = n := ⟨(gi dr 7 % 4).toNat, by omega⟩
    rw [hn]
    refine lcjR (K := K) (n := n) (fun j => some (tupI (ptF dr sh j))) (Own.nil B) rfl (by omega) ?_ ?_
    · intro j p zs H' R hj o' s' r
      refine r_name (r _ rfl (fun Qb k => k H' (Same.refl _)) fun d' H2 hd' s2 Qv qv => ?_)
      cases hd'
      have hs2 : SqT K H2 sa (sh.map V.int) := (Stp.of s2).sq (o'.oldT hsB)
      have hd2 : SqL K H2 p1 (dr.map V.int) := same_seqL' s2 (o'.old hdB)
      walk_at "rd"
      refine lcjEn (K := K) (k := true) (fun k => some (.int (if gi sh (k : Int) > 0 then gi dr ((9 + (j : Int) + (k : Int)) % 32) % (gi sh (k : Int) + (if gi dr 7 % 4 = 0 then 1 else 0)) else 0))) (Own.nil H2) (fun H3 p zs _ s3 => s3.sq hs2) hs2 (by rw [List.length_map]; omega) ?_ ?_
      · intro k x T' p3 zs3 H3 R3 hx hT o3 s3 r3
        obtain ⟨z, hz, rfl⟩ := int_atT hx
        have hk := (List.getElem?_eq_some_iff.mp hz).1
        refine r_gTup2 hT (r3 _ rfl (fun Qb k => k H3 (Same.refl _)) fun d H4 hd4 s4 Qv4 qv4 => ?_)
        cases hd4
        rw [gi_get hz] at qv4
        have hd4 : SqL K H4 p1 (dr.map V.int) := same_seqL' s4 (o3.old hd2)
        walk_at "rd"
        refine r_cutE (fun v H5 => v = .int (if z > 0 then gi dr ((9 + (j : Int) + (k : Int)) % 32) % (z + (if gi dr 7 % 4 = 0 then 1 else 0)) else 0) ∧ Same H4 H5) ?_ (fun v H5 hv => by obtain ⟨rfl, s5⟩ := hv; exact qv4 _ _ s5 (.int _))
        walk_at "rd"
        refine rif (fun hz0 => ?_) fun hz0 => ?_
        · rw [if_pos (show z > 0 from hz0)]
          walk_at "rd"
          exact ⟨by simp, Same.refl _⟩
        · rw [if_neg (show ¬ z > 0 from hz0)]
          walk_at "rd"
          exact ⟨rfl, Same.refl _⟩
      intro p3 H3 zs3 s3 o3 t3
      rw [rfm_all, List.length_map] at t3
      have e := ints_invF t3
      subst e
      walk_at "rd"
      refine r_tupLs o3 (o3.sqL 0 rfl) fun t H4 s4 o4 h4 => ?_
      exact qv _ _ o4.ex (Tp.intsT h4)
    intro p3 H3 zs s3 o3 t3
    rw [rfm_all] at t3
    have hps : ((List.range n).map fun j => tupI (ptF dr sh j)) = (((List.range n).map (ptF dr sh)).map tupI) := by rw [List.map_map]; rfl
    have hp4 : ∀ p ∈ (List.range n).map (ptF dr sh), p.length ≤ 5 := by
      intro p hp
      obtain ⟨j, _, rfl⟩ := List.mem_map.mp hp
      unfold ptF
      rw [List.length_map, List.length_range]
      omega
    have hpl : ((List.range n).map (ptF dr sh)).length ≤ 3 := by rw [List.length_map, List.length_range]; omega
    rw [hps] at t3
    generalize (List.range n).map (ptF dr sh) = ps0 at *
    have hzl := t3.len
    rw [List.length_map] at hzl
    walk_at "rd"
    refine ⟨fun σ' H4 => ∃ (zs : List V) (ps : List (List Int)), σ' = [some (.ref a), some (.ref p1), some (.ref sa), some (.ref p3), none, none, none, none, none, none, none, none, none, none, none] ∧ (∀ p ∈ ps, p.length ≤ 5) ∧ ps.length ≤ 3 ∧ TpAll K H4 zs (ps.map tupI) ∧ Own B H4 [(p3, .lst zs)] ∧ Stp B H4, ?_, ?_⟩
    · walk_at "rd"
      refine r_cutB (decide (0 < ps0.length) && decide (gi dr 16 % 4 = 0)) ?_ ?_
      · walk_at "rd"
        refine rif (fun h1 => ?_) fun h1 => ?_
        · walk_at "rd"
          rw [decide_eq_true (show 0 < ps0.length by omega), Bool.true_and]
          exact ⟨rfl, rfl⟩
        · walk_at "rd"
          rw [decide_eq_false (show ¬ 0 < ps0.length by omega), Bool.false_and]
          exact ⟨rfl, rfl⟩
      · refine rif_b (fun hb1 => ?_) fun _ => ?_
        · rw [Bool.and_eq_true, decide_eq_true_eq, decide_eq_true_eq] at hb1
          have hd3 : SqL K H3 p1 (dr.map V.int) := o3.old hdB
          have hs3 := s3.sq hsB
          walk_at "rd"
          refine r_newLs o3 (Nat.le_of_ble_eq_true rfl) fun pa Ha sA oa => ?_
          have hsA := sA.sq hs3
          walk_at "rd"
          refine r_rep oa (oa.at 0 rfl) (n := sh.length) (by simp) ⟨by rw [List.length_map]; omega, by rw [List.length_map]; omega⟩ (by omega) fun pb Hb sB ob => ?_
          walk_at "rd"
          refine r_tupLs ob (ob.sqL 0 rfl) fun pc Hc sC oc hpc => ?_
          walk_at "rd"
          refine r_newTs (K := K) oc (Nat.le_of_ble_eq_true rfl) fun pd Hd sD od hpd => ?_
          have hsD := (sB.trans (sC.trans sD)).sq hsA
          walk_at "rd"
          refine r_repA (K := K) (n := sh.length + 1) od hpd (by simp) (by omega) fun pe He sE oe hpe => ?_
          have hsE := sE.sq hsD
          walk_at "rd"
          refine r_slA (K := K) oe hsE fun pf Hf sF of hpf => ?_
          walk_at "rd"
          refine r_newLs of (Nat.le_of_ble_eq_true rfl) fun pg Hg sG og => ?_
          have hdg : SqL K Hg p1 (dr.map V.int) := og.old hdB
          walk_at "rd"
          have hsG : SqT K Hg sa (sh.map V.int) := (sF.trans sG).sq hsE
          have hpcG : SqT K Hg pc ((List.replicate sh.length (-1 : Int)).map V.int) := by
            rw [List.map_replicate]
            exact (sD.trans (sE.trans (sF.trans sG))).sq hpc
          have hpeG : SqT K Hg pe ((List.replicate (sh.length + 1) (0 : Int)).map V.int) := by
            rw [List.map_replicate]
            exact (sF.trans sG).sq hpe
          have hpfG : SqT K Hg pf ((sh.drop 1).map V.int) := by
            rw [List.map_drop, ← cut_lo]
            exact sG.sq hpf
          refine r_ixM (og.sqL 0 rfl) (by omega) (show _ < (4 : Int) by omega) fun v hv _ => ?_
          obtain ⟨ad, q2, rfl, hq2, hv2⟩ : ∃ (ad : Addr) (q2 : List Int), v = .ref ad ∧ q2.length ≤ 5 ∧ SqT K Hg ad (q2.map V.int) := by
            simp only [List.mem_cons, List.not_mem_nil, or_false] at hv
            rcases hv with rfl | rfl | rfl | rfl
            · exact ⟨_, _, rfl, by omega, hsG⟩
            · exact ⟨_, _, rfl, by rw [List.length_replicate]; omega, hpcG⟩
            · exact ⟨_, _, rfl, by rw [List.length_replicate]; omega, hpeG⟩
            · exact ⟨_, _, rfl, by rw [List.length_drop]; omega, hpfG⟩
          walk_at "rd"
          have m1 := Int.emod_nonneg (gi dr 17) (show (zs.length : Int) ≠ 0 by omega)
          have m2 := Int.emod_lt_of_pos (gi dr 17) (show (0 : Int) < (zs.length : Int) by omega)
          obtain ⟨k, hk⟩ : ∃ k : Nat, gi dr 17 % (zs.length : Int) = k := ⟨(gi dr 17 % (zs.length : Int)).toNat, by omega⟩
          rw [hk]
          refine r_setLs og 3 rfl (k := k) (Evl.ixN_nat (by omega)) fun Hh sH oh => ?_
          walk_at "rd"
          have tG := (((sA.trans sB).trans (sC.trans sD)).trans (sE.trans (sF.trans sG)))
          refine ⟨_, ps0.set k q2, rfl, fun p hp => ?_, by rw [List.length_set]; exact hpl, ?_, ((oh.tl).tl).tl, (s3.trans tG).trans sH⟩
          · rcases List.mem_or_eq_of_mem_set hp with hp | rfl
            · exact hp4 p hp
            · exact hq2
          · rw [← set_map]
            exact TpAll.set (Tp.intsT (sH.sq hv2)) k ((t3.up tG).up sH)
        · walk_at "rd"
          exact ⟨zs, ps0, rfl, hp4, hpl, t3, o3, s3⟩
    rintro σ' H4 ⟨zs, ps, rfl, hp5, hpl, t4, o4, s4⟩
    have hzl := t4.len
    rw [List.length_map] at hzl
    walk_at "rd"
    refine r_tupLs o4 (o4.sqL 0 rfl) fun t H5 s5 o5 h5 => ?_
    walk_at "rd"
    refine r_newTp (K := K) (ds := [.str (PySem.Str.ofString "points"), .tuple (ps.map tupI)]) o5 (.cons (.str _) (.cons (.tup h5 (t4.up s5)) .nil)) (Nat.le_of_ble_eq_true rfl) fun u5 H6 s6 o6 h6 => ?_
    have hs6 := ((s4.trans s5).trans s6).sq hsB
    have t6 := (t4.up s5).up s6
    walk_at "rd"
    refine lcjL (K := K) (fun i => (ps[i]?).bind fun p => if isIdx sh p then none else some (tupI p)) o6 (fun H' p zs' o' => o'.sqL 1 rfl) (o6.sqL 0 rfl) (by omega) ?_ ?_
    · intro i x p zs' H' R hx o' s' r
      obtain ⟨d, U, hd, rfl, hU⟩ := pt_at (t6.up s') hx
      have hd0 := hp5 d (List.mem_of_getElem? hd)
      refine r_name (r _ rfl (fun Qb qb => ?_) fun d' H2 hd' s2 Qv qv => ?_)
      · walk_at "rd"
        refine ⟨_, _, sh, d, rfl, s'.sq hs6, hU, by omega, ?_⟩
        walk_at "rd"
        have z := qb H' (Same.refl _)
        rw [hd] at z
        have e : ((some d).bind fun p => if isIdx sh p then none else some (tupI p)).isSome = !isIdx sh d := by
          show (if isIdx sh d then none else some (tupI d)).isSome = _
          cases isIdx sh d <;> rfl
        rw [e] at z
        exact z
      · rw [hd] at hd'
        replace hd' : (if isIdx sh d then none else some (tupI d)) = some d' := hd'
        cases hi : isIdx sh d with
        | true => rw [hi] at hd'; cases hd'
        | false =>
          rw [hi] at hd'
          cases hd'
          walk_at "rd"
          exact qv _ _ (Same.refl _) (Tp.intsT ((Stp.of s2).sq hU))
    intro p7 H7 zs7 s7 o7 t7
    rw [hzl, range_fm] at t7
    have hl7 := t7.len
    rw [fm_len] at hl7
    walk_at "rd"
    refine ⟨_, _, sh, .pts ps, rfl, s7.sq hs6, h6.up s7, ⟨by omega, fun p hp => by have := hp5 p hp; omega⟩, r_retvs o7 fun H8 e8 o8 => ?_⟩
    walk_at "rd"
    refine ⟨_, _, rfl, ?_⟩
    have ed : decide (((zs7.length : Nat) : Int) = 0) = (Sel.pts ps).fits sh := by
      rw [hl7]
      exact (all_filterN (isIdx sh) ps).symm
    rw [ed]
    walk_at "rd"
    refine rif_yes rfl ?_
    walk_at "rd"
    refine ⟨_, .pts ps, rfl, (h6.up s7).up (.of e8), trivial, ?_⟩
    walk_at "rd"
    refine ⟨_, _, rfl, ?_⟩
    have el : decide ((Sel.pts ps).size = ((zs.length : Nat) : Int)) = true := decide_eq_true (by rw [hzl]; rfl)
    rw [el]
    walk_at "rd"
    exact q _
  · walk_at "rd"
    refine ⟨_, _, dr, sh, rfl, hdB, hsB, hd, hdl, hsl, hsb, fun rs0 hrl hrb H3 p3 zs3 e3' f3 at3 t3 => ?_⟩
    have o3 : Own B H3 [(p3, .lst zs3)] := ⟨e3', fun x hx => by rw [List.mem_singleton.mp hx]; exact ⟨f3, at3⟩, by simp⟩
    have s3 : Stp B H3 := .of e3'
    have hzl := t3.len
    rw [List.length_map] at hzl
    walk_at "rd"
    refine ⟨fun σ' H4 => ∃ (zs : List V) (rs : List (Int × Int × Int)) (v11 v12 : Option V), σ' = [some (.ref a), some (.ref p1), some (.ref sa), none, none, none, none, none, none, none, some (.ref p3), v11, v12, none, none] ∧ (∀ r ∈ rs, RgW r) ∧ rs.length ≤ 4 ∧ TpAll K H4 zs (rs.map triI) ∧ Own B H4 [(p3, .lst zs)] ∧ Stp B H4, ?_, ?_⟩
    · walk_at "rd"
      refine r_cutB (decide (0 < rs0.length) && decide (gi dr 19 % 4 = 0)) ?_ ?_
      · walk_at "rd"
        refine rif (fun h1 => ?_) fun h1 => ?_
        · walk_at "rd"
          rw [decide_eq_true (show 0 < rs0.length by omega), Bool.true_and]
          exact ⟨rfl, rfl⟩
        · walk_at "rd"
          rw [decide_eq_false (show ¬ 0 < rs0.length by omega), Bool.false_and]
          exact ⟨rfl, rfl⟩
      · refine rif_b (fun hb1 => ?_) fun _ => ?_
        · rw [Bool.and_eq_true, decide_eq_true_eq, decide_eq_true_eq] at hb1
          have hd3 : SqL K H3 p1 (dr.map V.int) := o3.old hdB
          walk_at "rd"
          have m1 := Int.emod_nonneg (gi dr 20) (show (zs3.length : Int) ≠ 0 by omega)
          have m2 := Int.emod_lt_of_pos (gi dr 20) (show (0 : Int) < (zs3.length : Int) by omega)
          obtain ⟨k, hk⟩ : ∃ k : Nat, gi dr 20 % (zs3.length : Int) = k := ⟨(gi dr 20 % (zs3.length : Int)).toNat, by omega⟩
          rw [hk]
          have hk2 : k < zs3.length := by omega
          obtain ⟨r0, ar, er, ew, har⟩ := tri_at t3 (List.getElem?_eq_getElem hk2)
          have hr0 := rgB_w (hrb r0 (List.mem_of_getElem? er))
          unfold RgW at hr0
          refine r_ixL (o3.sqL 0 rfl) (atI_nat (List.getElem?_eq_getElem hk2)) ?_
          rw [ew]
          walk_at "rd"
          refine r_ixT har (atI_nat (j := 1) rfl) ?_
          walk_at "rd"
          refine r_ixT har (atI_nat (j := 2) rfl) ?_
          walk_at "rd"
          refine r_newTi (K := K) [-1, r0.2.1, r0.2.2] rfl o3 (Nat.le_of_ble_eq_true rfl) fun T1 G1 z1 y1 h1 => ?_
          have x1 := z1.sq har
          walk_at "rd"
          refine r_ixT x1 (atI_nat (j := 0) rfl) ?_
          walk_at "rd"
          refine r_ixT x1 (atI_nat (j := 2) rfl) ?_
          walk_at "rd"
          refine r_newTi (K := K) [r0.1, 0, r0.2.2] rfl y1 (Nat.le_of_ble_eq_true rfl) fun T2 G2 z2 y2 h2 => ?_
          have x2 := z2.sq x1
          walk_at "rd"
          refine r_ixT x2 (atI_nat (j := 0) rfl) ?_
          walk_at "rd"
          refine r_ixT x2 (atI_nat (j := 1) rfl) ?_
          walk_at "rd"
          refine r_newTi (K := K) [r0.1, r0.2.1, -1] rfl y2 (Nat.le_of_ble_eq_true rfl) fun T3 G3 z3 y3 h3 => ?_
          have x3 := z3.sq x2
          walk_at "rd"
          refine r_ixT x3 (atI_nat (j := 1) rfl) ?_
          walk_at "rd"
          refine r_newTi (K := K) [1000000000000, r0.2.1, 0] rfl y3 (Nat.le_of_ble_eq_true rfl) fun T4 G4 z4 y4 h4 => ?_
          have x4 := z4.sq x3
          walk_at "rd"
          refine r_ixT x4 (atI_nat (j := 0) rfl) ?_
          walk_at "rd"
          refine r_newTi (K := K) [r0.1, -2, 0] rfl y4 (Nat.le_of_ble_eq_true rfl) fun T5 G5 z5 y5 h5 => ?_
          have x5 := z5.sq x4
          walk_at "rd"
          refine r_ixT x5 (atI_nat (j := 0) rfl) ?_
          walk_at "rd"
          refine r_ixT x5 (atI_nat (j := 1) rfl) ?_
          walk_at "rd"
          refine r_newTi (K := K) [r0.1, r0.2.1, 1000000000000] rfl y5 (Nat.le_of_ble_eq_true rfl) fun T6 G6 z6 y6 h6 => ?_
          have x6 := z6.sq x5
          walk_at "rd"
          refine r_newLs y6 (Nat.le_of_ble_eq_true rfl) fun pg Hg sG og => ?_
          have hdg : SqL K Hg p1 (dr.map V.int) := og.old hdB
          walk_at "rd"
          refine r_ixM (og.sqL 0 rfl) (by omega) (show _ < (6 : Int) by omega) fun v hv _ => ?_
          obtain ⟨ad, q2, rfl, hq2, hv2⟩ : ∃ (ad : Addr) (q2 : Int × Int × Int), v = .ref ad ∧ RgW q2 ∧ SqT K Hg ad (([q2.1, q2.2.1, q2.2.2] : List Int).map V.int) := by
            simp only [List.mem_cons, List.not_mem_nil, or_false] at hv
            unfold RgW
            rcases hv with rfl | rfl | rfl | rfl | rfl | rfl
            · exact ⟨_, (-1, r0.2.1, r0.2.2), rfl, by simp only; omega, sG.sq (z6.sq (z5.sq (z4.sq (z3.sq (z2.sq h1)))))⟩
            · exact ⟨_, (r0.1, 0, r0.2.2), rfl, by simp only; omega, sG.sq (z6.sq (z5.sq (z4.sq (z3.sq h2))))⟩
            · exact ⟨_, (r0.1, r0.2.1, -1), rfl, by simp only; omega, sG.sq (z6.sq (z5.sq (z4.sq h3)))⟩
            · exact ⟨_, (1000000000000, r0.2.1, 0), rfl, by simp only; omega, sG.sq (z6.sq (z5.sq h4))⟩
            · exact ⟨_, (r0.1, -2, 0), rfl, by simp only; omega, sG.sq (z6.sq h5)⟩
            · exact ⟨_, (r0.1, r0.2.1, 1000000000000), rfl, by simp only; omega, sG.sq h6⟩
          walk_at "rd"
          refine r_setLs og 1 rfl (k := k) (Evl.ixN_nat (by omega)) fun Hh sH oh => ?_
          walk_at "rd"
          have tG := ((z1.trans z2).trans (z3.trans z4)).trans ((z5.trans z6).trans sG)
          refine ⟨_, rs0.set k q2, _, _, rfl, fun r hr => ?_, by rw [List.length_set]; omega, ?_, oh.tl, (s3.trans tG).trans sH⟩
          · rcases List.mem_or_eq_of_mem_set hr with hr | rfl
            · exact rgB_w (hrb r hr)
            · exact hq2
          · rw [← set_map]
            exact TpAll.set (.tup (sH.sq hv2) (TpAll.ints [_, _, _])) k ((t3.up tG).up sH)
        · walk_at "rd"
          exact ⟨zs3, rs0, _, _, rfl, (fun r hr => rgB_w (hrb r hr)), by omega, t3, o3, s3⟩
    rintro σ' H4 ⟨zs, rs, v11, v12, rfl, hrw, hrl4, t4, o4, s4⟩
    have hzl4 := t4.len
    rw [List.length_map] at hzl4
    walk_at "rd"
    have hd4 : SqL K H4 p1 (dr.map V.int) := o4.old hdB
    refine ⟨fun σ' H5 => ∃ (p : Addr) (zs : List V) (rs : List (Int × Int × Int)) (v11 v12 : Option V), σ' = [some (.ref a), some (.ref p1), some (.ref sa), none, none, none, none, none, none, none, some (.ref p), v11, v12, none, none] ∧ (∀ r ∈ rs, RgW r) ∧ rs.length ≤ 5 ∧ TpAll K H5 zs (rs.map triI) ∧ Own B H5 [(p, .lst zs)] ∧ Stp B H5, ?_, ?_⟩
    · walk_at "rd"
      refine rif (fun _ => ?_) fun _ => ?_
      · walk_at "rd"
        refine r_cutE (fun v H5 => ∃ (p : Addr) (zs : List V) (rs : List (Int × Int × Int)), v = .ref p ∧ (∀ r ∈ rs, RgW r) ∧ rs.length ≤ 5 ∧ TpAll K H5 zs (rs.map triI) ∧ Own B H5 [(p, .lst zs)] ∧ Stp B H5) ?_ ?_
        · walk_at "rd"
          refine rif (fun _ => ?_) fun _ => ?_
          · walk_at "rd"
            refine r_slLs o4 (o4.sqL 0 rfl) fun p5 H5 s5 o5 => ?_
            refine ⟨p5, _, rs.drop 1, rfl, fun r hr => hrw r (List.mem_of_mem_drop hr), by rw [List.length_drop]; omega, ?_, o5.pick1 0 rfl, s4.trans s5⟩
            rw [show (1 : Int) = ((1 : Nat) : Int) from rfl, cut_lo, List.map_drop]
            exact (t4.up s5).drop 1
          · walk_at "rd"
            refine r_newTi (K := K) [0, 1, _] rfl o4 (Nat.le_of_ble_eq_true rfl) fun T5 H5 s5 o5 h5 => ?_
            walk_at "rd"
            refine r_newLs o5 (Nat.le_of_ble_eq_true rfl) fun p6 H6 s6 o6 => ?_
            walk_at "rd"
            refine r_cats o6 (o6.at 1 rfl) (o6.at 0 rfl) (by simp only [List.length_cons, List.length_nil]; omega) fun p7 H7 s7 o7 => ?_
            refine ⟨p7, _, rs ++ [(0, 1, gi dr 23 / 2 % 2)], rfl, fun r hr => ?_, by rw [List.length_append]; simp; omega, ?_, o7.pick1 0 rfl, (s4.trans s5).trans (s6.trans s7)⟩
            · rcases List.mem_append.mp hr with hr | hr
              · exact hrw r hr
              · rw [List.mem_singleton.mp hr]
                unfold RgW
                simp only
                omega
            · rw [List.map_append]
              exact ((t4.up s5).up (s6.trans s7)).snoc (.tup ((s6.trans s7).sq h5) (TpAll.ints [0, 1, _]))
        · rintro v H5 ⟨p, zs5, rs5, rfl, hw5, hl5, t5, o5, s5⟩
          walk_at "rd"
          exact ⟨p, zs5, rs5, _, _, rfl, hw5, hl5, t5, o5, s5⟩
      · walk_at "rd"
        exact ⟨p3, zs, rs, _, _, rfl, hrw, by omega, t4, o4, s4⟩
    clear t4 o4 s4 hzl4 hd4 hrw hrl4 t3 o3 s3 hzl hrb hrl
    rintro σ' H5 ⟨p, zs, rs, v11, v12, rfl, hrw, hrl, t5, o5, s5⟩
    have hzl := t5.len
    rw [List.length_map] at hzl
    walk_at "rd"
    refine lcjL (K := K) (fun i => (rs[i]?).bind fun r => if rOk r then none else some (triI r)) o5 (fun H' p zs' o' => o'.sqL 1 rfl) (o5.sqL 0 rfl) (by omega) ?_ ?_
    · intro i x p zs' H' R hx o' s' r
      obtain ⟨d, U, hd, rfl, hU⟩ := tri_at (t5.up s') hx
      refine r_name (r _ rfl (fun Qb qb => ?_) fun d' H2 hd' s2 Qv qv => ?_)
      · have z := qb H' (Same.refl _)
        rw [hd] at z
        have e : ((some d).bind fun r => if rOk r then none else some (triI r)).isSome = !rOk d := by
          show (if rOk d then none else some (triI d)).isSome = _
          cases rOk d <;> rfl
        rw [e] at z
        walk_at "rd"
        refine r_ixT hU (atI_nat (j := 0) rfl) ?_
        walk_at "rd"
        refine rif (fun h0 => ?_) fun h0 => ?_
        · have e2 : rOk d = false := by unfold rOk; rw [decide_eq_false (show ¬ 0 ≤ d.1 by omega)]; rfl
          rw [e2] at z
          exact z
        walk_at "rd"
        refine r_ixT hU (atI_nat (j := 1) rfl) ?_
        walk_at "rd"
        refine rif (fun h1 => ?_) fun h1 => ?_
        · have e2 : rOk d = false := by unfold rOk; rw [decide_eq_false (show ¬ 1 ≤ d.2.1 by omega)]; simp
          rw [e2] at z
          exact z
        walk_at "rd"
        refine r_ixT hU (atI_nat (j := 2) rfl) ?_
        walk_at "rd"
        have e2 : (!rOk d) = decide (d.2.2 < 0) := by
          unfold rOk
          rw [decide_eq_true (show 0 ≤ d.1 by omega), decide_eq_true (show 1 ≤ d.2.1 by omega), Bool.true_and, Bool.true_and]
          by_cases h2 : d.2.2 < 0
          · rw [decide_eq_true h2, decide_eq_false (by omega)]; rfl
          · rw [decide_eq_false h2, decide_eq_true (by omega)]; rfl
        rw [e2] at z
        exact z
      · rw [hd] at hd'
        replace hd' : (if rOk d then none else some (triI d)) = some d' := hd'
        cases hi : rOk d with
        | true => rw [hi] at hd'; cases hd'
        | false =>
          rw [hi] at hd'
          cases hd'
          walk_at "rd"
          exact qv _ _ (Same.refl _) (.tup ((Stp.of s2).sq hU) (TpAll.ints [d.1, d.2.1, d.2.2]))
    intro p6 H6 zs6 s6 o6 t6
    rw [hzl, range_fm] at t6
    have hl6 := t6.len
    rw [fm_len] at hl6
    walk_at "rd"
    have e6 : decide (((zs6.length : Nat) : Int) = 0) = rs.all rOk := by
      rw [hl6]
      exact (all_filterN rOk rs).symm
    rw [e6]
    refine lcjL (K := K) (fun i => (rs[i]?).bind fun r => if decide (r.2.2 = 0) then some (triI r) else none) o6 (fun H' p zs' o' => o'.sqL 2 rfl) (o6.sqL 1 rfl) (by omega) ?_ ?_
    · intro i x p zs' H' R hx o' s' r
      obtain ⟨d, U, hd, rfl, hU⟩ := tri_at ((t5.up s6).up s') hx
      refine r_name (r _ rfl (fun Qb qb => ?_) fun d' H2 hd' s2 Qv qv => ?_)
      · have z := qb H' (Same.refl _)
        rw [hd] at z
        have e : ((some d).bind fun r => if decide (r.2.2 = 0) then some (triI r) else none).isSome = decide (d.2.2 = 0) := by
          show (if decide (d.2.2 = 0) then some (triI d) else none).isSome = _
          cases decide (d.2.2 = 0) <;> rfl
        rw [e] at z
        walk_at "rd"
        refine r_ixT hU (atI_nat (j := 2) rfl) ?_
        walk_at "rd"
        exact z
      · rw [hd] at hd'
        replace hd' : (if decide (d.2.2 = 0) then some (triI d) else none) = some d' := hd'
        cases hi : decide (d.2.2 = 0) with
        | false => rw [hi] at hd'; cases hd'
        | true =>
          rw [hi] at hd'
          cases hd'
          walk_at "rd"
          exact qv _ _ (Same.refl _) (.tup ((Stp.of s2).sq hU) (TpAll.ints [d.1, d.2.1, d.2.2]))
    intro p7 H7 zs7 s7 o7 t7
    rw [hzl, range_fm] at t7
    have hl7 := t7.len
    rw [fm_lenP] at hl7
    walk_at "rd"
    have e7 : decide ((0 : Int) < ((zs7.length : Nat) : Int)) = rs.any (fun r => decide (r.2.2 = 0)) := by
      rw [hl7]
      exact (any_filterP (fun r : Int × Int × Int => decide (r.2.2 = 0)) rs).symm
    rw [e7]
    have hsH7 := ((s5.trans s6).trans s7).sq hsB
    have t5' := (t5.up s6).up s7
    refine r_cutE (fun v H8 => v = .bl (rs.all rOk && decide (rs.length = sh.length)) ∧ H8 = H7) ?_ ?_
    · walk_at "rd"
      cases hg : rs.all rOk with
      | false =>
        walk_at "rd"
        exact ⟨rfl, rfl⟩
      | true =>
        walk_at "rd"
        rw [List.length_map, hzl]
        refine ⟨?_, rfl⟩
        rw [Bool.true_and]
        congr 1
        exact decide_eq_decide.mpr ⟨fun h => by omega, fun h => by omega⟩
    rintro v H8 ⟨rfl, rfl⟩
    walk_at "rd"
    refine ⟨fun σ' H9 => σ' = [some (.ref a), some (.ref p1), some (.ref sa), none, none, none, none, none, some (.bl (boxFits sh rs)), none, some (.ref p), v11, v12, some (.bl (rs.all rOk)), some (.bl (rs.any fun r => decide (r.2.2 = 0)))] ∧ Own B H9 [(p, .lst zs)] ∧ Stp H8 H9, ?_, ?_⟩
    · walk_at "rd"
      refine r_cutB ((rs.all rOk && decide (rs.length = sh.length)) && !(rs.any fun r => decide (r.2.2 = 0))) ?_ ?_
      · walk_at "rd"
        cases hg : (rs.all rOk && decide (rs.length = sh.length)) with
        | false =>
          walk_at "rd"
          exact ⟨rfl, rfl⟩
        | true =>
          walk_at "rd"
          exact ⟨by rw [Bool.true_and], rfl⟩
      refine rif_b (fun hb1 => ?_) fun hb1 => ?_
      · rw [Bool.and_eq_true, Bool.and_eq_true, decide_eq_true_eq, Bool.not_eq_true'] at hb1
        obtain ⟨⟨hg, hle⟩, hy⟩ := hb1
        walk_at "rd"
        refine lcjR (K := K) (n := sh.length) (fun k => if decide (gi (rs.map rLast) (k : Int) < gi sh (k : Int)) then none else some (.int (k : Int))) o7 (by rw [List.length_map]) (by omega) ?_ ?_
        · intro k q6 zs' H' R hk o' s' r
          obtain ⟨d, U, hd, ew, hU⟩ := tri_at (t5'.up s') (List.getElem?_eq_getElem (show k < zs.length by omega))
          have hdw := hrw d (List.mem_of_getElem? hd)
          unfold RgW at hdw
          have hx : gi (rs.map rLast) (k : Int) = rLast d := gi_get (by rw [List.getElem?_map, hd]; rfl)
          have hsk := s'.sq hsH7
          refine r_name (r _ rfl (fun Qb qb => ?_) fun d' H2 hd' s2 Qv qv => ?_)
          · have z := qb H' (Same.refl _)
            rw [hx] at z
            have e : (if decide (rLast d < gi sh (k : Int)) then none else some (PyData.int (k : Int))).isSome = decide (gi sh (k : Int) ≤ rLast d) := by
              by_cases h : rLast d < gi sh (k : Int)
              · rw [decide_eq_true h, decide_eq_false (by omega)]; rfl
              · rw [decide_eq_false h, decide_eq_true (by omega)]; rfl
            rw [e] at z
            walk_at "rd"
            refine r_ixL (o'.sqL 3 rfl) (atI_nat (List.getElem?_eq_getElem (show k < zs.length by omega))) ?_
            rw [ew]
            walk_at "rd"
            refine r_ixT hU (atI_nat (j := 0) rfl) ?_
            walk_at "rd"
            refine r_ixL (o'.sqL 3 rfl) (atI_nat (List.getElem?_eq_getElem (show k < zs.length by omega))) ?_
            rw [ew]
            walk_at "rd"
            refine r_ixT hU (atI_nat (j := 1) rfl) ?_
            walk_at "rd"
            refine r_ixL (o'.sqL 3 rfl) (atI_nat (List.getElem?_eq_getElem (show k < zs.length by omega))) ?_
            rw [ew]
            walk_at "rd"
            refine r_ixT hU (atI_nat (j := 2) rfl) ?_
            walk_at "rd"
            exact z
          · walk_at "rd"
            cases hq : decide (gi (rs.map rLast) (k : Int) < gi sh (k : Int)) with
            | true => rw [hq] at hd'; cases hd'
            | false =>
              rw [hq] at hd'
              cases hd'
              exact qv _ _ (Same.refl _) (.int _)
        intro p8 H9 zs8 s8 o8 t8
        have hl8 := t8.len
        rw [fm_len (fun k : Nat => decide (gi (rs.map rLast) (k : Int) < gi sh (k : Int))) (fun k : Nat => PyData.int (k : Int))] at hl8
        walk_at "rd"
        have e8 : decide (((zs8.length : Nat) : Int) = 0) = boxFits sh rs := by
          rw [hl8, ← all_filterN]
          unfold boxFits
          rw [hg, hy, decide_eq_true hle]
          have hm := zip_map (xs := rs.map rLast) (ys := sh) (n := sh.length) (by rw [List.length_map]; omega) (fun k : Nat => decide (gi (rs.map rLast) (k : Int) < gi sh (k : Int))) (fun p : Int × Int => decide (p.1 < p.2)) (fun i x y hx hy => by rw [gi_get hx, gi_get hy])
          have h1 : (List.range sh.length).all (fun k : Nat => decide (gi (rs.map rLast) (k : Int) < gi sh (k : Int))) = ((List.range sh.length).map fun k : Nat => decide (gi (rs.map rLast) (k : Int) < gi sh (k : Int))).all id := by rw [List.all_map]; rfl
          rw [h1, hm, List.all_map]
          rfl
        rw [e8]
        exact ⟨rfl, o8.pick1 3 rfl, s8⟩
      · walk_at "rd"
        have e : boxFits sh rs = (rs.all rOk && decide (rs.length = sh.length)) := by
          unfold boxFits
          cases hg : rs.all rOk <;> cases hq : decide (rs.length = sh.length) <;> cases hy : rs.any (fun r => decide (r.2.2 = 0)) <;> rw [hg, hq, hy] at hb1 <;> first | rfl | cases hb1
        exact ⟨by rw [e]; rfl, o7.pick1 2 rfl, .refl _⟩
    rintro σ' H9 ⟨rfl, o9, s9⟩
    have t9 := t5'.up s9
    walk_at "rd"
    refine r_tupLs o9 (o9.sqL 0 rfl) fun T10 H10 s10 o10 h10 => ?_
    walk_at "rd"
    refine r_newTp (K := K) (ds := [.str (PySem.Str.ofString "box"), .tuple (rs.map triI)]) o10 (.cons (.str _) (.cons (.tup h10 (t9.up s10)) .nil)) (Nat.le_of_ble_eq_true rfl) fun u11 H11 s11 o11 h11 => ?_
    walk_at "rd"
    refine ⟨_, _, sh, .box rs, rfl, ((s9.trans s10).trans s11).sq hsH7, h11, ⟨by omega, fun r hr => ?_⟩, r_retvs o11 fun H12 e12 o12 => ?_⟩
    · have := hrw r hr
      unfold RgW at this
      omega
    walk_at "rd"
    refine ⟨_, _, rfl, ?_⟩
    walk_at "rd"
    refine rif_nyes rfl ?_
    walk_at "rd"
    cases hg : rs.all rOk with
    | false =>
      walk_at "rd"
      exact q _
    | true =>
      walk_at "rd"
      refine ⟨_, .box rs, rfl, h11.up (.of e12), (fun r hr => ?_), ?_⟩
      · have := hrw r hr
        unfold RgW at this
        omega
      walk_at "rd"
      refine lcjL (K := K) (fun i => (rs[i]?).map fun r => .int r.2.2) o12 (fun H' p zs' o' => o'.sqL 1 rfl) (o12.sqL 0 rfl) (by omega) ?_ ?_
      · intro i x p zs' H' R hx o' s' r
        obtain ⟨d, U, hd, rfl, hU⟩ := tri_at ((((t9.up s10).up s11).up (.of e12)).up s') hx
        refine r_name (r _ rfl (fun Qb k => k H' (Same.refl _) |> fun z => by rw [hd] at z; exact z) fun d' H2 hd' s2 Qv qv => ?_)
        rw [hd] at hd'
        cases hd'
        walk_at "rd"
        refine r_ixT ((Stp.of s2).sq hU) (atI_nat (j := 2) rfl) ?_
        exact qv _ _ (Same.refl _) (.int _)
      intro p13 H13 zs13 s13 o13 t13
      rw [hzl, range_pick] at t13
      have e := ints_invF t13
      subst e
      refine ⟨_, rs.map (·.2.2), rfl, o13.sqL 0 rfl, (fun x hx => ?_), ?_⟩
      · obtain ⟨r, hr, rfl⟩ := List.mem_map.mp hx
        have := hrw r hr
        unfold RgW at this
        omega
      refine ⟨_, _, rfl, ?_⟩
      rw [show decide ((Sel.box rs).size = prodL (rs.map (·.2.2))) = true from decide_eq_true rfl]
      exact q _
end

theorem top_mk {K : PySem.W.Frag} {h : Heap} {mg : Str → Option Value} (X : K.In h) (G : h.Ns mainGlobals mg)
    {f_whole : Addr} {od_whole an_whole : Option Addr} {sl_whole : Array (Option Value)} {oc_whole kV_whole dc_whole pm_whole cd_whole ct_whole : Value}
    {f_selection_size : Addr} {od_selection_size an_selection_size : Option Addr} {sl_selection_size : Array (Option Value)} {oc_selection_size kV_selection_size dc_selection_size pm_selection_size cd_selection_size ct_selection_size : Value}
    {f_fits : Addr} {od_fits an_fits : Option Addr} {sl_fits : Array (Option Value)} {oc_fits kV_fits dc_fits pm_fits cd_fits ct_fits : Value}
    {f_is_index : Addr} {od_is_index an_is_index : Option Addr} {sl_is_index : Array (Option Value)} {oc_is_index kV_is_index dc_is_index pm_is_index cd_is_index ct_is_index : Value}
    {f_box_fits : Addr} {od_box_fits an_box_fits : Option Addr} {sl_box_fits : Array (Option Value)} {oc_box_fits kV_box_fits dc_box_fits pm_box_fits cd_box_fits ct_box_fits : Value}
    {f__law_cell : Addr} {od__law_cell an__law_cell : Option Addr} {sl__law_cell : Array (Option Value)} {oc__law_cell kV__law_cell dc__law_cell pm__law_cell cd__law_cell ct__law_cell : Value}
    {f__law_draws : Addr} {od__law_draws an__law_draws : Option Addr} {sl__law_draws : Array (Option Value)} {oc__law_draws kV__law_draws dc__law_draws pm__law_draws cd__law_draws ct__law_draws : Value}
    {f__law_is_int : Addr} {od__law_is_int an__law_is_int : Option Addr} {sl__law_is_int : Array (Option Value)} {oc__law_is_int kV__law_is_int dc__law_is_int pm__law_is_int cd__law_is_int ct__law_is_int : Value}
    {f__law_is_bool : Addr} {od__law_is_bool an__law_is_bool : Option Addr} {sl__law_is_bool : Array (Option Value)} {oc__law_is_bool kV__law_is_bool dc__law_is_bool pm__law_is_bool cd__law_is_bool ct__law_is_bool : Value}
    {f__law_ints : Addr} {od__law_ints an__law_ints : Option Addr} {sl__law_ints : Array (Option Value)} {oc__law_ints kV__law_ints dc__law_ints pm__law_ints cd__law_ints ct__law_ints : Value}
    {f__law_is_tuple : Addr} {od__law_is_tuple an__law_is_tuple : Option Addr} {sl__law_is_tuple : Array (Option Value)} {oc__law_is_tuple kV__law_is_tuple dc__law_is_tuple pm__law_is_tuple cd__law_is_tuple ct__law_is_tuple : Value}
    {f__law_is_number : Addr} {od__law_is_number an__law_is_number : Option Addr} {sl__law_is_number : Array (Option Value)} {oc__law_is_number kV__law_is_number dc__law_is_number pm__law_is_number cd__law_is_number ct__law_is_number : Value}
    {f__law_inside : Addr} {od__law_inside an__law_inside : Option Addr} {sl__law_inside : Array (Option Value)} {oc__law_inside kV__law_inside dc__law_inside pm__law_inside cd__law_inside ct__law_inside : Value}
    {f__law_whole : Addr} {od__law_whole an__law_whole : Option Addr} {sl__law_whole : Array (Option Value)} {oc__law_whole kV__law_whole dc__law_whole pm__law_whole cd__law_whole ct__law_whole : Value}
    {f__law_stream : Addr} {od__law_stream an__law_stream : Option Addr} {sl__law_stream : Array (Option Value)} {oc__law_stream kV__law_stream dc__law_stream pm__law_stream cd__law_stream ct__law_stream : Value}
    {f__law_many : Addr} {od__law_many an__law_many : Option Addr} {sl__law_many : Array (Option Value)} {oc__law_many kV__law_many dc__law_many pm__law_many cd__law_many ct__law_many : Value}
    {f__law_drawn_shape : Addr} {od__law_drawn_shape an__law_drawn_shape : Option Addr} {sl__law_drawn_shape : Array (Option Value)} {oc__law_drawn_shape kV__law_drawn_shape dc__law_drawn_shape pm__law_drawn_shape cd__law_drawn_shape ct__law_drawn_shape : Value}
    {f__law_ranges : Addr} {od__law_ranges an__law_ranges : Option Addr} {sl__law_ranges : Array (Option Value)} {oc__law_ranges kV__law_ranges dc__law_ranges pm__law_ranges cd__law_ranges ct__law_ranges : Value}
    {f__law_same_box : Addr} {od__law_same_box an__law_same_box : Option Addr} {sl__law_same_box : Array (Option Value)} {oc__law_same_box kV__law_same_box dc__law_same_box pm__law_same_box cd__law_same_box ct__law_same_box : Value}
    {f_law : Addr} {od_law an_law : Option Addr} {sl_law : Array (Option Value)} {oc_law kV_law dc_law pm_law cd_law ct_law : Value}
    (a_whole : PySem.W.nsIn K mainGlobals "whole" = some (some (.ref f_whole))) (l_whole : K.lookup f_whole = some ⟨oc_whole, od_whole, .func (PySem.W.fnOf "whole" "whole" (defArgs s_whole) (defBody s_whole) (defScope s_whole) .none kV_whole dc_whole pm_whole an_whole cd_whole ct_whole), sl_whole⟩) (c_whole : PySem.W.codeIn K cd_whole "whole" = true) (k_whole : PySem.W.keepIn K (.ref f_whole) = true)
    (a_selection_size : PySem.W.nsIn K mainGlobals "selection_size" = some (some (.ref f_selection_size))) (l_selection_size : K.lookup f_selection_size = some ⟨oc_selection_size, od_selection_size, .func (PySem.W.fnOf "selection_size" "selection_size" (defArgs s_selection_size) (defBody s_selection_size) (defScope s_selection_size) .none kV_selection_size dc_selection_size pm_selection_size an_selection_size cd_selection_size ct_selection_size), sl_selection_size⟩) (c_selection_size : PySem.W.codeIn K cd_selection_size "selection_size" = true) (k_selection_size : PySem.W.keepIn K (.ref f_selection_size) = true)
    (a_fits : PySem.W.nsIn K mainGlobals "fits" = some (some (.ref f_fits))) (l_fits : K.lookup f_fits = some ⟨oc_fits, od_fits, .func (PySem.W.fnOf "fits" "fits" (defArgs s_fits) (defBody s_fits) (defScope s_fits) .none kV_fits dc_fits pm_fits an_fits cd_fits ct_fits), sl_fits⟩) (c_fits : PySem.W.codeIn K cd_fits "fits" = true) (k_fits : PySem.W.keepIn K (.ref f_fits) = true)
    (a_is_index : PySem.W.nsIn K mainGlobals "is_index" = some (some (.ref f_is_index))) (l_is_index : K.lookup f_is_index = some ⟨oc_is_index, od_is_index, .func (PySem.W.fnOf "is_index" "is_index" (defArgs s_is_index) (defBody s_is_index) (defScope s_is_index) .none kV_is_index dc_is_index pm_is_index an_is_index cd_is_index ct_is_index), sl_is_index⟩) (c_is_index : PySem.W.codeIn K cd_is_index "is_index" = true) (k_is_index : PySem.W.keepIn K (.ref f_is_index) = true)
    (a_box_fits : PySem.W.nsIn K mainGlobals "box_fits" = some (some (.ref f_box_fits))) (l_box_fits : K.lookup f_box_fits = some ⟨oc_box_fits, od_box_fits, .func (PySem.W.fnOf "box_fits" "box_fits" (defArgs s_box_fits) (defBody s_box_fits) (defScope s_box_fits) .none kV_box_fits dc_box_fits pm_box_fits an_box_fits cd_box_fits ct_box_fits), sl_box_fits⟩) (c_box_fits : PySem.W.codeIn K cd_box_fits "box_fits" = true) (k_box_fits : PySem.W.keepIn K (.ref f_box_fits) = true)
    (a__law_cell : PySem.W.nsIn K mainGlobals "_law_cell" = some (some (.ref f__law_cell))) (l__law_cell : K.lookup f__law_cell = some ⟨oc__law_cell, od__law_cell, .func (PySem.W.fnOf "_law_cell" "_law_cell" (defArgs s__law_cell) (defBody s__law_cell) (defScope s__law_cell) .none kV__law_cell dc__law_cell pm__law_cell an__law_cell cd__law_cell ct__law_cell), sl__law_cell⟩) (c__law_cell : PySem.W.codeIn K cd__law_cell "_law_cell" = true) (k__law_cell : PySem.W.keepIn K (.ref f__law_cell) = true)
    (a__law_draws : PySem.W.nsIn K mainGlobals "_law_draws" = some (some (.ref f__law_draws))) (l__law_draws : K.lookup f__law_draws = some ⟨oc__law_draws, od__law_draws, .func (PySem.W.fnOf "_law_draws" "_law_draws" (defArgs s__law_draws) (defBody s__law_draws) (defScope s__law_draws) .none kV__law_draws dc__law_draws pm__law_draws an__law_draws cd__law_draws ct__law_draws), sl__law_draws⟩) (c__law_draws : PySem.W.codeIn K cd__law_draws "_law_draws" = true) (k__law_draws : PySem.W.keepIn K (.ref f__law_draws) = true)
    (a__law_is_int : PySem.W.nsIn K mainGlobals "_law_is_int" = some (some (.ref f__law_is_int))) (l__law_is_int : K.lookup f__law_is_int = some ⟨oc__law_is_int, od__law_is_int, .func (PySem.W.fnOf "_law_is_int" "_law_is_int" (defArgs s__law_is_int) (defBody s__law_is_int) (defScope s__law_is_int) .none kV__law_is_int dc__law_is_int pm__law_is_int an__law_is_int cd__law_is_int ct__law_is_int), sl__law_is_int⟩) (c__law_is_int : PySem.W.codeIn K cd__law_is_int "_law_is_int" = true) (k__law_is_int : PySem.W.keepIn K (.ref f__law_is_int) = true)
    (a__law_is_bool : PySem.W.nsIn K mainGlobals "_law_is_bool" = some (some (.ref f__law_is_bool))) (l__law_is_bool : K.lookup f__law_is_bool = some ⟨oc__law_is_bool, od__law_is_bool, .func (PySem.W.fnOf "_law_is_bool" "_law_is_bool" (defArgs s__law_is_bool) (defBody s__law_is_bool) (defScope s__law_is_bool) .none kV__law_is_bool dc__law_is_bool pm__law_is_bool an__law_is_bool cd__law_is_bool ct__law_is_bool), sl__law_is_bool⟩) (c__law_is_bool : PySem.W.codeIn K cd__law_is_bool "_law_is_bool" = true) (k__law_is_bool : PySem.W.keepIn K (.ref f__law_is_bool) = true)
    (a__law_ints : PySem.W.nsIn K mainGlobals "_law_ints" = some (some (.ref f__law_ints))) (l__law_ints : K.lookup f__law_ints = some ⟨oc__law_ints, od__law_ints, .func (PySem.W.fnOf "_law_ints" "_law_ints" (defArgs s__law_ints) (defBody s__law_ints) (defScope s__law_ints) .none kV__law_ints dc__law_ints pm__law_ints an__law_ints cd__law_ints ct__law_ints), sl__law_ints⟩) (c__law_ints : PySem.W.codeIn K cd__law_ints "_law_ints" = true) (k__law_ints : PySem.W.keepIn K (.ref f__law_ints) = true)
    (a__law_is_tuple : PySem.W.nsIn K mainGlobals "_law_is_tuple" = some (some (.ref f__law_is_tuple))) (l__law_is_tuple : K.lookup f__law_is_tuple = some ⟨oc__law_is_tuple, od__law_is_tuple, .func (PySem.W.fnOf "_law_is_tuple" "_law_is_tuple" (defArgs s__law_is_tuple) (defBody s__law_is_tuple) (defScope s__law_is_tuple) .none kV__law_is_tuple dc__law_is_tuple pm__law_is_tuple an__law_is_tuple cd__law_is_tuple ct__law_is_tuple), sl__law_is_tuple⟩) (c__law_is_tuple : PySem.W.codeIn K cd__law_is_tuple "_law_is_tuple" = true) (k__law_is_tuple : PySem.W.keepIn K (.ref f__law_is_tuple) = true)
    (a__law_is_number : PySem.W.nsIn K mainGlobals "_law_is_number" = some (some (.ref f__law_is_number))) (l__law_is_number : K.lookup f__law_is_number = some ⟨oc__law_is_number, od__law_is_number, .func (PySem.W.fnOf "_law_is_number" "_law_is_number" (defArgs s__law_is_number) (defBody s__law_is_number) (defScope s__law_is_number) .none kV__law_is_number dc__law_is_number pm__law_is_number an__law_is_number cd__law_is_number ct__law_is_number), sl__law_is_number⟩) (c__law_is_number : PySem.W.codeIn K cd__law_is_number "_law_is_number" = true) (k__law_is_number : PySem.W.keepIn K (.ref f__law_is_number) = true)
    (a__law_inside : PySem.W.nsIn K mainGlobals "_law_inside" = some (some (.ref f__law_inside))) (l__law_inside : K.lookup f__law_inside = some ⟨oc__law_inside, od__law_inside, .func (PySem.W.fnOf "_law_inside" "_law_inside" (defArgs s__law_inside) (defBody s__law_inside) (defScope s__law_inside) .none kV__law_inside dc__law_inside pm__law_inside an__law_inside cd__law_inside ct__law_inside), sl__law_inside⟩) (c__law_inside : PySem.W.codeIn K cd__law_inside "_law_inside" = true) (k__law_inside : PySem.W.keepIn K (.ref f__law_inside) = true)
    (a__law_whole : PySem.W.nsIn K mainGlobals "_law_whole" = some (some (.ref f__law_whole))) (l__law_whole : K.lookup f__law_whole = some ⟨oc__law_whole, od__law_whole, .func (PySem.W.fnOf "_law_whole" "_law_whole" (defArgs s__law_whole) (defBody s__law_whole) (defScope s__law_whole) .none kV__law_whole dc__law_whole pm__law_whole an__law_whole cd__law_whole ct__law_whole), sl__law_whole⟩) (c__law_whole : PySem.W.codeIn K cd__law_whole "_law_whole" = true) (k__law_whole : PySem.W.keepIn K (.ref f__law_whole) = true)
    (a__law_stream : PySem.W.nsIn K mainGlobals "_law_stream" = some (some (.ref f__law_stream))) (l__law_stream : K.lookup f__law_stream = some ⟨oc__law_stream, od__law_stream, .func (PySem.W.fnOf "_law_stream" "_law_stream" (defArgs s__law_stream) (defBody s__law_stream) (defScope s__law_stream) .none kV__law_stream dc__law_stream pm__law_stream an__law_stream cd__law_stream ct__law_stream), sl__law_stream⟩) (c__law_stream : PySem.W.codeIn K cd__law_stream "_law_stream" = true) (k__law_stream : PySem.W.keepIn K (.ref f__law_stream) = true)
    (a__law_many : PySem.W.nsIn K mainGlobals "_law_many" = some (some (.ref f__law_many))) (l__law_many : K.lookup f__law_many = some ⟨oc__law_many, od__law_many, .func (PySem.W.fnOf "_law_many" "_law_many" (defArgs s__law_many) (defBody s__law_many) (defScope s__law_many) .none kV__law_many dc__law_many pm__law_many an__law_many cd__law_many ct__law_many), sl__law_many⟩) (c__law_many : PySem.W.codeIn K cd__law_many "_law_many" = true) (k__law_many : PySem.W.keepIn K (.ref f__law_many) = true)
    (a__law_drawn_shape : PySem.W.nsIn K mainGlobals "_law_drawn_shape" = some (some (.ref f__law_drawn_shape))) (l__law_drawn_shape : K.lookup f__law_drawn_shape = some ⟨oc__law_drawn_shape, od__law_drawn_shape, .func (PySem.W.fnOf "_law_drawn_shape" "_law_drawn_shape" (defArgs s__law_drawn_shape) (defBody s__law_drawn_shape) (defScope s__law_drawn_shape) .none kV__law_drawn_shape dc__law_drawn_shape pm__law_drawn_shape an__law_drawn_shape cd__law_drawn_shape ct__law_drawn_shape), sl__law_drawn_shape⟩) (c__law_drawn_shape : PySem.W.codeIn K cd__law_drawn_shape "_law_drawn_shape" = true) (k__law_drawn_shape : PySem.W.keepIn K (.ref f__law_drawn_shape) = true)
    (a__law_ranges : PySem.W.nsIn K mainGlobals "_law_ranges" = some (some (.ref f__law_ranges))) (l__law_ranges : K.lookup f__law_ranges = some ⟨oc__law_ranges, od__law_ranges, .func (PySem.W.fnOf "_law_ranges" "_law_ranges" (defArgs s__law_ranges) (defBody s__law_ranges) (defScope s__law_ranges) .none kV__law_ranges dc__law_ranges pm__law_ranges an__law_ranges cd__law_ranges ct__law_ranges), sl__law_ranges⟩) (c__law_ranges : PySem.W.codeIn K cd__law_ranges "_law_ranges" = true) (k__law_ranges : PySem.W.keepIn K (.ref f__law_ranges) = true)
    (a__law_same_box : PySem.W.nsIn K mainGlobals "_law_same_box" = some (some (.ref f__law_same_box))) (l__law_same_box : K.lookup f__law_same_box = some ⟨oc__law_same_box, od__law_same_box, .func (PySem.W.fnOf "_law_same_box" "_law_same_box" (defArgs s__law_same_box) (defBody s__law_same_box) (defScope s__law_same_box) .none kV__law_same_box dc__law_same_box pm__law_same_box an__law_same_box cd__law_same_box ct__law_same_box), sl__law_same_box⟩) (c__law_same_box : PySem.W.codeIn K cd__law_same_box "_law_same_box" = true) (k__law_same_box : PySem.W.keepIn K (.ref f__law_same_box) = true)
    (a_law : PySem.W.nsIn K mainGlobals "law" = some (some (.ref f_law))) (l_law : K.lookup f_law = some ⟨oc_law, od_law, .func (PySem.W.fnOf "law" "law" (defArgs s_law) (defBody s_law) (defScope s_law) .none kV_law dc_law pm_law an_law cd_law ct_law), sl_law⟩) (c_law : PySem.W.codeIn K cd_law "law" = true) (k_law : PySem.W.keepIn K (.ref f_law) = true)
    (z_all : PySem.W.nsIn K mainGlobals "all" = some none)
    (z_any : PySem.W.nsIn K mainGlobals "any" = some none)
    (z_bool : PySem.W.nsIn K mainGlobals "bool" = some none)
    (z_enumerate : PySem.W.nsIn K mainGlobals "enumerate" = some none)
    (z_int : PySem.W.nsIn K mainGlobals "int" = some none)
    (z_isinstance : PySem.W.nsIn K mainGlobals "isinstance" = some none)
    (z_len : PySem.W.nsIn K mainGlobals "len" = some none)
    (z_list : PySem.W.nsIn K mainGlobals "list" = some none)
    (z_max : PySem.W.nsIn K mainGlobals "max" = some none)
    (z_range : PySem.W.nsIn K mainGlobals "range" = some none)
    (z_tuple : PySem.W.nsIn K mainGlobals "tuple" = some none)
    (z_zip : PySem.W.nsIn K mainGlobals "zip" = some none) : Top K mg :=
  { f_whole := ⟨_, _, fun_mk (st := s_whole) l_whole c_whole k_whole, PySem.W.mg_of X G a_whole, (fun_mk (st := s_whole) l_whole c_whole k_whole).binds (ps := ["shape"]) fun _ _ _ _ _ _ us hl => match us, hl with | [_], _ => rfl⟩,
    f_selection_size := ⟨_, _, fun_mk (st := s_selection_size) l_selection_size c_selection_size k_selection_size, PySem.W.mg_of X G a_selection_size, (fun_mk (st := s_selection_size) l_selection_size c_selection_size k_selection_size).binds (ps := ["selection"]) fun _ _ _ _ _ _ us hl => match us, hl with | [_], _ => rfl⟩,
    f_fits := ⟨_, _, fun_mk (st := s_fits) l_fits c_fits k_fits, PySem.W.mg_of X G a_fits, (fun_mk (st := s_fits) l_fits c_fits k_fits).binds (ps := ["shape", "selection"]) fun _ _ _ _ _ _ us hl => match us, hl with | [_, _], _ => rfl⟩,
    f_is_index := ⟨_, _, fun_mk (st := s_is_index) l_is_index c_is_index k_is_index, PySem.W.mg_of X G a_is_index, (fun_mk (st := s_is_index) l_is_index c_is_index k_is_index).binds (ps := ["shape", "index"]) fun _ _ _ _ _ _ us hl => match us, hl with | [_, _], _ => rfl⟩,
    f_box_fits := ⟨_, _, fun_mk (st := s_box_fits) l_box_fits c_box_fits k_box_fits, PySem.W.mg_of X G a_box_fits, (fun_mk (st := s_box_fits) l_box_fits c_box_fits k_box_fits).binds (ps := ["shape", "ranges"]) fun _ _ _ _ _ _ us hl => match us, hl with | [_, _], _ => rfl⟩,
    f__law_cell := ⟨_, _, fun_mk (st := s__law_cell) l__law_cell c__law_cell k__law_cell, PySem.W.mg_of X G a__law_cell, (fun_mk (st := s__law_cell) l__law_cell c__law_cell k__law_cell).binds (ps := ["script", "k"]) fun _ _ _ _ _ _ us hl => match us, hl with | [_, _], _ => rfl⟩,
    f__law_draws := ⟨_, _, fun_mk (st := s__law_draws) l__law_draws c__law_draws k__law_draws, PySem.W.mg_of X G a__law_draws, (fun_mk (st := s__law_draws) l__law_draws c__law_draws k__law_draws).binds (ps := ["cell", "count"]) fun _ _ _ _ _ _ us hl => match us, hl with | [_, _], _ => rfl⟩,
    f__law_is_int := ⟨_, _, fun_mk (st := s__law_is_int) l__law_is_int c__law_is_int k__law_is_int, PySem.W.mg_of X G a__law_is_int, (fun_mk (st := s__law_is_int) l__law_is_int c__law_is_int k__law_is_int).binds (ps := ["x"]) fun _ _ _ _ _ _ us hl => match us, hl with | [_], _ => rfl⟩,
    f__law_is_bool := ⟨_, _, fun_mk (st := s__law_is_bool) l__law_is_bool c__law_is_bool k__law_is_bool, PySem.W.mg_of X G a__law_is_bool, (fun_mk (st := s__law_is_bool) l__law_is_bool c__law_is_bool k__law_is_bool).binds (ps := ["x", "due"]) fun _ _ _ _ _ _ us hl => match us, hl with | [_, _], _ => rfl⟩,
    f__law_ints := ⟨_, _, fun_mk (st := s__law_ints) l__law_ints c__law_ints k__law_ints, PySem.W.mg_of X G a__law_ints, (fun_mk (st := s__law_ints) l__law_ints c__law_ints k__law_ints).binds (ps := ["x", "kind"]) fun _ _ _ _ _ _ us hl => match us, hl with | [_, _], _ => rfl⟩,
    f__law_is_tuple := ⟨_, _, fun_mk (st := s__law_is_tuple) l__law_is_tuple c__law_is_tuple k__law_is_tuple, PySem.W.mg_of X G a__law_is_tuple, (fun_mk (st := s__law_is_tuple) l__law_is_tuple c__law_is_tuple k__law_is_tuple).binds (ps := ["x", "due"]) fun _ _ _ _ _ _ us hl => match us, hl with | [_, _], _ => rfl⟩,
    f__law_is_number := ⟨_, _, fun_mk (st := s__law_is_number) l__law_is_number c__law_is_number k__law_is_number, PySem.W.mg_of X G a__law_is_number, (fun_mk (st := s__law_is_number) l__law_is_number c__law_is_number k__law_is_number).binds (ps := ["x", "due"]) fun _ _ _ _ _ _ us hl => match us, hl with | [_, _], _ => rfl⟩,
    f__law_inside := ⟨_, _, fun_mk (st := s__law_inside) l__law_inside c__law_inside k__law_inside, PySem.W.mg_of X G a__law_inside, (fun_mk (st := s__law_inside) l__law_inside c__law_inside k__law_inside).binds (ps := ["shape", "index"]) fun _ _ _ _ _ _ us hl => match us, hl with | [_, _], _ => rfl⟩,
    f__law_whole := ⟨_, _, fun_mk (st := s__law_whole) l__law_whole c__law_whole k__law_whole, PySem.W.mg_of X G a__law_whole, (fun_mk (st := s__law_whole) l__law_whole c__law_whole k__law_whole).binds (ps := ["shape"]) fun _ _ _ _ _ _ us hl => match us, hl with | [_], _ => rfl⟩,
    f__law_stream := ⟨_, _, fun_mk (st := s__law_stream) l__law_stream c__law_stream k__law_stream, PySem.W.mg_of X G a__law_stream, (fun_mk (st := s__law_stream) l__law_stream c__law_stream k__law_stream).binds (ps := ["script", "count"]) fun _ _ _ _ _ _ us hl => match us, hl with | [_, _], _ => rfl⟩,
    f__law_many := ⟨_, _, fun_mk (st := s__law_many) l__law_many c__law_many k__law_many, PySem.W.mg_of X G a__law_many, (fun_mk (st := s__law_many) l__law_many c__law_many k__law_many).binds (ps := ["shape"]) fun _ _ _ _ _ _ us hl => match us, hl with | [_], _ => rfl⟩,
    f__law_drawn_shape := ⟨_, _, fun_mk (st := s__law_drawn_shape) l__law_drawn_shape c__law_drawn_shape k__law_drawn_shape, PySem.W.mg_of X G a__law_drawn_shape, (fun_mk (st := s__law_drawn_shape) l__law_drawn_shape c__law_drawn_shape k__law_drawn_shape).binds (ps := ["draws", "at", "most"]) fun _ _ _ _ _ _ us hl => match us, hl with | [_, _, _], _ => rfl⟩,
    f__law_ranges := ⟨_, _, fun_mk (st := s__law_ranges) l__law_ranges c__law_ranges k__law_ranges, PySem.W.mg_of X G a__law_ranges, (fun_mk (st := s__law_ranges) l__law_ranges c__law_ranges k__law_ranges).binds (ps := ["draws", "shape"]) fun _ _ _ _ _ _ us hl => match us, hl with | [_, _], _ => rfl⟩,
    f__law_same_box := ⟨_, _, fun_mk (st := s__law_same_box) l__law_same_box c__law_same_box k__law_same_box, PySem.W.mg_of X G a__law_same_box, (fun_mk (st := s__law_same_box) l__law_same_box c__law_same_box k__law_same_box).binds (ps := ["told", "due"]) fun _ _ _ _ _ _ us hl => match us, hl with | [_, _], _ => rfl⟩,
    f_law := ⟨_, _, fun_mk (st := s_law) l_law c_law k_law, PySem.W.mg_of X G a_law, (fun_mk (st := s_law) l_law c_law k_law).binds (ps := ["script"]) fun _ _ _ _ _ _ us hl => match us, hl with | [_], _ => rfl⟩,
    b_all := PySem.W.mg_none_of X G z_all,
    b_any := PySem.W.mg_none_of X G z_any,
    b_bool := PySem.W.mg_none_of X G z_bool,
    b_enumerate := PySem.W.mg_none_of X G z_enumerate,
    b_int := PySem.W.mg_none_of X G z_int,
    b_isinstance := PySem.W.mg_none_of X G z_isinstance,
    b_len := PySem.W.mg_none_of X G z_len,
    b_list := PySem.W.mg_none_of X G z_list,
    b_max := PySem.W.mg_none_of X G z_max,
    b_range := PySem.W.mg_none_of X G z_range,
    b_tuple := PySem.W.mg_none_of X G z_tuple,
    b_zip := PySem.W.mg_none_of X G z_zip }
theorem law_mk {l : PySem.W.OpenLaw} {w : World} {K : PySem.W.Frag} {mg : Str → Option Value} {fa : Addr} {k : Nat} {sp : Sp} (hfa : mg "law" = some (.ref fa)) (T : Top K mg)
    (F : ∀ (base : Heap) (f : Addr) (fd : FuncData), Fun K "law" "law" s_law f fd → FnOk l.prog w K mg base CX0 k f fd ["script"] sp) :
    ∃ fd : FuncData, (∀ (s : Shared) (v : Value), BindsTo s fd ⟨[v], []⟩ [("script", v)]) ∧ ∀ base : Heap, K.In base → base.Ns mainGlobals mg → FnOk l.prog w K mg base CX0 k fa fd ["script"] sp := by
  obtain ⟨f, fd, FF, hm, hb⟩ := T.f_law.ex
  have e : f = fa := by rw [hm] at hfa; exact Value.ref.inj (Option.some.inj hfa)
  subst e
  have FF2 := FF
  obtain ⟨oc, od, kV, doc, pm, an, cdv, ct, osl, rfl, lk, hcd⟩ := FF2.ex
  exact ⟨_, fun s v => .of_eq rfl, fun base _ _ => F base f _ FF⟩
end My
open PySem PySem.W PyProof.Rows
set_option maxHeartbeats 0 in
theorem PySem.Challenge.cw_tessera_k11_selections_that_fit_holds : PySem.Challenge.rw_tessera_k11_selections_that_fit.Holds := by
  w_on; o_law; k_head; (case hw => w_witness2)
  k_fill
  refine L2.walk_ofB (l := PySem.Challenge.rw_tessera_k11_selections_that_fit) (n := 63) (k := My.lawK) (x := "script") (CX := fun _ => L2.CX0) (sp := fun w => My.spLaw _) rfl (by decide) rfl ⟨rfl, by decide, by decide⟩ (fun w h Y => PySem.W.kIn_of Y) ?F (fun w H a ns hl hb _ hS => My.law_in hl hb hS) (fun _ _ _ _ _ h => h)
  case F =>
    intro w mg fa h KX G hmg
    refine' (fun T => My.law_mk hmg T (fun base f fd F => My.ok_law F T)) ?T
    refine' My.top_mk KX G ?a_whole ?l_whole ?c_whole ?k_whole ?a_selection_size ?l_selection_size ?c_selection_size ?k_selection_size ?a_fits ?l_fits ?c_fits ?k_fits ?a_is_index ?l_is_index ?c_is_index ?k_is_index ?a_box_fits ?l_box_fits ?c_box_fits ?k_box_fits ?a__law_cell ?l__law_cell ?c__law_cell ?k__law_cell ?a__law_draws ?l__law_draws ?c__law_draws ?k__law_draws ?a__law_is_int ?l__law_is_int ?c__law_is_int ?k__law_is_int ?a__law_is_bool ?l__law_is_bool ?c__law_is_bool ?k__law_is_bool ?a__law_ints ?l__law_ints ?c__law_ints ?k__law_ints ?a__law_is_tuple ?l__law_is_tuple ?c__law_is_tuple ?k__law_is_tuple ?a__law_is_number ?l__law_is_number ?c__law_is_number ?k__law_is_number ?a__law_inside ?l__law_inside ?c__law_inside ?k__law_inside ?a__law_whole ?l__law_whole ?c__law_whole ?k__law_whole ?a__law_stream ?l__law_stream ?c__law_stream ?k__law_stream ?a__law_many ?l__law_many ?c__law_many ?k__law_many ?a__law_drawn_shape ?l__law_drawn_shape ?c__law_drawn_shape ?k__law_drawn_shape ?a__law_ranges ?l__law_ranges ?c__law_ranges ?k__law_ranges ?a__law_same_box ?l__law_same_box ?c__law_same_box ?k__law_same_box ?a_law ?l_law ?c_law ?k_law ?z_all ?z_any ?z_bool ?z_enumerate ?z_int ?z_isinstance ?z_len ?z_list ?z_max ?z_range ?z_tuple ?z_zip
    (case a_whole => k_is); (case l_whole => k_is); (case c_whole => k_is); (case k_whole => k_is); (case a_selection_size => k_is); (case l_selection_size => k_is); (case c_selection_size => k_is); (case k_selection_size => k_is); (case a_fits => k_is); (case l_fits => k_is); (case c_fits => k_is); (case k_fits => k_is); (case a_is_index => k_is); (case l_is_index => k_is); (case c_is_index => k_is); (case k_is_index => k_is); (case a_box_fits => k_is); (case l_box_fits => k_is); (case c_box_fits => k_is); (case k_box_fits => k_is); (case a__law_cell => k_is); (case l__law_cell => k_is); (case c__law_cell => k_is); (case k__law_cell => k_is); (case a__law_draws => k_is); (case l__law_draws => k_is); (case c__law_draws => k_is); (case k__law_draws => k_is); (case a__law_is_int => k_is); (case l__law_is_int => k_is); (case c__law_is_int => k_is); (case k__law_is_int => k_is); (case a__law_is_bool => k_is); (case l__law_is_bool => k_is); (case c__law_is_bool => k_is); (case k__law_is_bool => k_is); (case a__law_ints => k_is); (case l__law_ints => k_is); (case c__law_ints => k_is); (case k__law_ints => k_is); (case a__law_is_tuple => k_is); (case l__law_is_tuple => k_is); (case c__law_is_tuple => k_is); (case k__law_is_tuple => k_is); (case a__law_is_number => k_is); (case l__law_is_number => k_is); (case c__law_is_number => k_is); (case k__law_is_number => k_is); (case a__law_inside => k_is); (case l__law_inside => k_is); (case c__law_inside => k_is); (case k__law_inside => k_is); (case a__law_whole => k_is); (case l__law_whole => k_is); (case c__law_whole => k_is); (case k__law_whole => k_is); (case a__law_stream => k_is); (case l__law_stream => k_is); (case c__law_stream => k_is); (case k__law_stream => k_is); (case a__law_many => k_is); (case l__law_many => k_is); (case c__law_many => k_is); (case k__law_many => k_is); (case a__law_drawn_shape => k_is); (case l__law_drawn_shape => k_is); (case c__law_drawn_shape => k_is); (case k__law_drawn_shape => k_is); (case a__law_ranges => k_is); (case l__law_ranges => k_is); (case c__law_ranges => k_is); (case k__law_ranges => k_is); (case a__law_same_box => k_is); (case l__law_same_box => k_is); (case c__law_same_box => k_is); (case k__law_same_box => k_is); (case a_law => k_is); (case l_law => k_is); (case c_law => k_is); (case k_law => k_is); (case z_all => k_is); (case z_any => k_is); (case z_bool => k_is); (case z_enumerate => k_is); (case z_int => k_is); (case z_isinstance => k_is); (case z_len => k_is); (case z_list => k_is); (case z_max => k_is); (case z_range => k_is); (case z_tuple => k_is); (case z_zip => k_is)


