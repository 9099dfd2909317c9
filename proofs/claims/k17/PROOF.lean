import PyProof.Rows.All
import Wide.All
import OpenK.AllK
import Wide.FinOn
import HandS.ForMost
import HandS.IsInst
import HandS.Evl
import HandS.Style
import HandS.Zip
import HandS.EndBits
import PySem.Challenge.RW_tessera_k17_differences_and_planes
set_option Elab.async false
set_option linter.all false
set_option maxRecDepth 100000
set_option maxHeartbeats 4000000
/-! Readings stepped forward over an abstract heap that a list of owned objects describes. -/
namespace RD
open PySem PySem.Spec PyProof.Rows L2

/-! ### the heap: H extends H0; the objects of L are new since H0 and stand apart -/
structure Own (H0 H : Hp) (L : List (Addr × HO)) : Prop where
  ex : Same H0 H
  fr : ∀ x ∈ L, H0 x.1 = none ∧ H x.1 = some x.2
  nd : (L.map (·.1)).Nodup
theorem Own.nil (H : Hp) : Own H H [] := ⟨Same.refl H, fun _ h => absurd h (by simp), List.nodup_nil⟩
theorem same_new {H : Hp} {p : Addr} {u : HO} (h : H p = none) : Same H (upd H p u) := fun b x e => by
  rw [upd_ne (ne_of_none e h)]
  exact e
section
variable {H0 H H' : Hp} {L : List (Addr × HO)} {p l : Addr} {u v : HO} {K : PySem.W.Frag}
theorem Own.mono (o : Own H0 H L) (e : Same H H') : Own H0 H' L := ⟨o.ex.trans e, fun x hx => ⟨(o.fr x hx).1, e _ _ (o.fr x hx).2⟩, o.nd⟩
theorem Own.add (o : Own H0 H L) (e : Same H H') (hp : H p = none) (hv : H' p = some u) : Own H0 H' ((p, u) :: L) := by
  refine ⟨o.ex.trans e, fun x hx => ?_, ?_⟩
  · rcases List.mem_cons.mp hx with rfl | hx
    · exact ⟨o.ex.free hp, hv⟩
    · exact ⟨(o.fr x hx).1, e _ _ (o.fr x hx).2⟩
  · rw [List.map_cons, List.nodup_cons]
    refine ⟨fun hm => ?_, o.nd⟩
    obtain ⟨x, hx, e1⟩ := List.mem_map.mp hm
    have := (o.fr x hx).2
    rw [e1] at this
    show False
    rw [hp] at this
    cases this
theorem Own.new (o : Own H0 H L) (hp : H p = none) : Own H0 (upd H p u) ((p, u) :: L) := o.add (same_new hp) hp upd_same
theorem Own.at (o : Own H0 H L) (i : Nat) (h : L[i]? = some (l, u)) : H l = some u := (o.fr _ (List.mem_of_getElem? h)).2
theorem Own.fresh (o : Own H0 H L) (i : Nat) (h : L[i]? = some (l, u)) : H0 l = none := (o.fr _ (List.mem_of_getElem? h)).1
theorem map_set_fst {α β : Type} : ∀ {L : List (α × β)} {i : Nat} {l : α} {u v : β}, L[i]? = some (l, u) → (L.set i (l, v)).map (·.1) = L.map (·.1)
  | [], _, _, _, _, h => by simp at h
  | x :: L, 0, l, u, v, h => by
    have e : x = (l, u) := Option.some.inj h
    subst e
    rfl
  | x :: L, i + 1, l, u, v, h => by
    show x.1 :: (L.set i (l, v)).map (·.1) = x.1 :: L.map (·.1)
    rw [map_set_fst (L := L) (i := i) (l := l) (u := u) (v := v) h]
theorem nodup_fst {α β : Type} : ∀ {L : List (α × β)} {i j : Nat} {l : α} {u v : β}, (L.map (·.1)).Nodup → L[i]? = some (l, u) → L[j]? = some (l, v) → i = j
  | L, i, j, l, u, v, hN, hi, hj => by
    refine nd_ix (l := L.map (·.1)) hN (x := l) ?_ ?_
    · rw [List.getElem?_map, hi]; rfl
    · rw [List.getElem?_map, hj]; rfl
/-- the object at l is changed; nothing else -/
theorem Own.chg (o : Own H0 H L) (i : Nat) (h : L[i]? = some (l, u)) (e : ∀ b x, b ≠ l → H b = some x → H' b = some x) (hv : H' l = some v) : Own H0 H' (L.set i (l, v)) := by
  refine ⟨fun b x hb => ?_, fun x hx => ?_, ?_⟩
  · exact e b x (ne_of_none hb (o.fresh i h)) (o.ex b x hb)
  · obtain ⟨j, hj⟩ := List.mem_iff_getElem?.mp hx
    by_cases hij : i = j
    · subst hij
      have hlt : i < L.length := (List.getElem?_eq_some_iff.mp h).1
      rw [List.getElem?_set_self hlt] at hj
      cases hj
      exact ⟨o.fresh i h, hv⟩
    · rw [List.getElem?_set_ne hij] at hj
      have hm := List.mem_of_getElem? hj
      have hne : x.1 ≠ l := fun z => hij (by
        have : L[j]? = some (l, x.2) := by rw [hj, ← z]
        exact nodup_fst o.nd h this)
      exact ⟨(o.fr x hm).1, e _ _ hne (o.fr x hm).2⟩
  · rw [map_set_fst h]
    exact o.nd
theorem Own.set (o : Own H0 H L) (i : Nat) (h : L[i]? = some (l, u)) : Own H0 (upd H l v) (L.set i (l, v)) :=
  o.chg i h (fun b x hb e => by rw [upd_ne hb]; exact e) upd_same
theorem Own.sub {L' : List (Addr × HO)} (o : Own H0 H L) (h : L'.Sublist L) : Own H0 H L' :=
  ⟨o.ex, fun x hx => o.fr x (h.subset hx), List.Sublist.nodup (h.map _) o.nd⟩
theorem Own.tl {x : Addr × HO} (o : Own H0 H (x :: L)) : Own H0 H L := o.sub (List.sublist_cons_self x L)
theorem Own.ne (o : Own H0 H L) {q : Addr} {i j : Nat} (hi : L[i]? = some (l, u)) (hj : L[j]? = some (q, v)) (h : i ≠ j) : l ≠ q := fun e => by
  subst e
  exact h (nodup_fst o.nd hi hj)
theorem Own.sqL (o : Own H0 H L) {xs : List V} (i : Nat) (h : L[i]? = some (l, .lst xs)) : SqL K H l xs := .inl (.inl (o.at i h))
theorem Own.sqT (o : Own H0 H L) {xs : List V} (i : Nat) (h : L[i]? = some (l, .tup xs)) : SqT K H l xs := .inl (.inl (o.at i h))
theorem Own.old (o : Own H0 H L) {xs : List V} (h : SqL K H0 l xs) : SqL K H l xs := o.ex.seq h
theorem same_seqT {xs : List V} (e : Same H H') (h : SqT K H l xs) : SqT K H' l xs := by
  rcases h with (h | ⟨o, h⟩) | h
  · exact .inl (.inl (e _ _ h))
  · exact .inl (.inr ⟨o, e _ _ h⟩)
  · exact .inr h
theorem Own.oldT (o : Own H0 H L) {xs : List V} (h : SqT K H0 l xs) : SqT K H l xs := same_seqT o.ex h
/-- start a new frame of ownership at H, giving up L -/
theorem Own.trans {H1 : Hp} {L1 : List (Addr × HO)} (o : Own H0 H L) (o1 : Own H H1 L1) : Own H0 H1 (L1 ++ L) := by
  refine ⟨o.ex.trans o1.ex, fun x hx => ?_, ?_⟩
  · rcases List.mem_append.mp hx with h | h
    · exact ⟨o.ex.free (o1.fr x h).1, (o1.fr x h).2⟩
    · exact ⟨(o.fr x h).1, o1.ex _ _ (o.fr x h).2⟩
  · rw [List.map_append, List.nodup_append]
    refine ⟨o1.nd, o.nd, fun a ha b hb e => ?_⟩
    subst e
    obtain ⟨x, hx, rfl⟩ := List.mem_map.mp ha
    obtain ⟨y, hy, e⟩ := List.mem_map.mp hb
    have h1 := (o1.fr x hx).1
    have h2 := (o.fr y hy).2
    rw [e, h1] at h2
    cases h2
end

/-! ### what an answer is -/
/-- a value that is no new object -/
def RetV (H : Hp) (Q : VK) (v : V) : Prop := ∀ H', Same H H' → Q v H'
/-- a new object -/
def RetO (H : Hp) (Q : VK) (u : HO) : Prop := ∀ H' p, Same H H' → H p = none → H' p = some u → Q (.ref p) H'
theorem RetO.mk {H0 H : Hp} {Q : VK} {u : HO} {L : List (Addr × HO)} {p : Addr} (q : RetO H0 Q u) (o : Own H0 H L) (i : Nat) (h : L[i]? = some (p, u)) : Q (.ref p) H := q H p o.ex (o.fresh i h) (o.at i h)
theorem RetV.mk {H0 H : Hp} {Q : VK} {v : V} {L : List (Addr × HO)} (q : RetV H0 Q v) (o : Own H0 H L) : Q v H := q H o.ex

/-! ### readings -/
def RBl (x : V) (H : Hp) (Q : Bool → Hp → Prop) : Prop := ∃ k, x = .bl k ∧ Q k H
def RPt (x : V) (H : Hp) (R : Option Int → Hp → Prop) : Prop := ∃ i, x = .int i ∧ R (some i) H
def RIf (c : Bool) (A B : Prop) : Prop := if c = true then A else B
def RNewL (xs : List V) (H : Hp) (Q : VK) : Prop := xs.length ≤ sizeLine ∧ ∀ p, H p = none → Q (.ref p) (upd H p (.lst xs))
def RNewT (xs : List V) (H : Hp) (Q : VK) : Prop := xs.length ≤ sizeLine ∧ ∀ p, H p = none → Q (.ref p) (upd H p (.tup xs))
section
variable {σ : L2.St} {H H0 : Hp} {Q : VK} {v x y : V} {ta tb te : TE} {t u : TT} {r : R2} {i j : Int} {D : Ends} {ts tz : TS} {g : TG} {K : PySem.W.Frag} {L : List (Addr × HO)}
theorem r_var {n : Nat} (h : σ[n]? = some (some v)) (q : Q v H) : tVar n σ H Q := ⟨v, h, q⟩
theorem r_c (q : Q v H) : tC v σ H Q := q
theorem r_op (q : ta σ H fun x H1 => tb σ H1 fun y H2 => r x y H2 Q) : tOp r ta tb σ H Q := q
theorem r_I0 {f : Int → Int → V} (q : Q (f i j) H) : rI0 f (.int i) (.int j) H Q := ⟨i, j, rfl, rfl, q⟩
theorem r_I {C : Int → Int → Prop} {f : Int → Int → V} (c : C i j) (q : Q (f i j) H) : rI C f (.int i) (.int j) H Q := ⟨i, j, rfl, rfl, c, q⟩
theorem r_un {f : V → Hp → VK → Prop} (q : ta σ H fun x H1 => f x H1 Q) : tUn f ta σ H Q := q
theorem r_U {f : Int → V} (q : Q (f i) H) : rU f (.int i) H Q := ⟨i, rfl, q⟩
theorem r_eqI (q : Q (.bl (decide (i = j))) H) : rEq (.int i) (.int j) H Q := ⟨rfl, by
  have e : decide ((V.int i) = .int j) = decide (i = j) := by simp
  rw [e]; exact q⟩
theorem r_neI (q : Q (.bl (!decide (i = j))) H) : rNe (.int i) (.int j) H Q := ⟨rfl, by
  have e : decide ((V.int i) = .int j) = decide (i = j) := by simp
  rw [e]; exact q⟩
theorem r_eqS {a b : Str} (q : Q (.bl (decide (a = b))) H) : rEq (.str a) (.str b) H Q := ⟨rfl, by
  have e : decide ((V.str a) = .str b) = decide (a = b) := by simp
  rw [e]; exact q⟩
theorem r_neS {a b : Str} (q : Q (.bl (!decide (a = b))) H) : rNe (.str a) (.str b) H Q := ⟨rfl, by
  have e : decide ((V.str a) = .str b) = decide (a = b) := by simp
  rw [e]; exact q⟩
theorem r_test {Q : Bool → Hp → Prop} (q : ta σ H fun x H' => RBl x H' Q) : tTest ta σ H Q := q
theorem r_tB {Q : Bool → Hp → Prop} (q : ta σ H fun x H' => RBl x H' Q) : tB ta σ H Q := q
theorem r_bl {Q : Bool → Hp → Prop} {b : Bool} (q : Q b H) : RBl (.bl b) H Q := ⟨b, rfl, q⟩
theorem r_and {Q : Bool → Hp → Prop} (q : t σ H fun c H1 => RIf c (u σ H1 Q) (Q false H1)) : tAnd t u σ H Q := q
theorem r_or {Q : Bool → Hp → Prop} (q : t σ H fun c H1 => RIf c (Q true H1) (u σ H1 Q)) : tOr t u σ H Q := q
theorem r_not {Q : Bool → Hp → Prop} (q : t σ H fun c H1 => Q (!c) H1) : tNot t σ H Q := q
theorem r_andV (q : ta σ H fun x H1 => RBl x H1 fun c H1 => RIf c (tb σ H1 Q) (Q (.bl false) H1)) : tAndV ta tb σ H Q := q
theorem r_orV (q : ta σ H fun x H1 => RBl x H1 fun c H1 => RIf c (Q (.bl true) H1) (tb σ H1 Q)) : tOrV ta tb σ H Q := q
theorem r_notV (q : ta σ H fun x H1 => RBl x H1 fun c H1 => Q (.bl (!c)) H1) : tNotV ta σ H Q := q
theorem r_ifE (q : t σ H fun c H1 => RIf c (ta σ H1 Q) (tb σ H1 Q)) : tIf t ta tb σ H Q := q
theorem r_seq (q : ts { D with nx := tz D } σ H) : tSeq ts tz D σ H := q
theorem r_asg (q : te σ H fun x H1 => g x σ H1 D.nx) : tAsg te g D σ H := q
theorem r_name {n : Nat} {R : L2.St → Hp → Prop} (q : R (σ.set n (some v)) H) : gName n v σ H R := q
theorem r_ifS (q : t σ H fun b H1 => RIf b (ts D σ H1) (tz D σ H1)) : tIfS t ts tz D σ H := q
theorem r_ret (q : te σ H D.rt) : tRet te D σ H := q
theorem r_retN (q : D.rt .non H) : tRetN D σ H := q
theorem r_drop (q : te σ H fun _ H1 => D.nx σ H1) : tDrop te D σ H := q
theorem r_next (q : D.nx σ H) : tNext D σ H := q
theorem r_break (q : D.bk σ H) : tBreak D σ H := q
theorem r_cont (q : D.ct σ H) : tCont D σ H := q
theorem r_nil {R : List V → Hp → Prop} (q : R [] H) : tNil σ H R := q
theorem r_cons {tr : TA} {R : List V → Hp → Prop} (q : te σ H fun x H1 => tr σ H1 fun xs H2 => R (x :: xs) H2) : tCons te tr σ H R := q
theorem r_tup {tr : TA} (q : tr σ H fun xs H1 => RNewT xs H1 Q) : tTup tr σ H Q := q
theorem r_lst {tr : TA} (q : tr σ H fun xs H1 => RNewL xs H1 Q) : tLst tr σ H Q := q
theorem r_CB {f : List V → Hp → VK → Prop} {tr : TA} (q : tr σ H fun vs H1 => f vs H1 Q) : tCB f tr σ H Q := q
theorem r_call {sp : Sp} {E : XK} {tr : TA} (q : tr σ H fun vs H1 => sp (vs ++ []) H1 Q E) : tCall sp [] E tr σ H Q := q
theorem r_sl {f : V → Option Int → Option Int → Hp → VK → Prop} {tl th : TO} (q : te σ H fun x H1 => tl σ H1 fun l H2 => th σ H2 fun u H3 => f x l u H3 Q) : tSl f te tl th σ H Q := q
theorem r_par {i j : Nat} {ta : TA} {D : Ends} (q : ta σ H fun vs H1 => ∃ v w, vs = [v, w] ∧ D.nx ((σ.set i (some v)).set j (some w)) H1) : tPar i j ta D σ H := q
theorem r_nopart {R : Option Int → Hp → Prop} (q : R none H) : tNoPart σ H R := q
theorem r_part {R : Option Int → Hp → Prop} (q : te σ H fun x H1 => RPt x H1 R) : tPart te σ H R := q
theorem r_pt {R : Option Int → Hp → Prop} (q : R (some i) H) : RPt (.int i) H R := ⟨i, rfl, q⟩
theorem r_aug {n : Nat} {ti : TIp} (h : σ[n]? = some (some x)) (q : te σ H fun y H1 => ti x y H1 fun z H2 => D.nx (σ.set n (some z)) H2) : tAug n te ti D σ H := ⟨x, h, q⟩
theorem r_ipI {f : Int → Int → Int} (q : Q (.int (f i j)) H) : ipI f (.int i) (.int j) H Q := ⟨i, j, rfl, rfl, q⟩
theorem r_set {to ti : TE} {s : TSet} {R : L2.St → Hp → Prop} (q : to σ H fun o H1 => ti σ H1 fun i H2 => s o i v H2 fun H3 => R σ H3) : gSub to ti s v σ H R := q

/-! ### branches -/
theorem rif {p : Prop} [Decidable p] {A B : Prop} (h1 : p → A) (h2 : ¬ p → B) : RIf (decide p) A B := by
  unfold RIf
  by_cases h : p
  · rw [if_pos (decide_eq_true h)]; exact h1 h
  · rw [if_neg (by simpa using h)]; exact h2 h
theorem rif_n {p : Prop} [Decidable p] {A B : Prop} (h1 : ¬ p → A) (h2 : p → B) : RIf (!decide p) A B := by
  unfold RIf
  by_cases h : p
  · rw [if_neg (by simpa using h)]; exact h2 h
  · rw [if_pos (by simpa using h)]; exact h1 h
theorem rif_t {A B : Prop} (h : A) : RIf true A B := by unfold RIf; rw [if_pos rfl]; exact h
theorem rif_f {A B : Prop} (h : B) : RIf false A B := by unfold RIf; rw [if_neg Bool.false_ne_true]; exact h
theorem rif_nt {A B : Prop} (h : B) : RIf (!true) A B := rif_f h
theorem rif_nf {A B : Prop} (h : A) : RIf (!false) A B := rif_t h
theorem rif_yes {p : Prop} [Decidable p] {A B : Prop} (hp : p) (h1 : A) : RIf (decide p) A B := rif (fun _ => h1) fun h => absurd hp h
theorem rif_no {p : Prop} [Decidable p] {A B : Prop} (hp : ¬ p) (h1 : B) : RIf (decide p) A B := rif (fun h => absurd h hp) fun _ => h1
theorem rif_nyes {p : Prop} [Decidable p] {A B : Prop} (hp : p) (h1 : B) : RIf (!decide p) A B := rif_n (fun h => absurd hp h) fun _ => h1
theorem rif_nno {p : Prop} [Decidable p] {A B : Prop} (hp : ¬ p) (h1 : A) : RIf (!decide p) A B := rif_n (fun _ => h1) fun h => absurd h hp
theorem rif_b {b : Bool} {A B : Prop} (h1 : b = true → A) (h2 : b = false → B) : RIf b A B := by
  cases b
  · exact rif_f (h2 rfl)
  · exact rif_t (h1 rfl)

/-! ### new objects -/
theorem sz100 {n : Nat} (h : n ≤ 10000000) : n ≤ sizeLine := Nat.le_trans h (by decide)
theorem sz_lt {n : Nat} (h : n < 10000000) : n < sizeLine := Nat.lt_of_lt_of_le h (by decide)
theorem r_newL {xs : List V} (o : Own H0 H L) (hz : xs.length ≤ 10000000) (k : ∀ p H', Own H0 H' ((p, .lst xs) :: L) → Q (.ref p) H') : RNewL xs H Q := ⟨sz100 hz, fun p hp => k p _ (o.new hp)⟩
theorem r_newT {xs : List V} (o : Own H0 H L) (hz : xs.length ≤ 10000000) (k : ∀ p H', Own H0 H' ((p, .tup xs) :: L) → Q (.ref p) H') : RNewT xs H Q := ⟨sz100 hz, fun p hp => k p _ (o.new hp)⟩

/-! ### lists -/
theorem r_ixL {p : Addr} {xs : List V} (h : SqL K H p xs) (ha : atI xs i = some v) (q : Q v H) : rIxL K (.ref p) (.int i) H Q := ⟨p, xs, i, v, rfl, rfl, h, ha, q⟩
theorem r_ixT {p : Addr} {xs : List V} (h : SqT K H p xs) (ha : atI xs i = some v) (q : Q v H) : rIxT K (.ref p) (.int i) H Q := ⟨p, xs, i, v, rfl, rfl, h, ha, q⟩
theorem r_slL {a : Addr} {xs : List V} {lo hi : Option Int} (o : Own H0 H L) (h : SqL K H a xs) (k : ∀ p H', Own H0 H' ((p, .lst (cutV xs lo hi)) :: L) → Q (.ref p) H') : rSlL K (.ref a) lo hi H Q := ⟨a, xs, rfl, h, fun p hp => k p _ (o.new hp)⟩
theorem r_cat {a b : Addr} {xs ys : List V} (o : Own H0 H L) (ha : H a = some (.lst xs)) (hb : H b = some (.lst ys)) (hz : xs.length + ys.length ≤ 10000000) (k : ∀ p H', Own H0 H' ((p, .lst (xs ++ ys)) :: L) → Q (.ref p) H') : rCat (.ref a) (.ref b) H Q :=
  ⟨a, b, xs, ys, rfl, rfl, ha, hb, sz100 hz, fun p hp => k p _ (o.new hp)⟩
theorem r_app {l : Addr} {xs : List V} (o : Own H0 H L) (n : Nat) (h : L[n]? = some (l, .lst xs)) (hz : xs.length < 10000000) (k : ∀ H', Own H0 H' (L.set n (l, .lst (xs ++ [y]))) → Q .non H') : rAppend (.ref l) [y] H Q :=
  ⟨l, xs, y, rfl, rfl, o.at n h, sz_lt hz, k _ (o.set n h)⟩
/-- l.append(e) as a statement's expression: the receiver's slot, the argument -/
theorem r_bm {T : String} {f : V → List V → Hp → VK → Prop} {tr : TA} {n : Nat} {l : Addr} (h : σ[n]? = some (some (.ref l))) (ht : tyV K T (.ref l) H) (q : tr σ H fun vs H2 => f (.ref l) vs H2 Q) : tBM K T f (tVar n) tr σ H Q := ⟨_, h, ht, q⟩
theorem ty_lst {l : Addr} {xs : List V} (h : H l = some (.lst xs)) : tyV K "list" (.ref l) H := .inl ⟨rfl, _, SqL.of h⟩
theorem r_setL {l : Addr} {xs : List V} {k : Nat} {R : Hp → Prop} (o : Own H0 H L) (n : Nat) (h : L[n]? = some (l, .lst xs)) (hj : ixN xs.length i = some k) (q : ∀ H', Own H0 H' (L.set n (l, .lst (xs.set k v))) → R H') : rSetL (.ref l) (.int i) v H R :=
  ⟨l, xs, i, k, rfl, rfl, o.at n h, hj, q _ (o.set n h)⟩
end

/-! ### isinstance, sums, == of lists -/
section
variable {σ : L2.St} {H H0 : Hp} {Q : VK} {v x y : V} {i j : Int} {K : PySem.W.Frag} {L : List (Addr × HO)}
theorem r_isi {T S : String} {b : Bool} (ht : TyX K H x (.type T)) (hk : kitB T S = some b) (q : Q (.bl b) H) : rIsi K [x, .ty S] H Q := ⟨x, .ty S, .type T, .type S, b, rfl, .ty S, ht, kit_ty hk, q⟩
theorem ty_int {i : Int} : TyX K H (.int i) (.type "int") := .base (.int i)
theorem ty_str {z : Str} : TyX K H (.str z) (.type "str") := .base (.str z)
theorem ty_non : TyX K H .non (.type "NoneType") := .base .non
theorem ty_list {l : Addr} {xs : List V} (h : H l = some (.lst xs)) : TyX K H (.ref l) (.type "list") := .base (.lst h)
theorem ty_tup {l : Addr} {xs : List V} (h : H l = some (.tup xs)) : TyX K H (.ref l) (.type "tuple") := .base (.tup h)
theorem r_sum {a : Addr} {ns : List Int} (h : SqL K H a (ns.map V.int)) (q : Q (.int ns.sum) H) : rSum K [.ref a] H Q := ⟨a, ns, rfl, h, q⟩
theorem dpAll_ints : ∀ ns : List Int, DpAll K H (ns.map V.int) (ns.map PyData.int)
  | [] => .nil
  | n :: ns => .cons (.int n) (dpAll_ints ns)
theorem dp_ints {a : Addr} {ns : List Int} (h : SqL K H a (ns.map V.int)) : Dp K H (.ref a) (.list (ns.map PyData.int)) := .lst h (dpAll_ints ns)
theorem dp_intsT {a : Addr} {ns : List Int} (h : SqT K H a (ns.map V.int)) : Dp K H (.ref a) (.tuple (ns.map PyData.int)) := .tup h (dpAll_ints ns)
end
/-! ### items -/
/-- the i-th of a list of ints -/
def gi (ns : List Int) (i : Int) : Int := ns.getD i.toNat 0
theorem at_map {α : Type} {f : α → V} {ns : List α} {i : Int} {x : α} (h0 : 0 ≤ i) (h : ns[i.toNat]? = some x) : atI (ns.map f) i = some (f x) := by
  obtain ⟨n, rfl⟩ := Int.eq_ofNat_of_zero_le h0
  refine atI_nat ?_
  have e : (Int.toNat (n : Int)) = n := rfl
  rw [e] at h
  rw [List.getElem?_map, h]
  rfl
theorem at_ints {ns : List Int} {i : Int} (h0 : 0 ≤ i) (h1 : i < ns.length) : atI (ns.map V.int) i = some (.int (gi ns i)) := by
  refine at_map h0 ?_
  unfold gi
  have : i.toNat < ns.length := by omega
  rw [List.getD_eq_getElem?_getD, List.getElem?_eq_getElem this]
  rfl
theorem gi_mem {ns : List Int} {i : Int} (h0 : 0 ≤ i) (h1 : i < ns.length) : gi ns i ∈ ns := by
  unfold gi
  have h2 : i.toNat < ns.length := by omega
  rw [List.getD_eq_getElem?_getD, List.getElem?_eq_getElem h2]
  exact List.getElem_mem h2

/-! ### equal lists of ints -/
theorem canLay_ints : ∀ ns : List Int, PyData.canLayAll0 (ns.map PyData.int) = true
  | [] => rfl
  | n :: ns => by
    show (PyData.canLay0 (.int n) && PyData.canLayAll0 (ns.map PyData.int)) = true
    rw [canLay_ints ns]
    rfl
theorem depth_ints : ∀ ns : List Int, PyData.depthAll (ns.map PyData.int) ≤ 1
  | [] => by decide
  | n :: ns => by
    have h := depth_ints ns
    show max (PyData.depth (.int n)) (PyData.depthAll (ns.map PyData.int)) ≤ 1
    exact Nat.max_le.mpr ⟨Nat.zero_le 1, h⟩
theorem shaped_ints (ns : List Int) : SeqAt.shaped (.list (ns.map PyData.int)) = true := by
  unfold SeqAt.shaped
  rw [Bool.and_eq_true]
  refine ⟨canLay_ints ns, decide_eq_true ?_⟩
  have h := depth_ints ns
  show PyData.depthAll (ns.map PyData.int) + 1 ≤ 64
  omega
theorem shaped_intsT (ns : List Int) : SeqAt.shaped (.tuple (ns.map PyData.int)) = true := by
  unfold SeqAt.shaped
  rw [Bool.and_eq_true]
  refine ⟨canLay_ints ns, decide_eq_true ?_⟩
  have h := depth_ints ns
  show PyData.depthAll (ns.map PyData.int) + 1 ≤ 64
  omega
theorem eqvAll_ints : ∀ ns ms : List Int, PyData.eqvAll (ns.map PyData.int) (ms.map PyData.int) = decide (ns = ms)
  | [], [] => by simp [PyData.eqvAll]
  | [], _ :: _ => by simp [PyData.eqvAll]
  | _ :: _, [] => by simp [PyData.eqvAll]
  | n :: ns, m :: ms => by
    show (PyData.eqv (.int n) (.int m) && PyData.eqvAll (ns.map PyData.int) (ms.map PyData.int)) = _
    rw [eqvAll_ints ns ms]
    simp [PyData.eqv, Bool.beq_eq_decide_eq]
section
variable {H : Hp} {Q : VK} {K : PySem.W.Frag} {a b : Addr} {ns ms : List Int}
theorem r_eqLL (h : SqL K H a (ns.map V.int)) (h2 : SqL K H b (ms.map V.int)) (q : Q (.bl (decide (ns = ms))) H) : rEqD K (.ref a) (.ref b) H Q :=
  ⟨_, _, dp_ints h, dp_ints h2, shaped_ints ns, shaped_ints ms, by
    have e : PyData.eqv (.list (ns.map PyData.int)) (.list (ms.map PyData.int)) = decide (ns = ms) := by rw [PyData.eqv]; exact eqvAll_ints ns ms
    rw [e]; exact q⟩
theorem r_neLL (h : SqL K H a (ns.map V.int)) (h2 : SqL K H b (ms.map V.int)) (q : Q (.bl (!decide (ns = ms))) H) : rNeD K (.ref a) (.ref b) H Q :=
  ⟨_, _, dp_ints h, dp_ints h2, shaped_ints ns, shaped_ints ms, by
    have e : PyData.eqv (.list (ns.map PyData.int)) (.list (ms.map PyData.int)) = decide (ns = ms) := by rw [PyData.eqv]; exact eqvAll_ints ns ms
    rw [e]; exact q⟩
theorem r_eqTT (h : SqT K H a (ns.map V.int)) (h2 : SqT K H b (ms.map V.int)) (q : Q (.bl (decide (ns = ms))) H) : rEqD K (.ref a) (.ref b) H Q :=
  ⟨_, _, dp_intsT h, dp_intsT h2, shaped_intsT ns, shaped_intsT ms, by
    have e : PyData.eqv (.tuple (ns.map PyData.int)) (.tuple (ms.map PyData.int)) = decide (ns = ms) := by rw [PyData.eqv]; exact eqvAll_ints ns ms
    rw [e]; exact q⟩
theorem r_eqSame (h : SqL K H a (ns.map V.int)) (h2 : SqL K H b (ns.map V.int)) (q : Q (.bl true) H) : rEqD K (.ref a) (.ref b) H Q := r_eqLL h h2 (by rw [decide_eq_true rfl]; exact q)
theorem r_neSame (h : SqL K H a (ns.map V.int)) (h2 : SqL K H b (ns.map V.int)) (q : Q (.bl false) H) : rNeD K (.ref a) (.ref b) H Q := r_neLL h h2 (by rw [decide_eq_true rfl]; exact q)
theorem r_ixI {i : Int} {p : Addr} (h : SqL K H p (ns.map V.int)) (h0 : 0 ≤ i) (h1 : i < ns.length) (q : Q (.int (gi ns i)) H) : rIxL K (.ref p) (.int i) H Q := r_ixL h (at_ints h0 h1) q
theorem r_ixqL {i : Int} {p : Addr} (h : SqL K H p (ns.map V.int)) (h0 : 0 ≤ i) (h1 : i < ns.length) (q : Q (.int (gi ns i)) H) : rIx K (.ref p) (.int i) H Q := .inl (r_ixL h (at_ints h0 h1) q)
theorem r_ixqT {i : Int} {p : Addr} (h : SqT K H p (ns.map V.int)) (h0 : 0 ≤ i) (h1 : i < ns.length) (q : Q (.int (gi ns i)) H) : rIx K (.ref p) (.int i) H Q := .inr (.inl (r_ixT h (at_ints h0 h1) q))
theorem r_ixIT {i : Int} {p : Addr} (h : SqT K H p (ns.map V.int)) (h0 : 0 ≤ i) (h1 : i < ns.length) (q : Q (.int (gi ns i)) H) : rIxT K (.ref p) (.int i) H Q := r_ixT h (at_ints h0 h1) q
/-- a written list (or one of unknown form) at a place in it -/
theorem r_ixM {i : Int} {p : Addr} {vs : List V} (h : SqL K H p vs) (h0 : 0 ≤ i) (h1 : i < vs.length) (q : ∀ v, v ∈ vs → atI vs i = some v → Q v H) : rIxL K (.ref p) (.int i) H Q := by
  obtain ⟨n, rfl⟩ := Int.eq_ofNat_of_zero_le h0
  have hn : n < vs.length := by omega
  have e : atI vs (n : Int) = some vs[n] := atI_nat (List.getElem?_eq_getElem hn)
  exact r_ixL h e (q _ (List.getElem_mem hn) e)
theorem r_ret1 {H0 : Hp} {L : List (Addr × HO)} {u : HO} (o : Own H0 H L) (k : ∀ p H', Own H0 H' ((p, u) :: L) → Q (.ref p) H') : RetO H Q u := fun H' p e f h => k p H' (o.add e f h)
theorem r_retvs {H0 : Hp} {L : List (Addr × HO)} {v : V} (o : Own H0 H L) (k : ∀ H', Same H H' → Own H0 H' L → Q v H') : RetV H Q v := fun H' e => k H' e (o.mono e)
theorem r_retv {H0 : Hp} {L : List (Addr × HO)} {v : V} (o : Own H0 H L) (k : ∀ H', Own H0 H' L → Q v H') : RetV H Q v := fun H' e => k H' (o.mono e)
end

/-! ### named relations -/
def rTupS (K : PySem.W.Frag) : List V → Hp → VK → Prop := fun xs H Q => ∃ p ys, xs = [.ref p] ∧ ((SqL K H p ys ∧ ∀ l, H l = none → Q (.ref l) (upd H l (.tup ys))) ∨ (SqT K H p ys ∧ Q (.ref p) H))
def rInt1 : List V → Hp → VK → Prop := fun xs H Q => (∃ i, xs = [.int i] ∧ Q (.int i) H) ∨ ∃ k, xs = [.bl k] ∧ Q (.int (if k then 1 else 0)) H
section
variable {H H0 : Hp} {Q : VK} {K : PySem.W.Frag} {L : List (Addr × HO)} {p : Addr} {xs : List V}
theorem r_len (h : SqL K H p xs) (q : Q (.int xs.length) H) : Evl.rLenS K [.ref p] H Q := ⟨p, xs, rfl, .inl h, q⟩
theorem r_lenT (h : SqT K H p xs) (q : Q (.int xs.length) H) : Evl.rLenS K [.ref p] H Q := ⟨p, xs, rfl, .inr h, q⟩
theorem r_list (o : Own H0 H L) (h : SqL K H p xs) (k : ∀ l H', Own H0 H' ((l, .lst xs) :: L) → Q (.ref l) H') : Evl.rListS K [.ref p] H Q := ⟨p, xs, rfl, .inl h, fun l hl => k l _ (o.new hl)⟩
theorem r_listT (o : Own H0 H L) (h : SqT K H p xs) (k : ∀ l H', Own H0 H' ((l, .lst xs) :: L) → Q (.ref l) H') : Evl.rListS K [.ref p] H Q := ⟨p, xs, rfl, .inr h, fun l hl => k l _ (o.new hl)⟩
theorem r_tupL (o : Own H0 H L) (h : SqL K H p xs) (k : ∀ l H', Own H0 H' ((l, .tup xs) :: L) → Q (.ref l) H') : rTupS K [.ref p] H Q := ⟨p, xs, rfl, .inl ⟨h, fun l hl => k l _ (o.new hl)⟩⟩
theorem r_int {i : Int} (q : Q (.int i) H) : rInt1 [.int i] H Q := .inl ⟨i, rfl, q⟩
theorem r_intB {b : Bool} (q : Q (.int (if b then 1 else 0)) H) : rInt1 [.bl b] H Q := .inr ⟨b, rfl, q⟩
end

/-! ### slices -/
theorem cut_hi (xs : List V) (n : Nat) : cutV xs none (some (n : Int)) = xs.take n := by
  unfold cutV
  rw [HT.sIx_none, HT.sIx_nat, List.drop_zero, Nat.sub_zero]
  rcases Nat.le_total n xs.length with h | h
  · rw [Nat.min_eq_left h]
  · rw [Nat.min_eq_right h, List.take_of_length_le (Nat.le_refl _), List.take_of_length_le h]
theorem cut_lo (xs : List V) (n : Nat) : cutV xs (some (n : Int)) none = xs.drop n := by
  unfold cutV
  rw [HT.sIx_none, HT.sIx_nat]
  rcases Nat.le_total n xs.length with h | h
  · rw [Nat.min_eq_left h]
    exact List.take_of_length_le (by rw [List.length_drop]; omega)
  · rw [Nat.min_eq_right h, List.drop_of_length_le h, List.drop_of_length_le (Nat.le_refl _)]
    simp
theorem cut_both (xs : List V) (a b : Nat) : cutV xs (some (a : Int)) (some (b : Int)) = (xs.drop a).take (b - a) := by
  unfold cutV
  rw [HT.sIx_nat, HT.sIx_nat]
  rcases Nat.le_total a xs.length with h | h
  · rw [Nat.min_eq_left h]
    rcases Nat.le_total b xs.length with h2 | h2
    · rw [Nat.min_eq_left h2]
    · rw [Nat.min_eq_right h2, List.take_of_length_le (by rw [List.length_drop]; omega), List.take_of_length_le (by rw [List.length_drop]; omega)]
  · rw [Nat.min_eq_right h, List.drop_of_length_le h, List.drop_of_length_le (Nat.le_refl _)]
    simp
theorem cut_all (xs : List V) : cutV xs none none = xs := by
  unfold cutV
  rw [HT.sIx_none, HT.sIx_none]
  simp

/-! ### loops -/
def RFor (J : It) (g : TG) (tb : TS) (D : Ends) (σ : L2.St) (H : Hp) : Prop := ∃ W : Nat → Nat → L2.St → Hp → Prop, (∃ m, W 0 m σ H) ∧ ∀ i m σ H, W i m σ H →
    (J.stop i H ∧ D.nx σ H) ∨ (J.go i H ∧ ∃ N : L2.St → Hp → Prop, (∀ σ' H', N σ' H' → ∃ m', m' < m ∧ W (i + 1) m' σ' H') ∧ ∀ x H', J.yld i H x H' → g x σ H' fun σ2 H2 => tb { D with nx := N, ct := N, bk := D.nx } σ2 H2)
section
variable {σ : L2.St} {H H0 : Hp} {Q : VK} {v x y : V} {ta tb te tl : TE} {t u : TT} {i j : Int} {D : Ends} {ts tz : TS} {g : TG} {K : PySem.W.Frag} {L : List (Addr × HO)} {tr : TA} {wi : TI}
theorem r_for (q : wi σ H fun J H1 => RFor J g ts D σ H1) : tFor wi g ts D σ H := q
theorem r_rng1 {R : It → Hp → Prop} (q : tr σ H fun vs H1 => ∃ j : Int, vs = [.int j] ∧ -(2 ^ 62) ≤ j ∧ j < 2 ^ 62 ∧ R (Itr 0 j.toNat) H1) : iRng1 tr σ H R := q
theorem r_rng2 {R : It → Hp → Prop} (q : tr σ H fun vs H1 => ∃ i j : Int, vs = [.int i, .int j] ∧ (-(2 ^ 62) ≤ i ∧ i < 2 ^ 62 ∧ -(2 ^ 62) ≤ j ∧ j < 2 ^ 62) ∧ R (Itr i (j - i).toNat) H1) : iRng2 tr σ H R := q
theorem r_rng3 {R : It → Hp → Prop} (q : tr σ H fun vs H1 => ∃ (i j c : Int) (n : Nat), vs = [.int i, .int j, .int c] ∧ RgC i j c n ∧ R (Itc i c n) H1) : iRng3 tr σ H R := q
theorem r_iL {R : It → Hp → Prop} (q : tl σ H fun x H1 => ∃ a, x = .ref a ∧ (∃ xs, SqL K H1 a xs) ∧ R (Itl K a) H1) : iList K tl σ H R := q
theorem r_iT {R : It → Hp → Prop} (q : tl σ H fun x H1 => ∃ a, x = .ref a ∧ (∃ xs, SqT K H1 a xs) ∧ R (Itt K a) H1) : iTup K tl σ H R := q
/-- for k in range(j): behind the argument's reading -/
theorem forR1 {n : Nat} {s : Nat} (hn : j = (n : Int)) (hb : j < 2 ^ 62) (Pv : Nat → L2.St → Hp → Prop) (h0 : Pv 0 σ H)
    (hs : ∀ i σ H, i < n → Pv i σ H → ts { D with nx := Pv (i + 1), ct := Pv (i + 1), bk := D.nx } (σ.set s (some (.int (i : Int)))) H) (hd : ∀ σ H, Pv n σ H → D.nx σ H) :
    ∃ k : Int, [V.int j] = [.int k] ∧ -(2 ^ 62) ≤ k ∧ k < 2 ^ 62 ∧ RFor (Itr 0 k.toNat) (gName s) ts D σ H := by
  refine ⟨j, rfl, by omega, hb, ?_⟩
  have e : j.toNat = n := by omega
  rw [e]
  refine for_range (lo := 0) (n := n) Pv h0 (fun i σ H hi p => ?_) hd
  have e0 : (0 : Int) + (i : Int) = (i : Int) := Int.zero_add _
  show gName s (.int ((0 : Int) + (i : Int))) σ H _
  rw [e0]
  exact hs i σ H hi p
/-- for k in range(i, j) -/
theorem forR2 {n s : Nat} (hn : (j - i).toNat = n) (hb : -(2 ^ 62) ≤ i ∧ i < 2 ^ 62 ∧ -(2 ^ 62) ≤ j ∧ j < 2 ^ 62) (Pv : Nat → L2.St → Hp → Prop) (h0 : Pv 0 σ H)
    (hs : ∀ k σ H, k < n → Pv k σ H → ts { D with nx := Pv (k + 1), ct := Pv (k + 1), bk := D.nx } (σ.set s (some (.int (i + (k : Int))))) H) (hd : ∀ σ H, Pv n σ H → D.nx σ H) :
    ∃ i' j' : Int, [V.int i, V.int j] = [.int i', .int j'] ∧ (-(2 ^ 62) ≤ i' ∧ i' < 2 ^ 62 ∧ -(2 ^ 62) ≤ j' ∧ j' < 2 ^ 62) ∧ RFor (Itr i' (j' - i').toNat) (gName s) ts D σ H := by
  refine ⟨i, j, rfl, hb, ?_⟩
  rw [hn]
  exact for_range (lo := i) (n := n) Pv h0 (fun k σ H hi p => hs k σ H hi p) hd
theorem forR3 {c : Int} {n s : Nat} (hc : RgC i j c n) (Pv : Nat → L2.St → Hp → Prop) (h0 : Pv 0 σ H)
    (hs : ∀ k σ H, k < n → Pv k σ H → ts { D with nx := Pv (k + 1), ct := Pv (k + 1), bk := D.nx } (σ.set s (some (.int (i + (k : Nat) * c)))) H) (hd : ∀ σ H, Pv n σ H → D.nx σ H) :
    ∃ (i' j' c' : Int) (n' : Nat), [V.int i, V.int j, V.int c] = [.int i', .int j', .int c'] ∧ RgC i' j' c' n' ∧ RFor (Itc i' c' n') (gName s) ts D σ H :=
  ⟨i, j, c, n, rfl, hc, for_rangeC (lo := i) (c := c) (n := n) Pv h0 (fun k σ H hi p => hs k σ H hi p) hd⟩
/-- for x in l: behind the reading of l -/
theorem forL {a : Addr} {xs : List V} (h : SqL K H a xs) (Pv : Nat → L2.St → Hp → Prop) (h0 : Pv 0 σ H) (hl : ∀ i σ H, i ≤ xs.length → Pv i σ H → SqL K H a xs)
    (hs : ∀ i x σ H, xs[i]? = some x → Pv i σ H → g x σ H fun σ2 H2 => ts { D with nx := Pv (i + 1), ct := Pv (i + 1), bk := D.nx } σ2 H2) (hd : ∀ σ H, Pv xs.length σ H → D.nx σ H) :
    ∃ a', V.ref a = .ref a' ∧ (∃ xs, SqL K H a' xs) ∧ RFor (Itl K a') g ts D σ H := ⟨a, rfl, ⟨xs, h⟩, for_list (K := K) (a := a) (xs := xs) Pv h0 hl hs hd⟩
theorem forT {a : Addr} {xs : List V} (h : SqT K H a xs) (Pv : Nat → L2.St → Hp → Prop) (h0 : Pv 0 σ H) (hl : ∀ i σ H, i ≤ xs.length → Pv i σ H → SqT K H a xs)
    (hs : ∀ i x σ H, xs[i]? = some x → Pv i σ H → g x σ H fun σ2 H2 => ts { D with nx := Pv (i + 1), ct := Pv (i + 1), bk := D.nx } σ2 H2) (hd : ∀ σ H, Pv xs.length σ H → D.nx σ H) :
    ∃ a', V.ref a = .ref a' ∧ (∃ xs, SqT K H a' xs) ∧ RFor (Itt K a') g ts D σ H := ⟨a, rfl, ⟨xs, h⟩, for_tup (K := K) (a := a) (xs := xs) Pv h0 hl hs hd⟩
/-- while -/
def RWh (c : TT) (tb : TS) (D : Ends) (σ : L2.St) (H : Hp) : Prop := tWhile c tb D σ H
theorem whileB {c : TT} (Pv : Nat → L2.St → Hp → Prop) (m : Nat) (h0 : Pv m σ H)
    (hs : ∀ m σ H, Pv m σ H → c σ H fun b H1 => RIf b (∃ N : L2.St → Hp → Prop, (∀ σ' H', N σ' H' → ∃ m', m' < m ∧ Pv m' σ' H') ∧ ts { D with nx := N, ct := N, bk := D.nx } σ H1) (D.nx σ H1)) : tWhile c ts D σ H :=
  ⟨Pv, ⟨m, h0⟩, hs⟩
/-- the body's end in such a loop: a smaller number and the word again -/
theorem wh_turn {Pv : Nat → L2.St → Hp → Prop} {m : Nat} (h : ts { D with nx := fun σ' H' => ∃ m', m' < m ∧ Pv m' σ' H', ct := fun σ' H' => ∃ m', m' < m ∧ Pv m' σ' H', bk := D.nx } σ H) :
    ∃ N : L2.St → Hp → Prop, (∀ σ' H', N σ' H' → ∃ m', m' < m ∧ Pv m' σ' H') ∧ ts { D with nx := N, ct := N, bk := D.nx } σ H := ⟨_, fun _ _ h => h, h⟩

/-! ### comprehensions -/
def RLc (J : It) (g : TG) (tt : TT) (te : TE) (vs : List Nat) (σ : L2.St) (H1 : Hp) (Q : VK) : Prop := ∀ D, H1 D = none → ∃ W : Nat → Nat → Hp → Prop, (∃ m, W 0 m (upd H1 D (.lst []))) ∧ ∀ i m H, W i m H →
  (J.stop i H ∧ Q (.ref D) H) ∨ (J.go i H ∧ ∃ Nx : Hp → Prop, (∀ H', Nx H' → ∃ m', m' < m ∧ W (i + 1) m' H') ∧ ∀ x H', J.yld i H x H' → g x (wipe σ vs) H' fun σ2 H2 => wipe σ2 vs = wipe σ vs ∧ tt σ2 H2 fun b H3 =>
    if b = true then te σ2 H3 fun y H4 => ∃ acc, H4 D = some (.lst acc) ∧ acc.length < sizeLine ∧ Nx (upd H4 D (.lst (acc ++ [y]))) else Nx H3)
theorem r_lc {tt : TT} {vs : List Nat} (q : wi σ H fun J H1 => RLc J g tt te vs σ H1 Q) : tLc wi g tt te vs σ H Q := q
/-- what a turn of a comprehension without an if is to reach -/
theorem lc_turn {H' : Hp} {zs ys : List V} {P : Addr} {k : Nat} {y : V} {σ2 : L2.St} (o : Own H0 H' ((P, .lst (ys.take k)) :: L)) (hy : ys[k]? = some y) (hz : ys.length ≤ 10000000)
    (he : ∀ Q : VK, RetV H' Q y → te σ2 H' Q) :
    tYes σ2 H' fun b H3 => if b = true then te σ2 H3 fun y H4 => ∃ acc, H4 P = some (.lst acc) ∧ acc.length < sizeLine ∧ Own H0 (upd H4 P (.lst (acc ++ [y]))) ((P, .lst (ys.take (k + 1))) :: L) else Own H0 H3 ((P, .lst (ys.take (k + 1))) :: L) := by
  refine iteT (B := Own H0 H' ((P, .lst (ys.take (k + 1))) :: L)) (he _ fun H4 s4 => ?_)
  have o4 := o.mono s4
  have hk := (List.getElem?_eq_some_iff.mp hy).1
  refine ⟨ys.take k, o4.at 0 rfl, sz_lt (by rw [List.length_take]; omega), ?_⟩
  have o5 := o4.set (v := .lst (ys.take k ++ [y])) 0 rfl
  have e : ys.take (k + 1) = ys.take k ++ [y] := by rw [List.take_add_one, hy]; rfl
  rw [e]
  exact o5
/-- [e for x in range(n)], e no new object -/
theorem lcR1 {n s : Nat} {vs : List Nat} (ys : List V) (hy : ys.length = n) (o : Own H0 H L) (hn : j = (n : Int)) (hz : n ≤ 10000000) (hw : ∀ x, wipe ((wipe σ vs).set s (some x)) vs = wipe σ vs)
    (he : ∀ (i : Nat) (y : V) (p : Addr) (zs : List V) (H' : Hp) (Q : VK), i < n → ys[i]? = some y → Own H0 H' ((p, .lst zs) :: L) → RetV H' Q y → te ((wipe σ vs).set s (some (.int (i : Int)))) H' Q)
    (k : ∀ p H', Own H0 H' ((p, .lst ys) :: L) → Q (.ref p) H') :
    ∃ k : Int, [V.int j] = [.int k] ∧ -(2 ^ 62) ≤ k ∧ k < 2 ^ 62 ∧ RLc (Itr 0 k.toNat) (gName s) tYes te vs σ H Q := by
  refine ⟨j, rfl, by omega, by omega, fun P hP => ?_⟩
  have e : j.toNat = n := by omega
  rw [e]
  refine lc_range (lo := 0) (n := n) (fun i H' => Own H0 H' ((P, .lst (ys.take i)) :: L)) (o.new hP) (fun i H' hi p => ?_) (fun H' p => k P H' (by rw [List.take_of_length_le (by omega)] at p; exact p))
  have e0 : (0 : Int) + (i : Int) = (i : Int) := Int.zero_add _
  rw [e0]
  have hlt : i < ys.length := by omega
  refine ⟨hw _, ?_⟩
  exact lc_turn (zs := []) p (List.getElem?_eq_getElem hlt) (by omega) fun Q q => he i _ P _ H' Q hi (List.getElem?_eq_getElem hlt) p q
/-- [e for x in xs], e no new object -/
theorem lcL {a : Addr} {xs : List V} {s : Nat} {vs : List Nat} (ys : List V) (hy : ys.length = xs.length) (o : Own H0 H L) (h : ∀ H' p zs, Own H0 H' ((p, .lst zs) :: L) → SqL K H' a xs) (h1 : SqL K H a xs) (hz : xs.length ≤ 10000000) (hw : ∀ x, wipe ((wipe σ vs).set s (some x)) vs = wipe σ vs)
    (he : ∀ (i : Nat) (x y : V) (p : Addr) (zs : List V) (H' : Hp) (Q : VK), xs[i]? = some x → ys[i]? = some y → Own H0 H' ((p, .lst zs) :: L) → RetV H' Q y → te ((wipe σ vs).set s (some x)) H' Q)
    (k : ∀ p H', Own H0 H' ((p, .lst ys) :: L) → Q (.ref p) H') :
    ∃ a', V.ref a = .ref a' ∧ (∃ xs, SqL K H a' xs) ∧ RLc (Itl K a') (gName s) tYes te vs σ H Q := by
  refine ⟨a, rfl, ⟨xs, h1⟩, fun P hP => ?_⟩
  refine lc_list (K := K) (a := a) (xs := xs) (fun i H' => Own H0 H' ((P, .lst (ys.take i)) :: L)) (o.new hP) (fun i H' _ p => h H' _ _ p) (fun i x H' hi p => ?_) (fun H' p => k P H' (by rw [List.take_of_length_le (by omega)] at p; exact p))
  have hlt : i < ys.length := by have := (List.getElem?_eq_some_iff.mp hi).1; omega
  refine ⟨hw _, ?_⟩
  exact lc_turn (zs := []) p (List.getElem?_eq_getElem hlt) (by omega) fun Q q => he i x _ P _ H' Q hi (List.getElem?_eq_getElem hlt) p q
end
/-! ### comprehensions of ints -/
def mapR (n : Nat) (f : Nat → Int) : List Int := (List.range n).map f
theorem mapR_len (n : Nat) (f : Nat → Int) : (mapR n f).length = n := by unfold mapR; rw [List.length_map, List.length_range]
theorem mapR_mem {n : Nat} {f : Nat → Int} {x : Int} (h : x ∈ mapR n f) : ∃ k, k < n ∧ x = f k := by
  obtain ⟨k, hk, e⟩ := List.mem_map.mp h
  exact ⟨k, List.mem_range.mp hk, e.symm⟩
theorem mapR_get {n k : Nat} {f : Nat → Int} (h : k < n) : (mapR n f)[k]? = some (f k) := by
  unfold mapR
  rw [List.getElem?_map, List.getElem?_range h]
  rfl
theorem mapR_ext {n : Nat} {f g : Nat → Int} (h : ∀ k, k < n → f k = g k) : mapR n f = mapR n g := by
  unfold mapR
  exact List.map_congr_left fun k hk => h k (List.mem_range.mp hk)
theorem RetV.here {H : Hp} {Q : VK} {v : V} (q : RetV H Q v) : Q v H := q H (Same.refl H)
section
variable {σ : L2.St} {H H0 : Hp} {Q : VK} {te : TE} {j : Int} {K : PySem.W.Frag} {L : List (Addr × HO)}
theorem lcR1I {n s : Nat} {vs : List Nat} (f : Nat → Int) (o : Own H0 H L) (hn : j = (n : Int)) (hz : n ≤ 10000000) (hw : ∀ x, wipe ((wipe σ vs).set s (some x)) vs = wipe σ vs)
    (he : ∀ (i : Nat) (p : Addr) (zs : List V) (H' : Hp) (Q : VK), i < n → Own H0 H' ((p, .lst zs) :: L) → RetV H' Q (.int (f i)) → te ((wipe σ vs).set s (some (.int (i : Int)))) H' Q)
    (k : ∀ p H', Own H0 H' ((p, .lst ((mapR n f).map V.int)) :: L) → Q (.ref p) H') :
    ∃ k : Int, [V.int j] = [.int k] ∧ -(2 ^ 62) ≤ k ∧ k < 2 ^ 62 ∧ RLc (Itr 0 k.toNat) (gName s) tYes te vs σ H Q := by
  refine lcR1 ((mapR n f).map V.int) (by rw [List.length_map, mapR_len]) o hn hz hw (fun i y p zs H' Q hi hy o' q => ?_) k
  rw [List.getElem?_map, mapR_get hi] at hy
  cases hy
  exact he i p zs H' Q hi o' q
theorem lcLI {a : Addr} {ns : List Int} {s : Nat} {vs : List Nat} (f : Int → Int) (o : Own H0 H L) (h : ∀ H' p zs, Own H0 H' ((p, .lst zs) :: L) → SqL K H' a (ns.map V.int)) (h1 : SqL K H a (ns.map V.int)) (hz : ns.length ≤ 10000000) (hw : ∀ x, wipe ((wipe σ vs).set s (some x)) vs = wipe σ vs)
    (he : ∀ (i : Nat) (x : Int) (p : Addr) (zs : List V) (H' : Hp) (Q : VK), x ∈ ns → Own H0 H' ((p, .lst zs) :: L) → RetV H' Q (.int (f x)) → te ((wipe σ vs).set s (some (.int x))) H' Q)
    (k : ∀ p H', Own H0 H' ((p, .lst ((ns.map f).map V.int)) :: L) → Q (.ref p) H') :
    ∃ a', V.ref a = .ref a' ∧ (∃ xs, SqL K H a' xs) ∧ RLc (Itl K a') (gName s) tYes te vs σ H Q := by
  refine lcL ((ns.map f).map V.int) (by rw [List.length_map, List.length_map, List.length_map]) o h h1 (by rw [List.length_map]; exact hz) hw (fun i x y p zs H' Q hx hy o' q => ?_) k
  rw [List.getElem?_map] at hx
  rw [List.getElem?_map, List.getElem?_map] at hy
  cases e : ns[i]? with
  | none => rw [e] at hx; cases hx
  | some z =>
    rw [e] at hx hy
    cases hx
    cases hy
    exact he i z p zs H' Q (List.mem_of_getElem? e) o' q
end
section
variable {H0 H : Hp} {L : List (Addr × HO)} {x y z u v : Addr × HO}
theorem Own.pick1 (o : Own H0 H L) (i : Nat) (hi : L[i]? = some x) : Own H0 H [x] := ⟨o.ex, fun q hq => by rw [List.mem_singleton.mp hq]; exact o.fr _ (List.mem_of_getElem? hi), by simp⟩
theorem Own.cons_of (o : Own H0 H L) {L' : List (Addr × HO)} (o' : Own H0 H L') (hx : x ∈ L) (hn : ∀ q ∈ L', q.1 ≠ x.1) : Own H0 H (x :: L') :=
  ⟨o.ex, fun q hq => by
    rcases List.mem_cons.mp hq with rfl | hq
    · exact o.fr _ hx
    · exact o'.fr _ hq, by
    rw [List.map_cons, List.nodup_cons]
    refine ⟨fun hm => ?_, o'.nd⟩
    obtain ⟨q, hq, e⟩ := List.mem_map.mp hm
    exact hn q hq e⟩
theorem Own.nei (o : Own H0 H L) {i j : Nat} (hi : L[i]? = some x) (hj : L[j]? = some y) (h : i ≠ j) : x.1 ≠ y.1 := fun e => h (nodup_fst (l := x.1) (u := x.2) (v := y.2) o.nd hi (by rw [hj, e]))
theorem Own.pick2 (o : Own H0 H L) (i j : Nat) (hij : i ≠ j) (hi : L[i]? = some x) (hj : L[j]? = some y) : Own H0 H [x, y] :=
  o.cons_of (o.pick1 j hj) (List.mem_of_getElem? hi) fun q hq => by rw [List.mem_singleton.mp hq]; exact (o.nei hi hj hij).symm
theorem Own.pick3 (o : Own H0 H L) (i j k : Nat) (h : i ≠ j ∧ i ≠ k ∧ j ≠ k) (hi : L[i]? = some x) (hj : L[j]? = some y) (hk : L[k]? = some z) : Own H0 H [x, y, z] :=
  o.cons_of (o.pick2 j k h.2.2 hj hk) (List.mem_of_getElem? hi) fun q hq => by
    rcases List.mem_cons.mp hq with rfl | hq
    · exact (o.nei hi hj h.1).symm
    · rw [List.mem_singleton.mp hq]; exact (o.nei hi hk h.2.1).symm
theorem Own.pick4 (o : Own H0 H L) (i j k l : Nat) (h : i ≠ j ∧ i ≠ k ∧ i ≠ l ∧ j ≠ k ∧ j ≠ l ∧ k ≠ l) (hi : L[i]? = some x) (hj : L[j]? = some y) (hk : L[k]? = some z) (hl : L[l]? = some u) : Own H0 H [x, y, z, u] :=
  o.cons_of (o.pick3 j k l h.2.2.2 hj hk hl) (List.mem_of_getElem? hi) fun q hq => by
    rcases List.mem_cons.mp hq with rfl | hq
    · exact (o.nei hi hj h.1).symm
    · rcases List.mem_cons.mp hq with rfl | hq
      · exact (o.nei hi hk h.2.1).symm
      · rw [List.mem_singleton.mp hq]; exact (o.nei hi hl h.2.2.1).symm
end

/-! ### tuples stand -/
def Stp (H H' : Hp) : Prop := ∀ a xs, Rd H a (.tup xs) → Rd H' a (.tup xs)
theorem Stp.refl (H : Hp) : Stp H H := fun _ _ h => h
theorem Stp.trans {H H1 H2 : Hp} (a : Stp H H1) (b : Stp H1 H2) : Stp H H2 := fun x xs h => b x xs (a x xs h)
theorem Stp.of {H H' : Hp} (e : Same H H') : Stp H H' := fun a xs h => by
  rcases h with h | ⟨o, h⟩
  · exact .inl (e _ _ h)
  · exact .inr ⟨o, e _ _ h⟩
theorem Stp.set {H : Hp} {l : Addr} {xs : List V} {u : HO} (h : H l = some (.lst xs)) : Stp H (upd H l u) := fun a ys r => by
  have hne : a ≠ l := by
    rintro rfl
    rcases r with r | ⟨o, r⟩ <;> rw [h] at r <;> cases r
  rcases r with r | ⟨o, r⟩
  · exact .inl (by rw [upd_ne hne]; exact r)
  · exact .inr ⟨o, by rw [upd_ne hne]; exact r⟩
theorem Stp.sq {K : PySem.W.Frag} {H H' : Hp} {a : Addr} {xs : List V} (e : Stp H H') (h : SqT K H a xs) : SqT K H' a xs := by
  rcases h with h | h
  · exact .inl (e _ _ h)
  · exact .inr h
/-! ### comprehensions with a test -/
theorem lc_turnF {H0 H H' : Hp} {L : List (Addr × HO)} {te : TE} {tt : TT} {zs : List V} {P : Addr} {o1 : Option V} {σ2 : L2.St} (o : Own H0 H' ((P, .lst zs) :: L)) (s : Stp H H') (hz : zs.length < 10000000)
    (ht : ∀ Q : Bool → Hp → Prop, (∀ H2, Same H' H2 → Q o1.isSome H2) → tt σ2 H' Q) (he : ∀ y H2, o1 = some y → Same H' H2 → ∀ Q : VK, RetV H2 Q y → te σ2 H2 Q) :
    tt σ2 H' fun b H3 => if b = true then te σ2 H3 fun y H4 => ∃ acc, H4 P = some (.lst acc) ∧ acc.length < sizeLine ∧ (Own H0 (upd H4 P (.lst (acc ++ [y]))) ((P, .lst (zs ++ o1.toList)) :: L) ∧ Stp H (upd H4 P (.lst (acc ++ [y])))) else (Own H0 H3 ((P, .lst (zs ++ o1.toList)) :: L) ∧ Stp H H3) := by
  refine ht _ fun H2 s2 => ?_
  have o2 := o.mono s2
  cases e : o1 with
  | none =>
    show Own H0 H2 ((P, .lst (zs ++ [])) :: L) ∧ Stp H H2
    rw [List.append_nil]
    exact ⟨o2, s.trans (.of s2)⟩
  | some y =>
    refine iteT (B := Own H0 H2 ((P, .lst (zs ++ [y])) :: L) ∧ Stp H H2) (he y H2 e s2 _ fun H4 s4 => ?_)
    have o4 := o2.mono s4
    exact ⟨zs, o4.at 0 rfl, sz_lt hz, o4.set (v := .lst (zs ++ [y])) 0 rfl, (s.trans ((Stp.of s2).trans (.of s4))).trans (Stp.set (o4.at 0 rfl))⟩
theorem fm_take {α β : Type} {xs : List α} {sel : α → Option β} {i : Nat} {x : α} (h : xs[i]? = some x) : (xs.take (i + 1)).filterMap sel = (xs.take i).filterMap sel ++ (sel x).toList := by
  rw [List.take_add_one, h, List.filterMap_append]
  congr 1
theorem fm_le {α β : Type} (xs : List α) (sel : α → Option β) : (xs.filterMap sel).length ≤ xs.length := List.length_filterMap_le sel xs
section
variable {σ : L2.St} {H H0 : Hp} {Q : VK} {te : TE} {tt : TT} {j : Int} {K : PySem.W.Frag} {L : List (Addr × HO)}
/-- [e for x in xs if t], what it gives by the item alone -/
theorem lcGL {a : Addr} {xs : List V} {g : TG} {vs : List Nat} (sel : V → Option V) (o : Own H0 H L) (h : ∀ H' p zs, Own H0 H' ((p, .lst zs) :: L) → SqL K H' a xs) (h1 : SqL K H a xs) (hz : xs.length < 10000000)
    (he : ∀ (i : Nat) (x : V) (p : Addr) (zs : List V) (H' : Hp) (R : L2.St → Hp → Prop), xs[i]? = some x → Own H0 H' ((p, .lst zs) :: L) → Stp H H' →
      (∀ σ2, (∀ H2, Same H' H2 → wipe σ2 vs = wipe σ vs) → (∀ Q : Bool → Hp → Prop, (∀ H2, Same H' H2 → Q (sel x).isSome H2) → tt σ2 H' Q) → (∀ y H2, sel x = some y → Same H' H2 → ∀ Q : VK, RetV H2 Q y → te σ2 H2 Q) → R σ2 H') → g x (wipe σ vs) H' R)
    (k : ∀ p H', Stp H H' → Own H0 H' ((p, .lst (xs.filterMap sel)) :: L) → Q (.ref p) H') :
    ∃ a', V.ref a = .ref a' ∧ (∃ xs, SqL K H a' xs) ∧ RLc (Itl K a') g tt te vs σ H Q := by
  refine ⟨a, rfl, ⟨xs, h1⟩, fun P hP => ?_⟩
  refine lc_list (K := K) (a := a) (xs := xs) (fun i H' => Own H0 H' ((P, .lst ((xs.take i).filterMap sel)) :: L) ∧ Stp H H') ⟨o.new hP, .of (same_new hP)⟩ (fun i H' _ p => h H' _ _ p.1) (fun i x H' hi p => ?_) (fun H' p => k P H' p.2 (by have p := p.1; rw [List.take_of_length_le (Nat.le_refl _)] at p; exact p))
  refine he i x P _ H' _ hi p.1 p.2 fun σ2 hw ht hv => ⟨hw H' (Same.refl _), ?_⟩
  rw [fm_take hi]
  refine lc_turnF p.1 p.2 ?_ ht hv
  have h2 := fm_le (xs.take i) sel
  rw [List.length_take] at h2
  omega
theorem lcGT {a : Addr} {xs : List V} {g : TG} {vs : List Nat} (sel : V → Option V) (o : Own H0 H L) (h : ∀ H' p zs, Own H0 H' ((p, .lst zs) :: L) → SqT K H' a xs) (h1 : SqT K H a xs) (hz : xs.length < 10000000)
    (he : ∀ (i : Nat) (x : V) (p : Addr) (zs : List V) (H' : Hp) (R : L2.St → Hp → Prop), xs[i]? = some x → Own H0 H' ((p, .lst zs) :: L) → Stp H H' →
      (∀ σ2, (∀ H2, Same H' H2 → wipe σ2 vs = wipe σ vs) → (∀ Q : Bool → Hp → Prop, (∀ H2, Same H' H2 → Q (sel x).isSome H2) → tt σ2 H' Q) → (∀ y H2, sel x = some y → Same H' H2 → ∀ Q : VK, RetV H2 Q y → te σ2 H2 Q) → R σ2 H') → g x (wipe σ vs) H' R)
    (k : ∀ p H', Stp H H' → Own H0 H' ((p, .lst (xs.filterMap sel)) :: L) → Q (.ref p) H') :
    ∃ a', V.ref a = .ref a' ∧ (∃ xs, SqT K H a' xs) ∧ RLc (Itt K a') g tt te vs σ H Q := by
  refine ⟨a, rfl, ⟨xs, h1⟩, fun P hP => ?_⟩
  refine lc_tup (K := K) (a := a) (xs := xs) (fun i H' => Own H0 H' ((P, .lst ((xs.take i).filterMap sel)) :: L) ∧ Stp H H') ⟨o.new hP, .of (same_new hP)⟩ (fun i H' _ p => h H' _ _ p.1) (fun i x H' hi p => ?_) (fun H' p => k P H' p.2 (by have p := p.1; rw [List.take_of_length_le (Nat.le_refl _)] at p; exact p))
  refine he i x P _ H' _ hi p.1 p.2 fun σ2 hw ht hv => ⟨hw H' (Same.refl _), ?_⟩
  rw [fm_take hi]
  refine lc_turnF p.1 p.2 ?_ ht hv
  have h2 := fm_le (xs.take i) sel
  rw [List.length_take] at h2
  omega
/-- .. over range(n) -/
theorem lcGR {n s : Nat} {vs : List Nat} (sel : Nat → Option V) (o : Own H0 H L) (hn : j = (n : Int)) (hz : n < 10000000) (hw : ∀ x, wipe ((wipe σ vs).set s (some x)) vs = wipe σ vs)
    (ht : ∀ (i : Nat) (p : Addr) (zs : List V) (H' : Hp) (Q : Bool → Hp → Prop), i < n → Own H0 H' ((p, .lst zs) :: L) → Stp H H' → (∀ H2, Same H' H2 → Q (sel i).isSome H2) → tt ((wipe σ vs).set s (some (.int (i : Int)))) H' Q)
    (he : ∀ (i : Nat) (y : V) (p : Addr) (zs : List V) (H' : Hp) (Q : VK), i < n → sel i = some y → Own H0 H' ((p, .lst zs) :: L) → Stp H H' → RetV H' Q y → te ((wipe σ vs).set s (some (.int (i : Int)))) H' Q)
    (k : ∀ p H', Stp H H' → Own H0 H' ((p, .lst ((List.range n).filterMap sel)) :: L) → Q (.ref p) H') :
    ∃ k : Int, [V.int j] = [.int k] ∧ -(2 ^ 62) ≤ k ∧ k < 2 ^ 62 ∧ RLc (Itr 0 k.toNat) (gName s) tt te vs σ H Q := by
  refine ⟨j, rfl, by omega, by omega, fun P hP => ?_⟩
  have e : j.toNat = n := by omega
  rw [e]
  refine lc_range (lo := 0) (n := n) (fun i H' => Own H0 H' ((P, .lst ((List.range i).filterMap sel)) :: L) ∧ Stp H H') ⟨o.new hP, .of (same_new hP)⟩ (fun i H' hi p => ?_) (fun H' p => k P H' p.2 p.1)
  have e0 : (0 : Int) + (i : Int) = (i : Int) := Int.zero_add _
  rw [e0]
  refine ⟨hw _, ?_⟩
  have e1 : (List.range (i + 1)).filterMap sel = (List.range i).filterMap sel ++ (sel i).toList := by
    rw [List.range_succ, List.filterMap_append]
    congr 1
  rw [e1]
  refine lc_turnF p.1 p.2 ?_ (fun Q q => ht i P _ H' Q hi p.1 p.2 q) (fun y H2 hy s2 Q q => he i y P _ H2 Q hi hy (p.1.mono s2) (p.2.trans (.of s2)) q)
  have h2 := fm_le (List.range i) sel
  rw [List.length_range] at h2
  omega
end
/-- ints chosen and mapped -/
def selI (p : Int → Bool) (f : Int → V) : V → Option V
  | .int x => if p x then some (f x) else none
  | _ => none
theorem fm_ints (p : Int → Bool) (f : Int → V) : ∀ ns : List Int, (ns.map V.int).filterMap (selI p f) = (ns.filter p).map f
  | [] => rfl
  | n :: ns => by
    show List.filterMap (selI p f) (V.int n :: ns.map V.int) = _
    have e : selI p f (V.int n) = if p n then some (f n) else none := rfl
    rw [List.filterMap_cons, List.filter_cons, fm_ints p f ns, e]
    cases p n <;> rfl
section
variable {σ : L2.St} {H H0 : Hp} {Q : VK} {te : TE} {tt : TT} {K : PySem.W.Frag} {L : List (Addr × HO)}
theorem lcLIF {a : Addr} {ns : List Int} {s : Nat} {vs : List Nat} (p : Int → Bool) (f : Int → V) (o : Own H0 H L) (h : ∀ H' p zs, Own H0 H' ((p, .lst zs) :: L) → SqL K H' a (ns.map V.int)) (h1 : SqL K H a (ns.map V.int)) (hz : ns.length < 10000000) (hw : ∀ x, wipe ((wipe σ vs).set s (some x)) vs = wipe σ vs)
    (ht : ∀ (x : Int) (q : Addr) (zs : List V) (H' : Hp) (Q : Bool → Hp → Prop), x ∈ ns → Own H0 H' ((q, .lst zs) :: L) → (∀ H2, Same H' H2 → Q (p x) H2) → tt ((wipe σ vs).set s (some (.int x))) H' Q)
    (he : ∀ (x : Int) (q : Addr) (zs : List V) (H' : Hp) (Q : VK), x ∈ ns → p x = true → Own H0 H' ((q, .lst zs) :: L) → RetV H' Q (f x) → te ((wipe σ vs).set s (some (.int x))) H' Q)
    (k : ∀ q H', Own H0 H' ((q, .lst ((ns.filter p).map f)) :: L) → Q (.ref q) H') :
    ∃ a', V.ref a = .ref a' ∧ (∃ xs, SqL K H a' xs) ∧ RLc (Itl K a') (gName s) tt te vs σ H Q := by
  refine lcGL (selI p f) o h h1 (by rw [List.length_map]; exact hz) (fun i v q zs H' R hi o' _ r => ?_) (fun q H' _ o' => k q H' (by rw [fm_ints] at o'; exact o'))
  rw [List.getElem?_map] at hi
  cases e : ns[i]? with
  | none => rw [e] at hi; cases hi
  | some x =>
    rw [e] at hi
    cases hi
    have hx := List.mem_of_getElem? e
    refine r _ (fun _ _ => hw _) (fun Q qq => ht x q zs H' Q hx o' fun H2 s2 => ?_) fun y H2 hy s2 Q qq => ?_
    · have z := qq H2 s2
      have e2 : (selI p f (V.int x)).isSome = p x := by show (if p x then some (f x) else none).isSome = p x; cases p x <;> rfl
      rw [e2] at z
      exact z
    · have hy2 : (if p x then some (f x) else none) = some y := hy
      cases hp : p x with
      | false => rw [hp] at hy2; cases hy2
      | true =>
        rw [hp] at hy2
        cases hy2
        exact he x q zs H2 Q hx hp (o'.mono s2) qq
theorem lcTIF {a : Addr} {ns : List Int} {s : Nat} {vs : List Nat} (p : Int → Bool) (f : Int → V) (o : Own H0 H L) (h : ∀ H' p zs, Own H0 H' ((p, .lst zs) :: L) → SqT K H' a (ns.map V.int)) (h1 : SqT K H a (ns.map V.int)) (hz : ns.length < 10000000) (hw : ∀ x, wipe ((wipe σ vs).set s (some x)) vs = wipe σ vs)
    (ht : ∀ (x : Int) (q : Addr) (zs : List V) (H' : Hp) (Q : Bool → Hp → Prop), x ∈ ns → Own H0 H' ((q, .lst zs) :: L) → (∀ H2, Same H' H2 → Q (p x) H2) → tt ((wipe σ vs).set s (some (.int x))) H' Q)
    (he : ∀ (x : Int) (q : Addr) (zs : List V) (H' : Hp) (Q : VK), x ∈ ns → p x = true → Own H0 H' ((q, .lst zs) :: L) → RetV H' Q (f x) → te ((wipe σ vs).set s (some (.int x))) H' Q)
    (k : ∀ q H', Own H0 H' ((q, .lst ((ns.filter p).map f)) :: L) → Q (.ref q) H') :
    ∃ a', V.ref a = .ref a' ∧ (∃ xs, SqT K H a' xs) ∧ RLc (Itt K a') (gName s) tt te vs σ H Q := by
  refine lcGT (selI p f) o h h1 (by rw [List.length_map]; exact hz) (fun i v q zs H' R hi o' _ r => ?_) (fun q H' _ o' => k q H' (by rw [fm_ints] at o'; exact o'))
  rw [List.getElem?_map] at hi
  cases e : ns[i]? with
  | none => rw [e] at hi; cases hi
  | some x =>
    rw [e] at hi
    cases hi
    have hx := List.mem_of_getElem? e
    refine r _ (fun _ _ => hw _) (fun Q qq => ht x q zs H' Q hx o' fun H2 s2 => ?_) fun y H2 hy s2 Q qq => ?_
    · have z := qq H2 s2
      have e2 : (selI p f (V.int x)).isSome = p x := by show (if p x then some (f x) else none).isSome = p x; cases p x <;> rfl
      rw [e2] at z
      exact z
    · have hy2 : (if p x then some (f x) else none) = some y := hy
      cases hp : p x with
      | false => rw [hp] at hy2; cases hy2
      | true =>
        rw [hp] at hy2
        cases hy2
        exact he x q zs H2 Q hx hp (o'.mono s2) qq
/-- without a test -/
theorem lcTIV {a : Addr} {ns : List Int} {s : Nat} {vs : List Nat} (f : Int → V) (o : Own H0 H L) (h : ∀ H' p zs, Own H0 H' ((p, .lst zs) :: L) → SqT K H' a (ns.map V.int)) (h1 : SqT K H a (ns.map V.int)) (hz : ns.length < 10000000) (hw : ∀ x, wipe ((wipe σ vs).set s (some x)) vs = wipe σ vs)
    (he : ∀ (x : Int) (q : Addr) (zs : List V) (H' : Hp) (Q : VK), x ∈ ns → Own H0 H' ((q, .lst zs) :: L) → RetV H' Q (f x) → te ((wipe σ vs).set s (some (.int x))) H' Q)
    (k : ∀ q H', Own H0 H' ((q, .lst (ns.map f)) :: L) → Q (.ref q) H') :
    ∃ a', V.ref a = .ref a' ∧ (∃ xs, SqT K H a' xs) ∧ RLc (Itt K a') (gName s) tYes te vs σ H Q :=
  lcTIF (fun _ => true) f o h h1 hz hw (fun x q zs H' Q _ _ r => r H' (Same.refl _)) (fun x q zs H' Q hx _ o' r => he x q zs H' Q hx o' r) (fun q H' o' => k q H' (by rw [List.filter_eq_self.mpr (fun _ _ => rfl)] at o'; exact o'))
end

/-! ### constants reckoned, chains, all, any, bools -/
theorem pe_powC {X : Cx} {a b c : Int} {j1 j2 : Nat} {p1 p2 pos : Pos} (hc : CPow a b) (h : a ^ b.toNat = c) : PE X (.BinOp (.Constant (.int a) j1 p1) .Pow (.Constant (.int b) j2 p2) pos) (tC (.int c)) :=
  ⟨fun pins s σ H Q I h0 => (pe_op op_pow pe_int pe_int).run pins s σ H Q I (show rI CPow (fun i j => .int (i ^ j.toNat)) (.int a) (.int b) H Q from ⟨a, b, rfl, rfl, hc, by show Q (.int (a ^ b.toNat)) H; rw [h]; exact h0⟩)⟩
section
variable {σ : L2.St} {H : Hp} {Q : VK} {ta tb tc : TE} {K : PySem.W.Frag} {i j k : Int}
theorem r_chain {r r' : R2} (q : ta σ H fun x H1 => tb σ H1 fun y H2 => r x y H2 fun z H3 => RBl z H3 fun k H3 => RIf k (tc σ H3 fun w' H4 => r' y w' H4 Q) (Q (.bl false) H3)) : tChain r r' ta tb tc σ H Q := q
theorem r_all {a : Addr} {bs : List Bool} (h : SqL K H a (bs.map V.bl)) (q : Q (.bl (bs.all id)) H) : rAll K [.ref a] H Q := ⟨a, bs, rfl, h, q⟩
theorem r_any {a : Addr} {bs : List Bool} (h : SqL K H a (bs.map V.bl)) (q : Q (.bl (bs.any id)) H) : rAny K [.ref a] H Q := ⟨a, bs, rfl, h, q⟩
theorem r_isB {a b : Bool} (q : Q (.bl (decide (a = b))) H) : rIsB (.bl a) (.bl b) H Q := ⟨a, b, rfl, rfl, q⟩
end

/-! ### items from the end -/
theorem at_neg {ns : List Int} {d : Nat} (h0 : 0 < d) (h1 : d ≤ ns.length) : atI (ns.map V.int) (-(d : Int)) = some (.int (gi ns ((ns.length : Int) - (d : Int)))) := by
  unfold atI ixN
  rw [List.length_map, if_neg (by omega), if_pos (by omega)]
  show (ns.map V.int)[(-(d : Int) + (ns.length : Int)).toNat]? = _
  rw [show (-(d : Int) + (ns.length : Int)).toNat = ns.length - d by omega, List.getElem?_map, List.getElem?_eq_getElem (show ns.length - d < ns.length by omega)]
  unfold gi
  rw [show ((ns.length : Int) - (d : Int)).toNat = ns.length - d by omega, List.getD_eq_getElem?_getD, List.getElem?_eq_getElem (show ns.length - d < ns.length by omega)]
  rfl
theorem ix_neg {n d : Nat} (h0 : 0 < d) (h1 : d ≤ n) : ixN n (-(d : Int)) = some (n - d) := by
  unfold ixN
  rw [if_neg (by omega), if_pos (by omega)]
  congr 1
  omega
theorem fm_filter {α β : Type} (p : α → Bool) (f : α → β) : ∀ l : List α, l.filterMap (fun k => if p k then some (f k) else none) = (l.filter p).map f
  | [] => rfl
  | x :: l => by
    rw [List.filterMap_cons, List.filter_cons, fm_filter p f l]
    cases p x <;> rfl
/-! ### lists of ints cut and glued -/
theorem gi_nat {ns : List Int} {k : Nat} (h : k < ns.length) : gi ns (k : Int) = ns[k] := by
  unfold gi
  rw [List.getD_eq_getElem?_getD, show ((k : Int)).toNat = k from rfl, List.getElem?_eq_getElem h]
  rfl
theorem take_drop_sum {ns : List Int} {k : Nat} {z : Int} (h : k < ns.length) : (ns.take k ++ [z] ++ ns.drop (k + 1)).sum = ns.sum - gi ns k + z := by
  have e : ns.sum = (ns.take k ++ [ns[k]] ++ ns.drop (k + 1)).sum := by
    congr 1
    rw [List.append_assoc, List.singleton_append, List.getElem_cons_drop, List.take_append_drop]
  rw [e, gi_nat h]
  simp only [List.sum_append, List.sum_cons, List.sum_nil]
  omega
theorem map_cut3 {ns : List Int} {k : Nat} {z : Int} : ((ns.map V.int).take k ++ [V.int z]) ++ (ns.map V.int).drop (k + 1) = (ns.take k ++ [z] ++ ns.drop (k + 1)).map V.int := by
  rw [List.map_append, List.map_append, List.map_take, List.map_drop]
  rfl
theorem len_cut3 {ns : List Int} {k : Nat} {z : Int} (h : k < ns.length) : (ns.take k ++ [z] ++ ns.drop (k + 1)).length = ns.length := by
  rw [List.length_append, List.length_append, List.length_take, List.length_drop]
  simp
  omega

/-! ### a value or an answer known by a word only -/
def tCutE (t : TE) : TE := fun σ H Q => ∃ R : VK, t σ H R ∧ ∀ v H', R v H' → Q v H'
def tCutT (t : TT) : TT := fun σ H Q => ∃ R : Bool → Hp → Prop, t σ H R ∧ ∀ b H', R b H' → Q b H'
theorem pe_cutE {X : Cx} {e : Expr} {t : TE} (he : PE X e t) : PE X e (tCutE t) := ⟨fun pins s σ H Q I ⟨R, h, k⟩ => thn (he.run pins s σ H R I h) fun _ _ ⟨v, H', I', r, q⟩ => ⟨v, H', I', r, k v H' q⟩⟩
theorem pt_cutT {X : Cx} {e : Expr} {t : TT} (he : PT X e t) : PT X e (tCutT t) := ⟨fun pins s σ H Q I ⟨R, h, k⟩ => thn (he.run pins s σ H R I h) fun b _ ⟨H', I', q⟩ => ⟨H', I', k b H' q⟩⟩
theorem r_cutE {σ : L2.St} {H : Hp} {Q : VK} {t : TE} (R : VK) (h : t σ H R) (k : ∀ v H', R v H' → Q v H') : tCutE t σ H Q := ⟨R, h, k⟩
theorem r_cutT {σ : L2.St} {H : Hp} {Q : Bool → Hp → Prop} {t : TT} (R : Bool → Hp → Prop) (h : t σ H R) (k : ∀ b H', R b H' → Q b H') : tCutT t σ H Q := ⟨R, h, k⟩
/-- the value is an int of which P holds; the heap stands -/
def IntR (H : Hp) (P : Int → Prop) : VK := fun v H' => H' = H ∧ ∃ m, v = .int m ∧ P m
theorem r_cutI {σ : L2.St} {H : Hp} {Q : VK} {t : TE} (P : Int → Prop) (h : t σ H (IntR H P)) (k : ∀ m, P m → Q (.int m) H) : tCutE t σ H Q := ⟨_, h, fun v H' ⟨e, m, e2, p⟩ => by subst e; subst e2; exact k m p⟩
/-- the answer is that of p; the heap stands -/
theorem r_cutB {σ : L2.St} {H : Hp} {Q : Bool → Hp → Prop} {t : TT} (c : Bool) (h : t σ H fun b H' => b = c ∧ H' = H) (k : Q c H) : tCutT t σ H Q := ⟨_, h, fun v H' ⟨e, e2⟩ => by subst e; subst e2; exact k⟩
/-- the value is v; the heap may have grown -/
theorem r_cutO {H0 : Hp} {σ : L2.St} {H : Hp} {Q : VK} {t : TE} (v : V) (L : List (Addr × HO)) (h : t σ H fun v' H' => v' = v ∧ Own H0 H' L) (k : ∀ H', Own H0 H' L → Q v H') : tCutE t σ H Q := ⟨_, h, fun v' H' ⟨e, o⟩ => by subst e; exact k H' o⟩
theorem rif_p {p : Prop} [Decidable p] {A B : Prop} (h1 : p → A) (h2 : ¬ p → B) : RIf (decide p) A B := rif h1 h2

/-! ### data of tuples: it stands while lists change -/
mutual
inductive Tp (K : PySem.W.Frag) (H : Hp) : V → PyData → Prop
  | non : Tp K H .non .none
  | bl (b : Bool) : Tp K H (.bl b) (.bool b)
  | int (i : Int) : Tp K H (.int i) (.int i)
  | str (x : Str) : Tp K H (.str x) (.str x)
  | tup {a : Addr} {xs : List V} {ds : List PyData} : SqT K H a xs → TpAll K H xs ds → Tp K H (.ref a) (.tuple ds)
inductive TpAll (K : PySem.W.Frag) (H : Hp) : List V → List PyData → Prop
  | nil : TpAll K H [] []
  | cons {v : V} {vs : List V} {d : PyData} {ds : List PyData} : Tp K H v d → TpAll K H vs ds → TpAll K H (v :: vs) (d :: ds)
end
section
variable {K : PySem.W.Frag} {H H' H0 : Hp} {Q : VK} {L : List (Addr × HO)}
mutual
theorem Tp.stp (e : Stp H H') : ∀ (d : PyData) (v : V), Tp K H v d → Tp K H' v d
  | .none, _, h => by cases h; exact .non
  | .bool b, _, h => by cases h; exact .bl b
  | .int i, _, h => by cases h; exact .int i
  | .str x, _, h => by cases h; exact .str x
  | .tuple ds, _, h => by
    cases h with
    | tup hs ha => exact .tup (e.sq hs) (TpAll.stp e ds _ ha)
  | .list _, _, h => by cases h
  | .dict _, _, h => by cases h
theorem TpAll.stp (e : Stp H H') : ∀ (ds : List PyData) (vs : List V), TpAll K H vs ds → TpAll K H' vs ds
  | [], _, h => by cases h; exact .nil
  | d :: ds, _, h => by
    cases h with
    | cons h1 h2 => exact .cons (Tp.stp e d _ h1) (TpAll.stp e ds _ h2)
end
mutual
theorem Tp.dp : ∀ (d : PyData) (v : V), Tp K H v d → Dp K H v d
  | .none, _, h => by cases h; exact .non
  | .bool b, _, h => by cases h; exact .bl b
  | .int i, _, h => by cases h; exact .int i
  | .str x, _, h => by cases h; exact .str x
  | .tuple ds, _, h => by
    cases h with
    | tup hs ha => exact .tup hs (TpAll.dp ds _ ha)
  | .list _, _, h => by cases h
  | .dict _, _, h => by cases h
theorem TpAll.dp : ∀ (ds : List PyData) (vs : List V), TpAll K H vs ds → DpAll K H vs ds
  | [], _, h => by cases h; exact .nil
  | d :: ds, _, h => by
    cases h with
    | cons h1 h2 => exact .cons (Tp.dp d _ h1) (TpAll.dp ds _ h2)
end
theorem Tp.up {v : V} {d : PyData} (h : Tp K H v d) (e : Stp H H') : Tp K H' v d := Tp.stp e d v h
theorem TpAll.up {vs : List V} {ds : List PyData} (h : TpAll K H vs ds) (e : Stp H H') : TpAll K H' vs ds := TpAll.stp e ds vs h
theorem TpAll.len : ∀ {vs : List V} {ds : List PyData}, TpAll K H vs ds → vs.length = ds.length
  | _, _, .nil => rfl
  | _, _, .cons _ h => by rw [List.length_cons, List.length_cons, TpAll.len h]
theorem TpAll.get : ∀ {vs : List V} {ds : List PyData} {i : Nat} {d : PyData}, TpAll K H vs ds → ds[i]? = some d → ∃ v, vs[i]? = some v ∧ Tp K H v d
  | _, _, _, _, .nil, h => by simp at h
  | _, _, 0, _, .cons a _, h => by simp at h; subst h; exact ⟨_, rfl, a⟩
  | _, _, i + 1, _, .cons _ t, h => by
    obtain ⟨v, h1, h2⟩ := TpAll.get (i := i) t (by simpa using h)
    exact ⟨v, by simpa using h1, h2⟩
theorem TpAll.getV : ∀ {vs : List V} {ds : List PyData} {i : Nat} {v : V}, TpAll K H vs ds → vs[i]? = some v → ∃ d, ds[i]? = some d ∧ Tp K H v d
  | _, _, _, _, .nil, h => by simp at h
  | _, _, 0, _, .cons a _, h => by simp at h; subst h; exact ⟨_, rfl, a⟩
  | _, _, i + 1, _, .cons _ t, h => by
    obtain ⟨v, h1, h2⟩ := TpAll.getV (i := i) t (by simpa using h)
    exact ⟨v, by simpa using h1, h2⟩
theorem TpAll.app : ∀ {vs ws : List V} {ds es : List PyData}, TpAll K H vs ds → TpAll K H ws es → TpAll K H (vs ++ ws) (ds ++ es)
  | _, _, _, _, .nil, h => h
  | _, _, _, _, .cons a t, h => .cons a (TpAll.app t h)
theorem TpAll.snoc {vs : List V} {ds : List PyData} {v : V} {d : PyData} (h : TpAll K H vs ds) (t : Tp K H v d) : TpAll K H (vs ++ [v]) (ds ++ [d]) := h.app (.cons t .nil)
theorem TpAll.take : ∀ {vs : List V} {ds : List PyData} (n : Nat), TpAll K H vs ds → TpAll K H (vs.take n) (ds.take n)
  | _, _, _, .nil => by simp; exact .nil
  | _, _, 0, .cons _ _ => .nil
  | _, _, n + 1, .cons a t => .cons a (TpAll.take n t)
theorem TpAll.drop : ∀ {vs : List V} {ds : List PyData} (n : Nat), TpAll K H vs ds → TpAll K H (vs.drop n) (ds.drop n)
  | _, _, _, .nil => by simp; exact .nil
  | _, _, 0, .cons a t => .cons a t
  | _, _, n + 1, .cons _ t => TpAll.drop n t
theorem TpAll.ints : ∀ ns : List Int, TpAll K H (ns.map V.int) (ns.map PyData.int)
  | [] => .nil
  | n :: ns => .cons (.int n) (TpAll.ints ns)
theorem TpAll.ints_inv : ∀ {vs : List V} {ns : List Int}, TpAll K H vs (ns.map PyData.int) → vs = ns.map V.int
  | _, [], h => by cases h; rfl
  | _, n :: ns, h => by
    cases h with
    | cons a t => cases a; rw [TpAll.ints_inv t]; rfl
theorem Tp.inv {v : V} {ds : List PyData} (h : Tp K H v (.tuple ds)) : ∃ a xs, v = .ref a ∧ SqT K H a xs ∧ TpAll K H xs ds := by
  cases h with
  | tup hs ha => exact ⟨_, _, rfl, hs, ha⟩
theorem Tp.invI {v : V} {ns : List Int} (h : Tp K H v (.tuple (ns.map PyData.int))) : ∃ a, v = .ref a ∧ SqT K H a (ns.map V.int) := by
  obtain ⟨a, xs, rfl, hs, ha⟩ := h.inv
  rw [TpAll.ints_inv ha] at hs
  exact ⟨a, rfl, hs⟩
theorem Tp.intsT {a : Addr} {ns : List Int} (h : SqT K H a (ns.map V.int)) : Tp K H (.ref a) (.tuple (ns.map PyData.int)) := .tup h (TpAll.ints ns)
theorem Tp.int_inv {v : V} {n : Int} (h : Tp K H v (.int n)) : v = .int n := by cases h; rfl
theorem Tp.str_inv {v : V} {n : Str} (h : Tp K H v (.str n)) : v = .str n := by cases h; rfl
/-- t[i] of such a tuple -/
theorem r_ixTp {v : V} {ds : List PyData} {i : Nat} {d : PyData} (h : Tp K H v (.tuple ds)) (hd : ds[i]? = some d) (k : ∀ u, Tp K H u d → Q u H) : rIxT K v (.int (i : Int)) H Q := by
  obtain ⟨a, xs, rfl, hs, ha⟩ := h.inv
  obtain ⟨u, hu, t⟩ := ha.get hd
  exact r_ixT hs (atI_nat hu) (k u t)
theorem r_ixTpI {v : V} {ds : List PyData} {i : Nat} {n : Int} (h : Tp K H v (.tuple ds)) (hd : ds[i]? = some (.int n)) (q : Q (.int n) H) : rIxT K v (.int (i : Int)) H Q := r_ixTp h hd fun u t => by cases t; exact q
/-- a value of such data that a call hands back -/
def RetD (K : PySem.W.Frag) (H : Hp) (Q : VK) (d : PyData) : Prop := ∀ H' v, Same H H' → Tp K H' v d → Q v H'
theorem r_retD {v : PyData} (o : Own H0 H L) (k : ∀ u H', Same H H' → Own H0 H' L → Tp K H' u v → Q u H') : RetD K H Q v := fun H' u e t => k u H' e (o.mono e) t
theorem RetD.mk {v : V} {d : PyData} (q : RetD K H0 Q d) (o : Own H0 H L) (t : Tp K H v d) : Q v H := q H v o.ex t
/-! the rules that tell that tuples stand -/
theorem r_newLs {xs : List V} (o : Own H0 H L) (hz : xs.length ≤ 10000000) (k : ∀ p H', Stp H H' → Own H0 H' ((p, .lst xs) :: L) → Q (.ref p) H') : RNewL xs H Q := ⟨sz100 hz, fun p hp => k p _ (.of (same_new hp)) (o.new hp)⟩
theorem r_newTs {xs : List V} (o : Own H0 H L) (hz : xs.length ≤ 10000000) (k : ∀ p H', Stp H H' → Own H0 H' L → SqT K H' p xs → Q (.ref p) H') : RNewT xs H Q := ⟨sz100 hz, fun p hp => k p _ (.of (same_new hp)) (o.mono (same_new hp)) (SqT.of upd_same)⟩
theorem r_newTi {xs : List V} (ns : List Int) (e : xs = ns.map V.int) (o : Own H0 H L) (hz : ns.length ≤ 10000000) (k : ∀ p H', Stp H H' → Own H0 H' L → SqT K H' p (ns.map V.int) → Q (.ref p) H') : RNewT xs H Q := by
  subst e
  exact r_newTs o (by rw [List.length_map]; exact hz) k
theorem r_newTp {xs : List V} {ds : List PyData} (o : Own H0 H L) (ha : TpAll K H xs ds) (hz : xs.length ≤ 10000000) (k : ∀ p H', Stp H H' → Own H0 H' L → Tp K H' (.ref p) (.tuple ds) → Q (.ref p) H') : RNewT xs H Q :=
  r_newTs o hz fun p H' s o' h => k p H' s o' (.tup h (ha.up s))
theorem r_apps {l : Addr} {xs : List V} {y : V} (o : Own H0 H L) (n : Nat) (h : L[n]? = some (l, .lst xs)) (hz : xs.length < 10000000) (k : ∀ H', Stp H H' → Own H0 H' (L.set n (l, .lst (xs ++ [y]))) → Q .non H') : rAppend (.ref l) [y] H Q :=
  ⟨l, xs, y, rfl, rfl, o.at n h, sz_lt hz, k _ (Stp.set (o.at n h)) (o.set n h)⟩
theorem r_setLs {l : Addr} {xs : List V} {k : Nat} {i : Int} {v : V} {R : Hp → Prop} (o : Own H0 H L) (n : Nat) (h : L[n]? = some (l, .lst xs)) (hj : ixN xs.length i = some k) (q : ∀ H', Stp H H' → Own H0 H' (L.set n (l, .lst (xs.set k v))) → R H') : rSetL (.ref l) (.int i) v H R :=
  ⟨l, xs, i, k, rfl, rfl, o.at n h, hj, q _ (Stp.set (o.at n h)) (o.set n h)⟩
theorem r_tupLs {p : Addr} {xs : List V} (o : Own H0 H L) (h : SqL K H p xs) (k : ∀ l H', Stp H H' → Own H0 H' L → SqT K H' l xs → Q (.ref l) H') : rTupS K [.ref p] H Q :=
  ⟨p, xs, rfl, .inl ⟨h, fun l hl => k l _ (.of (same_new hl)) (o.mono (same_new hl)) (SqT.of upd_same)⟩⟩
theorem r_ret1s {u : HO} (o : Own H0 H L) (k : ∀ p H', Stp H H' → Own H0 H' ((p, u) :: L) → Q (.ref p) H') : RetO H Q u := fun H' p e f h => k p H' (.of e) (o.add e f h)
theorem r_slLs {a : Addr} {xs : List V} {lo hi : Option Int} (o : Own H0 H L) (h : SqL K H a xs) (k : ∀ p H', Stp H H' → Own H0 H' ((p, .lst (cutV xs lo hi)) :: L) → Q (.ref p) H') : rSlL K (.ref a) lo hi H Q := ⟨a, xs, rfl, h, fun p hp => k p _ (.of (same_new hp)) (o.new hp)⟩
theorem r_cats {a b : Addr} {xs ys : List V} (o : Own H0 H L) (ha : H a = some (.lst xs)) (hb : H b = some (.lst ys)) (hz : xs.length + ys.length ≤ 10000000) (k : ∀ p H', Stp H H' → Own H0 H' ((p, .lst (xs ++ ys)) :: L) → Q (.ref p) H') : rCat (.ref a) (.ref b) H Q :=
  ⟨a, b, xs, ys, rfl, rfl, ha, hb, sz100 hz, fun p hp => k p _ (.of (same_new hp)) (o.new hp)⟩
theorem r_lists {p : Addr} {xs : List V} (o : Own H0 H L) (h : SqL K H p xs) (k : ∀ l H', Stp H H' → Own H0 H' ((l, .lst xs) :: L) → Q (.ref l) H') : Evl.rListS K [.ref p] H Q := ⟨p, xs, rfl, .inl h, fun l hl => k l _ (.of (same_new hl)) (o.new hl)⟩
theorem r_listTs {p : Addr} {xs : List V} (o : Own H0 H L) (h : SqT K H p xs) (k : ∀ l H', Stp H H' → Own H0 H' ((l, .lst xs) :: L) → Q (.ref l) H') : Evl.rListS K [.ref p] H Q := ⟨p, xs, rfl, .inr h, fun l hl => k l _ (.of (same_new hl)) (o.new hl)⟩
theorem r_eqTp {v u : V} {d e : PyData} (h : Tp K H v d) (h2 : Tp K H u e) (s1 : SeqAt.shaped d = true) (s2 : SeqAt.shaped e = true) (q : Q (.bl (PyData.eqv d e)) H) : rEqD K v u H Q := ⟨d, e, h.dp, h2.dp, s1, s2, q⟩
end

theorem ty_sqT {K : PySem.W.Frag} {H : Hp} {a : Addr} {xs : List V} (h : SqT K H a xs) : TyX K H (.ref a) (.type "tuple") := by
  rcases h with (h | ⟨o, h⟩) | ⟨o, its, n, h1, h2, _⟩
  · exact .base (.tup h)
  · exact .fTuple h
  · exact .kTuple h1 h2
theorem ty_sqL {K : PySem.W.Frag} {H : Hp} {a : Addr} {xs : List V} (h : SqL K H a xs) : TyX K H (.ref a) (.type "list") := by
  rcases h with (h | ⟨o, h⟩) | ⟨o, its, n, h1, h2, _⟩
  · exact .base (.lst h)
  · exact .base (.frz h)
  · exact .kList h1 h2
/-! ### zip -/
section
variable {σ : L2.St} {H : Hp} {K : PySem.W.Frag} {tr : TA} {D : Ends} {ts : TS} {g : TG}
def RZipA (K : PySem.W.Frag) (vs : List V) (H1 : Hp) (R : It → Hp → Prop) : Prop := ∃ a b xs ys, vs = [.ref a, .ref b] ∧ ((SqL K H1 a xs ∧ SqL K H1 b ys ∧ R (Itz K a b) H1) ∨ (SqT K H1 a xs ∧ SqT K H1 b ys ∧ R (RZ.ItzT K a b) H1))
theorem r_zipA {R : It → Hp → Prop} (q : tr σ H fun vs H1 => RZipA K vs H1 R) : RZ.iZipA K tr σ H R := q
theorem forZT {a b : Addr} {xs ys : List V} (ha : SqT K H a xs) (hb : SqT K H b ys) (hl : xs.length = ys.length) (Pv : Nat → L2.St → Hp → Prop) (h0 : Pv 0 σ H) (hq : ∀ i σ H, Pv i σ H → SqT K H a xs ∧ SqT K H b ys)
    (hs : ∀ (i : Nat) (x y : V) (T : Addr) (σ : L2.St) (H : Hp), xs[i]? = some x → ys[i]? = some y → Pv i σ H → H T = none → g (.ref T) σ (upd H T (.tup [x, y])) fun σ2 H2 => ts { D with nx := Pv (i + 1), ct := Pv (i + 1), bk := D.nx } σ2 H2) (hd : ∀ σ H, Pv xs.length σ H → D.nx σ H) :
    RZipA K [.ref a, .ref b] H fun J H1 => RFor J g ts D σ H1 := ⟨a, b, xs, ys, rfl, .inr ⟨ha, hb, RZ.for_zipT hl Pv h0 hq hs hd⟩⟩
theorem forZL {a b : Addr} {xs ys : List V} (ha : SqL K H a xs) (hb : SqL K H b ys) (hl : xs.length = ys.length) (Pv : Nat → L2.St → Hp → Prop) (h0 : Pv 0 σ H) (hq : ∀ i σ H, Pv i σ H → SqL K H a xs ∧ SqL K H b ys)
    (hs : ∀ (i : Nat) (x y : V) (T : Addr) (σ : L2.St) (H : Hp), xs[i]? = some x → ys[i]? = some y → Pv i σ H → H T = none → g (.ref T) σ (upd H T (.tup [x, y])) fun σ2 H2 => ts { D with nx := Pv (i + 1), ct := Pv (i + 1), bk := D.nx } σ2 H2) (hd : ∀ σ H, Pv xs.length σ H → D.nx σ H) :
    RZipA K [.ref a, .ref b] H fun J H1 => RFor J g ts D σ H1 := ⟨a, b, xs, ys, rfl, .inl ⟨ha, hb, RZ.for_zipL hl Pv h0 hq hs hd⟩⟩
/-- x, y = t: the target of a walk over pairs -/
theorem r_gTup2 {a : Addr} {x y : V} {i j : Nat} {R : L2.St → Hp → Prop} (h : SqT K H a [x, y]) (q : R ((σ.set i (some x)).set j (some y)) H) : gTup K 2 (gCons (gName i) (gCons (gName j) gNil)) (.ref a) σ H R :=
  ⟨a, [x, y], rfl, h, rfl, x, [y], rfl, y, [], rfl, rfl, q⟩
theorem r_gTup3 {a : Addr} {x y z : V} {i j k : Nat} {R : L2.St → Hp → Prop} (h : SqT K H a [x, y, z]) (q : R (((σ.set i (some x)).set j (some y)).set k (some z)) H) : gTup K 3 (gCons (gName i) (gCons (gName j) (gCons (gName k) gNil))) (.ref a) σ H R :=
  ⟨a, [x, y, z], rfl, h, rfl, x, [y, z], rfl, y, [z], rfl, z, [], rfl, rfl, q⟩
def rMax2 : List V → Hp → VK → Prop := fun xs H Q => ∃ i j, xs = [.int i, .int j] ∧ Q (.int (if j > i then j else i)) H
def rMin2 : List V → Hp → VK → Prop := fun xs H Q => ∃ i j, xs = [.int i, .int j] ∧ Q (.int (if j < i then j else i)) H
theorem r_max2 {i j : Int} {Q : VK} (q : Q (.int (if j > i then j else i)) H) : rMax2 [.int i, .int j] H Q := ⟨i, j, rfl, q⟩
theorem r_min2 {i j : Int} {Q : VK} (q : Q (.int (if j < i then j else i)) H) : rMin2 [.int i, .int j] H Q := ⟨i, j, rfl, q⟩
def rIsNon : R2 := fun x y H Q => y = .non ∧ Q (.bl (decide (x = .non))) H
def rNotNon : R2 := fun x y H Q => y = .non ∧ Q (.bl (!decide (x = .non))) H
theorem r_isNonN {Q : VK} (q : Q (.bl true) H) : rIsNon .non .non H Q := ⟨rfl, by rw [decide_eq_true rfl]; exact q⟩
theorem r_isNonR {a : Addr} {Q : VK} (q : Q (.bl false) H) : rIsNon (.ref a) .non H Q := ⟨rfl, by rw [decide_eq_false (by simp)]; exact q⟩
theorem r_isNonI {a : Int} {Q : VK} (q : Q (.bl false) H) : rIsNon (.int a) .non H Q := ⟨rfl, by rw [decide_eq_false (by simp)]; exact q⟩
theorem r_notNonN {Q : VK} (q : Q (.bl false) H) : rNotNon .non .non H Q := ⟨rfl, by rw [decide_eq_true rfl]; exact q⟩
theorem r_notNonR {a : Addr} {Q : VK} (q : Q (.bl true) H) : rNotNon (.ref a) .non H Q := ⟨rfl, by rw [decide_eq_false (by simp)]; exact q⟩
theorem r_notNonI {a : Int} {Q : VK} (q : Q (.bl true) H) : rNotNon (.int a) .non H Q := ⟨rfl, by rw [decide_eq_false (by simp)]; exact q⟩
end

/-! ### texts -/
def rAddStr : R2 := fun x y H Q => ∃ i j, x = .str i ∧ y = .str j ∧ i.length + j.length ≤ sizeLine ∧ Q (.str (i ++ j)) H
def rIntS : List V → Hp → VK → Prop := fun xs H Q => ∃ a n, xs = [.str a] ∧ PySem.intText? a = some n ∧ a.length ≤ 640 ∧ Q (.int n) H
def rLenStr : List V → Hp → VK → Prop := fun xs H Q => ∃ z, xs = [.str z] ∧ z.length ≤ sizeLine ∧ Q (.int z.length) H
section
variable {σ : L2.St} {H H0 : Hp} {Q : VK} {K : PySem.W.Frag} {L : List (Addr × HO)} {te : TE} {tt : TT}
theorem r_addS {a b : Str} (hz : a.length + b.length ≤ 10000000) (q : Q (.str (a ++ b)) H) : rAddStr (.str a) (.str b) H Q := ⟨a, b, rfl, rfl, sz100 hz, q⟩
theorem r_lenS {a : Str} (hz : a.length ≤ 10000000) (q : Q (.int a.length) H) : rLenStr [.str a] H Q := ⟨a, rfl, sz100 hz, q⟩
theorem r_slS {a : Str} {lo hi : Option Int} (hz : a.length ≤ 10000000) (q : Q (.str (cutS a lo hi)) H) : rSlS (.str a) lo hi H Q := ⟨a, rfl, sz100 hz, q⟩
theorem cutS_len (a : Str) (lo hi : Option Int) : (cutS a lo hi).length ≤ a.length := by
  unfold cutS
  show (List.toArray _).size ≤ a.cps.size
  rw [List.size_toArray, List.length_take, List.length_drop, Array.length_toList]
  omega
theorem addS_len (a b : Str) : (a ++ b).length = a.length + b.length := by
  show (a.cps ++ b.cps).size = a.cps.size + b.cps.size
  exact Array.size_append
theorem r_in {neg : Bool} {x : V} {p : Addr} {xs : List V} (h : SqL K H p xs ∨ SqT K H p xs) (hx : flatV x = true) (ha : xs.all flatV = true) (q : Q (.bl (if neg then !inV x xs else inV x xs)) H) : rIn K neg x (.ref p) H Q := ⟨p, xs, rfl, h, hx, ha, q⟩
theorem r_inY {x : V} {p : Addr} {xs : List V} (h : SqL K H p xs ∨ SqT K H p xs) (hx : flatV x = true) (ha : xs.all flatV = true) (q : Q (.bl (inV x xs)) H) : rIn K false x (.ref p) H Q := r_in h hx ha q
theorem r_inN {x : V} {p : Addr} {xs : List V} (h : SqL K H p xs ∨ SqT K H p xs) (hx : flatV x = true) (ha : xs.all flatV = true) (q : Q (.bl (!inV x xs)) H) : rIn K true x (.ref p) H Q := r_in h hx ha q
theorem r_ixS {p : Addr} {zs : List Str} {i : Int} (h : SqL K H p (zs.map V.str)) (h0 : 0 ≤ i) (h1 : i < zs.length) (q : ∀ z, z ∈ zs → zs[i.toNat]? = some z → Q (.str z) H) : rIxL K (.ref p) (.int i) H Q := by
  have h2 : i.toNat < zs.length := by omega
  have e := List.getElem?_eq_getElem h2
  exact r_ixL h (at_map h0 e) (q _ (List.getElem_mem h2) e)
theorem flat_strs (zs : List Str) : (zs.map V.str).all flatV = true := by
  rw [List.all_map, List.all_eq_true]
  intro _ _
  rfl
/-- [e for x in t], over a tuple, by the item -/
theorem lcTV {a : Addr} {xs : List V} {s : Nat} {vs : List Nat} (f : V → V) (o : Own H0 H L) (h : ∀ H' p zs, Own H0 H' ((p, .lst zs) :: L) → SqT K H' a xs) (h1 : SqT K H a xs) (hz : xs.length < 10000000) (hw : ∀ x, wipe ((wipe σ vs).set s (some x)) vs = wipe σ vs)
    (he : ∀ (i : Nat) (x : V) (q : Addr) (zs : List V) (H' : Hp) (Q : VK), xs[i]? = some x → Own H0 H' ((q, .lst zs) :: L) → Stp H H' → RetV H' Q (f x) → te ((wipe σ vs).set s (some x)) H' Q)
    (k : ∀ q H', Stp H H' → Own H0 H' ((q, .lst (xs.map f)) :: L) → Q (.ref q) H') :
    ∃ a', V.ref a = .ref a' ∧ (∃ xs, SqT K H a' xs) ∧ RLc (Itt K a') (gName s) tYes te vs σ H Q :=
  lcGT (fun v => some (f v)) o h h1 hz (fun i x p zs H' R hi o' s' r => r _ (fun _ _ => hw _) (fun Q q => q H' (Same.refl _)) fun y H2 hy s2 Q q => by
    cases hy
    exact he i x p zs H2 Q hi (o'.mono s2) (s'.trans (.of s2)) q) (fun q H' s' o' => k q H' s' (by rw [show (fun v => some (f v)) = some ∘ f from rfl, List.filterMap_eq_map] at o'; exact o'))
theorem lcLV {a : Addr} {xs : List V} {s : Nat} {vs : List Nat} (f : V → V) (o : Own H0 H L) (h : ∀ H' p zs, Own H0 H' ((p, .lst zs) :: L) → SqL K H' a xs) (h1 : SqL K H a xs) (hz : xs.length < 10000000) (hw : ∀ x, wipe ((wipe σ vs).set s (some x)) vs = wipe σ vs)
    (he : ∀ (i : Nat) (x : V) (q : Addr) (zs : List V) (H' : Hp) (Q : VK), xs[i]? = some x → Own H0 H' ((q, .lst zs) :: L) → Stp H H' → RetV H' Q (f x) → te ((wipe σ vs).set s (some x)) H' Q)
    (k : ∀ q H', Stp H H' → Own H0 H' ((q, .lst (xs.map f)) :: L) → Q (.ref q) H') :
    ∃ a', V.ref a = .ref a' ∧ (∃ xs, SqL K H a' xs) ∧ RLc (Itl K a') (gName s) tYes te vs σ H Q :=
  lcGL (fun v => some (f v)) o h h1 hz (fun i x p zs H' R hi o' s' r => r _ (fun _ _ => hw _) (fun Q q => q H' (Same.refl _)) fun y H2 hy s2 Q q => by
    cases hy
    exact he i x p zs H2 Q hi (o'.mono s2) (s'.trans (.of s2)) q) (fun q H' s' o' => k q H' s' (by rw [show (fun v => some (f v)) = some ∘ f from rfl, List.filterMap_eq_map] at o'; exact o'))
/-- .. with a test, over a list -/
theorem lcLVF {a : Addr} {xs : List V} {s : Nat} {vs : List Nat} (sel : V → Option V) (o : Own H0 H L) (h : ∀ H' p zs, Own H0 H' ((p, .lst zs) :: L) → SqL K H' a xs) (h1 : SqL K H a xs) (hz : xs.length < 10000000) (hw : ∀ x, wipe ((wipe σ vs).set s (some x)) vs = wipe σ vs)
    (ht : ∀ (i : Nat) (x : V) (q : Addr) (zs : List V) (H' : Hp) (Q : Bool → Hp → Prop), xs[i]? = some x → Own H0 H' ((q, .lst zs) :: L) → Stp H H' → (∀ H2, Same H' H2 → Q (sel x).isSome H2) → tt ((wipe σ vs).set s (some x)) H' Q)
    (he : ∀ (i : Nat) (x y : V) (q : Addr) (zs : List V) (H' : Hp) (Q : VK), xs[i]? = some x → sel x = some y → Own H0 H' ((q, .lst zs) :: L) → Stp H H' → RetV H' Q y → te ((wipe σ vs).set s (some x)) H' Q)
    (k : ∀ q H', Stp H H' → Own H0 H' ((q, .lst (xs.filterMap sel)) :: L) → Q (.ref q) H') :
    ∃ a', V.ref a = .ref a' ∧ (∃ xs, SqL K H a' xs) ∧ RLc (Itl K a') (gName s) tt te vs σ H Q :=
  lcGL sel o h h1 hz (fun i x p zs H' R hi o' s' r => r _ (fun _ _ => hw _) (fun Q q => ht i x p zs H' Q hi o' s' q) fun y H2 hy s2 Q q => he i x y p zs H2 Q hi hy (o'.mono s2) (s'.trans (.of s2)) q) k
end
/-- a written tuple of the module -/
theorem sqT_top {K : PySem.W.Frag} {p : Addr} {od : Option Addr} {its : Array Value} {n : Nat} {sl : Array (Option Value)} {xs : List V} (l : K.lookup p = some ⟨.type "tuple", od, .seq its n, sl⟩) (hz : its.size ≤ sizeLine) (hv : Vals xs its.toList) : ∀ H : Hp, SqT K H p xs :=
  fun _ => .inr ⟨_, its, n, l, rfl, rfl, hz, hv⟩

/-! ### [e for p in range(n) for q in range(lo, hi, c)] -/
def RLc2 (J : It) (g : TG) (tt : TT) (wi1 : TI) (g1 : TG) (tt1 : TT) (te : TE) (vs vs1 : List Nat) (σ : L2.St) (H1 : Hp) (Q : VK) : Prop := ∀ D, H1 D = none → ∃ W : Nat → Nat → Hp → Prop, (∃ m, W 0 m (upd H1 D (.lst []))) ∧ ∀ i m H, W i m H →
  (J.stop i H ∧ Q (.ref D) H) ∨ (J.go i H ∧ ∃ Nx : Hp → Prop, (∀ H', Nx H' → ∃ m', m' < m ∧ W (i + 1) m' H') ∧ ∀ x H', J.yld i H x H' → g x (wipe σ vs) H' fun σ2 H2 => wipe σ2 vs = wipe σ vs ∧ tt σ2 H2 fun b H3 =>
    if b = true then wi1 σ2 H3 fun J1 H4 => ∃ W1 : Nat → Nat → Hp → Prop, (∃ m, W1 0 m H4) ∧ ∀ j k H, W1 j k H →
      (J1.stop j H ∧ Nx H) ∨ (J1.go j H ∧ ∃ Nx1 : Hp → Prop, (∀ H', Nx1 H' → ∃ k', k' < k ∧ W1 (j + 1) k' H') ∧ ∀ x H', J1.yld j H x H' → g1 x (wipe σ2 vs1) H' fun σ3 H5 => wipe σ3 vs1 = wipe σ2 vs1 ∧ tt1 σ3 H5 fun b H6 =>
        if b = true then te σ3 H6 fun y H7 => ∃ acc, H7 D = some (.lst acc) ∧ acc.length < sizeLine ∧ Nx1 (upd H7 D (.lst (acc ++ [y]))) else Nx1 H6)
    else Nx H3)
theorem r_lc2 {σ : L2.St} {H : Hp} {Q : VK} {wi wi1 : TI} {g g1 : TG} {tt tt1 : TT} {te : TE} {vs vs1 : List Nat} (q : wi σ H fun J H1 => RLc2 J g tt wi1 g1 tt1 te vs vs1 σ H1 Q) : tLc2 wi g tt wi1 g1 tt1 te vs vs1 σ H Q := q
theorem lc2R3 {σ : L2.St} {H H0 : Hp} {Q : VK} {L : List (Addr × HO)} {te : TE} {wi1 : TI} {j c : Int} {n s s1 : Nat} {vs vs1 : List Nat} (lo : Nat → Int) (m : Nat → Nat) (o : Own H0 H L) (hn : j = (n : Int)) (hz : n ≤ 10000000)
    (hzz : ((List.range n).flatMap fun p => (List.range (m p)).map fun (k : Nat) => V.int (lo p + (k : Int) * c)).length < 10000000)
    (hw : ∀ x, wipe ((wipe σ vs).set s (some x)) vs = wipe σ vs) (hw1 : ∀ x y, wipe ((wipe ((wipe σ vs).set s (some x)) vs1).set s1 (some y)) vs1 = wipe ((wipe σ vs).set s (some x)) vs1)
    (hin : ∀ (p : Nat) (H' : Hp) (R : It → Hp → Prop), p < n → R (Itc (lo p) c (m p)) H' → wi1 ((wipe σ vs).set s (some (.int (p : Int)))) H' R)
    (he : ∀ (x : V) (z : Int) (H' : Hp) (Q : VK), Q (.int z) H' → te ((wipe ((wipe σ vs).set s (some x)) vs1).set s1 (some (.int z))) H' Q)
    (k : ∀ p H', Own H0 H' ((p, .lst ((List.range n).flatMap fun p => (List.range (m p)).map fun (k : Nat) => V.int (lo p + (k : Int) * c))) :: L) → Q (.ref p) H') :
    ∃ k : Int, [V.int j] = [.int k] ∧ -(2 ^ 62) ≤ k ∧ k < 2 ^ 62 ∧ RLc2 (Itr 0 k.toNat) (gName s) tYes wi1 (gName s1) tYes te vs vs1 σ H Q := by
  have hout : ∀ i, i ≤ n → ((List.range i).flatMap fun p => (List.range (m p)).map fun (k : Nat) => V.int (lo p + (k : Int) * c)).length ≤ ((List.range n).flatMap fun p => (List.range (m p)).map fun (k : Nat) => V.int (lo p + (k : Int) * c)).length := fun i hi => by
    have e : List.range n = List.range i ++ (List.range (n - i)).map (i + ·) := by
      rw [← List.range_add]
      congr 1
      omega
    rw [e, List.flatMap_append, List.length_append]
    omega
  refine ⟨j, rfl, by omega, by omega, fun D hD => ?_⟩
  have e : j.toNat = n := by omega
  rw [e]
  refine ⟨fun i mm H' => mm = n - i ∧ i ≤ n ∧ Own H0 H' ((D, .lst ((List.range i).flatMap fun p => (List.range (m p)).map fun (k : Nat) => V.int (lo p + (k : Int) * c))) :: L), ⟨n, rfl, Nat.zero_le _, o.new hD⟩, ?_⟩
  rintro i mm H' ⟨rfl, hi, o'⟩
  by_cases hlt : i < n
  · refine .inr ⟨hlt, fun H2 => Own H0 H2 ((D, .lst ((List.range (i + 1)).flatMap fun p => (List.range (m p)).map fun (k : Nat) => V.int (lo p + (k : Int) * c))) :: L), fun H2 p2 => ⟨n - (i + 1), by omega, rfl, hlt, p2⟩, ?_⟩
    rintro x H2 ⟨rfl, rfl⟩
    have e0 : (0 : Int) + (i : Int) = (i : Int) := Int.zero_add _
    rw [e0]
    refine ⟨hw _, ?_⟩
    refine iteT (B := Own H0 H2 ((D, .lst ((List.range (i + 1)).flatMap fun p => (List.range (m p)).map fun (k : Nat) => V.int (lo p + (k : Int) * c))) :: L)) (hin i H2 _ hlt ?_)
    have hs : (List.range (i + 1)).flatMap (fun p => (List.range (m p)).map fun (k : Nat) => V.int (lo p + (k : Int) * c)) = (List.range i).flatMap (fun p => (List.range (m p)).map fun (k : Nat) => V.int (lo p + (k : Int) * c)) ++ (List.range (m i)).map fun (k : Nat) => V.int (lo i + (k : Int) * c) := by
      rw [List.range_succ, List.flatMap_append]
      simp
    rw [hs]
    have hl2 := hout (i + 1) hlt
    rw [hs, List.length_append, List.length_map, List.length_range] at hl2
    refine ⟨fun j2 k2 H3 => k2 = m i - j2 ∧ j2 ≤ m i ∧ Own H0 H3 ((D, .lst ((List.range i).flatMap (fun p => (List.range (m p)).map fun (k : Nat) => V.int (lo p + (k : Int) * c)) ++ (List.range j2).map fun (k : Nat) => V.int (lo i + (k : Int) * c))) :: L), ⟨m i, rfl, Nat.zero_le _, by rw [show ((List.range 0).map fun (k : Nat) => V.int (lo i + ((k : Nat) : Int) * c)) = [] from rfl, List.append_nil]; exact o'⟩, ?_⟩
    rintro j2 k2 H3 ⟨rfl, hj, o3⟩
    by_cases hlt2 : j2 < m i
    · refine .inr ⟨hlt2, fun H4 => Own H0 H4 ((D, .lst ((List.range i).flatMap (fun p => (List.range (m p)).map fun (k : Nat) => V.int (lo p + (k : Int) * c)) ++ (List.range (j2 + 1)).map fun (k : Nat) => V.int (lo i + (k : Int) * c))) :: L), fun H4 p4 => ⟨m i - (j2 + 1), by omega, rfl, hlt2, p4⟩, ?_⟩
      rintro x H4 ⟨rfl, rfl⟩
      refine ⟨hw1 _ _, ?_⟩
      refine iteT (B := Own H0 H4 ((D, .lst ((List.range i).flatMap (fun p => (List.range (m p)).map fun (k : Nat) => V.int (lo p + (k : Int) * c)) ++ (List.range (j2 + 1)).map fun (k : Nat) => V.int (lo i + (k : Int) * c))) :: L)) (he _ _ H4 _ ⟨_, o3.at 0 rfl, sz_lt ?_, ?_⟩)
      · rw [List.length_append, List.length_map, List.length_range]
        omega
      · have o5 := o3.set (v := .lst (((List.range i).flatMap (fun p => (List.range (m p)).map fun (k : Nat) => V.int (lo p + (k : Int) * c)) ++ (List.range j2).map fun (k : Nat) => V.int (lo i + (k : Int) * c)) ++ [V.int (lo i + (j2 : Int) * c)])) 0 rfl
        rw [List.range_succ, List.map_append, ← List.append_assoc]
        exact o5
    · refine .inl ⟨show m i ≤ j2 by omega, ?_⟩
      have ej : j2 = m i := by omega
      rw [ej] at o3
      exact o3
  · refine .inl ⟨show n ≤ i by omega, ?_⟩
    have ei : i = n := by omega
    rw [ei] at o'
    exact k D _ o'

theorem fm_some {α β : Type} (f : α → Option β) (g : α → β) : ∀ (l : List α), (∀ k ∈ l, f k = some (g k)) → l.filterMap f = l.map g
  | [], _ => rfl
  | x :: l, h => by
    rw [List.filterMap_cons, h x List.mem_cons_self, List.map_cons, fm_some f g l fun k hk => h k (List.mem_cons_of_mem _ hk)]
/-! ### xs[lo:hi:c] -/
def stpV (xs : List V) (lo hi : Option Int) (c : Int) : List V := (sliceRange (sliceBounds lo hi (some c) xs.length).1 (sliceBounds lo hi (some c) xs.length).2.1 (sliceBounds lo hi (some c) xs.length).2.2).filterMap (xs[·]?)
theorem vals_pick {xs : List V} {us : List Value} (r : Vals xs us) : ∀ is : List Nat, Vals (is.filterMap (xs[·]?)) (is.filterMap (us[·]?))
  | [] => .nil
  | i :: is => by
    rw [List.filterMap_cons, List.filterMap_cons]
    cases h : xs[i]? with
    | none =>
      rw [r.none_of h]
      exact vals_pick r is
    | some x =>
      obtain ⟨u, hu, ru⟩ := r.get h
      rw [hu]
      exact .cons ru (vals_pick r is)
def tSl3 (K : PySem.W.Frag) (te : TE) (tl th ts : TO) : TE := fun σ H Q => te σ H fun x H1 => tl σ H1 fun l H2 => th σ H2 fun u H3 => ts σ H3 fun c H4 => ∃ a xs i, x = .ref a ∧ c = some i ∧ i ≠ 0 ∧ SqL K H4 a xs ∧ (stpV xs l u i).length ≤ sizeLine ∧ ∀ p, H4 p = none → Q (.ref p) (upd H4 p (.lst (stpV xs l u i)))
theorem pe_sl3 {X : Cx} {e : Expr} {lo hi : Option Expr} {st : Expr} {te : TE} {tl th ts : TO} {p2 pos : Pos} (he : PE X e te) (hl : PO X lo tl) (hu : PO X hi th) (hst : PO X (some st) ts) : PE X (.Subscript e (.Slice lo hi (some st) p2) pos) (tSl3 X.K te tl th ts) := by
  refine ⟨fun pins s σ H Q I h => ?_⟩
  refine Subscript_ (thn (he.run pins s σ H _ I h) fun v s1 ⟨x, H1, I1, r1, q1⟩ => ?_)
  refine wpAny_Slice (thn (hl.run pins s1 σ H1 _ I1 q1) fun vl s2 ⟨l, H2, I2, pl, q2⟩ => ?_)
  refine thn (hu.run pins s2 σ H2 _ I2 q2) fun vu s3 ⟨u, H3, I3, pu, q3⟩ => ?_
  refine thn (hst.run pins s3 σ H3 _ I3 q3) fun vs s4 ⟨c, H4, I4, ps, q4⟩ => ?_
  obtain ⟨a, xs, i, ex, ec, h0, hx, hzz, q⟩ := q4
  subst ex
  subst ec
  cases r1
  have I5 : Inv X pins σ H4 { s4 with heap := s4.heap.push { cls := .type "slice", data := .fields #[vl, vu, vs] } } := I4.kept (t' := s4.toks) fun b ob q => Heap.get?_push_of_some _ q
  obtain ⟨its, r, ht, hz⟩ := I5.list hx
  have hlen := r.length
  show wpAny (model X.prog X.w) X.A (subscriptTail e (.Slice lo hi (some st) p2) (.ref a) (.ref s4.heap.objs.size)) (EP X pins σ Q) X.xe { s4 with heap := s4.heap.push { cls := .type "slice", data := .fields #[vl, vu, vs] } }
  refine tail_any (ops := [.ref a, .ref s4.heap.objs.size]) ht.isList.typeIs (PySem.slot_list_getitem.lookup) ?_ (by with_unfolding_all rfl)
  refine wpAny_getItem_list_slice ht.isList (Heap.IsSliceOf.new _ vl vu vs) pl pu ps (fun z => h0 (Option.some.inj z)) ?_ (by rw [List.size_toArray]; omega)
  have ep : slicePick its.toArray l u (some i) = ((sliceRange (sliceBounds l u (some i) xs.length).1 (sliceBounds l u (some i) xs.length).2.1 (sliceBounds l u (some i) xs.length).2.2).filterMap (its[·]?)).toArray := by
    unfold slicePick
    rw [List.size_toArray, ← hlen]
    simp only [List.getElem?_toArray]
  rw [ep]
  refine ⟨.ref _, _, I5.laid (t' := s4.toks) (o := .lst (stpV xs l u i)) (fun b ob q => Heap.get?_push_of_some _ q) (Nat.le_refl _) ?_, rfl, q _ (I5.hok.fresh (Nat.le_refl _))⟩
  exact ⟨hzz, _, 0, vals_pick r _, Heap.get?_push_size _ rfl⟩
def RSl3 (K : PySem.W.Frag) (x : V) (l u c : Option Int) (H : Hp) (Q : VK) : Prop := ∃ a xs i, x = .ref a ∧ c = some i ∧ i ≠ 0 ∧ SqL K H a xs ∧ (stpV xs l u i).length ≤ sizeLine ∧ ∀ p, H p = none → Q (.ref p) (upd H p (.lst (stpV xs l u i)))
theorem r_sl3 {K : PySem.W.Frag} {σ : L2.St} {H : Hp} {Q : VK} {te : TE} {tl th ts : TO} (q : te σ H fun x H1 => tl σ H1 fun l H2 => th σ H2 fun u H3 => ts σ H3 fun c H4 => RSl3 K x l u c H4 Q) : tSl3 K te tl th ts σ H Q := q
theorem r_slc {K : PySem.W.Frag} {H H0 : Hp} {Q : VK} {L : List (Addr × HO)} {a : Addr} {xs : List V} {l u : Option Int} {i : Int} (o : Own H0 H L) (h : SqL K H a xs) (h0 : i ≠ 0) (hz : (stpV xs l u i).length ≤ 10000000) (k : ∀ p H', Stp H H' → Own H0 H' ((p, .lst (stpV xs l u i)) :: L) → Q (.ref p) H') : RSl3 K (.ref a) l u (some i) H Q :=
  ⟨a, xs, i, rfl, rfl, h0, h, sz100 hz, fun p hp => k p _ (.of (same_new hp)) (o.new hp)⟩
theorem flat_rep {α : Type} : ∀ (n : Nat) (x : α), (List.replicate n [x]).flatten = List.replicate n x
  | 0, _ => rfl
  | n + 1, x => by rw [List.replicate_succ, List.flatten_cons, flat_rep n x]; rfl
/-- a list times an int -/
theorem r_rep {H H0 : Hp} {Q : VK} {L : List (Addr × HO)} {a : Addr} {x : V} {i : Int} {n : Nat} (o : Own H0 H L) (ha : H a = some (.lst [x])) (hi : i.toNat = n) (hk : -(2 ^ 63) ≤ i ∧ i < 2 ^ 63) (hz : n ≤ 10000000) (k : ∀ p H', Stp H H' → Own H0 H' ((p, .lst (List.replicate n x)) :: L) → Q (.ref p) H') : rRep (.ref a) (.int i) H Q := by
  refine ⟨a, i, [x], rfl, rfl, ha, hk.1, hk.2, sz100 (by rw [hi]; simp; exact hz), fun p hp => ?_⟩
  have e : (List.replicate i.toNat [x]).flatten = List.replicate n x := by
    rw [hi]
    exact flat_rep n x
  rw [e]
  exact k p _ (.of (same_new hp)) (o.new hp)

/-! ### defs -/
/-- the def x of the text stands at its name -/
structure FunAt (K : PySem.W.Frag) (mg : Str → Option Value) (x : Str) (st : Stmt) (ps : List Str) : Prop where
  ex : ∃ f fd, Fun K x x st f fd ∧ mg x = some (.ref f) ∧ Binds K fd ps []
/-- .. and keeps a promise -/
structure Def (P : Program) (w : World) (K : PySem.W.Frag) (mg : Str → Option Value) (base : Heap) (CX : CXT) (k : Nat) (x : Str) (ps : List Str) (sp : Sp) : Prop where
  ex : ∃ f fd, FnOk P w K mg base CX k f fd ps sp ∧ mg x = some (.ref f) ∧ PySem.W.keepIn K (.ref f) = true ∧ Binds K fd ps []
section
variable {P : Program} {w : World} {K : PySem.W.Frag} {mg : Str → Option Value} {base : Heap}
theorem FunAt.ok {x : Str} {st : Stmt} {N ps : List Str} {k : Nat} {sp : Sp} (F : FunAt K mg x st ps) (S : FnScope N ps (defScope st)) (len : ∀ vs H Q E, sp vs H Q E → vs.length = ps.length)
    (hbody : ∀ (f : Addr) (cdv : Value) (A : Around) (outer : List Env) (s : Shared) (H : Hp) (vs : List V) (Q : VK) (E : XK), Room k (A.deeper (envOfC x (defScope st) s.heap.objs.size f cdv)) → sp vs H Q E →
      ∃ t, PSs (cxOf CX0 P w K mg base N x (defScope st) f cdv A outer s H E).nox (defBody st) t ∧ t { nx := fun _ H' => Q .non H', rt := Q } (start N vs) H) : Def P w K mg base CX0 (k + 1) x ps sp := by
  obtain ⟨f, fd, F, hm, hb⟩ := F.ex
  exact ⟨f, fd, F.ok S len (hbody f), hm, F.kp, hb⟩
theorem Def.imp {CX : CXT} {k : Nat} {x : Str} {ps : List Str} {sp sp' : Sp} (F : Def P w K mg base CX k x ps sp) (h : ∀ vs H Q E, sp' vs H Q E → sp vs H Q E) : Def P w K mg base CX k x ps sp' := by
  obtain ⟨f, fd, F, r⟩ := F.ex
  exact ⟨f, fd, F.imp h, r⟩
theorem Def.mono {CX : CXT} {k j : Nat} {x : Str} {ps : List Str} {sp : Sp} (F : Def P w K mg base CX k x ps sp) (h : k ≤ j) : Def P w K mg base CX j x ps sp := by
  obtain ⟨f, fd, F, r⟩ := F.ex
  exact ⟨f, fd, F.mono h, r⟩
end
theorem pe_callD {X : Cx} {k : Nat} {ps : List Str} {sp : Sp} {x : Str} {p pos : Pos} {e : Expr} {es : List Expr} {t : TA} (G : Def X.prog X.w X.K X.mg X.base CX0 k x ps sp) (hr : Room k X.A) (ha : PA X (e :: es) t) (hg : Gl X x := by rfl)
    (hdb : (x == ("__debug__" : Str)) = false := by decide) (he : starEach (e :: es) X.env = (false, eval e X.env) :: starEach es X.env := by rfl) (hpl : (backTo pos (starEach es X.env)).any (·.1) = false := by rfl) : PE X (.Call (.Name x p) (e :: es) [] pos) (tCall sp [] E0 t) := by
  obtain ⟨f, fd, F, hm, hk, hb⟩ := G.ex
  exact pe_call F hr hg hm hk hb .nil pass0 ha hdb he hpl
/-! ### own classes -/
structure MethAt (K : PySem.W.Frag) (C : Addr) (m qn : Str) (st : Stmt) (ps : List Str) : Prop where
  ex : ∃ f fd, Fun K m qn st f fd ∧ Meth K C m f ∧ Binds K fd ps []
structure MkAt (K : PySem.W.Frag) (C : Addr) (qn : Str) (st : Stmt) (ps : List Str) : Prop where
  ex : ∃ f fd, Fun K "__init__" qn st f fd ∧ Mk K C f ∧ Binds K fd ps []
structure MDef (P : Program) (w : World) (K : PySem.W.Frag) (mg : Str → Option Value) (base : Heap) (CX : CXT) (k : Nat) (C : Addr) (m : Str) (ps : List Str) (sp : Sp) : Prop where
  ex : ∃ f fd, FnOk P w K mg base CX k f fd ps sp ∧ Meth K C m f ∧ Binds K fd ps []
structure KDef (P : Program) (w : World) (K : PySem.W.Frag) (mg : Str → Option Value) (base : Heap) (CX : CXT) (k : Nat) (C : Addr) (ps : List Str) (sp : Sp) : Prop where
  ex : ∃ f fd, FnOk P w K mg base CX k f fd ps sp ∧ Mk K C f ∧ Binds K fd ps []
section
variable {P : Program} {w : World} {K : PySem.W.Frag} {mg : Str → Option Value} {base : Heap}
theorem MethAt.ok {C : Addr} {m qn : Str} {st : Stmt} {N ps : List Str} {k : Nat} {sp : Sp} (F : MethAt K C m qn st ps) (S : FnScope N ps (defScope st)) (len : ∀ vs H Q E, sp vs H Q E → vs.length = ps.length)
    (hbody : ∀ (f : Addr) (cdv : Value) (A : Around) (outer : List Env) (s : Shared) (H : Hp) (vs : List V) (Q : VK) (E : XK), Room k (A.deeper (envOfC qn (defScope st) s.heap.objs.size f cdv)) → sp vs H Q E →
      ∃ t, PSs (cxOf CX0 P w K mg base N qn (defScope st) f cdv A outer s H E).nox (defBody st) t ∧ t { nx := fun _ H' => Q .non H', rt := Q } (start N vs) H) : MDef P w K mg base CX0 (k + 1) C m ps sp := by
  obtain ⟨f, fd, F, hm, hb⟩ := F.ex
  exact ⟨f, fd, F.ok S len (hbody f), hm, hb⟩
theorem MkAt.ok {C : Addr} {qn : Str} {st : Stmt} {N ps : List Str} {k : Nat} {sp : Sp} (F : MkAt K C qn st ps) (S : FnScope N ps (defScope st)) (len : ∀ vs H Q E, sp vs H Q E → vs.length = ps.length)
    (hbody : ∀ (f : Addr) (cdv : Value) (A : Around) (outer : List Env) (s : Shared) (H : Hp) (vs : List V) (Q : VK) (E : XK), Room k (A.deeper (envOfC qn (defScope st) s.heap.objs.size f cdv)) → sp vs H Q E →
      ∃ t, PSs (cxOf CX0 P w K mg base N qn (defScope st) f cdv A outer s H E).nox (defBody st) t ∧ t { nx := fun _ H' => Q .non H', rt := Q } (start N vs) H) : KDef P w K mg base CX0 (k + 1) C ps sp := by
  obtain ⟨f, fd, F, hm, hb⟩ := F.ex
  exact ⟨f, fd, F.ok S len (hbody f), hm, hb⟩
end
theorem pe_makeD {X : Cx} {k : Nat} {ps : List Str} {sp : Sp} {C : Addr} {x : Str} {p pos : Pos} {e : Expr} {es : List Expr} {t : TA} (G : KDef X.prog X.w X.K X.mg X.base CX0 k C ps sp) (hm : X.mg x = some (.ref C)) (hr : Room (k + 1) X.A) (ha : PA X (e :: es) t) (hg : Gl X x := by rfl)
    (hdb : (x == ("__debug__" : Str)) = false := by decide) (he : starEach (e :: es) X.env = (false, eval e X.env) :: starEach es X.env := by rfl) (hpl : (backTo pos (starEach es X.env)).any (·.1) = false := by rfl) : PE X (.Call (.Name x p) (e :: es) [] pos) (tMake C sp [] E0 t) := by
  obtain ⟨f, fd, F, M, hb⟩ := G.ex
  exact pe_make M F hr hg hm hb .nil pass0 ha hdb he hpl
theorem pe_methD {X : Cx} {k : Nat} {ps : List Str} {sp : Sp} {C : Addr} {m : Str} {o e : Expr} {es : List Expr} {apos pos : Pos} {ta : TE} {t : TA} {pl : Sem Bool} (he : PE X o ta) (c : Cls X.K C) (G : MDef X.prog X.w X.K X.mg X.base CX0 k C m ps sp) (hr : Room k X.A) (ha : PA X (e :: es) t)
    (hst : starEach (e :: es) X.env = (false, eval e X.env) :: starEach es X.env := by rfl) (hpl : (backTo pos (starEach es X.env)).any (·.1) = false := by rfl)
    (ht : eval (.Call (.Attribute o m apos) (e :: es) [] pos) X.env = (do
      let ov ← eval o X.env
      standAt apos.atName
      let (f, first) ← holding [ov] (getMethod ov m pl)
      callWith pos f first (backTo pos (starEach (e :: es) X.env)) (backToKw pos (keywordEach [] X.env))) := by rfl) :
    PE X (.Call (.Attribute o m apos) (e :: es) [] pos) (tMeth C m sp [] E0 ta t) := by
  obtain ⟨f, fd, F, M, hb⟩ := G.ex
  exact pe_meth he c M F hr hb .nil pass0 ha hst hpl ht
theorem r_make {C : Addr} {sp : Sp} {E : XK} {t : TA} {σ : L2.St} {H : Hp} {Q : VK} (q : t σ H fun vs H1 => ∀ x dx, H1 x = none → H1 dx = none → dx ≠ x → sp (.ref x :: (vs ++ [])) (upd (upd H1 dx (.own x)) x (.ins C dx [])) (fun v H2 => v = .non ∧ Q (.ref x) H2) E) : tMake C sp [] E t σ H Q := q
theorem r_meth {C : Addr} {m : Str} {sp : Sp} {E : XK} {ta : TE} {t : TA} {σ : L2.St} {H : Hp} {Q : VK} (q : ta σ H fun x H1 => ∃ a dx fs, x = .ref a ∧ H1 a = some (.ins C dx fs) ∧ fs.lookup m = none ∧ t σ H1 fun vs H2 => sp (x :: (vs ++ [])) H2 Q E) : tMeth C m sp [] E ta t σ H Q := q
theorem r_fldq {K : PySem.W.Frag} {ta : TE} {f : Str} {σ : L2.St} {H : Hp} {Q : VK} (q : ta σ H fun x H1 => ∃ a C dx fs v, x = .ref a ∧ H1 a = some (.ins C dx fs) ∧ Cls K C ∧ NoAttr K C f ∧ fs.lookup f = some v ∧ Q v H1) : tFld K ta f σ H Q := q
theorem r_sfld {K : PySem.W.Frag} {ta tv : TE} {f : Str} {D : Ends} {σ : L2.St} {H : Hp} (q : tv σ H fun y H1 => ta σ H1 fun x H2 => ∃ a C dx fs, x = .ref a ∧ H2 a = some (.ins C dx fs) ∧ Cls K C ∧ NoAttr K C f ∧ fs.length < 1000 ∧ D.nx σ (upd H2 a (.ins C dx (putF f y fs)))) : sFld K ta tv f D σ H := q
/-! ### the same rules, K told -/
theorem pg_tupK {X : Cx} {K : PySem.W.Frag} {es : List Expr} {k : Nat} {t : TGs} {n : Nat} {pos : Pos} (hK : X.K = K) (hc : X.calm = true) (h : PGs X es t)
    (hn : (assignEach es X.env).length = n := by rfl) (hst : (assignEach es X.env).findIdx? (·.1) = none := by rfl) : PG X (.Tuple es k pos) (gTup K n t) := by
  subst hK
  exact pg_tup hc h hn hst
theorem pe_bmK {X : Cx} {K : PySem.W.Frag} {o e : Expr} {es : List Expr} {to : TE} {t : TA} {name : Str} {apos cpos : Pos} {T id : String} {r : V → List V → Hp → VK → Prop} (hK : X.K = K) (pa : PlainAttrs T) (slot : Slot T name id) (hty : typeOf (.builtin id) = pure (.type "method_descriptor")) (hm : MtR X id r) (ho : PE X o to) (ha : PA X (e :: es) t)
    (hbase : attributeBase o name X.env (eval o X.env) = eval o X.env := by rfl) (hfew : ((backTo cpos (starEach (e :: es) X.env)).all (fun x => !x.1) && (backToKw cpos (keywordEach [] X.env)).all (fun x => x.1.isSome) && decide ((e :: es).length + ([] : List Keyword).length + (if ([] : List Keyword).isEmpty then 0 else 1) < 30)) = true := by rfl)
    (hline : (apos.endLine == cpos.line) = true := by rfl) (hst : starEach (e :: es) X.env = (false, eval e X.env) :: starEach es X.env := by rfl) (hpl : (backTo cpos (starEach es X.env)).any (·.1) = false := by rfl) : PE X (.Call (.Attribute o name apos) (e :: es) [] cpos) (tBM K T r to t) := by
  subst hK
  exact pe_bm pa slot hty hm ho ha hbase hfew hline hst hpl
theorem r_ext {H H0 : Hp} {Q : VK} {L : List (Addr × HO)} {l b : Addr} {xs zs : List V} (o : Own H0 H L) (n m : Nat) (h : L[n]? = some (l, .lst xs)) (h2 : L[m]? = some (b, .lst zs)) (hz : xs.length + zs.length ≤ 10000000) (k : ∀ H', Own H0 H' (L.set n (l, .lst (xs ++ zs))) → Q .non H') : rExtend (.ref l) [.ref b] H Q :=
  ⟨l, b, xs, zs, rfl, rfl, o.at n h, o.at m h2, sz100 hz, k _ (o.set n h)⟩
theorem take_flat {α β : Type} {f : α → List β} {zs : List α} {i : Nat} {z : α} (h : zs[i]? = some z) : (zs.take (i + 1)).flatMap f = (zs.take i).flatMap f ++ f z := by
  rw [List.take_add_one, h, List.flatMap_append]
  simp
theorem get_ints {ns : List Int} {i : Nat} {x : V} (h : (ns.map V.int)[i]? = some x) : ∃ z, ns[i]? = some z ∧ x = .int z := by
  rw [List.getElem?_map] at h
  cases h2 : ns[i]? with
  | none => rw [h2] at h; cases h
  | some v => rw [h2] at h; cases h; exact ⟨v, rfl, rfl⟩
theorem r_bmE {K : PySem.W.Frag} {T : String} {f : V → List V → Hp → VK → Prop} {te : TE} {tr : TA} {σ : L2.St} {H : Hp} {Q : VK} (q : te σ H fun x H1 => tyV K T x H1 ∧ tr σ H1 fun vs H2 => f x vs H2 Q) : tBM K T f te tr σ H Q := q
theorem pe_callD0 {X : Cx} {k : Nat} {sp : Sp} {x : Str} {p pos : Pos} (G : Def X.prog X.w X.K X.mg X.base CX0 k x [] sp) (hr : Room k X.A) (hg : Gl X x := by rfl) (hdb : (x == ("__debug__" : Str)) = false := by decide) : PE X (.Call (.Name x p) [] [] pos) (tCall sp [] E0 tNil) := by
  obtain ⟨f, fd, F, hm, hk, hb⟩ := G.ex
  exact pe_call0 F hr hg hm hk hb .nil pass0 hdb
theorem pe_methD0 {X : Cx} {k : Nat} {ps : List Str} {sp : Sp} {C : Addr} {m : Str} {o : Expr} {apos pos : Pos} {ta : TE} {pl : Sem Bool} (he : PE X o ta) (c : Cls X.K C) (G : MDef X.prog X.w X.K X.mg X.base CX0 k C m ps sp) (hr : Room k X.A)
    (ht : eval (.Call (.Attribute o m apos) [] [] pos) X.env = (do
      let ov ← eval o X.env
      standAt apos.atName
      let (f, first) ← holding [ov] (getMethod ov m pl)
      callWith pos f first (backTo pos (starEach [] X.env)) (backToKw pos (keywordEach [] X.env))) := by rfl) :
    PE X (.Call (.Attribute o m apos) [] [] pos) (tMeth C m sp [] E0 ta tNil) := by
  obtain ⟨f, fd, F, M, hb⟩ := G.ex
  exact pe_meth0 he c M F hr hb .nil pass0 ht
end RD
namespace My
open PySem PySem.Spec PyProof.Rows L2 RD
local macro_rules | `(tactic| walk_at "sq") => `(tactic| (first
  | assumption
  | exact Own.sqL (by assumption) 0 (by exact rfl)
  | exact Own.sqL (by assumption) 1 (by exact rfl)
  | exact Own.sqL (by assumption) 2 (by exact rfl)
  | exact Own.sqL (by assumption) 3 (by exact rfl)
  | exact Own.sqL (by assumption) 4 (by exact rfl)
  | exact Own.sqL (by assumption) 5 (by exact rfl)
  | exact Own.sqL (by assumption) 6 (by exact rfl)
  | exact Own.sqL (by assumption) 7 (by exact rfl)
  | exact Own.sqL (by assumption) 8 (by exact rfl)
  | exact Own.sqL (by assumption) 9 (by exact rfl)
  | exact Own.sqL (by assumption) 10 (by exact rfl)
  | exact Own.sqL (by assumption) 11 (by exact rfl)
  | exact Own.sqL (by assumption) 12 (by exact rfl)
  | exact Own.sqL (by assumption) 13 (by exact rfl)
  | exact Own.sqL (by assumption) 14 (by exact rfl)
  | exact Own.sqL (by assumption) 15 (by exact rfl)
  | exact Own.sqL (by assumption) 16 (by exact rfl)
  | exact Own.old (by assumption) (by assumption)))
local macro_rules | `(tactic| walk_at "sqT") => `(tactic| (first
  | assumption
  | exact Own.sqT (by assumption) 0 (by exact rfl)
  | exact Own.sqT (by assumption) 1 (by exact rfl)
  | exact Own.sqT (by assumption) 2 (by exact rfl)
  | exact Own.sqT (by assumption) 3 (by exact rfl)
  | exact Own.sqT (by assumption) 4 (by exact rfl)
  | exact Own.sqT (by assumption) 5 (by exact rfl)
  | exact Own.sqT (by assumption) 6 (by exact rfl)
  | exact Own.sqT (by assumption) 7 (by exact rfl)
  | exact Own.sqT (by assumption) 8 (by exact rfl)
  | exact Own.sqT (by assumption) 9 (by exact rfl)
  | exact Own.sqT (by assumption) 10 (by exact rfl)
  | exact Own.sqT (by assumption) 11 (by exact rfl)
  | exact Own.sqT (by assumption) 12 (by exact rfl)
  | exact Own.sqT (by assumption) 13 (by exact rfl)
  | exact Own.sqT (by assumption) 14 (by exact rfl)
  | exact Own.sqT (by assumption) 15 (by exact rfl)
  | exact Own.sqT (by assumption) 16 (by exact rfl)
  | exact Own.oldT (by assumption) (by assumption)))
local macro_rules | `(tactic| walk_at "at") => `(tactic| (first
  | assumption
  | exact Own.at (by assumption) 0 (by exact rfl)
  | exact Own.at (by assumption) 1 (by exact rfl)
  | exact Own.at (by assumption) 2 (by exact rfl)
  | exact Own.at (by assumption) 3 (by exact rfl)
  | exact Own.at (by assumption) 4 (by exact rfl)
  | exact Own.at (by assumption) 5 (by exact rfl)
  | exact Own.at (by assumption) 6 (by exact rfl)
  | exact Own.at (by assumption) 7 (by exact rfl)
  | exact Own.at (by assumption) 8 (by exact rfl)
  | exact Own.at (by assumption) 9 (by exact rfl)
  | exact Own.at (by assumption) 10 (by exact rfl)
  | exact Own.at (by assumption) 11 (by exact rfl)
  | exact Own.at (by assumption) 12 (by exact rfl)
  | exact Own.at (by assumption) 13 (by exact rfl)
  | exact Own.at (by assumption) 14 (by exact rfl)
  | exact Own.at (by assumption) 15 (by exact rfl)
  | exact Own.at (by assumption) 16 (by exact rfl)))
/-! ### the words -/
local macro_rules | `(tactic| walk_at "rd1") => `(tactic| (first
  | with_reducible refine r_seq ?_
  | with_reducible refine r_asg ?_
  | with_reducible refine r_name ?_
  | ((with_reducible refine r_var (v := ?_) ?h ?_); (case h => exact rfl))
  | with_reducible refine r_c ?_
  | with_reducible refine r_op ?_
  | with_reducible refine r_I0 ?_
  | with_reducible refine r_un ?_
  | with_reducible refine r_U ?_
  | with_reducible refine r_eqI ?_
  | with_reducible refine r_neI ?_
  | with_reducible refine r_eqS ?_
  | with_reducible refine r_neS ?_
  | with_reducible refine r_test ?_
  | with_reducible refine r_tB ?_
  | with_reducible refine r_bl ?_
  | with_reducible refine r_and ?_
  | with_reducible refine r_or ?_
  | with_reducible refine r_not ?_
  | with_reducible refine r_andV ?_
  | with_reducible refine r_orV ?_
  | with_reducible refine r_notV ?_
  | with_reducible refine r_ifE ?_
  | with_reducible refine r_ifS ?_
  | with_reducible refine r_ret ?_
  | with_reducible refine r_retN ?_
  | with_reducible refine r_drop ?_
  | with_reducible refine r_next ?_
  | with_reducible refine r_break ?_
  | with_reducible refine r_cont ?_
  | with_reducible refine r_nil ?_
  | with_reducible refine r_cons ?_
  | with_reducible refine r_tup ?_
  | with_reducible refine r_lst ?_
  | with_reducible refine r_CB ?_
  | with_reducible refine r_call ?_
  | with_reducible refine r_sl ?_
  | with_reducible refine r_par ?_
  | with_reducible refine r_make ?_
  | with_reducible refine r_meth ?_
  | with_reducible refine r_fldq ?_
  | with_reducible refine r_sfld ?_
  | with_reducible refine r_nopart ?_
  | with_reducible refine r_part ?_
  | with_reducible refine r_pt ?_
  | ((with_reducible refine r_aug (x := ?_) ?h ?_); (case h => exact rfl))
  | with_reducible refine r_ipI ?_
  | ((with_reducible refine r_isi (T := ?_) (b := true) ?t ?k ?_); (case t => first | exact ty_int | exact ty_str | exact ty_non | exact ty_list (by walk_at "at") | exact ty_tup (by walk_at "at") | exact ty_sqT (by assumption) | exact ty_sqL (by assumption)); (case k => decide +kernel))
  | ((with_reducible refine r_isi (T := ?_) (b := false) ?t ?k ?_); (case t => first | exact ty_int | exact ty_str | exact ty_non | exact ty_list (by walk_at "at") | exact ty_tup (by walk_at "at") | exact ty_sqT (by assumption) | exact ty_sqL (by assumption)); (case k => decide +kernel))
  | with_reducible refine rif_t ?_
  | with_reducible refine rif_f ?_
  | with_reducible refine rif_nt ?_
  | with_reducible refine rif_nf ?_
  | with_reducible refine r_for ?_
  | with_reducible refine r_rng1 ?_
  | with_reducible refine r_rng2 ?_
  | with_reducible refine r_rng3 ?_
  | with_reducible refine r_iL ?_
  | with_reducible refine r_iT ?_
  | with_reducible refine r_lc ?_
  | with_reducible refine r_lc2 ?_
  | with_reducible refine r_sl3 ?_
  | ((with_reducible refine r_I ?c ?_); (case c => first | exact ⟨by decide, by decide⟩ | exact ⟨by decide, by decide, by decide⟩ | exact ⟨by decide, by decide, by omega⟩ | (show (0 : Int) < _; decide) | exact .inr ⟨by decide, by decide⟩ | exact .inl ⟨by decide, by decide⟩ | assumption | exact .inl ⟨by omega, by omega⟩ | exact .inr ⟨by omega, by omega⟩ | (show (0 : Int) < _; omega) | exact ⟨by omega, by omega⟩))
  | ((with_reducible refine r_bm (l := ?_) ?h ?t ?_); (case h => exact rfl); (case t => exact ty_lst (by walk_at "at")))
  | with_reducible refine r_int ?_
  | ((with_reducible refine r_lenS ?z ?_); (case z => first | omega | (simp; done)))
  | ((with_reducible refine r_slS ?z ?_); (case z => omega))
  | ((with_reducible refine r_addS ?z ?_); (case z => omega))
  | with_reducible refine r_zipA ?_
  | with_reducible refine r_max2 ?_
  | with_reducible refine r_min2 ?_
  | with_reducible refine r_isNonN ?_
  | with_reducible refine r_isNonR ?_
  | with_reducible refine r_isNonI ?_
  | with_reducible refine r_notNonN ?_
  | with_reducible refine r_notNonR ?_
  | with_reducible refine r_notNonI ?_
  | with_reducible refine r_chain ?_
  | with_reducible refine r_isB ?_
  | ((with_reducible refine r_ixI (ns := ?_) ?h ?b0 ?b1 ?_); (case h => walk_at "sq"); (case b0 => omega); (case b1 => first | omega | (simp; done) | (simp; omega)))
  | ((with_reducible refine r_ixIT (ns := ?_) ?h ?b0 ?b1 ?_); (case h => walk_at "sqT"); (case b0 => omega); (case b1 => first | omega | (simp; done) | (simp; omega)))
  | ((with_reducible refine r_ixqL (ns := ?_) ?h ?b0 ?b1 ?_); (case h => walk_at "sq"); (case b0 => omega); (case b1 => first | omega | (simp; done) | (simp; omega)))
  | ((with_reducible refine r_ixqT (ns := ?_) ?h ?b0 ?b1 ?_); (case h => walk_at "sqT"); (case b0 => omega); (case b1 => first | omega | (simp; done) | (simp; omega)))
  | ((with_reducible refine r_sum (ns := ?_) ?h ?_); (case h => walk_at "sq"))
  | ((with_reducible refine r_eqSame (ns := ?_) ?h ?h2 ?_); (case h => walk_at "sq"); (case h2 => walk_at "sq"))
  | ((with_reducible refine r_neSame (ns := ?_) ?h ?h2 ?_); (case h => walk_at "sq"); (case h2 => walk_at "sq"))
  | with_reducible refine r_intB ?_
  | ((with_reducible refine r_len (xs := ?_) ?h ?_); (case h => walk_at "sq"))
  | ((with_reducible refine r_lenT (xs := ?_) ?h ?_); (case h => walk_at "sqT"))
  | ((with_reducible refine r_gTup2 (x := ?_) (y := ?_) ?h ?_); (case h => walk_at "sqT"))
  | with_reducible refine r_bmE ?_
  | with_reducible refine r_set ?_))
local macro_rules | `(tactic| walk_at "rd") => `(tactic| (repeat' (walk_at "rd1")))
def topS (i : Nat) : Stmt := PySem.Challenge.pw_tessera_k17_differences_and_planes.main.body.getD i (.Pass ⟨0, 0, 0, 0⟩)
abbrev s_apply_filter : Stmt := topS 6
abbrev N_apply_filter : List Str := ["name", "values", "size"]
theorem sc_apply_filter : FnScope N_apply_filter ["name", "values", "size"] (defScope s_apply_filter) := ⟨rfl, rfl, rfl, by decide +kernel, rfl, by decide +kernel, by decide +kernel⟩
abbrev s_undo_filter : Stmt := topS 7
abbrev N_undo_filter : List Str := ["name", "values", "size"]
theorem sc_undo_filter : FnScope N_undo_filter ["name", "values", "size"] (defScope s_undo_filter) := ⟨rfl, rfl, rfl, by decide +kernel, rfl, by decide +kernel, by decide +kernel⟩
abbrev s_apply_delta : Stmt := topS 8
abbrev N_apply_delta : List Str := ["values", "differences", "before", "value"]
theorem sc_apply_delta : FnScope N_apply_delta ["values"] (defScope s_apply_delta) := ⟨rfl, rfl, rfl, by decide +kernel, rfl, by decide +kernel, by decide +kernel⟩
abbrev s_undo_delta : Stmt := topS 9
abbrev N_undo_delta : List Str := ["values", "summed", "before", "value"]
theorem sc_undo_delta : FnScope N_undo_delta ["values"] (defScope s_undo_delta) := ⟨rfl, rfl, rfl, by decide +kernel, rfl, by decide +kernel, by decide +kernel⟩
abbrev s_plane_order : Stmt := topS 10
abbrev N_plane_order : List Str := ["count", "size", "plane", "place"]
theorem sc_plane_order : FnScope N_plane_order ["count", "size"] (defScope s_plane_order) := ⟨rfl, rfl, rfl, by decide +kernel, rfl, by decide +kernel, by decide +kernel⟩
abbrev s_apply_planes : Stmt := topS 11
abbrev N_apply_planes : List Str := ["values", "size", "place"]
theorem sc_apply_planes : FnScope N_apply_planes ["values", "size"] (defScope s_apply_planes) := ⟨rfl, rfl, rfl, by decide +kernel, rfl, by decide +kernel, by decide +kernel⟩
abbrev s_undo_planes : Stmt := topS 12
abbrev N_undo_planes : List Str := ["values", "size", "dealt", "place", "value"]
theorem sc_undo_planes : FnScope N_undo_planes ["values", "size"] (defScope s_undo_planes) := ⟨rfl, rfl, rfl, by decide +kernel, rfl, by decide +kernel, by decide +kernel⟩
abbrev s_apply_runs : Stmt := topS 13
abbrev N_apply_runs : List Str := ["values", "pairs", "start", "behind"]
theorem sc_apply_runs : FnScope N_apply_runs ["values"] (defScope s_apply_runs) := ⟨rfl, rfl, rfl, by decide +kernel, rfl, by decide +kernel, by decide +kernel⟩
abbrev s_undo_runs : Stmt := topS 14
abbrev N_undo_runs : List Str := ["values", "counts", "repeated", "at", "unpacked", "count", "value"]
theorem sc_undo_runs : FnScope N_undo_runs ["values"] (defScope s_undo_runs) := ⟨rfl, rfl, rfl, by decide +kernel, rfl, by decide +kernel, by decide +kernel⟩
abbrev s_apply_zeros : Stmt := topS 15
abbrev N_apply_zeros : List Str := ["values", "kept", "count"]
theorem sc_apply_zeros : FnScope N_apply_zeros ["values"] (defScope s_apply_zeros) := ⟨rfl, rfl, rfl, by decide +kernel, rfl, by decide +kernel, by decide +kernel⟩
abbrev s_undo_zeros : Stmt := topS 16
abbrev N_undo_zeros : List Str := ["values", "count"]
theorem sc_undo_zeros : FnScope N_undo_zeros ["values"] (defScope s_undo_zeros) := ⟨rfl, rfl, rfl, by decide +kernel, rfl, by decide +kernel, by decide +kernel⟩
abbrev s__law_cell : Stmt := topS 18
abbrev N__law_cell : List Str := ["script", "k"]
theorem sc__law_cell : FnScope N__law_cell ["script", "k"] (defScope s__law_cell) := ⟨rfl, rfl, rfl, by decide +kernel, rfl, by decide +kernel, by decide +kernel⟩
abbrev s__law_draws : Stmt := topS 19
abbrev N__law_draws : List Str := ["cell", "count", "rows", "left", "k", "mixed"]
theorem sc__law_draws : FnScope N__law_draws ["cell", "count"] (defScope s__law_draws) := ⟨rfl, rfl, rfl, by decide +kernel, rfl, by decide +kernel, by decide +kernel⟩
abbrev s__law_is_int : Stmt := topS 20
abbrev N__law_is_int : List Str := ["x"]
theorem sc__law_is_int : FnScope N__law_is_int ["x"] (defScope s__law_is_int) := ⟨rfl, rfl, rfl, by decide +kernel, rfl, by decide +kernel, by decide +kernel⟩
abbrev s__law_is_number : Stmt := topS 21
abbrev N__law_is_number : List Str := ["x", "due"]
theorem sc__law_is_number : FnScope N__law_is_number ["x", "due"] (defScope s__law_is_number) := ⟨rfl, rfl, rfl, by decide +kernel, rfl, by decide +kernel, by decide +kernel⟩
abbrev s__law_same_ints : Stmt := topS 22
abbrev N__law_same_ints : List Str := ["x", "due", "k"]
theorem sc__law_same_ints : FnScope N__law_same_ints ["x", "due"] (defScope s__law_same_ints) := ⟨rfl, rfl, rfl, by decide +kernel, rfl, by decide +kernel, by decide +kernel⟩
abbrev s__law_stream : Stmt := topS 23
abbrev N__law_stream : List Str := ["script", "count", "rows", "k"]
theorem sc__law_stream : FnScope N__law_stream ["script", "count"] (defScope s__law_stream) := ⟨rfl, rfl, rfl, by decide +kernel, rfl, by decide +kernel, by decide +kernel⟩
abbrev s__law_filter : Stmt := topS 24
abbrev N__law_filter : List Str := ["name", "values", "size", "k", "found", "plane", "value", "many"]
theorem sc__law_filter : FnScope N__law_filter ["name", "values", "size"] (defScope s__law_filter) := ⟨rfl, rfl, rfl, by decide +kernel, rfl, by decide +kernel, by decide +kernel⟩
abbrev s__law_plain_bytes : Stmt := topS 25
abbrev N__law_plain_bytes : List Str := ["draws", "most", "many", "rows", "k", "way", "value"]
theorem sc__law_plain_bytes : FnScope N__law_plain_bytes ["draws", "most"] (defScope s__law_plain_bytes) := ⟨rfl, rfl, rfl, by decide +kernel, rfl, by decide +kernel, by decide +kernel⟩
abbrev s_law : Stmt := topS 26
abbrev N_law : List Str := ["script", "draws", "values", "size", "name", "handed", "due", "told"]
theorem sc_law : FnScope N_law ["script"] (defScope s_law) := ⟨rfl, rfl, rfl, by decide +kernel, rfl, by decide +kernel, by decide +kernel⟩
structure Top (K : PySem.W.Frag) (mg : Str → Option Value) : Prop where
  f_apply_filter : FunAt K mg "apply_filter" s_apply_filter ["name", "values", "size"]
  f_undo_filter : FunAt K mg "undo_filter" s_undo_filter ["name", "values", "size"]
  f_apply_delta : FunAt K mg "apply_delta" s_apply_delta ["values"]
  f_undo_delta : FunAt K mg "undo_delta" s_undo_delta ["values"]
  f_plane_order : FunAt K mg "plane_order" s_plane_order ["count", "size"]
  f_apply_planes : FunAt K mg "apply_planes" s_apply_planes ["values", "size"]
  f_undo_planes : FunAt K mg "undo_planes" s_undo_planes ["values", "size"]
  f_apply_runs : FunAt K mg "apply_runs" s_apply_runs ["values"]
  f_undo_runs : FunAt K mg "undo_runs" s_undo_runs ["values"]
  f_apply_zeros : FunAt K mg "apply_zeros" s_apply_zeros ["values"]
  f_undo_zeros : FunAt K mg "undo_zeros" s_undo_zeros ["values"]
  f__law_cell : FunAt K mg "_law_cell" s__law_cell ["script", "k"]
  f__law_draws : FunAt K mg "_law_draws" s__law_draws ["cell", "count"]
  f__law_is_int : FunAt K mg "_law_is_int" s__law_is_int ["x"]
  f__law_is_number : FunAt K mg "_law_is_number" s__law_is_number ["x", "due"]
  f__law_same_ints : FunAt K mg "_law_same_ints" s__law_same_ints ["x", "due"]
  f__law_stream : FunAt K mg "_law_stream" s__law_stream ["script", "count"]
  f__law_filter : FunAt K mg "_law_filter" s__law_filter ["name", "values", "size"]
  f__law_plain_bytes : FunAt K mg "_law_plain_bytes" s__law_plain_bytes ["draws", "most"]
  f_law : FunAt K mg "law" s_law ["script"]
  g_LONGEST_RUN : ∃ t, mg "LONGEST_RUN" = some (.int 255 t)
  g_MOST_ZEROS : ∃ t, mg "MOST_ZEROS" = some (.int 65535 t)
  b_bool : mg "bool" = none
  b_int : mg "int" = none
  b_isinstance : mg "isinstance" = none
  b_len : mg "len" = none
  b_list : mg "list" = none
  b_min : mg "min" = none
  b_range : mg "range" = none
  b_zip : mg "zip" = none
/-! ### the law's helpers -/
def Dr (ns : List Int) : Prop := ∀ x ∈ ns, 0 ≤ x ∧ x < 4096
theorem Dr.gi {ns : List Int} (d : Dr ns) {i : Int} (h0 : 0 ≤ i) (h1 : i < ns.length) : 0 ≤ gi ns i ∧ gi ns i < 4096 := d _ (gi_mem h0 h1)
theorem Dr.app {ns : List Int} (d : Dr ns) {x : Int} (h0 : 0 ≤ x) (h1 : x < 4096) : Dr (ns ++ [x]) := fun y hy => by
  rcases List.mem_append.mp hy with h | h
  · exact d y h
  · rw [List.mem_singleton.mp h]; exact ⟨h0, h1⟩
theorem Dr.app2 {ns ms : List Int} (d : Dr ns) (e : Dr ms) : Dr (ns ++ ms) := fun y hy => by
  rcases List.mem_append.mp hy with h | h
  · exact d y h
  · exact e y h
theorem Dr.take {ns : List Int} (d : Dr ns) (n : Nat) : Dr (ns.take n) := fun y hy => d y (List.mem_of_mem_take hy)
section
variable {P : Program} {w : World} {K : PySem.W.Frag} {mg : Str → Option Value} {base : Heap}
def sp_cell (K : PySem.W.Frag) : Sp := fun vs H Q _ => ∃ (a : Addr) (ns : List Int) (i : Int), vs = [.ref a, .int i] ∧ SqL K H a (ns.map V.int) ∧ 0 ≤ i ∧ Q (.int (gi ns i)) H
theorem d_cell (T : Top K mg) : Def P w K mg base CX0 1 "_law_cell" ["script", "k"] (sp_cell K) := by
  refine T.f__law_cell.ok sc__law_cell (by rintro vs H Q E ⟨a, ns, i, rfl, _⟩; rfl) (fun f cdv A outer s H vs Q E hr h => ?_)
  obtain ⟨a, ns, i, rfl, hS, h0, q⟩ := h
  refine ⟨_, (pss_cons (ps_if (pt_cmpR op_lt (pv 1) (pe_callB (r := Evl.rLenS K) call_len_seq (by rfl) T.b_len (by decide +kernel) (pa_cons (pv 0) pa_nil)) (nomark _)) (pss_one (ps_ret (pe_ix (r := rIxL K) ix_list (pv 0) (pv 1) (fun _ _ => rfl)))) pss_nil)
      (pss_one (ps_ret pe_int))), ?_⟩
  walk_at "rd"
  refine rif (fun h => ?_) fun h => ?_
  · walk_at "rd"
    rw [List.length_map] at h
    exact r_ixL hS (at_ints h0 h) q
  · walk_at "rd"
    rw [List.length_map] at h
    have e : gi ns i = 0 := by
      unfold gi
      rw [List.getD_eq_getElem?_getD, List.getElem?_eq_none (by omega)]
      rfl
    rw [e] at q
    exact q
def sp_draws : Sp := fun vs H Q _ => ∃ (c : Int) (n : Nat), vs = [.int c, .int n] ∧ n ≤ 1000 ∧ ∀ ns : List Int, ns.length = n → Dr ns → RetO H Q (.lst (ns.map V.int))
theorem d_draws (T : Top K mg) : Def P w K mg base CX0 1 "_law_draws" ["cell", "count"] sp_draws := by
  refine T.f__law_draws.ok sc__law_draws (by rintro vs H Q E ⟨c, n, rfl, _⟩; rfl) (fun f cdv A outer s H vs Q E hr h => ?_)
  obtain ⟨c, n, rfl, hn, q⟩ := h
  refine ⟨_, (pss_cons (ps_set (i := 2) sc__law_draws.nd rfl (Or.inl rfl) (pe_lst pa_nil))
      (pss_cons (ps_set (i := 3) sc__law_draws.nd rfl (Or.inl rfl) (pv 0))
      (pss_cons (ps_for PassesOwn.never rfl (pi_range1 (by rfl) T.b_range (pa_cons (pv 1) pa_nil)) (pg_name (i := 4) sc__law_draws.nd rfl (Or.inl rfl)) (pss_one (ps_if (pt_cutT (PW.pt (pw_and (pt_cmpR op_ge (pv 0) (pe_powC (c := 1000000000000000000) ⟨by decide, by decide, by decide⟩ (by decide +kernel)) (nomark _)) (pw_and1 (pt_cmpR op_gt (pv 3) pe_int (nomark _)))))) (pss_cons (ps_expr (pe_bm PySem.F.plainAttrs_list PySem.F.slot_list_append PySem.F.type_list_append mt_append (pv 2) (pa_cons (pe_op op_mod (pe_callTy (r := rInt1) call_int1 (by rfl) T.b_int (by decide +kernel) (pa_cons (pv 3) pa_nil)) pe_int) pa_nil)))
      (pss_one (ps_set (i := 3) sc__law_draws.nd rfl (Or.inl rfl) (pe_op op_fdiv (pv 3) pe_int)))) (pss_cons (ps_set (i := 5) sc__law_draws.nd rfl (Or.inl rfl) (pe_op op_mod (pe_callTy (r := rInt1) call_int1 (by rfl) T.b_int (by decide +kernel) (pa_cons (pe_op op_add (pe_op op_mul (pv 0) pe_int) (pe_op op_mul (pe_op op_add (pv 4) pe_int) pe_int)) pa_nil)) pe_int))
      (pss_cons (ps_set (i := 5) sc__law_draws.nd rfl (Or.inl rfl) (pe_op op_mod (pe_callTy (r := rInt1) call_int1 (by rfl) T.b_int (by decide +kernel) (pa_cons (pe_op op_add (pe_op op_add (pe_op op_mul (pv 5) (pv 5)) (pe_op op_mul (pv 5) pe_int)) (pe_op op_mul (pv 4) pe_int)) pa_nil)) pe_int))
      (pss_cons (ps_set (i := 5) sc__law_draws.nd rfl (Or.inl rfl) (pe_op op_mod (pe_callTy (r := rInt1) call_int1 (by rfl) T.b_int (by decide +kernel) (pa_cons (pe_op op_add (pe_op op_add (pe_op op_mul (pv 5) (pv 5)) (pv 0)) (pe_op op_mul pe_int (pv 4))) pa_nil)) pe_int))
      (pss_one (ps_expr (pe_bm PySem.F.plainAttrs_list PySem.F.slot_list_append PySem.F.type_list_append mt_append (pv 2) (pa_cons (pe_op op_mod (pe_op op_fdiv (pv 5) pe_int) pe_int) pa_nil))))))))))
      (pss_one (ps_ret (pv 2)))))), ?_⟩
  walk_at "rd"
  refine r_newL (Own.nil H) (Nat.zero_le _) fun l H1 o1 => ?_
  walk_at "rd"
  refine forR1 (n := n) rfl (by omega) (fun i σ H' => ∃ (left : Int) (v1 v2 : Option V) (ns : List Int), σ = [some (.int c), some (.int n), some (.ref l), some (.int left), v1, v2] ∧ ns.length = i ∧ Dr ns ∧ Own H H' [(l, .lst (ns.map V.int))])
    ⟨c, none, none, [], rfl, rfl, fun _ h => absurd h (by simp), o1⟩ ?_ ?_
  · rintro i σ H' hi ⟨left, v1, v2, ns, rfl, hl, hd, o⟩
    have hz : (ns.map V.int).length < 10000000 := by rw [List.length_map]; omega
    walk_at "rd"
    refine r_cutT (fun _ H2 => H2 = H') ?_ ?_
    · walk_at "rd"
      refine rif (fun h1 => ?_) fun h1 => ?_ <;> walk_at "rd" <;> rfl
    rintro b _ rfl
    refine rif_b (fun _ => ?_) fun _ => ?_ <;> walk_at "rd"
    · refine r_app o 0 rfl hz fun H2 o2 => ?_
      walk_at "rd"
      refine ⟨_, _, _, ns ++ [_], rfl, ?_, ?_, (by rw [List.map_append]; exact o2)⟩
      · rw [List.length_append]; simp [hl]
      · exact hd.app (by omega) (by omega)
    · refine r_app o 0 rfl hz fun H2 o2 => ?_
      refine ⟨_, _, _, ns ++ [_], rfl, ?_, ?_, (by rw [List.map_append]; exact o2)⟩
      · rw [List.length_append]; simp [hl]
      · exact hd.app (by omega) (by omega)
  · rintro σ H' ⟨left, v1, v2, ns, rfl, hl, hd, o⟩
    walk_at "rd"
    exact (q ns hl hd).mk o 0 rfl
def sp_is_int : Sp := fun vs H Q _ => ∃ (i : Int), vs = [.int i] ∧ Q (.bl true) H
theorem d_is_int (T : Top K mg) : Def P w K mg base CX0 1 "_law_is_int" ["x"] sp_is_int := by
  refine T.f__law_is_int.ok sc__law_is_int (by rintro vs H Q E ⟨i, rfl, _⟩; rfl) (fun f cdv A outer s H vs Q E hr h => ?_)
  obtain ⟨i, rfl, q⟩ := h
  refine ⟨_, (pss_one (ps_ret (pe_and (pe_callB (r := rIsi K) call_isi (by rfl) T.b_isinstance (by decide +kernel) (pa_cons (pv 0) (pa_cons (pe_bltn (v := .ty "int") (by rfl) T.b_int (by decide +kernel) rfl) pa_nil))) (pe_one (pe_not (pe_callB (r := rIsi K) call_isi (by rfl) T.b_isinstance (by decide +kernel) (pa_cons (pv 0) (pa_cons (pe_bltn (v := .ty "bool") (by rfl) T.b_bool (by decide +kernel) rfl) pa_nil)))))))), ?_⟩
  walk_at "rd"
  exact q
def sp_is_number : Sp := fun vs H Q _ => ∃ (i j : Int), vs = [.int i, .int j] ∧ Q (.bl (decide (i = j))) H
theorem d_is_number (T : Top K mg) : Def P w K mg base CX0 2 "_law_is_number" ["x", "due"] sp_is_number := by
  have G__law_is_int : Def P w K mg base CX0 1 "_law_is_int" ["x"] sp_is_int := d_is_int T
  refine T.f__law_is_number.ok sc__law_is_number (by rintro vs H Q E ⟨i, j, rfl, _⟩; rfl) (fun f cdv A outer s H vs Q E hr h => ?_)
  obtain ⟨i, j, rfl, q⟩ := h
  refine ⟨_, (pss_one (ps_ret (pe_and (pe_callD G__law_is_int (hr.mono (by decide)) (pa_cons (pv 0) pa_nil)) (pe_one (pe_cmpR op_eq (pv 0) (pv 1) (nomark _)))))), ?_⟩
  walk_at "rd"
  refine ⟨i, rfl, ?_⟩
  walk_at "rd"
  exact q
def sp_same_ints (K : PySem.W.Frag) : Sp := fun vs H Q _ => ∃ (a b : Addr) (ns : List Int), vs = [.ref a, .ref b] ∧ H a = some (.lst (ns.map V.int)) ∧ SqL K H b (ns.map V.int) ∧ ns.length ≤ 10000000 ∧ Q (.bl true) H
theorem d_same_ints (T : Top K mg) : Def P w K mg base CX0 3 "_law_same_ints" ["x", "due"] (sp_same_ints K) := by
  have G__law_is_number : Def P w K mg base CX0 2 "_law_is_number" ["x", "due"] sp_is_number := d_is_number T
  refine T.f__law_same_ints.ok sc__law_same_ints (by rintro vs H Q E ⟨a, b, ns, rfl, _⟩; rfl) (fun f cdv A outer s H vs Q E hr h => ?_)
  obtain ⟨a, b, ns, rfl, hA, hB, hz, q⟩ := h
  have hA2 : SqL K H a (ns.map V.int) := SqL.of hA
  refine ⟨_, (pss_cons (ps_if (PW.pt (pw_or (pt_not (pt_val (pe_callB (r := rIsi K) call_isi (by rfl) T.b_isinstance (by decide +kernel) (pa_cons (pv 0) (pa_cons (pe_bltn (v := .ty "list") (by rfl) T.b_list (by decide +kernel) rfl) pa_nil))))) (pw_or1 (pt_cmpR op_ne (pe_callB (r := Evl.rLenS K) call_len_seq (by rfl) T.b_len (by decide +kernel) (pa_cons (pv 0) pa_nil)) (pe_callB (r := Evl.rLenS K) call_len_seq (by rfl) T.b_len (by decide +kernel) (pa_cons (pv 1) pa_nil)) (nomark _))))) (pss_one (ps_ret pe_bl)) pss_nil)
      (pss_cons (ps_for PassesOwn.never rfl (pi_range1 (by rfl) T.b_range (pa_cons (pe_callB (r := Evl.rLenS K) call_len_seq (by rfl) T.b_len (by decide +kernel) (pa_cons (pv 1) pa_nil)) pa_nil)) (pg_name (i := 2) sc__law_same_ints.nd rfl (Or.inl rfl)) (pss_one (ps_if (pt_not (pt_val (pe_callD G__law_is_number (hr.mono (by decide)) (pa_cons (pe_ix (r := rIxL K) ix_list (pv 0) (pv 2) (fun _ _ => rfl)) (pa_cons (pe_ix (r := rIxL K) ix_list (pv 1) (pv 2) (fun _ _ => rfl)) pa_nil))))) (pss_one (ps_ret pe_bl)) pss_nil)))
      (pss_one (ps_ret pe_bl)))), ?_⟩
  walk_at "rd"
  refine rif_nyes (by exact rfl) ?_
  walk_at "rd"
  refine forR1 (n := ns.length) (by rw [List.length_map]) (by rw [List.length_map]; omega) (fun i σ H' => H' = H ∧ ∃ v, σ = [some (.ref a), some (.ref b), v]) ⟨rfl, _, rfl⟩ ?_ ?_
  · rintro i σ H' hi ⟨rfl, v, rfl⟩
    walk_at "rd"
    refine ⟨_, _, rfl, ?_⟩
    walk_at "rd"
    rw [decide_eq_true rfl]
    walk_at "rd"
    exact ⟨rfl, _, rfl⟩
  · rintro σ H' ⟨rfl, v, rfl⟩
    walk_at "rd"
    exact q
def sp_stream (K : PySem.W.Frag) : Sp := fun vs H Q _ => ∃ (a : Addr) (ss : List Int) (n : Nat), vs = [.ref a, .int n] ∧ SqL K H a (ss.map V.int) ∧ n ≤ 1000 ∧ ∀ ns : List Int, ns.length = n → Dr ns → RetO H Q (.lst (ns.map V.int))
theorem d_stream (T : Top K mg) : Def P w K mg base CX0 2 "_law_stream" ["script", "count"] (sp_stream K) := by
  have G__law_cell : Def P w K mg base CX0 1 "_law_cell" ["script", "k"] (sp_cell K) := d_cell T
  have G__law_draws : Def P w K mg base CX0 1 "_law_draws" ["cell", "count"] sp_draws := d_draws T
  refine T.f__law_stream.ok sc__law_stream (by rintro vs H Q E ⟨a, ss, n, rfl, _⟩; rfl) (fun f cdv A outer s H vs Q E hr h => ?_)
  obtain ⟨a, ss, n, rfl, hS, hn, q⟩ := h
  refine ⟨_, (pss_cons (ps_set (i := 2) sc__law_stream.nd rfl (Or.inl rfl) (pe_lst pa_nil))
      (pss_cons (ps_for PassesOwn.never rfl (pi_range1 (by rfl) T.b_range (pa_cons (pe_op op_add pe_int (pe_op op_fdiv (pv 1) pe_int)) pa_nil)) (pg_name (i := 3) sc__law_stream.nd rfl (Or.inl rfl)) (pss_one (ps_set (i := 2) sc__law_stream.nd rfl (Or.inl rfl) (pe_op op_cat (pv 2) (pe_callD G__law_draws (hr.mono (by decide)) (pa_cons (pe_op op_add (pe_callD G__law_cell (hr.mono (by decide)) (pa_cons (pv 0) (pa_cons (pv 3) pa_nil))) (pe_op op_mul pe_int (pv 3))) (pa_cons pe_int pa_nil)))))))
      (pss_one (ps_ret (pe_slice (r := rSlL K) sl_list (pv 2) po_none (po_some (pv 1))))))), ?_⟩
  walk_at "rd"
  refine r_newL (Own.nil H) (Nat.zero_le _) fun l H1 o1 => ?_
  walk_at "rd"
  refine forR1 (n := 1 + n / 16) (by omega) (by omega) (fun i σ H' => ∃ (p : Addr) (v : Option V) (ns : List Int) (L : List (Addr × HO)), σ = [some (.ref a), some (.int n), some (.ref p), v] ∧ ns.length = 16 * i ∧ Dr ns ∧ Own H H' ((p, .lst (ns.map V.int)) :: L))
    ⟨l, none, [], [], rfl, rfl, fun _ h => absurd h (by simp), o1⟩ ?_ ?_
  · rintro i σ H' hi ⟨p, v, ns, L, rfl, hl, hd, o⟩
    walk_at "rd"
    refine ⟨_, _, _, rfl, o.old hS, by omega, ?_⟩
    walk_at "rd"
    refine ⟨_, 16, rfl, by omega, fun ms hm hdm H2 p2 s2 f2 e2 => ?_⟩
    have o2 := o.add s2 f2 e2
    refine r_cat o2 (o2.at 1 rfl) (o2.at 0 rfl) (by rw [List.length_map, List.length_map]; omega) fun p3 H3 o3 => ?_
    walk_at "rd"
    rw [← List.map_append] at o3
    refine ⟨p3, _, _, _, rfl, ?_, hd.app2 hdm, o3⟩
    rw [List.length_append]
    omega
  · rintro σ H' ⟨p, v, ns, L, rfl, hl, hd, o⟩
    walk_at "rd"
    refine r_slL o (o.sqL 0 rfl) fun p3 H3 o3 => ?_
    rw [cut_hi, ← List.map_take] at o3
    refine (q _ ?_ (hd.take n)).mk o3 0 rfl
    rw [List.length_take]
    omega
def spLaw (K : PySem.W.Frag) : Sp := fun vs H Q _ => ∃ (a : Addr) (ss : List Int), vs = [.ref a] ∧ SqL K H a (ss.map V.int) ∧ ss.length ≤ 63 ∧ (∀ z ∈ ss, PySem.Builtin.Int.intBits z ≤ 1048576) ∧ ∀ H', Q (.bl true) H'
theorem law_in {a : Addr} {ss : List Int} {H : Hp} (hl : ss.length ≤ 63) (hb : ∀ z ∈ ss, PySem.Builtin.Int.intBits z ≤ 1048576) (hS : SqL K H a (ss.map V.int)) : spLaw K [.ref a] H (fun v _ => v = .bl true) fun _ _ _ => False :=
  ⟨a, ss, rfl, hS, hl, hb, fun _ => rfl⟩
end

/-! ### loops over lists of ints that turn a state -/
def By (ns : List Int) : Prop := ∀ x ∈ ns, 0 ≤ x ∧ x < 256
theorem By.gi {ns : List Int} (d : By ns) {i : Int} (h0 : 0 ≤ i) (h1 : i < ns.length) : 0 ≤ gi ns i ∧ gi ns i < 256 := d _ (gi_mem h0 h1)
theorem By.app {ns ms : List Int} (d : By ns) (e : By ms) : By (ns ++ ms) := fun y hy => by
  rcases List.mem_append.mp hy with h | h
  · exact d y h
  · exact e y h
theorem By.take {ns : List Int} (d : By ns) (n : Nat) : By (ns.take n) := fun y hy => d y (List.mem_of_mem_take hy)
theorem By.drop {ns : List Int} (d : By ns) (n : Nat) : By (ns.drop n) := fun y hy => d y (List.mem_of_mem_drop hy)
theorem By.rep {x : Int} (n : Nat) (h : 0 ≤ x ∧ x < 256) : By (List.replicate n x) := fun y hy => by rw [List.eq_of_mem_replicate hy]; exact h
theorem fold_take {S : Type} {f : S → Int → S} {s : S} {ns : List Int} {i : Nat} {x : Int} (h : ns[i]? = some x) : (ns.take (i + 1)).foldl f s = f ((ns.take i).foldl f s) x := by
  rw [List.take_add_one, h, List.foldl_append]
  rfl
theorem int_at {ns : List Int} {i : Nat} {v : V} (h : (ns.map V.int)[i]? = some v) : ∃ x, ns[i]? = some x ∧ v = .int x := by
  rw [List.getElem?_map] at h
  cases e : ns[i]? with
  | none => rw [e] at h; cases h
  | some x => rw [e] at h; cases h; exact ⟨x, rfl, rfl⟩
theorem gi_of {ns : List Int} {i : Nat} {x : Int} (h : ns[i]? = some x) : gi ns (i : Int) = x := by
  unfold gi
  rw [List.getD_eq_getElem?_getD, show ((i : Int)).toNat = i from rfl, h]
  rfl
/-! ### delta -/
def stepD (s : List Int × Int) (x : Int) : List Int × Int := (s.1 ++ [(x - s.2) % 256], x)
def stepU (s : List Int × Int) (x : Int) : List Int × Int := (s.1 ++ [(s.2 + x) % 256], (s.2 + x) % 256)
def dlt (ns : List Int) : List Int := (ns.foldl stepD ([], 0)).1
def und (ns : List Int) : List Int := (ns.foldl stepU ([], 0)).1
theorem stepD_len : ∀ (ns : List Int) (s : List Int × Int), (ns.foldl stepD s).1.length = s.1.length + ns.length
  | [], s => rfl
  | x :: ns, s => by
    rw [List.foldl_cons, stepD_len ns, List.length_cons]
    show (s.1 ++ [_]).length + ns.length = _
    rw [List.length_append]
    simp
    omega
theorem stepU_len : ∀ (ns : List Int) (s : List Int × Int), (ns.foldl stepU s).1.length = s.1.length + ns.length
  | [], s => rfl
  | x :: ns, s => by
    rw [List.foldl_cons, stepU_len ns, List.length_cons]
    show (s.1 ++ [_]).length + ns.length = _
    rw [List.length_append]
    simp
    omega
def sp_l1 (K : PySem.W.Frag) (g : List Int → List Int) : Sp := fun vs H Q _ => ∃ (a : Addr) (ns : List Int), vs = [.ref a] ∧ SqL K H a (ns.map V.int) ∧ By ns ∧ ns.length ≤ 1000000 ∧ RetO H Q (.lst ((g ns).map V.int))
section
variable {P : Program} {w : World} {K : PySem.W.Frag} {mg : Str → Option Value} {base : Heap}
theorem d_apply_delta (T : Top K mg) : Def P w K mg base CX0 1 "apply_delta" ["values"] (sp_l1 K dlt) := by
  refine T.f_apply_delta.ok sc_apply_delta (by rintro vs H Q E ⟨a, ns, rfl, _⟩; rfl) (fun f cdv A outer s H vs Q E hr h => ?_)
  obtain ⟨a, ns, rfl, hS, hby, hz, q⟩ := h
  refine ⟨_, (pss_cons (ps_set (i := 1) sc_apply_delta.nd rfl (Or.inl rfl) (pe_lst pa_nil))
      (pss_cons (ps_set (i := 2) sc_apply_delta.nd rfl (Or.inl rfl) pe_int)
      (pss_cons (ps_for PassesOwn.never rfl (pi_list (pv 0)) (pg_name (i := 3) sc_apply_delta.nd rfl (Or.inl rfl)) (pss_cons (ps_expr (pe_bm PySem.F.plainAttrs_list PySem.F.slot_list_append PySem.F.type_list_append mt_append (pv 1) (pa_cons (pe_op op_mod (pe_op op_sub (pv 3) (pv 2)) pe_int) pa_nil)))
      (pss_one (ps_set (i := 2) sc_apply_delta.nd rfl (Or.inl rfl) (pv 3)))))
      (pss_one (ps_ret (pv 1)))))), ?_⟩
  walk_at "rd"
  refine r_newL (Own.nil H) (Nat.zero_le _) fun p1 H1 o1 => ?_
  walk_at "rd"
  refine forL (o1.old hS) (fun i σ' H' => ∃ v : Option V, σ' = [some (.ref a), some (.ref p1), some (.int ((ns.take i).foldl stepD ([], 0)).2), v] ∧ Own H H' [(p1, .lst ((((ns.take i).foldl stepD ([], 0)).1).map V.int))]) ⟨_, rfl, o1⟩ (fun i σ' H' _ ⟨_, _, o⟩ => o.old hS) ?_ ?_
  · rintro i v σ' H' hi ⟨v4, rfl, o⟩
    obtain ⟨x, hx, rfl⟩ := int_at hi
    walk_at "rd"
    refine r_app o 0 rfl (by rw [List.length_map, stepD_len, List.length_take]; simp; omega) fun H2 o2 => ?_
    walk_at "rd"
    rw [fold_take hx]
    exact ⟨_, rfl, by unfold stepD; rw [List.map_append]; exact o2⟩
  · rintro σ' H' ⟨v4, rfl, o⟩
    rw [List.length_map, List.take_length] at o
    walk_at "rd"
    exact q.mk o 0 rfl
theorem d_undo_delta (T : Top K mg) : Def P w K mg base CX0 1 "undo_delta" ["values"] (sp_l1 K und) := by
  refine T.f_undo_delta.ok sc_undo_delta (by rintro vs H Q E ⟨a, ns, rfl, _⟩; rfl) (fun f cdv A outer s H vs Q E hr h => ?_)
  obtain ⟨a, ns, rfl, hS, hby, hz, q⟩ := h
  refine ⟨_, (pss_cons (ps_set (i := 1) sc_undo_delta.nd rfl (Or.inl rfl) (pe_lst pa_nil))
      (pss_cons (ps_set (i := 2) sc_undo_delta.nd rfl (Or.inl rfl) pe_int)
      (pss_cons (ps_for PassesOwn.never rfl (pi_list (pv 0)) (pg_name (i := 3) sc_undo_delta.nd rfl (Or.inl rfl)) (pss_cons (ps_set (i := 2) sc_undo_delta.nd rfl (Or.inl rfl) (pe_op op_mod (pe_op op_add (pv 2) (pv 3)) pe_int))
      (pss_one (ps_expr (pe_bm PySem.F.plainAttrs_list PySem.F.slot_list_append PySem.F.type_list_append mt_append (pv 1) (pa_cons (pv 2) pa_nil))))))
      (pss_one (ps_ret (pv 1)))))), ?_⟩
  walk_at "rd"
  refine r_newL (Own.nil H) (Nat.zero_le _) fun p1 H1 o1 => ?_
  walk_at "rd"
  refine forL (o1.old hS) (fun i σ' H' => ∃ v : Option V, σ' = [some (.ref a), some (.ref p1), some (.int ((ns.take i).foldl stepU ([], 0)).2), v] ∧ Own H H' [(p1, .lst ((((ns.take i).foldl stepU ([], 0)).1).map V.int))]) ⟨_, rfl, o1⟩ (fun i σ' H' _ ⟨_, _, o⟩ => o.old hS) ?_ ?_
  · rintro i v σ' H' hi ⟨v4, rfl, o⟩
    obtain ⟨x, hx, rfl⟩ := int_at hi
    walk_at "rd"
    refine r_app o 0 rfl (by rw [List.length_map, stepU_len, List.length_take]; simp; omega) fun H2 o2 => ?_
    rw [fold_take hx]
    exact ⟨_, rfl, by unfold stepU; rw [List.map_append]; exact o2⟩
  · rintro σ' H' ⟨v4, rfl, o⟩
    rw [List.length_map, List.take_length] at o
    walk_at "rd"
    exact q.mk o 0 rfl
end
/-! ### planes -/
def ordN (n w : Nat) : List Nat := (List.range w).flatMap fun p => (List.range n).filter fun k => k % w == p
def Wd (w : Nat) : Prop := w = 1 ∨ w = 2 ∨ w = 4
def turns (p n w : Nat) : Nat := (n + (w - 1 - p)) / w
theorem turns_filter {w : Nat} (hw : Wd w) {p : Nat} (hp : p < w) : ∀ n : Nat, (List.range n).filter (fun k => k % w == p) = (List.range (turns p n w)).map fun k => p + k * w
  | 0 => by
    have e : turns p 0 w = 0 := by
      unfold turns
      exact Nat.div_eq_of_lt (by omega)
    rw [e]
    rfl
  | n + 1 => by
    rw [List.range_succ, List.filter_append, turns_filter hw hp n]
    by_cases h : n % w = p
    · have e1 : turns p (n + 1) w = turns p n w + 1 := by
        unfold turns
        rcases hw with rfl | rfl | rfl <;> omega
      have e2 : n = p + turns p n w * w := by
        unfold turns
        rcases hw with rfl | rfl | rfl <;> omega
      rw [e1, List.range_succ, List.map_append]
      congr 1
      simp [h]
      omega
    · have e1 : turns p (n + 1) w = turns p n w := by
        unfold turns
        rcases hw with rfl | rfl | rfl <;> omega
      rw [e1]
      simp [h]
theorem ord_turns {w : Nat} (hw : Wd w) (n : Nat) : ordN n w = (List.range w).flatMap fun p => (List.range (turns p n w)).map fun k => p + k * w := by
  unfold ordN
  have : ∀ ps : List Nat, (∀ p ∈ ps, p < w) → ps.flatMap (fun p => (List.range n).filter fun k => k % w == p) = ps.flatMap fun p => (List.range (turns p n w)).map fun k => p + k * w := by
    intro ps
    induction ps with
    | nil => intro _; rfl
    | cons p ps ih =>
      intro h
      rw [List.flatMap_cons, List.flatMap_cons, turns_filter hw (h p List.mem_cons_self), ih fun q hq => h q (List.mem_cons_of_mem _ hq)]
  exact this _ fun p hp => List.mem_range.mp hp
theorem ord_mem {n w k : Nat} (hw : Wd w) : k ∈ ordN n w ↔ k < n := by
  unfold ordN
  rw [List.mem_flatMap]
  constructor
  · rintro ⟨p, _, h⟩
    exact List.mem_range.mp (List.mem_filter.mp h).1
  · intro h
    refine ⟨k % w, List.mem_range.mpr (Nat.mod_lt _ (by rcases hw with rfl | rfl | rfl <;> decide)), ?_⟩
    rw [List.mem_filter]
    exact ⟨List.mem_range.mpr h, by simp⟩
theorem ord_nodup (n w : Nat) : (ordN n w).Nodup := by
  unfold ordN
  rw [List.nodup_iff_pairwise_ne, List.pairwise_flatMap]
  refine ⟨fun p _ => List.Pairwise.filter _ (List.nodup_iff_pairwise_ne.mp List.nodup_range), ?_⟩
  refine List.Pairwise.imp ?_ (List.nodup_iff_pairwise_ne.mp List.nodup_range)
  intro p q hpq x hx y hy e
  subst e
  have h1 := (List.mem_filter.mp hx).2
  have h2 := (List.mem_filter.mp hy).2
  simp at h1 h2
  exact hpq (h1.symm.trans h2)
theorem ord_perm {n w : Nat} (hw : Wd w) : (ordN n w).Perm (List.range n) :=
  (List.perm_ext_iff_of_nodup (ord_nodup n w) List.nodup_range).mpr fun k => by rw [ord_mem hw, List.mem_range]
theorem ord_len {n w : Nat} (hw : Wd w) : (ordN n w).length = n := by rw [(ord_perm hw).length_eq, List.length_range]
def pln (w : Nat) (ns : List Int) : List Int := (ordN ns.length w).map fun (k : Nat) => gi ns (k : Int)
def unplF (s : List Int) (p : Nat × Int) : List Int := s.set p.1 p.2
def unpl (w : Nat) (ns : List Int) : List Int := ((ordN ns.length w).zip ns).foldl unplF (List.replicate ns.length 0)
section
variable {P : Program} {w : World} {K : PySem.W.Frag} {mg : Str → Option Value} {base : Heap}
def sp_order : Sp := fun vs H Q _ => ∃ (n wd : Nat), vs = [.int n, .int wd] ∧ Wd wd ∧ n ≤ 1000000 ∧ RetO H Q (.lst (((ordN n wd).map fun (k : Nat) => (k : Int)).map V.int))
theorem fitsL {x : Int} (h : -(2 ^ 62) ≤ x ∧ x < 2 ^ 62) : PySem.Builtin.Range.rangeFitsLong x = true := by
  unfold PySem.Builtin.Range.rangeFitsLong
  simp
  omega
theorem rsz {p n wd : Nat} (hw : Wd wd) (hp : p < wd) : PySem.Builtin.Range.rangeSize (p : Int) (n : Int) (wd : Int) = turns p n wd := by
  unfold PySem.Builtin.Range.rangeSize turns
  rcases hw with rfl | rfl | rfl <;> rw [if_pos (by decide)] <;> split <;> omega
theorem rgc_turns {p n wd : Nat} (hw : Wd wd) (hp : p < wd) (hn : n ≤ 1000000) : RgC (p : Int) (n : Int) (wd : Int) (turns p n wd) := by
  refine ⟨by rcases hw with rfl | rfl | rfl <;> decide, by rcases hw with rfl | rfl | rfl <;> decide, ?_, ?_⟩
  · have e : PySem.Builtin.Range.rangeSize (p : Int) (n : Int) (wd : Int) = turns p n wd := rsz hw hp
    unfold PySem.Builtin.Range.small
    rw [e]
    have ht : turns p n wd ≤ n := by unfold turns; rcases hw with rfl | rfl | rfl <;> omega
    have hwd : wd ≤ 4 := by rcases hw with rfl | rfl | rfl <;> decide
    have hpos : (wd : Int) > 0 := by rcases hw with rfl | rfl | rfl <;> decide
    rw [if_pos hpos]
    simp only [fitsL (show -(2 ^ 62) ≤ (p : Int) ∧ (p : Int) < 2 ^ 62 by omega), fitsL (show -(2 ^ 62) ≤ (n : Int) ∧ (n : Int) < 2 ^ 62 by omega), fitsL (show -(2 ^ 62) ≤ (wd : Int) ∧ (wd : Int) < 2 ^ 62 by omega), fitsL (show -(2 ^ 62) ≤ ((turns p n wd : Nat) : Int) ∧ ((turns p n wd : Nat) : Int) < 2 ^ 62 by omega), fitsL (show -(2 ^ 62) ≤ (n : Int) + ((wd : Int) - 1) ∧ (n : Int) + ((wd : Int) - 1) < 2 ^ 62 by omega)]
    simp
  · exact rsz hw hp
theorem d_plane_order (T : Top K mg) : Def P w K mg base CX0 1 "plane_order" ["count", "size"] sp_order := by
  refine T.f_plane_order.ok sc_plane_order (by rintro vs H Q E ⟨n, wd, rfl, _⟩; rfl) (fun f cdv A outer s H vs Q E hr h => ?_)
  obtain ⟨n, wd, rfl, hw, hz, q⟩ := h
  refine ⟨_, (pss_one (ps_ret (pe_lc2 (own := [("plane", 2), ("place", 3)]) (vs1 := [3]) (g := (gName 2)) (g1 := (gName 3)) (tt := tYes) (tt1 := tYes) rfl sc_plane_order.nd (pi_range1 (by rfl) T.b_range (pa_cons (pv 1) pa_nil)) (blkOk_by (N := N_plane_order) (sc := defScope s_plane_order) (by decide +kernel)) (by decide) (fun _ _ _ _ _ => (pg_name (i := 2) sc_plane_order.nd rfl (Or.inl rfl))) (fun _ _ _ _ _ => pts_nil) (fun _ _ _ _ _ => (pi_range3 (by rfl) T.b_range (pa_cons (pv 2) (pa_cons (pv 0) (pa_cons (pv 1) pa_nil))))) (fun _ _ _ _ _ => (pg_name (i := 3) sc_plane_order.nd rfl (Or.inl rfl))) (fun _ _ _ _ _ => pts_nil) (fun _ _ _ _ _ => (pv 3))))), ?_⟩
  walk_at "rd"
  have hw4 : wd ≤ 4 := by rcases hw with rfl | rfl | rfl <;> decide
  have eV : ((List.range wd).flatMap fun p => (List.range (turns p n wd)).map fun (k : Nat) => V.int ((p : Int) + (k : Int) * (wd : Int))) = ((ordN n wd).map fun (k : Nat) => (k : Int)).map V.int := by
    rw [ord_turns hw, List.map_flatMap, List.map_flatMap]
    congr 1
    funext p
    rw [List.map_map, List.map_map]
    congr 1
  have hlen : ((List.range wd).flatMap fun p => (List.range (turns p n wd)).map fun (k : Nat) => V.int ((p : Int) + (k : Int) * (wd : Int))).length = n := by rw [eV, List.length_map, List.length_map, ord_len hw]
  refine lc2R3 (n := wd) (c := (wd : Int)) (fun p => (p : Int)) (fun p => turns p n wd) (Own.nil H) rfl (by omega) (by rw [hlen]; omega) (fun x => rfl) (fun x y => rfl) ?_ ?_ fun p1 H1 o1 => ?_
  · intro p H' R hp r
    walk_at "rd"
    exact ⟨_, _, _, _, rfl, rgc_turns hw hp hz, r⟩
  · intro x z H' Q' q'
    walk_at "rd"
    exact q'
  · rw [eV] at o1
    exact q.mk o1 0 rfl
def sp_l2 (K : PySem.W.Frag) (g : Nat → List Int → List Int) : Sp := fun vs H Q _ => ∃ (a : Addr) (ns : List Int) (wd : Nat), vs = [.ref a, .int wd] ∧ SqL K H a (ns.map V.int) ∧ By ns ∧ Wd wd ∧ ns.length ≤ 1000000 ∧ RetO H Q (.lst ((g wd ns).map V.int))
theorem d_apply_planes (T : Top K mg) : Def P w K mg base CX0 2 "apply_planes" ["values", "size"] (sp_l2 K pln) := by
  have G_plane_order : Def P w K mg base CX0 1 "plane_order" ["count", "size"] sp_order := d_plane_order T
  refine T.f_apply_planes.ok sc_apply_planes (by rintro vs H Q E ⟨a, ns, wd, rfl, _⟩; rfl) (fun f cdv A outer s H vs Q E hr h => ?_)
  obtain ⟨a, ns, wd, rfl, hS, hby, hw, hz, q⟩ := h
  refine ⟨_, (pss_one (ps_ret (pe_lc (own := [("place", 2)]) (g := (gName 2)) (tt := tYes) rfl sc_apply_planes.nd (pi_list (pe_callD G_plane_order (hr.mono (by decide)) (pa_cons (pe_callB (r := Evl.rLenS K) call_len_seq (by rfl) T.b_len (by decide +kernel) (pa_cons (pv 0) pa_nil)) (pa_cons (pv 1) pa_nil)))) (blkOk_by (N := N_apply_planes) (sc := defScope s_apply_planes) (by decide +kernel)) (fun _ _ _ _ _ => (pg_name (i := 2) sc_apply_planes.nd rfl (Or.inl rfl))) (fun _ _ _ _ _ => pts_nil) (fun _ _ _ _ _ => (pe_ix (r := rIxL K) ix_list (pv 0) (pv 2) (fun _ _ => rfl)))))), ?_⟩
  walk_at "rd"
  refine ⟨ns.length, wd, by rw [List.length_map]; rfl, hw, hz, r_ret1 (Own.nil H) fun p1 H1 o1 => ?_⟩
  refine lcLI (fun k => gi ns k) o1 (fun H' p zs o' => o'.sqL 1 rfl) (o1.sqL 0 rfl) (by rw [List.length_map, ord_len hw]; omega) (fun x => rfl) ?_ fun p2 H2 o2 => ?_
  · intro i x p zs H' Q' hx o' q'
    obtain ⟨k, hk, rfl⟩ := List.mem_map.mp hx
    have hk2 := (ord_mem hw).mp hk
    have hS2 : SqL K H' a (ns.map V.int) := o'.old hS
    walk_at "rd"
    exact q'.here
  · rw [List.map_map (g := fun k => gi ns k)] at o2
    exact q.mk o2 0 rfl
theorem unplF_len : ∀ (ps : List (Nat × Int)) (s : List Int), (ps.foldl unplF s).length = s.length
  | [], _ => rfl
  | p :: ps, s => by
    rw [List.foldl_cons, unplF_len ps]
    unfold unplF
    rw [List.length_set]
theorem d_undo_planes (T : Top K mg) : Def P w K mg base CX0 2 "undo_planes" ["values", "size"] (sp_l2 K unpl) := by
  have G_plane_order : Def P w K mg base CX0 1 "plane_order" ["count", "size"] sp_order := d_plane_order T
  refine T.f_undo_planes.ok sc_undo_planes (by rintro vs H Q E ⟨a, ns, wd, rfl, _⟩; rfl) (fun f cdv A outer s H vs Q E hr h => ?_)
  obtain ⟨a, ns, wd, rfl, hS, hby, hw, hz, q⟩ := h
  refine ⟨_, (pss_cons (ps_set (i := 2) sc_undo_planes.nd rfl (Or.inl rfl) (pe_op op_rep (pe_lst (pa_cons pe_int pa_nil)) (pe_callB (r := Evl.rLenS K) call_len_seq (by rfl) T.b_len (by decide +kernel) (pa_cons (pv 0) pa_nil))))
      (pss_cons (ps_for PassesOwn.never rfl (RZ.pi_zipA (by rfl) T.b_zip (pa_cons (pe_callD G_plane_order (hr.mono (by decide)) (pa_cons (pe_callB (r := Evl.rLenS K) call_len_seq (by rfl) T.b_len (by decide +kernel) (pa_cons (pv 0) pa_nil)) (pa_cons (pv 1) pa_nil))) (pa_cons (pv 0) pa_nil))) (pg_tup (n := 2) rfl (pgs_cons (pg_name (i := 3) sc_undo_planes.nd rfl (Or.inl rfl)) (pgs_cons (pg_name (i := 4) sc_undo_planes.nd rfl (Or.inl rfl)) pgs_nil))) (pss_one (ps_asg (pv 4) (pg_sub (pv 2) (pv 3) set_list))))
      (pss_one (ps_ret (pv 2))))), ?_⟩
  walk_at "rd"
  refine r_newL (Own.nil H) (Nat.le_of_ble_eq_true rfl) fun p1 H1 o1 => ?_
  have hS1 := o1.old hS
  walk_at "rd"
  refine r_rep (n := ns.length) o1 (o1.at 0 rfl) (by rw [List.length_map]; rfl) (by rw [List.length_map]; omega) (by omega) fun p2 H2 s2 o2 => ?_
  have hS2 := o2.old hS
  walk_at "rd"
  refine ⟨ns.length, wd, by rw [List.length_map]; rfl, hw, hz, r_ret1 o2 fun p3 H3 o3 => ?_⟩
  walk_at "rd"
  have eP : ∀ i, ((ordN ns.length wd).zip ns).take i = ((ordN ns.length wd).zip ns).take i := fun _ => rfl
  refine forZL (o3.sqL 0 rfl) (o3.old hS) (by rw [List.length_map, List.length_map, List.length_map, ord_len hw]) (fun i σ' H' => ∃ v4 v5 : Option V, σ' = [some (.ref a), some (.int wd), some (.ref p2), v4, v5] ∧ Own H H' [(p2, .lst (((((ordN ns.length wd).zip ns).take i).foldl unplF (List.replicate ns.length 0)).map V.int)), (p3, .lst (((ordN ns.length wd).map fun (k : Nat) => (k : Int)).map V.int))])
    ⟨_, _, rfl, by
      have o4 := o3.pick2 1 0 (by decide) rfl rfl
      rw [List.take_zero, List.foldl_nil, List.map_replicate]
      exact o4⟩ (fun i σ' H' ⟨_, _, _, o⟩ => ⟨o.sqL 1 rfl, o.old hS⟩) ?_ ?_
  · rintro i x y T2 σ' H' hx hy ⟨v4, v5, rfl, o⟩ hT
    obtain ⟨x1, hx1, rfl⟩ := int_at hx
    obtain ⟨y1, hy1, rfl⟩ := int_at hy
    rw [List.getElem?_map] at hx1
    cases hk : (ordN ns.length wd)[i]? with
    | none => rw [hk] at hx1; cases hx1
    | some k =>
      rw [hk] at hx1
      cases hx1
      have hkn := (ord_mem hw).mp (List.mem_of_getElem? hk)
      refine r_gTup2 (SqT.of upd_same) ?_
      have o4 := o.mono (same_new hT (u := .tup [.int (k : Int), .int y1]))
      walk_at "rd"
      refine r_setL (k := k) o4 0 rfl ?_ fun H5 o5 => ?_
      · rw [List.length_map, unplF_len, List.length_replicate]
        show ixN ns.length (k : Int) = some k
        unfold ixN
        rw [if_pos (by omega), if_pos (by omega)]
        rfl
      refine ⟨_, _, rfl, ?_⟩
      have hz2 : ((ordN ns.length wd).zip ns)[i]? = some (k, y1) := by rw [List.getElem?_zip_eq_some]; exact ⟨hk, hy1⟩
      rw [List.take_add_one, hz2, List.foldl_append]
      show Own H H5 [(p2, .lst ((List.set _ k y1).map V.int)), _]
      rw [List.map_set]
      exact o5
  · rintro σ' H' ⟨v4, v5, rfl, o⟩
    walk_at "rd"
    have e : (((ordN ns.length wd).zip ns).take ((((ordN ns.length wd).map fun (k : Nat) => (k : Int)).map V.int).length)) = (ordN ns.length wd).zip ns := by
      refine List.take_of_length_le ?_
      rw [List.length_zip, List.length_map, List.length_map]
      omega
    rw [e] at o
    exact q.mk o 0 rfl
end

/-! ### zeros -/
def kz (ns : List Int) : Nat → Nat
  | 0 => 0
  | k + 1 => if gi ns (k : Int) = 0 ∧ ns.length - (k + 1) < 65535 then kz ns k else k + 1
theorem kz_le (ns : List Int) : ∀ k, kz ns k ≤ k
  | 0 => Nat.le_refl _
  | k + 1 => by
    unfold kz
    split
    · exact Nat.le_succ_of_le (kz_le ns k)
    · exact Nat.le_refl _
def zer (ns : List Int) : List Int := [((ns.length - kz ns ns.length : Nat) : Int) / 256, ((ns.length - kz ns ns.length : Nat) : Int) % 256] ++ ns.take (kz ns ns.length)
def cntZ (ns : List Int) : Int := gi ns 0 * 256 + gi ns 1
def unZ (ns : List Int) : Option (List Int) := if ns.length < 2 then none else if 2 < ns.length ∧ gi ns ((ns.length : Int) - 1) = 0 ∧ cntZ ns < 65535 then none else some (ns.drop 2 ++ List.replicate (cntZ ns).toNat 0)
/-! ### runs -/
def push (f : List Int) (v : Int) : List Int := if 0 < f.length ∧ gi f ((f.length : Int) - 1) = v ∧ gi f ((f.length : Int) - 2) < 255 then f.set (f.length - 2) (gi f ((f.length : Int) - 2) + 1) else f ++ [1, v]
def rns (ns : List Int) : List Int := ns.foldl push []
def noM (f : List Int) (v : Int) : Prop := ¬ (0 < f.length ∧ gi f ((f.length : Int) - 1) = v ∧ gi f ((f.length : Int) - 2) < 255)
theorem gi_app2 (f : List Int) (c v : Int) : gi (f ++ [c, v]) (((f ++ [c, v]).length : Int) - 1) = v ∧ gi (f ++ [c, v]) (((f ++ [c, v]).length : Int) - 2) = c := by
  have e : (f ++ [c, v]).length = f.length + 2 := by rw [List.length_append]; rfl
  rw [e]
  unfold gi
  rw [show (((f.length + 2 : Nat) : Int) - 1).toNat = f.length + 1 by omega, show (((f.length + 2 : Nat) : Int) - 2).toNat = f.length by omega]
  constructor
  · rw [List.getD_eq_getElem?_getD, List.getElem?_append_right (by omega), show f.length + 1 - f.length = 1 by omega]
    rfl
  · rw [List.getD_eq_getElem?_getD, List.getElem?_append_right (by omega), show f.length - f.length = 0 by omega]
    rfl
theorem push_app (f : List Int) (c v : Int) (hc : c < 255) : push (f ++ [c, v]) v = f ++ [c + 1, v] := by
  obtain ⟨h1, h2⟩ := gi_app2 f c v
  unfold push
  rw [h1, h2, if_pos ⟨by rw [List.length_append]; simp, rfl, hc⟩]
  have e : (f ++ [c, v]).length - 2 = f.length := by rw [List.length_append]; simp
  rw [e, List.set_append_right _ _ (Nat.le_refl _), Nat.sub_self]
  rfl
theorem push_block {f : List Int} {v : Int} (h : noM f v) : ∀ k : Nat, k + 1 ≤ 255 → (List.replicate (k + 1) v).foldl push f = f ++ [((k + 1 : Nat) : Int), v]
  | 0, _ => by
    show push f v = _
    unfold push
    rw [if_neg h]
    rfl
  | k + 1, hk => by
    have ih := push_block h k (by omega)
    rw [List.replicate_succ', List.foldl_append, ih]
    show push (f ++ [((k + 1 : Nat) : Int), v]) v = _
    rw [push_app f _ v (by omega)]
    rfl
theorem push_len (f : List Int) (v : Int) : (push f v).length ≤ f.length + 2 := by
  unfold push
  split
  · rw [List.length_set]; omega
  · rw [List.length_append]; simp
theorem rns_len : ∀ (ns : List Int) (f : List Int), (ns.foldl push f).length ≤ f.length + 2 * ns.length
  | [], f => by simp
  | x :: ns, f => by
    rw [List.foldl_cons]
    have h1 := rns_len ns (push f x)
    have h2 := push_len f x
    rw [List.length_cons]
    omega
theorem gi_eq {ns : List Int} {k : Nat} {v : Int} (h : k < ns.length) (e : gi ns (k : Int) = v) : ns[k]? = some v := by
  rw [List.getElem?_eq_getElem h, ← gi_nat h, e]
theorem take_block {ns : List Int} {s : Nat} {v : Int} : ∀ d : Nat, s + d ≤ ns.length → (∀ j, s ≤ j → j < s + d → gi ns (j : Int) = v) → ns.take (s + d) = ns.take s ++ List.replicate d v
  | 0, _, _ => by simp
  | d + 1, hl, h => by
    rw [← Nat.add_assoc, List.take_add_one, gi_eq (by omega) (h (s + d) (by omega) (by omega)), take_block d (by omega) fun j h1 h2 => h j h1 (by omega), List.replicate_succ', ← List.append_assoc]
    rfl
def prs (ns : List Int) : List (Int × Int) := (List.range (ns.length / 2)).map fun (k : Nat) => (gi ns (2 * (k : Int)), gi ns (2 * (k : Int) + 1))
def okP (ps : List (Int × Int)) : Prop := ∀ k, k < ps.length → (ps.getD k (0, 0)).1 ≠ 0 ∧ ¬ (0 < k ∧ (ps.getD (k - 1) (0, 0)).1 < 255 ∧ (ps.getD (k - 1) (0, 0)).2 = (ps.getD k (0, 0)).2)
instance (ps : List (Int × Int)) : Decidable (okP ps) := by unfold okP; infer_instance
def unpk (ps : List (Int × Int)) : List Int := ps.flatMap fun p => List.replicate p.1.toNat p.2
def unR (ns : List Int) : Option (List Int) := if ns.length % 2 = 1 then none else if okP (prs ns) then some (unpk (prs ns)) else none
section
variable {P : Program} {w : World} {K : PySem.W.Frag} {mg : Str → Option Value} {base : Heap}
theorem d_apply_zeros (T : Top K mg) : Def P w K mg base CX0 1 "apply_zeros" ["values"] (sp_l1 K zer) := by
  obtain ⟨t1, g_MOST_ZEROS⟩ := T.g_MOST_ZEROS
  refine T.f_apply_zeros.ok sc_apply_zeros (by rintro vs H Q E ⟨a, ns, rfl, _⟩; rfl) (fun f cdv A outer s H vs Q E hr h => ?_)
  obtain ⟨a, ns, rfl, hS, hby, hz, q⟩ := h
  refine ⟨_, (pss_cons (ps_set (i := 1) sc_apply_zeros.nd rfl (Or.inl rfl) (pe_callB (r := Evl.rLenS K) call_len_seq (by rfl) T.b_len (by decide +kernel) (pa_cons (pv 0) pa_nil)))
      (pss_cons (ps_while PassesOwn.never (pt_cutT (PW.pt (pw_and (pt_cmpR op_gt (pv 1) pe_int (nomark _)) (pw_and (pt_cmpR op_eq (pe_ix (r := rIxL K) ix_list (pv 0) (pe_op op_sub (pv 1) pe_int) (fun _ _ => rfl)) pe_int (nomark _)) (pw_and1 (pt_cmpR op_lt (pe_op op_sub (pe_callB (r := Evl.rLenS K) call_len_seq (by rfl) T.b_len (by decide +kernel) (pa_cons (pv 0) pa_nil)) (pv 1)) (pe_glob (v := .int 65535) rfl g_MOST_ZEROS ⟨_, rfl⟩) (nomark _))))))) (pss_one (ps_set (i := 1) sc_apply_zeros.nd rfl (Or.inl rfl) (pe_op op_sub (pv 1) pe_int))))
      (pss_cons (ps_set (i := 2) sc_apply_zeros.nd rfl (Or.inl rfl) (pe_op op_sub (pe_callB (r := Evl.rLenS K) call_len_seq (by rfl) T.b_len (by decide +kernel) (pa_cons (pv 0) pa_nil)) (pv 1)))
      (pss_one (ps_ret (pe_op op_cat (pe_lst (pa_cons (pe_op op_fdiv (pv 2) pe_int) (pa_cons (pe_op op_mod (pv 2) pe_int) pa_nil))) (pe_slice (r := rSlL K) sl_list (pv 0) po_none (po_some (pv 1))))))))), ?_⟩
  walk_at "rd"
  refine whileB (fun m σ' H' => H' = H ∧ σ' = [some (.ref a), some (.int (m : Nat)), none] ∧ m ≤ ns.length ∧ kz ns m = kz ns ns.length) ns.length ⟨rfl, by rw [List.length_map]; rfl, Nat.le_refl _, rfl⟩ ?_
  rintro m σ' H' ⟨rfl, rfl, hm, hk⟩
  walk_at "rd"
  refine r_cutB (decide (kz ns m < m)) ?_ ?_
  · walk_at "rd"
    refine rif (fun h1 => ?_) fun h1 => ?_
    · obtain ⟨m2, rfl⟩ : ∃ m2, m = m2 + 1 := ⟨m - 1, by omega⟩
      walk_at "rd"
      rw [show ((m2 + 1 : Nat) : Int) - 1 = (m2 : Int) by omega]
      have hle := kz_le ns m2
      refine rif (fun h2 => ?_) fun h2 => ?_
      · walk_at "rd"
        rw [List.length_map]
        refine ⟨decide_eq_decide.mpr ?_, rfl⟩
        unfold kz
        split <;> omega
      · walk_at "rd"
        refine ⟨(decide_eq_false ?_).symm, rfl⟩
        unfold kz
        rw [if_neg (fun h => h2 h.1)]
        omega
    · walk_at "rd"
      exact ⟨(decide_eq_false (by omega)).symm, rfl⟩
  refine rif (fun h1 => ?_) fun h1 => ?_
  · obtain ⟨m2, rfl⟩ : ∃ m2, m = m2 + 1 := ⟨m - 1, by omega⟩
    refine wh_turn ?_
    walk_at "rd"
    refine ⟨m2, Nat.lt_succ_self _, rfl, by rw [show ((m2 + 1 : Nat) : Int) - 1 = (m2 : Int) by omega]; rfl, by omega, ?_⟩
    rw [← hk]
    unfold kz at h1
    by_cases hc : gi ns (m2 : Int) = 0 ∧ ns.length - (m2 + 1) < 65535
    · show kz ns m2 = if gi ns (m2 : Int) = 0 ∧ ns.length - (m2 + 1) < 65535 then kz ns m2 else m2 + 1
      rw [if_pos hc]
    · rw [if_neg hc] at h1
      omega
  · have hle := kz_le ns m
    have hd : kz ns m = m := by omega
    rw [hd] at hk
    walk_at "rd"
    refine r_newL (Own.nil H') (Nat.le_of_ble_eq_true rfl) fun p1 H1 o1 => ?_
    walk_at "rd"
    refine r_slL o1 (o1.old hS) fun p2 H2 o2 => ?_
    rw [cut_hi] at o2
    refine r_cat o2 (o2.at 1 rfl) (o2.at 0 rfl) (by rw [List.length_take, List.length_map]; simp; omega) fun p3 H3 o3 => ?_
    refine q.mk o3 0 ?_
    unfold zer
    rw [← hk, List.length_map, List.map_append, List.map_take, show ((ns.length : Int) - (m : Int)) = ((ns.length - m : Nat) : Int) by omega]
    rfl
def sp_un (K : PySem.W.Frag) (g : List Int → Option (List Int)) : Sp := fun vs H Q _ => ∃ (a : Addr) (ns ms : List Int), vs = [.ref a] ∧ SqL K H a (ns.map V.int) ∧ By ns ∧ ns.length ≤ 20000 + 1000 * 400 ∧ g ns = some ms ∧ ms.length ≤ 1000000 ∧ RetO H Q (.lst (ms.map V.int))
theorem d_undo_zeros (T : Top K mg) : Def P w K mg base CX0 1 "undo_zeros" ["values"] (sp_un K unZ) := by
  obtain ⟨t1, g_MOST_ZEROS⟩ := T.g_MOST_ZEROS
  refine T.f_undo_zeros.ok sc_undo_zeros (by rintro vs H Q E ⟨a, ns, ms, rfl, _⟩; rfl) (fun f cdv A outer s H vs Q E hr h => ?_)
  obtain ⟨a, ns, ms, rfl, hS, hby, hz, hm, hml, q⟩ := h
  refine ⟨_, (pss_cons (ps_if (pt_cmpR op_lt (pe_callB (r := Evl.rLenS K) call_len_seq (by rfl) T.b_len (by decide +kernel) (pa_cons (pv 0) pa_nil)) pe_int (nomark _)) (pss_one ps_never) pss_nil)
      (pss_cons (ps_set (i := 1) sc_undo_zeros.nd rfl (Or.inl rfl) (pe_op op_add (pe_op op_mul (pe_ix (r := rIxL K) ix_list (pv 0) pe_int (fun _ _ => rfl)) pe_int) (pe_ix (r := rIxL K) ix_list (pv 0) pe_int (fun _ _ => rfl))))
      (pss_cons (ps_if (PW.pt (pw_and (pt_cmpR op_gt (pe_callB (r := Evl.rLenS K) call_len_seq (by rfl) T.b_len (by decide +kernel) (pa_cons (pv 0) pa_nil)) pe_int (nomark _)) (pw_and (pt_cmpR op_eq (pe_ix (r := rIxL K) ix_list (pv 0) (pe_un un_neg pe_int) (fun _ _ => rfl)) pe_int (nomark _)) (pw_and1 (pt_cmpR op_lt (pv 1) (pe_glob (v := .int 65535) rfl g_MOST_ZEROS ⟨_, rfl⟩) (nomark _)))))) (pss_one ps_never) pss_nil)
      (pss_one (ps_ret (pe_op op_cat (pe_slice (r := rSlL K) sl_list (pv 0) (po_some pe_int) po_none) (pe_op op_rep (pe_lst (pa_cons pe_int pa_nil)) (pv 1)))))))), ?_⟩
  unfold unZ at hm
  by_cases h2 : ns.length < 2
  · rw [if_pos h2] at hm; cases hm
  rw [if_neg h2] at hm
  by_cases h3 : 2 < ns.length ∧ gi ns ((ns.length : Int) - 1) = 0 ∧ cntZ ns < 65535
  · rw [if_pos h3] at hm; cases hm
  rw [if_neg h3] at hm
  cases hm
  have hb0 := hby.gi (i := 0) (by omega) (by omega)
  have hb1 := hby.gi (i := 1) (by omega) (by omega)
  have hlast : 0 < ns.length → atI (ns.map V.int) (-1) = some (.int (gi ns ((ns.length : Int) - 1))) := fun h => by
    rw [show (ns.map V.int) = ((ns.map V.int).take (ns.length - 1)) ++ [V.int (gi ns ((ns.length : Int) - 1))] by
      have e := gi_nat (ns := ns) (k := ns.length - 1) (by omega)
      rw [show (((ns.length - 1 : Nat) : Int)) = (ns.length : Int) - 1 by omega] at e
      rw [e]
      have h4 : (ns.map V.int).take ((ns.length - 1) + 1) = ns.map V.int := List.take_of_length_le (by rw [List.length_map]; omega)
      rw [List.take_add_one, List.getElem?_map, List.getElem?_eq_getElem (show ns.length - 1 < ns.length by omega)] at h4
      exact h4.symm]
    exact atI_last _ _
  walk_at "rd"
  rw [List.length_map]
  refine rif_no (by omega) ?_
  walk_at "rd"
  rw [List.length_map]
  refine rif (fun h4 => ?_) fun h4 => ?_
  all_goals walk_at "rd"
  refine r_ixL hS (hlast (by omega)) ?_
  walk_at "rd"
  refine rif (fun h5 => ?_) fun h5 => ?_
  walk_at "rd"
  refine rif_no (fun h6 => h3 ⟨by omega, h5, h6⟩) ?_
  all_goals walk_at "rd"
  all_goals
    refine r_slL (Own.nil H) hS fun p1 H1 o1 => ?_
    rw [show (2 : Int) = ((2 : Nat) : Int) from rfl, cut_lo] at o1
    walk_at "rd"
    refine r_newL o1 (Nat.le_of_ble_eq_true rfl) fun p2 H2 o2 => ?_
    walk_at "rd"
    have hc : 0 ≤ cntZ ns ∧ cntZ ns < 65536 := by unfold cntZ; omega
    refine r_rep (i := cntZ ns) (n := (cntZ ns).toNat) o2 (o2.at 0 rfl) rfl (by omega) (by omega) fun p3 H3 s3 o3 => ?_
    refine r_cat o3 (o3.at 2 rfl) (o3.at 0 rfl) (by rw [List.length_drop, List.length_map, List.length_replicate]; omega) fun p4 H4 o4 => ?_
    refine q.mk o4 0 ?_
    rw [List.map_append, List.map_drop, List.map_replicate]
    rfl
end

section
variable {P : Program} {w : World} {K : PySem.W.Frag} {mg : Str → Option Value} {base : Heap}
theorem d_apply_runs (T : Top K mg) : Def P w K mg base CX0 1 "apply_runs" ["values"] (sp_l1 K rns) := by
  obtain ⟨t1, g_LONGEST_RUN⟩ := T.g_LONGEST_RUN
  refine T.f_apply_runs.ok sc_apply_runs (by rintro vs H Q E ⟨a, ns, rfl, _⟩; rfl) (fun f cdv A outer s H vs Q E hr h => ?_)
  obtain ⟨a, ns, rfl, hS, hby, hz, q⟩ := h
  refine ⟨_, (pss_cons (ps_set (i := 1) sc_apply_runs.nd rfl (Or.inl rfl) (pe_lst pa_nil))
      (pss_cons (ps_set (i := 2) sc_apply_runs.nd rfl (Or.inl rfl) pe_int)
      (pss_cons (ps_while PassesOwn.never (pt_cmpR op_lt (pv 2) (pe_callB (r := Evl.rLenS K) call_len_seq (by rfl) T.b_len (by decide +kernel) (pa_cons (pv 0) pa_nil)) (nomark _)) (pss_cons (ps_set (i := 3) sc_apply_runs.nd rfl (Or.inl rfl) (pe_op op_add (pv 2) pe_int))
      (pss_cons (ps_while PassesOwn.never (pt_cutT (PW.pt (pw_and (pt_cmpR op_lt (pv 3) (pe_callB (r := Evl.rLenS K) call_len_seq (by rfl) T.b_len (by decide +kernel) (pa_cons (pv 0) pa_nil)) (nomark _)) (pw_and (pt_cmpR op_lt (pe_op op_sub (pv 3) (pv 2)) (pe_glob (v := .int 255) rfl g_LONGEST_RUN ⟨_, rfl⟩) (nomark _)) (pw_and1 (pt_cmpR op_eq (pe_ix (r := rIxL K) ix_list (pv 0) (pv 3) (fun _ _ => rfl)) (pe_ix (r := rIxL K) ix_list (pv 0) (pv 2) (fun _ _ => rfl)) (nomark _))))))) (pss_one (ps_set (i := 3) sc_apply_runs.nd rfl (Or.inl rfl) (pe_op op_add (pv 3) pe_int))))
      (pss_cons (ps_expr (pe_bm PySem.F.plainAttrs_list PySem.F.slot_list_extend PySem.F.type_list_extend mt_extend (pv 1) (pa_cons (pe_lst (pa_cons (pe_op op_sub (pv 3) (pv 2)) (pa_cons (pe_ix (r := rIxL K) ix_list (pv 0) (pv 2) (fun _ _ => rfl)) pa_nil))) pa_nil)))
      (pss_one (ps_set (i := 2) sc_apply_runs.nd rfl (Or.inl rfl) (pv 3)))))))
      (pss_one (ps_ret (pv 1)))))), ?_⟩
  walk_at "rd"
  refine r_newL (Own.nil H) (Nat.zero_le _) fun p1 H1 o1 => ?_
  walk_at "rd"
  refine whileB (fun m σ' H' => ∃ (i : Nat) (v : Option V), m = ns.length - i ∧ i ≤ ns.length ∧ σ' = [some (.ref a), some (.ref p1), some (.int (i : Nat)), v] ∧ (i < ns.length → noM ((ns.take i).foldl push []) (gi ns (i : Int))) ∧ Own H H' [(p1, .lst (((ns.take i).foldl push []).map V.int))]) ns.length
    ⟨0, none, rfl, Nat.zero_le _, rfl, fun _ h => absurd h.1 (by simp), o1⟩ ?_
  rintro m σ' H' ⟨i, v, rfl, hi, rfl, hno, o⟩
  have hS' := o.old hS
  walk_at "rd"
  rw [List.length_map]
  refine rif (fun h1 => ?_) fun h1 => ?_
  · refine wh_turn ?_
    walk_at "rd"
    refine whileB (fun m σ' H2 => ∃ (j : Nat), m = ns.length - j ∧ i < j ∧ j ≤ ns.length ∧ j ≤ i + 255 ∧ σ' = [some (.ref a), some (.ref p1), some (.int (i : Nat)), some (.int (j : Nat))] ∧ (∀ k, i ≤ k → k < j → gi ns (k : Int) = gi ns (i : Int)) ∧ H2 = H') (ns.length - (i + 1))
      ⟨i + 1, rfl, by omega, by omega, by omega, rfl, (fun k h2 h3 => by rw [show k = i by omega]), rfl⟩ ?_
    rintro m2 σ' H2 ⟨j, rfl, hj1, hj2, hj3, rfl, hall, rfl⟩
    walk_at "rd"
    refine r_cutB (decide (j < ns.length ∧ j < i + 255 ∧ gi ns (j : Int) = gi ns (i : Int))) ?_ ?_
    · walk_at "rd"
      rw [List.length_map]
      refine rif (fun h2 => ?_) fun h2 => ?_
      · walk_at "rd"
        refine rif (fun h3 => ?_) fun h3 => ?_
        · walk_at "rd"
          exact ⟨decide_eq_decide.mpr (by omega), rfl⟩
        · walk_at "rd"
          exact ⟨(decide_eq_false (by omega)).symm, rfl⟩
      · walk_at "rd"
        exact ⟨(decide_eq_false (by omega)).symm, rfl⟩
    refine rif (fun h2 => ?_) fun h2 => ?_
    · refine wh_turn ?_
      walk_at "rd"
      refine ⟨ns.length - (j + 1), by omega, j + 1, rfl, by omega, by omega, by omega, rfl, (fun k h3 h4 => ?_), rfl⟩
      by_cases hk : k = j
      · rw [hk]; exact h2.2.2
      · exact hall k h3 (by omega)
    · walk_at "rd"
      refine r_newL o (Nat.le_of_ble_eq_true rfl) fun p2 H3 o2 => ?_
      have hl := rns_len (ns.take i) []
      rw [List.length_take] at hl
      simp at hl
      refine ⟨p1, p2, _, _, rfl, rfl, o2.at 1 rfl, o2.at 0 rfl, sz100 (by rw [List.length_map]; simp; omega), ?_⟩
      have o3 := o2.set (v := .lst ((((ns.take i).foldl push []).map V.int) ++ [V.int ((j : Int) - (i : Int)), V.int (gi ns (i : Int))])) 1 rfl
      generalize hH : upd H3 p1 (.lst ((((ns.take i).foldl push []).map V.int) ++ [V.int ((j : Int) - (i : Int)), V.int (gi ns (i : Int))])) = H4 at *
      walk_at "rd"
      have hb := take_block (ns := ns) (s := i) (v := gi ns (i : Int)) (j - i) (by omega) (fun k h3 h4 => hall k h3 (by omega))
      rw [show i + (j - i) = j by omega] at hb
      have hp := push_block (hno (by omega)) (j - i - 1) (by omega)
      rw [show j - i - 1 + 1 = j - i by omega] at hp
      have hf : (ns.take j).foldl push [] = (ns.take i).foldl push [] ++ [((j - i : Nat) : Int), gi ns (i : Int)] := by rw [hb, List.foldl_append, hp]
      refine ⟨ns.length - j, by omega, j, _, rfl, hj2, rfl, fun h3 => ?_, ?_⟩
      · rw [hf]
        intro h4
        obtain ⟨g1, g2⟩ := gi_app2 ((ns.take i).foldl push []) ((j - i : Nat) : Int) (gi ns (i : Int))
        rw [g1, g2] at h4
        exact h2 ⟨h3, by omega, h4.2.1.symm⟩
      · rw [hf, List.map_append]
        have o4 := o3.tl
        rw [show (j : Int) - (i : Int) = ((j - i : Nat) : Int) by omega] at o4
        exact o4
  · walk_at "rd"
    have e : i = ns.length := by omega
    subst e
    rw [List.take_length] at o
    exact q.mk o 0 rfl
theorem stp2 {ns : List Int} {a : Nat} (ha : a = 0 ∨ a = 1) (h : ns.length % 2 = 0) : stpV (ns.map V.int) (some (a : Int)) none 2 = ((List.range (ns.length / 2)).map fun (k : Nat) => gi ns (2 * (k : Int) + (a : Int))).map V.int := by
  unfold stpV
  have e1 : (sliceBounds (some (a : Int)) none (some 2) (ns.map V.int).length).1 = (min a ns.length : Nat) := by
    rw [List.length_map]
    simp only [sliceBounds, Option.getD_some, show (2 : Int) > 0 by decide, if_true]
    rw [if_neg (by omega)]
    omega
  have e2 : (sliceBounds (some (a : Int)) none (some 2) (ns.map V.int).length).2.1 = (ns.length : Int) := by
    rw [List.length_map]
    simp only [sliceBounds, Option.getD_some, show (2 : Int) > 0 by decide, if_true]
  have e3 : (sliceBounds (some (a : Int)) none (some 2) (ns.map V.int).length).2.2 = 2 := rfl
  rw [e1, e2, e3]
  unfold sliceRange
  simp only [show (2 : Int) > 0 by decide, if_true]
  have e4 : (if ((min a ns.length : Nat) : Int) < (ns.length : Int) then ((ns.length : Int) - ((min a ns.length : Nat) : Int) + 2 - 1) / 2 else 0).toNat = ns.length / 2 := by
    split <;> omega
  rw [e4, List.filterMap_map, List.map_map]
  have h5 : ∀ k ∈ List.range (ns.length / 2), ((fun x => (ns.map V.int)[x]?) ∘ fun (k : Nat) => (((min a ns.length : Nat) : Int) + 2 * (k : Int)).toNat) k = some ((V.int ∘ fun (k : Nat) => gi ns (2 * (k : Int) + (a : Int))) k) := by
    intro k hk
    have hk2 := List.mem_range.mp hk
    have hlt : 2 * k + a < ns.length := by omega
    show (ns.map V.int)[(((min a ns.length : Nat) : Int) + 2 * (k : Int)).toNat]? = some (V.int (gi ns (2 * (k : Int) + (a : Int))))
    rw [show (((min a ns.length : Nat) : Int) + 2 * (k : Int)).toNat = 2 * k + a by omega, List.getElem?_map, List.getElem?_eq_getElem hlt, show 2 * (k : Int) + (a : Int) = ((2 * k + a : Nat) : Int) by omega, gi_nat hlt]
    rfl
  exact fm_some _ _ _ h5
def csN (ns : List Int) : List Int := (List.range (ns.length / 2)).map fun (k : Nat) => gi ns (2 * (k : Int) + ((0 : Nat) : Int))
def rsN (ns : List Int) : List Int := (List.range (ns.length / 2)).map fun (k : Nat) => gi ns (2 * (k : Int) + ((1 : Nat) : Int))
theorem cs_at {ns : List Int} {k : Nat} (h : k < ns.length / 2) : gi (csN ns) (k : Int) = ((prs ns).getD k (0, 0)).1 ∧ gi (rsN ns) (k : Int) = ((prs ns).getD k (0, 0)).2 := by
  have h1 : (csN ns)[k]? = some (gi ns (2 * (k : Int) + ((0 : Nat) : Int))) := by unfold csN; rw [List.getElem?_map, List.getElem?_range h]; rfl
  have h2 : (rsN ns)[k]? = some (gi ns (2 * (k : Int) + ((1 : Nat) : Int))) := by unfold rsN; rw [List.getElem?_map, List.getElem?_range h]; rfl
  have h3 : (prs ns)[k]? = some (gi ns (2 * (k : Int)), gi ns (2 * (k : Int) + 1)) := by unfold prs; rw [List.getElem?_map, List.getElem?_range h]; rfl
  rw [gi_of h1, gi_of h2, List.getD_eq_getElem?_getD, h3]
  constructor
  · show gi ns (2 * (k : Int) + ((0 : Nat) : Int)) = gi ns (2 * (k : Int))
    congr 1
  · rfl
theorem cs_len (ns : List Int) : (csN ns).length = ns.length / 2 := by unfold csN; rw [List.length_map, List.length_range]
theorem rs_len (ns : List Int) : (rsN ns).length = ns.length / 2 := by unfold rsN; rw [List.length_map, List.length_range]
theorem prs_len (ns : List Int) : (prs ns).length = ns.length / 2 := by unfold prs; rw [List.length_map, List.length_range]
theorem prs_by {ns : List Int} (hb : By ns) : ∀ p ∈ prs ns, (0 ≤ p.1 ∧ p.1 < 256) ∧ 0 ≤ p.2 ∧ p.2 < 256 := by
  intro p hp
  obtain ⟨k, hk, rfl⟩ := List.mem_map.mp hp
  have hk2 := List.mem_range.mp hk
  exact ⟨hb.gi (by omega) (by omega), hb.gi (by omega) (by omega)⟩
theorem unpk_len : ∀ {ps : List (Int × Int)}, (∀ p ∈ ps, (0 ≤ p.1 ∧ p.1 < 256) ∧ 0 ≤ p.2 ∧ p.2 < 256) → (unpk ps).length ≤ 255 * ps.length
  | [], _ => Nat.le_refl _
  | p :: ps, h => by
    have ih := unpk_len (ps := ps) fun q hq => h q (List.mem_cons_of_mem _ hq)
    have h1 := (h p List.mem_cons_self).1
    show (List.replicate p.1.toNat p.2 ++ unpk ps).length ≤ _
    rw [List.length_append, List.length_replicate, List.length_cons]
    omega
theorem unpk_take_le (ps : List (Int × Int)) (n : Nat) : (unpk (ps.take n)).length ≤ (unpk ps).length := by
  have e : unpk ps = unpk (ps.take n) ++ unpk (ps.drop n) := by
    unfold unpk
    rw [← List.flatMap_append, List.take_append_drop]
  rw [e, List.length_append]
  omega
theorem d_undo_runs (T : Top K mg) : Def P w K mg base CX0 1 "undo_runs" ["values"] (sp_un K unR) := by
  obtain ⟨t1, g_LONGEST_RUN⟩ := T.g_LONGEST_RUN
  refine T.f_undo_runs.ok sc_undo_runs (by rintro vs H Q E ⟨a, ns, ms, rfl, _⟩; rfl) (fun f cdv A outer s H vs Q E hr h => ?_)
  obtain ⟨a, ns, ms, rfl, hS, hby, hz, hm, hml, q⟩ := h
  refine ⟨_, (pss_cons (ps_if (pt_cmpR op_eq (pe_op op_mod (pe_callB (r := Evl.rLenS K) call_len_seq (by rfl) T.b_len (by decide +kernel) (pa_cons (pv 0) pa_nil)) pe_int) pe_int (nomark _)) (pss_one ps_never) pss_nil)
      (pss_cons (ps_set (i := 1) sc_undo_runs.nd rfl (Or.inl rfl) (pe_sl3 (pv 0) (po_some pe_int) po_none (po_some pe_int)))
      (pss_cons (ps_set (i := 2) sc_undo_runs.nd rfl (Or.inl rfl) (pe_sl3 (pv 0) (po_some pe_int) po_none (po_some pe_int)))
      (pss_cons (ps_for PassesOwn.never rfl (pi_range1 (by rfl) T.b_range (pa_cons (pe_callB (r := Evl.rLenS K) call_len_seq (by rfl) T.b_len (by decide +kernel) (pa_cons (pv 1) pa_nil)) pa_nil)) (pg_name (i := 3) sc_undo_runs.nd rfl (Or.inl rfl)) (pss_cons (ps_if (pt_cmpR op_eq (pe_ix (r := rIxL K) ix_list (pv 1) (pv 3) (fun _ _ => rfl)) pe_int (nomark _)) (pss_one ps_never) pss_nil)
      (pss_one (ps_if (PW.pt (pw_and (pt_cmpR op_gt (pv 3) pe_int (nomark _)) (pw_and (pt_cmpR op_lt (pe_ix (r := rIxL K) ix_list (pv 1) (pe_op op_sub (pv 3) pe_int) (fun _ _ => rfl)) (pe_glob (v := .int 255) rfl g_LONGEST_RUN ⟨_, rfl⟩) (nomark _)) (pw_and1 (pt_cmpR op_eq (pe_ix (r := rIxL K) ix_list (pv 2) (pe_op op_sub (pv 3) pe_int) (fun _ _ => rfl)) (pe_ix (r := rIxL K) ix_list (pv 2) (pv 3) (fun _ _ => rfl)) (nomark _)))))) (pss_one ps_never) pss_nil))))
      (pss_cons (ps_set (i := 4) sc_undo_runs.nd rfl (Or.inl rfl) (pe_lst pa_nil))
      (pss_cons (ps_for PassesOwn.never rfl (RZ.pi_zipA (by rfl) T.b_zip (pa_cons (pv 1) (pa_cons (pv 2) pa_nil))) (pg_tup (n := 2) rfl (pgs_cons (pg_name (i := 5) sc_undo_runs.nd rfl (Or.inl rfl)) (pgs_cons (pg_name (i := 6) sc_undo_runs.nd rfl (Or.inl rfl)) pgs_nil))) (pss_one (ps_expr (pe_bm PySem.F.plainAttrs_list PySem.F.slot_list_extend PySem.F.type_list_extend mt_extend (pv 4) (pa_cons (pe_op op_rep (pe_lst (pa_cons (pv 6) pa_nil)) (pv 5)) pa_nil)))))
      (pss_one (ps_ret (pv 4))))))))), ?_⟩
  unfold unR at hm
  by_cases h2 : ns.length % 2 = 1
  · rw [if_pos h2] at hm; cases hm
  rw [if_neg h2] at hm
  by_cases h3 : okP (prs ns)
  · rw [if_pos h3] at hm
    cases hm
    have hok : ∀ k, k < ns.length / 2 → gi (csN ns) (k : Int) ≠ 0 ∧ ¬ (0 < k ∧ gi (csN ns) ((k : Int) - 1) < 255 ∧ gi (rsN ns) ((k : Int) - 1) = gi (rsN ns) (k : Int)) := by
      intro k hk
      have h4 := h3 k (by rw [prs_len]; exact hk)
      rw [(cs_at hk).1, (cs_at hk).2]
      refine ⟨h4.1, fun h5 => h4.2 ⟨h5.1, ?_⟩⟩
      have h6 := cs_at (ns := ns) (k := k - 1) (by omega)
      rw [show ((k : Int) - 1) = ((k - 1 : Nat) : Int) by omega, h6.1, h6.2] at h5
      exact h5.2
    walk_at "rd"
    rw [List.length_map]
    refine rif_no (by omega) ?_
    walk_at "rd"
    have e0 := stp2 (ns := ns) (a := 0) (.inl rfl) (by omega)
    have e1 := stp2 (ns := ns) (a := 1) (.inr rfl) (by omega)
    refine r_slc (Own.nil H) hS (by decide) (by rw [show (some (0 : Int)) = some ((0 : Nat) : Int) from rfl, e0, List.length_map, List.length_map, List.length_range]; omega) fun p1 H1 s1 o1 => ?_
    rw [show (some (0 : Int)) = some ((0 : Nat) : Int) from rfl, e0] at o1
    walk_at "rd"
    refine r_slc o1 (o1.old hS) (by decide) (by rw [show (some (1 : Int)) = some ((1 : Nat) : Int) from rfl, e1, List.length_map, List.length_map, List.length_range]; omega) fun p2 H2 s2 o2 => ?_
    rw [show (some (1 : Int)) = some ((1 : Nat) : Int) from rfl, e1] at o2
    replace o2 : Own H H2 [(p2, .lst ((rsN ns).map V.int)), (p1, .lst ((csN ns).map V.int))] := o2
    have hcl := cs_len ns
    have hrl := rs_len ns
    walk_at "rd"
    refine forR1 (n := ns.length / 2) (by rw [List.length_map, hcl]) (by rw [List.length_map]; omega) (fun i σ' H' => ∃ v3 : Option V, σ' = [some (.ref a), some (.ref p1), some (.ref p2), v3, none, none, none] ∧ H' = H2) ⟨_, rfl, rfl⟩ ?_ ?_
    · rintro i σ' H' hi ⟨v3, rfl, rfl⟩
      have h5 := hok i hi
      walk_at "rd"
      refine rif_no h5.1 ?_
      walk_at "rd"
      refine rif (fun h6 => ?_) fun h6 => ?_
      all_goals walk_at "rd"
      refine rif (fun h7 => ?_) fun h7 => ?_
      all_goals walk_at "rd"
      refine rif_no (fun h8 => h5.2 ⟨by omega, h7, h8⟩) ?_
      all_goals walk_at "rd"
      all_goals exact ⟨_, rfl, rfl⟩
    rintro σ' H' ⟨v3, rfl, rfl⟩
    walk_at "rd"
    refine r_newL o2 (Nat.zero_le _) fun p3 H3 o3 => ?_
    walk_at "rd"
    refine forZL (o3.sqL 2 rfl) (o3.sqL 1 rfl) (by rw [List.length_map, List.length_map, hcl, hrl]) (fun i σ' H' => ∃ v3 v5 v6 : Option V, σ' = [some (.ref a), some (.ref p1), some (.ref p2), v3, some (.ref p3), v5, v6] ∧ Own H H' [(p3, .lst ((unpk ((prs ns).take i)).map V.int)), (p2, .lst ((rsN ns).map V.int)), (p1, .lst ((csN ns).map V.int))])
      ⟨_, _, _, rfl, o3⟩ (fun i σ' H' ⟨_, _, _, _, o⟩ => ⟨o.sqL 2 rfl, o.sqL 1 rfl⟩) ?_ ?_
    · rintro i x y T2 σ' H' hx hy ⟨v3, v5, v6, rfl, o⟩ hT
      obtain ⟨x1, hx1, rfl⟩ := int_at hx
      obtain ⟨y1, hy1, rfl⟩ := int_at hy
      have hi : i < ns.length / 2 := by rw [← hcl]; exact (List.getElem?_eq_some_iff.mp hx1).1
      have hp : (prs ns)[i]? = some (x1, y1) := by
        have h1 := cs_at hi
        rw [gi_of hx1, gi_of hy1] at h1
        rw [List.getD_eq_getElem?_getD, List.getElem?_eq_getElem (by rw [prs_len]; exact hi)] at h1
        rw [List.getElem?_eq_getElem (by rw [prs_len]; exact hi)]
        exact congrArg some (Prod.ext h1.1.symm h1.2.symm)
      have hpb := prs_by hby _ (List.mem_of_getElem? hp)
      refine r_gTup2 (SqT.of upd_same) ?_
      have o4 := o.mono (same_new hT (u := .tup [.int x1, .int y1]))
      generalize upd H' T2 (.tup [.int x1, .int y1]) = H4 at *
      walk_at "rd"
      refine r_newL o4 (Nat.le_of_ble_eq_true rfl) fun p5 H5 o5 => ?_
      walk_at "rd"
      refine r_rep (n := x1.toNat) o5 (o5.at 0 rfl) rfl (by omega) (by omega) fun p6 H6 s6 o6 => ?_
      have e3 : unpk ((prs ns).take (i + 1)) = unpk ((prs ns).take i) ++ List.replicate x1.toNat y1 := by
        unfold unpk
        rw [List.take_add_one, hp, List.flatMap_append]
        simp
      have hul := unpk_take_le (prs ns) (i + 1)
      rw [e3, List.length_append, List.length_replicate] at hul
      refine ⟨p3, p6, _, _, rfl, rfl, o6.at 2 rfl, o6.at 0 rfl, sz100 (by rw [List.length_map, List.length_replicate]; omega), ?_⟩
      have o7 := o6.set (v := .lst ((unpk ((prs ns).take i)).map V.int ++ List.replicate x1.toNat (V.int y1))) 2 rfl
      generalize upd H6 p3 (.lst ((unpk ((prs ns).take i)).map V.int ++ List.replicate x1.toNat (V.int y1))) = H7 at *
      walk_at "rd"
      refine ⟨_, _, _, rfl, ?_⟩
      rw [e3, List.map_append, List.map_replicate]
      exact o7.tl.tl
    · rintro σ' H' ⟨v3, v5, v6, rfl, o⟩
      rw [List.length_map, hcl, List.take_of_length_le (by rw [prs_len]; omega)] at o
      walk_at "rd"
      exact q.mk o 0 rfl
  · rw [if_neg h3] at hm; cases hm
end

/-! ### the dispatch, and the law's own filters -/
def sD : Str := PySem.Str.ofString "delta"
def sP : Str := PySem.Str.ofString "planes"
def sR : Str := PySem.Str.ofString "runs"
def sZ : Str := PySem.Str.ofString "zeros"
def appF (nm : Str) (wd : Nat) (ns : List Int) : List Int := if nm = sD then dlt ns else if nm = sP then pln wd ns else if nm = sR then rns ns else zer ns
def undF (nm : Str) (wd : Nat) (ns : List Int) : Option (List Int) := if nm = sD then some (und ns) else if nm = sP then some (unpl wd ns) else if nm = sR then unR ns else unZ ns
def sp_app (K : PySem.W.Frag) : Sp := fun vs H Q _ => ∃ (nm : Str) (a : Addr) (ns : List Int) (wd : Nat), vs = [.str nm, .ref a, .int wd] ∧ SqL K H a (ns.map V.int) ∧ By ns ∧ Wd wd ∧ ns.length ≤ 400000 ∧ RetO H Q (.lst ((appF nm wd ns).map V.int))
def sp_und (K : PySem.W.Frag) : Sp := fun vs H Q _ => ∃ (nm : Str) (a : Addr) (ns ms : List Int) (wd : Nat), vs = [.str nm, .ref a, .int wd] ∧ SqL K H a (ns.map V.int) ∧ By ns ∧ Wd wd ∧ ns.length ≤ 400000 ∧ undF nm wd ns = some ms ∧ ms.length ≤ 1000000 ∧ RetO H Q (.lst (ms.map V.int))
/-! delta as the law says it -/
def dLaw (ns : List Int) (k : Nat) : Int := (gi ns (k : Int) - (if 0 < k then gi ns ((k : Int) - 1) else 0)) % 256
theorem dlt_fold (ns : List Int) : ∀ i, i ≤ ns.length → (ns.take i).foldl stepD ([], 0) = (mapR i (dLaw ns), if 0 < i then gi ns ((i : Int) - 1) else 0)
  | 0, _ => rfl
  | i + 1, hi => by
    have hx : ns[i]? = some (gi ns (i : Int)) := gi_eq (by omega) rfl
    rw [fold_take hx, dlt_fold ns i (by omega)]
    unfold stepD
    refine Prod.ext ?_ ?_
    · show mapR i (dLaw ns) ++ [_] = mapR (i + 1) (dLaw ns)
      unfold mapR
      rw [List.range_succ, List.map_append]
      rfl
    · show gi ns (i : Int) = if 0 < i + 1 then gi ns (((i + 1 : Nat) : Int) - 1) else 0
      rw [if_pos (by omega), show (((i + 1 : Nat) : Int) - 1) = (i : Int) by omega]
theorem dlt_law (ns : List Int) : dlt ns = mapR ns.length (dLaw ns) := by
  have h := dlt_fold ns ns.length (Nat.le_refl _)
  rw [List.take_length] at h
  unfold dlt
  rw [h]
/-! zeros as the law says them -/
def tzF (ns : List Int) : Nat → Int
  | 0 => 0
  | i + 1 => if gi ns (i : Int) = 0 then tzF ns i + 1 else 0
theorem tz_nn (ns : List Int) : ∀ i, 0 ≤ tzF ns i ∧ tzF ns i ≤ i
  | 0 => ⟨Int.le_refl _, Int.le_refl _⟩
  | i + 1 => by
    have ih := tz_nn ns i
    unfold tzF
    split <;> omega
theorem kz_tz (ns : List Int) : ∀ k, k ≤ ns.length → ns.length - k ≤ 65535 → ((ns.length - kz ns k : Nat) : Int) = min (((ns.length - k : Nat) : Int) + tzF ns k) 65535
  | 0, _, h => by
    unfold kz tzF
    omega
  | k + 1, hk, h => by
    have hle := kz_le ns k
    have ht := tz_nn ns k
    unfold kz tzF
    by_cases h1 : gi ns (k : Int) = 0
    · rw [if_pos h1]
      by_cases h2 : ns.length - (k + 1) < 65535
      · rw [if_pos ⟨h1, h2⟩, kz_tz ns k (by omega) (by omega)]
        omega
      · rw [if_neg (fun h => h2 h.2)]
        omega
    · rw [if_neg h1, if_neg (fun h => h1 h.1)]
      omega
theorem zer_law (ns : List Int) : zer ns = [min (tzF ns ns.length) 65535 / 256, min (tzF ns ns.length) 65535 % 256] ++ ns.take (ns.length - (min (tzF ns ns.length) 65535).toNat) := by
  have h := kz_tz ns ns.length (Nat.le_refl _) (by omega)
  have hle := kz_le ns ns.length
  have ht := tz_nn ns ns.length
  unfold zer
  rw [h]
  congr 1
  · congr 1
    · congr 1
      omega
    · congr 1
      congr 1
      omega
  · congr 1
    omega
theorem push_even {f : List Int} (v : Int) (h : f.length % 2 = 0) : (push f v).length % 2 = 0 := by
  unfold push
  split
  · rw [List.length_set]; exact h
  · rw [List.length_append]; simp; omega
theorem rns_even : ∀ (ns : List Int) (f : List Int), f.length % 2 = 0 → (ns.foldl push f).length % 2 = 0
  | [], f, h => h
  | x :: ns, f, h => by
    rw [List.foldl_cons]
    exact rns_even ns _ (push_even x h)
def plnL (wd : Nat) (ns : List Int) (i : Nat) : List Int := (List.range i).flatMap fun p => ((List.range ns.length).filter fun k => k % wd == p).map fun (k : Nat) => gi ns (k : Int)
theorem plnL_eq (wd : Nat) (ns : List Int) : plnL wd ns wd = pln wd ns := by
  unfold plnL pln ordN
  rw [List.map_flatMap]
theorem plnL_len {wd : Nat} (hw : Wd wd) (ns : List Int) {i : Nat} (hi : i ≤ wd) : (plnL wd ns i).length ≤ ns.length := by
  have e : pln wd ns = plnL wd ns i ++ ((List.range (wd - i)).map (i + ·)).flatMap fun p => ((List.range ns.length).filter fun k => k % wd == p).map fun (k : Nat) => gi ns (k : Int) := by
    rw [← plnL_eq]
    unfold plnL
    rw [← List.flatMap_append, ← List.range_add, show i + (wd - i) = wd by omega]
  have h : (pln wd ns).length = ns.length := by unfold pln; rw [List.length_map, ord_len hw]
  rw [e, List.length_append] at h
  omega
section
variable {P : Program} {w : World} {K : PySem.W.Frag} {mg : Str → Option Value} {base : Heap}
theorem ne_pd : ¬ sP = sD := by decide +kernel
theorem ne_rd : ¬ sR = sD := by decide +kernel
theorem ne_rp : ¬ sR = sP := by decide +kernel
theorem d_apply_filter (T : Top K mg) : Def P w K mg base CX0 3 "apply_filter" ["name", "values", "size"] (sp_app K) := by
  have G_apply_delta : Def P w K mg base CX0 1 "apply_delta" ["values"] (sp_l1 K dlt) := d_apply_delta T
  have G_apply_planes : Def P w K mg base CX0 2 "apply_planes" ["values", "size"] (sp_l2 K pln) := d_apply_planes T
  have G_apply_runs : Def P w K mg base CX0 1 "apply_runs" ["values"] (sp_l1 K rns) := d_apply_runs T
  have G_apply_zeros : Def P w K mg base CX0 1 "apply_zeros" ["values"] (sp_l1 K zer) := d_apply_zeros T
  refine T.f_apply_filter.ok sc_apply_filter (by rintro vs H Q E ⟨nm, a, ns, wd, rfl, _⟩; rfl) (fun f cdv A outer s H vs Q E hr h => ?_)
  obtain ⟨nm, a, ns, wd, rfl, hS, hby, hw, hz, q⟩ := h
  refine ⟨_, (pss_cons (ps_if (pt_cmpR op_eq (pv 0) pe_str (nomark _)) (pss_one (ps_ret (pe_callD G_apply_delta (hr.mono (by decide)) (pa_cons (pv 1) pa_nil)))) pss_nil)
      (pss_cons (ps_if (pt_cmpR op_eq (pv 0) pe_str (nomark _)) (pss_one (ps_ret (pe_callD G_apply_planes (hr.mono (by decide)) (pa_cons (pv 1) (pa_cons (pv 2) pa_nil))))) pss_nil)
      (pss_cons (ps_if (pt_cmpR op_eq (pv 0) pe_str (nomark _)) (pss_one (ps_ret (pe_callD G_apply_runs (hr.mono (by decide)) (pa_cons (pv 1) pa_nil)))) pss_nil)
      (pss_one (ps_ret (pe_callD G_apply_zeros (hr.mono (by decide)) (pa_cons (pv 1) pa_nil))))))), ?_⟩
  unfold appF at q
  walk_at "rd"
  refine rif (fun h1 => ?_) fun h1 => ?_
  · rw [if_pos (show nm = sD from h1)] at q
    walk_at "rd"
    exact ⟨_, _, rfl, hS, hby, by omega, q⟩
  rw [if_neg (show ¬ nm = sD from h1)] at q
  walk_at "rd"
  refine rif (fun h2 => ?_) fun h2 => ?_
  · rw [if_pos (show nm = sP from h2)] at q
    walk_at "rd"
    exact ⟨_, _, _, rfl, hS, hby, hw, by omega, q⟩
  rw [if_neg (show ¬ nm = sP from h2)] at q
  walk_at "rd"
  refine rif (fun h3 => ?_) fun h3 => ?_
  · rw [if_pos (show nm = sR from h3)] at q
    walk_at "rd"
    exact ⟨_, _, rfl, hS, hby, by omega, q⟩
  rw [if_neg (show ¬ nm = sR from h3)] at q
  walk_at "rd"
  exact ⟨_, _, rfl, hS, hby, by omega, q⟩
theorem d_undo_filter (T : Top K mg) : Def P w K mg base CX0 3 "undo_filter" ["name", "values", "size"] (sp_und K) := by
  have G_undo_delta : Def P w K mg base CX0 1 "undo_delta" ["values"] (sp_l1 K und) := d_undo_delta T
  have G_undo_planes : Def P w K mg base CX0 2 "undo_planes" ["values", "size"] (sp_l2 K unpl) := d_undo_planes T
  have G_undo_runs : Def P w K mg base CX0 1 "undo_runs" ["values"] (sp_un K unR) := d_undo_runs T
  have G_undo_zeros : Def P w K mg base CX0 1 "undo_zeros" ["values"] (sp_un K unZ) := d_undo_zeros T
  refine T.f_undo_filter.ok sc_undo_filter (by rintro vs H Q E ⟨nm, a, ns, ms, wd, rfl, _⟩; rfl) (fun f cdv A outer s H vs Q E hr h => ?_)
  obtain ⟨nm, a, ns, ms, wd, rfl, hS, hby, hw, hz, hu, hml, q⟩ := h
  refine ⟨_, (pss_cons (ps_if (pt_cmpR op_eq (pv 0) pe_str (nomark _)) (pss_one (ps_ret (pe_callD G_undo_delta (hr.mono (by decide)) (pa_cons (pv 1) pa_nil)))) pss_nil)
      (pss_cons (ps_if (pt_cmpR op_eq (pv 0) pe_str (nomark _)) (pss_one (ps_ret (pe_callD G_undo_planes (hr.mono (by decide)) (pa_cons (pv 1) (pa_cons (pv 2) pa_nil))))) pss_nil)
      (pss_cons (ps_if (pt_cmpR op_eq (pv 0) pe_str (nomark _)) (pss_one (ps_ret (pe_callD G_undo_runs (hr.mono (by decide)) (pa_cons (pv 1) pa_nil)))) pss_nil)
      (pss_one (ps_ret (pe_callD G_undo_zeros (hr.mono (by decide)) (pa_cons (pv 1) pa_nil))))))), ?_⟩
  unfold undF at hu
  walk_at "rd"
  refine rif (fun h1 => ?_) fun h1 => ?_
  · rw [if_pos (show nm = sD from h1)] at hu
    cases hu
    walk_at "rd"
    exact ⟨_, _, rfl, hS, hby, by omega, q⟩
  rw [if_neg (show ¬ nm = sD from h1)] at hu
  walk_at "rd"
  refine rif (fun h2 => ?_) fun h2 => ?_
  · rw [if_pos (show nm = sP from h2)] at hu
    cases hu
    walk_at "rd"
    exact ⟨_, _, _, rfl, hS, hby, hw, by omega, q⟩
  rw [if_neg (show ¬ nm = sP from h2)] at hu
  walk_at "rd"
  refine rif (fun h3 => ?_) fun h3 => ?_
  · rw [if_pos (show nm = sR from h3)] at hu
    walk_at "rd"
    exact ⟨_, _, _, rfl, hS, hby, by omega, hu, hml, q⟩
  rw [if_neg (show ¬ nm = sR from h3)] at hu
  walk_at "rd"
  exact ⟨_, _, _, rfl, hS, hby, by omega, hu, hml, q⟩
theorem d_law_filter (T : Top K mg) : Def P w K mg base CX0 1 "_law_filter" ["name", "values", "size"] (sp_app K) := by
  refine T.f__law_filter.ok sc__law_filter (by rintro vs H Q E ⟨nm, a, ns, wd, rfl, _⟩; rfl) (fun f cdv A outer s H vs Q E hr h => ?_)
  obtain ⟨nm, a, ns, wd, rfl, hS, hby, hw, hz, q⟩ := h
  refine ⟨_, (pss_cons (ps_if (pt_cmpR op_eq (pv 0) pe_str (nomark _)) (pss_one (ps_ret (pe_lc (own := [("k", 3)]) (g := (gName 3)) (tt := tYes) rfl sc__law_filter.nd (pi_range1 (by rfl) T.b_range (pa_cons (pe_callB (r := Evl.rLenS K) call_len_seq (by rfl) T.b_len (by decide +kernel) (pa_cons (pv 1) pa_nil)) pa_nil)) (blkOk_by (N := N__law_filter) (sc := defScope s__law_filter) (by decide +kernel)) (fun _ _ _ _ _ => (pg_name (i := 3) sc__law_filter.nd rfl (Or.inl rfl))) (fun _ _ _ _ _ => pts_nil) (fun _ _ _ _ _ => (pe_op op_mod (pe_callTy (r := rInt1) call_int1 (by rfl) T.b_int (by decide +kernel) (pa_cons (pe_op op_sub (pe_ix (r := rIxL K) ix_list (pv 1) (pv 3) (fun _ _ => rfl)) (pe_cutE (pe_ifExp (pt_cmpR op_gt (pv 3) pe_int (nomark _)) (pe_ix (r := rIxL K) ix_list (pv 1) (pe_op op_sub (pv 3) pe_int) (fun _ _ => rfl)) pe_int))) pa_nil)) pe_int))))) pss_nil)
      (pss_cons (ps_if (pt_cmpR op_eq (pv 0) pe_str (nomark _)) (pss_cons (ps_set (i := 4) sc__law_filter.nd rfl (Or.inl rfl) (pe_lst pa_nil))
      (pss_cons (ps_for PassesOwn.never rfl (pi_range1 (by rfl) T.b_range (pa_cons (pv 2) pa_nil)) (pg_name (i := 5) sc__law_filter.nd rfl (Or.inr rfl)) (pss_one (ps_set (i := 4) sc__law_filter.nd rfl (Or.inl rfl) (pe_op op_cat (pv 4) (pe_lc (own := [("k", 3)]) (g := (gName 3)) rfl sc__law_filter.nd (pi_range1 (by rfl) T.b_range (pa_cons (pe_callB (r := Evl.rLenS K) call_len_seq (by rfl) T.b_len (by decide +kernel) (pa_cons (pv 1) pa_nil)) pa_nil)) (blkOk_by (N := N__law_filter) (sc := defScope s__law_filter) (by decide +kernel)) (fun _ _ _ _ _ => (pg_name (i := 3) sc__law_filter.nd rfl (Or.inl rfl))) (fun _ _ _ _ _ => pts_one (pt_cmpR op_eq (pe_op op_mod (pv 3) (pv 2)) (pv 5) (nomark _))) (fun _ _ _ _ _ => (pe_ix (r := rIxL K) ix_list (pv 1) (pv 3) (fun _ _ => rfl))))))))
      (pss_one (ps_ret (pv 4))))) pss_nil)
      (pss_cons (ps_if (pt_cmpR op_eq (pv 0) pe_str (nomark _)) (pss_cons (ps_set (i := 4) sc__law_filter.nd rfl (Or.inl rfl) (pe_lst pa_nil))
      (pss_cons (ps_for PassesOwn.never rfl (pi_list (pv 1)) (pg_name (i := 6) sc__law_filter.nd rfl (Or.inl rfl)) (pss_one (ps_if (pt_cutT (PW.pt (pw_and (pt_cmpR op_gt (pe_callB (r := Evl.rLenS K) call_len_seq (by rfl) T.b_len (by decide +kernel) (pa_cons (pv 4) pa_nil)) pe_int (nomark _)) (pw_and (pt_cmpR op_eq (pe_ix (r := rIxL K) ix_list (pv 4) (pe_un un_neg pe_int) (fun _ _ => rfl)) (pv 6) (nomark _)) (pw_and1 (pt_cmpR op_lt (pe_ix (r := rIxL K) ix_list (pv 4) (pe_un un_neg pe_int) (fun _ _ => rfl)) pe_int (nomark _))))))) (pss_one (ps_asg (pe_op op_add (pe_ix (r := rIxL K) ix_list (pv 4) (pe_un un_neg pe_int) (fun _ _ => rfl)) pe_int) (pg_sub (pv 4) (pe_un un_neg pe_int) set_list))) (pss_one (ps_set (i := 4) sc__law_filter.nd rfl (Or.inl rfl) (pe_op op_cat (pv 4) (pe_lst (pa_cons pe_int (pa_cons (pv 6) pa_nil)))))))))
      (pss_one (ps_ret (pv 4))))) pss_nil)
      (pss_cons (ps_set (i := 7) sc__law_filter.nd rfl (Or.inl rfl) pe_int)
      (pss_cons (ps_for PassesOwn.never rfl (pi_range1 (by rfl) T.b_range (pa_cons (pe_callB (r := Evl.rLenS K) call_len_seq (by rfl) T.b_len (by decide +kernel) (pa_cons (pv 1) pa_nil)) pa_nil)) (pg_name (i := 3) sc__law_filter.nd rfl (Or.inl rfl)) (pss_one (ps_set (i := 7) sc__law_filter.nd rfl (Or.inl rfl) (pe_cutE (pe_ifExp (pt_cmpR op_eq (pe_ix (r := rIxL K) ix_list (pv 1) (pv 3) (fun _ _ => rfl)) pe_int (nomark _)) (pe_op op_add (pv 7) pe_int) pe_int)))))
      (pss_cons (ps_set (i := 7) sc__law_filter.nd rfl (Or.inl rfl) (pe_callB (r := rMin2) (call_min2 rfl) (by rfl) T.b_min (by decide +kernel) (pa_cons (pv 7) (pa_cons pe_int pa_nil))))
      (pss_one (ps_ret (pe_op op_cat (pe_lst (pa_cons (pe_op op_fdiv (pv 7) pe_int) (pa_cons (pe_op op_mod (pv 7) pe_int) pa_nil))) (pe_slice (r := rSlL K) sl_list (pv 1) po_none (po_some (pe_op op_sub (pe_callB (r := Evl.rLenS K) call_len_seq (by rfl) T.b_len (by decide +kernel) (pa_cons (pv 1) pa_nil)) (pv 7))))))))))))), ?_⟩
  unfold appF at q
  have hw4 : wd ≤ 4 ∧ 1 ≤ wd := by rcases hw with rfl | rfl | rfl <;> decide
  walk_at "rd"
  refine rif (fun h1 => ?_) fun h1 => ?_
  · rw [if_pos (show nm = sD from h1), dlt_law] at q
    walk_at "rd"
    rw [List.length_map]
    refine lcR1I (dLaw ns) (Own.nil H) rfl (by omega) (fun x => rfl) ?_ fun p2 H2 o2 => ?_
    · intro i p zs H' Q' hi o' q'
      have hS' := o'.old hS
      walk_at "rd"
      refine r_cutI (fun m => m = if 0 < i then gi ns ((i : Int) - 1) else 0) ?_ ?_
      · walk_at "rd"
        refine rif (fun h2 => ?_) fun h2 => ?_
        · walk_at "rd"
          exact ⟨rfl, _, rfl, (if_pos (by omega)).symm⟩
        · walk_at "rd"
          exact ⟨rfl, _, rfl, (if_neg (by omega)).symm⟩
      rintro m rfl
      walk_at "rd"
      exact q'.here
    · exact q.mk o2 0 rfl
  rw [if_neg (show ¬ nm = sD from h1)] at q
  walk_at "rd"
  refine rif (fun h2 => ?_) fun h2 => ?_
  · rw [if_pos (show nm = sP from h2), ← plnL_eq] at q
    walk_at "rd"
    refine r_newL (Own.nil H) (Nat.zero_le _) fun p1 H1 o1 => ?_
    walk_at "rd"
    refine forR1 (n := wd) rfl (by omega) (fun i σ' H' => ∃ (p : Addr) (v5 : Option V), σ' = [some (.str nm), some (.ref a), some (.int wd), none, some (.ref p), v5, none, none] ∧ Own H H' [(p, .lst ((plnL wd ns i).map V.int))]) ⟨p1, none, rfl, o1⟩ ?_ ?_
    · rintro i σ' H' hi ⟨p, v5, rfl, o⟩
      have hS' := o.old hS
      walk_at "rd"
      refine lcGR (n := ns.length) (fun k => if k % wd == i then some (.int (gi ns (k : Int))) else none) o (by rw [List.length_map]) (by omega) (fun x => rfl) ?_ ?_ fun p2 H2 s2 o2 => ?_
      · intro k q2 zs H'' Q' hk o'' _ q'
        walk_at "rd"
        have e : (if k % wd == i then some (V.int (gi ns (k : Int))) else none).isSome = decide ((k : Int) % (wd : Int) = (i : Int)) := by
          have e2 : (k : Int) % (wd : Int) = ((k % wd : Nat) : Int) := rfl
          rw [e2]
          by_cases hc : k % wd = i
          · rw [if_pos (by simpa using hc)]
            exact (decide_eq_true (by omega)).symm
          · rw [if_neg (by simpa using hc)]
            exact (decide_eq_false (by omega)).symm
        rw [e] at q'
        exact q' _ (Same.refl _)
      · intro k y q2 zs H'' Q' hk hy o'' _ q'
        have hS2 := o''.old hS
        walk_at "rd"
        split at hy
        · cases hy
          exact q'.here
        · cases hy
      · rw [fm_filter] at o2
        have hl1 := plnL_len hw ns (i := i) (by omega)
        have hl2 := plnL_len hw ns (i := i + 1) (by omega)
        have e3 : plnL wd ns (i + 1) = plnL wd ns i ++ ((List.range ns.length).filter fun k => k % wd == i).map fun (k : Nat) => gi ns (k : Int) := by
          unfold plnL
          rw [List.range_succ, List.flatMap_append]
          simp
        rw [e3, List.length_append, List.length_map] at hl2
        refine r_cat o2 (o2.at 1 rfl) (o2.at 0 rfl) (by rw [List.length_map, List.length_map]; omega) fun p3 H3 o3 => ?_
        walk_at "rd"
        refine ⟨p3, _, rfl, ?_⟩
        rw [e3, List.map_append, List.map_map]
        exact o3.pick1 0 rfl
    · rintro σ' H' ⟨p, v5, rfl, o⟩
      walk_at "rd"
      exact q.mk o 0 rfl
  rw [if_neg (show ¬ nm = sP from h2)] at q
  walk_at "rd"
  refine rif (fun h3 => ?_) fun h3 => ?_
  · rw [if_pos (show nm = sR from h3)] at q
    walk_at "rd"
    refine r_newL (Own.nil H) (Nat.zero_le _) fun p1 H1 o1 => ?_
    walk_at "rd"
    refine forL (o1.old hS) (fun i σ' H' => ∃ (p : Addr) (v6 : Option V), σ' = [some (.str nm), some (.ref a), some (.int wd), none, some (.ref p), none, v6, none] ∧ Own H H' [(p, .lst (((ns.take i).foldl push []).map V.int))]) ⟨p1, none, rfl, o1⟩ (fun i σ' H' _ ⟨_, _, _, o⟩ => o.old hS) ?_ ?_
    · rintro i v σ' H' hv ⟨p, v6, rfl, o⟩
      obtain ⟨x, hx, rfl⟩ := int_at hv
      have hev := rns_even (ns.take i) [] rfl
      have hl := rns_len (ns.take i) []
      rw [List.length_take] at hl
      rw [fold_take hx]
      generalize hF : (ns.take i).foldl push [] = ff at *
      simp at hl
      walk_at "rd"
      refine r_cutB (decide (0 < ff.length ∧ gi ff ((ff.length : Int) - 1) = x ∧ gi ff ((ff.length : Int) - 2) < 255)) ?_ ?_
      · walk_at "rd"
        rw [List.length_map]
        refine rif (fun h4 => ?_) fun h4 => ?_
        · walk_at "rd"
          refine r_ixL (o.sqL 0 rfl) (at_neg (d := 1) (by omega) (by omega)) ?_
          walk_at "rd"
          refine rif (fun h5 => ?_) fun h5 => ?_
          · walk_at "rd"
            refine r_ixL (o.sqL 0 rfl) (at_neg (d := 2) (by omega) (by omega)) ?_
            walk_at "rd"
            refine ⟨decide_eq_decide.mpr ⟨fun h6 => ⟨by omega, h5, h6⟩, fun h6 => h6.2.2⟩, rfl⟩
          · walk_at "rd"
            exact ⟨(decide_eq_false fun h6 => h5 h6.2.1).symm, rfl⟩
        · walk_at "rd"
          exact ⟨(decide_eq_false fun h6 => by omega).symm, rfl⟩
      refine rif (fun h4 => ?_) fun h4 => ?_
      · walk_at "rd"
        refine r_ixL (o.sqL 0 rfl) (at_neg (d := 2) (by omega) (by omega)) ?_
        walk_at "rd"
        refine r_setL (k := ff.length - 2) o 0 rfl (by rw [List.length_map]; exact ix_neg (d := 2) (by omega) (by omega)) fun H5 o5 => ?_
        refine ⟨p, _, rfl, ?_⟩
        unfold push
        rw [if_pos h4, List.map_set]
        exact o5
      · walk_at "rd"
        refine r_newL o (Nat.le_of_ble_eq_true rfl) fun p2 H2 o2 => ?_
        refine r_cat o2 (o2.at 1 rfl) (o2.at 0 rfl) (by rw [List.length_map]; simp; omega) fun p3 H3 o3 => ?_
        walk_at "rd"
        refine ⟨p3, _, rfl, ?_⟩
        unfold push
        rw [if_neg h4, List.map_append]
        exact o3.pick1 0 rfl
    · rintro σ' H' ⟨p, v6, rfl, o⟩
      rw [List.length_map, List.take_length] at o
      walk_at "rd"
      exact q.mk o 0 rfl
  rw [if_neg (show ¬ nm = sR from h3), zer_law] at q
  walk_at "rd"
  refine forR1 (n := ns.length) (by rw [List.length_map]) (by rw [List.length_map]; omega) (fun i σ' H' => ∃ (v3 : Option V), σ' = [some (.str nm), some (.ref a), some (.int wd), v3, none, none, none, some (.int (tzF ns i))] ∧ H' = H) ⟨none, rfl, rfl⟩ ?_ ?_
  · rintro i σ' H' hi ⟨v3, rfl, rfl⟩
    walk_at "rd"
    refine r_cutI (fun m => m = tzF ns (i + 1)) ?_ ?_
    · walk_at "rd"
      refine rif (fun h4 => ?_) fun h4 => ?_
      · walk_at "rd"
        refine ⟨rfl, _, rfl, ?_⟩
        show _ = if gi ns (i : Int) = 0 then tzF ns i + 1 else 0
        rw [if_pos h4]
      · walk_at "rd"
        refine ⟨rfl, _, rfl, ?_⟩
        show _ = if gi ns (i : Int) = 0 then tzF ns i + 1 else 0
        rw [if_neg h4]
    rintro m rfl
    walk_at "rd"
    exact ⟨_, rfl, rfl⟩
  · rintro σ' H' ⟨v3, rfl, rfl⟩
    have ht := tz_nn ns ns.length
    have em : (if (65535 : Int) < tzF ns ns.length then 65535 else tzF ns ns.length) = min (tzF ns ns.length) 65535 := by split <;> omega
    walk_at "rd"
    rw [em]
    refine r_newL (Own.nil H') (Nat.le_of_ble_eq_true rfl) fun p1 H1 o1 => ?_
    walk_at "rd"
    rw [List.length_map]
    refine r_slL o1 (o1.old hS) fun p2 H2 o2 => ?_
    rw [show ((ns.length : Int) - min (tzF ns ns.length) 65535) = ((ns.length - (min (tzF ns ns.length) 65535).toNat : Nat) : Int) by omega, cut_hi] at o2
    refine r_cat o2 (o2.at 1 rfl) (o2.at 0 rfl) (by rw [List.length_take, List.length_map]; simp; omega) fun p3 H3 o3 => ?_
    refine q.mk o3 0 ?_
    rw [List.map_append, List.map_take]
    rfl
end

/-! ### the way back gives the bytes again -/
theorem und_dlt {ns : List Int} (hb : By ns) : und (dlt ns) = ns := by
  have h : ∀ i, i ≤ ns.length → ((dlt ns).take i).foldl stepU ([], 0) = (ns.take i, if 0 < i then gi ns ((i : Int) - 1) else 0) := by
    intro i
    induction i with
    | zero => intro _; rfl
    | succ i ih =>
      intro hi
      have hx : (dlt ns)[i]? = some (dLaw ns i) := by rw [dlt_law]; exact mapR_get (by omega)
      have hy := gi_eq (show i < ns.length by omega) rfl
      rw [fold_take hx, ih (by omega)]
      have hg := hb.gi (i := (i : Int)) (by omega) (by omega)
      have e : ((if 0 < i then gi ns ((i : Int) - 1) else 0) + dLaw ns i) % 256 = gi ns (i : Int) := by
        unfold dLaw
        generalize (if 0 < i then gi ns ((i : Int) - 1) else 0) = z
        omega
      generalize (if 0 < i then gi ns ((i : Int) - 1) else 0) = z at *
      unfold stepU
      refine Prod.ext ?_ ?_
      · show ns.take i ++ [_] = ns.take (i + 1)
        rw [List.take_add_one, hy, e]
        rfl
      · show _ = if 0 < i + 1 then gi ns (((i + 1 : Nat) : Int) - 1) else 0
        rw [if_pos (by omega), show (((i + 1 : Nat) : Int) - 1) = (i : Int) by omega]
        exact e
  have hl : (dlt ns).length = ns.length := by rw [dlt_law, mapR_len]
  have h2 := h ns.length (Nat.le_refl _)
  rw [← hl, List.take_length, hl, List.take_length] at h2
  unfold und
  rw [h2]
theorem dlt_by (ns : List Int) : By (dlt ns) := by
  rw [dlt_law]
  intro x hx
  obtain ⟨k, _, rfl⟩ := mapR_mem hx
  unfold dLaw
  omega
theorem set_fold (g : Nat → Int) : ∀ (os : List Nat) (s : List Int), (∀ k ∈ os, k < s.length) → ∀ j, j < s.length → ((os.map fun k => (k, g k)).foldl unplF s)[j]? = some (if j ∈ os then g j else s.getD j 0)
  | [], s, _, j, hj => by
    rw [if_neg (by simp), List.getD_eq_getElem?_getD, List.getElem?_eq_getElem hj]
    show s[j]? = some s[j]
    exact List.getElem?_eq_getElem hj
  | k :: os, s, h, j, hj => by
    rw [List.map_cons, List.foldl_cons]
    have hk := h k List.mem_cons_self
    have e : (unplF s (k, g k)) = s.set k (g k) := rfl
    rw [e, set_fold g os (s.set k (g k)) (fun q hq => by rw [List.length_set]; exact h q (List.mem_cons_of_mem _ hq)) j (by rw [List.length_set]; exact hj)]
    by_cases h1 : j ∈ os
    · rw [if_pos h1, if_pos (List.mem_cons_of_mem _ h1)]
    · rw [if_neg h1]
      by_cases h2 : j = k
      · subst h2
        rw [if_pos List.mem_cons_self, List.getD_eq_getElem?_getD, List.getElem?_set_self hk]
        rfl
      · rw [if_neg (by simp [h1, h2]), List.getD_eq_getElem?_getD, List.getElem?_set_ne (Ne.symm h2), List.getD_eq_getElem?_getD]
theorem zip_map_self (g : Nat → Int) : ∀ os : List Nat, os.zip (os.map g) = os.map fun k => (k, g k)
  | [] => rfl
  | o :: os => by rw [List.map_cons, List.map_cons, List.zip_cons_cons, zip_map_self g os]
theorem pln_len {wd : Nat} (hw : Wd wd) (ns : List Int) : (pln wd ns).length = ns.length := by unfold pln; rw [List.length_map, ord_len hw]
theorem unpl_pln {wd : Nat} (hw : Wd wd) (ns : List Int) : unpl wd (pln wd ns) = ns := by
  unfold unpl
  rw [pln_len hw]
  unfold pln
  rw [zip_map_self]
  refine List.ext_getElem? fun j => ?_
  by_cases hj : j < ns.length
  · rw [set_fold (fun (k : Nat) => gi ns (k : Int)) (ordN ns.length wd) (List.replicate ns.length 0) (fun k hk => by rw [List.length_replicate]; exact (ord_mem hw).mp hk) j (by rw [List.length_replicate]; exact hj), if_pos ((ord_mem hw).mpr hj)]
    exact (gi_eq hj rfl).symm
  · have e := unplF_len ((ordN ns.length wd).map fun (k : Nat) => (k, gi ns (k : Int))) (List.replicate ns.length 0)
    rw [List.length_replicate] at e
    rw [List.getElem?_eq_none (by omega), List.getElem?_eq_none (by omega)]
theorem pln_by {wd : Nat} (hw : Wd wd) {ns : List Int} (hb : By ns) : By (pln wd ns) := by
  intro x hx
  obtain ⟨k, hk, rfl⟩ := List.mem_map.mp hx
  exact hb.gi (by omega) (by have := (ord_mem hw).mp hk; omega)
def flt (ps : List (Int × Int)) : List Int := ps.flatMap fun p => [p.1, p.2]
theorem flt_len : ∀ ps : List (Int × Int), (flt ps).length = 2 * ps.length
  | [] => rfl
  | p :: ps => by
    show ([p.1, p.2] ++ flt ps).length = _
    rw [List.length_append, flt_len ps, List.length_cons]
    simp
    omega
theorem flt_at : ∀ (ps : List (Int × Int)) (k : Nat), k < ps.length → gi (flt ps) (2 * (k : Int)) = (ps.getD k (0, 0)).1 ∧ gi (flt ps) (2 * (k : Int) + 1) = (ps.getD k (0, 0)).2
  | [], k, h => by simp at h
  | p :: ps, 0, _ => ⟨rfl, rfl⟩
  | p :: ps, k + 1, h => by
    have ih := flt_at ps k (by simpa using h)
    have e1 : gi (flt (p :: ps)) (2 * ((k + 1 : Nat) : Int)) = gi (flt ps) (2 * (k : Int)) := by
      unfold gi
      rw [show (2 * ((k + 1 : Nat) : Int)).toNat = (2 * (k : Int)).toNat + 2 by omega]
      rfl
    have e2 : gi (flt (p :: ps)) (2 * ((k + 1 : Nat) : Int) + 1) = gi (flt ps) (2 * (k : Int) + 1) := by
      unfold gi
      rw [show (2 * ((k + 1 : Nat) : Int) + 1).toNat = (2 * (k : Int) + 1).toNat + 2 by omega]
      rfl
    rw [e1, e2]
    exact ih
theorem prs_flt (ps : List (Int × Int)) : prs (flt ps) = ps := by
  refine List.ext_getElem? fun k => ?_
  by_cases hk : k < ps.length
  · have h1 : (prs (flt ps))[k]? = some (gi (flt ps) (2 * (k : Int)), gi (flt ps) (2 * (k : Int) + 1)) := by
      unfold prs
      rw [List.getElem?_map, List.getElem?_range (by rw [flt_len]; omega)]
      rfl
    have h2 := flt_at ps k hk
    rw [h1, h2.1, h2.2, List.getD_eq_getElem?_getD, List.getElem?_eq_getElem hk]
    rfl
  · rw [List.getElem?_eq_none (by rw [prs_len, flt_len]; omega), List.getElem?_eq_none (by omega)]
def gdP (ps : List (Int × Int)) : Prop := ∀ k, k < ps.length → (1 ≤ (ps.getD k (0, 0)).1 ∧ (ps.getD k (0, 0)).1 ≤ 255) ∧ ¬ (0 < k ∧ (ps.getD (k - 1) (0, 0)).1 < 255 ∧ (ps.getD (k - 1) (0, 0)).2 = (ps.getD k (0, 0)).2)
theorem getD_snoc {qs : List (Int × Int)} {p : Int × Int} {k : Nat} : (qs ++ [p]).getD k (0, 0) = if k < qs.length then qs.getD k (0, 0) else if k = qs.length then p else (0, 0) := by
  rw [List.getD_eq_getElem?_getD]
  by_cases h : k < qs.length
  · rw [if_pos h, List.getElem?_append_left h, List.getD_eq_getElem?_getD]
  · rw [if_neg h, List.getElem?_append_right (by omega)]
    by_cases h2 : k = qs.length
    · rw [if_pos h2, h2, Nat.sub_self]; rfl
    · rw [if_neg h2, List.getElem?_eq_none (by simp; omega)]; rfl
theorem flt_snoc (qs : List (Int × Int)) (p : Int × Int) : flt (qs ++ [p]) = flt qs ++ [p.1, p.2] := by unfold flt; rw [List.flatMap_append]; simp
theorem unpk_snoc (qs : List (Int × Int)) (p : Int × Int) : unpk (qs ++ [p]) = unpk qs ++ List.replicate p.1.toNat p.2 := by unfold unpk; rw [List.flatMap_append]; simp
theorem push_good {ps : List (Int × Int)} {xs : List Int} (v : Int) (hg : gdP ps) (hu : unpk ps = xs) : ∃ qs, push (flt ps) v = flt qs ∧ gdP qs ∧ unpk qs = xs ++ [v] := by
  have add : noM (flt ps) v → (∀ q, ps ≠ [] → ps.getLast? = some q → ¬ (q.1 < 255 ∧ q.2 = v)) → ∃ qs, push (flt ps) v = flt qs ∧ gdP qs ∧ unpk qs = xs ++ [v] := by
    intro hn hq
    refine ⟨ps ++ [(1, v)], ?_, ?_, ?_⟩
    · unfold push
      rw [if_neg hn, flt_snoc]
    · intro k hk
      rw [List.length_append] at hk
      simp at hk
      rw [getD_snoc, getD_snoc]
      by_cases h1 : k < ps.length
      · rw [if_pos h1, if_pos (by omega)]
        exact hg k h1
      · have h2 : k = ps.length := by omega
        rw [if_neg h1, if_pos h2]
        refine ⟨⟨(show (1 : Int) ≤ 1 by decide), (show (1 : Int) ≤ 255 by decide)⟩, fun h3 => ?_⟩
        rw [if_pos (by omega), h2] at h3
        have hne : ps ≠ [] := fun e => by rw [e] at h2; simp at h2; omega
        refine hq _ hne (List.getLast?_eq_getElem? ▸ ?_) h3.2
        rw [List.getD_eq_getElem?_getD, List.getElem?_eq_getElem (by omega)]
        rfl
    · rw [unpk_snoc, hu]
      rfl
  rcases List.eq_nil_or_concat ps with e | ⟨qs, ⟨c, u⟩, e⟩
  · subst e
    exact add (fun h => absurd h.1 (by simp [flt])) (fun q h => absurd rfl h)
  · rw [List.concat_eq_append] at e
    subst e
    have hl := hg qs.length (by simp)
    rw [getD_snoc, if_neg (Nat.lt_irrefl _), if_pos rfl] at hl
    obtain ⟨g1, g2⟩ := gi_app2 (flt qs) c u
    by_cases hm : u = v ∧ c < 255
    · obtain ⟨rfl, hc⟩ := hm
      refine ⟨qs ++ [(c + 1, u)], ?_, ?_, ?_⟩
      · rw [flt_snoc, flt_snoc]
        exact push_app (flt qs) c u hc
      · intro k hk
        rw [List.length_append] at hk
        simp at hk
        have h0 := hg k (by rw [List.length_append]; simp; omega)
        rw [getD_snoc, getD_snoc] at h0 ⊢
        by_cases h1 : k < qs.length
        · rw [if_pos h1, if_pos (by omega)] at h0 ⊢
          exact h0
        · have h2 : k = qs.length := by omega
          rw [if_neg h1, if_pos h2] at h0 ⊢
          refine ⟨⟨by have := hl.1.1; show 1 ≤ c + 1; omega, by show c + 1 ≤ 255; omega⟩, fun h3 => h0.2 ?_⟩
          rw [if_pos (by omega)] at h3 ⊢
          exact h3
      · rw [unpk_snoc] at hu ⊢
        rw [← hu]
        have hc1 := hl.1.1
        show unpk qs ++ List.replicate (c + 1).toNat u = _
        rw [show (c + 1).toNat = c.toNat + 1 by omega, List.replicate_succ', ← List.append_assoc]
    · refine add ?_ ?_
      · rw [flt_snoc]
        intro h
        rw [g1, g2] at h
        exact hm h.2
      · intro q _ hq
        rw [List.getLast?_append] at hq
        simp at hq
        subst hq
        exact fun h => hm ⟨h.2, h.1⟩
theorem rns_good : ∀ (ns : List Int) (ps : List (Int × Int)) (xs : List Int), gdP ps → unpk ps = xs → ∃ qs, ns.foldl push (flt ps) = flt qs ∧ gdP qs ∧ unpk qs = xs ++ ns
  | [], ps, xs, hg, hu => ⟨ps, rfl, hg, by rw [hu, List.append_nil]⟩
  | v :: ns, ps, xs, hg, hu => by
    obtain ⟨qs, h1, h2, h3⟩ := push_good v hg hu
    obtain ⟨rs, h4, h5, h6⟩ := rns_good ns qs (xs ++ [v]) h2 h3
    refine ⟨rs, by rw [List.foldl_cons, h1, h4], h5, ?_⟩
    rw [h6, List.append_assoc]
    rfl
theorem rns_flt (ns : List Int) : ∃ qs, rns ns = flt qs ∧ gdP qs ∧ unpk qs = ns := by
  obtain ⟨qs, h1, h2, h3⟩ := rns_good ns [] [] (fun k h => by simp at h) rfl
  exact ⟨qs, h1, h2, h3⟩
theorem unR_rns (ns : List Int) : unR (rns ns) = some ns := by
  obtain ⟨qs, h1, h2, h3⟩ := rns_flt ns
  unfold unR
  rw [h1, flt_len, if_neg (by omega), prs_flt, if_pos, h3]
  exact fun k hk => ⟨fun e => by have := (h2 k hk).1.1; omega, (h2 k hk).2⟩
theorem mem_unpk {ps : List (Int × Int)} (hg : gdP ps) {p : Int × Int} (hp : p ∈ ps) : p.2 ∈ unpk ps ∧ 1 ≤ p.1 ∧ p.1 ≤ 255 := by
  obtain ⟨k, hk⟩ := List.mem_iff_getElem?.mp hp
  have hlt := (List.getElem?_eq_some_iff.mp hk).1
  have h := (hg k hlt).1
  rw [List.getD_eq_getElem?_getD, hk] at h
  refine ⟨?_, h⟩
  unfold unpk
  rw [List.mem_flatMap]
  refine ⟨p, hp, ?_⟩
  rw [List.mem_replicate]
  have h1 : 1 ≤ p.1 := h.1
  exact ⟨by omega, rfl⟩
theorem rns_by {ns : List Int} (hb : By ns) : By (rns ns) := by
  obtain ⟨qs, h1, h2, h3⟩ := rns_flt ns
  rw [h1]
  intro x hx
  obtain ⟨p, hp, hx2⟩ := List.mem_flatMap.mp hx
  obtain ⟨m1, m2, m3⟩ := mem_unpk h2 hp
  rw [h3] at m1
  simp only [List.mem_cons, List.not_mem_nil, or_false] at hx2
  rcases hx2 with rfl | rfl
  · omega
  · exact hb _ m1
theorem kz_zero (ns : List Int) : ∀ k, (∀ j, k ≤ j → j < ns.length → gi ns (j : Int) = 0) → ∀ j, kz ns k ≤ j → j < ns.length → gi ns (j : Int) = 0
  | 0, h, j, h1, h2 => h j h1 h2
  | k + 1, h, j, h1, h2 => by
    unfold kz at h1
    split at h1
    · rename_i hc
      refine kz_zero ns k (fun i h3 h4 => ?_) j h1 h2
      by_cases e : i = k
      · rw [e]; exact hc.1
      · exact h i (by omega) h4
    · exact h j h1 h2
theorem kz_stop (ns : List Int) : ∀ k, 0 < kz ns k → ¬ (gi ns ((kz ns k : Int) - 1) = 0 ∧ ns.length - kz ns k < 65535)
  | 0, h => by unfold kz at h; omega
  | k + 1, h => by
    unfold kz at h ⊢
    by_cases hc : gi ns (k : Int) = 0 ∧ ns.length - (k + 1) < 65535
    · rw [if_pos hc] at h ⊢
      exact kz_stop ns k h
    · rw [if_neg hc] at h ⊢
      rw [show (((k + 1 : Nat) : Int) - 1) = (k : Int) by omega]
      exact hc
theorem zer_len (ns : List Int) : (zer ns).length = kz ns ns.length + 2 := by
  have hle := kz_le ns ns.length
  unfold zer
  rw [List.length_append, List.length_take]
  simp
  omega
theorem unZ_zer (ns : List Int) : unZ (zer ns) = some ns := by
  have hle := kz_le ns ns.length
  have hl := zer_len ns
  have hc : cntZ (zer ns) = ((ns.length - kz ns ns.length : Nat) : Int) := by
    unfold cntZ zer gi
    show ((ns.length - kz ns ns.length : Nat) : Int) / 256 * 256 + ((ns.length - kz ns ns.length : Nat) : Int) % 256 = _
    omega
  have hd : (zer ns).drop 2 = ns.take (kz ns ns.length) := by unfold zer; rfl
  unfold unZ
  rw [if_neg (by omega), hc, if_neg, hd]
  · congr 1
    have h2 := List.take_append_drop (kz ns ns.length) ns
    conv => rhs; rw [← h2]
    congr 1
    rw [Int.toNat_natCast]
    refine (List.eq_replicate_iff.mpr ⟨by rw [List.length_drop], fun x hx => ?_⟩).symm
    obtain ⟨j, hj⟩ := List.mem_iff_getElem?.mp hx
    rw [List.getElem?_drop] at hj
    have hlt := (List.getElem?_eq_some_iff.mp hj).1
    have h3 := kz_zero ns ns.length (fun j h1 h2 => by omega) (kz ns ns.length + j) (by omega) hlt
    rw [gi_of hj] at h3
    exact h3
  · intro h
    have hk : 0 < kz ns ns.length := by omega
    have h4 := kz_stop ns ns.length hk
    refine h4 ⟨?_, by omega⟩
    have h5 := h.2.1
    unfold gi at h5 ⊢
    rw [hl, show (((kz ns ns.length + 2 : Nat) : Int) - 1).toNat = kz ns ns.length - 1 + 2 by omega] at h5
    rw [show ((kz ns ns.length : Int) - 1).toNat = kz ns ns.length - 1 by omega]
    rw [List.getD_eq_getElem?_getD] at h5 ⊢
    have h6 : (zer ns)[kz ns ns.length - 1 + 2]? = (ns.take (kz ns ns.length))[kz ns ns.length - 1]? := by
      rw [← hd, List.getElem?_drop, Nat.add_comm]
    rw [h6, List.getElem?_take, if_pos (by omega)] at h5
    exact h5
theorem kz_ge (ns : List Int) : ∀ k, k ≤ ns.length → ns.length - k ≤ 65535 → ns.length - kz ns k ≤ 65535
  | 0, _, h => h
  | k + 1, hk, h => by
    unfold kz
    split
    · exact kz_ge ns k (by omega) (by omega)
    · exact h
theorem zer_by2 {ns : List Int} (hb : By ns) : By (zer ns) := by
  have h := kz_ge ns ns.length (Nat.le_refl _) (by omega)
  unfold zer
  refine By.app (fun x hx => ?_) (hb.take _)
  simp only [List.mem_cons, List.not_mem_nil, or_false] at hx
  rcases hx with rfl | rfl <;> omega
theorem und_app {nm : Str} {wd : Nat} {ns : List Int} (hw : Wd wd) (hb : By ns) : undF nm wd (appF nm wd ns) = some ns := by
  unfold undF appF
  by_cases h1 : nm = sD
  · rw [if_pos h1, if_pos h1, und_dlt hb]
  · rw [if_neg h1, if_neg h1]
    by_cases h2 : nm = sP
    · rw [if_pos h2, if_pos h2, unpl_pln hw]
    · rw [if_neg h2, if_neg h2]
      by_cases h3 : nm = sR
      · rw [if_pos h3, if_pos h3, unR_rns]
      · rw [if_neg h3, if_neg h3, unZ_zer]
theorem app_by {nm : Str} {wd : Nat} {ns : List Int} (hw : Wd wd) (hb : By ns) : By (appF nm wd ns) := by
  unfold appF
  split
  · exact dlt_by ns
  · split
    · exact pln_by hw hb
    · split
      · exact rns_by hb
      · exact zer_by2 hb
theorem app_len {nm : Str} {wd : Nat} {ns : List Int} (hw : Wd wd) : (appF nm wd ns).length ≤ 2 * ns.length + 2 := by
  unfold appF
  split
  · rw [dlt_law, mapR_len]; omega
  · split
    · rw [pln_len hw]; omega
    · split
      · have := rns_len ns []
        unfold rns
        simp at this
        omega
      · have := kz_le ns ns.length
        rw [zer_len]
        omega

section
variable {P : Program} {w : World} {K : PySem.W.Frag} {mg : Str → Option Value} {base : Heap}
theorem emod_le {x y : Int} (hx : 0 ≤ x) (hy : 0 < y) : x % y ≤ x := by
  have h1 := Int.emod_add_mul_ediv x y
  have h2 := Int.ediv_nonneg hx (Int.le_of_lt hy)
  have h3 := Int.mul_nonneg (Int.le_of_lt hy) h2
  omega
def sp_plain (K : PySem.W.Frag) : Sp := fun vs H Q _ => ∃ (a : Addr) (dr : List Int) (most : Nat), vs = [.ref a, .int most] ∧ SqL K H a (dr.map V.int) ∧ Dr dr ∧ 3 ≤ dr.length ∧ dr.length ≤ 1000 ∧ most ≤ 1000 ∧ ∀ ns : List Int, By ns → ns.length ≤ most + 549 → RetO H Q (.lst (ns.map V.int))
theorem d_plain (T : Top K mg) : Def P w K mg base CX0 1 "_law_plain_bytes" ["draws", "most"] (sp_plain K) := by
  refine T.f__law_plain_bytes.ok sc__law_plain_bytes (by rintro vs H Q E ⟨a, dr, most, rfl, _⟩; rfl) (fun f cdv A outer s H vs Q E hr h => ?_)
  obtain ⟨a, dr, most, rfl, hS, hd, hl, hl2, hm, q⟩ := h
  refine ⟨_, (pss_cons (ps_set (i := 2) sc__law_plain_bytes.nd rfl (Or.inl rfl) (pe_op op_mod (pe_ix (r := rIxL K) ix_list (pv 0) pe_int (fun _ _ => rfl)) (pe_op op_add (pv 1) pe_int)))
      (pss_cons (ps_set (i := 3) sc__law_plain_bytes.nd rfl (Or.inr rfl) (pe_lc (own := [("k", 4)]) (g := (gName 4)) (tt := tYes) rfl sc__law_plain_bytes.nd (pi_range1 (by rfl) T.b_range (pa_cons (pv 2) pa_nil)) (blkOk_by (N := N__law_plain_bytes) (sc := defScope s__law_plain_bytes) (by decide +kernel)) (fun _ _ _ _ _ => (pg_name (i := 4) sc__law_plain_bytes.nd rfl (Or.inl rfl))) (fun _ _ _ _ _ => pts_nil) (fun _ _ _ _ _ => (pe_op op_mod (pe_op op_fdiv (pe_ix (r := rIxL K) ix_list (pv 0) (pe_op op_mod (pe_op op_add (pv 4) pe_int) (pe_callB (r := Evl.rLenS K) call_len_seq (by rfl) T.b_len (by decide +kernel) (pa_cons (pv 0) pa_nil))) (fun _ _ => rfl)) (pe_op op_add pe_int (pe_op op_fdiv (pv 4) (pe_callB (r := Evl.rLenS K) call_len_seq (by rfl) T.b_len (by decide +kernel) (pa_cons (pv 0) pa_nil))))) pe_int))))
      (pss_cons (ps_set (i := 5) sc__law_plain_bytes.nd rfl (Or.inl rfl) (pe_op op_mod (pe_ix (r := rIxL K) ix_list (pv 0) pe_int (fun _ _ => rfl)) pe_int))
      (Evl.pss_cut (ps_if (pt_cmpR op_eq (pv 5) pe_int (nomark _)) (pss_one (ps_set (i := 3) sc__law_plain_bytes.nd rfl (Or.inr rfl) (pe_lc (own := [("value", 6)]) (g := (gName 6)) (tt := tYes) rfl sc__law_plain_bytes.nd (pi_list (pv 3)) (blkOk_by (N := N__law_plain_bytes) (sc := defScope s__law_plain_bytes) (by decide +kernel)) (fun _ _ _ _ _ => (pg_name (i := 6) sc__law_plain_bytes.nd rfl (Or.inl rfl))) (fun _ _ _ _ _ => pts_nil) (fun _ _ _ _ _ => (pe_op op_mod (pv 6) pe_int))))) pss_nil)
      (Evl.pss_cut (ps_if (pt_cmpR op_eq (pv 5) pe_int (nomark _)) (pss_one (ps_set (i := 3) sc__law_plain_bytes.nd rfl (Or.inr rfl) (pe_lc (own := [("k", 4)]) (g := (gName 4)) (tt := tYes) rfl sc__law_plain_bytes.nd (pi_range1 (by rfl) T.b_range (pa_cons (pv 2) pa_nil)) (blkOk_by (N := N__law_plain_bytes) (sc := defScope s__law_plain_bytes) (by decide +kernel)) (fun _ _ _ _ _ => (pg_name (i := 4) sc__law_plain_bytes.nd rfl (Or.inl rfl))) (fun _ _ _ _ _ => pts_nil) (fun _ _ _ _ _ => (pe_ix (r := rIxL K) ix_list (pv 3) (pe_op op_sub (pv 4) (pe_op op_mod (pv 4) (pe_op op_add pe_int (pe_op op_mod (pe_ix (r := rIxL K) ix_list (pv 0) pe_int (fun _ _ => rfl)) pe_int)))) (fun _ _ => rfl)))))) pss_nil)
      (Evl.pss_cut (ps_if (pt_cmpR op_eq (pv 5) pe_int (nomark _)) (pss_one (ps_set (i := 3) sc__law_plain_bytes.nd rfl (Or.inr rfl) (pe_op op_cat (pe_slice (r := rSlL K) sl_list (pv 3) po_none (po_some (pe_op op_fdiv (pv 2) pe_int))) (pe_op op_rep (pe_lst (pa_cons pe_int pa_nil)) (pe_op op_sub (pv 2) (pe_op op_fdiv (pv 2) pe_int)))))) pss_nil)
      (Evl.pss_cut (ps_if (pt_cutT (PW.pt (pw_and (pt_cmpR op_eq (pv 5) pe_int (nomark _)) (pw_and1 (pt_cmpR op_eq (pe_op op_mod (pe_ix (r := rIxL K) ix_list (pv 0) pe_int (fun _ _ => rfl)) pe_int) pe_int (nomark _)))))) (pss_one (ps_set (i := 3) sc__law_plain_bytes.nd rfl (Or.inr rfl) (pe_op op_cat (pe_op op_rep (pe_lst (pa_cons (pe_op op_mod (pe_op op_fdiv (pe_ix (r := rIxL K) ix_list (pv 0) pe_int (fun _ _ => rfl)) pe_int) pe_int) pa_nil)) (pe_op op_add pe_int (pe_op op_mod (pe_op op_fdiv (pe_ix (r := rIxL K) ix_list (pv 0) pe_int (fun _ _ => rfl)) pe_int) pe_int))) (pv 3)))) pss_nil)
      (pss_one (ps_ret (pv 3)))))))))), ?_⟩
  have g0 := hd.gi (i := 0) (by omega) (by omega)
  have g1 := hd.gi (i := 1) (by omega) (by omega)
  have g2 := hd.gi (i := 2) (by omega) (by omega)
  walk_at "rd"
  have m1 := Int.emod_nonneg (gi dr 0) (show (most : Int) + 1 ≠ 0 by omega)
  have m2 := Int.emod_lt_of_pos (gi dr 0) (show 0 < (most : Int) + 1 by omega)
  obtain ⟨n, hn⟩ : ∃ n : Nat, gi dr 0 % ((most : Int) + 1) = n := ⟨(gi dr 0 % ((most : Int) + 1)).toNat, by omega⟩
  rw [hn]
  refine lcR1I (fun k => gi dr (((k : Int) + 3) % (dr.length : Int)) / (1 + (k : Int) / (dr.length : Int)) % 256) (Own.nil H) rfl (by omega) (fun x => rfl) ?_ fun p1 H1 o1 => ?_
  · intro i p zs H' Q' hi o' q'
    have hS' := o'.old hS
    have h1 := Int.emod_nonneg ((i : Int) + 3) (show (dr.length : Int) ≠ 0 by omega)
    have h2 := Int.emod_lt_of_pos ((i : Int) + 3) (show 0 < (dr.length : Int) by omega)
    have h3 : 0 ≤ (i : Int) / (dr.length : Int) := Int.ediv_nonneg (by omega) (by omega)
    have h4 : (i : Int) / (dr.length : Int) ≤ i := Int.ediv_le_self _ (by omega)
    walk_at "rd"
    refine r_I (show 0 < ((dr.map V.int).length : Int) by rw [List.length_map]; omega) ?_
    rw [List.length_map]
    walk_at "rd"
    refine r_I (show 0 < ((dr.map V.int).length : Int) ∧ ((dr.map V.int).length : Int) < 1073741824 by rw [List.length_map]; omega) ?_
    rw [List.length_map]
    walk_at "rd"
    exact q'.here
  walk_at "rd"
  refine ⟨fun σ' H' => ∃ (p : Addr) (ns : List Int), σ' = [some (.ref a), some (.int most), some (.int (n : Int)), some (.ref p), none, some (.int (gi dr 1 % 5)), none] ∧ ns.length = n ∧ By ns ∧ Own H H' [(p, .lst (ns.map V.int))], ?_, ?_⟩
  · walk_at "rd"
    refine rif (fun _ => ?_) fun _ => ?_
    · walk_at "rd"
      refine lcLI (fun x => x % 2) o1 (fun H' p zs o' => o'.sqL 1 rfl) (o1.sqL 0 rfl) (by rw [mapR_len]; omega) (fun x => rfl) ?_ fun p5 H5 o5 => ?_
      · intro i x p zs H' Q' hx o' q'
        walk_at "rd"
        exact q'.here
      · walk_at "rd"
        refine ⟨p5, _, rfl, by rw [List.length_map, mapR_len], fun x hx => ?_, o5.pick1 0 rfl⟩
        obtain ⟨y, _, rfl⟩ := List.mem_map.mp hx
        omega
    · walk_at "rd"
      refine ⟨p1, _, rfl, mapR_len _ _, fun x hx => ?_, o1⟩
      obtain ⟨k, _, rfl⟩ := mapR_mem hx
      omega
  rintro σ' H2 ⟨p, ns, rfl, hnl, hb, o⟩
  refine ⟨fun σ' H' => ∃ (p : Addr) (ns : List Int), σ' = [some (.ref a), some (.int most), some (.int (n : Int)), some (.ref p), none, some (.int (gi dr 1 % 5)), none] ∧ ns.length = n ∧ By ns ∧ Own H H' [(p, .lst (ns.map V.int))], ?_, ?_⟩
  · walk_at "rd"
    refine rif (fun _ => ?_) fun _ => ?_
    · walk_at "rd"
      refine lcR1I (fun k => gi ns ((k : Int) - (k : Int) % (1 + gi dr 2 % 9))) o rfl (by omega) (fun x => rfl) ?_ fun p5 H5 o5 => ?_
      · intro i q2 zs H' Q' hi o' q'
        have hS' := o'.old hS
        have h1 := Int.emod_nonneg (i : Int) (show 1 + gi dr 2 % 9 ≠ 0 by omega)
        have h2 : (i : Int) % (1 + gi dr 2 % 9) ≤ i := emod_le (by omega) (by omega)
        walk_at "rd"
        exact q'.here
      · walk_at "rd"
        refine ⟨p5, _, rfl, mapR_len _ _, fun x hx => ?_, o5.pick1 0 rfl⟩
        obtain ⟨k, hk, rfl⟩ := mapR_mem hx
        have h1 := Int.emod_nonneg (k : Int) (show 1 + gi dr 2 % 9 ≠ 0 by omega)
        have h2 : (k : Int) % (1 + gi dr 2 % 9) ≤ k := emod_le (by omega) (by omega)
        exact hb.gi (by omega) (by omega)
    · walk_at "rd"
      exact ⟨p, ns, rfl, hnl, hb, o⟩
  clear o hb
  rintro σ' H2 ⟨p, ns, rfl, hnl, hb, o⟩
  refine ⟨fun σ' H' => ∃ (p : Addr) (ns : List Int), σ' = [some (.ref a), some (.int most), some (.int (n : Int)), some (.ref p), none, some (.int (gi dr 1 % 5)), none] ∧ ns.length = n ∧ By ns ∧ Own H H' [(p, .lst (ns.map V.int))], ?_, ?_⟩
  · walk_at "rd"
    refine rif (fun _ => ?_) fun _ => ?_
    · walk_at "rd"
      refine r_slL o (o.sqL 0 rfl) fun p3 H3 o3 => ?_
      rw [show ((n : Int) / 2) = ((n / 2 : Nat) : Int) from rfl, cut_hi] at o3
      walk_at "rd"
      refine r_newL o3 (Nat.le_of_ble_eq_true rfl) fun p4 H4 o4 => ?_
      walk_at "rd"
      refine r_rep (n := n - n / 2) o4 (o4.at 0 rfl) (by omega) (by omega) (by omega) fun p5 H5 s5 o5 => ?_
      refine r_cat o5 (o5.at 2 rfl) (o5.at 0 rfl) (by rw [List.length_take, List.length_map, List.length_replicate]; omega) fun p6 H6 o6 => ?_
      walk_at "rd"
      refine ⟨p6, ns.take (n / 2) ++ List.replicate (n - n / 2) 0, rfl, by rw [List.length_append, List.length_take, List.length_replicate]; omega, (hb.take _).app (By.rep _ ⟨by decide, by decide⟩), ?_⟩
      rw [List.map_append, List.map_take, List.map_replicate]
      exact o6.pick1 0 rfl
    · walk_at "rd"
      exact ⟨p, ns, rfl, hnl, hb, o⟩
  clear o hb
  rintro σ' H2 ⟨p, ns, rfl, hnl, hb, o⟩
  refine ⟨fun σ' H' => ∃ (p : Addr) (ns : List Int), σ' = [some (.ref a), some (.int most), some (.int (n : Int)), some (.ref p), none, some (.int (gi dr 1 % 5)), none] ∧ ns.length ≤ n + 549 ∧ By ns ∧ Own H H' [(p, .lst (ns.map V.int))], ?_, ?_⟩
  · have hS' := o.old hS
    walk_at "rd"
    refine r_cutT (fun _ H' => H' = H2) ?_ ?_
    · walk_at "rd"
      refine rif (fun _ => ?_) fun _ => ?_ <;> walk_at "rd" <;> rfl
    rintro b _ rfl
    refine rif_b (fun _ => ?_) fun _ => ?_
    · walk_at "rd"
      refine r_newL o (Nat.le_of_ble_eq_true rfl) fun p4 H4 o4 => ?_
      have hS4 := o4.old hS
      walk_at "rd"
      refine r_rep (n := (250 + gi dr 2 / 8 % 300).toNat) o4 (o4.at 0 rfl) rfl (by omega) (by omega) fun p5 H5 s5 o5 => ?_
      walk_at "rd"
      refine r_cat o5 (o5.at 0 rfl) (o5.at 2 rfl) (by rw [List.length_map, List.length_replicate]; omega) fun p6 H6 o6 => ?_
      walk_at "rd"
      refine ⟨p6, List.replicate (250 + gi dr 2 / 8 % 300).toNat (gi dr 2 / 4 % 256) ++ ns, rfl, by rw [List.length_append, List.length_replicate]; omega, (By.rep _ ⟨by omega, by omega⟩).app hb, ?_⟩
      rw [List.map_append, List.map_replicate]
      exact o6.pick1 0 rfl
    · walk_at "rd"
      exact ⟨p, ns, rfl, by omega, hb, o⟩
  clear o hb hnl
  rintro σ' H2 ⟨p, ns, rfl, hnl, hb, o⟩
  walk_at "rd"
  exact (q ns hb (by omega)).mk o 0 rfl
end

section
variable {P : Program} {w : World} {K : PySem.W.Frag} {mg : Str → Option Value} {base : Heap}
def lawK : Nat := 5
theorem ok_law {f : Addr} {fd : FuncData} (F : Fun K "law" "law" s_law f fd) (T : Top K mg) : FnOk P w K mg base CX0 lawK f fd ["script"] (spLaw K) := by
  have G__law_stream : Def P w K mg base CX0 2 "_law_stream" ["script", "count"] (sp_stream K) := d_stream T
  have G__law_plain_bytes : Def P w K mg base CX0 1 "_law_plain_bytes" ["draws", "most"] (sp_plain K) := d_plain T
  have G__law_filter : Def P w K mg base CX0 1 "_law_filter" ["name", "values", "size"] (sp_app K) := d_law_filter T
  have G_apply_filter : Def P w K mg base CX0 3 "apply_filter" ["name", "values", "size"] (sp_app K) := d_apply_filter T
  have G_undo_filter : Def P w K mg base CX0 3 "undo_filter" ["name", "values", "size"] (sp_und K) := d_undo_filter T
  have G__law_same_ints : Def P w K mg base CX0 3 "_law_same_ints" ["x", "due"] (sp_same_ints K) := d_same_ints T
  refine F.ok sc_law (by rintro vs H Q E ⟨a, ss, rfl, _⟩; rfl) (fun cdv A outer s H vs Q E hr h => ?_)
  obtain ⟨a, ss, rfl, hS, hl, hb, q⟩ := h
  refine ⟨_, (pss_cons (ps_set (i := 1) sc_law.nd rfl (Or.inl rfl) (pe_callD G__law_stream (hr.mono (by decide)) (pa_cons (pv 0) (pa_cons pe_int pa_nil))))
      (pss_cons (ps_set (i := 2) sc_law.nd rfl (Or.inl rfl) (pe_callD G__law_plain_bytes (hr.mono (by decide)) (pa_cons (pv 1) (pa_cons pe_int pa_nil))))
      (pss_cons (ps_set (i := 3) sc_law.nd rfl (Or.inl rfl) (pe_ix (r := rIxL K) ix_list (pe_lst (pa_cons pe_int (pa_cons pe_int (pa_cons pe_int pa_nil)))) (pe_op op_mod (pe_ix (r := rIxL K) ix_list (pv 1) pe_int (fun _ _ => rfl)) pe_int) (fun _ _ => rfl)))
      (pss_cons (ps_for PassesOwn.never rfl (pi_tup (pe_tup (pa_cons pe_str (pa_cons pe_str pa_nil)))) (pg_name (i := 4) sc_law.nd rfl (Or.inl rfl)) (pss_cons (ps_set (i := 5) sc_law.nd rfl (Or.inl rfl) (pe_callTy (r := Evl.rListS K) call_list_of (by rfl) T.b_list (by decide +kernel) (pa_cons (pv 2) pa_nil)))
      (pss_cons (ps_set (i := 6) sc_law.nd rfl (Or.inl rfl) (pe_callD G__law_filter (hr.mono (by decide)) (pa_cons (pv 4) (pa_cons (pv 2) (pa_cons (pv 3) pa_nil)))))
      (pss_cons (ps_set (i := 7) sc_law.nd rfl (Or.inl rfl) (pe_callD G_apply_filter (hr.mono (by decide)) (pa_cons (pv 4) (pa_cons (pv 5) (pa_cons (pv 3) pa_nil)))))
      (pss_cons (ps_if (PW.pt (pw_or (pt_not (pt_val (pe_callD G__law_same_ints (hr.mono (by decide)) (pa_cons (pv 7) (pa_cons (pv 6) pa_nil))))) (pw_or1 (pt_cmpR (r := rNeD K) (op_neD hr.units) (pv 5) (pv 2) (nomark _))))) (pss_one (ps_ret pe_bl)) pss_nil)
      (pss_one (ps_if (PW.pt (pw_or (pt_not (pt_val (pe_callD G__law_same_ints (hr.mono (by decide)) (pa_cons (pe_callD G_undo_filter (hr.mono (by decide)) (pa_cons (pv 4) (pa_cons (pv 7) (pa_cons (pv 3) pa_nil)))) (pa_cons (pv 2) pa_nil))))) (pw_or1 (pt_cmpR (r := rNeD K) (op_neD hr.units) (pv 7) (pv 6) (nomark _))))) (pss_one (ps_ret pe_bl)) pss_nil)))))))
      (pss_one (ps_ret pe_bl)))))), ?_⟩
  walk_at "rd"
  refine ⟨_, _, 48, rfl, hS, by omega, fun dr hdl hd => r_ret1 (Own.nil H) fun p1 H1 o1 => ?_⟩
  walk_at "rd"
  refine ⟨_, _, 80, rfl, o1.sqL 0 rfl, hd, by omega, by omega, by omega, fun ns hby hln => r_ret1 o1 fun p2 H2 o2 => ?_⟩
  walk_at "rd"
  refine r_newL o2 (Nat.le_of_ble_eq_true rfl) fun p3 H3 o3 => ?_
  walk_at "rd"
  refine r_ixM (o3.sqL 0 rfl) (by omega) (show _ < (3 : Int) by omega) fun v hv _ => ?_
  obtain ⟨wd, rfl, hwd⟩ : ∃ wd : Nat, v = .int wd ∧ Wd wd := by
    simp only [List.mem_cons, List.not_mem_nil, or_false] at hv
    rcases hv with rfl | rfl | rfl
    · exact ⟨1, rfl, .inl rfl⟩
    · exact ⟨2, rfl, .inr (.inl rfl)⟩
    · exact ⟨4, rfl, .inr (.inr rfl)⟩
  walk_at "rd"
  refine r_newT (o3.pick1 1 rfl) (Nat.le_of_ble_eq_true rfl) fun t5 H5 o5 => ?_
  walk_at "rd"
  refine forT (o5.sqT 0 rfl) (fun i σ' H' => ∃ (v4 v5 v6 v7 : Option V), σ' = [some (.ref a), some (.ref p1), some (.ref p2), some (.int wd), v4, v5, v6, v7] ∧ Own H H' [(t5, .tup [.str sD, .str sP]), (p2, .lst (ns.map V.int))]) ⟨_, _, _, _, rfl, o5⟩ (fun i σ' H' _ ⟨_, _, _, _, _, o⟩ => o.sqT 0 rfl) ?_ ?_
  · rintro i x σ' H' hx ⟨v4, v5, v6, v7, rfl, o⟩
    obtain ⟨nm, rfl⟩ : ∃ nm : Str, x = .str nm := by
      have hm := List.mem_of_getElem? hx
      simp only [List.mem_cons, List.not_mem_nil, or_false] at hm
      rcases hm with rfl | rfl <;> exact ⟨_, rfl⟩
    have hal := app_len (nm := nm) (ns := ns) hwd
    have hab := app_by (nm := nm) hwd hby
    walk_at "rd"
    refine r_list o (o.sqL 1 rfl) fun p6 H6 o6 => ?_
    walk_at "rd"
    refine ⟨_, _, _, _, rfl, o6.sqL 2 rfl, hby, hwd, by omega, r_ret1 o6 fun p7 H7 o7 => ?_⟩
    walk_at "rd"
    refine ⟨_, _, _, _, rfl, o7.sqL 1 rfl, hby, hwd, by omega, r_ret1 o7 fun p8 H8 o8 => ?_⟩
    walk_at "rd"
    refine ⟨_, _, _, rfl, o8.at 0 rfl, o8.sqL 1 rfl, by omega, ?_⟩
    walk_at "rd"
    refine ⟨_, _, _, _, _, rfl, o8.sqL 0 rfl, hab, hwd, by omega, und_app hwd hby, by omega, r_ret1 o8 fun p9 H9 o9 => ?_⟩
    walk_at "rd"
    refine ⟨_, _, _, rfl, o9.at 0 rfl, o9.sqL 5 rfl, by omega, ?_⟩
    walk_at "rd"
    exact ⟨_, _, _, _, rfl, o9.pick2 4 5 (by decide) rfl rfl⟩
  · rintro σ' H' ⟨v4, v5, v6, v7, rfl, o⟩
    walk_at "rd"
    exact q _
end
theorem top_mk {K : PySem.W.Frag} {h : Heap} {mg : Str → Option Value} (X : K.In h) (G : h.Ns mainGlobals mg)
    {f_apply_filter : Addr} {od_apply_filter an_apply_filter : Option Addr} {sl_apply_filter : Array (Option Value)} {oc_apply_filter kV_apply_filter dc_apply_filter pm_apply_filter cd_apply_filter ct_apply_filter : Value}
    {f_undo_filter : Addr} {od_undo_filter an_undo_filter : Option Addr} {sl_undo_filter : Array (Option Value)} {oc_undo_filter kV_undo_filter dc_undo_filter pm_undo_filter cd_undo_filter ct_undo_filter : Value}
    {f_apply_delta : Addr} {od_apply_delta an_apply_delta : Option Addr} {sl_apply_delta : Array (Option Value)} {oc_apply_delta kV_apply_delta dc_apply_delta pm_apply_delta cd_apply_delta ct_apply_delta : Value}
    {f_undo_delta : Addr} {od_undo_delta an_undo_delta : Option Addr} {sl_undo_delta : Array (Option Value)} {oc_undo_delta kV_undo_delta dc_undo_delta pm_undo_delta cd_undo_delta ct_undo_delta : Value}
    {f_plane_order : Addr} {od_plane_order an_plane_order : Option Addr} {sl_plane_order : Array (Option Value)} {oc_plane_order kV_plane_order dc_plane_order pm_plane_order cd_plane_order ct_plane_order : Value}
    {f_apply_planes : Addr} {od_apply_planes an_apply_planes : Option Addr} {sl_apply_planes : Array (Option Value)} {oc_apply_planes kV_apply_planes dc_apply_planes pm_apply_planes cd_apply_planes ct_apply_planes : Value}
    {f_undo_planes : Addr} {od_undo_planes an_undo_planes : Option Addr} {sl_undo_planes : Array (Option Value)} {oc_undo_planes kV_undo_planes dc_undo_planes pm_undo_planes cd_undo_planes ct_undo_planes : Value}
    {f_apply_runs : Addr} {od_apply_runs an_apply_runs : Option Addr} {sl_apply_runs : Array (Option Value)} {oc_apply_runs kV_apply_runs dc_apply_runs pm_apply_runs cd_apply_runs ct_apply_runs : Value}
    {f_undo_runs : Addr} {od_undo_runs an_undo_runs : Option Addr} {sl_undo_runs : Array (Option Value)} {oc_undo_runs kV_undo_runs dc_undo_runs pm_undo_runs cd_undo_runs ct_undo_runs : Value}
    {f_apply_zeros : Addr} {od_apply_zeros an_apply_zeros : Option Addr} {sl_apply_zeros : Array (Option Value)} {oc_apply_zeros kV_apply_zeros dc_apply_zeros pm_apply_zeros cd_apply_zeros ct_apply_zeros : Value}
    {f_undo_zeros : Addr} {od_undo_zeros an_undo_zeros : Option Addr} {sl_undo_zeros : Array (Option Value)} {oc_undo_zeros kV_undo_zeros dc_undo_zeros pm_undo_zeros cd_undo_zeros ct_undo_zeros : Value}
    {f__law_cell : Addr} {od__law_cell an__law_cell : Option Addr} {sl__law_cell : Array (Option Value)} {oc__law_cell kV__law_cell dc__law_cell pm__law_cell cd__law_cell ct__law_cell : Value}
    {f__law_draws : Addr} {od__law_draws an__law_draws : Option Addr} {sl__law_draws : Array (Option Value)} {oc__law_draws kV__law_draws dc__law_draws pm__law_draws cd__law_draws ct__law_draws : Value}
    {f__law_is_int : Addr} {od__law_is_int an__law_is_int : Option Addr} {sl__law_is_int : Array (Option Value)} {oc__law_is_int kV__law_is_int dc__law_is_int pm__law_is_int cd__law_is_int ct__law_is_int : Value}
    {f__law_is_number : Addr} {od__law_is_number an__law_is_number : Option Addr} {sl__law_is_number : Array (Option Value)} {oc__law_is_number kV__law_is_number dc__law_is_number pm__law_is_number cd__law_is_number ct__law_is_number : Value}
    {f__law_same_ints : Addr} {od__law_same_ints an__law_same_ints : Option Addr} {sl__law_same_ints : Array (Option Value)} {oc__law_same_ints kV__law_same_ints dc__law_same_ints pm__law_same_ints cd__law_same_ints ct__law_same_ints : Value}
    {f__law_stream : Addr} {od__law_stream an__law_stream : Option Addr} {sl__law_stream : Array (Option Value)} {oc__law_stream kV__law_stream dc__law_stream pm__law_stream cd__law_stream ct__law_stream : Value}
    {f__law_filter : Addr} {od__law_filter an__law_filter : Option Addr} {sl__law_filter : Array (Option Value)} {oc__law_filter kV__law_filter dc__law_filter pm__law_filter cd__law_filter ct__law_filter : Value}
    {f__law_plain_bytes : Addr} {od__law_plain_bytes an__law_plain_bytes : Option Addr} {sl__law_plain_bytes : Array (Option Value)} {oc__law_plain_bytes kV__law_plain_bytes dc__law_plain_bytes pm__law_plain_bytes cd__law_plain_bytes ct__law_plain_bytes : Value}
    {f_law : Addr} {od_law an_law : Option Addr} {sl_law : Array (Option Value)} {oc_law kV_law dc_law pm_law cd_law ct_law : Value}
    {t_LONGEST_RUN : Tok}
    {t_MOST_ZEROS : Tok}
    (a_apply_filter : PySem.W.nsIn K mainGlobals "apply_filter" = some (some (.ref f_apply_filter))) (l_apply_filter : K.lookup f_apply_filter = some ⟨oc_apply_filter, od_apply_filter, .func (PySem.W.fnOf "apply_filter" "apply_filter" (defArgs s_apply_filter) (defBody s_apply_filter) (defScope s_apply_filter) .none kV_apply_filter dc_apply_filter pm_apply_filter an_apply_filter cd_apply_filter ct_apply_filter), sl_apply_filter⟩) (c_apply_filter : PySem.W.codeIn K cd_apply_filter "apply_filter" = true) (k_apply_filter : PySem.W.keepIn K (.ref f_apply_filter) = true)
    (a_undo_filter : PySem.W.nsIn K mainGlobals "undo_filter" = some (some (.ref f_undo_filter))) (l_undo_filter : K.lookup f_undo_filter = some ⟨oc_undo_filter, od_undo_filter, .func (PySem.W.fnOf "undo_filter" "undo_filter" (defArgs s_undo_filter) (defBody s_undo_filter) (defScope s_undo_filter) .none kV_undo_filter dc_undo_filter pm_undo_filter an_undo_filter cd_undo_filter ct_undo_filter), sl_undo_filter⟩) (c_undo_filter : PySem.W.codeIn K cd_undo_filter "undo_filter" = true) (k_undo_filter : PySem.W.keepIn K (.ref f_undo_filter) = true)
    (a_apply_delta : PySem.W.nsIn K mainGlobals "apply_delta" = some (some (.ref f_apply_delta))) (l_apply_delta : K.lookup f_apply_delta = some ⟨oc_apply_delta, od_apply_delta, .func (PySem.W.fnOf "apply_delta" "apply_delta" (defArgs s_apply_delta) (defBody s_apply_delta) (defScope s_apply_delta) .none kV_apply_delta dc_apply_delta pm_apply_delta an_apply_delta cd_apply_delta ct_apply_delta), sl_apply_delta⟩) (c_apply_delta : PySem.W.codeIn K cd_apply_delta "apply_delta" = true) (k_apply_delta : PySem.W.keepIn K (.ref f_apply_delta) = true)
    (a_undo_delta : PySem.W.nsIn K mainGlobals "undo_delta" = some (some (.ref f_undo_delta))) (l_undo_delta : K.lookup f_undo_delta = some ⟨oc_undo_delta, od_undo_delta, .func (PySem.W.fnOf "undo_delta" "undo_delta" (defArgs s_undo_delta) (defBody s_undo_delta) (defScope s_undo_delta) .none kV_undo_delta dc_undo_delta pm_undo_delta an_undo_delta cd_undo_delta ct_undo_delta), sl_undo_delta⟩) (c_undo_delta : PySem.W.codeIn K cd_undo_delta "undo_delta" = true) (k_undo_delta : PySem.W.keepIn K (.ref f_undo_delta) = true)
    (a_plane_order : PySem.W.nsIn K mainGlobals "plane_order" = some (some (.ref f_plane_order))) (l_plane_order : K.lookup f_plane_order = some ⟨oc_plane_order, od_plane_order, .func (PySem.W.fnOf "plane_order" "plane_order" (defArgs s_plane_order) (defBody s_plane_order) (defScope s_plane_order) .none kV_plane_order dc_plane_order pm_plane_order an_plane_order cd_plane_order ct_plane_order), sl_plane_order⟩) (c_plane_order : PySem.W.codeIn K cd_plane_order "plane_order" = true) (k_plane_order : PySem.W.keepIn K (.ref f_plane_order) = true)
    (a_apply_planes : PySem.W.nsIn K mainGlobals "apply_planes" = some (some (.ref f_apply_planes))) (l_apply_planes : K.lookup f_apply_planes = some ⟨oc_apply_planes, od_apply_planes, .func (PySem.W.fnOf "apply_planes" "apply_planes" (defArgs s_apply_planes) (defBody s_apply_planes) (defScope s_apply_planes) .none kV_apply_planes dc_apply_planes pm_apply_planes an_apply_planes cd_apply_planes ct_apply_planes), sl_apply_planes⟩) (c_apply_planes : PySem.W.codeIn K cd_apply_planes "apply_planes" = true) (k_apply_planes : PySem.W.keepIn K (.ref f_apply_planes) = true)
    (a_undo_planes : PySem.W.nsIn K mainGlobals "undo_planes" = some (some (.ref f_undo_planes))) (l_undo_planes : K.lookup f_undo_planes = some ⟨oc_undo_planes, od_undo_planes, .func (PySem.W.fnOf "undo_planes" "undo_planes" (defArgs s_undo_planes) (defBody s_undo_planes) (defScope s_undo_planes) .none kV_undo_planes dc_undo_planes pm_undo_planes an_undo_planes cd_undo_planes ct_undo_planes), sl_undo_planes⟩) (c_undo_planes : PySem.W.codeIn K cd_undo_planes "undo_planes" = true) (k_undo_planes : PySem.W.keepIn K (.ref f_undo_planes) = true)
    (a_apply_runs : PySem.W.nsIn K mainGlobals "apply_runs" = some (some (.ref f_apply_runs))) (l_apply_runs : K.lookup f_apply_runs = some ⟨oc_apply_runs, od_apply_runs, .func (PySem.W.fnOf "apply_runs" "apply_runs" (defArgs s_apply_runs) (defBody s_apply_runs) (defScope s_apply_runs) .none kV_apply_runs dc_apply_runs pm_apply_runs an_apply_runs cd_apply_runs ct_apply_runs), sl_apply_runs⟩) (c_apply_runs : PySem.W.codeIn K cd_apply_runs "apply_runs" = true) (k_apply_runs : PySem.W.keepIn K (.ref f_apply_runs) = true)
    (a_undo_runs : PySem.W.nsIn K mainGlobals "undo_runs" = some (some (.ref f_undo_runs))) (l_undo_runs : K.lookup f_undo_runs = some ⟨oc_undo_runs, od_undo_runs, .func (PySem.W.fnOf "undo_runs" "undo_runs" (defArgs s_undo_runs) (defBody s_undo_runs) (defScope s_undo_runs) .none kV_undo_runs dc_undo_runs pm_undo_runs an_undo_runs cd_undo_runs ct_undo_runs), sl_undo_runs⟩) (c_undo_runs : PySem.W.codeIn K cd_undo_runs "undo_runs" = true) (k_undo_runs : PySem.W.keepIn K (.ref f_undo_runs) = true)
    (a_apply_zeros : PySem.W.nsIn K mainGlobals "apply_zeros" = some (some (.ref f_apply_zeros))) (l_apply_zeros : K.lookup f_apply_zeros = some ⟨oc_apply_zeros, od_apply_zeros, .func (PySem.W.fnOf "apply_zeros" "apply_zeros" (defArgs s_apply_zeros) (defBody s_apply_zeros) (defScope s_apply_zeros) .none kV_apply_zeros dc_apply_zeros pm_apply_zeros an_apply_zeros cd_apply_zeros ct_apply_zeros), sl_apply_zeros⟩) (c_apply_zeros : PySem.W.codeIn K cd_apply_zeros "apply_zeros" = true) (k_apply_zeros : PySem.W.keepIn K (.ref f_apply_zeros) = true)
    (a_undo_zeros : PySem.W.nsIn K mainGlobals "undo_zeros" = some (some (.ref f_undo_zeros))) (l_undo_zeros : K.lookup f_undo_zeros = some ⟨oc_undo_zeros, od_undo_zeros, .func (PySem.W.fnOf "undo_zeros" "undo_zeros" (defArgs s_undo_zeros) (defBody s_undo_zeros) (defScope s_undo_zeros) .none kV_undo_zeros dc_undo_zeros pm_undo_zeros an_undo_zeros cd_undo_zeros ct_undo_zeros), sl_undo_zeros⟩) (c_undo_zeros : PySem.W.codeIn K cd_undo_zeros "undo_zeros" = true) (k_undo_zeros : PySem.W.keepIn K (.ref f_undo_zeros) = true)
    (a__law_cell : PySem.W.nsIn K mainGlobals "_law_cell" = some (some (.ref f__law_cell))) (l__law_cell : K.lookup f__law_cell = some ⟨oc__law_cell, od__law_cell, .func (PySem.W.fnOf "_law_cell" "_law_cell" (defArgs s__law_cell) (defBody s__law_cell) (defScope s__law_cell) .none kV__law_cell dc__law_cell pm__law_cell an__law_cell cd__law_cell ct__law_cell), sl__law_cell⟩) (c__law_cell : PySem.W.codeIn K cd__law_cell "_law_cell" = true) (k__law_cell : PySem.W.keepIn K (.ref f__law_cell) = true)
    (a__law_draws : PySem.W.nsIn K mainGlobals "_law_draws" = some (some (.ref f__law_draws))) (l__law_draws : K.lookup f__law_draws = some ⟨oc__law_draws, od__law_draws, .func (PySem.W.fnOf "_law_draws" "_law_draws" (defArgs s__law_draws) (defBody s__law_draws) (defScope s__law_draws) .none kV__law_draws dc__law_draws pm__law_draws an__law_draws cd__law_draws ct__law_draws), sl__law_draws⟩) (c__law_draws : PySem.W.codeIn K cd__law_draws "_law_draws" = true) (k__law_draws : PySem.W.keepIn K (.ref f__law_draws) = true)
    (a__law_is_int : PySem.W.nsIn K mainGlobals "_law_is_int" = some (some (.ref f__law_is_int))) (l__law_is_int : K.lookup f__law_is_int = some ⟨oc__law_is_int, od__law_is_int, .func (PySem.W.fnOf "_law_is_int" "_law_is_int" (defArgs s__law_is_int) (defBody s__law_is_int) (defScope s__law_is_int) .none kV__law_is_int dc__law_is_int pm__law_is_int an__law_is_int cd__law_is_int ct__law_is_int), sl__law_is_int⟩) (c__law_is_int : PySem.W.codeIn K cd__law_is_int "_law_is_int" = true) (k__law_is_int : PySem.W.keepIn K (.ref f__law_is_int) = true)
    (a__law_is_number : PySem.W.nsIn K mainGlobals "_law_is_number" = some (some (.ref f__law_is_number))) (l__law_is_number : K.lookup f__law_is_number = some ⟨oc__law_is_number, od__law_is_number, .func (PySem.W.fnOf "_law_is_number" "_law_is_number" (defArgs s__law_is_number) (defBody s__law_is_number) (defScope s__law_is_number) .none kV__law_is_number dc__law_is_number pm__law_is_number an__law_is_number cd__law_is_number ct__law_is_number), sl__law_is_number⟩) (c__law_is_number : PySem.W.codeIn K cd__law_is_number "_law_is_number" = true) (k__law_is_number : PySem.W.keepIn K (.ref f__law_is_number) = true)
    (a__law_same_ints : PySem.W.nsIn K mainGlobals "_law_same_ints" = some (some (.ref f__law_same_ints))) (l__law_same_ints : K.lookup f__law_same_ints = some ⟨oc__law_same_ints, od__law_same_ints, .func (PySem.W.fnOf "_law_same_ints" "_law_same_ints" (defArgs s__law_same_ints) (defBody s__law_same_ints) (defScope s__law_same_ints) .none kV__law_same_ints dc__law_same_ints pm__law_same_ints an__law_same_ints cd__law_same_ints ct__law_same_ints), sl__law_same_ints⟩) (c__law_same_ints : PySem.W.codeIn K cd__law_same_ints "_law_same_ints" = true) (k__law_same_ints : PySem.W.keepIn K (.ref f__law_same_ints) = true)
    (a__law_stream : PySem.W.nsIn K mainGlobals "_law_stream" = some (some (.ref f__law_stream))) (l__law_stream : K.lookup f__law_stream = some ⟨oc__law_stream, od__law_stream, .func (PySem.W.fnOf "_law_stream" "_law_stream" (defArgs s__law_stream) (defBody s__law_stream) (defScope s__law_stream) .none kV__law_stream dc__law_stream pm__law_stream an__law_stream cd__law_stream ct__law_stream), sl__law_stream⟩) (c__law_stream : PySem.W.codeIn K cd__law_stream "_law_stream" = true) (k__law_stream : PySem.W.keepIn K (.ref f__law_stream) = true)
    (a__law_filter : PySem.W.nsIn K mainGlobals "_law_filter" = some (some (.ref f__law_filter))) (l__law_filter : K.lookup f__law_filter = some ⟨oc__law_filter, od__law_filter, .func (PySem.W.fnOf "_law_filter" "_law_filter" (defArgs s__law_filter) (defBody s__law_filter) (defScope s__law_filter) .none kV__law_filter dc__law_filter pm__law_filter an__law_filter cd__law_filter ct__law_filter), sl__law_filter⟩) (c__law_filter : PySem.W.codeIn K cd__law_filter "_law_filter" = true) (k__law_filter : PySem.W.keepIn K (.ref f__law_filter) = true)
    (a__law_plain_bytes : PySem.W.nsIn K mainGlobals "_law_plain_bytes" = some (some (.ref f__law_plain_bytes))) (l__law_plain_bytes : K.lookup f__law_plain_bytes = some ⟨oc__law_plain_bytes, od__law_plain_bytes, .func (PySem.W.fnOf "_law_plain_bytes" "_law_plain_bytes" (defArgs s__law_plain_bytes) (defBody s__law_plain_bytes) (defScope s__law_plain_bytes) .none kV__law_plain_bytes dc__law_plain_bytes pm__law_plain_bytes an__law_plain_bytes cd__law_plain_bytes ct__law_plain_bytes), sl__law_plain_bytes⟩) (c__law_plain_bytes : PySem.W.codeIn K cd__law_plain_bytes "_law_plain_bytes" = true) (k__law_plain_bytes : PySem.W.keepIn K (.ref f__law_plain_bytes) = true)
    (a_law : PySem.W.nsIn K mainGlobals "law" = some (some (.ref f_law))) (l_law : K.lookup f_law = some ⟨oc_law, od_law, .func (PySem.W.fnOf "law" "law" (defArgs s_law) (defBody s_law) (defScope s_law) .none kV_law dc_law pm_law an_law cd_law ct_law), sl_law⟩) (c_law : PySem.W.codeIn K cd_law "law" = true) (k_law : PySem.W.keepIn K (.ref f_law) = true)
    (z_LONGEST_RUN : PySem.W.nsIn K mainGlobals "LONGEST_RUN" = some (some (.int 255 t_LONGEST_RUN)))
    (z_MOST_ZEROS : PySem.W.nsIn K mainGlobals "MOST_ZEROS" = some (some (.int 65535 t_MOST_ZEROS)))
    (z_bool : PySem.W.nsIn K mainGlobals "bool" = some none)
    (z_int : PySem.W.nsIn K mainGlobals "int" = some none)
    (z_isinstance : PySem.W.nsIn K mainGlobals "isinstance" = some none)
    (z_len : PySem.W.nsIn K mainGlobals "len" = some none)
    (z_list : PySem.W.nsIn K mainGlobals "list" = some none)
    (z_min : PySem.W.nsIn K mainGlobals "min" = some none)
    (z_range : PySem.W.nsIn K mainGlobals "range" = some none)
    (z_zip : PySem.W.nsIn K mainGlobals "zip" = some none) : Top K mg :=
  { f_apply_filter := ⟨_, _, fun_mk (st := s_apply_filter) l_apply_filter c_apply_filter k_apply_filter, PySem.W.mg_of X G a_apply_filter, (fun_mk (st := s_apply_filter) l_apply_filter c_apply_filter k_apply_filter).binds (ps := ["name", "values", "size"]) fun _ _ _ _ _ _ us hl => match us, hl with | [_, _, _], _ => rfl⟩,
    f_undo_filter := ⟨_, _, fun_mk (st := s_undo_filter) l_undo_filter c_undo_filter k_undo_filter, PySem.W.mg_of X G a_undo_filter, (fun_mk (st := s_undo_filter) l_undo_filter c_undo_filter k_undo_filter).binds (ps := ["name", "values", "size"]) fun _ _ _ _ _ _ us hl => match us, hl with | [_, _, _], _ => rfl⟩,
    f_apply_delta := ⟨_, _, fun_mk (st := s_apply_delta) l_apply_delta c_apply_delta k_apply_delta, PySem.W.mg_of X G a_apply_delta, (fun_mk (st := s_apply_delta) l_apply_delta c_apply_delta k_apply_delta).binds (ps := ["values"]) fun _ _ _ _ _ _ us hl => match us, hl with | [_], _ => rfl⟩,
    f_undo_delta := ⟨_, _, fun_mk (st := s_undo_delta) l_undo_delta c_undo_delta k_undo_delta, PySem.W.mg_of X G a_undo_delta, (fun_mk (st := s_undo_delta) l_undo_delta c_undo_delta k_undo_delta).binds (ps := ["values"]) fun _ _ _ _ _ _ us hl => match us, hl with | [_], _ => rfl⟩,
    f_plane_order := ⟨_, _, fun_mk (st := s_plane_order) l_plane_order c_plane_order k_plane_order, PySem.W.mg_of X G a_plane_order, (fun_mk (st := s_plane_order) l_plane_order c_plane_order k_plane_order).binds (ps := ["count", "size"]) fun _ _ _ _ _ _ us hl => match us, hl with | [_, _], _ => rfl⟩,
    f_apply_planes := ⟨_, _, fun_mk (st := s_apply_planes) l_apply_planes c_apply_planes k_apply_planes, PySem.W.mg_of X G a_apply_planes, (fun_mk (st := s_apply_planes) l_apply_planes c_apply_planes k_apply_planes).binds (ps := ["values", "size"]) fun _ _ _ _ _ _ us hl => match us, hl with | [_, _], _ => rfl⟩,
    f_undo_planes := ⟨_, _, fun_mk (st := s_undo_planes) l_undo_planes c_undo_planes k_undo_planes, PySem.W.mg_of X G a_undo_planes, (fun_mk (st := s_undo_planes) l_undo_planes c_undo_planes k_undo_planes).binds (ps := ["values", "size"]) fun _ _ _ _ _ _ us hl => match us, hl with | [_, _], _ => rfl⟩,
    f_apply_runs := ⟨_, _, fun_mk (st := s_apply_runs) l_apply_runs c_apply_runs k_apply_runs, PySem.W.mg_of X G a_apply_runs, (fun_mk (st := s_apply_runs) l_apply_runs c_apply_runs k_apply_runs).binds (ps := ["values"]) fun _ _ _ _ _ _ us hl => match us, hl with | [_], _ => rfl⟩,
    f_undo_runs := ⟨_, _, fun_mk (st := s_undo_runs) l_undo_runs c_undo_runs k_undo_runs, PySem.W.mg_of X G a_undo_runs, (fun_mk (st := s_undo_runs) l_undo_runs c_undo_runs k_undo_runs).binds (ps := ["values"]) fun _ _ _ _ _ _ us hl => match us, hl with | [_], _ => rfl⟩,
    f_apply_zeros := ⟨_, _, fun_mk (st := s_apply_zeros) l_apply_zeros c_apply_zeros k_apply_zeros, PySem.W.mg_of X G a_apply_zeros, (fun_mk (st := s_apply_zeros) l_apply_zeros c_apply_zeros k_apply_zeros).binds (ps := ["values"]) fun _ _ _ _ _ _ us hl => match us, hl with | [_], _ => rfl⟩,
    f_undo_zeros := ⟨_, _, fun_mk (st := s_undo_zeros) l_undo_zeros c_undo_zeros k_undo_zeros, PySem.W.mg_of X G a_undo_zeros, (fun_mk (st := s_undo_zeros) l_undo_zeros c_undo_zeros k_undo_zeros).binds (ps := ["values"]) fun _ _ _ _ _ _ us hl => match us, hl with | [_], _ => rfl⟩,
    f__law_cell := ⟨_, _, fun_mk (st := s__law_cell) l__law_cell c__law_cell k__law_cell, PySem.W.mg_of X G a__law_cell, (fun_mk (st := s__law_cell) l__law_cell c__law_cell k__law_cell).binds (ps := ["script", "k"]) fun _ _ _ _ _ _ us hl => match us, hl with | [_, _], _ => rfl⟩,
    f__law_draws := ⟨_, _, fun_mk (st := s__law_draws) l__law_draws c__law_draws k__law_draws, PySem.W.mg_of X G a__law_draws, (fun_mk (st := s__law_draws) l__law_draws c__law_draws k__law_draws).binds (ps := ["cell", "count"]) fun _ _ _ _ _ _ us hl => match us, hl with | [_, _], _ => rfl⟩,
    f__law_is_int := ⟨_, _, fun_mk (st := s__law_is_int) l__law_is_int c__law_is_int k__law_is_int, PySem.W.mg_of X G a__law_is_int, (fun_mk (st := s__law_is_int) l__law_is_int c__law_is_int k__law_is_int).binds (ps := ["x"]) fun _ _ _ _ _ _ us hl => match us, hl with | [_], _ => rfl⟩,
    f__law_is_number := ⟨_, _, fun_mk (st := s__law_is_number) l__law_is_number c__law_is_number k__law_is_number, PySem.W.mg_of X G a__law_is_number, (fun_mk (st := s__law_is_number) l__law_is_number c__law_is_number k__law_is_number).binds (ps := ["x", "due"]) fun _ _ _ _ _ _ us hl => match us, hl with | [_, _], _ => rfl⟩,
    f__law_same_ints := ⟨_, _, fun_mk (st := s__law_same_ints) l__law_same_ints c__law_same_ints k__law_same_ints, PySem.W.mg_of X G a__law_same_ints, (fun_mk (st := s__law_same_ints) l__law_same_ints c__law_same_ints k__law_same_ints).binds (ps := ["x", "due"]) fun _ _ _ _ _ _ us hl => match us, hl with | [_, _], _ => rfl⟩,
    f__law_stream := ⟨_, _, fun_mk (st := s__law_stream) l__law_stream c__law_stream k__law_stream, PySem.W.mg_of X G a__law_stream, (fun_mk (st := s__law_stream) l__law_stream c__law_stream k__law_stream).binds (ps := ["script", "count"]) fun _ _ _ _ _ _ us hl => match us, hl with | [_, _], _ => rfl⟩,
    f__law_filter := ⟨_, _, fun_mk (st := s__law_filter) l__law_filter c__law_filter k__law_filter, PySem.W.mg_of X G a__law_filter, (fun_mk (st := s__law_filter) l__law_filter c__law_filter k__law_filter).binds (ps := ["name", "values", "size"]) fun _ _ _ _ _ _ us hl => match us, hl with | [_, _, _], _ => rfl⟩,
    f__law_plain_bytes := ⟨_, _, fun_mk (st := s__law_plain_bytes) l__law_plain_bytes c__law_plain_bytes k__law_plain_bytes, PySem.W.mg_of X G a__law_plain_bytes, (fun_mk (st := s__law_plain_bytes) l__law_plain_bytes c__law_plain_bytes k__law_plain_bytes).binds (ps := ["draws", "most"]) fun _ _ _ _ _ _ us hl => match us, hl with | [_, _], _ => rfl⟩,
    f_law := ⟨_, _, fun_mk (st := s_law) l_law c_law k_law, PySem.W.mg_of X G a_law, (fun_mk (st := s_law) l_law c_law k_law).binds (ps := ["script"]) fun _ _ _ _ _ _ us hl => match us, hl with | [_], _ => rfl⟩,
    g_LONGEST_RUN := ⟨_, PySem.W.mg_of X G z_LONGEST_RUN⟩,
    g_MOST_ZEROS := ⟨_, PySem.W.mg_of X G z_MOST_ZEROS⟩,
    b_bool := PySem.W.mg_none_of X G z_bool,
    b_int := PySem.W.mg_none_of X G z_int,
    b_isinstance := PySem.W.mg_none_of X G z_isinstance,
    b_len := PySem.W.mg_none_of X G z_len,
    b_list := PySem.W.mg_none_of X G z_list,
    b_min := PySem.W.mg_none_of X G z_min,
    b_range := PySem.W.mg_none_of X G z_range,
    b_zip := PySem.W.mg_none_of X G z_zip }
theorem law_mk {l : PySem.W.OpenLaw} {w : World} {K : PySem.W.Frag} {mg : Str → Option Value} {fa : Addr} {k : Nat} {sp : Sp} (hfa : mg "law" = some (.ref fa)) (T : Top K mg)
    (F : ∀ (base : Heap) (f : Addr) (fd : FuncData), Fun K "law" "law" s_law f fd → FnOk l.prog w K mg base CX0 k f fd ["script"] sp) :
    ∃ fd : FuncData, (∀ (s : Shared) (v : Value), BindsTo s fd ⟨[v], []⟩ [("script", v)]) ∧ ∀ base : Heap, K.In base → base.Ns mainGlobals mg → FnOk l.prog w K mg base CX0 k fa fd ["script"] sp := by
  obtain ⟨f, fd, FF, hm, hb⟩ := T.f_law.ex
  have e : f = fa := by rw [hm] at hfa; exact Value.ref.inj (Option.some.inj hfa)
  subst e
  have FF2 := FF
  obtain ⟨oc, od, kV, doc, pm, an, cdv, ct, osl, rfl, lk, hcd⟩ := FF2.ex
  exact ⟨_, fun s v => .of_eq rfl, fun base _ _ => F base f _ FF⟩
end My
open PySem PySem.W PyProof.Rows
set_option maxHeartbeats 0 in
theorem PySem.Challenge.cw_tessera_k17_differences_and_planes_holds : PySem.Challenge.rw_tessera_k17_differences_and_planes.Holds := by
  w_on; o_law; k_head; (case hw => w_witness2)
  k_fill
  refine L2.walk_ofB (l := PySem.Challenge.rw_tessera_k17_differences_and_planes) (n := 63) (k := My.lawK) (x := "script") (CX := fun _ => L2.CX0) (sp := fun w => My.spLaw _) rfl (by decide) rfl ⟨rfl, by decide, by decide⟩ (fun w h Y => PySem.W.kIn_of Y) ?F (fun w H a ns hl hb _ hS => My.law_in hl hb hS) (fun _ _ _ _ _ h => h)
  case F =>
    intro w mg fa h KX G hmg
    refine' (fun T => My.law_mk hmg T (fun base f fd F => My.ok_law F T)) ?T
    refine' My.top_mk KX G ?a_apply_filter ?l_apply_filter ?c_apply_filter ?k_apply_filter ?a_undo_filter ?l_undo_filter ?c_undo_filter ?k_undo_filter ?a_apply_delta ?l_apply_delta ?c_apply_delta ?k_apply_delta ?a_undo_delta ?l_undo_delta ?c_undo_delta ?k_undo_delta ?a_plane_order ?l_plane_order ?c_plane_order ?k_plane_order ?a_apply_planes ?l_apply_planes ?c_apply_planes ?k_apply_planes ?a_undo_planes ?l_undo_planes ?c_undo_planes ?k_undo_planes ?a_apply_runs ?l_apply_runs ?c_apply_runs ?k_apply_runs ?a_undo_runs ?l_undo_runs ?c_undo_runs ?k_undo_runs ?a_apply_zeros ?l_apply_zeros ?c_apply_zeros ?k_apply_zeros ?a_undo_zeros ?l_undo_zeros ?c_undo_zeros ?k_undo_zeros ?a__law_cell ?l__law_cell ?c__law_cell ?k__law_cell ?a__law_draws ?l__law_draws ?c__law_draws ?k__law_draws ?a__law_is_int ?l__law_is_int ?c__law_is_int ?k__law_is_int ?a__law_is_number ?l__law_is_number ?c__law_is_number ?k__law_is_number ?a__law_same_ints ?l__law_same_ints ?c__law_same_ints ?k__law_same_ints ?a__law_stream ?l__law_stream ?c__law_stream ?k__law_stream ?a__law_filter ?l__law_filter ?c__law_filter ?k__law_filter ?a__law_plain_bytes ?l__law_plain_bytes ?c__law_plain_bytes ?k__law_plain_bytes ?a_law ?l_law ?c_law ?k_law ?z_LONGEST_RUN ?z_MOST_ZEROS ?z_bool ?z_int ?z_isinstance ?z_len ?z_list ?z_min ?z_range ?z_zip
    (case a_apply_filter => k_is); (case l_apply_filter => k_is); (case c_apply_filter => k_is); (case k_apply_filter => k_is); (case a_undo_filter => k_is); (case l_undo_filter => k_is); (case c_undo_filter => k_is); (case k_undo_filter => k_is); (case a_apply_delta => k_is); (case l_apply_delta => k_is); (case c_apply_delta => k_is); (case k_apply_delta => k_is); (case a_undo_delta => k_is); (case l_undo_delta => k_is); (case c_undo_delta => k_is); (case k_undo_delta => k_is); (case a_plane_order => k_is); (case l_plane_order => k_is); (case c_plane_order => k_is); (case k_plane_order => k_is); (case a_apply_planes => k_is); (case l_apply_planes => k_is); (case c_apply_planes => k_is); (case k_apply_planes => k_is); (case a_undo_planes => k_is); (case l_undo_planes => k_is); (case c_undo_planes => k_is); (case k_undo_planes => k_is); (case a_apply_runs => k_is); (case l_apply_runs => k_is); (case c_apply_runs => k_is); (case k_apply_runs => k_is); (case a_undo_runs => k_is); (case l_undo_runs => k_is); (case c_undo_runs => k_is); (case k_undo_runs => k_is); (case a_apply_zeros => k_is); (case l_apply_zeros => k_is); (case c_apply_zeros => k_is); (case k_apply_zeros => k_is); (case a_undo_zeros => k_is); (case l_undo_zeros => k_is); (case c_undo_zeros => k_is); (case k_undo_zeros => k_is); (case a__law_cell => k_is); (case l__law_cell => k_is); (case c__law_cell => k_is); (case k__law_cell => k_is); (case a__law_draws => k_is); (case l__law_draws => k_is); (case c__law_draws => k_is); (case k__law_draws => k_is); (case a__law_is_int => k_is); (case l__law_is_int => k_is); (case c__law_is_int => k_is); (case k__law_is_int => k_is); (case a__law_is_number => k_is); (case l__law_is_number => k_is); (case c__law_is_number => k_is); (case k__law_is_number => k_is); (case a__law_same_ints => k_is); (case l__law_same_ints => k_is); (case c__law_same_ints => k_is); (case k__law_same_ints => k_is); (case a__law_stream => k_is); (case l__law_stream => k_is); (case c__law_stream => k_is); (case k__law_stream => k_is); (case a__law_filter => k_is); (case l__law_filter => k_is); (case c__law_filter => k_is); (case k__law_filter => k_is); (case a__law_plain_bytes => k_is); (case l__law_plain_bytes => k_is); (case c__law_plain_bytes => k_is); (case k__law_plain_bytes => k_is); (case a_law => k_is); (case l_law => k_is); (case c_law => k_is); (case k_law => k_is); (case z_LONGEST_RUN => k_is); (case z_MOST_ZEROS => k_is); (case z_bool => k_is); (case z_int => k_is); (case z_isinstance => k_is); (case z_len => k_is); (case z_list => k_is); (case z_min => k_is); (case z_range => k_is); (case z_zip => k_is)


