import PyProof.Rows.All
import Wide.All
import OpenK.AllK
import Wide.FinOn
import HandS.ForMost
import HandS.IsInst
import HandS.Evl
import HandS.Style
import HandS.Zip
import KE.GoesZip
import HandS.TupMul
import HandS.TupAny
import HandS.EndBits
import HandS.Rev
import HandS.Dict
import HandS.ForExc
import HandS.ExcInit
import HandS.NestedK
import HandS.FStr
import KE.KExcSuper
import KE.RegKSuper
import HandS.ExcInitHot
import HandS.RaiseFrom
import HandS.TryMany
import HandS.SuiteRaise
import HandS.ExcIs
import HandS.ExcField
import KE.KExcIs
import HandS.NestedHot
import HandS.CallLocal
import HandS.ExcCtx
import HandS.TryOnly
import HandS.ExcOwn
import KE.KTryMore
import HandS.Text
import HandS.StrMore
import PySem.Challenge.RW_tessera_k48_chunks_read_or_damaged
set_option Elab.async false
set_option linter.all false
set_option maxRecDepth 100000
set_option maxHeartbeats 4000000
/-! Readings stepped forward over an abstract heap that a list of owned objects describes. -/
namespace RD
open PySem PySem.Spec PyProof.Rows L2

/-! ### the heap: H extends H0; the objects of L are new since H0 and stand apart -/
structure Own (H0 H : Hp) (L : List (Addr × HO)) : Prop where
  ex : Same H0 H
  fr : ∀ x ∈ L, H0 x.1 = none ∧ H x.1 = some x.2
  nd : (L.map (·.1)).Nodup
theorem Own.nil (H : Hp) : Own H H [] := ⟨Same.refl H, fun _ h => absurd h (by simp), List.nodup_nil⟩
theorem same_new {H : Hp} {p : Addr} {u : HO} (h : H p = none) : Same H (upd H p u) := fun b x e => by
  rw [upd_ne (ne_of_none e h)]
  exact e
section
variable {H0 H H' : Hp} {L : List (Addr × HO)} {p l : Addr} {u v : HO} {K : PySem.W.Frag}
theorem Own.mono (o : Own H0 H L) (e : Same H H') : Own H0 H' L := ⟨o.ex.trans e, fun x hx => ⟨(o.fr x hx).1, e _ _ (o.fr x hx).2⟩, o.nd⟩
theorem Own.add (o : Own H0 H L) (e : Same H H') (hp : H p = none) (hv : H' p = some u) : Own H0 H' ((p, u) :: L) := by
  refine ⟨o.ex.trans e, fun x hx => ?_, ?_⟩
  · rcases List.mem_cons.mp hx with rfl | hx
    · exact ⟨o.ex.free hp, hv⟩
    · exact ⟨(o.fr x hx).1, e _ _ (o.fr x hx).2⟩
  · rw [List.map_cons, List.nodup_cons]
    refine ⟨fun hm => ?_, o.nd⟩
    obtain ⟨x, hx, e1⟩ := List.mem_map.mp hm
    have := (o.fr x hx).2
    rw [e1] at this
    show False
    rw [hp] at this
    cases this
theorem Own.new (o : Own H0 H L) (hp : H p = none) : Own H0 (upd H p u) ((p, u) :: L) := o.add (same_new hp) hp upd_same
theorem Own.at (o : Own H0 H L) (i : Nat) (h : L[i]? = some (l, u)) : H l = some u := (o.fr _ (List.mem_of_getElem? h)).2
theorem Own.fresh (o : Own H0 H L) (i : Nat) (h : L[i]? = some (l, u)) : H0 l = none := (o.fr _ (List.mem_of_getElem? h)).1
theorem map_set_fst {α β : Type} : ∀ {L : List (α × β)} {i : Nat} {l : α} {u v : β}, L[i]? = some (l, u) → (L.set i (l, v)).map (·.1) = L.map (·.1)
  | [], _, _, _, _, h => by simp at h
  | x :: L, 0, l, u, v, h => by
    have e : x = (l, u) := Option.some.inj h
    subst e
    rfl
  | x :: L, i + 1, l, u, v, h => by
    show x.1 :: (L.set i (l, v)).map (·.1) = x.1 :: L.map (·.1)
    rw [map_set_fst (L := L) (i := i) (l := l) (u := u) (v := v) h]
theorem nodup_fst {α β : Type} : ∀ {L : List (α × β)} {i j : Nat} {l : α} {u v : β}, (L.map (·.1)).Nodup → L[i]? = some (l, u) → L[j]? = some (l, v) → i = j
  | L, i, j, l, u, v, hN, hi, hj => by
    refine nd_ix (l := L.map (·.1)) hN (x := l) ?_ ?_
    · rw [List.getElem?_map, hi]; rfl
    · rw [List.getElem?_map, hj]; rfl
/-- the object at l is changed; nothing else -/
theorem Own.chg (o : Own H0 H L) (i : Nat) (h : L[i]? = some (l, u)) (e : ∀ b x, b ≠ l → H b = some x → H' b = some x) (hv : H' l = some v) : Own H0 H' (L.set i (l, v)) := by
  refine ⟨fun b x hb => ?_, fun x hx => ?_, ?_⟩
  · exact e b x (ne_of_none hb (o.fresh i h)) (o.ex b x hb)
  · obtain ⟨j, hj⟩ := List.mem_iff_getElem?.mp hx
    by_cases hij : i = j
    · subst hij
      have hlt : i < L.length := (List.getElem?_eq_some_iff.mp h).1
      rw [List.getElem?_set_self hlt] at hj
      cases hj
      exact ⟨o.fresh i h, hv⟩
    · rw [List.getElem?_set_ne hij] at hj
      have hm := List.mem_of_getElem? hj
      have hne : x.1 ≠ l := fun z => hij (by
        have : L[j]? = some (l, x.2) := by rw [hj, ← z]
        exact nodup_fst o.nd h this)
      exact ⟨(o.fr x hm).1, e _ _ hne (o.fr x hm).2⟩
  · rw [map_set_fst h]
    exact o.nd
theorem Own.set (o : Own H0 H L) (i : Nat) (h : L[i]? = some (l, u)) : Own H0 (upd H l v) (L.set i (l, v)) :=
  o.chg i h (fun b x hb e => by rw [upd_ne hb]; exact e) upd_same
theorem Own.sub {L' : List (Addr × HO)} (o : Own H0 H L) (h : L'.Sublist L) : Own H0 H L' :=
  ⟨o.ex, fun x hx => o.fr x (h.subset hx), List.Sublist.nodup (h.map _) o.nd⟩
theorem Own.tl {x : Addr × HO} (o : Own H0 H (x :: L)) : Own H0 H L := o.sub (List.sublist_cons_self x L)
theorem Own.ne (o : Own H0 H L) {q : Addr} {i j : Nat} (hi : L[i]? = some (l, u)) (hj : L[j]? = some (q, v)) (h : i ≠ j) : l ≠ q := fun e => by
  subst e
  exact h (nodup_fst o.nd hi hj)
theorem Own.sqL (o : Own H0 H L) {xs : List V} (i : Nat) (h : L[i]? = some (l, .lst xs)) : SqL K H l xs := .inl (.inl (o.at i h))
theorem Own.sqT (o : Own H0 H L) {xs : List V} (i : Nat) (h : L[i]? = some (l, .tup xs)) : SqT K H l xs := .inl (.inl (o.at i h))
theorem Own.old (o : Own H0 H L) {xs : List V} (h : SqL K H0 l xs) : SqL K H l xs := o.ex.seq h
theorem same_seqT {xs : List V} (e : Same H H') (h : SqT K H l xs) : SqT K H' l xs := by
  rcases h with (h | ⟨o, h⟩) | h
  · exact .inl (.inl (e _ _ h))
  · exact .inl (.inr ⟨o, e _ _ h⟩)
  · exact .inr h
theorem Own.oldT (o : Own H0 H L) {xs : List V} (h : SqT K H0 l xs) : SqT K H l xs := same_seqT o.ex h
/-- start a new frame of ownership at H, giving up L -/
theorem Own.trans {H1 : Hp} {L1 : List (Addr × HO)} (o : Own H0 H L) (o1 : Own H H1 L1) : Own H0 H1 (L1 ++ L) := by
  refine ⟨o.ex.trans o1.ex, fun x hx => ?_, ?_⟩
  · rcases List.mem_append.mp hx with h | h
    · exact ⟨o.ex.free (o1.fr x h).1, (o1.fr x h).2⟩
    · exact ⟨(o.fr x h).1, o1.ex _ _ (o.fr x h).2⟩
  · rw [List.map_append, List.nodup_append]
    refine ⟨o1.nd, o.nd, fun a ha b hb e => ?_⟩
    subst e
    obtain ⟨x, hx, rfl⟩ := List.mem_map.mp ha
    obtain ⟨y, hy, e⟩ := List.mem_map.mp hb
    have h1 := (o1.fr x hx).1
    have h2 := (o.fr y hy).2
    rw [e, h1] at h2
    cases h2
end

/-! ### what an answer is -/
/-- a value that is no new object -/
def RetV (H : Hp) (Q : VK) (v : V) : Prop := ∀ H', Same H H' → Q v H'
/-- a new object -/
def RetO (H : Hp) (Q : VK) (u : HO) : Prop := ∀ H' p, Same H H' → H p = none → H' p = some u → Q (.ref p) H'
theorem RetO.mk {H0 H : Hp} {Q : VK} {u : HO} {L : List (Addr × HO)} {p : Addr} (q : RetO H0 Q u) (o : Own H0 H L) (i : Nat) (h : L[i]? = some (p, u)) : Q (.ref p) H := q H p o.ex (o.fresh i h) (o.at i h)
theorem RetV.mk {H0 H : Hp} {Q : VK} {v : V} {L : List (Addr × HO)} (q : RetV H0 Q v) (o : Own H0 H L) : Q v H := q H o.ex

/-! ### readings -/
def RBl (x : V) (H : Hp) (Q : Bool → Hp → Prop) : Prop := ∃ k, x = .bl k ∧ Q k H
def RPt (x : V) (H : Hp) (R : Option Int → Hp → Prop) : Prop := ∃ i, x = .int i ∧ R (some i) H
def RIf (c : Bool) (A B : Prop) : Prop := if c = true then A else B
def RNewL (xs : List V) (H : Hp) (Q : VK) : Prop := xs.length ≤ sizeLine ∧ ∀ p, H p = none → Q (.ref p) (upd H p (.lst xs))
def RNewT (xs : List V) (H : Hp) (Q : VK) : Prop := xs.length ≤ sizeLine ∧ ∀ p, H p = none → Q (.ref p) (upd H p (.tup xs))
section
variable {σ : L2.St} {H H0 : Hp} {Q : VK} {v x y : V} {ta tb te : TE} {t u : TT} {r : R2} {i j : Int} {D : Ends} {ts tz : TS} {g : TG} {K : PySem.W.Frag} {L : List (Addr × HO)}
theorem r_var {n : Nat} (h : σ[n]? = some (some v)) (q : Q v H) : tVar n σ H Q := ⟨v, h, q⟩
theorem r_c (q : Q v H) : tC v σ H Q := q
theorem r_op (q : ta σ H fun x H1 => tb σ H1 fun y H2 => r x y H2 Q) : tOp r ta tb σ H Q := q
theorem r_I0 {f : Int → Int → V} (q : Q (f i j) H) : rI0 f (.int i) (.int j) H Q := ⟨i, j, rfl, rfl, q⟩
theorem r_I {C : Int → Int → Prop} {f : Int → Int → V} (c : C i j) (q : Q (f i j) H) : rI C f (.int i) (.int j) H Q := ⟨i, j, rfl, rfl, c, q⟩
theorem r_un {f : V → Hp → VK → Prop} (q : ta σ H fun x H1 => f x H1 Q) : tUn f ta σ H Q := q
theorem r_U {f : Int → V} (q : Q (f i) H) : rU f (.int i) H Q := ⟨i, rfl, q⟩
theorem r_eqI (q : Q (.bl (decide (i = j))) H) : rEq (.int i) (.int j) H Q := ⟨rfl, by
  have e : decide ((V.int i) = .int j) = decide (i = j) := by simp
  rw [e]; exact q⟩
theorem r_neI (q : Q (.bl (!decide (i = j))) H) : rNe (.int i) (.int j) H Q := ⟨rfl, by
  have e : decide ((V.int i) = .int j) = decide (i = j) := by simp
  rw [e]; exact q⟩
theorem r_eqS {a b : Str} (q : Q (.bl (decide (a = b))) H) : rEq (.str a) (.str b) H Q := ⟨rfl, by
  have e : decide ((V.str a) = .str b) = decide (a = b) := by simp
  rw [e]; exact q⟩
theorem r_neS {a b : Str} (q : Q (.bl (!decide (a = b))) H) : rNe (.str a) (.str b) H Q := ⟨rfl, by
  have e : decide ((V.str a) = .str b) = decide (a = b) := by simp
  rw [e]; exact q⟩
theorem r_test {Q : Bool → Hp → Prop} (q : ta σ H fun x H' => RBl x H' Q) : tTest ta σ H Q := q
theorem r_tB {Q : Bool → Hp → Prop} (q : ta σ H fun x H' => RBl x H' Q) : tB ta σ H Q := q
theorem r_bl {Q : Bool → Hp → Prop} {b : Bool} (q : Q b H) : RBl (.bl b) H Q := ⟨b, rfl, q⟩
theorem r_and {Q : Bool → Hp → Prop} (q : t σ H fun c H1 => RIf c (u σ H1 Q) (Q false H1)) : tAnd t u σ H Q := q
theorem r_or {Q : Bool → Hp → Prop} (q : t σ H fun c H1 => RIf c (Q true H1) (u σ H1 Q)) : tOr t u σ H Q := q
theorem r_not {Q : Bool → Hp → Prop} (q : t σ H fun c H1 => Q (!c) H1) : tNot t σ H Q := q
theorem r_andV (q : ta σ H fun x H1 => RBl x H1 fun c H1 => RIf c (tb σ H1 Q) (Q (.bl false) H1)) : tAndV ta tb σ H Q := q
theorem r_orV (q : ta σ H fun x H1 => RBl x H1 fun c H1 => RIf c (Q (.bl true) H1) (tb σ H1 Q)) : tOrV ta tb σ H Q := q
theorem r_notV (q : ta σ H fun x H1 => RBl x H1 fun c H1 => Q (.bl (!c)) H1) : tNotV ta σ H Q := q
theorem r_ifE (q : t σ H fun c H1 => RIf c (ta σ H1 Q) (tb σ H1 Q)) : tIf t ta tb σ H Q := q
theorem r_seq (q : ts { D with nx := tz D } σ H) : tSeq ts tz D σ H := q
theorem r_asg (q : te σ H fun x H1 => g x σ H1 D.nx) : tAsg te g D σ H := q
theorem r_name {n : Nat} {R : L2.St → Hp → Prop} (q : R (σ.set n (some v)) H) : gName n v σ H R := q
theorem r_ifS (q : t σ H fun b H1 => RIf b (ts D σ H1) (tz D σ H1)) : tIfS t ts tz D σ H := q
theorem r_ret (q : te σ H D.rt) : tRet te D σ H := q
theorem r_retN (q : D.rt .non H) : tRetN D σ H := q
theorem r_drop (q : te σ H fun _ H1 => D.nx σ H1) : tDrop te D σ H := q
theorem r_next (q : D.nx σ H) : tNext D σ H := q
theorem r_break (q : D.bk σ H) : tBreak D σ H := q
theorem r_cont (q : D.ct σ H) : tCont D σ H := q
theorem r_nil {R : List V → Hp → Prop} (q : R [] H) : tNil σ H R := q
theorem r_cons {tr : TA} {R : List V → Hp → Prop} (q : te σ H fun x H1 => tr σ H1 fun xs H2 => R (x :: xs) H2) : tCons te tr σ H R := q
theorem r_tup {tr : TA} (q : tr σ H fun xs H1 => RNewT xs H1 Q) : tTup tr σ H Q := q
theorem r_lst {tr : TA} (q : tr σ H fun xs H1 => RNewL xs H1 Q) : tLst tr σ H Q := q
theorem r_CB {f : List V → Hp → VK → Prop} {tr : TA} (q : tr σ H fun vs H1 => f vs H1 Q) : tCB f tr σ H Q := q
theorem r_call {sp : Sp} {E : XK} {tr : TA} (q : tr σ H fun vs H1 => sp (vs ++ []) H1 Q E) : tCall sp [] E tr σ H Q := q
theorem r_sl {f : V → Option Int → Option Int → Hp → VK → Prop} {tl th : TO} (q : te σ H fun x H1 => tl σ H1 fun l H2 => th σ H2 fun u H3 => f x l u H3 Q) : tSl f te tl th σ H Q := q
theorem r_par {i j : Nat} {ta : TA} {D : Ends} (q : ta σ H fun vs H1 => ∃ v w, vs = [v, w] ∧ D.nx ((σ.set i (some v)).set j (some w)) H1) : tPar i j ta D σ H := q
theorem r_nopart {R : Option Int → Hp → Prop} (q : R none H) : tNoPart σ H R := q
theorem r_part {R : Option Int → Hp → Prop} (q : te σ H fun x H1 => RPt x H1 R) : tPart te σ H R := q
theorem r_pt {R : Option Int → Hp → Prop} (q : R (some i) H) : RPt (.int i) H R := ⟨i, rfl, q⟩
theorem r_aug {n : Nat} {ti : TIp} (h : σ[n]? = some (some x)) (q : te σ H fun y H1 => ti x y H1 fun z H2 => D.nx (σ.set n (some z)) H2) : tAug n te ti D σ H := ⟨x, h, q⟩
theorem r_ipI {f : Int → Int → Int} (q : Q (.int (f i j)) H) : ipI f (.int i) (.int j) H Q := ⟨i, j, rfl, rfl, q⟩
theorem r_set {to ti : TE} {s : TSet} {R : L2.St → Hp → Prop} (q : to σ H fun o H1 => ti σ H1 fun i H2 => s o i v H2 fun H3 => R σ H3) : gSub to ti s v σ H R := q

/-! ### branches -/
theorem rif {p : Prop} [Decidable p] {A B : Prop} (h1 : p → A) (h2 : ¬ p → B) : RIf (decide p) A B := by
  unfold RIf
  by_cases h : p
  · rw [if_pos (decide_eq_true h)]; exact h1 h
  · rw [if_neg (by simpa using h)]; exact h2 h
theorem rif_n {p : Prop} [Decidable p] {A B : Prop} (h1 : ¬ p → A) (h2 : p → B) : RIf (!decide p) A B := by
  unfold RIf
  by_cases h : p
  · rw [if_neg (by simpa using h)]; exact h2 h
  · rw [if_pos (by simpa using h)]; exact h1 h
theorem rif_t {A B : Prop} (h : A) : RIf true A B := by unfold RIf; rw [if_pos rfl]; exact h
theorem rif_f {A B : Prop} (h : B) : RIf false A B := by unfold RIf; rw [if_neg Bool.false_ne_true]; exact h
theorem rif_nt {A B : Prop} (h : B) : RIf (!true) A B := rif_f h
theorem rif_nf {A B : Prop} (h : A) : RIf (!false) A B := rif_t h
theorem rif_yes {p : Prop} [Decidable p] {A B : Prop} (hp : p) (h1 : A) : RIf (decide p) A B := rif (fun _ => h1) fun h => absurd hp h
theorem rif_no {p : Prop} [Decidable p] {A B : Prop} (hp : ¬ p) (h1 : B) : RIf (decide p) A B := rif (fun h => absurd h hp) fun _ => h1
theorem rif_nyes {p : Prop} [Decidable p] {A B : Prop} (hp : p) (h1 : B) : RIf (!decide p) A B := rif_n (fun h => absurd hp h) fun _ => h1
theorem rif_nno {p : Prop} [Decidable p] {A B : Prop} (hp : ¬ p) (h1 : A) : RIf (!decide p) A B := rif_n (fun _ => h1) fun h => absurd h hp
theorem rif_b {b : Bool} {A B : Prop} (h1 : b = true → A) (h2 : b = false → B) : RIf b A B := by
  cases b
  · exact rif_f (h2 rfl)
  · exact rif_t (h1 rfl)

/-! ### new objects -/
theorem sz100 {n : Nat} (h : n ≤ 10000000) : n ≤ sizeLine := Nat.le_trans h (by decide)
theorem sz_lt {n : Nat} (h : n < 10000000) : n < sizeLine := Nat.lt_of_lt_of_le h (by decide)
theorem r_newL {xs : List V} (o : Own H0 H L) (hz : xs.length ≤ 10000000) (k : ∀ p H', Own H0 H' ((p, .lst xs) :: L) → Q (.ref p) H') : RNewL xs H Q := ⟨sz100 hz, fun p hp => k p _ (o.new hp)⟩
theorem r_newT {xs : List V} (o : Own H0 H L) (hz : xs.length ≤ 10000000) (k : ∀ p H', Own H0 H' ((p, .tup xs) :: L) → Q (.ref p) H') : RNewT xs H Q := ⟨sz100 hz, fun p hp => k p _ (o.new hp)⟩

/-! ### lists -/
theorem r_ixL {p : Addr} {xs : List V} (h : SqL K H p xs) (ha : atI xs i = some v) (q : Q v H) : rIxL K (.ref p) (.int i) H Q := ⟨p, xs, i, v, rfl, rfl, h, ha, q⟩
theorem r_ixT {p : Addr} {xs : List V} (h : SqT K H p xs) (ha : atI xs i = some v) (q : Q v H) : rIxT K (.ref p) (.int i) H Q := ⟨p, xs, i, v, rfl, rfl, h, ha, q⟩
theorem r_slL {a : Addr} {xs : List V} {lo hi : Option Int} (o : Own H0 H L) (h : SqL K H a xs) (k : ∀ p H', Own H0 H' ((p, .lst (cutV xs lo hi)) :: L) → Q (.ref p) H') : rSlL K (.ref a) lo hi H Q := ⟨a, xs, rfl, h, fun p hp => k p _ (o.new hp)⟩
theorem r_cat {a b : Addr} {xs ys : List V} (o : Own H0 H L) (ha : H a = some (.lst xs)) (hb : H b = some (.lst ys)) (hz : xs.length + ys.length ≤ 10000000) (k : ∀ p H', Own H0 H' ((p, .lst (xs ++ ys)) :: L) → Q (.ref p) H') : rCat (.ref a) (.ref b) H Q :=
  ⟨a, b, xs, ys, rfl, rfl, ha, hb, sz100 hz, fun p hp => k p _ (o.new hp)⟩
theorem r_app {l : Addr} {xs : List V} (o : Own H0 H L) (n : Nat) (h : L[n]? = some (l, .lst xs)) (hz : xs.length < 10000000) (k : ∀ H', Own H0 H' (L.set n (l, .lst (xs ++ [y]))) → Q .non H') : rAppend (.ref l) [y] H Q :=
  ⟨l, xs, y, rfl, rfl, o.at n h, sz_lt hz, k _ (o.set n h)⟩
/-- l.append(e) as a statement's expression: the receiver's slot, the argument -/
theorem r_bm {T : String} {f : V → List V → Hp → VK → Prop} {tr : TA} {n : Nat} {l : Addr} (h : σ[n]? = some (some (.ref l))) (ht : tyV K T (.ref l) H) (q : tr σ H fun vs H2 => f (.ref l) vs H2 Q) : tBM K T f (tVar n) tr σ H Q := ⟨_, h, ht, q⟩
theorem ty_lst {l : Addr} {xs : List V} (h : H l = some (.lst xs)) : tyV K "list" (.ref l) H := .inl ⟨rfl, _, SqL.of h⟩
theorem r_setL {l : Addr} {xs : List V} {k : Nat} {R : Hp → Prop} (o : Own H0 H L) (n : Nat) (h : L[n]? = some (l, .lst xs)) (hj : ixN xs.length i = some k) (q : ∀ H', Own H0 H' (L.set n (l, .lst (xs.set k v))) → R H') : rSetL (.ref l) (.int i) v H R :=
  ⟨l, xs, i, k, rfl, rfl, o.at n h, hj, q _ (o.set n h)⟩
end

/-! ### isinstance, sums, == of lists -/
section
variable {σ : L2.St} {H H0 : Hp} {Q : VK} {v x y : V} {i j : Int} {K : PySem.W.Frag} {L : List (Addr × HO)}
theorem r_isi {T S : String} {b : Bool} (ht : TyX K H x (.type T)) (hk : kitB T S = some b) (q : Q (.bl b) H) : rIsi K [x, .ty S] H Q := ⟨x, .ty S, .type T, .type S, b, rfl, .ty S, ht, kit_ty hk, q⟩
theorem ty_int {i : Int} : TyX K H (.int i) (.type "int") := .base (.int i)
theorem ty_str {z : Str} : TyX K H (.str z) (.type "str") := .base (.str z)
theorem ty_non : TyX K H .non (.type "NoneType") := .base .non
theorem ty_list {l : Addr} {xs : List V} (h : H l = some (.lst xs)) : TyX K H (.ref l) (.type "list") := .base (.lst h)
theorem ty_tup {l : Addr} {xs : List V} (h : H l = some (.tup xs)) : TyX K H (.ref l) (.type "tuple") := .base (.tup h)
theorem r_sum {a : Addr} {ns : List Int} (h : SqL K H a (ns.map V.int)) (q : Q (.int ns.sum) H) : rSum K [.ref a] H Q := ⟨a, ns, rfl, h, q⟩
theorem dpAll_ints : ∀ ns : List Int, DpAll K H (ns.map V.int) (ns.map PyData.int)
  | [] => .nil
  | n :: ns => .cons (.int n) (dpAll_ints ns)
theorem dp_ints {a : Addr} {ns : List Int} (h : SqL K H a (ns.map V.int)) : Dp K H (.ref a) (.list (ns.map PyData.int)) := .lst h (dpAll_ints ns)
theorem dp_intsT {a : Addr} {ns : List Int} (h : SqT K H a (ns.map V.int)) : Dp K H (.ref a) (.tuple (ns.map PyData.int)) := .tup h (dpAll_ints ns)
end
/-! ### items -/
/-- the i-th of a list of ints -/
def gi (ns : List Int) (i : Int) : Int := ns.getD i.toNat 0
theorem at_map {α : Type} {f : α → V} {ns : List α} {i : Int} {x : α} (h0 : 0 ≤ i) (h : ns[i.toNat]? = some x) : atI (ns.map f) i = some (f x) := by
  obtain ⟨n, rfl⟩ := Int.eq_ofNat_of_zero_le h0
  refine atI_nat ?_
  have e : (Int.toNat (n : Int)) = n := rfl
  rw [e] at h
  rw [List.getElem?_map, h]
  rfl
theorem at_ints {ns : List Int} {i : Int} (h0 : 0 ≤ i) (h1 : i < ns.length) : atI (ns.map V.int) i = some (.int (gi ns i)) := by
  refine at_map h0 ?_
  unfold gi
  have : i.toNat < ns.length := by omega
  rw [List.getD_eq_getElem?_getD, List.getElem?_eq_getElem this]
  rfl
theorem gi_mem {ns : List Int} {i : Int} (h0 : 0 ≤ i) (h1 : i < ns.length) : gi ns i ∈ ns := by
  unfold gi
  have h2 : i.toNat < ns.length := by omega
  rw [List.getD_eq_getElem?_getD, List.getElem?_eq_getElem h2]
  exact List.getElem_mem h2

/-! ### equal lists of ints -/
theorem canLay_ints : ∀ ns : List Int, PyData.canLayAll0 (ns.map PyData.int) = true
  | [] => rfl
  | n :: ns => by
    show (PyData.canLay0 (.int n) && PyData.canLayAll0 (ns.map PyData.int)) = true
    rw [canLay_ints ns]
    rfl
theorem depth_ints : ∀ ns : List Int, PyData.depthAll (ns.map PyData.int) ≤ 1
  | [] => by decide
  | n :: ns => by
    have h := depth_ints ns
    show max (PyData.depth (.int n)) (PyData.depthAll (ns.map PyData.int)) ≤ 1
    exact Nat.max_le.mpr ⟨Nat.zero_le 1, h⟩
theorem shaped_ints (ns : List Int) : SeqAt.shaped (.list (ns.map PyData.int)) = true := by
  unfold SeqAt.shaped
  rw [Bool.and_eq_true]
  refine ⟨canLay_ints ns, decide_eq_true ?_⟩
  have h := depth_ints ns
  show PyData.depthAll (ns.map PyData.int) + 1 ≤ 64
  omega
theorem shaped_intsT (ns : List Int) : SeqAt.shaped (.tuple (ns.map PyData.int)) = true := by
  unfold SeqAt.shaped
  rw [Bool.and_eq_true]
  refine ⟨canLay_ints ns, decide_eq_true ?_⟩
  have h := depth_ints ns
  show PyData.depthAll (ns.map PyData.int) + 1 ≤ 64
  omega
theorem eqvAll_ints : ∀ ns ms : List Int, PyData.eqvAll (ns.map PyData.int) (ms.map PyData.int) = decide (ns = ms)
  | [], [] => by simp [PyData.eqvAll]
  | [], _ :: _ => by simp [PyData.eqvAll]
  | _ :: _, [] => by simp [PyData.eqvAll]
  | n :: ns, m :: ms => by
    show (PyData.eqv (.int n) (.int m) && PyData.eqvAll (ns.map PyData.int) (ms.map PyData.int)) = _
    rw [eqvAll_ints ns ms]
    simp [PyData.eqv, Bool.beq_eq_decide_eq]
section
variable {H : Hp} {Q : VK} {K : PySem.W.Frag} {a b : Addr} {ns ms : List Int}
theorem r_eqLL (h : SqL K H a (ns.map V.int)) (h2 : SqL K H b (ms.map V.int)) (q : Q (.bl (decide (ns = ms))) H) : rEqD K (.ref a) (.ref b) H Q :=
  ⟨_, _, dp_ints h, dp_ints h2, shaped_ints ns, shaped_ints ms, by
    have e : PyData.eqv (.list (ns.map PyData.int)) (.list (ms.map PyData.int)) = decide (ns = ms) := by rw [PyData.eqv]; exact eqvAll_ints ns ms
    rw [e]; exact q⟩
theorem r_neLL (h : SqL K H a (ns.map V.int)) (h2 : SqL K H b (ms.map V.int)) (q : Q (.bl (!decide (ns = ms))) H) : rNeD K (.ref a) (.ref b) H Q :=
  ⟨_, _, dp_ints h, dp_ints h2, shaped_ints ns, shaped_ints ms, by
    have e : PyData.eqv (.list (ns.map PyData.int)) (.list (ms.map PyData.int)) = decide (ns = ms) := by rw [PyData.eqv]; exact eqvAll_ints ns ms
    rw [e]; exact q⟩
theorem r_eqTT (h : SqT K H a (ns.map V.int)) (h2 : SqT K H b (ms.map V.int)) (q : Q (.bl (decide (ns = ms))) H) : rEqD K (.ref a) (.ref b) H Q :=
  ⟨_, _, dp_intsT h, dp_intsT h2, shaped_intsT ns, shaped_intsT ms, by
    have e : PyData.eqv (.tuple (ns.map PyData.int)) (.tuple (ms.map PyData.int)) = decide (ns = ms) := by rw [PyData.eqv]; exact eqvAll_ints ns ms
    rw [e]; exact q⟩
theorem r_eqSame (h : SqL K H a (ns.map V.int)) (h2 : SqL K H b (ns.map V.int)) (q : Q (.bl true) H) : rEqD K (.ref a) (.ref b) H Q := r_eqLL h h2 (by rw [decide_eq_true rfl]; exact q)
theorem r_neSame (h : SqL K H a (ns.map V.int)) (h2 : SqL K H b (ns.map V.int)) (q : Q (.bl false) H) : rNeD K (.ref a) (.ref b) H Q := r_neLL h h2 (by rw [decide_eq_true rfl]; exact q)
theorem r_ixI {i : Int} {p : Addr} (h : SqL K H p (ns.map V.int)) (h0 : 0 ≤ i) (h1 : i < ns.length) (q : Q (.int (gi ns i)) H) : rIxL K (.ref p) (.int i) H Q := r_ixL h (at_ints h0 h1) q
theorem r_ixqL {i : Int} {p : Addr} (h : SqL K H p (ns.map V.int)) (h0 : 0 ≤ i) (h1 : i < ns.length) (q : Q (.int (gi ns i)) H) : rIx K (.ref p) (.int i) H Q := .inl (r_ixL h (at_ints h0 h1) q)
theorem r_ixqT {i : Int} {p : Addr} (h : SqT K H p (ns.map V.int)) (h0 : 0 ≤ i) (h1 : i < ns.length) (q : Q (.int (gi ns i)) H) : rIx K (.ref p) (.int i) H Q := .inr (.inl (r_ixT h (at_ints h0 h1) q))
theorem r_ixIT {i : Int} {p : Addr} (h : SqT K H p (ns.map V.int)) (h0 : 0 ≤ i) (h1 : i < ns.length) (q : Q (.int (gi ns i)) H) : rIxT K (.ref p) (.int i) H Q := r_ixT h (at_ints h0 h1) q
/-- a written list (or one of unknown form) at a place in it -/
theorem r_ixM {i : Int} {p : Addr} {vs : List V} (h : SqL K H p vs) (h0 : 0 ≤ i) (h1 : i < vs.length) (q : ∀ v, v ∈ vs → atI vs i = some v → Q v H) : rIxL K (.ref p) (.int i) H Q := by
  obtain ⟨n, rfl⟩ := Int.eq_ofNat_of_zero_le h0
  have hn : n < vs.length := by omega
  have e : atI vs (n : Int) = some vs[n] := atI_nat (List.getElem?_eq_getElem hn)
  exact r_ixL h e (q _ (List.getElem_mem hn) e)
theorem r_ret1 {H0 : Hp} {L : List (Addr × HO)} {u : HO} (o : Own H0 H L) (k : ∀ p H', Own H0 H' ((p, u) :: L) → Q (.ref p) H') : RetO H Q u := fun H' p e f h => k p H' (o.add e f h)
theorem r_retvs {H0 : Hp} {L : List (Addr × HO)} {v : V} (o : Own H0 H L) (k : ∀ H', Same H H' → Own H0 H' L → Q v H') : RetV H Q v := fun H' e => k H' e (o.mono e)
theorem r_retv {H0 : Hp} {L : List (Addr × HO)} {v : V} (o : Own H0 H L) (k : ∀ H', Own H0 H' L → Q v H') : RetV H Q v := fun H' e => k H' (o.mono e)
end

/-! ### named relations -/
def rTupS (K : PySem.W.Frag) : List V → Hp → VK → Prop := fun xs H Q => ∃ p ys, xs = [.ref p] ∧ ((SqL K H p ys ∧ ∀ l, H l = none → Q (.ref l) (upd H l (.tup ys))) ∨ (SqT K H p ys ∧ Q (.ref p) H))
def rInt1 : List V → Hp → VK → Prop := fun xs H Q => (∃ i, xs = [.int i] ∧ Q (.int i) H) ∨ ∃ k, xs = [.bl k] ∧ Q (.int (if k then 1 else 0)) H
section
variable {H H0 : Hp} {Q : VK} {K : PySem.W.Frag} {L : List (Addr × HO)} {p : Addr} {xs : List V}
theorem r_len (h : SqL K H p xs) (q : Q (.int xs.length) H) : Evl.rLenS K [.ref p] H Q := ⟨p, xs, rfl, .inl h, q⟩
theorem r_lenT (h : SqT K H p xs) (q : Q (.int xs.length) H) : Evl.rLenS K [.ref p] H Q := ⟨p, xs, rfl, .inr h, q⟩
theorem r_list (o : Own H0 H L) (h : SqL K H p xs) (k : ∀ l H', Own H0 H' ((l, .lst xs) :: L) → Q (.ref l) H') : Evl.rListS K [.ref p] H Q := ⟨p, xs, rfl, .inl h, fun l hl => k l _ (o.new hl)⟩
theorem r_listT (o : Own H0 H L) (h : SqT K H p xs) (k : ∀ l H', Own H0 H' ((l, .lst xs) :: L) → Q (.ref l) H') : Evl.rListS K [.ref p] H Q := ⟨p, xs, rfl, .inr h, fun l hl => k l _ (o.new hl)⟩
theorem r_tupL (o : Own H0 H L) (h : SqL K H p xs) (k : ∀ l H', Own H0 H' ((l, .tup xs) :: L) → Q (.ref l) H') : rTupS K [.ref p] H Q := ⟨p, xs, rfl, .inl ⟨h, fun l hl => k l _ (o.new hl)⟩⟩
theorem r_int {i : Int} (q : Q (.int i) H) : rInt1 [.int i] H Q := .inl ⟨i, rfl, q⟩
theorem r_intB {b : Bool} (q : Q (.int (if b then 1 else 0)) H) : rInt1 [.bl b] H Q := .inr ⟨b, rfl, q⟩
end

/-! ### slices -/
theorem cut_hi (xs : List V) (n : Nat) : cutV xs none (some (n : Int)) = xs.take n := by
  unfold cutV
  rw [HT.sIx_none, HT.sIx_nat, List.drop_zero, Nat.sub_zero]
  rcases Nat.le_total n xs.length with h | h
  · rw [Nat.min_eq_left h]
  · rw [Nat.min_eq_right h, List.take_of_length_le (Nat.le_refl _), List.take_of_length_le h]
theorem cut_lo (xs : List V) (n : Nat) : cutV xs (some (n : Int)) none = xs.drop n := by
  unfold cutV
  rw [HT.sIx_none, HT.sIx_nat]
  rcases Nat.le_total n xs.length with h | h
  · rw [Nat.min_eq_left h]
    exact List.take_of_length_le (by rw [List.length_drop]; omega)
  · rw [Nat.min_eq_right h, List.drop_of_length_le h, List.drop_of_length_le (Nat.le_refl _)]
    simp
theorem cut_both (xs : List V) (a b : Nat) : cutV xs (some (a : Int)) (some (b : Int)) = (xs.drop a).take (b - a) := by
  unfold cutV
  rw [HT.sIx_nat, HT.sIx_nat]
  rcases Nat.le_total a xs.length with h | h
  · rw [Nat.min_eq_left h]
    rcases Nat.le_total b xs.length with h2 | h2
    · rw [Nat.min_eq_left h2]
    · rw [Nat.min_eq_right h2, List.take_of_length_le (by rw [List.length_drop]; omega), List.take_of_length_le (by rw [List.length_drop]; omega)]
  · rw [Nat.min_eq_right h, List.drop_of_length_le h, List.drop_of_length_le (Nat.le_refl _)]
    simp
theorem cut_all (xs : List V) : cutV xs none none = xs := by
  unfold cutV
  rw [HT.sIx_none, HT.sIx_none]
  simp

/-! ### loops -/
def RFor (J : It) (g : TG) (tb : TS) (D : Ends) (σ : L2.St) (H : Hp) : Prop := ∃ W : Nat → Nat → L2.St → Hp → Prop, (∃ m, W 0 m σ H) ∧ ∀ i m σ H, W i m σ H →
    (J.stop i H ∧ D.nx σ H) ∨ (J.go i H ∧ ∃ N : L2.St → Hp → Prop, (∀ σ' H', N σ' H' → ∃ m', m' < m ∧ W (i + 1) m' σ' H') ∧ ∀ x H', J.yld i H x H' → g x σ H' fun σ2 H2 => tb { D with nx := N, ct := N, bk := D.nx } σ2 H2)
section
variable {σ : L2.St} {H H0 : Hp} {Q : VK} {v x y : V} {ta tb te tl : TE} {t u : TT} {i j : Int} {D : Ends} {ts tz : TS} {g : TG} {K : PySem.W.Frag} {L : List (Addr × HO)} {tr : TA} {wi : TI}
theorem r_for (q : wi σ H fun J H1 => RFor J g ts D σ H1) : tFor wi g ts D σ H := q
theorem r_rng1 {R : It → Hp → Prop} (q : tr σ H fun vs H1 => ∃ j : Int, vs = [.int j] ∧ -(2 ^ 62) ≤ j ∧ j < 2 ^ 62 ∧ R (Itr 0 j.toNat) H1) : iRng1 tr σ H R := q
theorem r_rng2 {R : It → Hp → Prop} (q : tr σ H fun vs H1 => ∃ i j : Int, vs = [.int i, .int j] ∧ (-(2 ^ 62) ≤ i ∧ i < 2 ^ 62 ∧ -(2 ^ 62) ≤ j ∧ j < 2 ^ 62) ∧ R (Itr i (j - i).toNat) H1) : iRng2 tr σ H R := q
theorem r_rng3 {R : It → Hp → Prop} (q : tr σ H fun vs H1 => ∃ (i j c : Int) (n : Nat), vs = [.int i, .int j, .int c] ∧ RgC i j c n ∧ R (Itc i c n) H1) : iRng3 tr σ H R := q
theorem r_iL {R : It → Hp → Prop} (q : tl σ H fun x H1 => ∃ a, x = .ref a ∧ (∃ xs, SqL K H1 a xs) ∧ R (Itl K a) H1) : iList K tl σ H R := q
theorem r_iT {R : It → Hp → Prop} (q : tl σ H fun x H1 => ∃ a, x = .ref a ∧ (∃ xs, SqT K H1 a xs) ∧ R (Itt K a) H1) : iTup K tl σ H R := q
/-- for k in range(j): behind the argument's reading -/
theorem forR1 {n : Nat} {s : Nat} (hn : j = (n : Int)) (hb : j < 2 ^ 62) (Pv : Nat → L2.St → Hp → Prop) (h0 : Pv 0 σ H)
    (hs : ∀ i σ H, i < n → Pv i σ H → ts { D with nx := Pv (i + 1), ct := Pv (i + 1), bk := D.nx } (σ.set s (some (.int (i : Int)))) H) (hd : ∀ σ H, Pv n σ H → D.nx σ H) :
    ∃ k : Int, [V.int j] = [.int k] ∧ -(2 ^ 62) ≤ k ∧ k < 2 ^ 62 ∧ RFor (Itr 0 k.toNat) (gName s) ts D σ H := by
  refine ⟨j, rfl, by omega, hb, ?_⟩
  have e : j.toNat = n := by omega
  rw [e]
  refine for_range (lo := 0) (n := n) Pv h0 (fun i σ H hi p => ?_) hd
  have e0 : (0 : Int) + (i : Int) = (i : Int) := Int.zero_add _
  show gName s (.int ((0 : Int) + (i : Int))) σ H _
  rw [e0]
  exact hs i σ H hi p
/-- for k in range(i, j) -/
theorem forR2 {n s : Nat} (hn : (j - i).toNat = n) (hb : -(2 ^ 62) ≤ i ∧ i < 2 ^ 62 ∧ -(2 ^ 62) ≤ j ∧ j < 2 ^ 62) (Pv : Nat → L2.St → Hp → Prop) (h0 : Pv 0 σ H)
    (hs : ∀ k σ H, k < n → Pv k σ H → ts { D with nx := Pv (k + 1), ct := Pv (k + 1), bk := D.nx } (σ.set s (some (.int (i + (k : Int))))) H) (hd : ∀ σ H, Pv n σ H → D.nx σ H) :
    ∃ i' j' : Int, [V.int i, V.int j] = [.int i', .int j'] ∧ (-(2 ^ 62) ≤ i' ∧ i' < 2 ^ 62 ∧ -(2 ^ 62) ≤ j' ∧ j' < 2 ^ 62) ∧ RFor (Itr i' (j' - i').toNat) (gName s) ts D σ H := by
  refine ⟨i, j, rfl, hb, ?_⟩
  rw [hn]
  exact for_range (lo := i) (n := n) Pv h0 (fun k σ H hi p => hs k σ H hi p) hd
theorem forR3 {c : Int} {n s : Nat} (hc : RgC i j c n) (Pv : Nat → L2.St → Hp → Prop) (h0 : Pv 0 σ H)
    (hs : ∀ k σ H, k < n → Pv k σ H → ts { D with nx := Pv (k + 1), ct := Pv (k + 1), bk := D.nx } (σ.set s (some (.int (i + (k : Nat) * c)))) H) (hd : ∀ σ H, Pv n σ H → D.nx σ H) :
    ∃ (i' j' c' : Int) (n' : Nat), [V.int i, V.int j, V.int c] = [.int i', .int j', .int c'] ∧ RgC i' j' c' n' ∧ RFor (Itc i' c' n') (gName s) ts D σ H :=
  ⟨i, j, c, n, rfl, hc, for_rangeC (lo := i) (c := c) (n := n) Pv h0 (fun k σ H hi p => hs k σ H hi p) hd⟩
/-- for x in l: behind the reading of l -/
theorem forL {a : Addr} {xs : List V} (h : SqL K H a xs) (Pv : Nat → L2.St → Hp → Prop) (h0 : Pv 0 σ H) (hl : ∀ i σ H, i ≤ xs.length → Pv i σ H → SqL K H a xs)
    (hs : ∀ i x σ H, xs[i]? = some x → Pv i σ H → g x σ H fun σ2 H2 => ts { D with nx := Pv (i + 1), ct := Pv (i + 1), bk := D.nx } σ2 H2) (hd : ∀ σ H, Pv xs.length σ H → D.nx σ H) :
    ∃ a', V.ref a = .ref a' ∧ (∃ xs, SqL K H a' xs) ∧ RFor (Itl K a') g ts D σ H := ⟨a, rfl, ⟨xs, h⟩, for_list (K := K) (a := a) (xs := xs) Pv h0 hl hs hd⟩
theorem forT {a : Addr} {xs : List V} (h : SqT K H a xs) (Pv : Nat → L2.St → Hp → Prop) (h0 : Pv 0 σ H) (hl : ∀ i σ H, i ≤ xs.length → Pv i σ H → SqT K H a xs)
    (hs : ∀ i x σ H, xs[i]? = some x → Pv i σ H → g x σ H fun σ2 H2 => ts { D with nx := Pv (i + 1), ct := Pv (i + 1), bk := D.nx } σ2 H2) (hd : ∀ σ H, Pv xs.length σ H → D.nx σ H) :
    ∃ a', V.ref a = .ref a' ∧ (∃ xs, SqT K H a' xs) ∧ RFor (Itt K a') g ts D σ H := ⟨a, rfl, ⟨xs, h⟩, for_tup (K := K) (a := a) (xs := xs) Pv h0 hl hs hd⟩
/-- while -/
def RWh (c : TT) (tb : TS) (D : Ends) (σ : L2.St) (H : Hp) : Prop := tWhile c tb D σ H
theorem whileB {c : TT} (Pv : Nat → L2.St → Hp → Prop) (m : Nat) (h0 : Pv m σ H)
    (hs : ∀ m σ H, Pv m σ H → c σ H fun b H1 => RIf b (∃ N : L2.St → Hp → Prop, (∀ σ' H', N σ' H' → ∃ m', m' < m ∧ Pv m' σ' H') ∧ ts { D with nx := N, ct := N, bk := D.nx } σ H1) (D.nx σ H1)) : tWhile c ts D σ H :=
  ⟨Pv, ⟨m, h0⟩, hs⟩
/-- the body's end in such a loop: a smaller number and the word again -/
theorem wh_turn {Pv : Nat → L2.St → Hp → Prop} {m : Nat} (h : ts { D with nx := fun σ' H' => ∃ m', m' < m ∧ Pv m' σ' H', ct := fun σ' H' => ∃ m', m' < m ∧ Pv m' σ' H', bk := D.nx } σ H) :
    ∃ N : L2.St → Hp → Prop, (∀ σ' H', N σ' H' → ∃ m', m' < m ∧ Pv m' σ' H') ∧ ts { D with nx := N, ct := N, bk := D.nx } σ H := ⟨_, fun _ _ h => h, h⟩

/-! ### comprehensions -/
def RLc (J : It) (g : TG) (tt : TT) (te : TE) (vs : List Nat) (σ : L2.St) (H1 : Hp) (Q : VK) : Prop := ∀ D, H1 D = none → ∃ W : Nat → Nat → Hp → Prop, (∃ m, W 0 m (upd H1 D (.lst []))) ∧ ∀ i m H, W i m H →
  (J.stop i H ∧ Q (.ref D) H) ∨ (J.go i H ∧ ∃ Nx : Hp → Prop, (∀ H', Nx H' → ∃ m', m' < m ∧ W (i + 1) m' H') ∧ ∀ x H', J.yld i H x H' → g x (wipe σ vs) H' fun σ2 H2 => wipe σ2 vs = wipe σ vs ∧ tt σ2 H2 fun b H3 =>
    if b = true then te σ2 H3 fun y H4 => ∃ acc, H4 D = some (.lst acc) ∧ acc.length < sizeLine ∧ Nx (upd H4 D (.lst (acc ++ [y]))) else Nx H3)
theorem r_lc {tt : TT} {vs : List Nat} (q : wi σ H fun J H1 => RLc J g tt te vs σ H1 Q) : tLc wi g tt te vs σ H Q := q
/-- what a turn of a comprehension without an if is to reach -/
theorem lc_turn {H' : Hp} {zs ys : List V} {P : Addr} {k : Nat} {y : V} {σ2 : L2.St} (o : Own H0 H' ((P, .lst (ys.take k)) :: L)) (hy : ys[k]? = some y) (hz : ys.length ≤ 10000000)
    (he : ∀ Q : VK, RetV H' Q y → te σ2 H' Q) :
    tYes σ2 H' fun b H3 => if b = true then te σ2 H3 fun y H4 => ∃ acc, H4 P = some (.lst acc) ∧ acc.length < sizeLine ∧ Own H0 (upd H4 P (.lst (acc ++ [y]))) ((P, .lst (ys.take (k + 1))) :: L) else Own H0 H3 ((P, .lst (ys.take (k + 1))) :: L) := by
  refine iteT (B := Own H0 H' ((P, .lst (ys.take (k + 1))) :: L)) (he _ fun H4 s4 => ?_)
  have o4 := o.mono s4
  have hk := (List.getElem?_eq_some_iff.mp hy).1
  refine ⟨ys.take k, o4.at 0 rfl, sz_lt (by rw [List.length_take]; omega), ?_⟩
  have o5 := o4.set (v := .lst (ys.take k ++ [y])) 0 rfl
  have e : ys.take (k + 1) = ys.take k ++ [y] := by rw [List.take_add_one, hy]; rfl
  rw [e]
  exact o5
/-- [e for x in range(n)], e no new object -/
theorem lcR1 {n s : Nat} {vs : List Nat} (ys : List V) (hy : ys.length = n) (o : Own H0 H L) (hn : j = (n : Int)) (hz : n ≤ 10000000) (hw : ∀ x, wipe ((wipe σ vs).set s (some x)) vs = wipe σ vs)
    (he : ∀ (i : Nat) (y : V) (p : Addr) (zs : List V) (H' : Hp) (Q : VK), i < n → ys[i]? = some y → Own H0 H' ((p, .lst zs) :: L) → RetV H' Q y → te ((wipe σ vs).set s (some (.int (i : Int)))) H' Q)
    (k : ∀ p H', Own H0 H' ((p, .lst ys) :: L) → Q (.ref p) H') :
    ∃ k : Int, [V.int j] = [.int k] ∧ -(2 ^ 62) ≤ k ∧ k < 2 ^ 62 ∧ RLc (Itr 0 k.toNat) (gName s) tYes te vs σ H Q := by
  refine ⟨j, rfl, by omega, by omega, fun P hP => ?_⟩
  have e : j.toNat = n := by omega
  rw [e]
  refine lc_range (lo := 0) (n := n) (fun i H' => Own H0 H' ((P, .lst (ys.take i)) :: L)) (o.new hP) (fun i H' hi p => ?_) (fun H' p => k P H' (by rw [List.take_of_length_le (by omega)] at p; exact p))
  have e0 : (0 : Int) + (i : Int) = (i : Int) := Int.zero_add _
  rw [e0]
  have hlt : i < ys.length := by omega
  refine ⟨hw _, ?_⟩
  exact lc_turn (zs := []) p (List.getElem?_eq_getElem hlt) (by omega) fun Q q => he i _ P _ H' Q hi (List.getElem?_eq_getElem hlt) p q
/-- [e for x in xs], e no new object -/
theorem lcL {a : Addr} {xs : List V} {s : Nat} {vs : List Nat} (ys : List V) (hy : ys.length = xs.length) (o : Own H0 H L) (h : ∀ H' p zs, Own H0 H' ((p, .lst zs) :: L) → SqL K H' a xs) (h1 : SqL K H a xs) (hz : xs.length ≤ 10000000) (hw : ∀ x, wipe ((wipe σ vs).set s (some x)) vs = wipe σ vs)
    (he : ∀ (i : Nat) (x y : V) (p : Addr) (zs : List V) (H' : Hp) (Q : VK), xs[i]? = some x → ys[i]? = some y → Own H0 H' ((p, .lst zs) :: L) → RetV H' Q y → te ((wipe σ vs).set s (some x)) H' Q)
    (k : ∀ p H', Own H0 H' ((p, .lst ys) :: L) → Q (.ref p) H') :
    ∃ a', V.ref a = .ref a' ∧ (∃ xs, SqL K H a' xs) ∧ RLc (Itl K a') (gName s) tYes te vs σ H Q := by
  refine ⟨a, rfl, ⟨xs, h1⟩, fun P hP => ?_⟩
  refine lc_list (K := K) (a := a) (xs := xs) (fun i H' => Own H0 H' ((P, .lst (ys.take i)) :: L)) (o.new hP) (fun i H' _ p => h H' _ _ p) (fun i x H' hi p => ?_) (fun H' p => k P H' (by rw [List.take_of_length_le (by omega)] at p; exact p))
  have hlt : i < ys.length := by have := (List.getElem?_eq_some_iff.mp hi).1; omega
  refine ⟨hw _, ?_⟩
  exact lc_turn (zs := []) p (List.getElem?_eq_getElem hlt) (by omega) fun Q q => he i x _ P _ H' Q hi (List.getElem?_eq_getElem hlt) p q
end
/-! ### comprehensions of ints -/
def mapR (n : Nat) (f : Nat → Int) : List Int := (List.range n).map f
theorem mapR_len (n : Nat) (f : Nat → Int) : (mapR n f).length = n := by unfold mapR; rw [List.length_map, List.length_range]
theorem mapR_mem {n : Nat} {f : Nat → Int} {x : Int} (h : x ∈ mapR n f) : ∃ k, k < n ∧ x = f k := by
  obtain ⟨k, hk, e⟩ := List.mem_map.mp h
  exact ⟨k, List.mem_range.mp hk, e.symm⟩
theorem mapR_get {n k : Nat} {f : Nat → Int} (h : k < n) : (mapR n f)[k]? = some (f k) := by
  unfold mapR
  rw [List.getElem?_map, List.getElem?_range h]
  rfl
theorem mapR_ext {n : Nat} {f g : Nat → Int} (h : ∀ k, k < n → f k = g k) : mapR n f = mapR n g := by
  unfold mapR
  exact List.map_congr_left fun k hk => h k (List.mem_range.mp hk)
theorem RetV.here {H : Hp} {Q : VK} {v : V} (q : RetV H Q v) : Q v H := q H (Same.refl H)
section
variable {σ : L2.St} {H H0 : Hp} {Q : VK} {te : TE} {j : Int} {K : PySem.W.Frag} {L : List (Addr × HO)}
theorem lcR1I {n s : Nat} {vs : List Nat} (f : Nat → Int) (o : Own H0 H L) (hn : j = (n : Int)) (hz : n ≤ 10000000) (hw : ∀ x, wipe ((wipe σ vs).set s (some x)) vs = wipe σ vs)
    (he : ∀ (i : Nat) (p : Addr) (zs : List V) (H' : Hp) (Q : VK), i < n → Own H0 H' ((p, .lst zs) :: L) → RetV H' Q (.int (f i)) → te ((wipe σ vs).set s (some (.int (i : Int)))) H' Q)
    (k : ∀ p H', Own H0 H' ((p, .lst ((mapR n f).map V.int)) :: L) → Q (.ref p) H') :
    ∃ k : Int, [V.int j] = [.int k] ∧ -(2 ^ 62) ≤ k ∧ k < 2 ^ 62 ∧ RLc (Itr 0 k.toNat) (gName s) tYes te vs σ H Q := by
  refine lcR1 ((mapR n f).map V.int) (by rw [List.length_map, mapR_len]) o hn hz hw (fun i y p zs H' Q hi hy o' q => ?_) k
  rw [List.getElem?_map, mapR_get hi] at hy
  cases hy
  exact he i p zs H' Q hi o' q
theorem lcLI {a : Addr} {ns : List Int} {s : Nat} {vs : List Nat} (f : Int → Int) (o : Own H0 H L) (h : ∀ H' p zs, Own H0 H' ((p, .lst zs) :: L) → SqL K H' a (ns.map V.int)) (h1 : SqL K H a (ns.map V.int)) (hz : ns.length ≤ 10000000) (hw : ∀ x, wipe ((wipe σ vs).set s (some x)) vs = wipe σ vs)
    (he : ∀ (i : Nat) (x : Int) (p : Addr) (zs : List V) (H' : Hp) (Q : VK), x ∈ ns → Own H0 H' ((p, .lst zs) :: L) → RetV H' Q (.int (f x)) → te ((wipe σ vs).set s (some (.int x))) H' Q)
    (k : ∀ p H', Own H0 H' ((p, .lst ((ns.map f).map V.int)) :: L) → Q (.ref p) H') :
    ∃ a', V.ref a = .ref a' ∧ (∃ xs, SqL K H a' xs) ∧ RLc (Itl K a') (gName s) tYes te vs σ H Q := by
  refine lcL ((ns.map f).map V.int) (by rw [List.length_map, List.length_map, List.length_map]) o h h1 (by rw [List.length_map]; exact hz) hw (fun i x y p zs H' Q hx hy o' q => ?_) k
  rw [List.getElem?_map] at hx
  rw [List.getElem?_map, List.getElem?_map] at hy
  cases e : ns[i]? with
  | none => rw [e] at hx; cases hx
  | some z =>
    rw [e] at hx hy
    cases hx
    cases hy
    exact he i z p zs H' Q (List.mem_of_getElem? e) o' q
end
section
variable {H0 H : Hp} {L : List (Addr × HO)} {x y z u v : Addr × HO}
theorem Own.pick1 (o : Own H0 H L) (i : Nat) (hi : L[i]? = some x) : Own H0 H [x] := ⟨o.ex, fun q hq => by rw [List.mem_singleton.mp hq]; exact o.fr _ (List.mem_of_getElem? hi), by simp⟩
theorem Own.cons_of (o : Own H0 H L) {L' : List (Addr × HO)} (o' : Own H0 H L') (hx : x ∈ L) (hn : ∀ q ∈ L', q.1 ≠ x.1) : Own H0 H (x :: L') :=
  ⟨o.ex, fun q hq => by
    rcases List.mem_cons.mp hq with rfl | hq
    · exact o.fr _ hx
    · exact o'.fr _ hq, by
    rw [List.map_cons, List.nodup_cons]
    refine ⟨fun hm => ?_, o'.nd⟩
    obtain ⟨q, hq, e⟩ := List.mem_map.mp hm
    exact hn q hq e⟩
theorem Own.nei (o : Own H0 H L) {i j : Nat} (hi : L[i]? = some x) (hj : L[j]? = some y) (h : i ≠ j) : x.1 ≠ y.1 := fun e => h (nodup_fst (l := x.1) (u := x.2) (v := y.2) o.nd hi (by rw [hj, e]))
theorem Own.pick2 (o : Own H0 H L) (i j : Nat) (hij : i ≠ j) (hi : L[i]? = some x) (hj : L[j]? = some y) : Own H0 H [x, y] :=
  o.cons_of (o.pick1 j hj) (List.mem_of_getElem? hi) fun q hq => by rw [List.mem_singleton.mp hq]; exact (o.nei hi hj hij).symm
theorem Own.pick3 (o : Own H0 H L) (i j k : Nat) (h : i ≠ j ∧ i ≠ k ∧ j ≠ k) (hi : L[i]? = some x) (hj : L[j]? = some y) (hk : L[k]? = some z) : Own H0 H [x, y, z] :=
  o.cons_of (o.pick2 j k h.2.2 hj hk) (List.mem_of_getElem? hi) fun q hq => by
    rcases List.mem_cons.mp hq with rfl | hq
    · exact (o.nei hi hj h.1).symm
    · rw [List.mem_singleton.mp hq]; exact (o.nei hi hk h.2.1).symm
theorem Own.pick4 (o : Own H0 H L) (i j k l : Nat) (h : i ≠ j ∧ i ≠ k ∧ i ≠ l ∧ j ≠ k ∧ j ≠ l ∧ k ≠ l) (hi : L[i]? = some x) (hj : L[j]? = some y) (hk : L[k]? = some z) (hl : L[l]? = some u) : Own H0 H [x, y, z, u] :=
  o.cons_of (o.pick3 j k l h.2.2.2 hj hk hl) (List.mem_of_getElem? hi) fun q hq => by
    rcases List.mem_cons.mp hq with rfl | hq
    · exact (o.nei hi hj h.1).symm
    · rcases List.mem_cons.mp hq with rfl | hq
      · exact (o.nei hi hk h.2.1).symm
      · rw [List.mem_singleton.mp hq]; exact (o.nei hi hl h.2.2.1).symm
end

/-! ### tuples stand -/
def Stp (H H' : Hp) : Prop := ∀ a xs, Rd H a (.tup xs) → Rd H' a (.tup xs)
theorem Stp.refl (H : Hp) : Stp H H := fun _ _ h => h
theorem Stp.trans {H H1 H2 : Hp} (a : Stp H H1) (b : Stp H1 H2) : Stp H H2 := fun x xs h => b x xs (a x xs h)
theorem Stp.of {H H' : Hp} (e : Same H H') : Stp H H' := fun a xs h => by
  rcases h with h | ⟨o, h⟩
  · exact .inl (e _ _ h)
  · exact .inr ⟨o, e _ _ h⟩
theorem Stp.set {H : Hp} {l : Addr} {xs : List V} {u : HO} (h : H l = some (.lst xs)) : Stp H (upd H l u) := fun a ys r => by
  have hne : a ≠ l := by
    rintro rfl
    rcases r with r | ⟨o, r⟩ <;> rw [h] at r <;> cases r
  rcases r with r | ⟨o, r⟩
  · exact .inl (by rw [upd_ne hne]; exact r)
  · exact .inr ⟨o, by rw [upd_ne hne]; exact r⟩
theorem Stp.sq {K : PySem.W.Frag} {H H' : Hp} {a : Addr} {xs : List V} (e : Stp H H') (h : SqT K H a xs) : SqT K H' a xs := by
  rcases h with h | h
  · exact .inl (e _ _ h)
  · exact .inr h
/-! ### comprehensions with a test -/
theorem lc_turnF {H0 H H' : Hp} {L : List (Addr × HO)} {te : TE} {tt : TT} {zs : List V} {P : Addr} {o1 : Option V} {σ2 : L2.St} (o : Own H0 H' ((P, .lst zs) :: L)) (s : Stp H H') (hz : zs.length < 10000000)
    (ht : ∀ Q : Bool → Hp → Prop, (∀ H2, Same H' H2 → Q o1.isSome H2) → tt σ2 H' Q) (he : ∀ y H2, o1 = some y → Same H' H2 → ∀ Q : VK, RetV H2 Q y → te σ2 H2 Q) :
    tt σ2 H' fun b H3 => if b = true then te σ2 H3 fun y H4 => ∃ acc, H4 P = some (.lst acc) ∧ acc.length < sizeLine ∧ (Own H0 (upd H4 P (.lst (acc ++ [y]))) ((P, .lst (zs ++ o1.toList)) :: L) ∧ Stp H (upd H4 P (.lst (acc ++ [y])))) else (Own H0 H3 ((P, .lst (zs ++ o1.toList)) :: L) ∧ Stp H H3) := by
  refine ht _ fun H2 s2 => ?_
  have o2 := o.mono s2
  cases e : o1 with
  | none =>
    show Own H0 H2 ((P, .lst (zs ++ [])) :: L) ∧ Stp H H2
    rw [List.append_nil]
    exact ⟨o2, s.trans (.of s2)⟩
  | some y =>
    refine iteT (B := Own H0 H2 ((P, .lst (zs ++ [y])) :: L) ∧ Stp H H2) (he y H2 e s2 _ fun H4 s4 => ?_)
    have o4 := o2.mono s4
    exact ⟨zs, o4.at 0 rfl, sz_lt hz, o4.set (v := .lst (zs ++ [y])) 0 rfl, (s.trans ((Stp.of s2).trans (.of s4))).trans (Stp.set (o4.at 0 rfl))⟩
theorem fm_take {α β : Type} {xs : List α} {sel : α → Option β} {i : Nat} {x : α} (h : xs[i]? = some x) : (xs.take (i + 1)).filterMap sel = (xs.take i).filterMap sel ++ (sel x).toList := by
  rw [List.take_add_one, h, List.filterMap_append]
  congr 1
theorem fm_le {α β : Type} (xs : List α) (sel : α → Option β) : (xs.filterMap sel).length ≤ xs.length := List.length_filterMap_le sel xs
section
variable {σ : L2.St} {H H0 : Hp} {Q : VK} {te : TE} {tt : TT} {j : Int} {K : PySem.W.Frag} {L : List (Addr × HO)}
/-- [e for x in xs if t], what it gives by the item alone -/
theorem lcGL {a : Addr} {xs : List V} {g : TG} {vs : List Nat} (sel : V → Option V) (o : Own H0 H L) (h : ∀ H' p zs, Own H0 H' ((p, .lst zs) :: L) → SqL K H' a xs) (h1 : SqL K H a xs) (hz : xs.length < 10000000)
    (he : ∀ (i : Nat) (x : V) (p : Addr) (zs : List V) (H' : Hp) (R : L2.St → Hp → Prop), xs[i]? = some x → Own H0 H' ((p, .lst zs) :: L) → Stp H H' →
      (∀ σ2, (∀ H2, Same H' H2 → wipe σ2 vs = wipe σ vs) → (∀ Q : Bool → Hp → Prop, (∀ H2, Same H' H2 → Q (sel x).isSome H2) → tt σ2 H' Q) → (∀ y H2, sel x = some y → Same H' H2 → ∀ Q : VK, RetV H2 Q y → te σ2 H2 Q) → R σ2 H') → g x (wipe σ vs) H' R)
    (k : ∀ p H', Stp H H' → Own H0 H' ((p, .lst (xs.filterMap sel)) :: L) → Q (.ref p) H') :
    ∃ a', V.ref a = .ref a' ∧ (∃ xs, SqL K H a' xs) ∧ RLc (Itl K a') g tt te vs σ H Q := by
  refine ⟨a, rfl, ⟨xs, h1⟩, fun P hP => ?_⟩
  refine lc_list (K := K) (a := a) (xs := xs) (fun i H' => Own H0 H' ((P, .lst ((xs.take i).filterMap sel)) :: L) ∧ Stp H H') ⟨o.new hP, .of (same_new hP)⟩ (fun i H' _ p => h H' _ _ p.1) (fun i x H' hi p => ?_) (fun H' p => k P H' p.2 (by have p := p.1; rw [List.take_of_length_le (Nat.le_refl _)] at p; exact p))
  refine he i x P _ H' _ hi p.1 p.2 fun σ2 hw ht hv => ⟨hw H' (Same.refl _), ?_⟩
  rw [fm_take hi]
  refine lc_turnF p.1 p.2 ?_ ht hv
  have h2 := fm_le (xs.take i) sel
  rw [List.length_take] at h2
  omega
theorem lcGT {a : Addr} {xs : List V} {g : TG} {vs : List Nat} (sel : V → Option V) (o : Own H0 H L) (h : ∀ H' p zs, Own H0 H' ((p, .lst zs) :: L) → SqT K H' a xs) (h1 : SqT K H a xs) (hz : xs.length < 10000000)
    (he : ∀ (i : Nat) (x : V) (p : Addr) (zs : List V) (H' : Hp) (R : L2.St → Hp → Prop), xs[i]? = some x → Own H0 H' ((p, .lst zs) :: L) → Stp H H' →
      (∀ σ2, (∀ H2, Same H' H2 → wipe σ2 vs = wipe σ vs) → (∀ Q : Bool → Hp → Prop, (∀ H2, Same H' H2 → Q (sel x).isSome H2) → tt σ2 H' Q) → (∀ y H2, sel x = some y → Same H' H2 → ∀ Q : VK, RetV H2 Q y → te σ2 H2 Q) → R σ2 H') → g x (wipe σ vs) H' R)
    (k : ∀ p H', Stp H H' → Own H0 H' ((p, .lst (xs.filterMap sel)) :: L) → Q (.ref p) H') :
    ∃ a', V.ref a = .ref a' ∧ (∃ xs, SqT K H a' xs) ∧ RLc (Itt K a') g tt te vs σ H Q := by
  refine ⟨a, rfl, ⟨xs, h1⟩, fun P hP => ?_⟩
  refine lc_tup (K := K) (a := a) (xs := xs) (fun i H' => Own H0 H' ((P, .lst ((xs.take i).filterMap sel)) :: L) ∧ Stp H H') ⟨o.new hP, .of (same_new hP)⟩ (fun i H' _ p => h H' _ _ p.1) (fun i x H' hi p => ?_) (fun H' p => k P H' p.2 (by have p := p.1; rw [List.take_of_length_le (Nat.le_refl _)] at p; exact p))
  refine he i x P _ H' _ hi p.1 p.2 fun σ2 hw ht hv => ⟨hw H' (Same.refl _), ?_⟩
  rw [fm_take hi]
  refine lc_turnF p.1 p.2 ?_ ht hv
  have h2 := fm_le (xs.take i) sel
  rw [List.length_take] at h2
  omega
/-- .. over range(n) -/
theorem lcGR {n s : Nat} {vs : List Nat} (sel : Nat → Option V) (o : Own H0 H L) (hn : j = (n : Int)) (hz : n < 10000000) (hw : ∀ x, wipe ((wipe σ vs).set s (some x)) vs = wipe σ vs)
    (ht : ∀ (i : Nat) (p : Addr) (zs : List V) (H' : Hp) (Q : Bool → Hp → Prop), i < n → Own H0 H' ((p, .lst zs) :: L) → Stp H H' → (∀ H2, Same H' H2 → Q (sel i).isSome H2) → tt ((wipe σ vs).set s (some (.int (i : Int)))) H' Q)
    (he : ∀ (i : Nat) (y : V) (p : Addr) (zs : List V) (H' : Hp) (Q : VK), i < n → sel i = some y → Own H0 H' ((p, .lst zs) :: L) → Stp H H' → RetV H' Q y → te ((wipe σ vs).set s (some (.int (i : Int)))) H' Q)
    (k : ∀ p H', Stp H H' → Own H0 H' ((p, .lst ((List.range n).filterMap sel)) :: L) → Q (.ref p) H') :
    ∃ k : Int, [V.int j] = [.int k] ∧ -(2 ^ 62) ≤ k ∧ k < 2 ^ 62 ∧ RLc (Itr 0 k.toNat) (gName s) tt te vs σ H Q := by
  refine ⟨j, rfl, by omega, by omega, fun P hP => ?_⟩
  have e : j.toNat = n := by omega
  rw [e]
  refine lc_range (lo := 0) (n := n) (fun i H' => Own H0 H' ((P, .lst ((List.range i).filterMap sel)) :: L) ∧ Stp H H') ⟨o.new hP, .of (same_new hP)⟩ (fun i H' hi p => ?_) (fun H' p => k P H' p.2 p.1)
  have e0 : (0 : Int) + (i : Int) = (i : Int) := Int.zero_add _
  rw [e0]
  refine ⟨hw _, ?_⟩
  have e1 : (List.range (i + 1)).filterMap sel = (List.range i).filterMap sel ++ (sel i).toList := by
    rw [List.range_succ, List.filterMap_append]
    congr 1
  rw [e1]
  refine lc_turnF p.1 p.2 ?_ (fun Q q => ht i P _ H' Q hi p.1 p.2 q) (fun y H2 hy s2 Q q => he i y P _ H2 Q hi hy (p.1.mono s2) (p.2.trans (.of s2)) q)
  have h2 := fm_le (List.range i) sel
  rw [List.length_range] at h2
  omega
end
/-- ints chosen and mapped -/
def selI (p : Int → Bool) (f : Int → V) : V → Option V
  | .int x => if p x then some (f x) else none
  | _ => none
theorem fm_ints (p : Int → Bool) (f : Int → V) : ∀ ns : List Int, (ns.map V.int).filterMap (selI p f) = (ns.filter p).map f
  | [] => rfl
  | n :: ns => by
    show List.filterMap (selI p f) (V.int n :: ns.map V.int) = _
    have e : selI p f (V.int n) = if p n then some (f n) else none := rfl
    rw [List.filterMap_cons, List.filter_cons, fm_ints p f ns, e]
    cases p n <;> rfl
section
variable {σ : L2.St} {H H0 : Hp} {Q : VK} {te : TE} {tt : TT} {K : PySem.W.Frag} {L : List (Addr × HO)}
theorem lcLIF {a : Addr} {ns : List Int} {s : Nat} {vs : List Nat} (p : Int → Bool) (f : Int → V) (o : Own H0 H L) (h : ∀ H' p zs, Own H0 H' ((p, .lst zs) :: L) → SqL K H' a (ns.map V.int)) (h1 : SqL K H a (ns.map V.int)) (hz : ns.length < 10000000) (hw : ∀ x, wipe ((wipe σ vs).set s (some x)) vs = wipe σ vs)
    (ht : ∀ (x : Int) (q : Addr) (zs : List V) (H' : Hp) (Q : Bool → Hp → Prop), x ∈ ns → Own H0 H' ((q, .lst zs) :: L) → (∀ H2, Same H' H2 → Q (p x) H2) → tt ((wipe σ vs).set s (some (.int x))) H' Q)
    (he : ∀ (x : Int) (q : Addr) (zs : List V) (H' : Hp) (Q : VK), x ∈ ns → p x = true → Own H0 H' ((q, .lst zs) :: L) → RetV H' Q (f x) → te ((wipe σ vs).set s (some (.int x))) H' Q)
    (k : ∀ q H', Own H0 H' ((q, .lst ((ns.filter p).map f)) :: L) → Q (.ref q) H') :
    ∃ a', V.ref a = .ref a' ∧ (∃ xs, SqL K H a' xs) ∧ RLc (Itl K a') (gName s) tt te vs σ H Q := by
  refine lcGL (selI p f) o h h1 (by rw [List.length_map]; exact hz) (fun i v q zs H' R hi o' _ r => ?_) (fun q H' _ o' => k q H' (by rw [fm_ints] at o'; exact o'))
  rw [List.getElem?_map] at hi
  cases e : ns[i]? with
  | none => rw [e] at hi; cases hi
  | some x =>
    rw [e] at hi
    cases hi
    have hx := List.mem_of_getElem? e
    refine r _ (fun _ _ => hw _) (fun Q qq => ht x q zs H' Q hx o' fun H2 s2 => ?_) fun y H2 hy s2 Q qq => ?_
    · have z := qq H2 s2
      have e2 : (selI p f (V.int x)).isSome = p x := by show (if p x then some (f x) else none).isSome = p x; cases p x <;> rfl
      rw [e2] at z
      exact z
    · have hy2 : (if p x then some (f x) else none) = some y := hy
      cases hp : p x with
      | false => rw [hp] at hy2; cases hy2
      | true =>
        rw [hp] at hy2
        cases hy2
        exact he x q zs H2 Q hx hp (o'.mono s2) qq
theorem lcTIF {a : Addr} {ns : List Int} {s : Nat} {vs : List Nat} (p : Int → Bool) (f : Int → V) (o : Own H0 H L) (h : ∀ H' p zs, Own H0 H' ((p, .lst zs) :: L) → SqT K H' a (ns.map V.int)) (h1 : SqT K H a (ns.map V.int)) (hz : ns.length < 10000000) (hw : ∀ x, wipe ((wipe σ vs).set s (some x)) vs = wipe σ vs)
    (ht : ∀ (x : Int) (q : Addr) (zs : List V) (H' : Hp) (Q : Bool → Hp → Prop), x ∈ ns → Own H0 H' ((q, .lst zs) :: L) → (∀ H2, Same H' H2 → Q (p x) H2) → tt ((wipe σ vs).set s (some (.int x))) H' Q)
    (he : ∀ (x : Int) (q : Addr) (zs : List V) (H' : Hp) (Q : VK), x ∈ ns → p x = true → Own H0 H' ((q, .lst zs) :: L) → RetV H' Q (f x) → te ((wipe σ vs).set s (some (.int x))) H' Q)
    (k : ∀ q H', Own H0 H' ((q, .lst ((ns.filter p).map f)) :: L) → Q (.ref q) H') :
    ∃ a', V.ref a = .ref a' ∧ (∃ xs, SqT K H a' xs) ∧ RLc (Itt K a') (gName s) tt te vs σ H Q := by
  refine lcGT (selI p f) o h h1 (by rw [List.length_map]; exact hz) (fun i v q zs H' R hi o' _ r => ?_) (fun q H' _ o' => k q H' (by rw [fm_ints] at o'; exact o'))
  rw [List.getElem?_map] at hi
  cases e : ns[i]? with
  | none => rw [e] at hi; cases hi
  | some x =>
    rw [e] at hi
    cases hi
    have hx := List.mem_of_getElem? e
    refine r _ (fun _ _ => hw _) (fun Q qq => ht x q zs H' Q hx o' fun H2 s2 => ?_) fun y H2 hy s2 Q qq => ?_
    · have z := qq H2 s2
      have e2 : (selI p f (V.int x)).isSome = p x := by show (if p x then some (f x) else none).isSome = p x; cases p x <;> rfl
      rw [e2] at z
      exact z
    · have hy2 : (if p x then some (f x) else none) = some y := hy
      cases hp : p x with
      | false => rw [hp] at hy2; cases hy2
      | true =>
        rw [hp] at hy2
        cases hy2
        exact he x q zs H2 Q hx hp (o'.mono s2) qq
/-- without a test -/
theorem lcTIV {a : Addr} {ns : List Int} {s : Nat} {vs : List Nat} (f : Int → V) (o : Own H0 H L) (h : ∀ H' p zs, Own H0 H' ((p, .lst zs) :: L) → SqT K H' a (ns.map V.int)) (h1 : SqT K H a (ns.map V.int)) (hz : ns.length < 10000000) (hw : ∀ x, wipe ((wipe σ vs).set s (some x)) vs = wipe σ vs)
    (he : ∀ (x : Int) (q : Addr) (zs : List V) (H' : Hp) (Q : VK), x ∈ ns → Own H0 H' ((q, .lst zs) :: L) → RetV H' Q (f x) → te ((wipe σ vs).set s (some (.int x))) H' Q)
    (k : ∀ q H', Own H0 H' ((q, .lst (ns.map f)) :: L) → Q (.ref q) H') :
    ∃ a', V.ref a = .ref a' ∧ (∃ xs, SqT K H a' xs) ∧ RLc (Itt K a') (gName s) tYes te vs σ H Q :=
  lcTIF (fun _ => true) f o h h1 hz hw (fun x q zs H' Q _ _ r => r H' (Same.refl _)) (fun x q zs H' Q hx _ o' r => he x q zs H' Q hx o' r) (fun q H' o' => k q H' (by rw [List.filter_eq_self.mpr (fun _ _ => rfl)] at o'; exact o'))
end

/-! ### constants reckoned, chains, all, any, bools -/
theorem pe_powC {X : Cx} {a b c : Int} {j1 j2 : Nat} {p1 p2 pos : Pos} (hc : CPow a b) (h : a ^ b.toNat = c) : PE X (.BinOp (.Constant (.int a) j1 p1) .Pow (.Constant (.int b) j2 p2) pos) (tC (.int c)) :=
  ⟨fun pins s σ H Q I h0 => (pe_op op_pow pe_int pe_int).run pins s σ H Q I (show rI CPow (fun i j => .int (i ^ j.toNat)) (.int a) (.int b) H Q from ⟨a, b, rfl, rfl, hc, by show Q (.int (a ^ b.toNat)) H; rw [h]; exact h0⟩)⟩
section
variable {σ : L2.St} {H : Hp} {Q : VK} {ta tb tc : TE} {K : PySem.W.Frag} {i j k : Int}
theorem r_chain {r r' : R2} (q : ta σ H fun x H1 => tb σ H1 fun y H2 => r x y H2 fun z H3 => RBl z H3 fun k H3 => RIf k (tc σ H3 fun w' H4 => r' y w' H4 Q) (Q (.bl false) H3)) : tChain r r' ta tb tc σ H Q := q
theorem r_all {a : Addr} {bs : List Bool} (h : SqL K H a (bs.map V.bl)) (q : Q (.bl (bs.all id)) H) : rAll K [.ref a] H Q := ⟨a, bs, rfl, h, q⟩
theorem r_any {a : Addr} {bs : List Bool} (h : SqL K H a (bs.map V.bl)) (q : Q (.bl (bs.any id)) H) : rAny K [.ref a] H Q := ⟨a, bs, rfl, h, q⟩
theorem r_isB {a b : Bool} (q : Q (.bl (decide (a = b))) H) : rIsB (.bl a) (.bl b) H Q := ⟨a, b, rfl, rfl, q⟩
end

/-! ### items from the end -/
theorem at_neg {ns : List Int} {d : Nat} (h0 : 0 < d) (h1 : d ≤ ns.length) : atI (ns.map V.int) (-(d : Int)) = some (.int (gi ns ((ns.length : Int) - (d : Int)))) := by
  unfold atI ixN
  rw [List.length_map, if_neg (by omega), if_pos (by omega)]
  show (ns.map V.int)[(-(d : Int) + (ns.length : Int)).toNat]? = _
  rw [show (-(d : Int) + (ns.length : Int)).toNat = ns.length - d by omega, List.getElem?_map, List.getElem?_eq_getElem (show ns.length - d < ns.length by omega)]
  unfold gi
  rw [show ((ns.length : Int) - (d : Int)).toNat = ns.length - d by omega, List.getD_eq_getElem?_getD, List.getElem?_eq_getElem (show ns.length - d < ns.length by omega)]
  rfl
theorem ix_neg {n d : Nat} (h0 : 0 < d) (h1 : d ≤ n) : ixN n (-(d : Int)) = some (n - d) := by
  unfold ixN
  rw [if_neg (by omega), if_pos (by omega)]
  congr 1
  omega
theorem fm_filter {α β : Type} (p : α → Bool) (f : α → β) : ∀ l : List α, l.filterMap (fun k => if p k then some (f k) else none) = (l.filter p).map f
  | [] => rfl
  | x :: l => by
    rw [List.filterMap_cons, List.filter_cons, fm_filter p f l]
    cases p x <;> rfl
/-! ### lists of ints cut and glued -/
theorem gi_nat {ns : List Int} {k : Nat} (h : k < ns.length) : gi ns (k : Int) = ns[k] := by
  unfold gi
  rw [List.getD_eq_getElem?_getD, show ((k : Int)).toNat = k from rfl, List.getElem?_eq_getElem h]
  rfl
theorem take_drop_sum {ns : List Int} {k : Nat} {z : Int} (h : k < ns.length) : (ns.take k ++ [z] ++ ns.drop (k + 1)).sum = ns.sum - gi ns k + z := by
  have e : ns.sum = (ns.take k ++ [ns[k]] ++ ns.drop (k + 1)).sum := by
    congr 1
    rw [List.append_assoc, List.singleton_append, List.getElem_cons_drop, List.take_append_drop]
  rw [e, gi_nat h]
  simp only [List.sum_append, List.sum_cons, List.sum_nil]
  omega
theorem map_cut3 {ns : List Int} {k : Nat} {z : Int} : ((ns.map V.int).take k ++ [V.int z]) ++ (ns.map V.int).drop (k + 1) = (ns.take k ++ [z] ++ ns.drop (k + 1)).map V.int := by
  rw [List.map_append, List.map_append, List.map_take, List.map_drop]
  rfl
theorem len_cut3 {ns : List Int} {k : Nat} {z : Int} (h : k < ns.length) : (ns.take k ++ [z] ++ ns.drop (k + 1)).length = ns.length := by
  rw [List.length_append, List.length_append, List.length_take, List.length_drop]
  simp
  omega

/-! ### a value or an answer known by a word only -/
def tCutE (t : TE) : TE := fun σ H Q => ∃ R : VK, t σ H R ∧ ∀ v H', R v H' → Q v H'
def tCutT (t : TT) : TT := fun σ H Q => ∃ R : Bool → Hp → Prop, t σ H R ∧ ∀ b H', R b H' → Q b H'
theorem pe_cutE {X : Cx} {e : Expr} {t : TE} (he : PE X e t) : PE X e (tCutE t) := ⟨fun pins s σ H Q I ⟨R, h, k⟩ => thn (he.run pins s σ H R I h) fun _ _ ⟨v, H', I', r, q⟩ => ⟨v, H', I', r, k v H' q⟩⟩
theorem pt_cutT {X : Cx} {e : Expr} {t : TT} (he : PT X e t) : PT X e (tCutT t) := ⟨fun pins s σ H Q I ⟨R, h, k⟩ => thn (he.run pins s σ H R I h) fun b _ ⟨H', I', q⟩ => ⟨H', I', k b H' q⟩⟩
theorem r_cutE {σ : L2.St} {H : Hp} {Q : VK} {t : TE} (R : VK) (h : t σ H R) (k : ∀ v H', R v H' → Q v H') : tCutE t σ H Q := ⟨R, h, k⟩
theorem r_cutT {σ : L2.St} {H : Hp} {Q : Bool → Hp → Prop} {t : TT} (R : Bool → Hp → Prop) (h : t σ H R) (k : ∀ b H', R b H' → Q b H') : tCutT t σ H Q := ⟨R, h, k⟩
/-- the value is an int of which P holds; the heap stands -/
def IntR (H : Hp) (P : Int → Prop) : VK := fun v H' => H' = H ∧ ∃ m, v = .int m ∧ P m
theorem r_cutI {σ : L2.St} {H : Hp} {Q : VK} {t : TE} (P : Int → Prop) (h : t σ H (IntR H P)) (k : ∀ m, P m → Q (.int m) H) : tCutE t σ H Q := ⟨_, h, fun v H' ⟨e, m, e2, p⟩ => by subst e; subst e2; exact k m p⟩
/-- the answer is that of p; the heap stands -/
theorem r_cutB {σ : L2.St} {H : Hp} {Q : Bool → Hp → Prop} {t : TT} (c : Bool) (h : t σ H fun b H' => b = c ∧ H' = H) (k : Q c H) : tCutT t σ H Q := ⟨_, h, fun v H' ⟨e, e2⟩ => by subst e; subst e2; exact k⟩
/-- the value is v; the heap may have grown -/
theorem r_cutO {H0 : Hp} {σ : L2.St} {H : Hp} {Q : VK} {t : TE} (v : V) (L : List (Addr × HO)) (h : t σ H fun v' H' => v' = v ∧ Own H0 H' L) (k : ∀ H', Own H0 H' L → Q v H') : tCutE t σ H Q := ⟨_, h, fun v' H' ⟨e, o⟩ => by subst e; exact k H' o⟩
theorem rif_p {p : Prop} [Decidable p] {A B : Prop} (h1 : p → A) (h2 : ¬ p → B) : RIf (decide p) A B := rif h1 h2

/-! ### data of tuples: it stands while lists change -/
mutual
inductive Tp (K : PySem.W.Frag) (H : Hp) : V → PyData → Prop
  | non : Tp K H .non .none
  | bl (b : Bool) : Tp K H (.bl b) (.bool b)
  | int (i : Int) : Tp K H (.int i) (.int i)
  | str (x : Str) : Tp K H (.str x) (.str x)
  | tup {a : Addr} {xs : List V} {ds : List PyData} : SqT K H a xs → TpAll K H xs ds → Tp K H (.ref a) (.tuple ds)
inductive TpAll (K : PySem.W.Frag) (H : Hp) : List V → List PyData → Prop
  | nil : TpAll K H [] []
  | cons {v : V} {vs : List V} {d : PyData} {ds : List PyData} : Tp K H v d → TpAll K H vs ds → TpAll K H (v :: vs) (d :: ds)
end
section
variable {K : PySem.W.Frag} {H H' H0 : Hp} {Q : VK} {L : List (Addr × HO)}
mutual
theorem Tp.stp (e : Stp H H') : ∀ (d : PyData) (v : V), Tp K H v d → Tp K H' v d
  | .none, _, h => by cases h; exact .non
  | .bool b, _, h => by cases h; exact .bl b
  | .int i, _, h => by cases h; exact .int i
  | .str x, _, h => by cases h; exact .str x
  | .tuple ds, _, h => by
    cases h with
    | tup hs ha => exact .tup (e.sq hs) (TpAll.stp e ds _ ha)
  | .list _, _, h => by cases h
  | .dict _, _, h => by cases h
theorem TpAll.stp (e : Stp H H') : ∀ (ds : List PyData) (vs : List V), TpAll K H vs ds → TpAll K H' vs ds
  | [], _, h => by cases h; exact .nil
  | d :: ds, _, h => by
    cases h with
    | cons h1 h2 => exact .cons (Tp.stp e d _ h1) (TpAll.stp e ds _ h2)
end
mutual
theorem Tp.dp : ∀ (d : PyData) (v : V), Tp K H v d → Dp K H v d
  | .none, _, h => by cases h; exact .non
  | .bool b, _, h => by cases h; exact .bl b
  | .int i, _, h => by cases h; exact .int i
  | .str x, _, h => by cases h; exact .str x
  | .tuple ds, _, h => by
    cases h with
    | tup hs ha => exact .tup hs (TpAll.dp ds _ ha)
  | .list _, _, h => by cases h
  | .dict _, _, h => by cases h
theorem TpAll.dp : ∀ (ds : List PyData) (vs : List V), TpAll K H vs ds → DpAll K H vs ds
  | [], _, h => by cases h; exact .nil
  | d :: ds, _, h => by
    cases h with
    | cons h1 h2 => exact .cons (Tp.dp d _ h1) (TpAll.dp ds _ h2)
end
theorem Tp.up {v : V} {d : PyData} (h : Tp K H v d) (e : Stp H H') : Tp K H' v d := Tp.stp e d v h
theorem TpAll.up {vs : List V} {ds : List PyData} (h : TpAll K H vs ds) (e : Stp H H') : TpAll K H' vs ds := TpAll.stp e ds vs h
theorem TpAll.len : ∀ {vs : List V} {ds : List PyData}, TpAll K H vs ds → vs.length = ds.length
  | _, _, .nil => rfl
  | _, _, .cons _ h => by rw [List.length_cons, List.length_cons, TpAll.len h]
theorem TpAll.get : ∀ {vs : List V} {ds : List PyData} {i : Nat} {d : PyData}, TpAll K H vs ds → ds[i]? = some d → ∃ v, vs[i]? = some v ∧ Tp K H v d
  | _, _, _, _, .nil, h => by simp at h
  | _, _, 0, _, .cons a _, h => by simp at h; subst h; exact ⟨_, rfl, a⟩
  | _, _, i + 1, _, .cons _ t, h => by
    obtain ⟨v, h1, h2⟩ := TpAll.get (i := i) t (by simpa using h)
    exact ⟨v, by simpa using h1, h2⟩
theorem TpAll.getV : ∀ {vs : List V} {ds : List PyData} {i : Nat} {v : V}, TpAll K H vs ds → vs[i]? = some v → ∃ d, ds[i]? = some d ∧ Tp K H v d
  | _, _, _, _, .nil, h => by simp at h
  | _, _, 0, _, .cons a _, h => by simp at h; subst h; exact ⟨_, rfl, a⟩
  | _, _, i + 1, _, .cons _ t, h => by
    obtain ⟨v, h1, h2⟩ := TpAll.getV (i := i) t (by simpa using h)
    exact ⟨v, by simpa using h1, h2⟩
theorem TpAll.app : ∀ {vs ws : List V} {ds es : List PyData}, TpAll K H vs ds → TpAll K H ws es → TpAll K H (vs ++ ws) (ds ++ es)
  | _, _, _, _, .nil, h => h
  | _, _, _, _, .cons a t, h => .cons a (TpAll.app t h)
theorem TpAll.snoc {vs : List V} {ds : List PyData} {v : V} {d : PyData} (h : TpAll K H vs ds) (t : Tp K H v d) : TpAll K H (vs ++ [v]) (ds ++ [d]) := h.app (.cons t .nil)
theorem TpAll.take : ∀ {vs : List V} {ds : List PyData} (n : Nat), TpAll K H vs ds → TpAll K H (vs.take n) (ds.take n)
  | _, _, _, .nil => by simp; exact .nil
  | _, _, 0, .cons _ _ => .nil
  | _, _, n + 1, .cons a t => .cons a (TpAll.take n t)
theorem TpAll.drop : ∀ {vs : List V} {ds : List PyData} (n : Nat), TpAll K H vs ds → TpAll K H (vs.drop n) (ds.drop n)
  | _, _, _, .nil => by simp; exact .nil
  | _, _, 0, .cons a t => .cons a t
  | _, _, n + 1, .cons _ t => TpAll.drop n t
theorem TpAll.ints : ∀ ns : List Int, TpAll K H (ns.map V.int) (ns.map PyData.int)
  | [] => .nil
  | n :: ns => .cons (.int n) (TpAll.ints ns)
theorem TpAll.ints_inv : ∀ {vs : List V} {ns : List Int}, TpAll K H vs (ns.map PyData.int) → vs = ns.map V.int
  | _, [], h => by cases h; rfl
  | _, n :: ns, h => by
    cases h with
    | cons a t => cases a; rw [TpAll.ints_inv t]; rfl
theorem Tp.inv {v : V} {ds : List PyData} (h : Tp K H v (.tuple ds)) : ∃ a xs, v = .ref a ∧ SqT K H a xs ∧ TpAll K H xs ds := by
  cases h with
  | tup hs ha => exact ⟨_, _, rfl, hs, ha⟩
theorem Tp.invI {v : V} {ns : List Int} (h : Tp K H v (.tuple (ns.map PyData.int))) : ∃ a, v = .ref a ∧ SqT K H a (ns.map V.int) := by
  obtain ⟨a, xs, rfl, hs, ha⟩ := h.inv
  rw [TpAll.ints_inv ha] at hs
  exact ⟨a, rfl, hs⟩
theorem Tp.intsT {a : Addr} {ns : List Int} (h : SqT K H a (ns.map V.int)) : Tp K H (.ref a) (.tuple (ns.map PyData.int)) := .tup h (TpAll.ints ns)
theorem Tp.int_inv {v : V} {n : Int} (h : Tp K H v (.int n)) : v = .int n := by cases h; rfl
theorem Tp.str_inv {v : V} {n : Str} (h : Tp K H v (.str n)) : v = .str n := by cases h; rfl
/-- t[i] of such a tuple -/
theorem r_ixTp {v : V} {ds : List PyData} {i : Nat} {d : PyData} (h : Tp K H v (.tuple ds)) (hd : ds[i]? = some d) (k : ∀ u, Tp K H u d → Q u H) : rIxT K v (.int (i : Int)) H Q := by
  obtain ⟨a, xs, rfl, hs, ha⟩ := h.inv
  obtain ⟨u, hu, t⟩ := ha.get hd
  exact r_ixT hs (atI_nat hu) (k u t)
theorem r_ixTpI {v : V} {ds : List PyData} {i : Nat} {n : Int} (h : Tp K H v (.tuple ds)) (hd : ds[i]? = some (.int n)) (q : Q (.int n) H) : rIxT K v (.int (i : Int)) H Q := r_ixTp h hd fun u t => by cases t; exact q
/-- a value of such data that a call hands back -/
def RetD (K : PySem.W.Frag) (H : Hp) (Q : VK) (d : PyData) : Prop := ∀ H' v, Same H H' → Tp K H' v d → Q v H'
theorem r_retD {v : PyData} (o : Own H0 H L) (k : ∀ u H', Same H H' → Own H0 H' L → Tp K H' u v → Q u H') : RetD K H Q v := fun H' u e t => k u H' e (o.mono e) t
theorem RetD.mk {v : V} {d : PyData} (q : RetD K H0 Q d) (o : Own H0 H L) (t : Tp K H v d) : Q v H := q H v o.ex t
/-! the rules that tell that tuples stand -/
theorem r_newLs {xs : List V} (o : Own H0 H L) (hz : xs.length ≤ 10000000) (k : ∀ p H', Stp H H' → Own H0 H' ((p, .lst xs) :: L) → Q (.ref p) H') : RNewL xs H Q := ⟨sz100 hz, fun p hp => k p _ (.of (same_new hp)) (o.new hp)⟩
theorem r_newTs {xs : List V} (o : Own H0 H L) (hz : xs.length ≤ 10000000) (k : ∀ p H', Stp H H' → Own H0 H' L → SqT K H' p xs → Q (.ref p) H') : RNewT xs H Q := ⟨sz100 hz, fun p hp => k p _ (.of (same_new hp)) (o.mono (same_new hp)) (SqT.of upd_same)⟩
theorem r_newTi {xs : List V} (ns : List Int) (e : xs = ns.map V.int) (o : Own H0 H L) (hz : ns.length ≤ 10000000) (k : ∀ p H', Stp H H' → Own H0 H' L → SqT K H' p (ns.map V.int) → Q (.ref p) H') : RNewT xs H Q := by
  subst e
  exact r_newTs o (by rw [List.length_map]; exact hz) k
theorem r_newTp {xs : List V} {ds : List PyData} (o : Own H0 H L) (ha : TpAll K H xs ds) (hz : xs.length ≤ 10000000) (k : ∀ p H', Stp H H' → Own H0 H' L → Tp K H' (.ref p) (.tuple ds) → Q (.ref p) H') : RNewT xs H Q :=
  r_newTs o hz fun p H' s o' h => k p H' s o' (.tup h (ha.up s))
theorem r_apps {l : Addr} {xs : List V} {y : V} (o : Own H0 H L) (n : Nat) (h : L[n]? = some (l, .lst xs)) (hz : xs.length < 10000000) (k : ∀ H', Stp H H' → Own H0 H' (L.set n (l, .lst (xs ++ [y]))) → Q .non H') : rAppend (.ref l) [y] H Q :=
  ⟨l, xs, y, rfl, rfl, o.at n h, sz_lt hz, k _ (Stp.set (o.at n h)) (o.set n h)⟩
theorem r_setLs {l : Addr} {xs : List V} {k : Nat} {i : Int} {v : V} {R : Hp → Prop} (o : Own H0 H L) (n : Nat) (h : L[n]? = some (l, .lst xs)) (hj : ixN xs.length i = some k) (q : ∀ H', Stp H H' → Own H0 H' (L.set n (l, .lst (xs.set k v))) → R H') : rSetL (.ref l) (.int i) v H R :=
  ⟨l, xs, i, k, rfl, rfl, o.at n h, hj, q _ (Stp.set (o.at n h)) (o.set n h)⟩
theorem r_tupLs {p : Addr} {xs : List V} (o : Own H0 H L) (h : SqL K H p xs) (k : ∀ l H', Stp H H' → Own H0 H' L → SqT K H' l xs → Q (.ref l) H') : rTupS K [.ref p] H Q :=
  ⟨p, xs, rfl, .inl ⟨h, fun l hl => k l _ (.of (same_new hl)) (o.mono (same_new hl)) (SqT.of upd_same)⟩⟩
theorem r_ret1s {u : HO} (o : Own H0 H L) (k : ∀ p H', Stp H H' → Own H0 H' ((p, u) :: L) → Q (.ref p) H') : RetO H Q u := fun H' p e f h => k p H' (.of e) (o.add e f h)
theorem r_slLs {a : Addr} {xs : List V} {lo hi : Option Int} (o : Own H0 H L) (h : SqL K H a xs) (k : ∀ p H', Stp H H' → Own H0 H' ((p, .lst (cutV xs lo hi)) :: L) → Q (.ref p) H') : rSlL K (.ref a) lo hi H Q := ⟨a, xs, rfl, h, fun p hp => k p _ (.of (same_new hp)) (o.new hp)⟩
theorem r_cats {a b : Addr} {xs ys : List V} (o : Own H0 H L) (ha : H a = some (.lst xs)) (hb : H b = some (.lst ys)) (hz : xs.length + ys.length ≤ 10000000) (k : ∀ p H', Stp H H' → Own H0 H' ((p, .lst (xs ++ ys)) :: L) → Q (.ref p) H') : rCat (.ref a) (.ref b) H Q :=
  ⟨a, b, xs, ys, rfl, rfl, ha, hb, sz100 hz, fun p hp => k p _ (.of (same_new hp)) (o.new hp)⟩
theorem r_lists {p : Addr} {xs : List V} (o : Own H0 H L) (h : SqL K H p xs) (k : ∀ l H', Stp H H' → Own H0 H' ((l, .lst xs) :: L) → Q (.ref l) H') : Evl.rListS K [.ref p] H Q := ⟨p, xs, rfl, .inl h, fun l hl => k l _ (.of (same_new hl)) (o.new hl)⟩
theorem r_listTs {p : Addr} {xs : List V} (o : Own H0 H L) (h : SqT K H p xs) (k : ∀ l H', Stp H H' → Own H0 H' ((l, .lst xs) :: L) → Q (.ref l) H') : Evl.rListS K [.ref p] H Q := ⟨p, xs, rfl, .inr h, fun l hl => k l _ (.of (same_new hl)) (o.new hl)⟩
theorem r_eqTp {v u : V} {d e : PyData} (h : Tp K H v d) (h2 : Tp K H u e) (s1 : SeqAt.shaped d = true) (s2 : SeqAt.shaped e = true) (q : Q (.bl (PyData.eqv d e)) H) : rEqD K v u H Q := ⟨d, e, h.dp, h2.dp, s1, s2, q⟩
end

theorem ty_sqT {K : PySem.W.Frag} {H : Hp} {a : Addr} {xs : List V} (h : SqT K H a xs) : TyX K H (.ref a) (.type "tuple") := by
  rcases h with (h | ⟨o, h⟩) | ⟨o, its, n, h1, h2, _⟩
  · exact .base (.tup h)
  · exact .fTuple h
  · exact .kTuple h1 h2
theorem ty_sqL {K : PySem.W.Frag} {H : Hp} {a : Addr} {xs : List V} (h : SqL K H a xs) : TyX K H (.ref a) (.type "list") := by
  rcases h with (h | ⟨o, h⟩) | ⟨o, its, n, h1, h2, _⟩
  · exact .base (.lst h)
  · exact .base (.frz h)
  · exact .kList h1 h2
/-! ### zip -/
section
variable {σ : L2.St} {H : Hp} {K : PySem.W.Frag} {tr : TA} {D : Ends} {ts : TS} {g : TG}
def RZipA (K : PySem.W.Frag) (vs : List V) (H1 : Hp) (R : It → Hp → Prop) : Prop := ∃ a b xs ys, vs = [.ref a, .ref b] ∧ ((SqL K H1 a xs ∧ SqL K H1 b ys ∧ R (Itz K a b) H1) ∨ (SqT K H1 a xs ∧ SqT K H1 b ys ∧ R (RZ.ItzT K a b) H1))
theorem r_zipA {R : It → Hp → Prop} (q : tr σ H fun vs H1 => RZipA K vs H1 R) : RZ.iZipA K tr σ H R := q
theorem forZT {a b : Addr} {xs ys : List V} (ha : SqT K H a xs) (hb : SqT K H b ys) (hl : xs.length = ys.length) (Pv : Nat → L2.St → Hp → Prop) (h0 : Pv 0 σ H) (hq : ∀ i σ H, Pv i σ H → SqT K H a xs ∧ SqT K H b ys)
    (hs : ∀ (i : Nat) (x y : V) (T : Addr) (σ : L2.St) (H : Hp), xs[i]? = some x → ys[i]? = some y → Pv i σ H → H T = none → g (.ref T) σ (upd H T (.tup [x, y])) fun σ2 H2 => ts { D with nx := Pv (i + 1), ct := Pv (i + 1), bk := D.nx } σ2 H2) (hd : ∀ σ H, Pv xs.length σ H → D.nx σ H) :
    RZipA K [.ref a, .ref b] H fun J H1 => RFor J g ts D σ H1 := ⟨a, b, xs, ys, rfl, .inr ⟨ha, hb, RZ.for_zipT hl Pv h0 hq hs hd⟩⟩
theorem forZL {a b : Addr} {xs ys : List V} (ha : SqL K H a xs) (hb : SqL K H b ys) (hl : xs.length = ys.length) (Pv : Nat → L2.St → Hp → Prop) (h0 : Pv 0 σ H) (hq : ∀ i σ H, Pv i σ H → SqL K H a xs ∧ SqL K H b ys)
    (hs : ∀ (i : Nat) (x y : V) (T : Addr) (σ : L2.St) (H : Hp), xs[i]? = some x → ys[i]? = some y → Pv i σ H → H T = none → g (.ref T) σ (upd H T (.tup [x, y])) fun σ2 H2 => ts { D with nx := Pv (i + 1), ct := Pv (i + 1), bk := D.nx } σ2 H2) (hd : ∀ σ H, Pv xs.length σ H → D.nx σ H) :
    RZipA K [.ref a, .ref b] H fun J H1 => RFor J g ts D σ H1 := ⟨a, b, xs, ys, rfl, .inl ⟨ha, hb, RZ.for_zipL hl Pv h0 hq hs hd⟩⟩
/-- x, y = t: the target of a walk over pairs -/
theorem r_gTup2 {a : Addr} {x y : V} {i j : Nat} {R : L2.St → Hp → Prop} (h : SqT K H a [x, y]) (q : R ((σ.set i (some x)).set j (some y)) H) : gTup K 2 (gCons (gName i) (gCons (gName j) gNil)) (.ref a) σ H R :=
  ⟨a, [x, y], rfl, h, rfl, x, [y], rfl, y, [], rfl, rfl, q⟩
theorem r_gTup3 {a : Addr} {x y z : V} {i j k : Nat} {R : L2.St → Hp → Prop} (h : SqT K H a [x, y, z]) (q : R (((σ.set i (some x)).set j (some y)).set k (some z)) H) : gTup K 3 (gCons (gName i) (gCons (gName j) (gCons (gName k) gNil))) (.ref a) σ H R :=
  ⟨a, [x, y, z], rfl, h, rfl, x, [y, z], rfl, y, [z], rfl, z, [], rfl, rfl, q⟩
def rMax2 : List V → Hp → VK → Prop := fun xs H Q => ∃ i j, xs = [.int i, .int j] ∧ Q (.int (if j > i then j else i)) H
def rMin2 : List V → Hp → VK → Prop := fun xs H Q => ∃ i j, xs = [.int i, .int j] ∧ Q (.int (if j < i then j else i)) H
theorem r_max2 {i j : Int} {Q : VK} (q : Q (.int (if j > i then j else i)) H) : rMax2 [.int i, .int j] H Q := ⟨i, j, rfl, q⟩
theorem r_min2 {i j : Int} {Q : VK} (q : Q (.int (if j < i then j else i)) H) : rMin2 [.int i, .int j] H Q := ⟨i, j, rfl, q⟩
def rIsNon : R2 := fun x y H Q => y = .non ∧ Q (.bl (decide (x = .non))) H
def rNotNon : R2 := fun x y H Q => y = .non ∧ Q (.bl (!decide (x = .non))) H
theorem r_isNonN {Q : VK} (q : Q (.bl true) H) : rIsNon .non .non H Q := ⟨rfl, by rw [decide_eq_true rfl]; exact q⟩
theorem r_isNonR {a : Addr} {Q : VK} (q : Q (.bl false) H) : rIsNon (.ref a) .non H Q := ⟨rfl, by rw [decide_eq_false (by simp)]; exact q⟩
theorem r_isNonI {a : Int} {Q : VK} (q : Q (.bl false) H) : rIsNon (.int a) .non H Q := ⟨rfl, by rw [decide_eq_false (by simp)]; exact q⟩
theorem r_notNonN {Q : VK} (q : Q (.bl false) H) : rNotNon .non .non H Q := ⟨rfl, by rw [decide_eq_true rfl]; exact q⟩
theorem r_notNonR {a : Addr} {Q : VK} (q : Q (.bl true) H) : rNotNon (.ref a) .non H Q := ⟨rfl, by rw [decide_eq_false (by simp)]; exact q⟩
theorem r_notNonI {a : Int} {Q : VK} (q : Q (.bl true) H) : rNotNon (.int a) .non H Q := ⟨rfl, by rw [decide_eq_false (by simp)]; exact q⟩
end

/-! ### texts -/
def rAddStr : R2 := fun x y H Q => ∃ i j, x = .str i ∧ y = .str j ∧ i.length + j.length ≤ sizeLine ∧ Q (.str (i ++ j)) H
def rIntS : List V → Hp → VK → Prop := fun xs H Q => ∃ a n, xs = [.str a] ∧ PySem.intText? a = some n ∧ a.length ≤ 640 ∧ Q (.int n) H
def rLenStr : List V → Hp → VK → Prop := fun xs H Q => ∃ z, xs = [.str z] ∧ z.length ≤ sizeLine ∧ Q (.int z.length) H
section
variable {σ : L2.St} {H H0 : Hp} {Q : VK} {K : PySem.W.Frag} {L : List (Addr × HO)} {te : TE} {tt : TT}
theorem r_addS {a b : Str} (hz : a.length + b.length ≤ 10000000) (q : Q (.str (a ++ b)) H) : rAddStr (.str a) (.str b) H Q := ⟨a, b, rfl, rfl, sz100 hz, q⟩
theorem r_lenS {a : Str} (hz : a.length ≤ 10000000) (q : Q (.int a.length) H) : rLenStr [.str a] H Q := ⟨a, rfl, sz100 hz, q⟩
theorem r_slS {a : Str} {lo hi : Option Int} (hz : a.length ≤ 10000000) (q : Q (.str (cutS a lo hi)) H) : rSlS (.str a) lo hi H Q := ⟨a, rfl, sz100 hz, q⟩
theorem cutS_len (a : Str) (lo hi : Option Int) : (cutS a lo hi).length ≤ a.length := by
  unfold cutS
  show (List.toArray _).size ≤ a.cps.size
  rw [List.size_toArray, List.length_take, List.length_drop, Array.length_toList]
  omega
theorem addS_len (a b : Str) : (a ++ b).length = a.length + b.length := by
  show (a.cps ++ b.cps).size = a.cps.size + b.cps.size
  exact Array.size_append
theorem r_in {neg : Bool} {x : V} {p : Addr} {xs : List V} (h : SqL K H p xs ∨ SqT K H p xs) (hx : flatV x = true) (ha : xs.all flatV = true) (q : Q (.bl (if neg then !inV x xs else inV x xs)) H) : rIn K neg x (.ref p) H Q := ⟨p, xs, rfl, h, hx, ha, q⟩
theorem r_inY {x : V} {p : Addr} {xs : List V} (h : SqL K H p xs ∨ SqT K H p xs) (hx : flatV x = true) (ha : xs.all flatV = true) (q : Q (.bl (inV x xs)) H) : rIn K false x (.ref p) H Q := r_in h hx ha q
theorem r_inN {x : V} {p : Addr} {xs : List V} (h : SqL K H p xs ∨ SqT K H p xs) (hx : flatV x = true) (ha : xs.all flatV = true) (q : Q (.bl (!inV x xs)) H) : rIn K true x (.ref p) H Q := r_in h hx ha q
theorem r_ixS {p : Addr} {zs : List Str} {i : Int} (h : SqL K H p (zs.map V.str)) (h0 : 0 ≤ i) (h1 : i < zs.length) (q : ∀ z, z ∈ zs → zs[i.toNat]? = some z → Q (.str z) H) : rIxL K (.ref p) (.int i) H Q := by
  have h2 : i.toNat < zs.length := by omega
  have e := List.getElem?_eq_getElem h2
  exact r_ixL h (at_map h0 e) (q _ (List.getElem_mem h2) e)
theorem flat_strs (zs : List Str) : (zs.map V.str).all flatV = true := by
  rw [List.all_map, List.all_eq_true]
  intro _ _
  rfl
/-- [e for x in t], over a tuple, by the item -/
theorem lcTV {a : Addr} {xs : List V} {s : Nat} {vs : List Nat} (f : V → V) (o : Own H0 H L) (h : ∀ H' p zs, Own H0 H' ((p, .lst zs) :: L) → SqT K H' a xs) (h1 : SqT K H a xs) (hz : xs.length < 10000000) (hw : ∀ x, wipe ((wipe σ vs).set s (some x)) vs = wipe σ vs)
    (he : ∀ (i : Nat) (x : V) (q : Addr) (zs : List V) (H' : Hp) (Q : VK), xs[i]? = some x → Own H0 H' ((q, .lst zs) :: L) → Stp H H' → RetV H' Q (f x) → te ((wipe σ vs).set s (some x)) H' Q)
    (k : ∀ q H', Stp H H' → Own H0 H' ((q, .lst (xs.map f)) :: L) → Q (.ref q) H') :
    ∃ a', V.ref a = .ref a' ∧ (∃ xs, SqT K H a' xs) ∧ RLc (Itt K a') (gName s) tYes te vs σ H Q :=
  lcGT (fun v => some (f v)) o h h1 hz (fun i x p zs H' R hi o' s' r => r _ (fun _ _ => hw _) (fun Q q => q H' (Same.refl _)) fun y H2 hy s2 Q q => by
    cases hy
    exact he i x p zs H2 Q hi (o'.mono s2) (s'.trans (.of s2)) q) (fun q H' s' o' => k q H' s' (by rw [show (fun v => some (f v)) = some ∘ f from rfl, List.filterMap_eq_map] at o'; exact o'))
theorem lcLV {a : Addr} {xs : List V} {s : Nat} {vs : List Nat} (f : V → V) (o : Own H0 H L) (h : ∀ H' p zs, Own H0 H' ((p, .lst zs) :: L) → SqL K H' a xs) (h1 : SqL K H a xs) (hz : xs.length < 10000000) (hw : ∀ x, wipe ((wipe σ vs).set s (some x)) vs = wipe σ vs)
    (he : ∀ (i : Nat) (x : V) (q : Addr) (zs : List V) (H' : Hp) (Q : VK), xs[i]? = some x → Own H0 H' ((q, .lst zs) :: L) → Stp H H' → RetV H' Q (f x) → te ((wipe σ vs).set s (some x)) H' Q)
    (k : ∀ q H', Stp H H' → Own H0 H' ((q, .lst (xs.map f)) :: L) → Q (.ref q) H') :
    ∃ a', V.ref a = .ref a' ∧ (∃ xs, SqL K H a' xs) ∧ RLc (Itl K a') (gName s) tYes te vs σ H Q :=
  lcGL (fun v => some (f v)) o h h1 hz (fun i x p zs H' R hi o' s' r => r _ (fun _ _ => hw _) (fun Q q => q H' (Same.refl _)) fun y H2 hy s2 Q q => by
    cases hy
    exact he i x p zs H2 Q hi (o'.mono s2) (s'.trans (.of s2)) q) (fun q H' s' o' => k q H' s' (by rw [show (fun v => some (f v)) = some ∘ f from rfl, List.filterMap_eq_map] at o'; exact o'))
/-- .. with a test, over a list -/
theorem lcLVF {a : Addr} {xs : List V} {s : Nat} {vs : List Nat} (sel : V → Option V) (o : Own H0 H L) (h : ∀ H' p zs, Own H0 H' ((p, .lst zs) :: L) → SqL K H' a xs) (h1 : SqL K H a xs) (hz : xs.length < 10000000) (hw : ∀ x, wipe ((wipe σ vs).set s (some x)) vs = wipe σ vs)
    (ht : ∀ (i : Nat) (x : V) (q : Addr) (zs : List V) (H' : Hp) (Q : Bool → Hp → Prop), xs[i]? = some x → Own H0 H' ((q, .lst zs) :: L) → Stp H H' → (∀ H2, Same H' H2 → Q (sel x).isSome H2) → tt ((wipe σ vs).set s (some x)) H' Q)
    (he : ∀ (i : Nat) (x y : V) (q : Addr) (zs : List V) (H' : Hp) (Q : VK), xs[i]? = some x → sel x = some y → Own H0 H' ((q, .lst zs) :: L) → Stp H H' → RetV H' Q y → te ((wipe σ vs).set s (some x)) H' Q)
    (k : ∀ q H', Stp H H' → Own H0 H' ((q, .lst (xs.filterMap sel)) :: L) → Q (.ref q) H') :
    ∃ a', V.ref a = .ref a' ∧ (∃ xs, SqL K H a' xs) ∧ RLc (Itl K a') (gName s) tt te vs σ H Q :=
  lcGL sel o h h1 hz (fun i x p zs H' R hi o' s' r => r _ (fun _ _ => hw _) (fun Q q => ht i x p zs H' Q hi o' s' q) fun y H2 hy s2 Q q => he i x y p zs H2 Q hi hy (o'.mono s2) (s'.trans (.of s2)) q) k
end
/-- a written tuple of the module -/
theorem sqT_top {K : PySem.W.Frag} {p : Addr} {od : Option Addr} {its : Array Value} {n : Nat} {sl : Array (Option Value)} {xs : List V} (l : K.lookup p = some ⟨.type "tuple", od, .seq its n, sl⟩) (hz : its.size ≤ sizeLine) (hv : Vals xs its.toList) : ∀ H : Hp, SqT K H p xs :=
  fun _ => .inr ⟨_, its, n, l, rfl, rfl, hz, hv⟩

/-! ### [e for p in range(n) for q in range(lo, hi, c)] -/
def RLc2 (J : It) (g : TG) (tt : TT) (wi1 : TI) (g1 : TG) (tt1 : TT) (te : TE) (vs vs1 : List Nat) (σ : L2.St) (H1 : Hp) (Q : VK) : Prop := ∀ D, H1 D = none → ∃ W : Nat → Nat → Hp → Prop, (∃ m, W 0 m (upd H1 D (.lst []))) ∧ ∀ i m H, W i m H →
  (J.stop i H ∧ Q (.ref D) H) ∨ (J.go i H ∧ ∃ Nx : Hp → Prop, (∀ H', Nx H' → ∃ m', m' < m ∧ W (i + 1) m' H') ∧ ∀ x H', J.yld i H x H' → g x (wipe σ vs) H' fun σ2 H2 => wipe σ2 vs = wipe σ vs ∧ tt σ2 H2 fun b H3 =>
    if b = true then wi1 σ2 H3 fun J1 H4 => ∃ W1 : Nat → Nat → Hp → Prop, (∃ m, W1 0 m H4) ∧ ∀ j k H, W1 j k H →
      (J1.stop j H ∧ Nx H) ∨ (J1.go j H ∧ ∃ Nx1 : Hp → Prop, (∀ H', Nx1 H' → ∃ k', k' < k ∧ W1 (j + 1) k' H') ∧ ∀ x H', J1.yld j H x H' → g1 x (wipe σ2 vs1) H' fun σ3 H5 => wipe σ3 vs1 = wipe σ2 vs1 ∧ tt1 σ3 H5 fun b H6 =>
        if b = true then te σ3 H6 fun y H7 => ∃ acc, H7 D = some (.lst acc) ∧ acc.length < sizeLine ∧ Nx1 (upd H7 D (.lst (acc ++ [y]))) else Nx1 H6)
    else Nx H3)
theorem r_lc2 {σ : L2.St} {H : Hp} {Q : VK} {wi wi1 : TI} {g g1 : TG} {tt tt1 : TT} {te : TE} {vs vs1 : List Nat} (q : wi σ H fun J H1 => RLc2 J g tt wi1 g1 tt1 te vs vs1 σ H1 Q) : tLc2 wi g tt wi1 g1 tt1 te vs vs1 σ H Q := q
theorem lc2R3 {σ : L2.St} {H H0 : Hp} {Q : VK} {L : List (Addr × HO)} {te : TE} {wi1 : TI} {j c : Int} {n s s1 : Nat} {vs vs1 : List Nat} (lo : Nat → Int) (m : Nat → Nat) (o : Own H0 H L) (hn : j = (n : Int)) (hz : n ≤ 10000000)
    (hzz : ((List.range n).flatMap fun p => (List.range (m p)).map fun (k : Nat) => V.int (lo p + (k : Int) * c)).length < 10000000)
    (hw : ∀ x, wipe ((wipe σ vs).set s (some x)) vs = wipe σ vs) (hw1 : ∀ x y, wipe ((wipe ((wipe σ vs).set s (some x)) vs1).set s1 (some y)) vs1 = wipe ((wipe σ vs).set s (some x)) vs1)
    (hin : ∀ (p : Nat) (H' : Hp) (R : It → Hp → Prop), p < n → R (Itc (lo p) c (m p)) H' → wi1 ((wipe σ vs).set s (some (.int (p : Int)))) H' R)
    (he : ∀ (x : V) (z : Int) (H' : Hp) (Q : VK), Q (.int z) H' → te ((wipe ((wipe σ vs).set s (some x)) vs1).set s1 (some (.int z))) H' Q)
    (k : ∀ p H', Own H0 H' ((p, .lst ((List.range n).flatMap fun p => (List.range (m p)).map fun (k : Nat) => V.int (lo p + (k : Int) * c))) :: L) → Q (.ref p) H') :
    ∃ k : Int, [V.int j] = [.int k] ∧ -(2 ^ 62) ≤ k ∧ k < 2 ^ 62 ∧ RLc2 (Itr 0 k.toNat) (gName s) tYes wi1 (gName s1) tYes te vs vs1 σ H Q := by
  have hout : ∀ i, i ≤ n → ((List.range i).flatMap fun p => (List.range (m p)).map fun (k : Nat) => V.int (lo p + (k : Int) * c)).length ≤ ((List.range n).flatMap fun p => (List.range (m p)).map fun (k : Nat) => V.int (lo p + (k : Int) * c)).length := fun i hi => by
    have e : List.range n = List.range i ++ (List.range (n - i)).map (i + ·) := by
      rw [← List.range_add]
      congr 1
      omega
    rw [e, List.flatMap_append, List.length_append]
    omega
  refine ⟨j, rfl, by omega, by omega, fun D hD => ?_⟩
  have e : j.toNat = n := by omega
  rw [e]
  refine ⟨fun i mm H' => mm = n - i ∧ i ≤ n ∧ Own H0 H' ((D, .lst ((List.range i).flatMap fun p => (List.range (m p)).map fun (k : Nat) => V.int (lo p + (k : Int) * c))) :: L), ⟨n, rfl, Nat.zero_le _, o.new hD⟩, ?_⟩
  rintro i mm H' ⟨rfl, hi, o'⟩
  by_cases hlt : i < n
  · refine .inr ⟨hlt, fun H2 => Own H0 H2 ((D, .lst ((List.range (i + 1)).flatMap fun p => (List.range (m p)).map fun (k : Nat) => V.int (lo p + (k : Int) * c))) :: L), fun H2 p2 => ⟨n - (i + 1), by omega, rfl, hlt, p2⟩, ?_⟩
    rintro x H2 ⟨rfl, rfl⟩
    have e0 : (0 : Int) + (i : Int) = (i : Int) := Int.zero_add _
    rw [e0]
    refine ⟨hw _, ?_⟩
    refine iteT (B := Own H0 H2 ((D, .lst ((List.range (i + 1)).flatMap fun p => (List.range (m p)).map fun (k : Nat) => V.int (lo p + (k : Int) * c))) :: L)) (hin i H2 _ hlt ?_)
    have hs : (List.range (i + 1)).flatMap (fun p => (List.range (m p)).map fun (k : Nat) => V.int (lo p + (k : Int) * c)) = (List.range i).flatMap (fun p => (List.range (m p)).map fun (k : Nat) => V.int (lo p + (k : Int) * c)) ++ (List.range (m i)).map fun (k : Nat) => V.int (lo i + (k : Int) * c) := by
      rw [List.range_succ, List.flatMap_append]
      simp
    rw [hs]
    have hl2 := hout (i + 1) hlt
    rw [hs, List.length_append, List.length_map, List.length_range] at hl2
    refine ⟨fun j2 k2 H3 => k2 = m i - j2 ∧ j2 ≤ m i ∧ Own H0 H3 ((D, .lst ((List.range i).flatMap (fun p => (List.range (m p)).map fun (k : Nat) => V.int (lo p + (k : Int) * c)) ++ (List.range j2).map fun (k : Nat) => V.int (lo i + (k : Int) * c))) :: L), ⟨m i, rfl, Nat.zero_le _, by rw [show ((List.range 0).map fun (k : Nat) => V.int (lo i + ((k : Nat) : Int) * c)) = [] from rfl, List.append_nil]; exact o'⟩, ?_⟩
    rintro j2 k2 H3 ⟨rfl, hj, o3⟩
    by_cases hlt2 : j2 < m i
    · refine .inr ⟨hlt2, fun H4 => Own H0 H4 ((D, .lst ((List.range i).flatMap (fun p => (List.range (m p)).map fun (k : Nat) => V.int (lo p + (k : Int) * c)) ++ (List.range (j2 + 1)).map fun (k : Nat) => V.int (lo i + (k : Int) * c))) :: L), fun H4 p4 => ⟨m i - (j2 + 1), by omega, rfl, hlt2, p4⟩, ?_⟩
      rintro x H4 ⟨rfl, rfl⟩
      refine ⟨hw1 _ _, ?_⟩
      refine iteT (B := Own H0 H4 ((D, .lst ((List.range i).flatMap (fun p => (List.range (m p)).map fun (k : Nat) => V.int (lo p + (k : Int) * c)) ++ (List.range (j2 + 1)).map fun (k : Nat) => V.int (lo i + (k : Int) * c))) :: L)) (he _ _ H4 _ ⟨_, o3.at 0 rfl, sz_lt ?_, ?_⟩)
      · rw [List.length_append, List.length_map, List.length_range]
        omega
      · have o5 := o3.set (v := .lst (((List.range i).flatMap (fun p => (List.range (m p)).map fun (k : Nat) => V.int (lo p + (k : Int) * c)) ++ (List.range j2).map fun (k : Nat) => V.int (lo i + (k : Int) * c)) ++ [V.int (lo i + (j2 : Int) * c)])) 0 rfl
        rw [List.range_succ, List.map_append, ← List.append_assoc]
        exact o5
    · refine .inl ⟨show m i ≤ j2 by omega, ?_⟩
      have ej : j2 = m i := by omega
      rw [ej] at o3
      exact o3
  · refine .inl ⟨show n ≤ i by omega, ?_⟩
    have ei : i = n := by omega
    rw [ei] at o'
    exact k D _ o'

theorem fm_some {α β : Type} (f : α → Option β) (g : α → β) : ∀ (l : List α), (∀ k ∈ l, f k = some (g k)) → l.filterMap f = l.map g
  | [], _ => rfl
  | x :: l, h => by
    rw [List.filterMap_cons, h x List.mem_cons_self, List.map_cons, fm_some f g l fun k hk => h k (List.mem_cons_of_mem _ hk)]
/-! ### xs[lo:hi:c] -/
def stpV (xs : List V) (lo hi : Option Int) (c : Int) : List V := (sliceRange (sliceBounds lo hi (some c) xs.length).1 (sliceBounds lo hi (some c) xs.length).2.1 (sliceBounds lo hi (some c) xs.length).2.2).filterMap (xs[·]?)
theorem vals_pick {xs : List V} {us : List Value} (r : Vals xs us) : ∀ is : List Nat, Vals (is.filterMap (xs[·]?)) (is.filterMap (us[·]?))
  | [] => .nil
  | i :: is => by
    rw [List.filterMap_cons, List.filterMap_cons]
    cases h : xs[i]? with
    | none =>
      rw [r.none_of h]
      exact vals_pick r is
    | some x =>
      obtain ⟨u, hu, ru⟩ := r.get h
      rw [hu]
      exact .cons ru (vals_pick r is)
def tSl3 (K : PySem.W.Frag) (te : TE) (tl th ts : TO) : TE := fun σ H Q => te σ H fun x H1 => tl σ H1 fun l H2 => th σ H2 fun u H3 => ts σ H3 fun c H4 => ∃ a xs i, x = .ref a ∧ c = some i ∧ i ≠ 0 ∧ SqL K H4 a xs ∧ (stpV xs l u i).length ≤ sizeLine ∧ ∀ p, H4 p = none → Q (.ref p) (upd H4 p (.lst (stpV xs l u i)))
theorem pe_sl3 {X : Cx} {e : Expr} {lo hi : Option Expr} {st : Expr} {te : TE} {tl th ts : TO} {p2 pos : Pos} (he : PE X e te) (hl : PO X lo tl) (hu : PO X hi th) (hst : PO X (some st) ts) : PE X (.Subscript e (.Slice lo hi (some st) p2) pos) (tSl3 X.K te tl th ts) := by
  refine ⟨fun pins s σ H Q I h => ?_⟩
  refine Subscript_ (thn (he.run pins s σ H _ I h) fun v s1 ⟨x, H1, I1, r1, q1⟩ => ?_)
  refine wpAny_Slice (thn (hl.run pins s1 σ H1 _ I1 q1) fun vl s2 ⟨l, H2, I2, pl, q2⟩ => ?_)
  refine thn (hu.run pins s2 σ H2 _ I2 q2) fun vu s3 ⟨u, H3, I3, pu, q3⟩ => ?_
  refine thn (hst.run pins s3 σ H3 _ I3 q3) fun vs s4 ⟨c, H4, I4, ps, q4⟩ => ?_
  obtain ⟨a, xs, i, ex, ec, h0, hx, hzz, q⟩ := q4
  subst ex
  subst ec
  cases r1
  have I5 : Inv X pins σ H4 { s4 with heap := s4.heap.push { cls := .type "slice", data := .fields #[vl, vu, vs] } } := I4.kept (t' := s4.toks) fun b ob q => Heap.get?_push_of_some _ q
  obtain ⟨its, r, ht, hz⟩ := I5.list hx
  have hlen := r.length
  show wpAny (model X.prog X.w) X.A (subscriptTail e (.Slice lo hi (some st) p2) (.ref a) (.ref s4.heap.objs.size)) (EP X pins σ Q) X.xe { s4 with heap := s4.heap.push { cls := .type "slice", data := .fields #[vl, vu, vs] } }
  refine tail_any (ops := [.ref a, .ref s4.heap.objs.size]) ht.isList.typeIs (PySem.slot_list_getitem.lookup) ?_ (by with_unfolding_all rfl)
  refine wpAny_getItem_list_slice ht.isList (Heap.IsSliceOf.new _ vl vu vs) pl pu ps (fun z => h0 (Option.some.inj z)) ?_ (by rw [List.size_toArray]; omega)
  have ep : slicePick its.toArray l u (some i) = ((sliceRange (sliceBounds l u (some i) xs.length).1 (sliceBounds l u (some i) xs.length).2.1 (sliceBounds l u (some i) xs.length).2.2).filterMap (its[·]?)).toArray := by
    unfold slicePick
    rw [List.size_toArray, ← hlen]
    simp only [List.getElem?_toArray]
  rw [ep]
  refine ⟨.ref _, _, I5.laid (t' := s4.toks) (o := .lst (stpV xs l u i)) (fun b ob q => Heap.get?_push_of_some _ q) (Nat.le_refl _) ?_, rfl, q _ (I5.hok.fresh (Nat.le_refl _))⟩
  exact ⟨hzz, _, 0, vals_pick r _, Heap.get?_push_size _ rfl⟩
def RSl3 (K : PySem.W.Frag) (x : V) (l u c : Option Int) (H : Hp) (Q : VK) : Prop := ∃ a xs i, x = .ref a ∧ c = some i ∧ i ≠ 0 ∧ SqL K H a xs ∧ (stpV xs l u i).length ≤ sizeLine ∧ ∀ p, H p = none → Q (.ref p) (upd H p (.lst (stpV xs l u i)))
theorem r_sl3 {K : PySem.W.Frag} {σ : L2.St} {H : Hp} {Q : VK} {te : TE} {tl th ts : TO} (q : te σ H fun x H1 => tl σ H1 fun l H2 => th σ H2 fun u H3 => ts σ H3 fun c H4 => RSl3 K x l u c H4 Q) : tSl3 K te tl th ts σ H Q := q
theorem r_slc {K : PySem.W.Frag} {H H0 : Hp} {Q : VK} {L : List (Addr × HO)} {a : Addr} {xs : List V} {l u : Option Int} {i : Int} (o : Own H0 H L) (h : SqL K H a xs) (h0 : i ≠ 0) (hz : (stpV xs l u i).length ≤ 10000000) (k : ∀ p H', Stp H H' → Own H0 H' ((p, .lst (stpV xs l u i)) :: L) → Q (.ref p) H') : RSl3 K (.ref a) l u (some i) H Q :=
  ⟨a, xs, i, rfl, rfl, h0, h, sz100 hz, fun p hp => k p _ (.of (same_new hp)) (o.new hp)⟩
theorem flat_rep {α : Type} : ∀ (n : Nat) (x : α), (List.replicate n [x]).flatten = List.replicate n x
  | 0, _ => rfl
  | n + 1, x => by rw [List.replicate_succ, List.flatten_cons, flat_rep n x]; rfl
/-- a list times an int -/
theorem r_rep {H H0 : Hp} {Q : VK} {L : List (Addr × HO)} {a : Addr} {x : V} {i : Int} {n : Nat} (o : Own H0 H L) (ha : H a = some (.lst [x])) (hi : i.toNat = n) (hk : -(2 ^ 63) ≤ i ∧ i < 2 ^ 63) (hz : n ≤ 10000000) (k : ∀ p H', Stp H H' → Own H0 H' ((p, .lst (List.replicate n x)) :: L) → Q (.ref p) H') : rRep (.ref a) (.int i) H Q := by
  refine ⟨a, i, [x], rfl, rfl, ha, hk.1, hk.2, sz100 (by rw [hi]; simp; exact hz), fun p hp => ?_⟩
  have e : (List.replicate i.toNat [x]).flatten = List.replicate n x := by
    rw [hi]
    exact flat_rep n x
  rw [e]
  exact k p _ (.of (same_new hp)) (o.new hp)

/-! ### defs -/
/-- the def x of the text stands at its name -/
structure FunAt (K : PySem.W.Frag) (mg : Str → Option Value) (x : Str) (st : Stmt) (ps : List Str) : Prop where
  ex : ∃ f fd, Fun K x x st f fd ∧ mg x = some (.ref f) ∧ Binds K fd ps []
/-- .. and keeps a promise -/
structure Def (P : Program) (w : World) (K : PySem.W.Frag) (mg : Str → Option Value) (base : Heap) (CX : CXT) (k : Nat) (x : Str) (ps : List Str) (sp : Sp) : Prop where
  ex : ∃ f fd, FnOk P w K mg base CX k f fd ps sp ∧ mg x = some (.ref f) ∧ PySem.W.keepIn K (.ref f) = true ∧ Binds K fd ps []
section
variable {P : Program} {w : World} {K : PySem.W.Frag} {mg : Str → Option Value} {base : Heap}
theorem FunAt.ok {x : Str} {st : Stmt} {N ps : List Str} {k : Nat} {sp : Sp} (F : FunAt K mg x st ps) (S : FnScope N ps (defScope st)) (len : ∀ vs H Q E, sp vs H Q E → vs.length = ps.length)
    (hbody : ∀ (f : Addr) (cdv : Value) (A : Around) (outer : List Env) (s : Shared) (H : Hp) (vs : List V) (Q : VK) (E : XK), Room k (A.deeper (envOfC x (defScope st) s.heap.objs.size f cdv)) → sp vs H Q E →
      ∃ t, PSs (cxOf CX0 P w K mg base N x (defScope st) f cdv A outer s H E).nox (defBody st) t ∧ t { nx := fun _ H' => Q .non H', rt := Q } (start N vs) H) : Def P w K mg base CX0 (k + 1) x ps sp := by
  obtain ⟨f, fd, F, hm, hb⟩ := F.ex
  exact ⟨f, fd, F.ok S len (hbody f), hm, F.kp, hb⟩
theorem Def.imp {CX : CXT} {k : Nat} {x : Str} {ps : List Str} {sp sp' : Sp} (F : Def P w K mg base CX k x ps sp) (h : ∀ vs H Q E, sp' vs H Q E → sp vs H Q E) : Def P w K mg base CX k x ps sp' := by
  obtain ⟨f, fd, F, r⟩ := F.ex
  exact ⟨f, fd, F.imp h, r⟩
theorem Def.mono {CX : CXT} {k j : Nat} {x : Str} {ps : List Str} {sp : Sp} (F : Def P w K mg base CX k x ps sp) (h : k ≤ j) : Def P w K mg base CX j x ps sp := by
  obtain ⟨f, fd, F, r⟩ := F.ex
  exact ⟨f, fd, F.mono h, r⟩
end
theorem pe_callD {X : Cx} {k : Nat} {ps : List Str} {sp : Sp} {x : Str} {p pos : Pos} {e : Expr} {es : List Expr} {t : TA} (G : Def X.prog X.w X.K X.mg X.base CX0 k x ps sp) (hr : Room k X.A) (ha : PA X (e :: es) t) (hg : Gl X x := by rfl)
    (hdb : (x == ("__debug__" : Str)) = false := by decide) (he : starEach (e :: es) X.env = (false, eval e X.env) :: starEach es X.env := by rfl) (hpl : (backTo pos (starEach es X.env)).any (·.1) = false := by rfl) : PE X (.Call (.Name x p) (e :: es) [] pos) (tCall sp [] E0 t) := by
  obtain ⟨f, fd, F, hm, hk, hb⟩ := G.ex
  exact pe_call F hr hg hm hk hb .nil pass0 ha hdb he hpl
/-! ### own classes -/
structure MethAt (K : PySem.W.Frag) (C : Addr) (m qn : Str) (st : Stmt) (ps : List Str) : Prop where
  ex : ∃ f fd, Fun K m qn st f fd ∧ Meth K C m f ∧ Binds K fd ps []
structure MkAt (K : PySem.W.Frag) (C : Addr) (qn : Str) (st : Stmt) (ps : List Str) : Prop where
  ex : ∃ f fd, Fun K "__init__" qn st f fd ∧ Mk K C f ∧ Binds K fd ps []
structure MDef (P : Program) (w : World) (K : PySem.W.Frag) (mg : Str → Option Value) (base : Heap) (CX : CXT) (k : Nat) (C : Addr) (m : Str) (ps : List Str) (sp : Sp) : Prop where
  ex : ∃ f fd, FnOk P w K mg base CX k f fd ps sp ∧ Meth K C m f ∧ Binds K fd ps []
structure KDef (P : Program) (w : World) (K : PySem.W.Frag) (mg : Str → Option Value) (base : Heap) (CX : CXT) (k : Nat) (C : Addr) (ps : List Str) (sp : Sp) : Prop where
  ex : ∃ f fd, FnOk P w K mg base CX k f fd ps sp ∧ Mk K C f ∧ Binds K fd ps []
section
variable {P : Program} {w : World} {K : PySem.W.Frag} {mg : Str → Option Value} {base : Heap}
theorem MethAt.ok {C : Addr} {m qn : Str} {st : Stmt} {N ps : List Str} {k : Nat} {sp : Sp} (F : MethAt K C m qn st ps) (S : FnScope N ps (defScope st)) (len : ∀ vs H Q E, sp vs H Q E → vs.length = ps.length)
    (hbody : ∀ (f : Addr) (cdv : Value) (A : Around) (outer : List Env) (s : Shared) (H : Hp) (vs : List V) (Q : VK) (E : XK), Room k (A.deeper (envOfC qn (defScope st) s.heap.objs.size f cdv)) → sp vs H Q E →
      ∃ t, PSs (cxOf CX0 P w K mg base N qn (defScope st) f cdv A outer s H E).nox (defBody st) t ∧ t { nx := fun _ H' => Q .non H', rt := Q } (start N vs) H) : MDef P w K mg base CX0 (k + 1) C m ps sp := by
  obtain ⟨f, fd, F, hm, hb⟩ := F.ex
  exact ⟨f, fd, F.ok S len (hbody f), hm, hb⟩
theorem MkAt.ok {C : Addr} {qn : Str} {st : Stmt} {N ps : List Str} {k : Nat} {sp : Sp} (F : MkAt K C qn st ps) (S : FnScope N ps (defScope st)) (len : ∀ vs H Q E, sp vs H Q E → vs.length = ps.length)
    (hbody : ∀ (f : Addr) (cdv : Value) (A : Around) (outer : List Env) (s : Shared) (H : Hp) (vs : List V) (Q : VK) (E : XK), Room k (A.deeper (envOfC qn (defScope st) s.heap.objs.size f cdv)) → sp vs H Q E →
      ∃ t, PSs (cxOf CX0 P w K mg base N qn (defScope st) f cdv A outer s H E).nox (defBody st) t ∧ t { nx := fun _ H' => Q .non H', rt := Q } (start N vs) H) : KDef P w K mg base CX0 (k + 1) C ps sp := by
  obtain ⟨f, fd, F, hm, hb⟩ := F.ex
  exact ⟨f, fd, F.ok S len (hbody f), hm, hb⟩
end
theorem pe_makeD {X : Cx} {k : Nat} {ps : List Str} {sp : Sp} {C : Addr} {x : Str} {p pos : Pos} {e : Expr} {es : List Expr} {t : TA} (G : KDef X.prog X.w X.K X.mg X.base CX0 k C ps sp) (hm : X.mg x = some (.ref C)) (hr : Room (k + 1) X.A) (ha : PA X (e :: es) t) (hg : Gl X x := by rfl)
    (hdb : (x == ("__debug__" : Str)) = false := by decide) (he : starEach (e :: es) X.env = (false, eval e X.env) :: starEach es X.env := by rfl) (hpl : (backTo pos (starEach es X.env)).any (·.1) = false := by rfl) : PE X (.Call (.Name x p) (e :: es) [] pos) (tMake C sp [] E0 t) := by
  obtain ⟨f, fd, F, M, hb⟩ := G.ex
  exact pe_make M F hr hg hm hb .nil pass0 ha hdb he hpl
theorem pe_methD {X : Cx} {k : Nat} {ps : List Str} {sp : Sp} {C : Addr} {m : Str} {o e : Expr} {es : List Expr} {apos pos : Pos} {ta : TE} {t : TA} {pl : Sem Bool} (he : PE X o ta) (c : Cls X.K C) (G : MDef X.prog X.w X.K X.mg X.base CX0 k C m ps sp) (hr : Room k X.A) (ha : PA X (e :: es) t)
    (hst : starEach (e :: es) X.env = (false, eval e X.env) :: starEach es X.env := by rfl) (hpl : (backTo pos (starEach es X.env)).any (·.1) = false := by rfl)
    (ht : eval (.Call (.Attribute o m apos) (e :: es) [] pos) X.env = (do
      let ov ← eval o X.env
      standAt apos.atName
      let (f, first) ← holding [ov] (getMethod ov m pl)
      callWith pos f first (backTo pos (starEach (e :: es) X.env)) (backToKw pos (keywordEach [] X.env))) := by rfl) :
    PE X (.Call (.Attribute o m apos) (e :: es) [] pos) (tMeth C m sp [] E0 ta t) := by
  obtain ⟨f, fd, F, M, hb⟩ := G.ex
  exact pe_meth he c M F hr hb .nil pass0 ha hst hpl ht
theorem r_make {C : Addr} {sp : Sp} {E : XK} {t : TA} {σ : L2.St} {H : Hp} {Q : VK} (q : t σ H fun vs H1 => ∀ x dx, H1 x = none → H1 dx = none → dx ≠ x → sp (.ref x :: (vs ++ [])) (upd (upd H1 dx (.own x)) x (.ins C dx [])) (fun v H2 => v = .non ∧ Q (.ref x) H2) E) : tMake C sp [] E t σ H Q := q
theorem r_meth {C : Addr} {m : Str} {sp : Sp} {E : XK} {ta : TE} {t : TA} {σ : L2.St} {H : Hp} {Q : VK} (q : ta σ H fun x H1 => ∃ a dx fs, x = .ref a ∧ H1 a = some (.ins C dx fs) ∧ fs.lookup m = none ∧ t σ H1 fun vs H2 => sp (x :: (vs ++ [])) H2 Q E) : tMeth C m sp [] E ta t σ H Q := q
theorem r_fldq {K : PySem.W.Frag} {ta : TE} {f : Str} {σ : L2.St} {H : Hp} {Q : VK} (q : ta σ H fun x H1 => ∃ a C dx fs v, x = .ref a ∧ H1 a = some (.ins C dx fs) ∧ Cls K C ∧ NoAttr K C f ∧ fs.lookup f = some v ∧ Q v H1) : tFld K ta f σ H Q := q
theorem r_sfld {K : PySem.W.Frag} {ta tv : TE} {f : Str} {D : Ends} {σ : L2.St} {H : Hp} (q : tv σ H fun y H1 => ta σ H1 fun x H2 => ∃ a C dx fs, x = .ref a ∧ H2 a = some (.ins C dx fs) ∧ Cls K C ∧ NoAttr K C f ∧ fs.length < 1000 ∧ D.nx σ (upd H2 a (.ins C dx (putF f y fs)))) : sFld K ta tv f D σ H := q
/-! ### the same rules, K told -/
theorem pg_tupK {X : Cx} {K : PySem.W.Frag} {es : List Expr} {k : Nat} {t : TGs} {n : Nat} {pos : Pos} (hK : X.K = K) (hc : X.calm = true) (h : PGs X es t)
    (hn : (assignEach es X.env).length = n := by rfl) (hst : (assignEach es X.env).findIdx? (·.1) = none := by rfl) : PG X (.Tuple es k pos) (gTup K n t) := by
  subst hK
  exact pg_tup hc h hn hst
theorem pe_bmK {X : Cx} {K : PySem.W.Frag} {o e : Expr} {es : List Expr} {to : TE} {t : TA} {name : Str} {apos cpos : Pos} {T id : String} {r : V → List V → Hp → VK → Prop} (hK : X.K = K) (pa : PlainAttrs T) (slot : Slot T name id) (hty : typeOf (.builtin id) = pure (.type "method_descriptor")) (hm : MtR X id r) (ho : PE X o to) (ha : PA X (e :: es) t)
    (hbase : attributeBase o name X.env (eval o X.env) = eval o X.env := by rfl) (hfew : ((backTo cpos (starEach (e :: es) X.env)).all (fun x => !x.1) && (backToKw cpos (keywordEach [] X.env)).all (fun x => x.1.isSome) && decide ((e :: es).length + ([] : List Keyword).length + (if ([] : List Keyword).isEmpty then 0 else 1) < 30)) = true := by rfl)
    (hline : (apos.endLine == cpos.line) = true := by rfl) (hst : starEach (e :: es) X.env = (false, eval e X.env) :: starEach es X.env := by rfl) (hpl : (backTo cpos (starEach es X.env)).any (·.1) = false := by rfl) : PE X (.Call (.Attribute o name apos) (e :: es) [] cpos) (tBM K T r to t) := by
  subst hK
  exact pe_bm pa slot hty hm ho ha hbase hfew hline hst hpl
theorem r_ext {H H0 : Hp} {Q : VK} {L : List (Addr × HO)} {l b : Addr} {xs zs : List V} (o : Own H0 H L) (n m : Nat) (h : L[n]? = some (l, .lst xs)) (h2 : L[m]? = some (b, .lst zs)) (hz : xs.length + zs.length ≤ 10000000) (k : ∀ H', Own H0 H' (L.set n (l, .lst (xs ++ zs))) → Q .non H') : rExtend (.ref l) [.ref b] H Q :=
  ⟨l, b, xs, zs, rfl, rfl, o.at n h, o.at m h2, sz100 hz, k _ (o.set n h)⟩
theorem take_flat {α β : Type} {f : α → List β} {zs : List α} {i : Nat} {z : α} (h : zs[i]? = some z) : (zs.take (i + 1)).flatMap f = (zs.take i).flatMap f ++ f z := by
  rw [List.take_add_one, h, List.flatMap_append]
  simp
theorem get_ints {ns : List Int} {i : Nat} {x : V} (h : (ns.map V.int)[i]? = some x) : ∃ z, ns[i]? = some z ∧ x = .int z := by
  rw [List.getElem?_map] at h
  cases h2 : ns[i]? with
  | none => rw [h2] at h; cases h
  | some v => rw [h2] at h; cases h; exact ⟨v, rfl, rfl⟩
theorem r_bmE {K : PySem.W.Frag} {T : String} {f : V → List V → Hp → VK → Prop} {te : TE} {tr : TA} {σ : L2.St} {H : Hp} {Q : VK} (q : te σ H fun x H1 => tyV K T x H1 ∧ tr σ H1 fun vs H2 => f x vs H2 Q) : tBM K T f te tr σ H Q := q
theorem pe_callD0 {X : Cx} {k : Nat} {sp : Sp} {x : Str} {p pos : Pos} (G : Def X.prog X.w X.K X.mg X.base CX0 k x [] sp) (hr : Room k X.A) (hg : Gl X x := by rfl) (hdb : (x == ("__debug__" : Str)) = false := by decide) : PE X (.Call (.Name x p) [] [] pos) (tCall sp [] E0 tNil) := by
  obtain ⟨f, fd, F, hm, hk, hb⟩ := G.ex
  exact pe_call0 F hr hg hm hk hb .nil pass0 hdb
theorem pe_methD0 {X : Cx} {k : Nat} {ps : List Str} {sp : Sp} {C : Addr} {m : Str} {o : Expr} {apos pos : Pos} {ta : TE} {pl : Sem Bool} (he : PE X o ta) (c : Cls X.K C) (G : MDef X.prog X.w X.K X.mg X.base CX0 k C m ps sp) (hr : Room k X.A)
    (ht : eval (.Call (.Attribute o m apos) [] [] pos) X.env = (do
      let ov ← eval o X.env
      standAt apos.atName
      let (f, first) ← holding [ov] (getMethod ov m pl)
      callWith pos f first (backTo pos (starEach [] X.env)) (backToKw pos (keywordEach [] X.env))) := by rfl) :
    PE X (.Call (.Attribute o m apos) [] [] pos) (tMeth C m sp [] E0 ta tNil) := by
  obtain ⟨f, fd, F, M, hb⟩ := G.ex
  exact pe_meth0 he c M F hr hb .nil pass0 ht
end RD
namespace My
open PySem PySem.Spec PyProof.Rows L2 RD
local macro_rules | `(tactic| walk_at "sq") => `(tactic| (first
  | assumption
  | exact Own.sqL (by assumption) 0 (by exact rfl)
  | exact Own.sqL (by assumption) 1 (by exact rfl)
  | exact Own.sqL (by assumption) 2 (by exact rfl)
  | exact Own.sqL (by assumption) 3 (by exact rfl)
  | exact Own.sqL (by assumption) 4 (by exact rfl)
  | exact Own.sqL (by assumption) 5 (by exact rfl)
  | exact Own.sqL (by assumption) 6 (by exact rfl)
  | exact Own.sqL (by assumption) 7 (by exact rfl)
  | exact Own.sqL (by assumption) 8 (by exact rfl)
  | exact Own.sqL (by assumption) 9 (by exact rfl)
  | exact Own.sqL (by assumption) 10 (by exact rfl)
  | exact Own.sqL (by assumption) 11 (by exact rfl)
  | exact Own.sqL (by assumption) 12 (by exact rfl)
  | exact Own.sqL (by assumption) 13 (by exact rfl)
  | exact Own.sqL (by assumption) 14 (by exact rfl)
  | exact Own.sqL (by assumption) 15 (by exact rfl)
  | exact Own.sqL (by assumption) 16 (by exact rfl)
  | exact Own.old (by assumption) (by assumption)))
local macro_rules | `(tactic| walk_at "sqT") => `(tactic| (first
  | assumption
  | exact Own.sqT (by assumption) 0 (by exact rfl)
  | exact Own.sqT (by assumption) 1 (by exact rfl)
  | exact Own.sqT (by assumption) 2 (by exact rfl)
  | exact Own.sqT (by assumption) 3 (by exact rfl)
  | exact Own.sqT (by assumption) 4 (by exact rfl)
  | exact Own.sqT (by assumption) 5 (by exact rfl)
  | exact Own.sqT (by assumption) 6 (by exact rfl)
  | exact Own.sqT (by assumption) 7 (by exact rfl)
  | exact Own.sqT (by assumption) 8 (by exact rfl)
  | exact Own.sqT (by assumption) 9 (by exact rfl)
  | exact Own.sqT (by assumption) 10 (by exact rfl)
  | exact Own.sqT (by assumption) 11 (by exact rfl)
  | exact Own.sqT (by assumption) 12 (by exact rfl)
  | exact Own.sqT (by assumption) 13 (by exact rfl)
  | exact Own.sqT (by assumption) 14 (by exact rfl)
  | exact Own.sqT (by assumption) 15 (by exact rfl)
  | exact Own.sqT (by assumption) 16 (by exact rfl)
  | exact Own.oldT (by assumption) (by assumption)))
local macro_rules | `(tactic| walk_at "at") => `(tactic| (first
  | assumption
  | exact Own.at (by assumption) 0 (by exact rfl)
  | exact Own.at (by assumption) 1 (by exact rfl)
  | exact Own.at (by assumption) 2 (by exact rfl)
  | exact Own.at (by assumption) 3 (by exact rfl)
  | exact Own.at (by assumption) 4 (by exact rfl)
  | exact Own.at (by assumption) 5 (by exact rfl)
  | exact Own.at (by assumption) 6 (by exact rfl)
  | exact Own.at (by assumption) 7 (by exact rfl)
  | exact Own.at (by assumption) 8 (by exact rfl)
  | exact Own.at (by assumption) 9 (by exact rfl)
  | exact Own.at (by assumption) 10 (by exact rfl)
  | exact Own.at (by assumption) 11 (by exact rfl)
  | exact Own.at (by assumption) 12 (by exact rfl)
  | exact Own.at (by assumption) 13 (by exact rfl)
  | exact Own.at (by assumption) 14 (by exact rfl)
  | exact Own.at (by assumption) 15 (by exact rfl)
  | exact Own.at (by assumption) 16 (by exact rfl)))
/-! ### the words -/
local macro_rules | `(tactic| walk_at "rd1") => `(tactic| (first
  | with_reducible refine r_seq ?_
  | with_reducible refine r_asg ?_
  | with_reducible refine r_name ?_
  | ((with_reducible refine r_var (v := ?_) ?h ?_); (case h => exact rfl))
  | with_reducible refine r_c ?_
  | with_reducible refine r_op ?_
  | with_reducible refine r_I0 ?_
  | with_reducible refine r_un ?_
  | with_reducible refine r_U ?_
  | with_reducible refine r_eqI ?_
  | with_reducible refine r_neI ?_
  | with_reducible refine r_eqS ?_
  | with_reducible refine r_neS ?_
  | with_reducible refine r_test ?_
  | with_reducible refine r_tB ?_
  | with_reducible refine r_bl ?_
  | with_reducible refine r_and ?_
  | with_reducible refine r_or ?_
  | with_reducible refine r_not ?_
  | with_reducible refine r_andV ?_
  | with_reducible refine r_orV ?_
  | with_reducible refine r_notV ?_
  | with_reducible refine r_ifE ?_
  | with_reducible refine r_ifS ?_
  | with_reducible refine r_ret ?_
  | with_reducible refine r_retN ?_
  | with_reducible refine r_drop ?_
  | with_reducible refine r_next ?_
  | with_reducible refine r_break ?_
  | with_reducible refine r_cont ?_
  | with_reducible refine r_nil ?_
  | with_reducible refine r_cons ?_
  | with_reducible refine r_tup ?_
  | with_reducible refine r_lst ?_
  | with_reducible refine r_CB ?_
  | with_reducible refine r_call ?_
  | with_reducible refine r_sl ?_
  | with_reducible refine r_par ?_
  | with_reducible refine r_make ?_
  | with_reducible refine r_meth ?_
  | with_reducible refine r_fldq ?_
  | with_reducible refine r_sfld ?_
  | with_reducible refine r_nopart ?_
  | with_reducible refine r_part ?_
  | with_reducible refine r_pt ?_
  | ((with_reducible refine r_aug (x := ?_) ?h ?_); (case h => exact rfl))
  | with_reducible refine r_ipI ?_
  | ((with_reducible refine r_isi (T := ?_) (b := true) ?t ?k ?_); (case t => first | exact ty_int | exact ty_str | exact ty_non | exact ty_list (by walk_at "at") | exact ty_tup (by walk_at "at") | exact ty_sqT (by assumption) | exact ty_sqL (by assumption)); (case k => decide +kernel))
  | ((with_reducible refine r_isi (T := ?_) (b := false) ?t ?k ?_); (case t => first | exact ty_int | exact ty_str | exact ty_non | exact ty_list (by walk_at "at") | exact ty_tup (by walk_at "at") | exact ty_sqT (by assumption) | exact ty_sqL (by assumption)); (case k => decide +kernel))
  | with_reducible refine rif_t ?_
  | with_reducible refine rif_f ?_
  | with_reducible refine rif_nt ?_
  | with_reducible refine rif_nf ?_
  | with_reducible refine r_for ?_
  | with_reducible refine r_rng1 ?_
  | with_reducible refine r_rng2 ?_
  | with_reducible refine r_rng3 ?_
  | with_reducible refine r_iL ?_
  | with_reducible refine r_iT ?_
  | with_reducible refine r_lc ?_
  | with_reducible refine r_lc2 ?_
  | with_reducible refine r_sl3 ?_
  | ((with_reducible refine r_I ?c ?_); (case c => first | exact ⟨by decide, by decide⟩ | exact ⟨by decide, by decide, by decide⟩ | exact ⟨by decide, by decide, by omega⟩ | (show (0 : Int) < _; decide) | exact .inr ⟨by decide, by decide⟩ | exact .inl ⟨by decide, by decide⟩ | assumption | exact .inl ⟨by omega, by omega⟩ | exact .inr ⟨by omega, by omega⟩ | (show (0 : Int) < _; omega) | exact ⟨by omega, by omega⟩))
  | ((with_reducible refine r_bm (l := ?_) ?h ?t ?_); (case h => exact rfl); (case t => exact ty_lst (by walk_at "at")))
  | with_reducible refine r_int ?_
  | ((with_reducible refine r_lenS ?z ?_); (case z => first | omega | (simp; done)))
  | ((with_reducible refine r_slS ?z ?_); (case z => omega))
  | ((with_reducible refine r_addS ?z ?_); (case z => omega))
  | with_reducible refine r_zipA ?_
  | with_reducible refine r_max2 ?_
  | with_reducible refine r_min2 ?_
  | with_reducible refine r_isNonN ?_
  | with_reducible refine r_isNonR ?_
  | with_reducible refine r_isNonI ?_
  | with_reducible refine r_notNonN ?_
  | with_reducible refine r_notNonR ?_
  | with_reducible refine r_notNonI ?_
  | with_reducible refine r_chain ?_
  | with_reducible refine r_isB ?_
  | ((with_reducible refine r_ixI (ns := ?_) ?h ?b0 ?b1 ?_); (case h => walk_at "sq"); (case b0 => omega); (case b1 => first | omega | (simp; done) | (simp; omega)))
  | ((with_reducible refine r_ixIT (ns := ?_) ?h ?b0 ?b1 ?_); (case h => walk_at "sqT"); (case b0 => omega); (case b1 => first | omega | (simp; done) | (simp; omega)))
  | ((with_reducible refine r_ixqL (ns := ?_) ?h ?b0 ?b1 ?_); (case h => walk_at "sq"); (case b0 => omega); (case b1 => first | omega | (simp; done) | (simp; omega)))
  | ((with_reducible refine r_ixqT (ns := ?_) ?h ?b0 ?b1 ?_); (case h => walk_at "sqT"); (case b0 => omega); (case b1 => first | omega | (simp; done) | (simp; omega)))
  | ((with_reducible refine r_sum (ns := ?_) ?h ?_); (case h => walk_at "sq"))
  | ((with_reducible refine r_eqSame (ns := ?_) ?h ?h2 ?_); (case h => walk_at "sq"); (case h2 => walk_at "sq"))
  | ((with_reducible refine r_neSame (ns := ?_) ?h ?h2 ?_); (case h => walk_at "sq"); (case h2 => walk_at "sq"))
  | with_reducible refine r_intB ?_
  | ((with_reducible refine r_len (xs := ?_) ?h ?_); (case h => walk_at "sq"))
  | ((with_reducible refine r_lenT (xs := ?_) ?h ?_); (case h => walk_at "sqT"))
  | ((with_reducible refine r_gTup2 (x := ?_) (y := ?_) ?h ?_); (case h => walk_at "sqT"))
  | with_reducible refine r_bmE ?_
  | with_reducible refine r_set ?_))
local macro_rules | `(tactic| walk_at "rd") => `(tactic| (repeat' (walk_at "rd1")))
/-! ### zip of two or three sequences, each a list (false) or a tuple (true) -/
section
variable {prog : Program} {w : World} {A : Around} {E : Value → Shared → Prop} {s : Shared}
def HIt (k : Bool) (h : Heap) (it l : Addr) (i : Nat) : Prop := match k with | true => h.IsTupleIter it l i | false => h.IsListIter it l i
def HSq (k : Bool) (h : Heap) (l : Addr) (xs : Array Value) : Prop := match k with | true => h.IsTuple l xs | false => h.IsList l xs
def itTy (k : Bool) : String := match k with | true => "tuple_iterator" | false => "list_iterator"
def SqK (K : PySem.W.Frag) (k : Bool) (H : Hp) (a : Addr) (xs : List V) : Prop := match k with | true => SqT K H a xs | false => SqL K H a xs
theorem HIt.at {k : Bool} {h h' : Heap} {it l : Addr} {i : Nat} (x : HIt k h it l i) (e : ∀ o, h.get? it = some o → h'.get? it = some o) : HIt k h' it l i := by
  cases k
  · exact Heap.IsListIter.at x e
  · exact Heap.IsTupleIter.at x e
theorem HIt.obj {k : Bool} {h : Heap} {it l : Addr} {i : Nat} (x : HIt k h it l i) : ∃ o, h.get? it = some o ∧ ∀ v, o.data ≠ .cell v := by
  cases k
  · obtain ⟨o, e, _, d⟩ := (show h.IsListIter it l i from x)
    exact ⟨o, e, fun v z => by rw [d] at z; cases z⟩
  · obtain ⟨o, e, _, d⟩ := (show h.IsTupleIter it l i from x)
    exact ⟨o, e, fun v z => by rw [d] at z; cases z⟩
theorem HIt.lt {k : Bool} {h : Heap} {it l : Addr} {i : Nat} (x : HIt k h it l i) : it < h.objs.size := by
  obtain ⟨o, e, _⟩ := x.obj
  exact Heap.lt_size e
theorem HSq.lt {k : Bool} {h : Heap} {l : Addr} {xs : Array Value} (x : HSq k h l xs) : l < h.objs.size := by
  cases k
  · obtain ⟨o, e, _⟩ := (show h.IsList l xs from x)
    exact Heap.lt_size e
  · obtain ⟨o, e, _⟩ := (show h.IsTuple l xs from x)
    exact Heap.lt_size e
theorem drawsK (k : Bool) (hh : A.handled = none) {it l : Addr} (hne : l ≠ it) (items : Array Value) :
    Draws prog w A it [it, l] items.size (fun i v => items[i]? = some v) (fun i h => HIt k h it l i ∧ HSq k h l items) := by
  cases k
  · exact Draws.list hh it l hne items
  · refine ⟨fun i h st => ?_, fun i h h' st hk => ?_, fun i s Q E hi st hQ => ?_, fun s Q E st hE => ?_⟩
    · obtain ⟨o, ho, _⟩ := HIt.obj st.1
      exact ⟨o, ho⟩
    · exact ⟨st.1.at fun o e => hk it (by simp) o e, Heap.IsTuple.at st.2 fun o e => hk l (by simp) o e⟩
    · have st2 := (show s.heap.IsTuple l items from st.2)
      refine RZ.nextOf_tuple_item st.1 st2 (x := items[i]) (by simp [hi]) fun h1 it1 sb => ?_
      exact hQ _ h1 s.toks (by simp [hi]) ⟨it1, Heap.IsTuple.extBut st2 sb.extBut hne⟩ sb
    · exact RZ.nextOf_tuple_end hh st.1 st.2 (by simp) hE
def itO (k : Bool) (l : Addr) : Obj := { cls := .type (itTy k), data := .fields #[.ref l, .int 0 0] }
theorem iterK {k : Bool} {l : Addr} {items : Array Value} {Q : Value → Shared → Prop} (hl : HSq k s.heap l items) (h : Q (.ref s.heap.objs.size) { s with heap := s.heap.push (itO k l) }) : wpAny (model prog w) A (pyIter (.ref l)) Q E s := by
  cases k
  · exact wpAny_pyIter_list hl h
  · exact wpAny_pyIter_tuple hl h
theorem HSq.push {k : Bool} {h : Heap} {l : Addr} {xs : Array Value} (x : HSq k h l xs) (o : Obj) : HSq k (h.push o) l xs := by
  cases k
  · exact Heap.IsList.push x o
  · exact Heap.IsTuple.push x o
theorem HIt.mk0 {k : Bool} {h : Heap} {it l : Addr} (e : h.get? it = some (itO k l)) : HIt k h it l 0 := by
  cases k
  · exact ⟨_, e, rfl, rfl⟩
  · exact ⟨_, e, rfl, rfl⟩
def zA (h : Heap) (k1 : Bool) (l1 : Addr) : Heap := h.push (itO k1 l1)
def zB (h : Heap) (k1 k2 : Bool) (l1 l2 : Addr) : Heap := (zA h k1 l1).push (itO k2 l2)
def zC (h : Heap) (k1 k2 : Bool) (l1 l2 : Addr) : Heap := (zB h k1 k2 l1 l2).push { cls := .type "tuple", data := .seq #[.ref h.objs.size, .ref (zA h k1 l1).objs.size] }
def zD (h : Heap) (k1 k2 : Bool) (l1 l2 : Addr) : Heap := (zC h k1 k2 l1 l2).push { cls := .type "tuple", data := .seq #[.none, .none] }
def zE (h : Heap) (k1 k2 : Bool) (l1 l2 : Addr) : Heap := (zD h k1 k2 l1 l2).push { cls := .type "zip", data := .fields #[.none, .bool false, .bool false, .ref (zB h k1 k2 l1 l2).objs.size, .ref (zC h k1 k2 l1 l2).objs.size] }
theorem zip_new2 (k1 k2 : Bool) (l1 l2 : Addr) (xs ys : Array Value) :
    Meets (Builtin.«zip.__new__» ⟨[.type "zip", .ref l1, .ref l2], []⟩) (fun _ R s => HSq k1 s.heap l1 xs ∧ HSq k2 s.heap l2 ys ∧
      R (.ok (.ret (.ref (zD s.heap k1 k2 l1 l2).objs.size))) { s with heap := zE s.heap k1 k2 l1 l2 }) :=
  .of_wp fun prog w A R s h => by
    obtain ⟨hp, g, d, tk, os⟩ := s
    obtain ⟨q1, q2, h⟩ := h
    have hsub := sub_zip
    have p1 : HSq k1 (Shared.heap ⟨hp, g, d, tk, os⟩) l1 xs := q1
    have p2 : HSq k2 (Shared.heap ⟨hp.push (itO k1 l1), g, d, tk, os⟩) l2 ys := HSq.push q2 _
    wp_walk using iterK p1, iterK p2
    exact ⟨_, rfl, h⟩
theorem zip_call2 {k1 k2 : Bool} {l1 l2 : Addr} {xs ys : Array Value} {Q : Value → Shared → Prop} (q1 : HSq k1 s.heap l1 xs) (q2 : HSq k2 s.heap l2 ys)
    (h : ∀ h' n, n = s.heap.objs.size → IsZip h' (n + 4) (n + 2) (n + 3) .none → IsTupOf2 h' (n + 2) (.ref n) (.ref (n + 1)) → IsTupOf2 h' (n + 3) .none .none → HIt k1 h' n l1 0 → HIt k2 h' (n + 1) l2 0 →
      (∀ c o, s.heap.get? c = some o → h'.get? c = some o) → Q (.ref (n + 4)) { s with heap := h' }) :
    wpAny (model prog w) A (call (.type "zip") [.ref l1, .ref l2]) Q E s := by
  refine callType_new F.called_zip (by decide) (F.typeCall_zip_2 _ _) (F.newCall_zip_2 _ _) (fun obj => F.args_object_init_3 obj _ _) F.entry_zip_new (zip_new2 k1 k2 l1 l2 xs ys) ⟨q1, q2, ?_⟩
  have eA : (zA s.heap k1 l1).objs.size = s.heap.objs.size + 1 := Heap.size_push ..
  have eB : (zB s.heap k1 k2 l1 l2).objs.size = s.heap.objs.size + 2 := by unfold zB; rw [Heap.size_push, eA]
  have eC : (zC s.heap k1 k2 l1 l2).objs.size = s.heap.objs.size + 3 := by unfold zC; rw [Heap.size_push, eB]
  have eD : (zD s.heap k1 k2 l1 l2).objs.size = s.heap.objs.size + 4 := by unfold zD; rw [Heap.size_push, eC]
  have uE : ∀ c o, (zD s.heap k1 k2 l1 l2).get? c = some o → (zE s.heap k1 k2 l1 l2).get? c = some o := fun c o e => Heap.get?_push_of_some _ e
  have uD : ∀ c o, (zC s.heap k1 k2 l1 l2).get? c = some o → (zE s.heap k1 k2 l1 l2).get? c = some o := fun c o e => uE c o (Heap.get?_push_of_some _ e)
  have uC : ∀ c o, (zB s.heap k1 k2 l1 l2).get? c = some o → (zE s.heap k1 k2 l1 l2).get? c = some o := fun c o e => uD c o (Heap.get?_push_of_some _ e)
  have uB : ∀ c o, (zA s.heap k1 l1).get? c = some o → (zE s.heap k1 k2 l1 l2).get? c = some o := fun c o e => uC c o (Heap.get?_push_of_some _ e)
  have uA : ∀ c o, s.heap.get? c = some o → (zE s.heap k1 k2 l1 l2).get? c = some o := fun c o e => uB c o (Heap.get?_push_of_some _ e)
  have gE : (zE s.heap k1 k2 l1 l2).get? (zD s.heap k1 k2 l1 l2).objs.size = some _ := Heap.get?_push_size _ rfl
  have gD : (zE s.heap k1 k2 l1 l2).get? (zC s.heap k1 k2 l1 l2).objs.size = some _ := uE _ _ (Heap.get?_push_size _ rfl)
  have gC : (zE s.heap k1 k2 l1 l2).get? (zB s.heap k1 k2 l1 l2).objs.size = some _ := uD _ _ (Heap.get?_push_size _ rfl)
  have gB : (zE s.heap k1 k2 l1 l2).get? (zA s.heap k1 l1).objs.size = some _ := uC _ _ (Heap.get?_push_size _ rfl)
  have gA : (zE s.heap k1 k2 l1 l2).get? s.heap.objs.size = some _ := uB _ _ (Heap.get?_push_size _ rfl)
  rw [eD, eB, eC] at gE
  rw [eB, eA] at gC
  rw [eC] at gD
  rw [eA] at gB
  show _ ∧ _
  rw [eD]
  exact ⟨⟨_, gE, rfl⟩, h _ _ rfl gE gC gD (HIt.mk0 gA) (HIt.mk0 gB) uA⟩
theorem typeCall_zip3 (a b c : Value) : checkTypeCall "zip" ⟨[a, b, c], []⟩ = pure () := by kernel_rfl
theorem newCall_zip3 (a b c : Value) : checkBuiltinCall "zip.__new__" ⟨[.type "zip", a, b, c], []⟩ = pure () := by kernel_rfl
theorem args_object_init4 (a b c d : Value) : argsOk "object.__init__" ⟨[a, b, c, d], []⟩ := by
  unfold argsOk
  rw [signature?_of (id := "object.__init__") (n := ['_', '_', 't', 'i', 'n', 'i', '_', '_']) (o := ['t', 'c', 'e', 'j', 'b', 'o']) (by kernel_rfl) F.owner_object]
  kernel_rfl
def yB (h : Heap) (k1 k2 k3 : Bool) (l1 l2 l3 : Addr) : Heap := (zB h k1 k2 l1 l2).push (itO k3 l3)
def yC (h : Heap) (k1 k2 k3 : Bool) (l1 l2 l3 : Addr) : Heap := (yB h k1 k2 k3 l1 l2 l3).push { cls := .type "tuple", data := .seq #[.ref h.objs.size, .ref (zA h k1 l1).objs.size, .ref (zB h k1 k2 l1 l2).objs.size] }
def yD (h : Heap) (k1 k2 k3 : Bool) (l1 l2 l3 : Addr) : Heap := (yC h k1 k2 k3 l1 l2 l3).push { cls := .type "tuple", data := .seq #[.none, .none, .none] }
def yE (h : Heap) (k1 k2 k3 : Bool) (l1 l2 l3 : Addr) : Heap := (yD h k1 k2 k3 l1 l2 l3).push { cls := .type "zip", data := .fields #[.none, .bool false, .bool false, .ref (yB h k1 k2 k3 l1 l2 l3).objs.size, .ref (yC h k1 k2 k3 l1 l2 l3).objs.size] }
theorem zip_new3 (k1 k2 k3 : Bool) (l1 l2 l3 : Addr) (xs ys zs : Array Value) :
    Meets (Builtin.«zip.__new__» ⟨[.type "zip", .ref l1, .ref l2, .ref l3], []⟩) (fun _ R s => HSq k1 s.heap l1 xs ∧ HSq k2 s.heap l2 ys ∧ HSq k3 s.heap l3 zs ∧
      R (.ok (.ret (.ref (yD s.heap k1 k2 k3 l1 l2 l3).objs.size))) { s with heap := yE s.heap k1 k2 k3 l1 l2 l3 }) :=
  .of_wp fun prog w A R s h => by
    obtain ⟨hp, g, d, tk, os⟩ := s
    obtain ⟨q1, q2, q3, h⟩ := h
    have hsub := sub_zip
    have p1 : HSq k1 (Shared.heap ⟨hp, g, d, tk, os⟩) l1 xs := q1
    have p2 : HSq k2 (Shared.heap ⟨hp.push (itO k1 l1), g, d, tk, os⟩) l2 ys := HSq.push q2 _
    have p3 : HSq k3 (Shared.heap ⟨(hp.push (itO k1 l1)).push (itO k2 l2), g, d, tk, os⟩) l3 zs := HSq.push (HSq.push q3 _) _
    wp_walk using iterK p1, iterK p2, iterK p3
    exact ⟨_, rfl, h⟩
theorem zip_call3 {k1 k2 k3 : Bool} {l1 l2 l3 : Addr} {xs ys zs : Array Value} {Q : Value → Shared → Prop} (q1 : HSq k1 s.heap l1 xs) (q2 : HSq k2 s.heap l2 ys) (q3 : HSq k3 s.heap l3 zs)
    (h : ∀ h' n, n = s.heap.objs.size → IsZip h' (n + 5) (n + 3) (n + 4) .none → IsTupOf3 h' (n + 3) (.ref n) (.ref (n + 1)) (.ref (n + 2)) → IsTupOf3 h' (n + 4) .none .none .none → HIt k1 h' n l1 0 → HIt k2 h' (n + 1) l2 0 → HIt k3 h' (n + 2) l3 0 →
      (∀ c o, s.heap.get? c = some o → h'.get? c = some o) → Q (.ref (n + 5)) { s with heap := h' }) :
    wpAny (model prog w) A (call (.type "zip") [.ref l1, .ref l2, .ref l3]) Q E s := by
  refine callType_new F.called_zip (by decide) (typeCall_zip3 _ _ _) (newCall_zip3 _ _ _) (fun obj => args_object_init4 obj _ _ _) F.entry_zip_new (zip_new3 k1 k2 k3 l1 l2 l3 xs ys zs) ⟨q1, q2, q3, ?_⟩
  have eA : (zA s.heap k1 l1).objs.size = s.heap.objs.size + 1 := Heap.size_push ..
  have eB : (zB s.heap k1 k2 l1 l2).objs.size = s.heap.objs.size + 2 := by unfold zB; rw [Heap.size_push, eA]
  have eF : (yB s.heap k1 k2 k3 l1 l2 l3).objs.size = s.heap.objs.size + 3 := by unfold yB; rw [Heap.size_push, eB]
  have eC : (yC s.heap k1 k2 k3 l1 l2 l3).objs.size = s.heap.objs.size + 4 := by unfold yC; rw [Heap.size_push, eF]
  have eD : (yD s.heap k1 k2 k3 l1 l2 l3).objs.size = s.heap.objs.size + 5 := by unfold yD; rw [Heap.size_push, eC]
  have uE : ∀ c o, (yD s.heap k1 k2 k3 l1 l2 l3).get? c = some o → (yE s.heap k1 k2 k3 l1 l2 l3).get? c = some o := fun c o e => Heap.get?_push_of_some _ e
  have uD : ∀ c o, (yC s.heap k1 k2 k3 l1 l2 l3).get? c = some o → (yE s.heap k1 k2 k3 l1 l2 l3).get? c = some o := fun c o e => uE c o (Heap.get?_push_of_some _ e)
  have uF : ∀ c o, (yB s.heap k1 k2 k3 l1 l2 l3).get? c = some o → (yE s.heap k1 k2 k3 l1 l2 l3).get? c = some o := fun c o e => uD c o (Heap.get?_push_of_some _ e)
  have uC : ∀ c o, (zB s.heap k1 k2 l1 l2).get? c = some o → (yE s.heap k1 k2 k3 l1 l2 l3).get? c = some o := fun c o e => uF c o (Heap.get?_push_of_some _ e)
  have uB : ∀ c o, (zA s.heap k1 l1).get? c = some o → (yE s.heap k1 k2 k3 l1 l2 l3).get? c = some o := fun c o e => uC c o (Heap.get?_push_of_some _ e)
  have uA : ∀ c o, s.heap.get? c = some o → (yE s.heap k1 k2 k3 l1 l2 l3).get? c = some o := fun c o e => uB c o (Heap.get?_push_of_some _ e)
  have gE : (yE s.heap k1 k2 k3 l1 l2 l3).get? (yD s.heap k1 k2 k3 l1 l2 l3).objs.size = some _ := Heap.get?_push_size _ rfl
  have gD : (yE s.heap k1 k2 k3 l1 l2 l3).get? (yC s.heap k1 k2 k3 l1 l2 l3).objs.size = some _ := uE _ _ (Heap.get?_push_size _ rfl)
  have gC : (yE s.heap k1 k2 k3 l1 l2 l3).get? (yB s.heap k1 k2 k3 l1 l2 l3).objs.size = some _ := uD _ _ (Heap.get?_push_size _ rfl)
  have gF : (yE s.heap k1 k2 k3 l1 l2 l3).get? (zB s.heap k1 k2 l1 l2).objs.size = some _ := uF _ _ (Heap.get?_push_size _ rfl)
  have gB : (yE s.heap k1 k2 k3 l1 l2 l3).get? (zA s.heap k1 l1).objs.size = some _ := uC _ _ (Heap.get?_push_size _ rfl)
  have gA : (yE s.heap k1 k2 k3 l1 l2 l3).get? s.heap.objs.size = some _ := uB _ _ (Heap.get?_push_size _ rfl)
  rw [eD, eF, eC] at gE
  rw [eF, eA, eB] at gC
  rw [eC] at gD
  rw [eB] at gF
  rw [eA] at gB
  show _ ∧ _
  rw [eD]
  exact ⟨⟨_, gE, rfl⟩, h _ _ rfl gE gC gD (HIt.mk0 gA) (HIt.mk0 gB) (HIt.mk0 gF) uA⟩
end
section
variable {X : Cx} {pins : List (Addr × Obj)} {σ : L2.St} {H : Hp} {s : Shared}
theorem seqK {k : Bool} {a : Addr} {xs : List V} (I : Inv X pins σ H s) (h : SqK X.K k H a xs) : ∃ its : List Value, Vals xs its ∧ HSq k s.heap a its.toArray := by
  cases k
  · obtain ⟨its, r, p, _⟩ := I.list (show SqL X.K H a xs from h)
    exact ⟨its, r, p.isList⟩
  · obtain ⟨its, r, p, _⟩ := I.tuple (show SqT X.K H a xs from h)
    exact ⟨its, r, p⟩
theorem seqK_inj {k : Bool} {a : Addr} {xs ys : List V} (I : Inv X pins σ H s) (h : SqK X.K k H a xs) (h' : SqK X.K k H a ys) : xs = ys := by
  cases k
  · exact I.list_inj (show SqL X.K H a xs from h) h'
  · exact I.tuple_inj (show SqT X.K H a xs from h) h'
theorem hd_in1 {A : Around} (h : A.handled = none) : A.in1.handled = none := h
end
/-- two sequences as they stand at each turn, the items in new pairs -/
def It2 (K : PySem.W.Frag) (k1 k2 : Bool) (a b : Addr) : It :=
  ⟨fun i H => ∃ (xs ys : List V), SqK K k1 H a xs ∧ SqK K k2 H b ys ∧ i < xs.length ∧ i < ys.length,
    fun i H v H' => ∃ T x y, v = .ref T ∧ H T = none ∧ H' = upd H T (.tup [x, y]) ∧ (∀ xs, SqK K k1 H a xs → xs[i]? = some x) ∧ (∀ ys, SqK K k2 H b ys → ys[i]? = some y),
    fun i H => ∃ xs ys : List V, SqK K k1 H a xs ∧ SqK K k2 H b ys ∧ i ≤ xs.length ∧ i ≤ ys.length ∧ (i = xs.length ∨ i = ys.length)⟩
structure Ap2 (n z TI TO i1 i2 a b : Addr) : Prop where
  e0 : i1 = n
  e1 : i2 = n + 1
  e2 : TI = n + 2
  e3 : TO = n + 3
  e4 : z = n + 4
  la : a < n
  lb : b < n
theorem nin2 {z i a : Nat} (h : z ≠ i ∧ z ≠ a) : z ∉ [i, a] := by
  intro h2
  rcases List.mem_cons.mp h2 with e | h2
  · exact h.1 e
  · exact h.2 (List.mem_singleton.mp h2)
theorem sepN (n a b : Nat) (la : a < n) (lb : b < n) : ZipSep2 (n + 4) (n + 2) (n + 3) n (n + 1) [n, a] [n + 1, b] where
  TIz := show @Ne Nat _ _ by omega
  TOz := show @Ne Nat _ _ by omega
  TITO := show @Ne Nat _ _ by omega
  TIi1 := show @Ne Nat _ _ by omega
  mem1 := List.mem_cons_self
  zf1 := nin2 (by omega)
  Tf1 := nin2 (by omega)
  TIi2 := show @Ne Nat _ _ by omega
  mem2 := List.mem_cons_self
  zf2 := nin2 (by omega)
  Tf2 := nin2 (by omega)
  sep1_2 := nin2 (by omega)
  sep2_1 := nin2 (by omega)
theorem Ap2.sep {n z TI TO i1 i2 a b : Addr} (D : Ap2 n z TI TO i1 i2 a b) : ZipSep2 z TI TO i1 i2 [i1, a] [i2, b] := by
  obtain ⟨rfl, rfl, rfl, rfl, rfl, la, lb⟩ := D
  exact sepN _ a b la lb
theorem Ap2.na {n z TI TO i1 i2 a b : Addr} (D : Ap2 n z TI TO i1 i2 a b) : a ≠ i1 := by
  rw [D.e0]
  exact Nat.ne_of_lt D.la
theorem Ap2.nb {n z TI TO i1 i2 a b : Addr} (D : Ap2 n z TI TO i1 i2 a b) : b ≠ i2 := by
  rw [D.e1]
  exact Nat.ne_of_lt (Nat.lt_succ_of_lt D.lb)
theorem vals_of : ∀ {xs : List V} {us : List Value} {i : Nat} {u : Value}, Vals xs us → us[i]? = some u → ∃ x, xs[i]? = some x ∧ RelV x u
  | _, _, _, _, .nil, e => by simp at e
  | _, _, 0, _, .cons r _, e => by
    have e' := Option.some.inj e
    subst e'
    exact ⟨_, rfl, r⟩
  | _, _, i + 1, u, .cons _ t, e => by
    obtain ⟨x, h1, h2⟩ := vals_of (i := i) (u := u) t e
    exact ⟨x, h1, h2⟩
theorem turn2 {P : Program} {w : World} {K : PySem.W.Frag} {k1 k2 : Bool} {elts : List Expr} {kk : Nat} {tpos : Pos} {n a b z TI TO i1 i2 : Addr} (D : Ap2 n z TI TO i1 i2 a b) :
    Turn P w K (.Tuple elts kk tpos) (It2 K k1 k2 a b) [z, TI, TO, i1, i2] z (fun i h => IsZip h z TI TO .none ∧ IsTupOf2 h TI (.ref i1) (.ref i2) ∧ (∃ x y, IsTupOf2 h TO x y) ∧ HIt k1 h i1 a i ∧ HIt k2 h i2 b i) := by
  have S := D.sep
  have na := D.na
  have nb := D.nb
  refine ⟨by simp, fun i h st c hc => ?_, fun i h h' st k => ?_, ?_, ?_, fun A i s Q E st h => wpAny_pyIter_zip st.1 h⟩
  · obtain ⟨z1, z2, ⟨x, y, z3⟩, z4, z5⟩ := st
    simp only [List.mem_cons, List.not_mem_nil, or_false] at hc
    rcases hc with q | q | q | q | q <;> rw [q]
    · exact ⟨_, z1, fun v q => nomatch q⟩
    · exact ⟨_, z2, fun v q => nomatch q⟩
    · exact ⟨_, z3, fun v q => nomatch q⟩
    · exact z4.obj
    · exact z5.obj
  · obtain ⟨z1, z2, ⟨x, y, z3⟩, z4, z5⟩ := st
    exact ⟨k z (by simp) _ z1, k TI (by simp) _ z2, ⟨x, y, k TO (by simp) _ z3⟩, z4.at fun o q => k i1 (by simp) o q, z5.at fun o q => k i2 (by simp) o q⟩
  · intro X hP hw hK hc i pins s σ H E I hf st hg
    subst hP hw hK
    obtain ⟨z1, z2, ⟨x0, y0, z3⟩, z4, z5⟩ := st
    obtain ⟨xs, ys, sx, sy, hx, hy⟩ := hg
    obtain ⟨its, rv, p⟩ := seqK I sx
    obtain ⟨its2, rv2, p2⟩ := seqK I sy
    have hh := hd_in1 (I.ok.hd hc)
    have l1 := rv.length
    have l2 := rv2.length
    have zlt : z < s.heap.objs.size := Heap.lt_size z1
    have lti : ∀ c ∈ [z, TI, TO, i1, i2], c < s.heap.objs.size := fun c hcm => by
      simp only [List.mem_cons, List.not_mem_nil, or_false] at hcm
      rcases hcm with q | q | q | q | q <;> rw [q]
      · exact zlt
      · exact Heap.lt_size z2
      · exact Heap.lt_size z3
      · exact z4.lt
      · exact z5.lt
    refine wpAny_pyNext_zipD2_item S (drawsK k1 hh na its.toArray) (drawsK k2 hh nb its2.toArray) z1 z2 z3 ⟨z4, p⟩ ⟨z5, p2⟩ (by simp; omega) (by simp; omega) fun u1 u2 h' tk hu1 hu2 g1 g2 g3 g4 g5 g6 g7 => ?_
    refine ⟨_, rfl, wpAny_letOwnedTupleGo_zip (s := { s with heap := h', toks := tk }) g1 fun h2 y1 sb => ?_⟩
    have hu1' : its[i]? = some u1 := by simpa using hu1
    have hu2' : its2[i]? = some u2 := by simpa using hu2
    obtain ⟨x, hx1, r1⟩ := vals_of rv hu1'
    obtain ⟨y, hy1, r2⟩ := vals_of rv2 hu2'
    have eT : h2.get? s.heap.objs.size = some { cls := .type "tuple", data := .seq #[u1, u2] } := (sb.2 _ (Nat.ne_of_gt zlt)).trans g5
    have new : ObjOk X.prog X.w (upd H s.heap.objs.size (.tup [x, y])) h2 s.heap.objs.size (.tup [x, y]) :=
      ⟨by show 2 ≤ sizeLine; decide, [u1, u2], .cons r1 (.cons r2 .nil), ⟨_, eT, rfl, _, rfl⟩⟩
    have kept : ∀ c o, c ∉ [z, TI, TO, i1, i2] → s.heap.get? c = some o → h2.get? c = some o := fun c o hb q => by
      simp only [List.mem_cons, List.not_mem_nil, or_false, not_or] at hb
      exact (sb.2 c hb.1).trans (g7 c o hb.1 hb.2.2.1 hb.2.2.2.1 hb.2.2.2.2 q)
    have I1 : Inv X pins σ (upd H s.heap.objs.size (.tup [x, y])) { s with heap := h2, toks := tk } := I.turnedNew (t' := tk) kept hf (Nat.le_refl _) new
    refine ⟨.ref s.heap.objs.size, _, I1, rfl, ⟨_, x, y, rfl, I.hok.fresh (Nat.le_refl _), rfl, fun l hl => by rw [seqK_inj I hl sx]; exact hx1, fun l hl => by rw [seqK_inj I hl sy]; exact hy1⟩, ⟨y1, ?_, ⟨u1, u2, ?_⟩, ?_, ?_⟩, fun c hcm => ?_⟩
    · exact (sb.2 _ S.TIz).trans (g7 _ _ S.TIz S.TITO S.TIi1 S.TIi2 z2)
    · exact (sb.2 _ S.TOz).trans g2
    · exact g3.1.at fun o q => (sb.2 _ S.zi1.symm).trans q
    · exact g4.1.at fun o q => (sb.2 _ S.zi2.symm).trans q
    · rw [upd_ne (Nat.ne_of_lt (lti c hcm))]
      exact (hf c hcm).1
  · intro X hP hw hK hc i pins s σ H E I hf st hg
    subst hP hw hK
    obtain ⟨z1, z2, ⟨x0, y0, z3⟩, z4, z5⟩ := st
    obtain ⟨xs, ys, sx, sy, hx, hy, he⟩ := hg
    obtain ⟨its, rv, p⟩ := seqK I sx
    obtain ⟨its2, rv2, p2⟩ := seqK I sy
    have hh := hd_in1 (I.ok.hd hc)
    have l1 := rv.length
    have l2 := rv2.length
    refine wpAny_pyNext_zipD2_end S (drawsK k1 hh na its.toArray) (drawsK k2 hh nb its2.toArray) z1 z2 z3 ⟨z4, p⟩ ⟨z5, p2⟩ (by simp; omega) (by simp; omega) (by simp; omega) fun h' tk g7 => ⟨rfl, ?_⟩
    refine I.turnedL (t' := tk) (ch := [z, TI, TO, i1, i2]) (fun c o hb q => ?_) hf
    simp only [List.mem_cons, List.not_mem_nil, or_false, not_or] at hb
    exact g7 c o hb.1 hb.2.2.1 hb.2.2.2.1 hb.2.2.2.2 q
def iZip2 (K : PySem.W.Frag) (k1 k2 : Bool) (ta : TA) : TI := fun σ H R => ta σ H fun vs H1 => ∃ a b xs ys, vs = [.ref a, .ref b] ∧ SqK K k1 H1 a xs ∧ SqK K k2 H1 b ys ∧ R (It2 K k1 k2 a b) H1
theorem pi_zip2 {X : Cx} {k1 k2 : Bool} {e e2 : Expr} {ta : TA} {p pos tpos : Pos} {elts : List Expr} {kk : Nat} (hg : Gl X "zip") (hm : X.mg "zip" = none) (ha : PA X [e, e2] ta)
    (hst : starEach [e, e2] X.env = (false, eval e X.env) :: starEach [e2] X.env := by rfl) (hpl : (backTo pos (starEach [e2] X.env)).any (·.1) = false := by rfl) :
    PI X (.Tuple elts kk tpos) (.Call (.Name "zip" p) [e, e2] [] pos) (iZip2 X.K k1 k2 ta) := by
  refine ⟨fun pins s σ H R I h => ?_⟩
  refine Call_ (ld_blt I hg hm PyProof.Rows.boot_zip (PyProof.Rows.callWith_type1 (thn (ha.run pos pins s σ H _ I h) fun us s1 ⟨vs, H1, I1, r1, q1⟩ => ?_) hst hpl))
  obtain ⟨a, b, xs, ys, ex, qx, qy, q⟩ := q1
  subst ex
  obtain ⟨its, rv, p1⟩ := seqK I1 qx
  obtain ⟨its2, rv2, p2⟩ := seqK I1 qy
  cases r1 with
  | cons r rr =>
    cases rr with
    | cons r' rr =>
      cases rr
      cases r
      cases r'
      refine zip_call2 p1 p2 fun h' n en g1 g2 g3 g4 g5 hk => wpAny_pyIter_zip g1 ?_
      have I2 : Inv X pins σ H1 { s1 with heap := h' } := I1.kept (t' := s1.toks) hk
      refine ⟨n + 4, [n + 4, n + 2, n + 3, n, n + 1], _, _, H1, rfl, I2, turn2 (n := n) ⟨rfl, rfl, rfl, rfl, rfl, by rw [en]; exact p1.lt, by rw [en]; exact p2.lt⟩, ⟨g1, g2, ⟨_, _, g3⟩, g4, g5⟩, fun c hcm => ?_, q⟩
      have hle : s1.heap.objs.size ≤ c := by
        simp only [List.mem_cons, List.not_mem_nil, or_false] at hcm
        have en' : (n : Nat) = s1.heap.objs.size := en
        rcases hcm with z | z | z | z | z <;> rw [z] <;> omega
      exact I1.fpOk hle (I1.hok.fresh hle)
/-! ### comprehensions whose items are data of tuples -/
theorem bools_inv {K : PySem.W.Frag} {H : Hp} : ∀ {vs : List V} {bs : List Bool}, TpAll K H vs (bs.map PyData.bool) → vs = bs.map V.bl
  | _, [], h => by cases h; rfl
  | _, b :: bs, h => by
    cases h with
    | cons a t => cases a; rw [bools_inv t]; rfl
theorem strs_inv {K : PySem.W.Frag} {H : Hp} : ∀ {vs : List V} {bs : List Str}, TpAll K H vs (bs.map PyData.str) → vs = bs.map V.str
  | _, [], h => by cases h; rfl
  | _, b :: bs, h => by
    cases h with
    | cons a t => cases a; rw [strs_inv t]; rfl
theorem bools_invF {K : PySem.W.Frag} {H : Hp} {α : Type} {vs : List V} {l : List α} {f : α → Bool} (h : TpAll K H vs (l.map fun x => PyData.bool (f x))) : vs = (l.map f).map V.bl := by
  refine bools_inv (K := K) (H := H) (bs := l.map f) ?_
  rw [List.map_map]
  exact h
theorem ints_invF {K : PySem.W.Frag} {H : Hp} {α : Type} {vs : List V} {l : List α} {f : α → Int} (h : TpAll K H vs (l.map fun x => PyData.int (f x))) : vs = (l.map f).map V.int := by
  refine TpAll.ints_inv (K := K) (H := H) (ns := l.map f) ?_
  rw [List.map_map]
  exact h
theorem TpAll.bools {K : PySem.W.Frag} {H : Hp} : ∀ bs : List Bool, TpAll K H (bs.map V.bl) (bs.map PyData.bool)
  | [] => .nil
  | b :: bs => .cons (.bl b) (TpAll.bools bs)
theorem TpAll.strs {K : PySem.W.Frag} {H : Hp} : ∀ bs : List Str, TpAll K H (bs.map V.str) (bs.map PyData.str)
  | [] => .nil
  | b :: bs => .cons (.str b) (TpAll.strs bs)
theorem rfm_all {α : Type} (n : Nat) (f : Nat → α) : (List.range n).filterMap (fun i => some (f i)) = (List.range n).map f := congrFun List.filterMap_eq_map _
theorem rfm_succ {α : Type} (n : Nat) (f : Nat → Option α) : (List.range (n + 1)).filterMap f = (List.range n).filterMap f ++ (f n).toList := by
  rw [List.range_succ, List.filterMap_append]
  congr 1
theorem range_map_get {α β : Type} (xs : List α) (f : α → β) (g : Nat → β) (h : ∀ i x, xs[i]? = some x → g i = f x) : (List.range xs.length).map g = xs.map f := by
  apply List.ext_getElem?
  intro i
  rw [List.getElem?_map, List.getElem?_map]
  by_cases hi : i < xs.length
  · rw [List.getElem?_range hi, List.getElem?_eq_getElem hi]
    exact congrArg some (h i _ (List.getElem?_eq_getElem hi))
  · rw [List.getElem?_eq_none (by rw [List.length_range]; omega), List.getElem?_eq_none (by omega)]
    rfl
theorem range_pick1 {α β : Type} (xs : List α) (f : α → β) : ∀ n, n ≤ xs.length → (List.range n).filterMap (fun i => (xs[i]?).map f) = (xs.take n).map f
  | 0, _ => rfl
  | n + 1, h => by
    rw [rfm_succ, range_pick1 xs f n (by omega), List.take_add_one, List.map_append, List.getElem?_eq_getElem (show n < xs.length by omega)]
    rfl
theorem range_pick {α β : Type} (xs : List α) (f : α → β) : (List.range xs.length).filterMap (fun i => (xs[i]?).map f) = xs.map f := by
  rw [range_pick1 xs f _ (Nat.le_refl _), List.take_length]
theorem gi_get {ns : List Int} {i : Nat} {x : Int} (h : ns[i]? = some x) : gi ns (i : Int) = x := by
  obtain ⟨h1, h2⟩ := List.getElem?_eq_some_iff.mp h
  rw [gi_nat h1]
  exact h2
section
variable {σ : L2.St} {H H0 : Hp} {Q : VK} {te : TE} {tt : TT} {g : TG} {j : Int} {K : PySem.W.Frag} {L : List (Addr × HO)} {J : It} {vs : List Nat}
/-- what a turn's target is to reach: the test and the item there -/
def CGo (K : PySem.W.Frag) (tt : TT) (te : TE) (vs : List Nat) (σ : L2.St) (od : Option PyData) (H' : Hp) (R : L2.St → Hp → Prop) : Prop :=
  ∀ σ2, wipe σ2 vs = wipe σ vs → (∀ Qb : Bool → Hp → Prop, (∀ H2, Same H' H2 → Qb od.isSome H2) → tt σ2 H' Qb) → (∀ d H2, od = some d → Same H' H2 → ∀ Qv : VK, RetD K H2 Qv d → te σ2 H2 Qv) → R σ2 H'
theorem lcJ (n : Nat) (sel : Nat → Option PyData) (o : Own H0 H L) (hz : n < 10000000)
    (hst : ∀ H' p zs, Own H0 H' ((p, .lst zs) :: L) → Stp H H' → J.stop n H')
    (hgo : ∀ i H' p zs, i < n → Own H0 H' ((p, .lst zs) :: L) → Stp H H' → J.go i H')
    (he : ∀ (i : Nat) (x : V) (p : Addr) (zs : List V) (H' H1 : Hp) (R : L2.St → Hp → Prop), i < n → Own H0 H' ((p, .lst zs) :: L) → Stp H H' → J.yld i H' x H1 → (Same H' H1 → CGo K tt te vs σ (sel i) H1 R) → g x (wipe σ vs) H1 R)
    (hs : ∀ i H' x H1, J.yld i H' x H1 → Same H' H1)
    (k : ∀ p H' zs, Stp H H' → Own H0 H' ((p, .lst zs) :: L) → TpAll K H' zs ((List.range n).filterMap sel) → Q (.ref p) H') : RLc J g tt te vs σ H Q := by
  intro P hP
  refine ⟨fun i m H' => m = n - i ∧ i ≤ n ∧ ∃ zs, Own H0 H' ((P, .lst zs) :: L) ∧ Stp H H' ∧ TpAll K H' zs ((List.range i).filterMap sel), ⟨n, rfl, Nat.zero_le _, [], o.new hP, .of (same_new hP), .nil⟩, ?_⟩
  rintro i m H' ⟨rfl, hi, zs, o', s', t'⟩
  by_cases hlt : i < n
  · refine .inr ⟨hgo i H' P zs hlt o' s', fun H2 => ∃ zs, Own H0 H2 ((P, .lst zs) :: L) ∧ Stp H H2 ∧ TpAll K H2 zs ((List.range (i + 1)).filterMap sel), fun H2 p2 => ⟨n - (i + 1), by omega, rfl, hlt, p2⟩, fun x H1 hy => ?_⟩
    have s1 := hs i H' x H1 hy
    refine he i x P zs H' H1 _ hlt o' s' hy fun _ σ2 hw ht hv => ⟨hw, ?_⟩
    have o1 := o'.mono s1
    refine ht _ fun H2 s2 => ?_
    have o2 := o1.mono s2
    have t2 := (t'.up (.of s1)).up (Stp.of s2)
    have hl := t2.len
    have hl2 := fm_le (List.range i) sel
    rw [List.length_range] at hl2
    cases e : sel i with
    | none =>
      show ∃ zs, _
      rw [rfm_succ, e]
      exact ⟨zs, o2, (s'.trans (.of s1)).trans (.of s2), by rw [Option.toList_none, List.append_nil]; exact t2⟩
    | some d =>
      refine iteT (B := ∃ zs, Own H0 H2 ((P, .lst zs) :: L) ∧ Stp H H2 ∧ TpAll K H2 zs ((List.range (i + 1)).filterMap sel)) (hv d H2 e s2 _ fun H4 v s4 tv => ?_)
      have o4 := o2.mono s4
      have s5 := Stp.set (u := .lst (zs ++ [v])) (o4.at 0 rfl)
      refine ⟨zs, o4.at 0 rfl, sz_lt (by omega), zs ++ [v], o4.set (v := .lst (zs ++ [v])) 0 rfl, (((s'.trans (.of s1)).trans (.of s2)).trans (.of s4)).trans s5, ?_⟩
      rw [rfm_succ, e]
      exact (((t2.up (.of s4)).snoc tv).up s5)
  · refine .inl ⟨?_, ?_⟩
    · have e : i = n := by omega
      subst e
      exact hst H' P zs o' s'
    · have e : i = n := by omega
      subst e
      exact k P H' zs s' o' t'
/-- over a tuple -/
theorem lcjT {a : Addr} {xs : List V} (sel : Nat → Option PyData) (o : Own H0 H L) (h1 : SqT K H a xs) (hz : xs.length < 10000000)
    (he : ∀ (i : Nat) (x : V) (p : Addr) (zs : List V) (H' : Hp) (R : L2.St → Hp → Prop), xs[i]? = some x → Own H0 H' ((p, .lst zs) :: L) → Stp H H' → CGo K tt te vs σ (sel i) H' R → g x (wipe σ vs) H' R)
    (k : ∀ p H' zs, Stp H H' → Own H0 H' ((p, .lst zs) :: L) → TpAll K H' zs ((List.range xs.length).filterMap sel) → Q (.ref p) H') :
    ∃ a', V.ref a = .ref a' ∧ (∃ xs, SqT K H a' xs) ∧ RLc (Itt K a') g tt te vs σ H Q := by
  refine ⟨a, rfl, ⟨xs, h1⟩, lcJ xs.length sel o hz (fun H' p zs _ s' => ⟨xs, s'.sq h1, Nat.le_refl _⟩) (fun i H' p zs hi _ s' => ⟨xs, _, s'.sq h1, List.getElem?_eq_getElem hi⟩) (fun i x p zs H' H1 R hi o' s' hy r => ?_) (fun i H' x H1 hy => by rw [hy.1]; exact Same.refl _) k⟩
  obtain ⟨e, hx⟩ := hy
  subst e
  exact he i x p zs H1 R (hx xs (s'.sq h1)) o' s' (r (Same.refl _))
/-- over a list -/
theorem lcjL {a : Addr} {xs : List V} (sel : Nat → Option PyData) (o : Own H0 H L) (h : ∀ H' p zs, Own H0 H' ((p, .lst zs) :: L) → SqL K H' a xs) (h1 : SqL K H a xs) (hz : xs.length < 10000000)
    (he : ∀ (i : Nat) (x : V) (p : Addr) (zs : List V) (H' : Hp) (R : L2.St → Hp → Prop), xs[i]? = some x → Own H0 H' ((p, .lst zs) :: L) → Stp H H' → CGo K tt te vs σ (sel i) H' R → g x (wipe σ vs) H' R)
    (k : ∀ p H' zs, Stp H H' → Own H0 H' ((p, .lst zs) :: L) → TpAll K H' zs ((List.range xs.length).filterMap sel) → Q (.ref p) H') :
    ∃ a', V.ref a = .ref a' ∧ (∃ xs, SqL K H a' xs) ∧ RLc (Itl K a') g tt te vs σ H Q := by
  refine ⟨a, rfl, ⟨xs, h1⟩, lcJ xs.length sel o hz (fun H' p zs o' _ => ⟨xs, h H' p zs o', Nat.le_refl _⟩) (fun i H' p zs hi o' s' => ⟨xs, _, h H' p zs o', List.getElem?_eq_getElem hi⟩) (fun i x p zs H' H1 R hi o' s' hy r => ?_) (fun i H' x H1 hy => by rw [hy.1]; exact Same.refl _) k⟩
  obtain ⟨e, hx⟩ := hy
  subst e
  exact he i x p zs H1 R (hx xs (h H1 p zs o')) o' s' (r (Same.refl _))
/-- over range(n) -/
theorem lcjR {n : Nat} (sel : Nat → Option PyData) (o : Own H0 H L) (hn : j = (n : Int)) (hz : n < 10000000)
    (he : ∀ (i : Nat) (p : Addr) (zs : List V) (H' : Hp) (R : L2.St → Hp → Prop), i < n → Own H0 H' ((p, .lst zs) :: L) → Stp H H' → CGo K tt te vs σ (sel i) H' R → g (.int (i : Int)) (wipe σ vs) H' R)
    (k : ∀ p H' zs, Stp H H' → Own H0 H' ((p, .lst zs) :: L) → TpAll K H' zs ((List.range n).filterMap sel) → Q (.ref p) H') :
    ∃ k : Int, [V.int j] = [.int k] ∧ -(2 ^ 62) ≤ k ∧ k < 2 ^ 62 ∧ RLc (Itr 0 k.toNat) g tt te vs σ H Q := by
  refine ⟨j, rfl, by omega, by omega, ?_⟩
  have e : j.toNat = n := by omega
  rw [e]
  refine lcJ n sel o hz (fun H' p zs _ _ => Nat.le_refl _) (fun i H' p zs hi _ _ => hi) (fun i x p zs H' H1 R hi o' s' hy r => ?_) (fun i H' x H1 hy => by rw [hy.1]; exact Same.refl _) k
  obtain ⟨e, rfl⟩ := hy
  subst e
  have e0 : (0 : Int) + (i : Int) = (i : Int) := Int.zero_add _
  rw [e0]
  exact he i p zs H1 R hi o' s' (r (Same.refl _))
/-- over zip of two tuples, the shorter one ends it -/
theorem lcjZ {a b : Addr} {xs ys : List V} {n : Nat} (sel : Nat → Option PyData) (o : Own H0 H L) (h1 : SqT K H a xs) (h2 : SqT K H b ys) (hn : n = min xs.length ys.length) (hz : n < 10000000)
    (he : ∀ (i : Nat) (x y : V) (T : Addr) (p : Addr) (zs : List V) (H' : Hp) (R : L2.St → Hp → Prop), xs[i]? = some x → ys[i]? = some y → SqT K H' T [x, y] → Own H0 H' ((p, .lst zs) :: L) → Stp H H' → CGo K tt te vs σ (sel i) H' R → g (.ref T) (wipe σ vs) H' R)
    (k : ∀ p H' zs, Stp H H' → Own H0 H' ((p, .lst zs) :: L) → TpAll K H' zs ((List.range n).filterMap sel) → Q (.ref p) H') :
    RZipA K [.ref a, .ref b] H fun J H1 => RLc J g tt te vs σ H1 Q := by
  refine ⟨a, b, xs, ys, rfl, .inr ⟨h1, h2, lcJ n sel o hz (fun H' p zs _ s' => ⟨xs, ys, s'.sq h1, s'.sq h2, by omega⟩) (fun i H' p zs hi _ s' => ⟨xs, ys, _, _, s'.sq h1, s'.sq h2, List.getElem?_eq_getElem (by omega), List.getElem?_eq_getElem (by omega)⟩) (fun i x p zs H' H1 R hi o' s' hy r => ?_) (fun i H' x H1 hy => ?_) k⟩⟩
  · obtain ⟨T, u, v, rfl, hT, rfl, f1, f2⟩ := hy
    have s1 : Same H' (upd H' T (.tup [u, v])) := same_new hT
    exact he i u v T p zs _ R (f1 xs (s'.sq h1)) (f2 ys (s'.sq h2)) (SqT.of upd_same) (o'.mono s1) (s'.trans (.of s1)) (r s1)
  · obtain ⟨T, u, v, rfl, hT, rfl, f1, f2⟩ := hy
    exact same_new hT
/-- over zip of two lists -/
theorem lcjZL {a b : Addr} {xs ys : List V} {n : Nat} (sel : Nat → Option PyData) (o : Own H0 H L) (h : ∀ H' p zs, Own H0 H' ((p, .lst zs) :: L) → SqL K H' a xs ∧ SqL K H' b ys) (h1 : SqL K H a xs) (h2 : SqL K H b ys) (hn : n = min xs.length ys.length) (hz : n < 10000000)
    (he : ∀ (i : Nat) (x y : V) (T : Addr) (p : Addr) (zs : List V) (H' : Hp) (R : L2.St → Hp → Prop), xs[i]? = some x → ys[i]? = some y → SqT K H' T [x, y] → Own H0 H' ((p, .lst zs) :: L) → Stp H H' → CGo K tt te vs σ (sel i) H' R → g (.ref T) (wipe σ vs) H' R)
    (k : ∀ p H' zs, Stp H H' → Own H0 H' ((p, .lst zs) :: L) → TpAll K H' zs ((List.range n).filterMap sel) → Q (.ref p) H') :
    RZipA K [.ref a, .ref b] H fun J H1 => RLc J g tt te vs σ H1 Q := by
  refine ⟨a, b, xs, ys, rfl, .inl ⟨h1, h2, lcJ n sel o hz (fun H' p zs o' s' => ⟨xs, ys, (h H' p zs o').1, (h H' p zs o').2, by omega⟩) (fun i H' p zs hi o' s' => ⟨xs, ys, _, _, (h H' p zs o').1, (h H' p zs o').2, List.getElem?_eq_getElem (by omega), List.getElem?_eq_getElem (by omega)⟩) (fun i x p zs H' H1 R hi o' s' hy r => ?_) (fun i H' x H1 hy => ?_) k⟩⟩
  · obtain ⟨T, u, v, rfl, hT, rfl, f1, f2⟩ := hy
    have s1 : Same H' (upd H' T (.tup [u, v])) := same_new hT
    exact he i u v T p zs _ R (f1 xs (h H' p zs o').1) (f2 ys (h H' p zs o').2) (SqT.of upd_same) (o'.mono s1) (s'.trans (.of s1)) (r s1)
  · obtain ⟨T, u, v, rfl, hT, rfl, f1, f2⟩ := hy
    exact same_new hT
/-- enumerate(list) -/
theorem lcjE {a : Addr} {xs : List V} (sel : Nat → Option PyData) (o : Own H0 H L) (h : ∀ H' p zs, Own H0 H' ((p, .lst zs) :: L) → SqL K H' a xs) (h1 : SqL K H a xs) (hz : xs.length < 10000000)
    (he : ∀ (i : Nat) (x : V) (T : Addr) (p : Addr) (zs : List V) (H' : Hp) (R : L2.St → Hp → Prop), xs[i]? = some x → SqT K H' T [.int (i : Int), x] → Own H0 H' ((p, .lst zs) :: L) → Stp H H' → CGo K tt te vs σ (sel i) H' R → g (.ref T) (wipe σ vs) H' R)
    (k : ∀ p H' zs, Stp H H' → Own H0 H' ((p, .lst zs) :: L) → TpAll K H' zs ((List.range xs.length).filterMap sel) → Q (.ref p) H') :
    ∃ a' xs', [V.ref a] = [.ref a'] ∧ SqL K H a' xs' ∧ RLc (Ite K a') g tt te vs σ H Q := by
  refine ⟨a, xs, rfl, h1, lcJ xs.length sel o hz (fun H' p zs o' _ => ⟨xs, h H' p zs o', Nat.le_refl _⟩) (fun i H' p zs hi o' s' => ⟨xs, _, h H' p zs o', List.getElem?_eq_getElem hi⟩) (fun i x p zs H' H1 R hi o' s' hy r => ?_) (fun i H' x H1 hy => ?_) k⟩
  · obtain ⟨T, u, rfl, hT, rfl, f1⟩ := hy
    have s1 : Same H' (upd H' T (.tup [.int (i : Nat), u])) := same_new hT
    exact he i u T p zs _ R (f1 xs (h H' p zs o')) (SqT.of upd_same) (o'.mono s1) (s'.trans (.of s1)) (r s1)
  · obtain ⟨T, u, rfl, hT, rfl, f1⟩ := hy
    exact same_new hT
end
/-- three sequences as they stand at each turn, the items in new triples -/
def It3 (K : PySem.W.Frag) (k1 k2 k3 : Bool) (a b d : Addr) : It :=
  ⟨fun i H => ∃ (xs ys zs : List V), SqK K k1 H a xs ∧ SqK K k2 H b ys ∧ SqK K k3 H d zs ∧ i < xs.length ∧ i < ys.length ∧ i < zs.length,
    fun i H v H' => ∃ T x y u, v = .ref T ∧ H T = none ∧ H' = upd H T (.tup [x, y, u]) ∧ (∀ xs, SqK K k1 H a xs → xs[i]? = some x) ∧ (∀ ys, SqK K k2 H b ys → ys[i]? = some y) ∧ (∀ zs, SqK K k3 H d zs → zs[i]? = some u),
    fun i H => ∃ xs ys zs : List V, SqK K k1 H a xs ∧ SqK K k2 H b ys ∧ SqK K k3 H d zs ∧ i ≤ xs.length ∧ i ≤ ys.length ∧ i ≤ zs.length ∧ (i = xs.length ∨ i = ys.length ∨ i = zs.length)⟩
structure Ap3 (n z TI TO i1 i2 i3 a b d : Addr) : Prop where
  e0 : i1 = n
  e1 : i2 = n + 1
  e5 : i3 = n + 2
  e2 : TI = n + 3
  e3 : TO = n + 4
  e4 : z = n + 5
  la : a < n
  lb : b < n
  ld : d < n
theorem sepN3 (n a b d : Nat) (la : a < n) (lb : b < n) (ld : d < n) : ZipSep3 (n + 5) (n + 3) (n + 4) n (n + 1) (n + 2) [n, a] [n + 1, b] [n + 2, d] where
  TIz := show @Ne Nat _ _ by omega
  TOz := show @Ne Nat _ _ by omega
  TITO := show @Ne Nat _ _ by omega
  TIi1 := show @Ne Nat _ _ by omega
  mem1 := List.mem_cons_self
  zf1 := nin2 (by omega)
  Tf1 := nin2 (by omega)
  TIi2 := show @Ne Nat _ _ by omega
  mem2 := List.mem_cons_self
  zf2 := nin2 (by omega)
  Tf2 := nin2 (by omega)
  TIi3 := show @Ne Nat _ _ by omega
  mem3 := List.mem_cons_self
  zf3 := nin2 (by omega)
  Tf3 := nin2 (by omega)
  sep1_2 := nin2 (by omega)
  sep1_3 := nin2 (by omega)
  sep2_1 := nin2 (by omega)
  sep2_3 := nin2 (by omega)
  sep3_1 := nin2 (by omega)
  sep3_2 := nin2 (by omega)
theorem Ap3.sep {n z TI TO i1 i2 i3 a b d : Addr} (D : Ap3 n z TI TO i1 i2 i3 a b d) : ZipSep3 z TI TO i1 i2 i3 [i1, a] [i2, b] [i3, d] := by
  obtain ⟨rfl, rfl, rfl, rfl, rfl, rfl, la, lb, ld⟩ := D
  exact sepN3 _ a b d la lb ld
theorem Ap3.na {n z TI TO i1 i2 i3 a b d : Addr} (D : Ap3 n z TI TO i1 i2 i3 a b d) : a ≠ i1 := by
  rw [D.e0]
  exact Nat.ne_of_lt D.la
theorem Ap3.nb {n z TI TO i1 i2 i3 a b d : Addr} (D : Ap3 n z TI TO i1 i2 i3 a b d) : b ≠ i2 := by
  rw [D.e1]
  exact Nat.ne_of_lt (Nat.lt_succ_of_lt D.lb)
theorem Ap3.nd {n z TI TO i1 i2 i3 a b d : Addr} (D : Ap3 n z TI TO i1 i2 i3 a b d) : d ≠ i3 := by
  rw [D.e5]
  exact Nat.ne_of_lt (Nat.lt_succ_of_lt (Nat.lt_succ_of_lt D.ld))
theorem turn3 {P : Program} {w : World} {K : PySem.W.Frag} {k1 k2 k3 : Bool} {elts : List Expr} {kk : Nat} {tpos : Pos} {n a b d z TI TO i1 i2 i3 : Addr} (D : Ap3 n z TI TO i1 i2 i3 a b d) :
    Turn P w K (.Tuple elts kk tpos) (It3 K k1 k2 k3 a b d) [z, TI, TO, i1, i2, i3] z (fun i h => IsZip h z TI TO .none ∧ IsTupOf3 h TI (.ref i1) (.ref i2) (.ref i3) ∧ (∃ x y u, IsTupOf3 h TO x y u) ∧ HIt k1 h i1 a i ∧ HIt k2 h i2 b i ∧ HIt k3 h i3 d i) := by
  have S := D.sep
  have na := D.na
  have nb := D.nb
  have nd := D.nd
  refine ⟨by simp, fun i h st c hc => ?_, fun i h h' st k => ?_, ?_, ?_, fun A i s Q E st h => wpAny_pyIter_zip st.1 h⟩
  · obtain ⟨z1, z2, ⟨x, y, u, z3⟩, z4, z5, z6⟩ := st
    simp only [List.mem_cons, List.not_mem_nil, or_false] at hc
    rcases hc with q | q | q | q | q | q <;> rw [q]
    · exact ⟨_, z1, fun v q => nomatch q⟩
    · exact ⟨_, z2, fun v q => nomatch q⟩
    · exact ⟨_, z3, fun v q => nomatch q⟩
    · exact z4.obj
    · exact z5.obj
    · exact z6.obj
  · obtain ⟨z1, z2, ⟨x, y, u, z3⟩, z4, z5, z6⟩ := st
    exact ⟨k z (by simp) _ z1, k TI (by simp) _ z2, ⟨x, y, u, k TO (by simp) _ z3⟩, z4.at fun o q => k i1 (by simp) o q, z5.at fun o q => k i2 (by simp) o q, z6.at fun o q => k i3 (by simp) o q⟩
  · intro X hP hw hK hc i pins s σ H E I hf st hg
    subst hP hw hK
    obtain ⟨z1, z2, ⟨x0, y0, u0, z3⟩, z4, z5, z6⟩ := st
    obtain ⟨xs, ys, zs, sx, sy, sz, hx, hy, hz⟩ := hg
    obtain ⟨its, rv, p⟩ := seqK I sx
    obtain ⟨its2, rv2, p2⟩ := seqK I sy
    obtain ⟨its3, rv3, p3⟩ := seqK I sz
    have hh := hd_in1 (I.ok.hd hc)
    have l1 := rv.length
    have l2 := rv2.length
    have l3 := rv3.length
    have zlt : z < s.heap.objs.size := Heap.lt_size z1
    have lti : ∀ c ∈ [z, TI, TO, i1, i2, i3], c < s.heap.objs.size := fun c hcm => by
      simp only [List.mem_cons, List.not_mem_nil, or_false] at hcm
      rcases hcm with q | q | q | q | q | q <;> rw [q]
      · exact zlt
      · exact Heap.lt_size z2
      · exact Heap.lt_size z3
      · exact z4.lt
      · exact z5.lt
      · exact z6.lt
    refine wpAny_pyNext_zipD3_item S (drawsK k1 hh na its.toArray) (drawsK k2 hh nb its2.toArray) (drawsK k3 hh nd its3.toArray) z1 z2 z3 ⟨z4, p⟩ ⟨z5, p2⟩ ⟨z6, p3⟩ (by simp; omega) (by simp; omega) (by simp; omega) fun u1 u2 u3 h' tk hu1 hu2 hu3 g1 g2 g3 g4 g8 g5 g6 g7 => ?_
    refine ⟨_, rfl, wpAny_letOwnedTupleGo_zip (s := { s with heap := h', toks := tk }) g1 fun h2 y1 sb => ?_⟩
    have hu1' : its[i]? = some u1 := by simpa using hu1
    have hu2' : its2[i]? = some u2 := by simpa using hu2
    have hu3' : its3[i]? = some u3 := by simpa using hu3
    obtain ⟨x, hx1, r1⟩ := vals_of rv hu1'
    obtain ⟨y, hy1, r2⟩ := vals_of rv2 hu2'
    obtain ⟨u, hz1, r3⟩ := vals_of rv3 hu3'
    have eT : h2.get? s.heap.objs.size = some { cls := .type "tuple", data := .seq #[u1, u2, u3] } := (sb.2 _ (Nat.ne_of_gt zlt)).trans g5
    have new : ObjOk X.prog X.w (upd H s.heap.objs.size (.tup [x, y, u])) h2 s.heap.objs.size (.tup [x, y, u]) :=
      ⟨by show 3 ≤ sizeLine; decide, [u1, u2, u3], .cons r1 (.cons r2 (.cons r3 .nil)), ⟨_, eT, rfl, _, rfl⟩⟩
    have kept : ∀ c o, c ∉ [z, TI, TO, i1, i2, i3] → s.heap.get? c = some o → h2.get? c = some o := fun c o hb q => by
      simp only [List.mem_cons, List.not_mem_nil, or_false, not_or] at hb
      exact (sb.2 c hb.1).trans (g7 c o hb.1 hb.2.2.1 hb.2.2.2.1 hb.2.2.2.2.1 hb.2.2.2.2.2 q)
    have I1 : Inv X pins σ (upd H s.heap.objs.size (.tup [x, y, u])) { s with heap := h2, toks := tk } := I.turnedNew (t' := tk) kept hf (Nat.le_refl _) new
    refine ⟨.ref s.heap.objs.size, _, I1, rfl, ⟨_, x, y, u, rfl, I.hok.fresh (Nat.le_refl _), rfl, fun l hl => by rw [seqK_inj I hl sx]; exact hx1, fun l hl => by rw [seqK_inj I hl sy]; exact hy1, fun l hl => by rw [seqK_inj I hl sz]; exact hz1⟩, ⟨y1, ?_, ⟨u1, u2, u3, ?_⟩, ?_, ?_, ?_⟩, fun c hcm => ?_⟩
    · exact (sb.2 _ S.TIz).trans (g7 _ _ S.TIz S.TITO S.TIi1 S.TIi2 S.TIi3 z2)
    · exact (sb.2 _ S.TOz).trans g2
    · exact g3.1.at fun o q => (sb.2 _ S.zi1.symm).trans q
    · exact g4.1.at fun o q => (sb.2 _ S.zi2.symm).trans q
    · exact g8.1.at fun o q => (sb.2 _ S.zi3.symm).trans q
    · rw [upd_ne (Nat.ne_of_lt (lti c hcm))]
      exact (hf c hcm).1
  · intro X hP hw hK hc i pins s σ H E I hf st hg
    subst hP hw hK
    obtain ⟨z1, z2, ⟨x0, y0, u0, z3⟩, z4, z5, z6⟩ := st
    obtain ⟨xs, ys, zs, sx, sy, sz, hx, hy, hz, he⟩ := hg
    obtain ⟨its, rv, p⟩ := seqK I sx
    obtain ⟨its2, rv2, p2⟩ := seqK I sy
    obtain ⟨its3, rv3, p3⟩ := seqK I sz
    have hh := hd_in1 (I.ok.hd hc)
    have l1 := rv.length
    have l2 := rv2.length
    have l3 := rv3.length
    refine wpAny_pyNext_zipD3_end S (drawsK k1 hh na its.toArray) (drawsK k2 hh nb its2.toArray) (drawsK k3 hh nd its3.toArray) z1 z2 z3 ⟨z4, p⟩ ⟨z5, p2⟩ ⟨z6, p3⟩ (by simp; omega) (by simp; omega) (by simp; omega) (by simp; omega) fun h' tk g7 => ⟨rfl, ?_⟩
    refine I.turnedL (t' := tk) (ch := [z, TI, TO, i1, i2, i3]) (fun c o hb q => ?_) hf
    simp only [List.mem_cons, List.not_mem_nil, or_false, not_or] at hb
    exact g7 c o hb.1 hb.2.2.1 hb.2.2.2.1 hb.2.2.2.2.1 hb.2.2.2.2.2 q
def iZip3 (K : PySem.W.Frag) (k1 k2 k3 : Bool) (ta : TA) : TI := fun σ H R => ta σ H fun vs H1 => ∃ a b d xs ys zs, vs = [.ref a, .ref b, .ref d] ∧ SqK K k1 H1 a xs ∧ SqK K k2 H1 b ys ∧ SqK K k3 H1 d zs ∧ R (It3 K k1 k2 k3 a b d) H1
theorem pi_zip3 {X : Cx} {k1 k2 k3 : Bool} {e e2 e3 : Expr} {ta : TA} {p pos tpos : Pos} {elts : List Expr} {kk : Nat} (hg : Gl X "zip") (hm : X.mg "zip" = none) (ha : PA X [e, e2, e3] ta)
    (hst : starEach [e, e2, e3] X.env = (false, eval e X.env) :: starEach [e2, e3] X.env := by rfl) (hpl : (backTo pos (starEach [e2, e3] X.env)).any (·.1) = false := by rfl) :
    PI X (.Tuple elts kk tpos) (.Call (.Name "zip" p) [e, e2, e3] [] pos) (iZip3 X.K k1 k2 k3 ta) := by
  refine ⟨fun pins s σ H R I h => ?_⟩
  refine Call_ (ld_blt I hg hm PyProof.Rows.boot_zip (PyProof.Rows.callWith_type1 (thn (ha.run pos pins s σ H _ I h) fun us s1 ⟨vs, H1, I1, r1, q1⟩ => ?_) hst hpl))
  obtain ⟨a, b, d, xs, ys, zs, ex, qx, qy, qz, q⟩ := q1
  subst ex
  obtain ⟨its, rv, p1⟩ := seqK I1 qx
  obtain ⟨its2, rv2, p2⟩ := seqK I1 qy
  obtain ⟨its3, rv3, p3⟩ := seqK I1 qz
  cases r1 with
  | cons r rr =>
    cases rr with
    | cons r' rr =>
      cases rr with
      | cons r'' rr =>
        cases rr
        cases r
        cases r'
        cases r''
        refine zip_call3 p1 p2 p3 fun h' n en g1 g2 g3 g4 g5 g6 hk => wpAny_pyIter_zip g1 ?_
        have I2 : Inv X pins σ H1 { s1 with heap := h' } := I1.kept (t' := s1.toks) hk
        refine ⟨n + 5, [n + 5, n + 3, n + 4, n, n + 1, n + 2], _, _, H1, rfl, I2, turn3 (n := n) ⟨rfl, rfl, rfl, rfl, rfl, rfl, by rw [en]; exact p1.lt, by rw [en]; exact p2.lt, by rw [en]; exact p3.lt⟩, ⟨g1, g2, ⟨_, _, _, g3⟩, g4, g5, g6⟩, fun c hcm => ?_, q⟩
        have hle : s1.heap.objs.size ≤ c := by
          simp only [List.mem_cons, List.not_mem_nil, or_false] at hcm
          have en' : (n : Nat) = s1.heap.objs.size := en
          rcases hcm with z | z | z | z | z | z <;> rw [z] <;> omega
        exact I1.fpOk hle (I1.hok.fresh hle)
section
variable {σ : L2.St} {H H0 : Hp} {Q : VK} {te : TE} {tt : TT} {g : TG} {K : PySem.W.Frag} {L : List (Addr × HO)} {vs : List Nat} {tr : TA}
def RZ2 (K : PySem.W.Frag) (k1 k2 : Bool) (vs : List V) (H1 : Hp) (R : It → Hp → Prop) : Prop := ∃ a b xs ys, vs = [.ref a, .ref b] ∧ SqK K k1 H1 a xs ∧ SqK K k2 H1 b ys ∧ R (It2 K k1 k2 a b) H1
def RZ3 (K : PySem.W.Frag) (k1 k2 k3 : Bool) (vs : List V) (H1 : Hp) (R : It → Hp → Prop) : Prop := ∃ a b d xs ys zs, vs = [.ref a, .ref b, .ref d] ∧ SqK K k1 H1 a xs ∧ SqK K k2 H1 b ys ∧ SqK K k3 H1 d zs ∧ R (It3 K k1 k2 k3 a b d) H1
theorem r_z2 {k1 k2 : Bool} {R : It → Hp → Prop} (q : tr σ H fun vs H1 => RZ2 K k1 k2 vs H1 R) : iZip2 K k1 k2 tr σ H R := q
theorem r_z3 {k1 k2 k3 : Bool} {R : It → Hp → Prop} (q : tr σ H fun vs H1 => RZ3 K k1 k2 k3 vs H1 R) : iZip3 K k1 k2 k3 tr σ H R := q
/-- a comprehension over zip of two; sa, sb: that they stand -/
theorem lcj2 {k1 k2 : Bool} {a b : Addr} {xs ys : List V} {n : Nat} (sel : Nat → Option PyData) (o : Own H0 H L) (hq : ∀ H' p zs, Own H0 H' ((p, .lst zs) :: L) → Stp H H' → SqK K k1 H' a xs ∧ SqK K k2 H' b ys) (h1 : SqK K k1 H a xs) (h2 : SqK K k2 H b ys) (hn : n = min xs.length ys.length) (hz : n < 10000000)
    (he : ∀ (i : Nat) (x y : V) (T : Addr) (p : Addr) (zs : List V) (H' : Hp) (R : L2.St → Hp → Prop), xs[i]? = some x → ys[i]? = some y → SqT K H' T [x, y] → Own H0 H' ((p, .lst zs) :: L) → Stp H H' → CGo K tt te vs σ (sel i) H' R → g (.ref T) (wipe σ vs) H' R)
    (k : ∀ p H' zs, Stp H H' → Own H0 H' ((p, .lst zs) :: L) → TpAll K H' zs ((List.range n).filterMap sel) → Q (.ref p) H') :
    RZ2 K k1 k2 [.ref a, .ref b] H fun J H1 => RLc J g tt te vs σ H1 Q := by
  refine ⟨a, b, xs, ys, rfl, h1, h2, lcJ n sel o hz (fun H' p zs o' s' => ⟨xs, ys, (hq H' p zs o' s').1, (hq H' p zs o' s').2, by omega, by omega, by omega⟩) (fun i H' p zs hi o' s' => ⟨xs, ys, (hq H' p zs o' s').1, (hq H' p zs o' s').2, by omega, by omega⟩) (fun i x p zs H' H1 R hi o' s' hy r => ?_) (fun i H' x H1 hy => ?_) k⟩
  · obtain ⟨T, u, v, rfl, hT, rfl, f1, f2⟩ := hy
    have s1 : Same H' (upd H' T (.tup [u, v])) := same_new hT
    exact he i u v T p zs _ R (f1 xs (hq H' p zs o' s').1) (f2 ys (hq H' p zs o' s').2) (SqT.of upd_same) (o'.mono s1) (s'.trans (.of s1)) (r s1)
  · obtain ⟨T, u, v, rfl, hT, rfl, f1, f2⟩ := hy
    exact same_new hT
theorem lcj3 {k1 k2 k3 : Bool} {a b d : Addr} {xs ys us : List V} {n : Nat} (sel : Nat → Option PyData) (o : Own H0 H L) (hq : ∀ H' p zs, Own H0 H' ((p, .lst zs) :: L) → Stp H H' → SqK K k1 H' a xs ∧ SqK K k2 H' b ys ∧ SqK K k3 H' d us) (h1 : SqK K k1 H a xs) (h2 : SqK K k2 H b ys) (h3 : SqK K k3 H d us) (hn : n = min (min xs.length ys.length) us.length) (hz : n < 10000000)
    (he : ∀ (i : Nat) (x y u : V) (T : Addr) (p : Addr) (zs : List V) (H' : Hp) (R : L2.St → Hp → Prop), xs[i]? = some x → ys[i]? = some y → us[i]? = some u → SqT K H' T [x, y, u] → Own H0 H' ((p, .lst zs) :: L) → Stp H H' → CGo K tt te vs σ (sel i) H' R → g (.ref T) (wipe σ vs) H' R)
    (k : ∀ p H' zs, Stp H H' → Own H0 H' ((p, .lst zs) :: L) → TpAll K H' zs ((List.range n).filterMap sel) → Q (.ref p) H') :
    RZ3 K k1 k2 k3 [.ref a, .ref b, .ref d] H fun J H1 => RLc J g tt te vs σ H1 Q := by
  refine ⟨a, b, d, xs, ys, us, rfl, h1, h2, h3, lcJ n sel o hz (fun H' p zs o' s' => ?_) (fun i H' p zs hi o' s' => ?_) (fun i x p zs H' H1 R hi o' s' hy r => ?_) (fun i H' x H1 hy => ?_) k⟩
  · obtain ⟨q1, q2, q3⟩ := hq H' p zs o' s'
    exact ⟨xs, ys, us, q1, q2, q3, by omega, by omega, by omega, by omega⟩
  · obtain ⟨q1, q2, q3⟩ := hq H' p zs o' s'
    exact ⟨xs, ys, us, q1, q2, q3, by omega, by omega, by omega⟩
  · obtain ⟨q1, q2, q3⟩ := hq H' p zs o' s'
    obtain ⟨T, u, v, w, rfl, hT, rfl, f1, f2, f3⟩ := hy
    have s1 : Same H' (upd H' T (.tup [u, v, w])) := same_new hT
    exact he i u v w T p zs _ R (f1 xs q1) (f2 ys q2) (f3 us q3) (SqT.of upd_same) (o'.mono s1) (s'.trans (.of s1)) (r s1)
  · obtain ⟨T, u, v, w, rfl, hT, rfl, f1, f2, f3⟩ := hy
    exact same_new hT
end
/-! ### enumerate of any sequence -/
def eA (h : Heap) (k : Bool) (l : Addr) : Heap := h.push (itO k l)
def eB (h : Heap) (k : Bool) (l : Addr) : Heap := (eA h k l).push { cls := .type "enumerate", data := .fields #[.none, .bool false, .ref h.objs.size, rawInt 0, .none, .none] }
theorem enum_newK (k : Bool) (l : Addr) (items : Array Value) :
    Meets (Builtin.«enumerate.__new__» ⟨[.type "enumerate", .ref l], []⟩) (fun _ R s => HSq k s.heap l items ∧ (∃ o : Obj, s.heap.get? l = some o ∧ o.cls = .type (if k then "tuple" else "list") ∧ ∃ n, o.data = .seq items n) ∧
      R (.ok (.ret (.ref (eA s.heap k l).objs.size))) { s with heap := eB s.heap k l }) :=
  .of_wp fun prog w A R s h => by
    obtain ⟨hp, g, d, tk, os⟩ := s
    obtain ⟨q1, ⟨⟨c, dct, dt, sl⟩, hl, hc, n, hd⟩, h⟩ := h
    have hsub := sub_enumerate
    have p1 : HSq k (Shared.heap ⟨hp, g, d, tk, os⟩) l items := q1
    cases hc
    cases hd
    cases k
    all_goals
      wp_walk
      refine wpAny_stack_any fun st => wpAny_pure ?_
      split
      · rename_i c _ _ _ _ _
        cases (c == Value.type "enumerate")
        · wp_walk using wpAny_loadPart' hl, iterK p1
          exact ⟨_, rfl, h⟩
        · wp_walk using wpAny_loadPart' hl, iterK p1
          exact ⟨_, rfl, h⟩
      · wp_walk using wpAny_loadPart' hl, iterK p1
        exact ⟨_, rfl, h⟩
theorem HSq.obj {k : Bool} {h : Heap} {l : Addr} {xs : Array Value} (x : HSq k h l xs) : ∃ o : Obj, h.get? l = some o ∧ o.cls = .type (if k then "tuple" else "list") ∧ ∃ n, o.data = .seq xs n := by
  cases k
  · exact (show h.IsList l xs from x)
  · exact (show h.IsTuple l xs from x)
section
variable {prog : Program} {w : World} {A : Around} {E : Value → Shared → Prop} {s : Shared}
theorem enum_callK {k : Bool} {l : Addr} {items : Array Value} {Q : Value → Shared → Prop} (q1 : HSq k s.heap l items)
    (h : ∀ h' n, n = s.heap.objs.size → IsEnum h' (n + 1) n 0 .none → HIt k h' n l 0 → (∀ b o, s.heap.get? b = some o → h'.get? b = some o) → Q (.ref (n + 1)) { s with heap := h' }) :
    wpAny (model prog w) A (call (.type "enumerate") [.ref l]) Q E s := by
  refine callType_new F.called_enumerate (by decide) (F.typeCall_enumerate_1 _) (F.newCall_enumerate_1 _) (fun obj => F.args_object_init_2 obj _) F.entry_enumerate_new (enum_newK k l items) ⟨q1, q1.obj, ?_⟩
  have e1 : (eA s.heap k l).objs.size = s.heap.objs.size + 1 := Heap.size_push ..
  have uB : ∀ c o, (eA s.heap k l).get? c = some o → (eB s.heap k l).get? c = some o := fun c o e => Heap.get?_push_of_some _ e
  have g1 : (eB s.heap k l).get? (eA s.heap k l).objs.size = some _ := Heap.get?_push_size _ rfl
  rw [e1] at g1
  show _ ∧ _
  rw [e1]
  exact ⟨⟨_, g1, rfl⟩, h _ _ rfl g1 (HIt.mk0 (uB _ _ (Heap.get?_push_size _ rfl))) fun c o e => uB c o (Heap.get?_push_of_some _ e)⟩
end
/-- the sequence at a, each item in a new pair with its place -/
def ItE (K : PySem.W.Frag) (k : Bool) (a : Addr) : It :=
  ⟨fun i H => ∃ (xs : List V), SqK K k H a xs ∧ i < xs.length, fun i H v H' => ∃ T x, v = .ref T ∧ H T = none ∧ H' = upd H T (.tup [.int (i : Nat), x]) ∧ ∀ xs, SqK K k H a xs → xs[i]? = some x, fun i H => ∃ xs : List V, SqK K k H a xs ∧ i = xs.length⟩
theorem turnE {P : Program} {w : World} {K : PySem.W.Frag} {k : Bool} {elts : List Expr} {kk : Nat} {tpos : Pos} {a e it : Addr} (na : a ≠ it) (ne : e ≠ it) (nea : e ≠ a) :
    Turn P w K (.Tuple elts kk tpos) (ItE K k a) [e, it] e (fun i h => (∃ old, IsEnum h e it ((i : Nat) : Int) old) ∧ HIt k h it a i) := by
  refine ⟨by simp, fun i h st b hb => ?_, fun i h h' st kp => ?_, ?_, ?_, fun A i s Q E st h => by obtain ⟨⟨_, he⟩, _⟩ := st; exact wpAny_pyIter_enum he h⟩
  · obtain ⟨⟨old, he⟩, hi⟩ := st
    rcases List.mem_cons.mp hb with q | q
    · rw [q]; exact ⟨_, he, fun v q => nomatch q⟩
    · rw [List.mem_singleton.mp q]; exact hi.obj
  · obtain ⟨⟨old, he⟩, hi⟩ := st
    exact ⟨⟨old, kp e (by simp) _ he⟩, hi.at fun o q => kp it (by simp) o q⟩
  · intro X hP hw hK hc i pins s σ H E I hf st hg
    subst hP hw hK
    obtain ⟨⟨old, he⟩, hi⟩ := st
    obtain ⟨xs, sx, hx⟩ := hg
    obtain ⟨its, rv, p⟩ := seqK I sx
    have hh := hd_in1 (I.ok.hd hc)
    have l1 := rv.length
    have elt : e < s.heap.objs.size := Heap.lt_size he
    have ilt : it < s.heap.objs.size := hi.lt
    refine wpAny_pyNext_enum_itemD (drawsK k hh na its.toArray) he ⟨hi, p⟩ (by simp; omega) ne (nin2 ⟨ne, nea⟩) fun u h' tk hu ho st' hT hsz hk => ?_
    refine ⟨_, rfl, wpAny_letOwnedTupleGo_enum (s := { s with heap := h', toks := tk + 1 }) ho fun h2 he2 sb => ?_⟩
    have hu' : its[i]? = some u := by simpa using hu
    obtain ⟨x, hx1, r1⟩ := vals_of rv hu'
    have eT : h2.get? s.heap.objs.size = some { cls := .type "tuple", data := .seq #[.int i tk, u] } := (sb.2 _ (Nat.ne_of_gt elt)).trans hT
    have new : ObjOk X.prog X.w (upd H s.heap.objs.size (.tup [.int (i : Nat), x])) h2 s.heap.objs.size (.tup [.int (i : Nat), x]) :=
      ⟨by show 2 ≤ sizeLine; decide, [.int i tk, u], .cons ⟨_, rfl⟩ (.cons r1 .nil), ⟨_, eT, rfl, _, rfl⟩⟩
    have kept : ∀ c o, c ∉ [e, it] → s.heap.get? c = some o → h2.get? c = some o := fun c o hb q => by
      simp only [List.mem_cons, List.not_mem_nil, or_false, not_or] at hb
      exact (sb.2 c hb.1).trans (hk c o hb.1 hb.2 q)
    have I1 : Inv X pins σ (upd H s.heap.objs.size (.tup [.int (i : Nat), x])) { s with heap := h2, toks := tk + 1 } := I.turnedNew (t' := tk + 1) kept hf (Nat.le_refl _) new
    refine ⟨.ref s.heap.objs.size, _, I1, rfl, ⟨_, x, rfl, I.hok.fresh (Nat.le_refl _), rfl, fun l hl => by rw [seqK_inj I hl sx]; exact hx1⟩, ⟨⟨u, ?_⟩, st'.1.at fun o q => (sb.2 it (Ne.symm ne)).trans q⟩, fun c hcm => ?_⟩
    · have e1 : ((i + 1 : Nat) : Int) = (i : Int) + 1 := by omega
      rw [e1]
      exact he2
    · have clt : c < s.heap.objs.size := by
        rcases List.mem_cons.mp hcm with q | q
        · rw [q]; exact elt
        · rw [List.mem_singleton.mp q]; exact ilt
      rw [upd_ne (Nat.ne_of_lt clt)]
      exact (hf c hcm).1
  · intro X hP hw hK hc i pins s σ H E I hf st hg
    subst hP hw hK
    obtain ⟨⟨old, he⟩, hi⟩ := st
    obtain ⟨xs, sx, hx⟩ := hg
    obtain ⟨its, rv, p⟩ := seqK I sx
    have hh := hd_in1 (I.ok.hd hc)
    have l1 := rv.length
    have ei : i = its.toArray.size := by simp; omega
    refine wpAny_pyNext_enum_endD (drawsK k hh na its.toArray) he ⟨by rw [← ei]; exact hi, p⟩ fun h' eb => ⟨rfl, ?_⟩
    refine I.turnedL (t' := s.toks) (ch := [e, it]) (fun c o hb q => ?_) hf
    simp only [List.mem_cons, List.not_mem_nil, or_false, not_or] at hb
    exact eb c o hb.2 q
def iEnumK (K : PySem.W.Frag) (k : Bool) (ta : TA) : TI := fun σ H R => ta σ H fun vs H1 => ∃ a xs, vs = [.ref a] ∧ SqK K k H1 a xs ∧ R (ItE K k a) H1
theorem pi_enumK {X : Cx} {k : Bool} {e : Expr} {ta : TA} {p pos tpos : Pos} {elts : List Expr} {kk : Nat} (hg : Gl X "enumerate") (hm : X.mg "enumerate" = none) (ha : PA X [e] ta) (hst : starEach [e] X.env = [(false, eval e X.env)] := by rfl) :
    PI X (.Tuple elts kk tpos) (.Call (.Name "enumerate" p) [e] [] pos) (iEnumK X.K k ta) := by
  refine ⟨fun pins s σ H R I h => ?_⟩
  refine Call_ (ld_blt I hg hm boot_enumerate (PyProof.Rows.callWith_type1 (thn (ha.run pos pins s σ H _ I h) fun us s1 ⟨vs, H1, I1, r1, q1⟩ => ?_) hst rfl))
  obtain ⟨a, xs, ex, hq, q⟩ := q1
  subst ex
  obtain ⟨its, rv, p1⟩ := seqK I1 hq
  cases r1 with
  | cons r rr =>
    cases rr
    cases r
    refine enum_callK p1 fun h' n en g1 g2 hk => wpAny_pyIter_enum g1 ?_
    have I2 : Inv X pins σ H1 { s1 with heap := h' } := I1.kept (t' := s1.toks) hk
    have al : a < n := by rw [en]; exact p1.lt
    refine ⟨n + 1, [n + 1, n], _, _, H1, rfl, I2, turnE (Nat.ne_of_lt al) (Nat.succ_ne_self _) (Nat.ne_of_gt (Nat.lt_succ_of_lt al)), ⟨⟨.none, g1⟩, g2⟩, fun c hcm => ?_, q⟩
    have hle : s1.heap.objs.size ≤ c := by
      rcases List.mem_cons.mp hcm with z | z
      · rw [z, en]; exact Nat.le_succ _
      · rw [List.mem_singleton.mp z, en]; exact Nat.le_refl _
    exact I1.fpOk hle (I1.hok.fresh hle)
section
variable {σ : L2.St} {H H0 : Hp} {Q : VK} {te : TE} {tt : TT} {g : TG} {K : PySem.W.Frag} {L : List (Addr × HO)} {vs : List Nat} {tr : TA}
def REn (K : PySem.W.Frag) (k : Bool) (vs : List V) (H1 : Hp) (R : It → Hp → Prop) : Prop := ∃ a xs, vs = [.ref a] ∧ SqK K k H1 a xs ∧ R (ItE K k a) H1
theorem r_en {k : Bool} {R : It → Hp → Prop} (q : tr σ H fun vs H1 => REn K k vs H1 R) : iEnumK K k tr σ H R := q
theorem lcjEn {k : Bool} {a : Addr} {xs : List V} (sel : Nat → Option PyData) (o : Own H0 H L) (hq : ∀ H' p zs, Own H0 H' ((p, .lst zs) :: L) → Stp H H' → SqK K k H' a xs) (h1 : SqK K k H a xs) (hz : xs.length < 10000000)
    (he : ∀ (i : Nat) (x : V) (T : Addr) (p : Addr) (zs : List V) (H' : Hp) (R : L2.St → Hp → Prop), xs[i]? = some x → SqT K H' T [.int (i : Int), x] → Own H0 H' ((p, .lst zs) :: L) → Stp H H' → CGo K tt te vs σ (sel i) H' R → g (.ref T) (wipe σ vs) H' R)
    (kd : ∀ p H' zs, Stp H H' → Own H0 H' ((p, .lst zs) :: L) → TpAll K H' zs ((List.range xs.length).filterMap sel) → Q (.ref p) H') :
    REn K k [.ref a] H fun J H1 => RLc J g tt te vs σ H1 Q := by
  refine ⟨a, xs, rfl, h1, lcJ xs.length sel o hz (fun H' p zs o' s' => ⟨xs, hq H' p zs o' s', rfl⟩) (fun i H' p zs hi o' s' => ⟨xs, hq H' p zs o' s', hi⟩) (fun i x p zs H' H1 R hi o' s' hy r => ?_) (fun i H' x H1 hy => ?_) kd⟩
  · obtain ⟨T, u, rfl, hT, rfl, f1⟩ := hy
    have s1 : Same H' (upd H' T (.tup [.int (i : Nat), u])) := same_new hT
    exact he i u T p zs _ R (f1 xs (hq H' p zs o' s')) (SqT.of upd_same) (o'.mono s1) (s'.trans (.of s1)) (r s1)
  · obtain ⟨T, u, rfl, hT, rfl, f1⟩ := hy
    exact same_new hT
end
/-! ### a tuple times an int: once is the tuple itself, not at all the empty one -/
theorem tup_mul1 (l : Addr) (items : Array Value) (n : Nat) (dd : Option Addr) (sl : Array (Option Value)) (u : Tok) :
    Meets (Builtin.«tuple.__mul__» ⟨[.ref l, .int 1 u], []⟩) (fun _ R s => s.heap.get? l = some { cls := .type "tuple", dict := dd, data := .seq items n, slots := sl } ∧ R (.ok (.ret (.ref l))) s) :=
  .of_wp fun prog w A R s h => by
    obtain ⟨hp, g, d, tk, os⟩ := s
    obtain ⟨hl, h⟩ := h
    have f1 := AutoSeq1.idx_int
    have c1 : (items.isEmpty || (1 : Int) == 1) = true := by simp
    wp_walk using wpAny_loadPart' hl
    exact ⟨_, rfl, h⟩
theorem tup_mul0 (l : Addr) (items : Array Value) (n : Nat) (dd : Option Addr) (sl : Array (Option Value)) (u : Tok) (c1 : items.isEmpty = false) :
    Meets (Builtin.«tuple.__mul__» ⟨[.ref l, .int 0 u], []⟩) (fun _ R s => s.heap.get? l = some { cls := .type "tuple", dict := dd, data := .seq items n, slots := sl } ∧
      R (.ok (.ret (.ref s.heap.objs.size))) { s with heap := s.heap.push { cls := .type "tuple", data := .seq #[] } }) :=
  .of_wp fun prog w A R s h => by
    obtain ⟨hp, g, d, tk, os⟩ := s
    obtain ⟨hl, h⟩ := h
    have f1 := AutoSeq1.idx_int
    have c2 : (items.isEmpty || (0 : Int) == 1) = false := by rw [c1]; rfl
    wp_walk using wpAny_loadPart' hl
    repeat (first
      | (refine wpAny_ite_false (decide_eq_false (by rw [c2]; exact Bool.false_ne_true)) ?_; wp_walk using wpAny_loadPart' hl))
    exact ⟨_, rfl, h⟩
def rRepA (K : PySem.W.Frag) : R2 := fun x y H Q => ∃ l k xs, x = .ref l ∧ y = .int k ∧ SqT K H l xs ∧ xs ≠ [] ∧ 0 ≤ k ∧ k ≤ 1000 ∧ xs.length ≤ 1000 ∧ (k = 1 → Q (.ref l) H) ∧ (k ≠ 1 → ∀ p, H p = none → Q (.ref p) (upd H p (.tup (List.replicate k.toNat xs).flatten)))
theorem op_repA {X : Cx} : OpR X (binaryOp .Mult) (rRepA X.K) := by
  intro pins s σ H x y v u Q I rx ry h
  obtain ⟨l, k, xs, rfl, rfl, hT, hne, h1, h2, hz, q1, q⟩ := h
  by_cases hk1 : k = 1
  · subst hk1
    cases rx
    obtain ⟨t, rfl⟩ := ry
    obtain ⟨its, r, ⟨⟨cls, dd, data, sl⟩, ho, hc, n, hd⟩, hs⟩ := I.tuple hT
    simp only at hc hd
    subst hc hd
    refine wpAny_binaryOp_repeat_ref (T := "tuple") (U := "int") (by decide) ⟨_, ho, rfl⟩ (fun s' => typeIs_int s' 1 t) noFill_tuple_mul F.fills_int_mul F.slot_int_rmul repeat_tuple F.slot_int_index.lookup
      (call_meets F.slot_int_rmul (typeIs_int s 1 t) F.entry_int_rmul (F.args_int_rmul_2 _ _) (int_rmul_tuple 1 t l its.toArray n dd sl)
        ⟨ho, rfl, ⟨_, ho, rfl⟩, call_meets F.slot_tuple_mul ⟨_, ho, rfl⟩ F.entry_tuple_mul (F.args_tuple_mul_2 _ _) (tup_mul1 l its.toArray n dd sl t) ⟨ho, ?_⟩⟩)
    exact ⟨.ref l, H, I, rfl, q1 rfl⟩
  by_cases hk0 : k = 0
  · subst hk0
    cases rx
    obtain ⟨t, rfl⟩ := ry
    obtain ⟨its, r, ⟨⟨cls, dd, data, sl⟩, ho, hc, n, hd⟩, hs⟩ := I.tuple hT
    simp only at hc hd
    subst hc hd
    have hi : its.toArray.isEmpty = false := by
      have hl := r.length
      cases its with
      | nil => exact absurd (List.eq_nil_of_length_eq_zero hl) hne
      | cons a b => rfl
    refine wpAny_binaryOp_repeat_ref (T := "tuple") (U := "int") (by decide) ⟨_, ho, rfl⟩ (fun s' => typeIs_int s' 0 t) noFill_tuple_mul F.fills_int_mul F.slot_int_rmul repeat_tuple F.slot_int_index.lookup
      (call_meets F.slot_int_rmul (typeIs_int s 0 t) F.entry_int_rmul (F.args_int_rmul_2 _ _) (int_rmul_tuple 0 t l its.toArray n dd sl)
        ⟨ho, rfl, ⟨_, ho, rfl⟩, call_meets F.slot_tuple_mul ⟨_, ho, rfl⟩ F.entry_tuple_mul (F.args_tuple_mul_2 _ _) (tup_mul0 l its.toArray n dd sl t hi) ⟨ho, ?_⟩⟩)
    refine ⟨.ref s.heap.objs.size, _, I.laid (t' := s.toks) (o := .tup []) (fun b ob q => Heap.get?_push_of_some _ q) (Nat.le_refl _) ?_, rfl, q hk1 _ (I.hok.fresh (Nat.le_refl _))⟩
    exact ⟨Nat.zero_le _, _, .nil, IsTup.new _ _⟩
  · exact op_repT pins s σ H _ _ v u Q I rx ry ⟨l, k, xs, rfl, rfl, hT, hne, by omega, h2, hz, q hk1⟩
section
variable {H0 H : Hp} {Q : VK} {K : PySem.W.Frag} {L : List (Addr × HO)}
/-- (x,) * n -/
theorem r_repA {a : Addr} {x : V} {i : Int} {n : Nat} (o : Own H0 H L) (ha : SqT K H a [x]) (hi : i = (n : Int)) (hn : n ≤ 1000) (k : ∀ p H', Stp H H' → Own H0 H' L → SqT K H' p (List.replicate n x) → Q (.ref p) H') : rRepA K (.ref a) (.int i) H Q := by
  subst hi
  refine ⟨a, _, [x], rfl, rfl, ha, by simp, by omega, by omega, by simp, fun e => ?_, fun e p hp => ?_⟩
  · have en : n = 1 := by omega
    subst en
    exact k a H (.refl _) o ha
  · have e2 : (List.replicate (n : Int).toNat [x]).flatten = List.replicate n x := by
      rw [show (n : Int).toNat = n from rfl]
      exact flat_rep n x
    rw [e2]
    exact k p _ (.of (same_new hp)) (o.mono (same_new hp)) (SqT.of upd_same)
/-- t[lo:hi] -/
theorem r_slA {a : Addr} {xs : List V} {lo hi : Option Int} (o : Own H0 H L) (ha : SqT K H a xs) (k : ∀ p H', Stp H H' → Own H0 H' L → SqT K H' p (cutV xs lo hi) → Q (.ref p) H') : rSlA K (.ref a) lo hi H Q := by
  refine ⟨a, xs, rfl, ha, fun e => ?_, fun _ p hp => k p _ (.of (same_new hp)) (o.mono (same_new hp)) (SqT.of upd_same)⟩
  refine k a H (.refl _) o ?_
  have e2 : cutV xs lo hi = xs := by
    unfold cutV
    rw [e.1, e.2]
    simp
  rw [e2]
  exact ha
/-- t + u -/
theorem r_catA {a b : Addr} {xs ys : List V} (o : Own H0 H L) (ha : SqT K H a xs) (hb : SqT K H b ys) (hz : xs.length + ys.length ≤ 10000000) (k : ∀ p H', Stp H H' → Own H0 H' L → SqT K H' p (xs ++ ys) → Q (.ref p) H') : rCatA K (.ref a) (.ref b) H Q := by
  refine ⟨a, b, xs, ys, rfl, rfl, ha, hb, sz100 hz, fun e => ?_, fun _ e => ?_, fun _ _ p hp => k p _ (.of (same_new hp)) (o.mono (same_new hp)) (SqT.of upd_same)⟩
  · subst e
    exact k b H (.refl _) o hb
  · subst e
    exact k a H (.refl _) o (by rw [List.append_nil]; exact ha)
end
/-! ### walks with K told (within comprehensions) -/
theorem pi_listK {X : Cx} {K : PySem.W.Frag} {tg e : Expr} {te : TE} (hK : X.K = K) (he : PE X e te) : PI X tg e (iList K te) := by
  subst hK
  exact pi_list he
theorem pi_tupK {X : Cx} {K : PySem.W.Frag} {tg e : Expr} {te : TE} (hK : X.K = K) (he : PE X e te) : PI X tg e (iTup K te) := by
  subst hK
  exact pi_tup he
theorem pi_zip2K {X : Cx} {K : PySem.W.Frag} {k1 k2 : Bool} {e e2 : Expr} {ta : TA} {p pos tpos : Pos} {elts : List Expr} {kk : Nat} (hK : X.K = K) (hg : Gl X "zip") (hm : X.mg "zip" = none) (ha : PA X [e, e2] ta)
    (hst : starEach [e, e2] X.env = (false, eval e X.env) :: starEach [e2] X.env := by rfl) (hpl : (backTo pos (starEach [e2] X.env)).any (·.1) = false := by rfl) :
    PI X (.Tuple elts kk tpos) (.Call (.Name "zip" p) [e, e2] [] pos) (iZip2 K k1 k2 ta) := by
  subst hK
  exact pi_zip2 hg hm ha hst hpl
theorem pi_zip3K {X : Cx} {K : PySem.W.Frag} {k1 k2 k3 : Bool} {e e2 e3 : Expr} {ta : TA} {p pos tpos : Pos} {elts : List Expr} {kk : Nat} (hK : X.K = K) (hg : Gl X "zip") (hm : X.mg "zip" = none) (ha : PA X [e, e2, e3] ta)
    (hst : starEach [e, e2, e3] X.env = (false, eval e X.env) :: starEach [e2, e3] X.env := by rfl) (hpl : (backTo pos (starEach [e2, e3] X.env)).any (·.1) = false := by rfl) :
    PI X (.Tuple elts kk tpos) (.Call (.Name "zip" p) [e, e2, e3] [] pos) (iZip3 K k1 k2 k3 ta) := by
  subst hK
  exact pi_zip3 hg hm ha hst hpl
theorem pi_enumKK {X : Cx} {K : PySem.W.Frag} {k : Bool} {e : Expr} {ta : TA} {p pos tpos : Pos} {elts : List Expr} {kk : Nat} (hK : X.K = K) (hg : Gl X "enumerate") (hm : X.mg "enumerate" = none) (ha : PA X [e] ta) (hst : starEach [e] X.env = [(false, eval e X.env)] := by rfl) :
    PI X (.Tuple elts kk tpos) (.Call (.Name "enumerate" p) [e] [] pos) (iEnumK K k ta) := by
  subst hK
  exact pi_enumK hg hm ha hst
/-! ### own errors whose __init__ calls super().__init__ -/
/-- what is asked of the program as a whole -/
structure PrOk (P : Program) : Prop where
  file : P.main.file = "/claim/cut.py"
  top : (P.main.scope.names.lookup ("super" : Str)).isSome = false
/-- the def at fI is the __init__ of the class at C and closes over it -/
structure SupAt (K : PySem.W.Frag) (C : Addr) (qn : Str) (st : Stmt) (fI : Addr) (fd : FuncData) : Prop where
  ex : ∃ (oc : Value) (od : Option Addr) (kV doc pm : Value) (an : Option Addr) (cda cc : Addr) (ct : Value) (osl : Array (Option Value)),
    fd = PySem.W.fnX "__init__" qn (defArgs st) (defBody st) (defScope st) [("__class__", cc)] .none kV doc pm an (.ref cda) ct ∧ K.lookup fI = some ⟨oc, od, .func fd, osl⟩ ∧ PySem.W.codeIn K (.ref cda) qn = true ∧
    (∃ (cl : Value) (cld : Option Addr) (csl : Array (Option Value)), K.lookup cc = some ⟨cl, cld, .cell (some (.ref C)), csl⟩) ∧
    ∃ (cl : Value) (cld : Option Addr) (csl : Array (Option Value)) (fs : Array Value) (tf : Tok), K.lookup cda = some ⟨cl, cld, .fields fs, csl⟩ ∧ fs[2]? = some (.str "/claim/cut.py" tf)
/-- what else the written part says of the class -/
structure SupC (K : PySem.W.Frag) (C : Addr) : Prop where
  oex : OexC K C
  ini : PySem.W.ks_superIn K C C "__init__" = some (some (.builtin "ValueError.__init__"))
  sub : PySem.W.subIn K (.ref C) (.type "ValueError") = some true
  self : PySem.W.mroIn K C (.ref C) = some true
  stat : PySem.W.nsIn K PySem.cStatics "thirdparty.any" = some none
theorem mw_call1 {M : Model} {A : Around} {E : Value → Shared → Prop} {s : Shared} {u x : Addr} {i : String} {pos : Pos} {env : Env} {e : Expr} {Q : Value → Shared → Prop} (hst : starEach [e] env = [(false, eval e env)])
    (h : wpAny M A (spliced (backTo pos (starEach [e] env))) (fun vs s₁ => PySem.W.KxsAt i u x s₁.heap ∧ wpAny M A (call (.ref u) vs) Q E s₁) E s) : wpAny M A (callWith pos (.ref u) [] (backTo pos (starEach [e] env)) []) Q E s := by
  rw [hst] at h ⊢
  exact PySem.W.kxs_callWith (i := i) (x := x) rfl (Calls.evalArgs_plain h)
theorem cls_obj {K : PySem.W.Frag} {C : Addr} {cd : ClassData} (h : PySem.W.clsIn K C = some cd) : ∃ o, K.lookup C = some o ∧ o.data = .cls cd := by
  unfold PySem.W.clsIn at h
  split at h
  · rename_i c d cd' sl ho
    cases h
    exact ⟨_, ho, rfl⟩
  · cases h
section
variable {P : Program} {w : World} {K : PySem.W.Frag} {mg : Str → Option Value} {base : Heap}
abbrev supF (qn : Str) (st : Stmt) (cda cc : Addr) : NdefX.NF := ⟨"__init__", qn, defArgs st, [], defScope st, [("__class__", cc)], cda⟩
theorem SupAt.ok {C fI : Addr} {qn : Str} {st : Stmt} {N ps : List Str} {k : Nat} {sp : Sp} {fd : FuncData} {p0 p1 p2 p3 p4 : Pos} {msg : Expr} {pl : Env → Sem Bool} {rest : List Stmt} {ar : Arg} (S : SupAt K C qn st fI fd) (hP : PrOk P) (U : SupC K C) (Z : NdefX.NScope N ps ["__class__"] (defScope st))
    (hsup : mg "super" = none) (har : ((defArgs st).posonlyargs ++ (defArgs st).args).head? = some ar) (han : ps.head? = some ar.arg)
    (hks : (defScope st).names.lookup ("super" : Str) = some .globalImplicit)
    (hB : defBody st = .Expr (.Call (.Attribute (.Call (.Name "super" p0) [] [] p1) "__init__" p2) [msg] [] p3) p4 :: rest)
    (hst : ∀ env : Env, starEach [msg] env = [(false, eval msg env)]) (hsw : ∀ env : Env, swapsWith (.Call (.Attribute (.Call (.Name "super" p0) [] [] p1) "__init__" p2) [msg] [] p3) none p4.line env = pure false)
    (hev : ∀ env : Env, eval (.Call (.Attribute (.Call (.Name "super" p0) [] [] p1) "__init__" p2) [msg] [] p3) env = (do
      let ov ← attributeBase (.Call (.Name "super" p0) [] [] p1) "__init__" env (eval (.Call (.Name "super" p0) [] [] p1) env)
      standAt p2.atName
      let (f, first) ← holding [ov] (getMethod ov "__init__" (pl env))
      callWith p3 f first (backTo p3 (starEach [msg] env)) []))
    (len : ∀ vs H Q E, sp vs H Q E → vs.length = ps.length)
    (hbody : ∀ (cda cc : Addr) (A : Around) (outer : List Env) (s : Shared) (H : Hp) (vs : List V) (Q : VK) (E : XK), Room k (A.deeper (NdefX.envF (supF qn st cda cc) fI s.heap.objs.size)) → sp vs H Q E →
      ∃ (a : Addr) (vs2 : List V) (tm : TE) (tr : TS), vs = .ref a :: vs2 ∧ H a = some (exo a C none) ∧ PE (NdefX.ncx CX0 P w K mg base N (supF qn st cda cc) fI A outer s H E) msg tm ∧ PSs (NdefX.ncx CX0 P w K mg base N (supF qn st cda cc) fI A outer s H E) rest tr ∧
        tm (NdefX.startF N vs [none]) H fun x H1 => (∃ v, [x] = [v]) ∧ H1 a = some (exo a C none) ∧ tr { nx := fun _ H' => Q .non H', rt := Q } (NdefX.startF N vs [none]) H1) :
    FnOk P w K mg base CX0 (k + 1) fI fd ps sp := by
  obtain ⟨oc, od, kV, doc, pm, an, cda, cc, ct, osl, rfl, lk, hcd, ⟨cl1, cld1, csl1, hcc⟩, cl2, cld2, csl2, fs, tf, hcda, hfs⟩ := S.ex
  refine ⟨len, fun A outer s H args us vs Q E hr e0 hb r hsp => ?_⟩
  have KX : K.In s.heap := e0.mod.kin.keeps fun b o e => (e0.bs b o e).1
  have lim : s.heap.NoLimit := e0.mod.nolimit.keeps fun b o e => (e0.bs b o e).1
  have hl := len _ _ _ _ hsp
  have ccH : H cc = none := (e0.bs cc _ (e0.mod.kin _ _ hcc)).2
  have CA : NdefX.CellsAt [("__class__", cc)] ["__class__"] [none] s.heap H := by
    have look : ∀ y c, List.lookup y [(("__class__" : Str), cc)] = some c → y = "__class__" ∧ c = cc := fun y c h => by
      by_cases e : y = "__class__"
      · subst e
        simp [List.lookup] at h
        exact ⟨rfl, h.symm⟩
      · have e2 : (y == ("__class__" : Str)) = false := by simpa using e
        simp [List.lookup, e2] at h
    refine ⟨rfl, fun y c h => ?_, fun x y c h1 h2 => ?_, fun i y h => ?_⟩
    · obtain ⟨rfl, rfl⟩ := look y c h
      exact ⟨ccH, _, _, KX _ _ hcc, rfl⟩
    · rw [(look x c h1).1, (look y c h2).1]
    · match i, h with
      | 0, h =>
        have e : y = "__class__" := (Option.some.inj h).symm
        subst e
        exact ⟨cc, by simp [List.lookup], fun v z => by cases z⟩
  obtain ⟨a, vs2, tm, tr, hvs, ha, hm, htr, hq⟩ := hbody cda cc A outer s H vs Q E (hr.deeper _) hsp
  refine PySem.ks_codeAny_call_defAt (binds := ps.zip us) hr.depth (KX _ _ lk) rfl lim (PySem.W.codeRec_of KX hcd) rfl hb Z.nocell (fun ⟨n, _⟩ hy => Z.par n (List.of_mem_zip hy).1) (fun h₀ hns kp => ?_) Z.co Z.gen Z.kind
  have I := NdefX.inv_startN (f := fI) (F := supF qn st cda cc) (CX := CX0) (E := E) (tk := s.toks + (ps.zip us).length) Z hr.hd e0 hl r CA hns kp
  have q0 : ∃ us2, us = .ref a :: us2 := by
    subst hvs
    cases r with
    | @cons _ u0 _ ur r0 r1 =>
      obtain rfl : u0 = Value.ref a := r0
      exact ⟨ur, rfl⟩
  obtain ⟨us2, hus⟩ := q0
  obtain ⟨p', ps2, hps⟩ : ∃ p' ps2, ps = p' :: ps2 := by
    cases ps with
    | nil => cases han
    | cons p' ps2 => exact ⟨p', ps2, rfl⟩
  have hp' : p' = ar.arg := by
    rw [hps] at han
    exact Option.some.inj han
  have ndP : ps.Nodup := by
    have q := Z.nd.sublist (List.take_sublist (ps.length + 1) N)
    rw [show N.take (ps.length + 1) = ps ++ [("__class__" : Str)] from Z.pre] at q
    exact (List.nodup_append.mp q).1
  have hself : (ps.zip us).reverse.lookup ar.arg = some (.ref a) := by
    refine NdefX.zip_look (i := 0) ndP ?_ ?_
    · rw [hps, hp']; rfl
    · rw [hus]; rfl
  have hself2 : (defScope st).names.lookup ar.arg = some .local := by
    rw [← hp']
    exact Z.par p' (by rw [hps]; exact List.mem_cons_self ..)
  refine PySem.ks_wpAt_mono (Q := SP (NdefX.ncx CX0 P w K mg base N (supF qn st cda cc) fI A outer s H E) [] { nx := fun _ H' => Q .non H', rt := Q }) (E := (NdefX.ncx CX0 P w K mg base N (supF qn st cda cc) fI A outer s H E).xe) ?_ (fun fl s' hs => ?_) fun _ _ z => z
  · show PySem.wpAt _ _ _ (execs (defBody st) _) _ _ _
    obtain ⟨oD, hD0, hD2⟩ : ∃ o, K.lookup C = some o ∧ ∃ cd, o.data = .cls cd ∧ PySem.W.clsIn K C = some cd := by
      have q := U.self
      unfold PySem.W.mroIn at q
      cases z : PySem.W.clsIn K C with
      | none => rw [z] at q; cases q
      | some cd =>
        obtain ⟨o, h1, h2⟩ := cls_obj z
        exact ⟨o, h1, cd, h2, rfl⟩
    obtain ⟨cd, hD3, hD4⟩ := hD2
    have K1 := I.kIn
    obtain ⟨t1, ho⟩ := exo_at I.hok ha
    have gN := I.mod.glob.keeps I.bk
    obtain ⟨mb, hmb1, hmb2⟩ := I.mod.blt
    have bN := hmb1.keeps I.bk
    rw [hB]
    refine PySem.ks_wpAt_execs_cons ?_
    refine PySem.ks_wpAt_Expr_any ?_ (by show ((defScope st).kind == .module && _) = false; rw [Z.kind]; rfl) (hsw _)
    refine PySem.ks_wpAt_MethodCall ?_ (hev _)
    refine PySem.ks_wpAt_super_base hks (Z.frk _ (List.mem_singleton.mpr rfl)) (by decide) rfl (K1 _ _ lk) rfl har rfl (K1 _ _ hcda) rfl hfs (by rw [hP.file]; exact beq_self_eq_true _) hP.top ?_
    refine PySem.W.ks_loadName_global Z.kind hks (Calls.loadGlobal_builtin gN hsup bN ((hmb2 _ (by decide)).trans (by kernel_rfl)) ⟨rfl, ?_⟩)
    refine wpAny_loadName_free Z.kind (Z.frk _ (List.mem_singleton.mpr rfl)) (show List.lookup ("__class__" : Str) [(("__class__" : Str), cc)] = some cc by simp [List.lookup]) ⟨_, K1 _ _ hcc, rfl⟩ ?_
    refine wpAny_loadName_local Z.kind hself2 hns hself ?_
    refine PySem.ks_wpAny_isType_cls (K1 _ _ hD0) hD3 ⟨rfl, ?_⟩
    refine PySem.ks_wpAny_call_super (K1 _ _ hD0) hD3 ho rfl (fun c z => by cases z) (PySem.W.looks_mroIn K1 U.self) (fun h1 e1 k1 => ?_)
    have I1 := I.kept (t' := s.toks + (ps.zip us).length) k1
    have J1 : PySem.W.InstAt h1 a _ C none := ⟨k1 _ _ ho, rfl, rfl, trivial⟩
    have hf : PySem.W.alongIn K "__init__" ((cd.mro.dropWhile (· != .ref C)).drop 1) = some (some (.builtin "ValueError.__init__")) := by
      have q := U.ini
      unfold PySem.W.ks_superIn at q
      rw [hD4] at q
      exact q
    refine PySem.W.kxs_getMethod PySem.W.kxs_ValueError e1 (PySem.W.looks_opaque I1.kIn U.stat) (l₀ := cd.mro) (fun A Q E s k q => wpAny_bind ((PySem.W.looks_clsIn I1.kIn hD4) A _ E s k (wpAny_pure q))) rfl I1.kIn hf (J1.type.andThen (PySem.W.looks_subIn I1.kIn U.sub)) (PySem.W.ks_ne I1.kIn J1 hD4) (by decide) ?_
    have I2 := I1.kept (t' := s.toks + (ps.zip us).length + 1) (h' := h1.push (PySem.W.kxs_mw "ValueError.__init__" a)) (fun b o q => Heap.get?_push_of_some _ q)
    have I3 := I2.pins_of (pins' := [(h1.objs.size, PySem.W.kxs_mw "ValueError.__init__" a)]) (fun p hp => by
      rw [List.mem_singleton.mp hp]
      exact ⟨Heap.get?_push_size _ rfl, I1.hok.fresh (Nat.le_refl _), Nat.ne_of_gt I1.lt, I1.nofs (Nat.le_refl _), fun v z => by cases z⟩)
    refine mw_call1 (i := "ValueError.__init__") (x := a) (hst _) ?_
    have hst0 := hst (NdefX.ncx CX0 P w K mg base N (supF qn st cda cc) fI A outer s H E).env
    refine thn ((pa_cons hm pa_nil hst0).run p3 _ _ _ H (fun us2 H1 => (∃ v, us2 = [v]) ∧ H1 a = some (exo a C none) ∧ tr { nx := fun _ H' => Q .non H', rt := Q } (NdefX.startF N vs [none]) H1) I3 ?_) fun us3 s3 hh => ?_
    · exact hq
    obtain ⟨vs3, H1, I4, r4, ⟨v3, hv3⟩, ha1, hq1⟩ := hh
    subst hv3
    have hlen : us3.length ≤ sizeLine := by
      rw [← Paired.length r4]
      exact (by decide : 1 ≤ sizeLine)
    have hu : s3.heap.get? h1.objs.size = some (PySem.W.kxs_mw "ValueError.__init__" a) := (I4.pin _ (List.mem_append_right _ (List.mem_singleton.mpr rfl))).1
    refine ⟨hu, ?_⟩
    obtain ⟨t3, ho3⟩ := exo_at I4.hok ha1
    obtain ⟨nm, qq, nn, bs, bm, sn, sub, ab, col, dd, z0, z1, z2, z3, z5, hC, hbm⟩ := U.oex.cls
    obtain ⟨hp3, g3, d3, tk3, os3⟩ := s3
    have fin : ∀ h', (∀ b o, b ≠ a → hp3.get? b = some o → h'.get? b = some o) → h'.get? a = some (PySem.W.excObj C hp3.objs.size none .none) →
        PySem.wpAt (model P w) (A.deeper (NdefX.envF (supF qn st cda cc) fI s.heap.objs.size)) (.func (.Expr (.Call (.Attribute (.Call (.Name "super" p0) [] [] p1) "__init__" p2) [msg] [] p3) p4 :: rest) (NdefX.envF (supF qn st cda cc) fI s.heap.objs.size))
          (execs rest (NdefX.envF (supF qn st cda cc) fI s.heap.objs.size)) (SP (NdefX.ncx CX0 P w K mg base N (supF qn st cda cc) fI A outer s H E) [] { nx := fun _ H' => Q .non H', rt := Q }) (NdefX.ncx CX0 P w K mg base N (supF qn st cda cc) fI A outer s H E).xe ⟨h', g3, d3, tk3, os3⟩ := fun h' k hx => by
      have J := I4.write (t' := tk3) (x := a) (e := a) (o := exo a C none) (by rw [ha1]; exact True.intro) (.inl rfl) k ⟨_, hx⟩ (exo_ok hx)
      have eu : upd H1 a (exo a C none) = H1 := funext fun b => by
        by_cases hb : b = a
        · rw [hb, upd_same, ha1]
        · exact upd_ne hb
      rw [eu] at J
      exact PySem.wpAt_of_wpAny (htr.run [] _ _ H1 _ (J.pins_of (pins' := []) fun p hp => absurd hp (by simp)) hq1)
    refine wpAny_call (codeAny_of_tree (show wpAny _ _ (callAny (.ref h1.objs.size) ⟨us3, []⟩) _ _ _ from ?_))
    simp only [callAny]
    refine wpAny_bind (wpAny_load hu ?_)
    simp only [PySem.W.kxs_mw, show (Value.type "method-wrapper" == Value.type "method" || Value.type "method-wrapper" == Value.type "builtin_function_or_method" || Value.type "method-wrapper" == Value.type "method-wrapper") = true by decide, if_true]
    refine PySem.W.KFB.if_so (by decide) (wpAny_bind (PySem.W.check_bound_init F.excBase_ValueError.toExcCallFacts (I4.kIn _ _ hC) ho3 rfl (wpAny_bind (wpAny_pure (wpAny_pure ?_)))))
    refine ⟨plainId_quiet F.excBase_ValueError.init.plain _, codeAny_builtin F.excBase_ValueError.initEntry (PySem.W.exc_init_tree (cls := .ref C) (t0 := t3) (dv := none) (c2 := .none) (c3 := .none) (b4 := .bool false) ho3 hlen fun h' k hx _ => ?_)⟩
    exact fin h' k hx
  · have fin : ∀ {σ' : L2.St} {H' : Hp} {v : V} {u : Value}, Inv (NdefX.ncx CX0 P w K mg base N (supF qn st cda cc) fI A outer s H E) [] σ' H' s' → L2.RelV v u → Q v H' → CE outer P w H s Q u s' :=
      fun {σ' H' v u} J rv q => ⟨v, H', J.os, J.bare, J.base, J.hok, rv, q⟩
    cases fl with
    | ret u =>
      obtain ⟨v, σ', H', J, rv, q⟩ := hs
      exact fin J rv q
    | next =>
      obtain ⟨σ', H', J, q⟩ := hs
      exact fin (v := V.non) (u := Value.none) J rfl q
    | brk =>
      obtain ⟨_, _, _, q⟩ := hs
      exact False.elim q
    | cont =>
      obtain ⟨_, _, _, q⟩ := hs
      exact False.elim q
end

/-! ### messages -/
/-- what a message may show -/
def Tell (v : V) : Prop := (∃ i : Int, v = .int i ∧ i.natAbs.log2 < 1920) ∨ ∃ y : Str, v = .str y ∧ y.length ≤ 1000000
theorem tell_small {i : Int} (h : -(2 ^ 64) < i ∧ i < 2 ^ 64) : Tell (.int i) := .inl ⟨i, rfl, by
  have h1 : i.natAbs < 2 ^ 64 := by omega
  by_cases h0 : i.natAbs = 0
  · rw [h0]; decide
  · exact Nat.lt_trans ((Nat.log2_lt h0).mpr h1) (by decide)⟩
/-- a part: a text, or what a slot holds -/
inductive Mp where
  | c (x : Str) | v (i : Nat) | t (sp : Sp) (E : XK) (i : Nat)
def Mp.te : Mp → TE
  | .c x => tC (.str x)
  | .v i => tFmt (tVar i)
  | .t sp E i => tFmt (tCall sp [] E (tCons (tVar i) tNil))
def Mp.Ok (σ : L2.St) : Mp → Prop
  | .c x => x.length ≤ 1000
  | .v i => ∃ v, σ[i]? = some (some v) ∧ Tell v
  | .t sp E i => ∃ v, σ[i]? = some (some v) ∧ ∀ (H : Hp) (Q : VK), (∀ y : Str, y.length ≤ 1000000 → Q (.str y) H) → sp [v] H Q E
theorem str_cat (a b : Str) : (a ++ b).length = a.length + b.length := by
  show (a.cps ++ b.cps).size = _
  rw [Array.size_append]
  rfl
theorem js_ok {σ : L2.St} {H : Hp} {Q : Str → Hp → Prop} (q : ∀ y, Q y H) : ∀ (ps : List Mp) (acc : Str), (∀ p ∈ ps, p.Ok σ) → acc.length + ps.length * 1001000 ≤ 10000000 → tJs (ps.map Mp.te) acc σ H Q
  | [], acc, _, _ => q acc
  | .c x :: ps, acc, h, hz => by
    have hx : x.length ≤ 1000 := h _ List.mem_cons_self
    rw [List.length_cons] at hz
    have e := str_cat acc x
    exact ⟨x, rfl, sz100 (by omega), js_ok q ps _ (fun p hp => h p (List.mem_cons_of_mem _ hp)) (by omega)⟩
  | .v i :: ps, acc, h, hz => by
    obtain ⟨v, hv, ht⟩ := h _ List.mem_cons_self
    rw [List.length_cons] at hz
    have hr : ∀ p ∈ ps, p.Ok σ := fun p hp => h p (List.mem_cons_of_mem _ hp)
    rcases ht with ⟨j, rfl, hj⟩ | ⟨y, rfl, hy⟩
    · have e := str_cat acc (Str.ofString (toString j))
      have el : (Str.ofString (toString j)).length ≤ 1921 := by
        rw [PySem.ofString_length]
        exact int_text_length_le (by decide) hj
      exact ⟨.int j, hv, .inr ⟨j, rfl, hj, _, rfl, sz100 (by omega), js_ok q ps _ hr (by omega)⟩⟩
    · have e := str_cat acc y
      exact ⟨.str y, hv, .inl ⟨y, rfl, sz100 (by omega), y, rfl, sz100 (by omega), js_ok q ps _ hr (by omega)⟩⟩
  | .t sp E i :: ps, acc, h, hz => by
    obtain ⟨v, hv, ht⟩ := h _ List.mem_cons_self
    rw [List.length_cons] at hz
    have hr : ∀ p ∈ ps, p.Ok σ := fun p hp => h p (List.mem_cons_of_mem _ hp)
    refine ⟨v, hv, ht _ _ fun y hy => ?_⟩
    have e := str_cat acc y
    exact .inl ⟨y, rfl, sz100 (by omega), y, rfl, sz100 (by omega), js_ok q ps _ hr (by omega)⟩
/-! ### one field, two fields -/
def sp_i1 (C : Addr) (f : Str) : Sp := fun vs H Q _ => ∃ (a : Addr) (v : V), vs = [.ref a, v] ∧ Tell v ∧ H a = some (exo a C none) ∧ ∀ dx, H dx = none → dx ≠ a → Q .non (upd (upd H dx (exd dx [(f, v)])) a (exo a C (some dx)))
def sp_i2 (C : Addr) (f g : Str) : Sp := fun vs H Q _ => ∃ (a : Addr) (v u : V), vs = [.ref a, v, u] ∧ Tell v ∧ Tell u ∧ H a = some (exo a C none) ∧
  ∀ dx, H dx = none → dx ≠ a → Q .non (upd (upd (upd H dx (exd dx [(f, v)])) a (exo a C (some dx))) dx (exd dx [(g, u), (f, v)]))
/-- such an error made -/
def tErr (C : Addr) (fs : List Str) (ta : TA) : L2.St → Hp → XK → Prop := fun σ H Q => ta σ H fun vs H1 => vs.length = fs.length ∧ (∀ v ∈ vs, Tell v) ∧ ∀ d, H1 d = none → Q (.ref C) (some d) (upd H1 d (.xd (fs.zip vs).reverse))
theorem err_heap {H : Hp} {a d : Addr} {fs : List (Str × V)} (ha : H a = none) (hd : d ≠ a) {H2 : Hp} (e1 : ∀ b, b ≠ a → b ≠ d → H2 b = H b) : upd (del H2 a) d (.xd fs) = upd H d (.xd fs) := by
  funext b
  by_cases hb : b = d
  · rw [hb, upd_same, upd_same]
  · rw [upd_ne hb, upd_ne hb]
    by_cases hc : b = a
    · rw [hc, del_same, ha]
    · rw [del_ne hc, e1 b hc hb]
theorem upd_two {H : Hp} {a d b : Addr} {o u : HO} (h1 : b ≠ a) (h2 : b ≠ d) : upd (upd H d u) a o b = H b := by rw [upd_ne h1, upd_ne h2]
section
variable {X : Cx} {C fI : Addr} {x f g : Str} {k : Nat} {fd : FuncData} {e : Expr} {es : List Expr} {ta : TA} {p pos : Pos}
/-- C(e, ..) where nothing is handled -/
theorem pmk_oexN {ps : List Str} {sp : Sp} {R : XK → List V → Hp → Prop} (hR : ∀ Q vs H1, R Q vs H1 → vs.length ≤ 1000 ∧ ∀ a, H1 a = none → sp (.ref a :: vs) (upd H1 a (exo a C none))
      (fun v H2 => v = .non ∧ ∃ (d : Addr) (fs : List (Str × V)), H2 a = some (exo a C (some d)) ∧ H2 d = some (exd d fs) ∧ H1 d = none ∧ Q (.ref C) (some d) (upd (del H2 a) d (.xd fs))) (fun _ _ _ => False)) (T : OexC X.K C) (iC : PySem.W.findIn X.K (.ref C) "__init__" = some (some (.ref fI))) (tI : PySem.W.typeIn X.K (.ref fI) = some (.type "function"))
    (F1 : FnOk X.prog X.w X.K X.mg X.base CX0 k fI fd ps sp) (hr : Room (k + 1) X.A) (hb : Binds X.K fd ps []) (hg : Gl X x) (hm : X.mg x = some (.ref C)) (ha : PA X (e :: es) ta)
    (hdb : (x == ("__debug__" : Str)) = false) (he : starEach (e :: es) X.env = (false, eval e X.env) :: starEach es X.env) (hpl : (backTo pos (starEach es X.env)).any (·.1) = false) :
    L2N.PMk X (.Call (.Name x p) (e :: es) [] pos) (fun σ H Q => ta σ H fun vs H1 => R Q vs H1) := by
  intro pins s σ H Q I h
  obtain ⟨nm, q, N, bs, bm, sn, sub, ab, col, dd, z0, z1, z2, z3, z5, hC, hbm⟩ := T.cls
  refine wpAny_Call_Name_kw (ld_glob I hg hm (PySem.W.callWith_K (h₀ := X.base) I.ok.mod.kin T.kC (thn (ha.run pos pins s σ H _ I h) fun us s1 hh => ?_) he hpl) hdb)
  obtain ⟨vs, H1, I1, r1, hh⟩ := hh
  obtain ⟨hz, q1⟩ := hR _ _ _ hh
  refine ⟨I1.kIn, show wpAny _ _ (call (.ref C) us) _ _ _ from ?_⟩
  obtain ⟨hp, g, dr, tk, os⟩ := s1
  have hsz : hp.objs.size ≤ hp.objs.size + 1 := Nat.le_add_right _ 1
  have hq := q1 (hp.objs.size + 1) (I1.hok.fresh hsz)
  have kk : ∀ b o, hp.get? b = some o → ((hp.push (PySem.W.kdv_tup us)).push (PySem.HandSPX.excO C hp.objs.size)).get? b = some o := fun b o z => Heap.get?_push_of_some _ (Heap.get?_push_of_some _ z)
  have hget : ((hp.push (PySem.W.kdv_tup us)).push (PySem.HandSPX.excO C hp.objs.size)).get? (hp.objs.size + 1) = some (PySem.HandSPX.excO C hp.objs.size) := by heap_get
  have I2 := I1.laid (t' := tk) (a := hp.objs.size + 1) (o := exo (hp.objs.size + 1) C none) (h' := (hp.push (PySem.W.kdv_tup us)).push (PySem.HandSPX.excO C hp.objs.size)) kk hsz (exo_ok hget)
  have r2 : Vals (V.ref (hp.objs.size + 1) :: vs) (Value.ref (hp.objs.size + 1) :: us) := .cons rfl r1
  have hl : (Value.ref (hp.objs.size + 1) :: us).length = ps.length := by
    rw [← r2.length]
    exact F1.len _ _ _ _ hq
  have hus : us.length ≤ sizeLine := by
    have e3 := Paired.length r1
    exact sz100 (by omega)
  have b2 := hb _ (Value.ref (hp.objs.size + 1) :: us) I2.kIn (by rw [List.append_nil]; exact hl)
  rw [List.append_nil] at b2
  refine wpAny_call (PySem.HandSPX.call_own F.excBase_ValueError (fun Y => PySem.HandSPX.refsVE_contains Y bm hbm) (I1.kIn _ _ hC) (PySem.W.looks_findIn I1.kIn iC) (fun self => PySem.W.bind_fn I1.kIn self tI) hus
    (codeAny_mono (F1.run _ X.stack _ _ ⟨Value.ref (hp.objs.size + 1) :: us, []⟩ (Value.ref (hp.objs.size + 1) :: us) _ _ (fun _ _ _ => False) (hr.make C us []) (I2.env0.make C us []) b2 r2 hq) fun r s2 hq2 => ?_))
  cases r with
  | error er => exact absurd hq2 (fun z => z)
  | ok fl =>
    cases fl with
    | ret u =>
      obtain ⟨v, H2, os2, bare2, un2, hok2, rv, ev, d, fs, ea, ed, hd1, q2⟩ := hq2
      subst ev
      obtain ⟨h2, g2, d2, t2, os3⟩ := s2
      obtain ⟨t0, G, J, kG, ge, hoe, na⟩ := mk_end0 (d2 := d2) (t2 := t2) I1 hsz kk un2 hok2 os2 bare2 ea ed hd1
      exact ⟨rv, hp.objs.size + 1, _, _, ⟨G, g2, d2, t2, os3⟩, _, .ref C, some d, rfl, J, kG, ge, hoe, ⟨rfl, rfl, fun vs hv => by cases hv; rfl⟩, rfl, rfl, na, rfl, bare2, raises_own T.exC T.tyC, q2⟩
    | next => exact hq2.elim
    | brk => exact hq2.elim
    | cont => exact hq2.elim
end

/-! ### what the top says of error classes -/
structure ErrCls (K : PySem.W.Frag) (mg : Str → Option Value) (C : Addr) (x : Str) : Prop where
  at_ : mg x = some (.ref C)
  xf : XfC K C
  ex : ExcC K C
  ty : PySem.W.typeIn K (.ref C) = some (.type "type")
structure ErrIni (K : PySem.W.Frag) (C : Addr) (qn : Str) (st : Stmt) (ps fs : List Str) : Prop where
  sup : SupC K C
  ini : ∃ fI fd, SupAt K C qn st fI fd ∧ PySem.W.findIn K (.ref C) "__init__" = some (some (.ref fI)) ∧ PySem.W.typeIn K (.ref fI) = some (.type "function") ∧ Binds K fd ps []
  no : ∀ f ∈ fs, PySem.W.findIn K (.ref C) f = some none
/-- C's __init__ keeps sp -/
structure EDef (P : Program) (w : World) (K : PySem.W.Frag) (mg : Str → Option Value) (base : Heap) (C : Addr) (x : Str) (ps : List Str) (sp : Sp) : Prop where
  at_ : mg x = some (.ref C)
  oex : OexC K C
  ini : ∃ fI fd, FnOk P w K mg base CX0 2 fI fd ps sp ∧ PySem.W.findIn K (.ref C) "__init__" = some (some (.ref fI)) ∧ PySem.W.typeIn K (.ref fI) = some (.type "function") ∧ Binds K fd ps []
theorem _root_.L2H.RoomH.units {k : Nat} {A : Around} (r : L2H.RoomH k A) : A.units + 64 < cLine := by
  have := r.un
  omega
theorem ErrCls.exm {K : PySem.W.Frag} {mg : Str → Option Value} {C : Addr} {x : Str} {cls : Value} {b : Bool} (E : ErrCls K mg C x) (h : PySem.W.subIn K cls (.ref C) = some b) : PySem.W.exmOne K cls (.ref C) = some b := PySem.W.exm_ref E.ex.hs E.ex.hd E.ty h
theorem ErrCls.kit {K : PySem.W.Frag} {mg : Str → Option Value} {C D : Addr} {x : Str} {b : Bool} (E : ErrCls K mg C x) (h : PySem.W.subIn K (.ref D) (.ref C) = some b) (hb : D = C → b = true) : PySem.W.kitOne K (.ref D) (.ref C) = some b := by
  unfold PySem.W.kitOne
  by_cases e : D = C
  · rw [if_pos (by rw [e]; exact beq_self_eq_true _), hb e]
  · rw [if_neg (by simpa using e)]
    show (if ((PySem.W.clsIn K C).isSome && PySem.W.typeIn K (.ref C) == some (.type "type")) = true then PySem.W.subIn K (.ref D) (.ref C) else none) = some b
    obtain ⟨cd, hc, _⟩ := PySem.W.any_some E.ex.hd
    rw [hc, E.ty, h]
    rfl
theorem ErrCls.kitF {K : PySem.W.Frag} {mg : Str → Option Value} {C D : Addr} {x : Str} (E : ErrCls K mg C x) (h : PySem.W.subIn K (.ref D) (.ref C) = some false) (hs : PySem.W.subIn K (.ref D) (.ref D) = some true) : PySem.W.kitOne K (.ref D) (.ref C) = some false := E.kit h fun e => by
  rw [e] at h hs
  rw [hs] at h
  cases h
theorem ErrCls.kitT {K : PySem.W.Frag} {mg : Str → Option Value} {C D : Addr} {x : Str} (E : ErrCls K mg C x) (h : PySem.W.subIn K (.ref D) (.ref C) = some true) : PySem.W.kitOne K (.ref D) (.ref C) = some true := E.kit h fun _ => rfl
theorem sz2 (vs : List V) (h : vs.length ≤ 2) : vs.length ≤ 1000 := by omega
section
variable {X : Cx} {C : Addr} {x f g : Str} {e : Expr} {es : List Expr} {ta : TA} {p pos : Pos}
theorem pmk_e1 {n : Str} (G : EDef X.prog X.w X.K X.mg X.base C x ["self", n] (sp_i1 C f)) (hr : Room 3 X.A) (ha : PA X (e :: es) ta) (hg : Gl X x := by rfl) (hdb : (x == ("__debug__" : Str)) = false := by decide)
    (he : starEach (e :: es) X.env = (false, eval e X.env) :: starEach es X.env := by rfl) (hpl : (backTo pos (starEach es X.env)).any (·.1) = false := by rfl) : L2N.PMk X (.Call (.Name x p) (e :: es) [] pos) (tErr C [f] ta) := by
  obtain ⟨fI, fd, F1, iC, tI, hb⟩ := G.ini
  refine pmk_oexN (R := fun Q vs H1 => vs.length = 1 ∧ (∀ v ∈ vs, Tell v) ∧ ∀ d, H1 d = none → Q (.ref C) (some d) (upd H1 d (.xd (([f] : List Str).zip vs).reverse))) (fun Q vs H1 hh => ?_) G.oex iC tI F1 hr hb hg G.at_ ha hdb he hpl
  obtain ⟨hl, ht, q⟩ := hh
  match vs, hl with
  | [v], _ =>
    refine ⟨sz2 _ (Nat.le_of_ble_eq_true rfl), fun a na => ⟨a, v, rfl, ht v List.mem_cons_self, upd_same, fun dx h1 h2 => ⟨rfl, dx, [(f, v)], upd_same, by rw [upd_ne h2, upd_same], ?_, ?_⟩⟩⟩
    · rw [upd_ne h2] at h1
      exact h1
    · rw [upd_ne h2] at h1
      rw [err_heap na h2 (H := H1) (fun b b1 b2 => by rw [upd_ne b1, upd_ne b2, upd_ne b1])]
      exact q dx h1
theorem pmk_e2 {n m : Str} (G : EDef X.prog X.w X.K X.mg X.base C x ["self", n, m] (sp_i2 C f g)) (hr : Room 3 X.A) (ha : PA X (e :: es) ta) (hg : Gl X x := by rfl) (hdb : (x == ("__debug__" : Str)) = false := by decide)
    (he : starEach (e :: es) X.env = (false, eval e X.env) :: starEach es X.env := by rfl) (hpl : (backTo pos (starEach es X.env)).any (·.1) = false := by rfl) : L2N.PMk X (.Call (.Name x p) (e :: es) [] pos) (tErr C [f, g] ta) := by
  obtain ⟨fI, fd, F1, iC, tI, hb⟩ := G.ini
  refine pmk_oexN (R := fun Q vs H1 => vs.length = 2 ∧ (∀ v ∈ vs, Tell v) ∧ ∀ d, H1 d = none → Q (.ref C) (some d) (upd H1 d (.xd (([f, g] : List Str).zip vs).reverse))) (fun Q vs H1 hh => ?_) G.oex iC tI F1 hr hb hg G.at_ ha hdb he hpl
  obtain ⟨hl, ht, q⟩ := hh
  match vs, hl with
  | [v, u], _ =>
    refine ⟨sz2 _ (Nat.le_of_ble_eq_true rfl), fun a na => ⟨a, v, u, rfl, ht v List.mem_cons_self, ht u (List.mem_cons_of_mem _ List.mem_cons_self), upd_same, fun dx h1 h2 => ⟨rfl, dx, [(g, u), (f, v)], ?_, upd_same, ?_, ?_⟩⟩⟩
    · rw [upd_ne (Ne.symm h2), upd_same]
    · rw [upd_ne h2] at h1
      exact h1
    · rw [upd_ne h2] at h1
      rw [err_heap na h2 (H := H1) (fun b b1 b2 => by rw [upd_ne b2, upd_ne b1, upd_ne b2, upd_ne b1])]
      exact q dx h1
end
/-! ### defs that raise -/
section
variable {P : Program} {w : World} {K : PySem.W.Frag} {mg : Str → Option Value} {base : Heap}
theorem _root_.RD.FunAt.okN {x : Str} {st : Stmt} {N ps : List Str} {k : Nat} {sp : Sp} (F : FunAt K mg x st ps) (S : FnScope N ps (defScope st)) (len : ∀ vs H Q E, sp vs H Q E → vs.length = ps.length)
    (hbody : ∀ (f : Addr) (cdv : Value) (A : Around) (outer : List Env) (s : Shared) (H : Hp) (vs : List V) (Q : VK) (E : XK), Room k (A.deeper (envOfC x (defScope st) s.heap.objs.size f cdv)) → sp vs H Q E →
      ∃ t, PSs (cxOf (L2N.CX P w) P w K mg base N x (defScope st) f cdv A outer s H E) (defBody st) t ∧ t { nx := fun _ H' => Q .non H', rt := Q } (start N vs) H) : Def P w K mg base (L2N.CX P w) (k + 1) x ps sp := by
  obtain ⟨f, fd, F, hm, hb⟩ := F.ex
  have kp := F.kp
  obtain ⟨oc, od, kV, doc, pm, an, cdv, ct, osl, rfl, lk, hcd⟩ := F.ex
  exact ⟨f, _, fn_of lk hcd S len fun A outer s H vs Q E hr hsp => hbody f cdv A outer s H vs Q E hr hsp, hm, kp, hb⟩
theorem cx_of_cxn {outer : List Env} {H : Hp} {s : Shared} {E : XK} {u : Value} {s2 : Shared} (h : L2N.CX P w outer H s E u s2) : L2.CX P w outer H s E u s2 := by
  obtain ⟨a, B, H2, cls, d, e1, fl, r⟩ := h
  exact ⟨a, B, H2, cls, d, e1, L2H.flyingZ_imp (fun _ z => z.zc) fl, r⟩
theorem _root_.RD.Def.toX {x : Str} {ps : List Str} {k : Nat} {sp : Sp} (G : Def P w K mg base (L2N.CX P w) k x ps sp) : Def P w K mg base (L2.CX P w) k x ps sp := by
  obtain ⟨f, fd, F, r⟩ := G.ex
  refine ⟨f, fd, ⟨F.len, fun A outer s H args us vs Q E hr e0 hb hv hs => codeAny_mono (F.run A outer s H args us vs Q E hr e0 hb hv hs) fun r s2 hq => ?_⟩, r⟩
  cases r with
  | error e => exact cx_of_cxn hq
  | ok fl => cases fl <;> exact hq
end
section
variable {X : Cx} {k : Nat} {ps : List Str} {sp : Sp} {x : Str} {p pos : Pos} {e : Expr} {es : List Expr} {t : TA} {W : WX}
/-- a call that may raise -/
theorem pe_callX (G : Def X.prog X.w X.K X.mg X.base (L2.CX X.prog X.w) k x ps sp) (tk : L2.Takes X W) (hr : Room k X.A) (ha : PA X (e :: es) t) (hg : Gl X x := by rfl)
    (hdb : (x == ("__debug__" : Str)) = false := by decide) (he : starEach (e :: es) X.env = (false, eval e X.env) :: starEach es X.env := by rfl) (hpl : (backTo pos (starEach es X.env)).any (·.1) = false := by rfl) : PE X (.Call (.Name x p) (e :: es) [] pos) (tCallS sp (WE W) t) := by
  obtain ⟨f, fd, F, hm, hk, hb⟩ := G.ex
  exact pe_callS F hr hg hm hk hb (fun σ => L2.passAt tk σ) ha hdb he hpl
theorem pe_callN (G : Def X.prog X.w X.K X.mg X.base (L2N.CX X.prog X.w) k x ps sp) (tk : L2N.Takes X W) (hr : Room k X.A) (ha : PA X (e :: es) t) (hg : Gl X x := by rfl)
    (hdb : (x == ("__debug__" : Str)) = false := by decide) (he : starEach (e :: es) X.env = (false, eval e X.env) :: starEach es X.env := by rfl) (hpl : (backTo pos (starEach es X.env)).any (·.1) = false := by rfl) : PE X (.Call (.Name x p) (e :: es) [] pos) (tCallS sp (WE W) t) := by
  obtain ⟨f, fd, F, hm, hk, hb⟩ := G.ex
  exact pe_callS F hr hg hm hk hb (fun σ => L2N.passAt tk σ) ha hdb he hpl
end
/-! ### in an except suite -/
/-- what a def promises wherever it is called: nothing in it asks what is handled -/
structure FnW (P : Program) (w : World) (K : PySem.W.Frag) (mg : Str → Option Value) (base : Heap) (k : Nat) (f : Addr) (fd : FuncData) (ps : List Str) (sp : Sp) : Prop where
  len : ∀ vs H Q E, sp vs H Q E → vs.length = ps.length
  run : ∀ (A : Around) (outer : List Env) (s : Shared) (H : Hp) (args : Args) (us : List Value) (vs : List V) (Q : VK) (E : XK), L2H.RoomH k A → Env0 P w K mg base A outer s H → BindsTo s fd args (ps.zip us) → Vals vs us → sp vs H Q E →
    codeAny (model P w) A (.call (.ref f) args) (CR CX0 outer P w H s Q E) s
structure DefW (P : Program) (w : World) (K : PySem.W.Frag) (mg : Str → Option Value) (base : Heap) (k : Nat) (x : Str) (ps : List Str) (sp : Sp) : Prop where
  ex : ∃ f fd, FnW P w K mg base k f fd ps sp ∧ mg x = some (.ref f) ∧ PySem.W.keepIn K (.ref f) = true ∧ Binds K fd ps []
def cxW (P : Program) (w : World) (K : PySem.W.Frag) (mg : Str → Option Value) (base : Heap) (N : List Str) (qual : Str) (scope : Scope) (f : Addr) (cd : Value) (A : Around) (outer : List Env) (s : Shared) (H : Hp) (E : XK) : Cx :=
  { cxOf CX0 P w K mg base N qual scope f cd A outer s H E with calm := false, xe := fun _ _ => False }
theorem env0_mark {P : Program} {w : World} {K : PySem.W.Frag} {mg : Str → Option Value} {base : Heap} {A : Around} {outer : List Env} {s : Shared} {H : Hp} (e : Env0 P w K mg base A outer s H) : Env0 P w K mg base { A with handled := none } outer s H :=
  ⟨e.frames, e.mod, e.bs, e.bsz, e.funs, e.frf, e.hok, e.bare⟩
theorem _root_.RD.FunAt.okW {P : Program} {w : World} {K : PySem.W.Frag} {mg : Str → Option Value} {base : Heap} {x : Str} {st : Stmt} {N ps : List Str} {k : Nat} {sp : Sp} (F : FunAt K mg x st ps) (S : FnScope N ps (defScope st)) (len : ∀ vs H Q E, sp vs H Q E → vs.length = ps.length)
    (hbody : ∀ (f : Addr) (cdv : Value) (A : Around) (outer : List Env) (s : Shared) (H : Hp) (vs : List V) (Q : VK) (E : XK), L2H.RoomH k (A.deeper (envOfC x (defScope st) s.heap.objs.size f cdv)) → sp vs H Q E →
      ∃ t, PSs (cxW P w K mg base N x (defScope st) f cdv A outer s H E) (defBody st) t ∧ t { nx := fun _ H' => Q .non H', rt := Q } (start N vs) H) : DefW P w K mg base (k + 1) x ps sp := by
  obtain ⟨f, fd, F, hm, hbd⟩ := F.ex
  have kp := F.kp
  obtain ⟨oc, od, kV, doc, pm, an, cdv, ct, osl, rfl, lk, hcd⟩ := F.ex
  refine ⟨f, _, ⟨len, fun A outer s H args us vs Q E hr e0 hb r hsp => ?_⟩, hm, kp, hbd⟩
  have hl := len _ _ _ _ hsp
  have inS := e0.mod.kin.keeps fun b o e => (e0.bs b o e).1
  have lim := e0.mod.nolimit.keeps fun b o e => (e0.bs b o e).1
  have hkind : ∀ y ∈ ps.zip us, (defScope st).names.lookup y.1 = some .local ∨ ((defScope st).names.lookup y.1 = some .cell ∧ ((cellsFrom (s.heap.objs.size + 1) (defScope st).names []).lookup y.1).isSome = true) := fun ⟨n, v⟩ hy => (S.par n (List.of_mem_zip hy).1).imp id fun q => ⟨q, PySem.W.cellsFrom_some _ _ _ (.inl q)⟩
  refine codeAny_call_function hr.depth (inS _ _ lk) rfl S.co S.gen rfl (PySem.W.codeRec_of inS hcd) (hb _ _ _ _ (wpAny_newFunctionEnv_cells S.kind hkind fun env he s1 ic => ?_))
  subst he
  refine ⟨lim.keeps ic.toInCall.keep, codeAny_func ?_⟩
  obtain ⟨t, ht, hq⟩ := hbody f cdv A outer s H vs Q E (hr.deeper _) hsp
  have J : Inv (cxOf CX0 P w K mg base N x (defScope st) f cdv { A with handled := none } outer s H E) [] (start N vs) H s1 := inv_start S rfl (env0_mark e0) hl r ic
  have I : Inv (cxW P w K mg base N x (defScope st) f cdv A outer s H E) [] (start N vs) H s1 :=
    ⟨⟨J.ok.mod, J.ok.kind, J.ok.glob, J.ok.blt, J.ok.above, J.ok.inj, J.ok.has, J.ok.cab, fun z => (by cases z), Around.frames_deeper e0.frames, J.ok.stk, J.ok.exf, J.ok.bs, J.ok.bsz, J.ok.noex, J.ok.exfs, J.ok.funs, J.ok.frf⟩, J.os, J.bare, J.base, J.loc, J.cell, J.free, J.freeC, J.pin, J.hok, J.len⟩
  refine wpAny_mono (ht.run [] s1 (start N vs) H _ I hq) (fun fl s2 hs => ?_) fun e s2 hs => False.elim hs
  have fin : ∀ {σ2 : L2.St} {H2 : Hp} {v : V} {u : Value}, Inv (cxW P w K mg base N x (defScope st) f cdv A outer s H E) [] σ2 H2 s2 → RelV v u → Q v H2 → CE outer P w H s Q u s2 := fun {σ2 H2 v u} J2 rv q => ⟨v, H2, J2.os, J2.bare, J2.base, J2.hok, rv, q⟩
  cases fl with
  | ret u =>
    obtain ⟨v, σ2, H2, J2, rv, q⟩ := hs
    exact fin J2 rv q
  | next =>
    obtain ⟨σ2, H2, J2, q⟩ := hs
    exact fin (v := V.non) (u := Value.none) J2 rfl q
  | brk => exact hs.elim fun _ h => h.elim fun _ h => h.2.elim
  | cont => exact hs.elim fun _ h => h.elim fun _ h => h.2.elim
section
variable {X : Cx} {k : Nat} {ps : List Str} {sp : Sp} {x : Str} {p pos : Pos} {e : Expr} {es : List Expr} {t : TA}
theorem pe_callW (G : DefW X.prog X.w X.K X.mg X.base k x ps sp) (hr : L2H.RoomH k X.A) (ha : PA X (e :: es) t) (hg : Gl X x := by rfl)
    (hdb : (x == ("__debug__" : Str)) = false := by decide) (he : starEach (e :: es) X.env = (false, eval e X.env) :: starEach es X.env := by rfl) (hpl : (backTo pos (starEach es X.env)).any (·.1) = false := by rfl) : PE X (.Call (.Name x p) (e :: es) [] pos) (tCall sp [] E0 t) := by
  obtain ⟨f, fd, F, hm, hk, hb⟩ := G.ex
  refine ⟨fun pins s σ H Q I h => ?_⟩
  refine wpAny_Call_Name_kw (ld_glob I hg hm (PySem.W.callWith_K (h₀ := X.base) I.ok.mod.kin hk (thn (ha.run pos pins s σ H _ I h) fun us s1 hh => ?_) he hpl) hdb)
  obtain ⟨vs, H1, I1, r, q⟩ := hh
  rw [List.append_nil] at q
  have b := hb s1 us I1.kIn (by rw [List.append_nil, ← r.length]; exact F.len _ _ _ _ q)
  rw [List.append_nil] at b
  refine ⟨I1.kIn, wpAny_call (codeAny_mono (F.run X.A X.stack s1 H1 ⟨us, []⟩ us vs Q E0 hr I1.env0 b r q) fun r s2 hq => ?_)⟩
  cases r with
  | error e => exact hq.elim
  | ok fl =>
    cases fl with
    | ret u => exact I1.after hq
    | next => exact hq.elim
    | brk => exact hq.elim
    | cont => exact hq.elim
end
/-- isinstance(e, c), e the caught error (at a; its class cls, its dict d) -/
def rIsED (K : PySem.W.Frag) (a : Addr) (cls : Value) (d : Option Addr) : List V → Hp → VK → Prop := fun xs H Q => ∃ (D : Addr) (c : V) (cv : Value) (b : Bool) (dd : Addr) (fs : List (Str × V)), xs = [.ref a, c] ∧ cls = .ref D ∧ ExcC K D ∧ d = some dd ∧ H dd = some (.xd fs) ∧
  (∀ u, RelV c u → u = cv) ∧ PySem.W.kitOne K (.ref D) cv = some b ∧ Q (.bl b) H
theorem call_isED {X : Cx} {a : Addr} {cls : Value} {d : Option Addr} {oe : Obj} {pn : List (Addr × Obj)} (hz : Zc cls d oe) (hf : ∃ vs, oe.data = .fields vs) : CallR (X.suite a ((a, oe) :: pn)) (.builtin "isinstance") (rIsED X.K a cls d) := by
  intro pins s σ H xs us Q I r h
  obtain ⟨D, c, cv, b, dd, fs, rfl, hcl, T, hdd, hxd, hcv, e, q⟩ := h
  cases r with
  | cons rx rr =>
    cases rr with
    | cons rt rr =>
      cases rr
      cases rx
      have ec := hcv _ rt
      subst ec
      subst hcl
      subst hdd
      obtain ⟨hget, _⟩ := I.pin (a, oe) (List.mem_append.mpr (.inl List.mem_cons_self))
      obtain ⟨vs, hv⟩ := hf
      have hx : ObjOk X.prog X.w H s.heap dd (.xd fs) := I.hok dd _ hxd
      obtain ⟨mA, hns, _⟩ := hx
      obtain ⟨od, ho, _⟩ := lookIn_ns hns
      have J : PySem.W.InstAt s.heap a oe D (some od) := ⟨hget, hz.1, by unfold PySem.W.notCls; rw [hv], by rw [hz.2]; exact ho⟩
      obtain ⟨cd, hcc, _⟩ := PySem.W.any_some T.hd
      exact PySem.W.kia_one (PySem.W.kitx_exc (by rw [hcc]; rfl) T.hg T.hk T.hs T.ha T.hn T.ht T.hm) I.kIn J e (fun z => nomatch z) fun tk => ⟨.bl b, H, I.kept (t' := tk) fun _ _ z => z, rfl, q⟩
/-- e.f of the caught error -/
def tXfD (K : PySem.W.Frag) (a : Addr) (cls : Value) (d : Option Addr) (f : Str) (te : TE) : TE := fun σ H Q => te σ H fun x H1 => x = .ref a ∧ ∃ (D dd : Addr) (fs : List (Str × V)) (v : V), cls = .ref D ∧ XfC K D ∧ PySem.W.findIn K (.ref D) f = some none ∧ d = some dd ∧ H1 dd = some (.xd fs) ∧ fs.lookup f = some v ∧ Q v H1
theorem pe_xfD {X : Cx} {a : Addr} {oe : Obj} {cls : Value} {d : Option Addr} {pn : List (Addr × Obj)} {e : Expr} {te : TE} {pos : Pos} {n : Str}
    (hz : Zc cls d oe) (hf : ∃ vs, oe.data = .fields vs) (he : PE (X.suite a ((a, oe) :: pn)) e te) (hb : attributeBase e n X.env (eval e X.env) = eval e X.env := by rfl) :
    PE (X.suite a ((a, oe) :: pn)) (.Attribute e n pos) (tXfD X.K a cls d n te) := by
  refine ⟨fun pins s σ H Q I h => attr_of hb (thn (he.run pins s σ H _ I h) fun u s1 hh => ?_)⟩
  obtain ⟨x, H1, I1, rx, ex, D, dd, fs, v, ec, T, hno, ed, ea, l, q⟩ := hh
  subst ex
  obtain rfl : u = Value.ref a := rx
  subst ec
  subst ed
  obtain ⟨ha, _⟩ := I1.pin (a, oe) (List.mem_append_left _ List.mem_cons_self)
  obtain ⟨vs, hd⟩ := hf
  have hx : ObjOk X.prog X.w H1 s1.heap dd (.xd fs) := I1.hok dd _ ea
  obtain ⟨mA, hns, hr⟩ := hx
  obtain ⟨od, ho, hl⟩ := lookIn_ns hns
  obtain ⟨u, hu, ru⟩ := RelO.some_of (v := v) (o := mA n) (by rw [← l]; exact hr n)
  have J : PySem.W.InstAt s1.heap a oe D (some od) := ⟨ha, hz.1, by unfold PySem.W.notCls; rw [hd], by rw [hz.2]; exact ho⟩
  exact HandSPX.exc_get I1.kIn J T.ga T.gg T.exC (PySem.W.findObj_own T.hdC hno rfl (by rw [hl, hu])) (handed_of ru) ⟨v, H1, I1.tok _, ru, q⟩

/-! ### named readings -/
def tRaise (t : L2.St → Hp → XK → Prop) (W : WX) : TS := fun _ σ H => t σ H fun cls d H' => W cls d σ H'
theorem ps_raiseE {X : Cx} {W : WX} {e : Expr} {t : L2.St → Hp → XK → Prop} {pos : Pos} (hc : X.calm = true) (tk : L2N.Takes X W) (he : L2N.PMk X e t) : PS X (.Raise (some e) none pos) (tRaise t W) := L2N.ps_raise hc tk he
def tTryA (K : PySem.W.Frag) (c : Value) (i : Nat) (ts : Addr → Value → Option Addr → TS) (tb : WX → TS) : TS := fun D σ H => tb (wAs K c i ts (fun _ _ _ _ => False) D) D σ H
theorem ps_tryA {X : Cx} {x n : Str} {c : Value} {i : Nat} {body suite : List Stmt} {b₀ : Stmt} {np pos pos' : Pos} {tb : WX → TS} {ts : Addr → Value → Option Addr → TS} (hs : X.stack = X.env :: X.outer) (hf : X.env.frame = some X.env.locals) (hN : X.N.Nodup) (hi : X.N[i]? = some n) (hln : X.env.kindOf n = some .local) (hc : Names X x c)
    (hb : ∀ (W : WX) (pn : List (Addr × Obj)) (xe : Value → Shared → Prop), L2.Takes (X.tr pn xe) W → PassesOwn (model X.prog X.w) X.A X.env xe → PSs (X.tr pn xe) body (tb W))
    (hsu : ∀ (a : Addr) (oe : Obj) (cls : Value) (d : Option Addr) (pn : List (Addr × Obj)), Zc cls d oe → (∃ vs, oe.data = .fields vs) → PSs (X.suite a ((a, oe) :: pn)) (b₀ :: suite) (ts a cls d)) :
    PS X (.Try body [.ExceptHandler (some (.Name x np)) (some n) (b₀ :: suite) pos'] [] [] pos) (tTryA X.K c i ts tb) := L2.ps_try_as hs hf hN hi hln hc L2.takes0 hb hsu
theorem r_tryA {K : PySem.W.Frag} {c : Value} {i : Nat} {ts : Addr → Value → Option Addr → TS} {tb : WX → TS} {D : Ends} {σ : L2.St} {H : Hp} (q : tb (wAs K c i ts (fun _ _ _ _ => False) D) D σ H) : tTryA K c i ts tb D σ H := q
theorem r_callS {sp : Sp} {E : L2.St → XK} {t : TA} {σ : L2.St} {H : Hp} {Q : VK} (q : t σ H fun vs H1 => sp vs H1 Q (E σ)) : tCallS sp E t σ H Q := q
theorem r_raise {C : Addr} {fs : List Str} {ta : TA} {W : WX} {D : Ends} {σ : L2.St} {H : Hp} (q : ta σ H fun vs H1 => vs.length = fs.length ∧ (∀ v ∈ vs, Tell v) ∧ ∀ d, H1 d = none → W (.ref C) (some d) σ (upd H1 d (.xd (fs.zip vs).reverse))) : tRaise (tErr C fs ta) W D σ H := q
/-- the clause takes it -/
theorem w_yes {K : PySem.W.Frag} {cls c : Value} {d : Option Addr} {i : Nat} {ts : Addr → Value → Option Addr → TS} {Wout : WX} {D : Ends} {σ : L2.St} {H : Hp} (hb : PySem.W.exmOne K cls c = some true)
    (q : ∀ a, H a = none → ts a cls d { nx := fun σ' H' => D.nx (σ'.set i none) H', rt := D.rt, bk := fun σ' H' => D.bk (σ'.set i none) H', ct := fun σ' H' => D.ct (σ'.set i none) H' } (σ.set i (some (.ref a))) H) : wAs K c i ts Wout D cls d σ H := ⟨true, hb, fun _ => q, fun z => by cases z⟩
theorem r_isED {K : PySem.W.Frag} {a D C dd : Addr} {b : Bool} {fs : List (Str × V)} {H : Hp} {Q : VK} (T : ExcC K D) (hx : H dd = some (.xd fs)) (hk : PySem.W.kitOne K (.ref D) (.ref C) = some b) (q : Q (.bl b) H) : rIsED K a (.ref D) (some dd) [.ref a, .ref C] H Q :=
  ⟨D, .ref C, .ref C, b, dd, fs, rfl, rfl, T, rfl, hx, fun u h => h, hk, q⟩
theorem r_xfD {K : PySem.W.Frag} {a : Addr} {cls : Value} {d : Option Addr} {f : Str} {te : TE} {σ : L2.St} {H : Hp} {Q : VK} (q : te σ H fun x H1 => x = .ref a ∧ ∃ (D dd : Addr) (fs : List (Str × V)) (v : V), cls = .ref D ∧ XfC K D ∧ PySem.W.findIn K (.ref D) f = some none ∧ d = some dd ∧ H1 dd = some (.xd fs) ∧ fs.lookup f = some v ∧ Q v H1) : tXfD K a cls d f te σ H Q := q
/-- an error's dict beside the tracked heap -/
theorem _root_.RD.Own.xd {H0 H : Hp} {L : List (Addr × HO)} {d : Addr} {fs : List (Str × V)} (o : Own H0 H L) (hd : H d = none) : Own H0 (upd H d (.xd fs)) ((d, .xd fs) :: L) := o.new hd

/-! ### a def that may raise, called where it does not -/
def spZ (sp : Sp) : Sp := fun vs H Q _ => sp vs H Q (fun _ _ _ => False)
section
variable {P : Program} {w : World} {K : PySem.W.Frag} {mg : Str → Option Value} {base : Heap}
theorem _root_.RD.Def.toZ {x : Str} {ps : List Str} {k : Nat} {sp : Sp} (G : Def P w K mg base (L2.CX P w) k x ps sp) : Def P w K mg base CX0 k x ps (spZ sp) := by
  obtain ⟨f, fd, F, r⟩ := G.ex
  refine ⟨f, fd, ⟨fun vs H Q E h => F.len vs H Q _ h, fun A outer s H args us vs Q E hr e0 hb hv hs => codeAny_mono (F.run A outer s H args us vs Q (fun _ _ _ => False) hr e0 hb hv hs) fun r s2 hq => ?_⟩, r⟩
  cases r with
  | error e =>
    obtain ⟨a, B, H2, cls, d, e1, fl, h1, h2, h3, h4, h5, h6⟩ := hq
    exact h6
  | ok fl => cases fl <;> exact hq
end

/-! ### own errors raised in an except suite -/
section
variable {P : Program} {w : World} {K : PySem.W.Frag} {mg : Str → Option Value} {base : Heap}
theorem SupAt.okH {C fI : Addr} {qn : Str} {st : Stmt} {N ps : List Str} {k : Nat} {sp : Sp} {fd : FuncData} {p0 p1 p2 p3 p4 : Pos} {msg : Expr} {pl : Env → Sem Bool} {rest : List Stmt} {ar : Arg} (S : SupAt K C qn st fI fd) (hP : PrOk P) (U : SupC K C) (Z : NdefX.NScope N ps ["__class__"] (defScope st))
    (hsup : mg "super" = none) (har : ((defArgs st).posonlyargs ++ (defArgs st).args).head? = some ar) (han : ps.head? = some ar.arg)
    (hks : (defScope st).names.lookup ("super" : Str) = some .globalImplicit)
    (hB : defBody st = .Expr (.Call (.Attribute (.Call (.Name "super" p0) [] [] p1) "__init__" p2) [msg] [] p3) p4 :: rest)
    (hst : ∀ env : Env, starEach [msg] env = [(false, eval msg env)]) (hsw : ∀ env : Env, swapsWith (.Call (.Attribute (.Call (.Name "super" p0) [] [] p1) "__init__" p2) [msg] [] p3) none p4.line env = pure false)
    (hev : ∀ env : Env, eval (.Call (.Attribute (.Call (.Name "super" p0) [] [] p1) "__init__" p2) [msg] [] p3) env = (do
      let ov ← attributeBase (.Call (.Name "super" p0) [] [] p1) "__init__" env (eval (.Call (.Name "super" p0) [] [] p1) env)
      standAt p2.atName
      let (f, first) ← holding [ov] (getMethod ov "__init__" (pl env))
      callWith p3 f first (backTo p3 (starEach [msg] env)) []))
    (len : ∀ vs H Q E, sp vs H Q E → vs.length = ps.length)
    (hbody : ∀ (cda cc : Addr) (A : Around) (outer : List Env) (s : Shared) (H : Hp) (vs : List V) (Q : VK) (E : XK) (pp : Addr × Obj), L2H.RoomH k (A.deeper (NdefX.envF (supF qn st cda cc) fI s.heap.objs.size)) → sp vs H Q E →
      ∃ (a : Addr) (vs2 : List V) (tm : TE) (tr : TS), vs = .ref a :: vs2 ∧ H a = some (exo a C none) ∧ PE (NdefX.ncxH CX0 P w K mg base N (supF qn st cda cc) fI A outer s H E pp) msg tm ∧ PSs (NdefX.ncxH CX0 P w K mg base N (supF qn st cda cc) fI A outer s H E pp) rest tr ∧
        tm (NdefX.startF N vs [none]) H fun x H1 => (∃ v, [x] = [v]) ∧ H1 a = some (exo a C none) ∧ tr { nx := fun _ H' => Q .non H', rt := Q } (NdefX.startF N vs [none]) H1) :
    L2H.FnH P w K mg base CX0 (k + 1) fI fd ps sp := by
  obtain ⟨oc, od, kV, doc, pm, an, cda, cc, ct, osl, rfl, lk, hcd, ⟨cl1, cld1, csl1, hcc⟩, cl2, cld2, csl2, fs, tf, hcda, hfs⟩ := S.ex
  refine ⟨len, fun A outer s H args us vs Q E pp hr hhot hpin e0 hb r hsp => ?_⟩
  have KX : K.In s.heap := e0.mod.kin.keeps fun b o e => (e0.bs b o e).1
  have lim : s.heap.NoLimit := e0.mod.nolimit.keeps fun b o e => (e0.bs b o e).1
  have hl := len _ _ _ _ hsp
  have ccH : H cc = none := (e0.bs cc _ (e0.mod.kin _ _ hcc)).2
  have CA : NdefX.CellsAt [("__class__", cc)] ["__class__"] [none] s.heap H := by
    have look : ∀ y c, List.lookup y [(("__class__" : Str), cc)] = some c → y = "__class__" ∧ c = cc := fun y c h => by
      by_cases e : y = "__class__"
      · subst e
        simp [List.lookup] at h
        exact ⟨rfl, h.symm⟩
      · have e2 : (y == ("__class__" : Str)) = false := by simpa using e
        simp [List.lookup, e2] at h
    refine ⟨rfl, fun y c h => ?_, fun x y c h1 h2 => ?_, fun i y h => ?_⟩
    · obtain ⟨rfl, rfl⟩ := look y c h
      exact ⟨ccH, _, _, KX _ _ hcc, rfl⟩
    · rw [(look x c h1).1, (look y c h2).1]
    · match i, h with
      | 0, h =>
        have e : y = "__class__" := (Option.some.inj h).symm
        subst e
        exact ⟨cc, by simp [List.lookup], fun v z => by cases z⟩
  obtain ⟨a, vs2, tm, tr, hvs, ha, hm, htr, hq⟩ := hbody cda cc A outer s H vs Q E pp (hr.deeper _) hsp
  refine PySem.ks_codeAny_call_defAt (binds := ps.zip us) hr.depth (KX _ _ lk) rfl lim (PySem.W.codeRec_of KX hcd) rfl hb Z.nocell (fun ⟨n, _⟩ hy => Z.par n (List.of_mem_zip hy).1) (fun h₀ hns kp => ?_) Z.co Z.gen Z.kind
  have I := NdefX.inv_startNH (f := fI) (F := supF qn st cda cc) (CX := CX0) (E := E) (tk := s.toks + (ps.zip us).length) Z hpin e0 hl r CA hns kp
  have q0 : ∃ us2, us = .ref a :: us2 := by
    subst hvs
    cases r with
    | @cons _ u0 _ ur r0 r1 =>
      obtain rfl : u0 = Value.ref a := r0
      exact ⟨ur, rfl⟩
  obtain ⟨us2, hus⟩ := q0
  obtain ⟨p', ps2, hps⟩ : ∃ p' ps2, ps = p' :: ps2 := by
    cases ps with
    | nil => cases han
    | cons p' ps2 => exact ⟨p', ps2, rfl⟩
  have hp' : p' = ar.arg := by
    rw [hps] at han
    exact Option.some.inj han
  have ndP : ps.Nodup := by
    have q := Z.nd.sublist (List.take_sublist (ps.length + 1) N)
    rw [show N.take (ps.length + 1) = ps ++ [("__class__" : Str)] from Z.pre] at q
    exact (List.nodup_append.mp q).1
  have hself : (ps.zip us).reverse.lookup ar.arg = some (.ref a) := by
    refine NdefX.zip_look (i := 0) ndP ?_ ?_
    · rw [hps, hp']; rfl
    · rw [hus]; rfl
  have hself2 : (defScope st).names.lookup ar.arg = some .local := by
    rw [← hp']
    exact Z.par p' (by rw [hps]; exact List.mem_cons_self ..)
  refine PySem.ks_wpAt_mono (Q := SP (NdefX.ncxH CX0 P w K mg base N (supF qn st cda cc) fI A outer s H E pp) [] { nx := fun _ H' => Q .non H', rt := Q }) (E := (NdefX.ncxH CX0 P w K mg base N (supF qn st cda cc) fI A outer s H E pp).xe) ?_ (fun fl s' hs => ?_) fun _ _ z => z
  · show PySem.wpAt _ _ _ (execs (defBody st) _) _ _ _
    obtain ⟨oD, hD0, hD2⟩ : ∃ o, K.lookup C = some o ∧ ∃ cd, o.data = .cls cd ∧ PySem.W.clsIn K C = some cd := by
      have q := U.self
      unfold PySem.W.mroIn at q
      cases z : PySem.W.clsIn K C with
      | none => rw [z] at q; cases q
      | some cd =>
        obtain ⟨o, h1, h2⟩ := cls_obj z
        exact ⟨o, h1, cd, h2, rfl⟩
    obtain ⟨cd, hD3, hD4⟩ := hD2
    have K1 := I.kIn
    obtain ⟨t1, ho⟩ := exo_at I.hok ha
    have gN := I.mod.glob.keeps I.bk
    obtain ⟨mb, hmb1, hmb2⟩ := I.mod.blt
    have bN := hmb1.keeps I.bk
    rw [hB]
    refine PySem.ks_wpAt_execs_cons ?_
    refine PySem.ks_wpAt_Expr_any ?_ (by show ((defScope st).kind == .module && _) = false; rw [Z.kind]; rfl) (hsw _)
    refine PySem.ks_wpAt_MethodCall ?_ (hev _)
    refine PySem.ks_wpAt_super_base hks (Z.frk _ (List.mem_singleton.mpr rfl)) (by decide) rfl (K1 _ _ lk) rfl har rfl (K1 _ _ hcda) rfl hfs (by rw [hP.file]; exact beq_self_eq_true _) hP.top ?_
    refine PySem.W.ks_loadName_global Z.kind hks (Calls.loadGlobal_builtin gN hsup bN ((hmb2 _ (by decide)).trans (by kernel_rfl)) ⟨rfl, ?_⟩)
    refine wpAny_loadName_free Z.kind (Z.frk _ (List.mem_singleton.mpr rfl)) (show List.lookup ("__class__" : Str) [(("__class__" : Str), cc)] = some cc by simp [List.lookup]) ⟨_, K1 _ _ hcc, rfl⟩ ?_
    refine wpAny_loadName_local Z.kind hself2 hns hself ?_
    refine PySem.ks_wpAny_isType_cls (K1 _ _ hD0) hD3 ⟨rfl, ?_⟩
    refine PySem.ks_wpAny_call_super (K1 _ _ hD0) hD3 ho rfl (fun c z => by cases z) (PySem.W.looks_mroIn K1 U.self) (fun h1 e1 k1 => ?_)
    have I1 := I.kept (t' := s.toks + (ps.zip us).length) k1
    have J1 : PySem.W.InstAt h1 a _ C none := ⟨k1 _ _ ho, rfl, rfl, trivial⟩
    have hf : PySem.W.alongIn K "__init__" ((cd.mro.dropWhile (· != .ref C)).drop 1) = some (some (.builtin "ValueError.__init__")) := by
      have q := U.ini
      unfold PySem.W.ks_superIn at q
      rw [hD4] at q
      exact q
    refine PySem.W.kxs_getMethod PySem.W.kxs_ValueError e1 (PySem.W.looks_opaque I1.kIn U.stat) (l₀ := cd.mro) (fun A Q E s k q => wpAny_bind ((PySem.W.looks_clsIn I1.kIn hD4) A _ E s k (wpAny_pure q))) rfl I1.kIn hf (J1.type.andThen (PySem.W.looks_subIn I1.kIn U.sub)) (PySem.W.ks_ne I1.kIn J1 hD4) (by decide) ?_
    have I2 := I1.kept (t' := s.toks + (ps.zip us).length + 1) (h' := h1.push (PySem.W.kxs_mw "ValueError.__init__" a)) (fun b o q => Heap.get?_push_of_some _ q)
    have I3 := I2.pins_of (pins' := [(h1.objs.size, PySem.W.kxs_mw "ValueError.__init__" a)]) (fun p hp => by
      rw [List.mem_singleton.mp hp]
      exact ⟨Heap.get?_push_size _ rfl, I1.hok.fresh (Nat.le_refl _), Nat.ne_of_gt I1.lt, I1.nofs (Nat.le_refl _), fun v z => by cases z⟩)
    refine mw_call1 (i := "ValueError.__init__") (x := a) (hst _) ?_
    have hst0 := hst (NdefX.ncxH CX0 P w K mg base N (supF qn st cda cc) fI A outer s H E pp).env
    refine thn ((pa_cons hm pa_nil hst0).run p3 _ _ _ H (fun us2 H1 => (∃ v, us2 = [v]) ∧ H1 a = some (exo a C none) ∧ tr { nx := fun _ H' => Q .non H', rt := Q } (NdefX.startF N vs [none]) H1) I3 ?_) fun us3 s3 hh => ?_
    · exact hq
    obtain ⟨vs3, H1, I4, r4, ⟨v3, hv3⟩, ha1, hq1⟩ := hh
    subst hv3
    have hlen : us3.length ≤ sizeLine := by
      rw [← Paired.length r4]
      exact (by decide : 1 ≤ sizeLine)
    have hu : s3.heap.get? h1.objs.size = some (PySem.W.kxs_mw "ValueError.__init__" a) := (I4.pin _ (List.mem_append_right _ (List.mem_singleton.mpr rfl))).1
    refine ⟨hu, ?_⟩
    obtain ⟨t3, ho3⟩ := exo_at I4.hok ha1
    obtain ⟨nm, qq, nn, bs, bm, sn, sub, ab, col, dd, z0, z1, z2, z3, z5, hC, hbm⟩ := U.oex.cls
    obtain ⟨hp3, g3, d3, tk3, os3⟩ := s3
    have fin : ∀ h', (∀ b o, b ≠ a → hp3.get? b = some o → h'.get? b = some o) → h'.get? a = some (PySem.W.excObj C hp3.objs.size none .none) →
        PySem.wpAt (model P w) (A.deeper (NdefX.envF (supF qn st cda cc) fI s.heap.objs.size)) (.func (.Expr (.Call (.Attribute (.Call (.Name "super" p0) [] [] p1) "__init__" p2) [msg] [] p3) p4 :: rest) (NdefX.envF (supF qn st cda cc) fI s.heap.objs.size))
          (execs rest (NdefX.envF (supF qn st cda cc) fI s.heap.objs.size)) (SP (NdefX.ncxH CX0 P w K mg base N (supF qn st cda cc) fI A outer s H E pp) [] { nx := fun _ H' => Q .non H', rt := Q }) (NdefX.ncxH CX0 P w K mg base N (supF qn st cda cc) fI A outer s H E pp).xe ⟨h', g3, d3, tk3, os3⟩ := fun h' k hx => by
      have J := I4.write (t' := tk3) (x := a) (e := a) (o := exo a C none) (by rw [ha1]; exact True.intro) (.inl rfl) k ⟨_, hx⟩ (exo_ok hx)
      have eu : upd H1 a (exo a C none) = H1 := funext fun b => by
        by_cases hb : b = a
        · rw [hb, upd_same, ha1]
        · exact upd_ne hb
      rw [eu] at J
      exact PySem.wpAt_of_wpAny (htr.run [] _ _ H1 _ (J.pins_of (pins' := []) fun p hp => absurd hp (by simp)) hq1)
    refine wpAny_call (codeAny_of_tree (show wpAny _ _ (callAny (.ref h1.objs.size) ⟨us3, []⟩) _ _ _ from ?_))
    simp only [callAny]
    refine wpAny_bind (wpAny_load hu ?_)
    simp only [PySem.W.kxs_mw, show (Value.type "method-wrapper" == Value.type "method" || Value.type "method-wrapper" == Value.type "builtin_function_or_method" || Value.type "method-wrapper" == Value.type "method-wrapper") = true by decide, if_true]
    refine PySem.W.KFB.if_so (by decide) (wpAny_bind (PySem.W.check_bound_init F.excBase_ValueError.toExcCallFacts (I4.kIn _ _ hC) ho3 rfl (wpAny_bind (wpAny_pure (wpAny_pure ?_)))))
    refine ⟨plainId_quiet F.excBase_ValueError.init.plain _, codeAny_builtin F.excBase_ValueError.initEntry (PySem.W.exc_init_tree (cls := .ref C) (t0 := t3) (dv := none) (c2 := .none) (c3 := .none) (b4 := .bool false) ho3 hlen fun h' k hx _ => ?_)⟩
    exact fin h' k hx
  · have fin : ∀ {σ' : L2.St} {H' : Hp} {v : V} {u : Value}, Inv (NdefX.ncxH CX0 P w K mg base N (supF qn st cda cc) fI A outer s H E pp) [] σ' H' s' → L2.RelV v u → Q v H' → CE outer P w H s Q u s' :=
      fun {σ' H' v u} J rv q => ⟨v, H', J.os, J.bare, J.base, J.hok, rv, q⟩
    cases fl with
    | ret u =>
      obtain ⟨v, σ', H', J, rv, q⟩ := hs
      exact fin J rv q
    | next =>
      obtain ⟨σ', H', J, q⟩ := hs
      exact fin (v := V.non) (u := Value.none) J rfl q
    | brk =>
      obtain ⟨_, _, _, q⟩ := hs
      exact False.elim q
    | cont =>
      obtain ⟨_, _, _, q⟩ := hs
      exact False.elim q
end
/-- C's __init__ keeps sp where something is handled, too -/
structure EDefH (P : Program) (w : World) (K : PySem.W.Frag) (mg : Str → Option Value) (base : Heap) (C : Addr) (x : Str) (ps : List Str) (sp : Sp) : Prop where
  at_ : mg x = some (.ref C)
  oex : OexC K C
  ini : ∃ fI fd, L2H.FnH P w K mg base CX0 2 fI fd ps sp ∧ PySem.W.findIn K (.ref C) "__init__" = some (some (.ref fI)) ∧ PySem.W.typeIn K (.ref fI) = some (.type "function") ∧ Binds K fd ps []
theorem pmk_zc {X : Cx} {e : Expr} {t : L2.St → Hp → XK → Prop} (h : L2N.PMk X e t) : L2.PMk X e t := fun pins s σ H Q I q => thn (h pins s σ H Q I q) fun _ _ ⟨a, oe, vs, sI, H', cls, d, e1, J, k, hne, ha, hz, r⟩ => ⟨a, oe, vs, sI, H', cls, d, e1, J, k, hne, ha, hz.zc, r⟩
theorem ps_raiseX {X : Cx} {W : WX} {e : Expr} {t : L2.St → Hp → XK → Prop} {pos : Pos} (hc : X.calm = true) (tk : L2.Takes X W) (he : L2N.PMk X e t) : PS X (.Raise (some e) none pos) (tRaise t W) := L2.ps_raise hc tk (pmk_zc he)
theorem ps_raiseF {X : Cx} {W : WX} {e : Expr} {t : L2.St → Hp → XK → Prop} {j : Nat} {cpos pos : Pos} (hc : L2H.HotC X) (tk : L2.Takes X W) (he : L2H.PMk5 X e t) : PS X (.Raise (some e) (some (.Constant .none j cpos)) pos) (tRaise t W) := L2H.ps_raiseHN hc tk he
/-- arguments known by a word only -/
def tCutA (t : TA) : TA := fun σ H R => ∃ S : List V → Hp → Prop, t σ H S ∧ ∀ vs H1, S vs H1 → R vs H1
theorem pa_cut {X : Cx} {es : List Expr} {t : TA} (h : PA X es t) : PA X es (tCutA t) := ⟨fun pos pins s σ H R I ⟨S, h1, k⟩ => thn (h.run pos pins s σ H S I h1) fun us s1 ⟨vs, H1, I1, r, q⟩ => ⟨vs, H1, I1, r, k vs H1 q⟩⟩
section
variable {X : Cx} {C : Addr} {x f g : Str} {e : Expr} {es : List Expr} {ta : TA} {p pos : Pos}
theorem pmk5_e1 {n : Str} (G : EDefH X.prog X.w X.K X.mg X.base C x ["self", n] (sp_i1 C f)) (hr : L2H.RoomH 3 X.A) (hc : L2H.HotC X) (ha : PA X (e :: es) ta) (hg : Gl X x := by rfl) (hdb : (x == ("__debug__" : Str)) = false := by decide)
    (he : starEach (e :: es) X.env = (false, eval e X.env) :: starEach es X.env := by rfl) (hpl : (backTo pos (starEach es X.env)).any (·.1) = false := by rfl) : L2H.PMk5 X (.Call (.Name x p) (e :: es) [] pos) (tErr C [f] ta) := by
  obtain ⟨fI, fd, F1, iC, tI, hb⟩ := G.ini
  intro pins s σ H Q I h
  refine L2H.pmk5_oexH G.oex iC tI F1 hr hc hb pass0 hg G.at_ (pa_cut ha) hdb he hpl pins s σ H Q I ⟨_, h, fun vs H1 hh => ?_⟩
  obtain ⟨hl, ht, q⟩ := hh
  match vs, hl with
  | [v], _ =>
    refine ⟨sz2 _ (Nat.le_of_ble_eq_true rfl), fun a na => ⟨a, v, rfl, ht v List.mem_cons_self, upd_same, fun dx h1 h2 => ⟨rfl, dx, [(f, v)], upd_same, by rw [upd_ne h2, upd_same], ?_, ?_⟩⟩⟩
    · rw [upd_ne h2] at h1
      exact h1
    · rw [upd_ne h2] at h1
      rw [err_heap na h2 (H := H1) (fun b b1 b2 => by rw [upd_ne b1, upd_ne b2, upd_ne b1])]
      exact q dx h1
end
section
variable {P : Program} {w : World} {K : PySem.W.Frag} {mg : Str → Option Value} {base : Heap}
theorem _root_.RD.FunAt.okX {x : Str} {st : Stmt} {N ps : List Str} {k : Nat} {sp : Sp} (F : FunAt K mg x st ps) (S : FnScope N ps (defScope st)) (len : ∀ vs H Q E, sp vs H Q E → vs.length = ps.length)
    (hbody : ∀ (f : Addr) (cdv : Value) (A : Around) (outer : List Env) (s : Shared) (H : Hp) (vs : List V) (Q : VK) (E : XK), Room k (A.deeper (envOfC x (defScope st) s.heap.objs.size f cdv)) → sp vs H Q E →
      ∃ t, PSs (cxOf (L2.CX P w) P w K mg base N x (defScope st) f cdv A outer s H E) (defBody st) t ∧ t { nx := fun _ H' => Q .non H', rt := Q } (start N vs) H) : Def P w K mg base (L2.CX P w) (k + 1) x ps sp := by
  obtain ⟨f, fd, F, hm, hb⟩ := F.ex
  have kp := F.kp
  obtain ⟨oc, od, kV, doc, pm, an, cdv, ct, osl, rfl, lk, hcd⟩ := F.ex
  exact ⟨f, _, fn_of lk hcd S len fun A outer s H vs Q E hr hsp => hbody f cdv A outer s H vs Q E hr hsp, hm, kp, hb⟩
end
/-! a try whose suite raises -/
def tTryO (K : PySem.W.Frag) (c : Value) (ts : Addr → Value → Option Addr → TS) (Wout : WX) (tb : WX → TS) : TS := fun D σ H => tb (wOnly K c ts Wout D) D σ H
theorem ps_tryO {X : Cx} {x : Str} {c : Value} {body suite : List Stmt} {b₀ : Stmt} {np pos pos' : Pos} {tb : WX → TS} {ts : Addr → Value → Option Addr → TS} {Wout : WX} (hs : X.stack = X.env :: X.outer) (hf : X.env.frame = some X.env.locals) (hc : Names X x c) (hpa : ∀ hd : Option Value, PassesOwnAt (model X.prog X.w) (X.A.mark hd) X.A X.env X.xe) (tk : L2.Takes X Wout)
    (hb : ∀ (W : WX) (pn : List (Addr × Obj)) (xe : Value → Shared → Prop), L2N.Takes (X.tr pn xe) W → PassesOwn (model X.prog X.w) X.A X.env xe → PSs (X.tr pn xe) body (tb W))
    (hsu : ∀ (a : Addr) (oe : Obj) (cls : Value) (d : Option Addr) (pn : List (Addr × Obj)), L2N.Zn cls d oe → (∃ vs, oe.data = .fields vs) → L2.Takes (L2H.suiteX X a ((a, oe) :: pn)) Wout → L2H.HotC (L2H.suiteX X a ((a, oe) :: pn)) →
      PSs (L2H.suiteX X a ((a, oe) :: pn)) (b₀ :: suite) (ts a cls d)) :
    PS X (.Try body [.ExceptHandler (some (.Name x np)) none (b₀ :: suite) pos'] [] [] pos) (tTryO X.K c ts Wout tb) := L2H.ps_try_onlyX hs hf hc hpa tk (fun W pn xe t1 _ po => hb W pn xe t1 po) hsu
theorem r_tryO {K : PySem.W.Frag} {c : Value} {ts : Addr → Value → Option Addr → TS} {Wout : WX} {tb : WX → TS} {D : Ends} {σ : L2.St} {H : Hp} (q : tb (wOnly K c ts Wout D) D σ H) : tTryO K c ts Wout tb D σ H := q
theorem wo_yes {K : PySem.W.Frag} {cls c : Value} {d : Option Addr} {ts : Addr → Value → Option Addr → TS} {Wout : WX} {D : Ends} {σ : L2.St} {H : Hp} (hb : PySem.W.exmOne K cls c = some true) (q : ∀ a, H a = none → ts a cls d D σ H) : wOnly K c ts Wout D cls d σ H := ⟨true, hb, fun _ => q, fun z => by cases z⟩
/-! a call of a def that a local name holds, which may raise -/
structure HeldX (P : Program) (w : World) (K : PySem.W.Frag) (mg : Str → Option Value) (base : Heap) (CX : CXT) (k : Nat) (f : Addr) (sp : Sp) : Prop where
  ex : ∃ (fd : FuncData) (ps : List Str), FnOk P w K mg base CX k f fd ps sp ∧ PySem.W.keepIn K (.ref f) = true ∧ Binds K fd ps []
def tCallLS (i : Nat) (f : Addr) (sp : Sp) (E : L2.St → XK) (t : TA) : TE := fun σ H Q => σ[i]? = some (some (.ref f)) ∧ t σ H fun vs H1 => sp vs H1 Q (E σ)
theorem r_callLS {i : Nat} {f : Addr} {sp : Sp} {E : L2.St → XK} {t : TA} {σ : L2.St} {H : Hp} {Q : VK} (h : σ[i]? = some (some (.ref f))) (q : t σ H fun vs H1 => sp vs H1 Q (E σ)) : tCallLS i f sp E t σ H Q := ⟨h, q⟩
section
variable {X : Cx} {k i : Nat} {f : Addr} {sp : Sp} {x : Str} {p pos : Pos} {e : Expr} {es : List Expr} {t : TA} {W : WX}
theorem pe_callLN (G : HeldX X.prog X.w X.K X.mg X.base (L2N.CX X.prog X.w) k f sp) (tk : L2N.Takes X W) (hr : Room k X.A) (hN : X.N[i]? = some x) (hv : Vis X.env.scope x) (ha : PA X (e :: es) t)
    (hdb : (x == ("__debug__" : Str)) = false := by decide) (hcd : (x == ("__classdict__" : Str)) = false := by decide)
    (he : starEach (e :: es) X.env = (false, eval e X.env) :: starEach es X.env := by rfl) (hpl : (backTo pos (starEach es X.env)).any (·.1) = false := by rfl) : PE X (.Call (.Name x p) (e :: es) [] pos) (tCallLS i f sp (WE W) t) := by
  obtain ⟨fd, ps, F, hk, hb⟩ := G.ex
  refine ⟨fun pins s σ H Q I h => ?_⟩
  obtain ⟨hs, ht⟩ := h
  refine wpAny_Call_Name_kw (thn ((pe_var (pos := p) hN hv hdb hcd).run pins s σ H (fun v H1 => v = .ref f ∧ H1 = H) I ⟨.ref f, hs, rfl, rfl⟩) fun u s1 ⟨v, H1, I1, r1, q1⟩ => ?_)
  obtain ⟨rfl, rfl⟩ := q1
  cases r1
  refine PySem.W.callWith_K (h₀ := X.base) I.ok.mod.kin hk (thn (ha.run pos pins s1 σ _ _ I1 ht) fun us s2 ⟨vs, H2, I2, r, q⟩ => ⟨I2.kIn, ?_⟩) he hpl
  exact run_fnS F hr hb (L2N.passAt tk σ) I2 r q
end
/-! ### what a raised error is told by -/
/-- an error of the class at C with these fields, where the heap was H -/
def RetE (H : Hp) (E : XK) (C : Addr) (fs : List (Str × V)) : Prop := ∀ H' d, Same H H' → H d = none → H' d = some (.xd fs) → E (.ref C) (some d) H'
section
variable {H H0 H' : Hp} {E : XK} {C d : Addr} {fs : List (Str × V)} {L : List (Addr × HO)}
theorem RetE.mk (q : RetE H0 E C fs) (o : Own H0 H L) (hd : H d = none) : E (.ref C) (some d) (upd H d (.xd fs)) := q _ d (o.new (u := .xd fs) hd).ex (o.ex.free hd) upd_same
theorem r_retE (o : Own H0 H L) (k : ∀ d H', H d = none → Own H0 H' ((d, .xd fs) :: L) → E (.ref C) (some d) H') : RetE H E C fs := fun H' d s hd hx => k d H' hd (o.add s hd hx)
end
theorem ps_whileT {X : Cx} {pn : List (Addr × Obj)} {xe : Value → Shared → Prop} {c : Expr} {body : List Stmt} {tc : TT} {tb : TS} {pos : Pos} (hp : PassesOwn (model X.prog X.w) X.A X.env xe) (hc : PT (X.tr pn xe) c tc) (hb : PSs (X.tr pn xe) body tb) : PS (X.tr pn xe) (.While c body [] pos) (tWhile tc tb) := ps_while hp hc hb

/-! ### a try whose one clause names a tuple of two classes, without a name -/
theorem FlyingZ.keep {base h h' : Heap} {l : List Env} {e : Addr} {Z : Obj → Prop} (x : HandSPX.FlyingZ base l e Z h) (k : ∀ b o, h.get? b = some o → h'.get? b = some o) : HandSPX.FlyingZ base l e Z h' := by
  obtain ⟨hkb, hen, hl, oe, vs, T, oT, ts, he, hz, hd, h1, hnT, hTe, hT, hdT, h3⟩ := x
  exact ⟨fun b o q => k _ _ (hkb b o q), hen, hl.of_keeps fun b o hb _ => ⟨o, k _ _ hb, rfl⟩, oe, vs, T, oT, ts, k _ _ he, hz, hd, h1, hnT, hTe, k _ _ hT, hdT, h3⟩
def wTup (K : PySem.W.Frag) (c1 c2 : Value) (ts : Addr → Value → Option Addr → TS) (D : Ends) : WX := fun cls d σ H => PySem.W.exmAny K cls [c1, c2] = some true ∧ ∀ a, H a = none → ts a cls d D σ H
def tTryT (K : PySem.W.Frag) (c1 c2 : Value) (ts : Addr → Value → Option Addr → TS) (tb : WX → TS) : TS := fun D σ H => tb (wTup K c1 c2 ts D) D σ H
theorem exm_any2 {K : PySem.W.Frag} {cls c1 c2 : Value} {b1 b2 : Bool} (h1 : PySem.W.exmOne K cls c1 = some b1) (h2 : PySem.W.exmOne K cls c2 = some b2) (h : (b1 || (b2 || false)) = true) : PySem.W.exmAny K cls [c1, c2] = some true := by
  unfold PySem.W.exmAny PySem.W.exmAny PySem.W.exmAny
  rw [h1, h2]
  exact congrArg some h
section
variable {X : Cx} {body : List Stmt} {pos pos' np1 np2 tpos : Pos} {kk : Nat} {tb : WX → TS} {x1 x2 : Str} {c1 c2 : Value} {ts : Addr → Value → Option Addr → TS} {b₀ : Stmt} {suite : List Stmt}
theorem ps_tryT (hs : X.stack = X.env :: X.outer) (hf : X.env.frame = some X.env.locals) (hc1 : Names X x1 c1) (hc2 : Names X x2 c2)
    (hb : ∀ (W : WX) (pn : List (Addr × Obj)) (xe : Value → Shared → Prop), L2.Takes (X.tr pn xe) W → PassesOwn (model X.prog X.w) X.A X.env xe → PSs (X.tr pn xe) body (tb W))
    (hsu : ∀ (a : Addr) (oe : Obj) (cls : Value) (d : Option Addr) (pn : List (Addr × Obj)), Zc cls d oe → (∃ vs, oe.data = .fields vs) → PSs (X.suite a ((a, oe) :: pn)) (b₀ :: suite) (ts a cls d)) :
    PS X (.Try body [.ExceptHandler (some (.Tuple [.Name x1 np1, .Name x2 np2] kk tpos)) none (b₀ :: suite) pos'] [] [] pos) (tTryT X.K c1 c2 ts tb) := by
  refine ⟨fun pins s σ H D I h => ?_⟩
  have ok := I.ok
  have hfr : X.A.frames = some (X.env :: X.outer) := by rw [ok.frames, hs]
  refine wpAny_Try_except ?_
  refine wpAny_mono ((hb (wTup X.K c1 c2 ts D) (X.pn ++ pins) (fun e s₁ => wpAny (model X.prog X.w) X.A (noteFrame e X.env) (fun _ s₂ => wpAny (model X.prog X.w) X.A (setFlight e none) (fun _ s₃ =>
    wpAny (model X.prog X.w) X.A (handleBy e X.env [.ExceptHandler (some (.Tuple [.Name x1 np1, .Name x2 np2] kk tpos)) none (b₀ :: suite) pos']) (SP X pins D) X.xe s₃) X.xe s₂) X.xe s₁) (fun u s' xx => ?_) PassesOwn.looking).run [] s σ H D (I.toTry _) h) (fun f s1 hsp => ?_) (fun e s1 he => he)
  · obtain ⟨a, B, sI, pins', σ', H', cls, d, rfl, J', nb, up, sky, na, os, ag, w⟩ := xx
    have J : Inv X pins σ' H' sI := J'.ofTry ok
    have sky' : Sky B (X.env :: X.outer) a (Zc cls d) X.env.locals s'.heap := by rw [← hs]; exact sky
    show wpAny (model X.prog X.w) X.A (noteFrame (.ref a) X.env) _ _ _
    refine Sky.land Zc.steady hfr hf sky' fun h3 fl3 up3 => ?_
    have J3 : Inv X pins σ' H' { s' with heap := h3 } := J.landed nb fl3.1 (up.trans up3) os ag
    obtain ⟨oe3, vs3, he3, hz3, hd3⟩ := fl3.there
    have notFr : ∀ {h : Heap} {o : Obj} {vs : Array Value}, h.FunFrames B (X.env :: X.outer) → h.get? a = some o → o.data = .fields vs → a ∉ frs (X.env :: X.outer) := fun {h o vs} ff e dd hm => by
      obtain ⟨_, o', e', hnf⟩ := ff.mem hm
      rw [e] at e'; cases e'
      exact hnf _ dd
    have nfr := notFr fl3.2.2.1 he3 hd3
    have nL : a ≠ X.env.locals := fun z => nfr (List.mem_filterMap.mpr ⟨X.env, List.mem_cons_self, by rw [hf, z]⟩)
    have nF : a ∉ X.fs := fun hm => by
      obtain ⟨e, he, q⟩ := List.mem_filterMap.mp hm
      exact nfr (List.mem_filterMap.mpr ⟨e, List.mem_cons_of_mem _ he, q⟩)
    have S3 := J3.suite he3 hd3 na nL nF
    have LT : PySem.W.Looks (model X.prog X.w) h3 (typeOf (.ref a)) cls := fun A Q E s k q => wpAny_typeOf_ref (k _ _ he3) (by rw [hz3.1]; exact q)
    have test : ∀ {x : Str} {c : Value} {np : Pos} {Q : Value → Shared → Prop} {E : Value → Shared → Prop}, Names X x c → Q c { s' with heap := h3 } → wpAny (model X.prog X.w) (X.A.mark (some (.ref a))) (eval (.Name x np) X.env) Q E { s' with heap := h3 } := fun {x c np Q E} hc q => by
      obtain ⟨hg, hdbg, hm | ⟨hm, hv, hnn⟩⟩ := hc
      · exact ld_glob (X := X.suite a ((a, oe3) :: (X.pn ++ pins))) S3 hg hm q hdbg
      · exact ld_blt (X := X.suite a ((a, oe3) :: (X.pn ++ pins))) S3 hg hm hv q hnn hdbg
    obtain ⟨hb1, hyes⟩ := w
    refine wpAny_handleBy_cons (codeAny_handlers_test ?_) (by intro q; cases q)
    refine wpAny_Tuple ?_
    refine wpAny_items_cons (test hc1 ?_)
    refine wpAny_items_cons (test hc2 ?_)
    refine wpAny_items_nil ⟨by size_fits, ?_⟩
    have kp : ∀ q o, h3.get? q = some o → (h3.push { cls := .type "tuple", data := .seq [c1, c2].toArray }).get? q = some o := fun _ _ z => Heap.get?_push_of_some _ z
    refine (PySem.W.exm_tup2 ((J3.kIn).keeps kp) (LT.keeps kp) (Heap.get?_push_size h3 rfl) hb1).here ?_
    refine codeAny_handlers_suite ?_
    refine HandSPX.lands_againZ (FlyingZ.keep fl3 kp) fun h4 fl4 up4 => ?_
    have J4 : Inv X pins σ' H' { s' with heap := h4 } := J.landed nb fl4.1 ((up.trans up3).trans ((Heap.UpToSlots.of_keeps kp).trans up4)) os ag
    obtain ⟨oe4, vs4, he4, hz4, hd4⟩ := fl4.there
    have S4 := J4.suite he4 hd4 na nL nF
    refine wpAny_mono ((hsu a oe4 cls d (X.pn ++ pins) hz4 ⟨_, hd4⟩).run [] _ _ H' _ S4 (hyes a na)) (fun f s6 hsp => ?_) (fun _ _ z => False.elim z)
    cases f with
    | next =>
      obtain ⟨σ6, H6, S6, q6⟩ := hsp
      exact ⟨_, _, S6.unsuite ok, q6⟩
    | brk =>
      obtain ⟨σ6, H6, S6, q6⟩ := hsp
      exact ⟨_, _, S6.unsuite ok, q6⟩
    | cont =>
      obtain ⟨σ6, H6, S6, q6⟩ := hsp
      exact ⟨_, _, S6.unsuite ok, q6⟩
    | ret u =>
      obtain ⟨v6, σ6, H6, S6, r6, q6⟩ := hsp
      exact ⟨_, _, _, S6.unsuite ok, r6, q6⟩
  · cases f with
    | next =>
      obtain ⟨σ', H', J', q⟩ := hsp
      exact wpAny_execs_nil ⟨σ', H', J'.ofTry ok, q⟩
    | brk =>
      obtain ⟨σ', H', J', q⟩ := hsp
      exact ⟨σ', H', J'.ofTry ok, q⟩
    | cont =>
      obtain ⟨σ', H', J', q⟩ := hsp
      exact ⟨σ', H', J'.ofTry ok, q⟩
    | ret u =>
      obtain ⟨v, σ', H', J', r, q⟩ := hsp
      exact ⟨v, σ', H', J'.ofTry ok, r, q⟩
end
theorem r_tryT {K : PySem.W.Frag} {c1 c2 : Value} {ts : Addr → Value → Option Addr → TS} {tb : WX → TS} {D : Ends} {σ : L2.St} {H : Hp} (q : tb (wTup K c1 c2 ts D) D σ H) : tTryT K c1 c2 ts tb D σ H := q

/-! ### own error classes without __init__ -/
section
structure ErrPl (K : PySem.W.Frag) (C : Addr) : Prop where
  x : PySem.W.excIn K C [.type "ValueError", .type "Exception", .type "BaseException", .type "object"] "ValueError.__new__" = true
  k : PySem.W.keepIn K (.ref C) = true
def tErr0 (C : Addr) : L2.St → Hp → XK → Prop := fun _ H Q => Q (.ref C) none H
theorem pmk_e0 {X : Cx} {C : Addr} {x m : Str} {j : Nat} {p p2 pos : Pos} (E : ErrCls X.K X.mg C x) (I : ErrPl X.K C) (hg : Gl X x := by rfl) (hdb : (x == ("__debug__" : Str)) = false := by decide) :
    L2N.PMk X (.Call (.Name x p) [.Constant (.str m) j p2] [] pos) (tErr0 C) := L2N.pmk_own PySem.F.excBase_ValueError I.x E.at_ I.k (raises_own E.ex.hs E.ty) hg hdb
theorem r_raise0 {C : Addr} {W : WX} {D : Ends} {σ : L2.St} {H : Hp} (q : W (.ref C) none σ H) : tRaise (tErr0 C) W D σ H := q
def rIsEB (K : PySem.W.Frag) (a : Addr) (cls : Value) (d : Option Addr) : List V → Hp → VK → Prop := fun xs H Q => ∃ (D : Addr), cls = .ref D ∧ d = none ∧ ExcC K D ∧ rIsE K D a xs H Q
theorem call_isEB {X : Cx} {a : Addr} {cls : Value} {d : Option Addr} {oe : Obj} {pn : List (Addr × Obj)} (hz : Zc cls d oe) (hf : ∃ vs, oe.data = .fields vs) : CallR (X.suite a ((a, oe) :: pn)) (.builtin "isinstance") (rIsEB X.K a cls d) := by
  intro pins s σ H xs us Q I r h
  obtain ⟨D, rfl, rfl, T, h⟩ := h
  exact call_isE T hz hf pins s σ H xs us Q I r h
theorem r_isE0 {K : PySem.W.Frag} {a D C : Addr} {b : Bool} {H : Hp} {Q : VK} (T : ExcC K D) (hk : PySem.W.kitOne K (.ref D) (.ref C) = some b) (q : Q (.bl b) H) : rIsEB K a (.ref D) none [.ref a, .ref C] H Q :=
  ⟨D, rfl, rfl, T, .ref C, .ref C, b, rfl, (fun u h => by cases h; rfl), hk, q⟩
def RetE0 (H : Hp) (E : XK) (C : Addr) : Prop := ∀ H', Same H H' → E (.ref C) none H'
theorem RetE0.mk {H0 H : Hp} {E : XK} {C : Addr} {L : List (Addr × HO)} (q : RetE0 H0 E C) (o : Own H0 H L) : E (.ref C) none H := q _ o.ex
theorem r_retE0 {H0 H : Hp} {E : XK} {C : Addr} {L : List (Addr × HO)} (o : Own H0 H L) (k : ∀ H', Own H0 H' L → E (.ref C) none H') : RetE0 H E C := fun H' s => k H' (o.mono s)
end
theorem r_retE0s {H0 H : Hp} {E : XK} {C : Addr} {L : List (Addr × HO)} (o : Own H0 H L) (k : ∀ H', Same H H' → Own H0 H' L → E (.ref C) none H') : RetE0 H E C := fun H' s => k H' s (o.mono s)

/-! ### comprehensions whose values are known by a word only -/
section
variable {σ : L2.St} {H H0 : Hp} {Q : VK} {K : PySem.W.Frag} {L : List (Addr × HO)} {te : TE} {j : Int}
theorem lcR1P {n s : Nat} {vs : List Nat} (Pz : Int → Prop) (o : Own H0 H L) (hn : j = (n : Int)) (hz : n ≤ 1000000) (hw : ∀ x, wipe ((wipe σ vs).set s (some x)) vs = wipe σ vs)
    (he : ∀ (i : Nat) (p : Addr) (zs : List V) (H' : Hp) (Q : VK), i < n → Own H0 H' ((p, .lst zs) :: L) → (∀ z, Pz z → RetV H' Q (.int z)) → te ((wipe σ vs).set s (some (.int (i : Int)))) H' Q)
    (k : ∀ p H' (zs : List Int), zs.length = n → (∀ z ∈ zs, Pz z) → Own H0 H' ((p, .lst (zs.map V.int)) :: L) → Q (.ref p) H') :
    ∃ k : Int, [V.int j] = [.int k] ∧ -(2 ^ 62) ≤ k ∧ k < 2 ^ 62 ∧ RLc (Itr 0 k.toNat) (gName s) tYes te vs σ H Q := by
  refine ⟨j, rfl, by omega, by omega, fun P hP => ?_⟩
  have e : j.toNat = n := by omega
  rw [e]
  refine lc_range (lo := 0) (n := n) (fun i H' => ∃ zs : List Int, zs.length = i ∧ (∀ z ∈ zs, Pz z) ∧ Own H0 H' ((P, .lst (zs.map V.int)) :: L)) ⟨[], rfl, (by intro z hz; cases hz), o.new hP⟩ (fun i H' hi p => ?_) (fun H' ⟨zs, h1, h2, o'⟩ => k P H' zs h1 h2 o')
  obtain ⟨zs, hl, hp, o'⟩ := p
  have e0 : (0 : Int) + (i : Int) = (i : Int) := Int.zero_add _
  rw [e0]
  refine ⟨hw _, ?_⟩
  refine iteT (B := ∃ zs : List Int, zs.length = i + 1 ∧ (∀ z ∈ zs, Pz z) ∧ Own H0 H' ((P, .lst (zs.map V.int)) :: L)) (he i P _ H' _ hi o' fun z hz H4 s4 => ?_)
  have o4 := o'.mono s4
  refine ⟨zs.map V.int, o4.at 0 rfl, sz_lt (by rw [List.length_map]; omega), zs ++ [z], by rw [List.length_append, hl]; rfl, ?_, ?_⟩
  · intro x hx
    rcases List.mem_append.mp hx with hx | hx
    · exact hp x hx
    · rw [List.mem_singleton.mp hx]; exact hz
  · have o5 := o4.set (v := .lst (zs.map V.int ++ [V.int z])) 0 rfl
    rw [List.map_append]
    exact o5
end

local macro_rules | `(tactic| walk_at "rd1") => `(tactic| (first
  | with_reducible refine r_tryA ?_
  | with_reducible refine r_tryO ?_
  | with_reducible refine r_callS ?_
  | with_reducible refine r_xfD ?_
  | ((with_reducible refine r_callLS ?h ?_); (case h => exact rfl))))
local macro_rules | `(tactic| walk_at "rd1") => `(tactic| (first
  | with_reducible refine r_z2 ?_
  | with_reducible refine r_z3 ?_
  | with_reducible refine r_en ?_
  | ((with_reducible refine r_gTup3 (x := ?_) (y := ?_) (z := ?_) ?h ?_); (case h => walk_at "sqT"))))
local macro_rules | `(tactic| walk_at "rd1") => `(tactic| (first
  | with_reducible refine r_tryT ?_))
/-! ### texts by their codes -/
def tx (cs : List Nat) : Str := ⟨cs.toArray⟩
theorem tx_len (cs : List Nat) : (tx cs).length = cs.length := by
  show cs.toArray.size = _
  simp
theorem tx_cat (a b : List Nat) : tx a ++ tx b = tx (a ++ b) := by
  show (⟨a.toArray ++ b.toArray⟩ : Str) = ⟨(a ++ b).toArray⟩
  rw [List.append_toArray]
theorem tx_inj {a b : List Nat} : tx a = tx b ↔ a = b := ⟨fun h => by
  have h2 := congrArg (fun x : Str => x.cps.toList) h
  exact h2, fun h => by rw [h]⟩
theorem tx_of (x : Str) : tx x.cps.toList = x := by
  cases x
  simp [tx]
theorem tx_nil : PySem.Str.ofString "" = tx [] := by decide
theorem join_tx : ∀ cs : List Nat, Str.join (tx []) (cs.map fun c => tx [c]) = tx cs
  | [] => rfl
  | [c] => rfl
  | c :: d :: cs => by
    show tx [c] ++ tx [] ++ Str.join (tx []) ((d :: cs).map fun c => tx [c]) = _
    rw [join_tx (d :: cs), tx_cat, tx_cat]
    rfl
theorem join_ones (cs : List Nat) : Txt.join (PySem.Str.ofString "") (cs.map fun c => tx [c]) = tx cs := by
  rw [tx_nil, show Txt.join (tx []) (cs.map fun c => tx [c]) = Str.join (tx []) (cs.map fun c => tx [c]) from TL.join_eq _ _, join_tx]
section
variable {σ : L2.St} {H H0 : Hp} {Q : VK} {K : PySem.W.Frag} {L : List (Addr × HO)} {te : TE} {tt : TT} {g : TG} {ts : TS} {D : Ends}
theorem r_iS {R : It → Hp → Prop} (q : te σ H fun v H1 => ∃ x, v = .str x ∧ R (Its x) H1) : iStr te σ H R := q
/-- for c in text -/
theorem forS {cs : List Nat} (Pv : Nat → L2.St → Hp → Prop) (h0 : Pv 0 σ H) (hs : ∀ i c σ H, cs[i]? = some c → Pv i σ H → g (.str (tx [c])) σ H fun σ2 H2 => ts { D with nx := Pv (i + 1), ct := Pv (i + 1), bk := D.nx } σ2 H2) (hd : ∀ σ H, Pv cs.length σ H → D.nx σ H) :
    ∃ x, V.str (tx cs) = .str x ∧ RFor (Its x) g ts D σ H := by
  have hsz : (tx cs).cps.size = cs.length := tx_len cs
  refine ⟨_, rfl, fun i m σ H => m = cs.length - i ∧ i ≤ cs.length ∧ Pv i σ H, ⟨cs.length, rfl, Nat.zero_le _, h0⟩, ?_⟩
  rintro i m σ H ⟨rfl, hi, p⟩
  by_cases h : i < cs.length
  · refine .inr ⟨show i < (tx cs).cps.size by omega, Pv (i + 1), fun σ' H' p' => ⟨cs.length - (i + 1), by omega, rfl, h, p'⟩, ?_⟩
    rintro x H' ⟨rfl, c, hc, rfl⟩
    refine hs i c σ H' ?_ p
    have h2 : cs.toArray[i]? = some c := hc
    rw [List.getElem?_toArray] at h2
    exact h2
  · refine .inl ⟨show (tx cs).cps.size ≤ i by omega, ?_⟩
    have e : i = cs.length := by omega
    rw [e] at p
    exact hd σ H p
/-- [e for c in text if t] -/
theorem lcSF {cs : List Nat} {s : Nat} {vs : List Nat} (sel : Nat → Option V) (o : Own H0 H L) (hz : cs.length < 10000000) (hw : ∀ x, wipe ((wipe σ vs).set s (some x)) vs = wipe σ vs)
    (ht : ∀ (c : Nat) (q : Addr) (zs : List V) (H' : Hp) (Q : Bool → Hp → Prop), c ∈ cs → Own H0 H' ((q, .lst zs) :: L) → (∀ H2, Same H' H2 → Q (sel c).isSome H2) → tt ((wipe σ vs).set s (some (.str (tx [c])))) H' Q)
    (he : ∀ (c : Nat) (y : V) (q : Addr) (zs : List V) (H' : Hp) (Q : VK), c ∈ cs → sel c = some y → Own H0 H' ((q, .lst zs) :: L) → RetV H' Q y → te ((wipe σ vs).set s (some (.str (tx [c])))) H' Q)
    (k : ∀ q H', Stp H H' → Own H0 H' ((q, .lst (cs.filterMap sel)) :: L) → Q (.ref q) H') :
    ∃ x, V.str (tx cs) = .str x ∧ RLc (Its x) (gName s) tt te vs σ H Q := by
  have hsz : (tx cs).cps.size = cs.length := tx_len cs
  refine ⟨_, rfl, fun P hP => ?_⟩
  refine ⟨fun i m H' => m = cs.length - i ∧ i ≤ cs.length ∧ Own H0 H' ((P, .lst ((cs.take i).filterMap sel)) :: L) ∧ Stp H H', ⟨cs.length, rfl, Nat.zero_le _, o.new hP, .of (same_new hP)⟩, ?_⟩
  rintro i m H' ⟨rfl, hi, o', s'⟩
  by_cases h : i < cs.length
  · refine .inr ⟨show i < (tx cs).cps.size by omega, fun H2 => Own H0 H2 ((P, .lst ((cs.take (i + 1)).filterMap sel)) :: L) ∧ Stp H H2, fun H2 p2 => ⟨cs.length - (i + 1), by omega, rfl, h, p2⟩, ?_⟩
    rintro x H2 ⟨rfl, c, hc, rfl⟩
    have h2 : cs.toArray[i]? = some c := hc
    rw [List.getElem?_toArray] at h2
    refine ⟨hw _, ?_⟩
    have hfm := fm_le (cs.take i) sel
    rw [List.length_take] at hfm
    have e1 : (cs.take (i + 1)).filterMap sel = (cs.take i).filterMap sel ++ (sel c).toList := by
      rw [List.take_add_one, h2, List.filterMap_append]
      congr 1
    rw [e1]
    exact lc_turnF o' s' (by omega) (fun Q q => ht c P _ H2 Q (List.mem_of_getElem? h2) o' q) fun y H3 hy s3 Q q => he c y P _ H3 Q (List.mem_of_getElem? h2) hy (o'.mono s3) q
  · refine .inl ⟨show (tx cs).cps.size ≤ i by omega, ?_⟩
    have e : i = cs.length := by omega
    rw [e, List.take_length] at o'
    exact k P H' s' o'
theorem lcS {cs : List Nat} {s : Nat} {vs : List Nat} (f : Nat → V) (o : Own H0 H L) (hz : cs.length < 10000000) (hw : ∀ x, wipe ((wipe σ vs).set s (some x)) vs = wipe σ vs)
    (he : ∀ (c : Nat) (q : Addr) (zs : List V) (H' : Hp) (Q : VK), c ∈ cs → Own H0 H' ((q, .lst zs) :: L) → RetV H' Q (f c) → te ((wipe σ vs).set s (some (.str (tx [c])))) H' Q)
    (k : ∀ q H', Stp H H' → Own H0 H' ((q, .lst (cs.map f)) :: L) → Q (.ref q) H') :
    ∃ x, V.str (tx cs) = .str x ∧ RLc (Its x) (gName s) tYes te vs σ H Q :=
  lcSF (fun c => some (f c)) o hz hw (fun c q zs H' Q _ _ r => r H' (Same.refl _)) (fun c y q zs H' Q hc hy o' r => he c q zs H' Q hc o' (by cases hy; exact r)) (fun q H' s' o' => k q H' s' (by rw [show cs.filterMap (fun c => some (f c)) = cs.map f from congrFun List.filterMap_eq_map cs] at o'; exact o'))
/-- [e for x in ints], e no new object -/
theorem lcLIV {a : Addr} {ns : List Int} {s : Nat} {vs : List Nat} (f : Int → V) (o : Own H0 H L) (h : ∀ H' p zs, Own H0 H' ((p, .lst zs) :: L) → SqL K H' a (ns.map V.int)) (h1 : SqL K H a (ns.map V.int)) (hz : ns.length < 10000000) (hw : ∀ x, wipe ((wipe σ vs).set s (some x)) vs = wipe σ vs)
    (he : ∀ (x : Int) (q : Addr) (zs : List V) (H' : Hp) (Q : VK), x ∈ ns → Own H0 H' ((q, .lst zs) :: L) → RetV H' Q (f x) → te ((wipe σ vs).set s (some (.int x))) H' Q)
    (k : ∀ q H', Own H0 H' ((q, .lst (ns.map f)) :: L) → Q (.ref q) H') :
    ∃ a', V.ref a = .ref a' ∧ (∃ xs, SqL K H a' xs) ∧ RLc (Itl K a') (gName s) tYes te vs σ H Q :=
  lcLIF (fun _ => true) f o h h1 hz hw (fun x q zs H' Q _ _ r => r H' (Same.refl _)) (fun x q zs H' Q hx _ o' r => he x q zs H' Q hx o' r) (fun q H' o' => k q H' (by rw [List.filter_eq_self.mpr (fun _ _ => rfl)] at o'; exact o'))
/-- text[i] -/
theorem r_ixStr {cs : List Nat} {i : Int} {c : Nat} (h0 : 0 ≤ i) (hc : cs[i.toNat]? = some c) (hz : cs.length ≤ 10000000) (q : Q (.str (tx [c])) H) : rIxS (.str (tx cs)) (.int i) H Q := by
  obtain ⟨n, rfl⟩ := Int.eq_ofNat_of_zero_le h0
  exact ⟨_, _, c, rfl, rfl, sz100 (by rw [tx_len]; exact hz), atI_nat hc, q⟩
theorem r_joinE {f : V → List V → Hp → VK → Prop} {to : TE} (q : to σ H fun x H1 => (∃ a, x = .str a) ∧ te σ H1 fun y H2 => f x [y] H2 Q) : tM1 f to te σ H Q := q
theorem r_bmS {T : String} {f : L2.St → V → List V → Hp → VK → Prop} {to : TE} {tr : TA} (q : to σ H fun x H1 => tyV K T x H1 ∧ tr σ H1 fun vs H2 => f σ x vs H2 Q) : tBMS K T f to tr σ H Q := q
theorem ty_strV {z : Str} : tyV K "str" (.str z) H := (rfl : "str" = "str")
theorem sum_ones : ∀ cs : List Nat, ((cs.map fun c => tx [c]).map (·.length)).sum = cs.length
  | [] => rfl
  | c :: cs => by
    rw [List.map_cons, List.map_cons, List.sum_cons, sum_ones cs, tx_len]
    show 1 + cs.length = cs.length + 1
    omega
end

def topS (i : Nat) : Stmt := PySem.Challenge.pw_tessera_k48_chunks_read_or_damaged.main.body.getD i (.Pass ⟨0, 0, 0, 0⟩)
abbrev s_told : Stmt := topS 2
abbrev N_told : List Str := ["thing"]
theorem sc_told : FnScope N_told ["thing"] (defScope s_told) := ⟨rfl, rfl, rfl, by decide +kernel, rfl, by decide +kernel, by decide +kernel⟩
abbrev s_undo_filter : Stmt := topS 9
abbrev N_undo_filter : List Str := ["name", "values", "size"]
theorem sc_undo_filter : FnScope N_undo_filter ["name", "values", "size"] (defScope s_undo_filter) := ⟨rfl, rfl, rfl, by decide +kernel, rfl, by decide +kernel, by decide +kernel⟩
abbrev s_undo_chain : Stmt := topS 10
abbrev N_undo_chain : List Str := ["names", "values", "size", "passed", "name"]
theorem sc_undo_chain : FnScope N_undo_chain ["names", "values", "size"] (defScope s_undo_chain) := ⟨rfl, rfl, rfl, by decide +kernel, rfl, by decide +kernel, by decide +kernel⟩
abbrev s_undo_delta : Stmt := topS 11
abbrev N_undo_delta : List Str := ["values", "summed", "before", "value"]
theorem sc_undo_delta : FnScope N_undo_delta ["values"] (defScope s_undo_delta) := ⟨rfl, rfl, rfl, by decide +kernel, rfl, by decide +kernel, by decide +kernel⟩
abbrev s_plane_order : Stmt := topS 12
abbrev N_plane_order : List Str := ["count", "size", "plane", "place"]
theorem sc_plane_order : FnScope N_plane_order ["count", "size"] (defScope s_plane_order) := ⟨rfl, rfl, rfl, by decide +kernel, rfl, by decide +kernel, by decide +kernel⟩
abbrev s_undo_planes : Stmt := topS 13
abbrev N_undo_planes : List Str := ["values", "size", "dealt", "place", "value"]
theorem sc_undo_planes : FnScope N_undo_planes ["values", "size"] (defScope s_undo_planes) := ⟨rfl, rfl, rfl, by decide +kernel, rfl, by decide +kernel, by decide +kernel⟩
abbrev s_undo_runs : Stmt := topS 14
abbrev N_undo_runs : List Str := ["values", "counts", "repeated", "at", "unpacked", "count", "value"]
theorem sc_undo_runs : FnScope N_undo_runs ["values"] (defScope s_undo_runs) := ⟨rfl, rfl, rfl, by decide +kernel, rfl, by decide +kernel, by decide +kernel⟩
abbrev s_undo_zeros : Stmt := topS 15
abbrev N_undo_zeros : List Str := ["values", "count"]
theorem sc_undo_zeros : FnScope N_undo_zeros ["values"] (defScope s_undo_zeros) := ⟨rfl, rfl, rfl, by decide +kernel, rfl, by decide +kernel, by decide +kernel⟩
abbrev s_width : Stmt := topS 17
abbrev N_width : List Str := ["kind"]
theorem sc_width : FnScope N_width ["kind"] (defScope s_width) := ⟨rfl, rfl, rfl, by decide +kernel, rfl, by decide +kernel, by decide +kernel⟩
abbrev s_value_count : Stmt := topS 18
abbrev N_value_count : List Str := ["kind"]
theorem sc_value_count : FnScope N_value_count ["kind"] (defScope s_value_count) := ⟨rfl, rfl, rfl, by decide +kernel, rfl, by decide +kernel, by decide +kernel⟩
abbrev s_least : Stmt := topS 19
abbrev N_least : List Str := ["kind"]
theorem sc_least : FnScope N_least ["kind"] (defScope s_least) := ⟨rfl, rfl, rfl, by decide +kernel, rfl, by decide +kernel, by decide +kernel⟩
abbrev s_greatest : Stmt := topS 20
abbrev N_greatest : List Str := ["kind"]
theorem sc_greatest : FnScope N_greatest ["kind"] (defScope s_greatest) := ⟨rfl, rfl, rfl, by decide +kernel, rfl, by decide +kernel, by decide +kernel⟩
abbrev s_load_values : Stmt := topS 21
abbrev N_load_values : List Str := ["kind", "stored", "size", "count", "high", "values", "start", "value", "at"]
theorem sc_load_values : FnScope N_load_values ["kind", "stored"] (defScope s_load_values) := ⟨rfl, rfl, rfl, by decide +kernel, rfl, by decide +kernel, by decide +kernel⟩
abbrev s_stands_at : Stmt := topS 27
abbrev N_stands_at : List Str := ["values", "index", "highest"]
theorem sc_stands_at : FnScope N_stands_at ["values", "index", "highest"] (defScope s_stands_at) := ⟨rfl, rfl, rfl, by decide +kernel, rfl, by decide +kernel, by decide +kernel⟩
abbrev s_read_number : Stmt := topS 28
abbrev N_read_number : List Str := ["values", "index", "number", "weight", "at", "byte"]
theorem sc_read_number : FnScope N_read_number ["values", "index"] (defScope s_read_number) := ⟨rfl, rfl, rfl, by decide +kernel, rfl, by decide +kernel, by decide +kernel⟩
abbrev s_read_byte : Stmt := topS 29
abbrev N_read_byte : List Str := ["values", "index"]
theorem sc_read_byte : FnScope N_read_byte ["values", "index"] (defScope s_read_byte) := ⟨rfl, rfl, rfl, by decide +kernel, rfl, by decide +kernel, by decide +kernel⟩
abbrev s_read_list : Stmt := topS 30
abbrev N_read_list : List Str := ["values", "index", "read_one", "count", "behind", "found", "thing"]
theorem sc_read_list : FnScope N_read_list ["values", "index", "read_one"] (defScope s_read_list) := ⟨rfl, rfl, rfl, by decide +kernel, rfl, by decide +kernel, by decide +kernel⟩
abbrev s_read_bytes : Stmt := topS 31
abbrev N_read_bytes : List Str := ["values", "index"]
theorem sc_read_bytes : FnScope N_read_bytes ["values", "index"] (defScope s_read_bytes) := ⟨rfl, rfl, rfl, by decide +kernel, rfl, by decide +kernel, by decide +kernel⟩
abbrev s_element_count : Stmt := topS 33
abbrev N_element_count : List Str := ["shape", "count", "size"]
theorem sc_element_count : FnScope N_element_count ["shape"] (defScope s_element_count) := ⟨rfl, rfl, rfl, by decide +kernel, rfl, by decide +kernel, by decide +kernel⟩
abbrev s_decode_chunk : Stmt := topS 35
abbrev N_decode_chunk : List Str := ["layout", "content", "size", "passed", "behind", "stored"]
theorem sc_decode_chunk : FnScope N_decode_chunk ["layout", "content"] (defScope s_decode_chunk) := ⟨rfl, rfl, rfl, by decide +kernel, rfl, by decide +kernel, by decide +kernel⟩
abbrev s__law_cell : Stmt := topS 39
abbrev N__law_cell : List Str := ["script", "k"]
theorem sc__law_cell : FnScope N__law_cell ["script", "k"] (defScope s__law_cell) := ⟨rfl, rfl, rfl, by decide +kernel, rfl, by decide +kernel, by decide +kernel⟩
abbrev s__law_draws : Stmt := topS 40
abbrev N__law_draws : List Str := ["cell", "count", "rows", "left", "k", "mixed"]
theorem sc__law_draws : FnScope N__law_draws ["cell", "count"] (defScope s__law_draws) := ⟨rfl, rfl, rfl, by decide +kernel, rfl, by decide +kernel, by decide +kernel⟩
abbrev s__law_is_int : Stmt := topS 41
abbrev N__law_is_int : List Str := ["x"]
theorem sc__law_is_int : FnScope N__law_is_int ["x"] (defScope s__law_is_int) := ⟨rfl, rfl, rfl, by decide +kernel, rfl, by decide +kernel, by decide +kernel⟩
abbrev s__law_is_number : Stmt := topS 42
abbrev N__law_is_number : List Str := ["x", "due"]
theorem sc__law_is_number : FnScope N__law_is_number ["x", "due"] (defScope s__law_is_number) := ⟨rfl, rfl, rfl, by decide +kernel, rfl, by decide +kernel, by decide +kernel⟩
abbrev s__law_low : Stmt := topS 43
abbrev N__law_low : List Str := ["kind"]
theorem sc__law_low : FnScope N__law_low ["kind"] (defScope s__law_low) := ⟨rfl, rfl, rfl, by decide +kernel, rfl, by decide +kernel, by decide +kernel⟩
abbrev s__law_high : Stmt := topS 44
abbrev N__law_high : List Str := ["kind"]
theorem sc__law_high : FnScope N__law_high ["kind"] (defScope s__law_high) := ⟨rfl, rfl, rfl, by decide +kernel, rfl, by decide +kernel, by decide +kernel⟩
abbrev s__law_value : Stmt := topS 45
abbrev N__law_value : List Str := ["kind", "draw", "low", "high", "way"]
theorem sc__law_value : FnScope N__law_value ["kind", "draw"] (defScope s__law_value) := ⟨rfl, rfl, rfl, by decide +kernel, rfl, by decide +kernel, by decide +kernel⟩
abbrev s__law_kind : Stmt := topS 46
abbrev N__law_kind : List Str := ["draw"]
theorem sc__law_kind : FnScope N__law_kind ["draw"] (defScope s__law_kind) := ⟨rfl, rfl, rfl, by decide +kernel, rfl, by decide +kernel, by decide +kernel⟩
abbrev s__law_chain : Stmt := topS 47
abbrev N__law_chain : List Str := ["draw", "found", "k"]
theorem sc__law_chain : FnScope N__law_chain ["draw"] (defScope s__law_chain) := ⟨rfl, rfl, rfl, by decide +kernel, rfl, by decide +kernel, by decide +kernel⟩
abbrev s__law_same_ints : Stmt := topS 48
abbrev N__law_same_ints : List Str := ["x", "due", "k"]
theorem sc__law_same_ints : FnScope N__law_same_ints ["x", "due"] (defScope s__law_same_ints) := ⟨rfl, rfl, rfl, by decide +kernel, rfl, by decide +kernel, by decide +kernel⟩
abbrev s__law_stream : Stmt := topS 49
abbrev N__law_stream : List Str := ["script", "count", "rows", "k"]
theorem sc__law_stream : FnScope N__law_stream ["script", "count"] (defScope s__law_stream) := ⟨rfl, rfl, rfl, by decide +kernel, rfl, by decide +kernel, by decide +kernel⟩
abbrev s__law_number_bytes : Stmt := topS 50
abbrev N__law_number_bytes : List Str := ["number", "rows", "k"]
theorem sc__law_number_bytes : FnScope N__law_number_bytes ["number"] (defScope s__law_number_bytes) := ⟨rfl, rfl, rfl, by decide +kernel, rfl, by decide +kernel, by decide +kernel⟩
abbrev s__law_bytes_bytes : Stmt := topS 51
abbrev N__law_bytes_bytes : List Str := ["values", "rows", "value"]
theorem sc__law_bytes_bytes : FnScope N__law_bytes_bytes ["values"] (defScope s__law_bytes_bytes) := ⟨rfl, rfl, rfl, by decide +kernel, rfl, by decide +kernel, by decide +kernel⟩
abbrev s__law_many : Stmt := topS 52
abbrev N__law_many : List Str := ["shape", "many", "size"]
theorem sc__law_many : FnScope N__law_many ["shape"] (defScope s__law_many) := ⟨rfl, rfl, rfl, by decide +kernel, rfl, by decide +kernel, by decide +kernel⟩
abbrev s__law_filter : Stmt := topS 53
abbrev N__law_filter : List Str := ["name", "values", "size", "k", "found", "plane", "value", "many"]
theorem sc__law_filter : FnScope N__law_filter ["name", "values", "size"] (defScope s__law_filter) := ⟨rfl, rfl, rfl, by decide +kernel, rfl, by decide +kernel, by decide +kernel⟩
abbrev s__law_back : Stmt := topS 54
abbrev N__law_back : List Str := ["name", "values", "size", "total", "found", "value", "places", "plane", "k"]
theorem sc__law_back : FnScope N__law_back ["name", "values", "size"] (defScope s__law_back) := ⟨rfl, rfl, rfl, by decide +kernel, rfl, by decide +kernel, by decide +kernel⟩
abbrev s__law_stored : Stmt := topS 55
abbrev N__law_stored : List Str := ["kind", "values", "rows", "size", "value", "left", "k"]
theorem sc__law_stored : FnScope N__law_stored ["kind", "values"] (defScope s__law_stored) := ⟨rfl, rfl, rfl, by decide +kernel, rfl, by decide +kernel, by decide +kernel⟩
abbrev s__law_loaded : Stmt := topS 56
abbrev N__law_loaded : List Str := ["kind", "stored", "size", "values", "at", "number", "k"]
theorem sc__law_loaded : FnScope N__law_loaded ["kind", "stored"] (defScope s__law_loaded) := ⟨rfl, rfl, rfl, by decide +kernel, rfl, by decide +kernel, by decide +kernel⟩
abbrev s__law_chunk_content : Stmt := topS 57
abbrev N__law_chunk_content : List Str := ["kind", "filters", "values", "rows", "name"]
theorem sc__law_chunk_content : FnScope N__law_chunk_content ["kind", "filters", "values"] (defScope s__law_chunk_content) := ⟨rfl, rfl, rfl, by decide +kernel, rfl, by decide +kernel, by decide +kernel⟩
abbrev s__law_read_bytes : Stmt := topS 58
abbrev N__law_read_bytes : List Str := ["content", "count", "scale", "at", "k", "found", "value"]
theorem sc__law_read_bytes : FnScope N__law_read_bytes ["content"] (defScope s__law_read_bytes) := ⟨rfl, rfl, rfl, by decide +kernel, rfl, by decide +kernel, by decide +kernel⟩
abbrev s__law_chunk_values : Stmt := topS 59
abbrev N__law_chunk_values : List Str := ["kind", "filters", "many", "content", "size", "rows", "name"]
theorem sc__law_chunk_values : FnScope N__law_chunk_values ["kind", "filters", "many", "content"] (defScope s__law_chunk_values) := ⟨rfl, rfl, rfl, by decide +kernel, rfl, by decide +kernel, by decide +kernel⟩
abbrev s__law_chunk_shape : Stmt := topS 60
abbrev N__law_chunk_shape : List Str := ["draws", "at", "dimensions", "k"]
theorem sc__law_chunk_shape : FnScope N__law_chunk_shape ["draws", "at", "dimensions"] (defScope s__law_chunk_shape) := ⟨rfl, rfl, rfl, by decide +kernel, rfl, by decide +kernel, by decide +kernel⟩
abbrev s_law : Stmt := topS 61
abbrev N_law : List Str := ["script", "draws", "kind", "chunk", "filters", "layout", "many", "values", "k", "content", "at", "way", "byte", "due", "handed", "told_v"]
theorem sc_law : FnScope N_law ["script"] (defScope s_law) := ⟨rfl, rfl, rfl, by decide +kernel, rfl, by decide +kernel, by decide +kernel⟩
abbrev s_Unreadable___init__ : Stmt := inClass (topS 4) 0
abbrev N_Unreadable___init__ : List Str := ["self", "index", "__class__"]
abbrev s_BadFilter___init__ : Stmt := inClass (topS 5) 0
abbrev N_BadFilter___init__ : List Str := ["self", "name", "__class__"]
abbrev s_Layout___init__ : Stmt := inClass (topS 37) 0
abbrev N_Layout___init__ : List Str := ["self", "kind", "chunk_shape", "fill", "filters"]
theorem sc_Layout___init__ : FnScope N_Layout___init__ ["self", "kind", "chunk_shape", "fill", "filters"] (defScope s_Layout___init__) := ⟨rfl, rfl, rfl, by decide +kernel, rfl, by decide +kernel, by decide +kernel⟩
structure Errs (K : PySem.W.Frag) (mg : Str → Option Value) (C_TesseraError C_Unreadable C_BadFilter : Addr) : Prop where
  c_TesseraError : ErrCls K mg C_TesseraError "TesseraError"
  c_Unreadable : ErrCls K mg C_Unreadable "Unreadable"
  c_BadFilter : ErrCls K mg C_BadFilter "BadFilter"
  i_Unreadable : ErrIni K C_Unreadable "Unreadable.__init__" s_Unreadable___init__ ["self", "index"] ["index"]
  i_BadFilter : ErrIni K C_BadFilter "BadFilter.__init__" s_BadFilter___init__ ["self", "name"] ["name"]
  s_TesseraError_TesseraError : PySem.W.subIn K (.ref C_TesseraError) (.ref C_TesseraError) = some true
  s_TesseraError_Unreadable : PySem.W.subIn K (.ref C_TesseraError) (.ref C_Unreadable) = some false
  s_TesseraError_BadFilter : PySem.W.subIn K (.ref C_TesseraError) (.ref C_BadFilter) = some false
  s_Unreadable_TesseraError : PySem.W.subIn K (.ref C_Unreadable) (.ref C_TesseraError) = some true
  s_Unreadable_Unreadable : PySem.W.subIn K (.ref C_Unreadable) (.ref C_Unreadable) = some true
  s_Unreadable_BadFilter : PySem.W.subIn K (.ref C_Unreadable) (.ref C_BadFilter) = some false
  s_BadFilter_TesseraError : PySem.W.subIn K (.ref C_BadFilter) (.ref C_TesseraError) = some true
  s_BadFilter_Unreadable : PySem.W.subIn K (.ref C_BadFilter) (.ref C_Unreadable) = some false
  s_BadFilter_BadFilter : PySem.W.subIn K (.ref C_BadFilter) (.ref C_BadFilter) = some true
structure Cl_Layout (K : PySem.W.Frag) (mg : Str → Option Value) (C : Addr) : Prop where
  cl : Cls K C
  at_ : mg "Layout" = some (.ref C)
  a_kind : NoAttr K C "kind"
  a_chunk_shape : NoAttr K C "chunk_shape"
  a_fill : NoAttr K C "fill"
  a_filters : NoAttr K C "filters"
  i_ : MkAt K C "Layout.__init__" s_Layout___init__ ["self", "kind", "chunk_shape", "fill", "filters"]
structure Top (K : PySem.W.Frag) (mg : Str → Option Value) : Prop where
  f_told : FunAt K mg "told" s_told ["thing"]
  f_undo_filter : FunAt K mg "undo_filter" s_undo_filter ["name", "values", "size"]
  f_undo_chain : FunAt K mg "undo_chain" s_undo_chain ["names", "values", "size"]
  f_undo_delta : FunAt K mg "undo_delta" s_undo_delta ["values"]
  f_plane_order : FunAt K mg "plane_order" s_plane_order ["count", "size"]
  f_undo_planes : FunAt K mg "undo_planes" s_undo_planes ["values", "size"]
  f_undo_runs : FunAt K mg "undo_runs" s_undo_runs ["values"]
  f_undo_zeros : FunAt K mg "undo_zeros" s_undo_zeros ["values"]
  f_width : FunAt K mg "width" s_width ["kind"]
  f_value_count : FunAt K mg "value_count" s_value_count ["kind"]
  f_least : FunAt K mg "least" s_least ["kind"]
  f_greatest : FunAt K mg "greatest" s_greatest ["kind"]
  f_load_values : FunAt K mg "load_values" s_load_values ["kind", "stored"]
  f_stands_at : FunAt K mg "stands_at" s_stands_at ["values", "index", "highest"]
  f_read_number : FunAt K mg "read_number" s_read_number ["values", "index"]
  f_read_byte : FunAt K mg "read_byte" s_read_byte ["values", "index"]
  f_read_list : FunAt K mg "read_list" s_read_list ["values", "index", "read_one"]
  f_read_bytes : FunAt K mg "read_bytes" s_read_bytes ["values", "index"]
  f_element_count : FunAt K mg "element_count" s_element_count ["shape"]
  f_decode_chunk : FunAt K mg "decode_chunk" s_decode_chunk ["layout", "content"]
  f__law_cell : FunAt K mg "_law_cell" s__law_cell ["script", "k"]
  f__law_draws : FunAt K mg "_law_draws" s__law_draws ["cell", "count"]
  f__law_is_int : FunAt K mg "_law_is_int" s__law_is_int ["x"]
  f__law_is_number : FunAt K mg "_law_is_number" s__law_is_number ["x", "due"]
  f__law_low : FunAt K mg "_law_low" s__law_low ["kind"]
  f__law_high : FunAt K mg "_law_high" s__law_high ["kind"]
  f__law_value : FunAt K mg "_law_value" s__law_value ["kind", "draw"]
  f__law_kind : FunAt K mg "_law_kind" s__law_kind ["draw"]
  f__law_chain : FunAt K mg "_law_chain" s__law_chain ["draw"]
  f__law_same_ints : FunAt K mg "_law_same_ints" s__law_same_ints ["x", "due"]
  f__law_stream : FunAt K mg "_law_stream" s__law_stream ["script", "count"]
  f__law_number_bytes : FunAt K mg "_law_number_bytes" s__law_number_bytes ["number"]
  f__law_bytes_bytes : FunAt K mg "_law_bytes_bytes" s__law_bytes_bytes ["values"]
  f__law_many : FunAt K mg "_law_many" s__law_many ["shape"]
  f__law_filter : FunAt K mg "_law_filter" s__law_filter ["name", "values", "size"]
  f__law_back : FunAt K mg "_law_back" s__law_back ["name", "values", "size"]
  f__law_stored : FunAt K mg "_law_stored" s__law_stored ["kind", "values"]
  f__law_loaded : FunAt K mg "_law_loaded" s__law_loaded ["kind", "stored"]
  f__law_chunk_content : FunAt K mg "_law_chunk_content" s__law_chunk_content ["kind", "filters", "values"]
  f__law_read_bytes : FunAt K mg "_law_read_bytes" s__law_read_bytes ["content"]
  f__law_chunk_values : FunAt K mg "_law_chunk_values" s__law_chunk_values ["kind", "filters", "many", "content"]
  f__law_chunk_shape : FunAt K mg "_law_chunk_shape" s__law_chunk_shape ["draws", "at", "dimensions"]
  f_law : FunAt K mg "law" s_law ["script"]
  c_Layout : ∃ C, Cl_Layout K mg C
  errs : ∃ C_TesseraError C_Unreadable C_BadFilter, Errs K mg C_TesseraError C_Unreadable C_BadFilter
  g_BASE : ∃ t, mg "BASE" = some (.int 125 t)
  g_BEYOND_TOLD : ∃ t, mg "BEYOND_TOLD" = some (.int 1000000000000000000000000000000 t)
  g_ESCAPE : ∃ t, mg "ESCAPE" = some (.int 249 t)
  g_HIGHEST_BYTE : ∃ t, mg "HIGHEST_BYTE" = some (.int 249 t)
  g_HIGHEST_ESCAPED : ∃ t, mg "HIGHEST_ESCAPED" = some (.int 6 t)
  g_LONGEST_RUN : ∃ t, mg "LONGEST_RUN" = some (.int 255 t)
  g_MOST_ZEROS : ∃ t, mg "MOST_ZEROS" = some (.int 65535 t)
  b_abs : mg "abs" = none
  b_bool : mg "bool" = none
  b_int : mg "int" = none
  b_isinstance : mg "isinstance" = none
  b_len : mg "len" = none
  b_list : mg "list" = none
  b_max : mg "max" = none
  b_min : mg "min" = none
  b_range : mg "range" = none
  b_reversed : mg "reversed" = none
  b_str : mg "str" = none
  b_super : mg "super" = none
  b_tuple : mg "tuple" = none
  b_zip : mg "zip" = none
/-! ### the law's helpers -/
def Dr (ns : List Int) : Prop := ∀ x ∈ ns, 0 ≤ x ∧ x < 4096
theorem Dr.gi {ns : List Int} (d : Dr ns) {i : Int} (h0 : 0 ≤ i) (h1 : i < ns.length) : 0 ≤ gi ns i ∧ gi ns i < 4096 := d _ (gi_mem h0 h1)
theorem Dr.app {ns : List Int} (d : Dr ns) {x : Int} (h0 : 0 ≤ x) (h1 : x < 4096) : Dr (ns ++ [x]) := fun y hy => by
  rcases List.mem_append.mp hy with h | h
  · exact d y h
  · rw [List.mem_singleton.mp h]; exact ⟨h0, h1⟩
theorem Dr.app2 {ns ms : List Int} (d : Dr ns) (e : Dr ms) : Dr (ns ++ ms) := fun y hy => by
  rcases List.mem_append.mp hy with h | h
  · exact d y h
  · exact e y h
theorem Dr.take {ns : List Int} (d : Dr ns) (n : Nat) : Dr (ns.take n) := fun y hy => d y (List.mem_of_mem_take hy)
section
variable {P : Program} {w : World} {K : PySem.W.Frag} {mg : Str → Option Value} {base : Heap}
def sp_cell (K : PySem.W.Frag) : Sp := fun vs H Q _ => ∃ (a : Addr) (ns : List Int) (i : Int), vs = [.ref a, .int i] ∧ SqL K H a (ns.map V.int) ∧ 0 ≤ i ∧ Q (.int (gi ns i)) H
theorem d_cell (T : Top K mg) : Def P w K mg base CX0 1 "_law_cell" ["script", "k"] (sp_cell K) := by
  refine T.f__law_cell.ok sc__law_cell (by rintro vs H Q E ⟨a, ns, i, rfl, _⟩; rfl) (fun f cdv A outer s H vs Q E hr h => ?_)
  obtain ⟨a, ns, i, rfl, hS, h0, q⟩ := h
  refine ⟨_, (pss_cons (ps_if (pt_cmpR op_lt (pv 1) (pe_callB (r := Evl.rLenS K) call_len_seq (by rfl) T.b_len (by decide +kernel) (pa_cons (pv 0) pa_nil)) (nomark _)) (pss_one (ps_ret (pe_ix (r := rIxL K) ix_list (pv 0) (pv 1) (fun _ _ => rfl)))) pss_nil)
      (pss_one (ps_ret pe_int))), ?_⟩
  walk_at "rd"
  refine rif (fun h => ?_) fun h => ?_
  · walk_at "rd"
    rw [List.length_map] at h
    exact r_ixL hS (at_ints h0 h) q
  · walk_at "rd"
    rw [List.length_map] at h
    have e : gi ns i = 0 := by
      unfold gi
      rw [List.getD_eq_getElem?_getD, List.getElem?_eq_none (by omega)]
      rfl
    rw [e] at q
    exact q
def sp_draws : Sp := fun vs H Q _ => ∃ (c : Int) (n : Nat), vs = [.int c, .int n] ∧ n ≤ 1000 ∧ ∀ ns : List Int, ns.length = n → Dr ns → RetO H Q (.lst (ns.map V.int))
theorem d_draws (T : Top K mg) : Def P w K mg base CX0 1 "_law_draws" ["cell", "count"] sp_draws := by
  refine T.f__law_draws.ok sc__law_draws (by rintro vs H Q E ⟨c, n, rfl, _⟩; rfl) (fun f cdv A outer s H vs Q E hr h => ?_)
  obtain ⟨c, n, rfl, hn, q⟩ := h
  refine ⟨_, (pss_cons (ps_set (i := 2) sc__law_draws.nd rfl (Or.inl rfl) (pe_lst pa_nil))
      (pss_cons (ps_set (i := 3) sc__law_draws.nd rfl (Or.inl rfl) (pv 0))
      (pss_cons (ps_for PassesOwn.never rfl (pi_range1 (by rfl) T.b_range (pa_cons (pv 1) pa_nil)) (pg_name (i := 4) sc__law_draws.nd rfl (Or.inl rfl)) (pss_one (ps_if (pt_cutT (PW.pt (pw_and (pt_cmpR op_ge (pv 0) (pe_powC (c := 1000000000000000000) ⟨by decide, by decide, by decide⟩ (by decide +kernel)) (nomark _)) (pw_and1 (pt_cmpR op_gt (pv 3) pe_int (nomark _)))))) (pss_cons (ps_expr (pe_bm PySem.F.plainAttrs_list PySem.F.slot_list_append PySem.F.type_list_append mt_append (pv 2) (pa_cons (pe_op op_mod (pe_callTy (r := rInt1) call_int1 (by rfl) T.b_int (by decide +kernel) (pa_cons (pv 3) pa_nil)) pe_int) pa_nil)))
      (pss_one (ps_set (i := 3) sc__law_draws.nd rfl (Or.inl rfl) (pe_op op_fdiv (pv 3) pe_int)))) (pss_cons (ps_set (i := 5) sc__law_draws.nd rfl (Or.inl rfl) (pe_op op_mod (pe_callTy (r := rInt1) call_int1 (by rfl) T.b_int (by decide +kernel) (pa_cons (pe_op op_add (pe_op op_mul (pv 0) pe_int) (pe_op op_mul (pe_op op_add (pv 4) pe_int) pe_int)) pa_nil)) pe_int))
      (pss_cons (ps_set (i := 5) sc__law_draws.nd rfl (Or.inl rfl) (pe_op op_mod (pe_callTy (r := rInt1) call_int1 (by rfl) T.b_int (by decide +kernel) (pa_cons (pe_op op_add (pe_op op_add (pe_op op_mul (pv 5) (pv 5)) (pe_op op_mul (pv 5) pe_int)) (pe_op op_mul (pv 4) pe_int)) pa_nil)) pe_int))
      (pss_cons (ps_set (i := 5) sc__law_draws.nd rfl (Or.inl rfl) (pe_op op_mod (pe_callTy (r := rInt1) call_int1 (by rfl) T.b_int (by decide +kernel) (pa_cons (pe_op op_add (pe_op op_add (pe_op op_mul (pv 5) (pv 5)) (pv 0)) (pe_op op_mul pe_int (pv 4))) pa_nil)) pe_int))
      (pss_one (ps_expr (pe_bm PySem.F.plainAttrs_list PySem.F.slot_list_append PySem.F.type_list_append mt_append (pv 2) (pa_cons (pe_op op_mod (pe_op op_fdiv (pv 5) pe_int) pe_int) pa_nil))))))))))
      (pss_one (ps_ret (pv 2)))))), ?_⟩
  walk_at "rd"
  refine r_newL (Own.nil H) (Nat.zero_le _) fun l H1 o1 => ?_
  walk_at "rd"
  refine forR1 (n := n) rfl (by omega) (fun i σ H' => ∃ (left : Int) (v1 v2 : Option V) (ns : List Int), σ = [some (.int c), some (.int n), some (.ref l), some (.int left), v1, v2] ∧ ns.length = i ∧ Dr ns ∧ Own H H' [(l, .lst (ns.map V.int))])
    ⟨c, none, none, [], rfl, rfl, fun _ h => absurd h (by simp), o1⟩ ?_ ?_
  · rintro i σ H' hi ⟨left, v1, v2, ns, rfl, hl, hd, o⟩
    have hz : (ns.map V.int).length < 10000000 := by rw [List.length_map]; omega
    walk_at "rd"
    refine r_cutT (fun _ H2 => H2 = H') ?_ ?_
    · walk_at "rd"
      refine rif (fun h1 => ?_) fun h1 => ?_ <;> walk_at "rd" <;> rfl
    rintro b _ rfl
    refine rif_b (fun _ => ?_) fun _ => ?_ <;> walk_at "rd"
    · refine r_app o 0 rfl hz fun H2 o2 => ?_
      walk_at "rd"
      refine ⟨_, _, _, ns ++ [_], rfl, ?_, ?_, (by rw [List.map_append]; exact o2)⟩
      · rw [List.length_append]; simp [hl]
      · exact hd.app (by omega) (by omega)
    · refine r_app o 0 rfl hz fun H2 o2 => ?_
      refine ⟨_, _, _, ns ++ [_], rfl, ?_, ?_, (by rw [List.map_append]; exact o2)⟩
      · rw [List.length_append]; simp [hl]
      · exact hd.app (by omega) (by omega)
  · rintro σ H' ⟨left, v1, v2, ns, rfl, hl, hd, o⟩
    walk_at "rd"
    exact (q ns hl hd).mk o 0 rfl
def sp_is_int : Sp := fun vs H Q _ => ∃ (i : Int), vs = [.int i] ∧ Q (.bl true) H
theorem d_is_int (T : Top K mg) : Def P w K mg base CX0 1 "_law_is_int" ["x"] sp_is_int := by
  refine T.f__law_is_int.ok sc__law_is_int (by rintro vs H Q E ⟨i, rfl, _⟩; rfl) (fun f cdv A outer s H vs Q E hr h => ?_)
  obtain ⟨i, rfl, q⟩ := h
  refine ⟨_, (pss_one (ps_ret (pe_and (pe_callB (r := rIsi K) call_isi (by rfl) T.b_isinstance (by decide +kernel) (pa_cons (pv 0) (pa_cons (pe_bltn (v := .ty "int") (by rfl) T.b_int (by decide +kernel) rfl) pa_nil))) (pe_one (pe_not (pe_callB (r := rIsi K) call_isi (by rfl) T.b_isinstance (by decide +kernel) (pa_cons (pv 0) (pa_cons (pe_bltn (v := .ty "bool") (by rfl) T.b_bool (by decide +kernel) rfl) pa_nil)))))))), ?_⟩
  walk_at "rd"
  exact q
def sp_is_number : Sp := fun vs H Q _ => ∃ (i j : Int), vs = [.int i, .int j] ∧ Q (.bl (decide (i = j))) H
theorem d_is_number (T : Top K mg) : Def P w K mg base CX0 2 "_law_is_number" ["x", "due"] sp_is_number := by
  have G__law_is_int : Def P w K mg base CX0 1 "_law_is_int" ["x"] sp_is_int := d_is_int T
  refine T.f__law_is_number.ok sc__law_is_number (by rintro vs H Q E ⟨i, j, rfl, _⟩; rfl) (fun f cdv A outer s H vs Q E hr h => ?_)
  obtain ⟨i, j, rfl, q⟩ := h
  refine ⟨_, (pss_one (ps_ret (pe_and (pe_callD G__law_is_int (hr.mono (by decide)) (pa_cons (pv 0) pa_nil)) (pe_one (pe_cmpR op_eq (pv 0) (pv 1) (nomark _)))))), ?_⟩
  walk_at "rd"
  refine ⟨i, rfl, ?_⟩
  walk_at "rd"
  exact q
def sp_same_ints (K : PySem.W.Frag) : Sp := fun vs H Q _ => ∃ (a b : Addr) (ns : List Int), vs = [.ref a, .ref b] ∧ H a = some (.lst (ns.map V.int)) ∧ SqL K H b (ns.map V.int) ∧ ns.length ≤ 10000000 ∧ Q (.bl true) H
theorem d_same_ints (T : Top K mg) : Def P w K mg base CX0 3 "_law_same_ints" ["x", "due"] (sp_same_ints K) := by
  have G__law_is_number : Def P w K mg base CX0 2 "_law_is_number" ["x", "due"] sp_is_number := d_is_number T
  refine T.f__law_same_ints.ok sc__law_same_ints (by rintro vs H Q E ⟨a, b, ns, rfl, _⟩; rfl) (fun f cdv A outer s H vs Q E hr h => ?_)
  obtain ⟨a, b, ns, rfl, hA, hB, hz, q⟩ := h
  have hA2 : SqL K H a (ns.map V.int) := SqL.of hA
  refine ⟨_, (pss_cons (ps_if (PW.pt (pw_or (pt_not (pt_val (pe_callB (r := rIsi K) call_isi (by rfl) T.b_isinstance (by decide +kernel) (pa_cons (pv 0) (pa_cons (pe_bltn (v := .ty "list") (by rfl) T.b_list (by decide +kernel) rfl) pa_nil))))) (pw_or1 (pt_cmpR op_ne (pe_callB (r := Evl.rLenS K) call_len_seq (by rfl) T.b_len (by decide +kernel) (pa_cons (pv 0) pa_nil)) (pe_callB (r := Evl.rLenS K) call_len_seq (by rfl) T.b_len (by decide +kernel) (pa_cons (pv 1) pa_nil)) (nomark _))))) (pss_one (ps_ret pe_bl)) pss_nil)
      (pss_cons (ps_for PassesOwn.never rfl (pi_range1 (by rfl) T.b_range (pa_cons (pe_callB (r := Evl.rLenS K) call_len_seq (by rfl) T.b_len (by decide +kernel) (pa_cons (pv 1) pa_nil)) pa_nil)) (pg_name (i := 2) sc__law_same_ints.nd rfl (Or.inl rfl)) (pss_one (ps_if (pt_not (pt_val (pe_callD G__law_is_number (hr.mono (by decide)) (pa_cons (pe_ix (r := rIxL K) ix_list (pv 0) (pv 2) (fun _ _ => rfl)) (pa_cons (pe_ix (r := rIxL K) ix_list (pv 1) (pv 2) (fun _ _ => rfl)) pa_nil))))) (pss_one (ps_ret pe_bl)) pss_nil)))
      (pss_one (ps_ret pe_bl)))), ?_⟩
  walk_at "rd"
  refine rif_nyes (by exact rfl) ?_
  walk_at "rd"
  refine forR1 (n := ns.length) (by rw [List.length_map]) (by rw [List.length_map]; omega) (fun i σ H' => H' = H ∧ ∃ v, σ = [some (.ref a), some (.ref b), v]) ⟨rfl, _, rfl⟩ ?_ ?_
  · rintro i σ H' hi ⟨rfl, v, rfl⟩
    walk_at "rd"
    refine ⟨_, _, rfl, ?_⟩
    walk_at "rd"
    rw [decide_eq_true rfl]
    walk_at "rd"
    exact ⟨rfl, _, rfl⟩
  · rintro σ H' ⟨rfl, v, rfl⟩
    walk_at "rd"
    exact q
def sp_stream (K : PySem.W.Frag) : Sp := fun vs H Q _ => ∃ (a : Addr) (ss : List Int) (n : Nat), vs = [.ref a, .int n] ∧ SqL K H a (ss.map V.int) ∧ n ≤ 1000 ∧ ∀ ns : List Int, ns.length = n → Dr ns → RetO H Q (.lst (ns.map V.int))
theorem d_stream (T : Top K mg) : Def P w K mg base CX0 2 "_law_stream" ["script", "count"] (sp_stream K) := by
  have G__law_cell : Def P w K mg base CX0 1 "_law_cell" ["script", "k"] (sp_cell K) := d_cell T
  have G__law_draws : Def P w K mg base CX0 1 "_law_draws" ["cell", "count"] sp_draws := d_draws T
  refine T.f__law_stream.ok sc__law_stream (by rintro vs H Q E ⟨a, ss, n, rfl, _⟩; rfl) (fun f cdv A outer s H vs Q E hr h => ?_)
  obtain ⟨a, ss, n, rfl, hS, hn, q⟩ := h
  refine ⟨_, (pss_cons (ps_set (i := 2) sc__law_stream.nd rfl (Or.inl rfl) (pe_lst pa_nil))
      (pss_cons (ps_for PassesOwn.never rfl (pi_range1 (by rfl) T.b_range (pa_cons (pe_op op_add pe_int (pe_op op_fdiv (pv 1) pe_int)) pa_nil)) (pg_name (i := 3) sc__law_stream.nd rfl (Or.inl rfl)) (pss_one (ps_set (i := 2) sc__law_stream.nd rfl (Or.inl rfl) (pe_op op_cat (pv 2) (pe_callD G__law_draws (hr.mono (by decide)) (pa_cons (pe_op op_add (pe_callD G__law_cell (hr.mono (by decide)) (pa_cons (pv 0) (pa_cons (pv 3) pa_nil))) (pe_op op_mul pe_int (pv 3))) (pa_cons pe_int pa_nil)))))))
      (pss_one (ps_ret (pe_slice (r := rSlL K) sl_list (pv 2) po_none (po_some (pv 1))))))), ?_⟩
  walk_at "rd"
  refine r_newL (Own.nil H) (Nat.zero_le _) fun l H1 o1 => ?_
  walk_at "rd"
  refine forR1 (n := 1 + n / 16) (by omega) (by omega) (fun i σ H' => ∃ (p : Addr) (v : Option V) (ns : List Int) (L : List (Addr × HO)), σ = [some (.ref a), some (.int n), some (.ref p), v] ∧ ns.length = 16 * i ∧ Dr ns ∧ Own H H' ((p, .lst (ns.map V.int)) :: L))
    ⟨l, none, [], [], rfl, rfl, fun _ h => absurd h (by simp), o1⟩ ?_ ?_
  · rintro i σ H' hi ⟨p, v, ns, L, rfl, hl, hd, o⟩
    walk_at "rd"
    refine ⟨_, _, _, rfl, o.old hS, by omega, ?_⟩
    walk_at "rd"
    refine ⟨_, 16, rfl, by omega, fun ms hm hdm H2 p2 s2 f2 e2 => ?_⟩
    have o2 := o.add s2 f2 e2
    refine r_cat o2 (o2.at 1 rfl) (o2.at 0 rfl) (by rw [List.length_map, List.length_map]; omega) fun p3 H3 o3 => ?_
    walk_at "rd"
    rw [← List.map_append] at o3
    refine ⟨p3, _, _, _, rfl, ?_, hd.app2 hdm, o3⟩
    rw [List.length_append]
    omega
  · rintro σ H' ⟨p, v, ns, L, rfl, hl, hd, o⟩
    walk_at "rd"
    refine r_slL o (o.sqL 0 rfl) fun p3 H3 o3 => ?_
    rw [cut_hi, ← List.map_take] at o3
    refine (q _ ?_ (hd.take n)).mk o3 0 rfl
    rw [List.length_take]
    omega
def spLaw (K : PySem.W.Frag) : Sp := fun vs H Q _ => ∃ (a : Addr) (ss : List Int), vs = [.ref a] ∧ SqL K H a (ss.map V.int) ∧ ss.length ≤ 63 ∧ (∀ z ∈ ss, PySem.Builtin.Int.intBits z ≤ 1048576) ∧ ∀ H', Q (.bl true) H'
theorem law_in {a : Addr} {ss : List Int} {H : Hp} (hl : ss.length ≤ 63) (hb : ∀ z ∈ ss, PySem.Builtin.Int.intBits z ≤ 1048576) (hS : SqL K H a (ss.map V.int)) : spLaw K [.ref a] H (fun v _ => v = .bl true) fun _ _ _ => False :=
  ⟨a, ss, rfl, hS, hl, hb, fun _ => rfl⟩
end

/-! told: how a message tells an integer -/
theorem call_strIS {X : Cx} : CallR X (.type "str") (fun xs H Q => (∃ i, xs = [.int i] ∧ i.natAbs.log2 < 1920 ∧ Q (.str (toString i)) H) ∨ ∃ a, xs = [.str a] ∧ Q (.str a) H) := by
  intro pins s σ H xs us Q I r h
  rcases h with ⟨i, rfl, hz, q⟩ | ⟨a, rfl, q⟩
  · obtain ⟨u, rfl, t, rfl⟩ := vals1 r
    exact PySem.P.str_of_int hz ⟨.str _, H, I.tok _, ⟨_, rfl⟩, q⟩
  · obtain ⟨u, rfl, t, rfl⟩ := vals1 r
    exact PySem.P.str_of_str ⟨.str a, H, I, ⟨t, rfl⟩, q⟩
section
variable {P : Program} {w : World} {K : PySem.W.Frag} {mg : Str → Option Value} {base : Heap}
def sp_told : Sp := fun vs H Q _ => ∃ v : V, vs = [v] ∧ Tell v ∧ ∀ y : Str, y.length ≤ 1000000 → Q (.str y) H
theorem sp_told_t {v : V} (h : Tell v) (H : Hp) (Q : VK) (E : XK) (q : ∀ y : Str, y.length ≤ 1000000 → Q (.str y) H) : sp_told [v] H Q E := ⟨v, rfl, h, q⟩
theorem msg_len {i : Int} (h : i.natAbs.log2 < 1920) : (Str.ofString (toString i)).length ≤ 1000000 := by
  rw [PySem.ofString_length]
  exact Nat.le_trans (int_text_length_le (by decide) h) (by decide)
theorem d_told (T : Top K mg) : Def P w K mg base CX0 1 "told" ["thing"] sp_told := by
  obtain ⟨t1, g_BEYOND_TOLD⟩ := T.g_BEYOND_TOLD
  refine T.f_told.ok sc_told (by rintro vs H Q E ⟨i, rfl, _⟩; rfl) (fun f cdv A outer s H vs Q E hr h => ?_)
  obtain ⟨v, rfl, hv, q⟩ := h
  refine ⟨_, (pss_cons (ps_if (PW.pt (pw_and (pt_val (pe_callB (r := rIsi K) call_isi (by rfl) T.b_isinstance (by decide +kernel) (pa_cons (pv 0) (pa_cons (pe_bltn (v := .ty "int") (by rfl) T.b_int (by decide +kernel) rfl) pa_nil)))) (pw_and1 (pt_cmpR op_ge (pe_callB call_abs (by rfl) T.b_abs (by decide +kernel) (pa_cons (pv 0) pa_nil)) (pe_glob (v := .int 1000000000000000000000000000000) rfl g_BEYOND_TOLD ⟨_, rfl⟩) (nomark _))))) (pss_one (ps_ret pe_str)) pss_nil)
      (pss_one (ps_ret (pe_callTy call_strIS (by rfl) T.b_str (by decide +kernel) (pa_cons (pv 0) pa_nil))))), ?_⟩
  rcases hv with ⟨i, rfl, hi⟩ | ⟨y, rfl, hy⟩
  · walk_at "rd"
    refine ⟨i, rfl, ?_⟩
    walk_at "rd"
    refine rif (fun h1 => ?_) fun h1 => ?_
    · walk_at "rd"
      exact q _ (by decide)
    · walk_at "rd"
      exact .inl ⟨i, rfl, hi, q _ (msg_len hi)⟩
  · walk_at "rd"
    exact .inr ⟨y, rfl, q _ hy⟩
theorem w_told (T : Top K mg) : DefW P w K mg base 1 "told" ["thing"] sp_told := by
  obtain ⟨t1, g_BEYOND_TOLD⟩ := T.g_BEYOND_TOLD
  refine T.f_told.okW sc_told (by rintro vs H Q E ⟨i, rfl, _⟩; rfl) (fun f cdv A outer s H vs Q E hr h => ?_)
  obtain ⟨v, rfl, hv, q⟩ := h
  refine ⟨_, (pss_cons (ps_if (PW.pt (pw_and (pt_val (pe_callB (r := rIsi K) call_isi (by rfl) T.b_isinstance (by decide +kernel) (pa_cons (pv 0) (pa_cons (pe_bltn (v := .ty "int") (by rfl) T.b_int (by decide +kernel) rfl) pa_nil)))) (pw_and1 (pt_cmpR op_ge (pe_callB call_abs (by rfl) T.b_abs (by decide +kernel) (pa_cons (pv 0) pa_nil)) (pe_glob (v := .int 1000000000000000000000000000000) rfl g_BEYOND_TOLD ⟨_, rfl⟩) (nomark _))))) (pss_one (ps_ret pe_str)) pss_nil)
      (pss_one (ps_ret (pe_callTy call_strIS (by rfl) T.b_str (by decide +kernel) (pa_cons (pv 0) pa_nil))))), ?_⟩
  rcases hv with ⟨i, rfl, hi⟩ | ⟨y, rfl, hy⟩
  · walk_at "rd"
    refine ⟨i, rfl, ?_⟩
    walk_at "rd"
    refine rif (fun h1 => ?_) fun h1 => ?_
    · walk_at "rd"
      exact q _ (by decide)
    · walk_at "rd"
      exact .inl ⟨i, rfl, hi, q _ (msg_len hi)⟩
  · walk_at "rd"
    exact .inr ⟨y, rfl, q _ hy⟩
end

theorem ini_Unreadable {P : Program} {w : World} {K : PySem.W.Frag} {mg : Str → Option Value} {base : Heap} {C : Addr} (hP : PrOk P) (hsup : mg "super" = none) (G_told : Def P w K mg base CX0 1 "told" ["thing"] sp_told) (A : ErrCls K mg C "Unreadable") (I : ErrIni K C "Unreadable.__init__" s_Unreadable___init__ ["self", "index"] ["index"]) : EDef P w K mg base C "Unreadable" ["self", "index"] (sp_i1 C "index") := by
  obtain ⟨fI, fd, S, iC, tI, hb⟩ := I.ini
  refine ⟨A.at_, I.sup.oex, fI, fd, ?_, iC, tI, hb⟩
  refine S.ok (N := N_Unreadable___init__) (ps := ["self", "index"]) (pl := fun _ => _) hP I.sup (NdefX.nscope_by (by decide +kernel)) hsup rfl rfl rfl rfl (fun _ => rfl) (fun _ => rfl) (fun _ => rfl) (by rintro vs H Q E ⟨a, v, rfl, _⟩; rfl) (fun cda cc A2 outer s H vs Q E hr h => ?_)
  obtain ⟨a, v, rfl, tv, ha, q⟩ := h
  refine ⟨a, [v], _, _, rfl, ha, pe_joined (PJ.cons pe_str (PJ.cons (pe_fmt (pe_callD G_told (hr.mono (by decide)) (pa_cons (pv 1) pa_nil))) PJ.nil)), (pss_one (ps_ost (pv 0) (pv 1))), ?_⟩
  refine js_ok (ps := [.c "nothing of this form can be read at index ", .t sp_told E0 1]) (fun y => ⟨⟨_, rfl⟩, ha, ⟨v, rfl, .ref a, rfl, a, C, rfl, I.sup.oex, I.no _ List.mem_cons_self, .inl ⟨ha, fun dx h1 h2 => q dx h1 h2⟩⟩⟩) _ ?_ (by decide)
  intro p hp
  simp only [List.mem_cons, List.not_mem_nil, or_false] at hp
  rcases hp with rfl | rfl
  · show Str.length _ ≤ 1000; decide
  · exact ⟨v, rfl, fun H Q q => sp_told_t tv H Q E0 q⟩
theorem inih_Unreadable {P : Program} {w : World} {K : PySem.W.Frag} {mg : Str → Option Value} {base : Heap} {C : Addr} (hP : PrOk P) (hsup : mg "super" = none) (W_told : DefW P w K mg base 1 "told" ["thing"] sp_told) (A : ErrCls K mg C "Unreadable") (I : ErrIni K C "Unreadable.__init__" s_Unreadable___init__ ["self", "index"] ["index"]) : EDefH P w K mg base C "Unreadable" ["self", "index"] (sp_i1 C "index") := by
  obtain ⟨fI, fd, S, iC, tI, hb⟩ := I.ini
  refine ⟨A.at_, I.sup.oex, fI, fd, ?_, iC, tI, hb⟩
  refine S.okH (N := N_Unreadable___init__) (ps := ["self", "index"]) (pl := fun _ => _) hP I.sup (NdefX.nscope_by (by decide +kernel)) hsup rfl rfl rfl rfl (fun _ => rfl) (fun _ => rfl) (fun _ => rfl) (by rintro vs H Q E ⟨a, v, rfl, _⟩; rfl) (fun cda cc A2 outer s H vs Q E pp hr h => ?_)
  obtain ⟨a, v, rfl, tv, ha, q⟩ := h
  refine ⟨a, [v], _, _, rfl, ha, pe_joined (PJ.cons pe_str (PJ.cons (pe_fmt (pe_callW W_told (hr.mono (by decide)) (pa_cons (pv 1) pa_nil))) PJ.nil)), (pss_one (ps_ost (pv 0) (pv 1))), ?_⟩
  refine js_ok (ps := [.c "nothing of this form can be read at index ", .t sp_told E0 1]) (fun y => ⟨⟨_, rfl⟩, ha, ⟨v, rfl, .ref a, rfl, a, C, rfl, I.sup.oex, I.no _ List.mem_cons_self, .inl ⟨ha, fun dx h1 h2 => q dx h1 h2⟩⟩⟩) _ ?_ (by decide)
  intro p hp
  simp only [List.mem_cons, List.not_mem_nil, or_false] at hp
  rcases hp with rfl | rfl
  · show Str.length _ ≤ 1000; decide
  · exact ⟨v, rfl, fun H Q q => sp_told_t tv H Q E0 q⟩
theorem ini_BadFilter {P : Program} {w : World} {K : PySem.W.Frag} {mg : Str → Option Value} {base : Heap} {C : Addr} (hP : PrOk P) (hsup : mg "super" = none) (A : ErrCls K mg C "BadFilter") (I : ErrIni K C "BadFilter.__init__" s_BadFilter___init__ ["self", "name"] ["name"]) : EDef P w K mg base C "BadFilter" ["self", "name"] (sp_i1 C "name") := by
  obtain ⟨fI, fd, S, iC, tI, hb⟩ := I.ini
  refine ⟨A.at_, I.sup.oex, fI, fd, ?_, iC, tI, hb⟩
  refine S.ok (N := N_BadFilter___init__) (ps := ["self", "name"]) (pl := fun _ => _) hP I.sup (NdefX.nscope_by (by decide +kernel)) hsup rfl rfl rfl rfl (fun _ => rfl) (fun _ => rfl) (fun _ => rfl) (by rintro vs H Q E ⟨a, v, rfl, _⟩; rfl) (fun cda cc A2 outer s H vs Q E hr h => ?_)
  obtain ⟨a, v, rfl, tv, ha, q⟩ := h
  refine ⟨a, [v], _, _, rfl, ha, pe_joined (PJ.cons pe_str (PJ.cons (pe_fmt (pv 1)) PJ.nil)), (pss_one (ps_ost (pv 0) (pv 1))), ?_⟩
  refine js_ok (ps := [.c "the bytes are not a result of the filter ", .v 1]) (fun y => ⟨⟨_, rfl⟩, ha, ⟨v, rfl, .ref a, rfl, a, C, rfl, I.sup.oex, I.no _ List.mem_cons_self, .inl ⟨ha, fun dx h1 h2 => q dx h1 h2⟩⟩⟩) _ ?_ (by decide)
  intro p hp
  simp only [List.mem_cons, List.not_mem_nil, or_false] at hp
  rcases hp with rfl | rfl
  · show Str.length _ ≤ 1000; decide
  · exact ⟨v, rfl, tv⟩
theorem top_mk {K : PySem.W.Frag} {h : Heap} {mg : Str → Option Value} (X : K.In h) (G : h.Ns mainGlobals mg)
    {f_told : Addr} {od_told an_told : Option Addr} {sl_told : Array (Option Value)} {oc_told kV_told dc_told pm_told cd_told ct_told : Value}
    {f_undo_filter : Addr} {od_undo_filter an_undo_filter : Option Addr} {sl_undo_filter : Array (Option Value)} {oc_undo_filter kV_undo_filter dc_undo_filter pm_undo_filter cd_undo_filter ct_undo_filter : Value}
    {f_undo_chain : Addr} {od_undo_chain an_undo_chain : Option Addr} {sl_undo_chain : Array (Option Value)} {oc_undo_chain kV_undo_chain dc_undo_chain pm_undo_chain cd_undo_chain ct_undo_chain : Value}
    {f_undo_delta : Addr} {od_undo_delta an_undo_delta : Option Addr} {sl_undo_delta : Array (Option Value)} {oc_undo_delta kV_undo_delta dc_undo_delta pm_undo_delta cd_undo_delta ct_undo_delta : Value}
    {f_plane_order : Addr} {od_plane_order an_plane_order : Option Addr} {sl_plane_order : Array (Option Value)} {oc_plane_order kV_plane_order dc_plane_order pm_plane_order cd_plane_order ct_plane_order : Value}
    {f_undo_planes : Addr} {od_undo_planes an_undo_planes : Option Addr} {sl_undo_planes : Array (Option Value)} {oc_undo_planes kV_undo_planes dc_undo_planes pm_undo_planes cd_undo_planes ct_undo_planes : Value}
    {f_undo_runs : Addr} {od_undo_runs an_undo_runs : Option Addr} {sl_undo_runs : Array (Option Value)} {oc_undo_runs kV_undo_runs dc_undo_runs pm_undo_runs cd_undo_runs ct_undo_runs : Value}
    {f_undo_zeros : Addr} {od_undo_zeros an_undo_zeros : Option Addr} {sl_undo_zeros : Array (Option Value)} {oc_undo_zeros kV_undo_zeros dc_undo_zeros pm_undo_zeros cd_undo_zeros ct_undo_zeros : Value}
    {f_width : Addr} {od_width an_width : Option Addr} {sl_width : Array (Option Value)} {oc_width kV_width dc_width pm_width cd_width ct_width : Value}
    {f_value_count : Addr} {od_value_count an_value_count : Option Addr} {sl_value_count : Array (Option Value)} {oc_value_count kV_value_count dc_value_count pm_value_count cd_value_count ct_value_count : Value}
    {f_least : Addr} {od_least an_least : Option Addr} {sl_least : Array (Option Value)} {oc_least kV_least dc_least pm_least cd_least ct_least : Value}
    {f_greatest : Addr} {od_greatest an_greatest : Option Addr} {sl_greatest : Array (Option Value)} {oc_greatest kV_greatest dc_greatest pm_greatest cd_greatest ct_greatest : Value}
    {f_load_values : Addr} {od_load_values an_load_values : Option Addr} {sl_load_values : Array (Option Value)} {oc_load_values kV_load_values dc_load_values pm_load_values cd_load_values ct_load_values : Value}
    {f_stands_at : Addr} {od_stands_at an_stands_at : Option Addr} {sl_stands_at : Array (Option Value)} {oc_stands_at kV_stands_at dc_stands_at pm_stands_at cd_stands_at ct_stands_at : Value}
    {f_read_number : Addr} {od_read_number an_read_number : Option Addr} {sl_read_number : Array (Option Value)} {oc_read_number kV_read_number dc_read_number pm_read_number cd_read_number ct_read_number : Value}
    {f_read_byte : Addr} {od_read_byte an_read_byte : Option Addr} {sl_read_byte : Array (Option Value)} {oc_read_byte kV_read_byte dc_read_byte pm_read_byte cd_read_byte ct_read_byte : Value}
    {f_read_list : Addr} {od_read_list an_read_list : Option Addr} {sl_read_list : Array (Option Value)} {oc_read_list kV_read_list dc_read_list pm_read_list cd_read_list ct_read_list : Value}
    {f_read_bytes : Addr} {od_read_bytes an_read_bytes : Option Addr} {sl_read_bytes : Array (Option Value)} {oc_read_bytes kV_read_bytes dc_read_bytes pm_read_bytes cd_read_bytes ct_read_bytes : Value}
    {f_element_count : Addr} {od_element_count an_element_count : Option Addr} {sl_element_count : Array (Option Value)} {oc_element_count kV_element_count dc_element_count pm_element_count cd_element_count ct_element_count : Value}
    {f_decode_chunk : Addr} {od_decode_chunk an_decode_chunk : Option Addr} {sl_decode_chunk : Array (Option Value)} {oc_decode_chunk kV_decode_chunk dc_decode_chunk pm_decode_chunk cd_decode_chunk ct_decode_chunk : Value}
    {f__law_cell : Addr} {od__law_cell an__law_cell : Option Addr} {sl__law_cell : Array (Option Value)} {oc__law_cell kV__law_cell dc__law_cell pm__law_cell cd__law_cell ct__law_cell : Value}
    {f__law_draws : Addr} {od__law_draws an__law_draws : Option Addr} {sl__law_draws : Array (Option Value)} {oc__law_draws kV__law_draws dc__law_draws pm__law_draws cd__law_draws ct__law_draws : Value}
    {f__law_is_int : Addr} {od__law_is_int an__law_is_int : Option Addr} {sl__law_is_int : Array (Option Value)} {oc__law_is_int kV__law_is_int dc__law_is_int pm__law_is_int cd__law_is_int ct__law_is_int : Value}
    {f__law_is_number : Addr} {od__law_is_number an__law_is_number : Option Addr} {sl__law_is_number : Array (Option Value)} {oc__law_is_number kV__law_is_number dc__law_is_number pm__law_is_number cd__law_is_number ct__law_is_number : Value}
    {f__law_low : Addr} {od__law_low an__law_low : Option Addr} {sl__law_low : Array (Option Value)} {oc__law_low kV__law_low dc__law_low pm__law_low cd__law_low ct__law_low : Value}
    {f__law_high : Addr} {od__law_high an__law_high : Option Addr} {sl__law_high : Array (Option Value)} {oc__law_high kV__law_high dc__law_high pm__law_high cd__law_high ct__law_high : Value}
    {f__law_value : Addr} {od__law_value an__law_value : Option Addr} {sl__law_value : Array (Option Value)} {oc__law_value kV__law_value dc__law_value pm__law_value cd__law_value ct__law_value : Value}
    {f__law_kind : Addr} {od__law_kind an__law_kind : Option Addr} {sl__law_kind : Array (Option Value)} {oc__law_kind kV__law_kind dc__law_kind pm__law_kind cd__law_kind ct__law_kind : Value}
    {f__law_chain : Addr} {od__law_chain an__law_chain : Option Addr} {sl__law_chain : Array (Option Value)} {oc__law_chain kV__law_chain dc__law_chain pm__law_chain cd__law_chain ct__law_chain : Value}
    {f__law_same_ints : Addr} {od__law_same_ints an__law_same_ints : Option Addr} {sl__law_same_ints : Array (Option Value)} {oc__law_same_ints kV__law_same_ints dc__law_same_ints pm__law_same_ints cd__law_same_ints ct__law_same_ints : Value}
    {f__law_stream : Addr} {od__law_stream an__law_stream : Option Addr} {sl__law_stream : Array (Option Value)} {oc__law_stream kV__law_stream dc__law_stream pm__law_stream cd__law_stream ct__law_stream : Value}
    {f__law_number_bytes : Addr} {od__law_number_bytes an__law_number_bytes : Option Addr} {sl__law_number_bytes : Array (Option Value)} {oc__law_number_bytes kV__law_number_bytes dc__law_number_bytes pm__law_number_bytes cd__law_number_bytes ct__law_number_bytes : Value}
    {f__law_bytes_bytes : Addr} {od__law_bytes_bytes an__law_bytes_bytes : Option Addr} {sl__law_bytes_bytes : Array (Option Value)} {oc__law_bytes_bytes kV__law_bytes_bytes dc__law_bytes_bytes pm__law_bytes_bytes cd__law_bytes_bytes ct__law_bytes_bytes : Value}
    {f__law_many : Addr} {od__law_many an__law_many : Option Addr} {sl__law_many : Array (Option Value)} {oc__law_many kV__law_many dc__law_many pm__law_many cd__law_many ct__law_many : Value}
    {f__law_filter : Addr} {od__law_filter an__law_filter : Option Addr} {sl__law_filter : Array (Option Value)} {oc__law_filter kV__law_filter dc__law_filter pm__law_filter cd__law_filter ct__law_filter : Value}
    {f__law_back : Addr} {od__law_back an__law_back : Option Addr} {sl__law_back : Array (Option Value)} {oc__law_back kV__law_back dc__law_back pm__law_back cd__law_back ct__law_back : Value}
    {f__law_stored : Addr} {od__law_stored an__law_stored : Option Addr} {sl__law_stored : Array (Option Value)} {oc__law_stored kV__law_stored dc__law_stored pm__law_stored cd__law_stored ct__law_stored : Value}
    {f__law_loaded : Addr} {od__law_loaded an__law_loaded : Option Addr} {sl__law_loaded : Array (Option Value)} {oc__law_loaded kV__law_loaded dc__law_loaded pm__law_loaded cd__law_loaded ct__law_loaded : Value}
    {f__law_chunk_content : Addr} {od__law_chunk_content an__law_chunk_content : Option Addr} {sl__law_chunk_content : Array (Option Value)} {oc__law_chunk_content kV__law_chunk_content dc__law_chunk_content pm__law_chunk_content cd__law_chunk_content ct__law_chunk_content : Value}
    {f__law_read_bytes : Addr} {od__law_read_bytes an__law_read_bytes : Option Addr} {sl__law_read_bytes : Array (Option Value)} {oc__law_read_bytes kV__law_read_bytes dc__law_read_bytes pm__law_read_bytes cd__law_read_bytes ct__law_read_bytes : Value}
    {f__law_chunk_values : Addr} {od__law_chunk_values an__law_chunk_values : Option Addr} {sl__law_chunk_values : Array (Option Value)} {oc__law_chunk_values kV__law_chunk_values dc__law_chunk_values pm__law_chunk_values cd__law_chunk_values ct__law_chunk_values : Value}
    {f__law_chunk_shape : Addr} {od__law_chunk_shape an__law_chunk_shape : Option Addr} {sl__law_chunk_shape : Array (Option Value)} {oc__law_chunk_shape kV__law_chunk_shape dc__law_chunk_shape pm__law_chunk_shape cd__law_chunk_shape ct__law_chunk_shape : Value}
    {f_law : Addr} {od_law an_law : Option Addr} {sl_law : Array (Option Value)} {oc_law kV_law dc_law pm_law cd_law ct_law : Value}
    {K_Layout : Addr}
    {f_Layout___init__ : Addr} {od_Layout___init__ an_Layout___init__ : Option Addr} {sl_Layout___init__ : Array (Option Value)} {oc_Layout___init__ kV_Layout___init__ dc_Layout___init__ pm_Layout___init__ cd_Layout___init__ ct_Layout___init__ : Value}
    {K_TesseraError : Addr}
    {K_Unreadable : Addr}
    {K_BadFilter : Addr}
    {nm_Unreadable qn_Unreadable : Str} {nn_Unreadable : Addr} {bs_Unreadable bm_Unreadable : List Value} {sn_Unreadable : List Str} {sb_Unreadable : List Value} {ab_Unreadable : Bool} {co_Unreadable : Option Bool} {dd_Unreadable : Option Addr} {m0_Unreadable m1_Unreadable m2_Unreadable m3_Unreadable m5_Unreadable : Option Value}
    {if_Unreadable icc_Unreadable icd_Unreadable : Addr} {iod_Unreadable ian_Unreadable : Option Addr} {isl_Unreadable : Array (Option Value)} {ioc_Unreadable ikV_Unreadable idc_Unreadable ipm_Unreadable ict_Unreadable : Value}
    {jc_Unreadable kc_Unreadable : Value} {jd_Unreadable kd_Unreadable : Option Addr} {js_Unreadable ks_Unreadable : Array (Option Value)} {kf_Unreadable : Array Value} {kt_Unreadable : Tok}
    {nm_BadFilter qn_BadFilter : Str} {nn_BadFilter : Addr} {bs_BadFilter bm_BadFilter : List Value} {sn_BadFilter : List Str} {sb_BadFilter : List Value} {ab_BadFilter : Bool} {co_BadFilter : Option Bool} {dd_BadFilter : Option Addr} {m0_BadFilter m1_BadFilter m2_BadFilter m3_BadFilter m5_BadFilter : Option Value}
    {if_BadFilter icc_BadFilter icd_BadFilter : Addr} {iod_BadFilter ian_BadFilter : Option Addr} {isl_BadFilter : Array (Option Value)} {ioc_BadFilter ikV_BadFilter idc_BadFilter ipm_BadFilter ict_BadFilter : Value}
    {jc_BadFilter kc_BadFilter : Value} {jd_BadFilter kd_BadFilter : Option Addr} {js_BadFilter ks_BadFilter : Array (Option Value)} {kf_BadFilter : Array Value} {kt_BadFilter : Tok}
    {t_BASE : Tok}
    {t_BEYOND_TOLD : Tok}
    {t_ESCAPE : Tok}
    {t_HIGHEST_BYTE : Tok}
    {t_HIGHEST_ESCAPED : Tok}
    {t_LONGEST_RUN : Tok}
    {t_MOST_ZEROS : Tok}
    (a_told : PySem.W.nsIn K mainGlobals "told" = some (some (.ref f_told))) (l_told : K.lookup f_told = some ⟨oc_told, od_told, .func (PySem.W.fnOf "told" "told" (defArgs s_told) (defBody s_told) (defScope s_told) .none kV_told dc_told pm_told an_told cd_told ct_told), sl_told⟩) (c_told : PySem.W.codeIn K cd_told "told" = true) (k_told : PySem.W.keepIn K (.ref f_told) = true)
    (a_undo_filter : PySem.W.nsIn K mainGlobals "undo_filter" = some (some (.ref f_undo_filter))) (l_undo_filter : K.lookup f_undo_filter = some ⟨oc_undo_filter, od_undo_filter, .func (PySem.W.fnOf "undo_filter" "undo_filter" (defArgs s_undo_filter) (defBody s_undo_filter) (defScope s_undo_filter) .none kV_undo_filter dc_undo_filter pm_undo_filter an_undo_filter cd_undo_filter ct_undo_filter), sl_undo_filter⟩) (c_undo_filter : PySem.W.codeIn K cd_undo_filter "undo_filter" = true) (k_undo_filter : PySem.W.keepIn K (.ref f_undo_filter) = true)
    (a_undo_chain : PySem.W.nsIn K mainGlobals "undo_chain" = some (some (.ref f_undo_chain))) (l_undo_chain : K.lookup f_undo_chain = some ⟨oc_undo_chain, od_undo_chain, .func (PySem.W.fnOf "undo_chain" "undo_chain" (defArgs s_undo_chain) (defBody s_undo_chain) (defScope s_undo_chain) .none kV_undo_chain dc_undo_chain pm_undo_chain an_undo_chain cd_undo_chain ct_undo_chain), sl_undo_chain⟩) (c_undo_chain : PySem.W.codeIn K cd_undo_chain "undo_chain" = true) (k_undo_chain : PySem.W.keepIn K (.ref f_undo_chain) = true)
    (a_undo_delta : PySem.W.nsIn K mainGlobals "undo_delta" = some (some (.ref f_undo_delta))) (l_undo_delta : K.lookup f_undo_delta = some ⟨oc_undo_delta, od_undo_delta, .func (PySem.W.fnOf "undo_delta" "undo_delta" (defArgs s_undo_delta) (defBody s_undo_delta) (defScope s_undo_delta) .none kV_undo_delta dc_undo_delta pm_undo_delta an_undo_delta cd_undo_delta ct_undo_delta), sl_undo_delta⟩) (c_undo_delta : PySem.W.codeIn K cd_undo_delta "undo_delta" = true) (k_undo_delta : PySem.W.keepIn K (.ref f_undo_delta) = true)
    (a_plane_order : PySem.W.nsIn K mainGlobals "plane_order" = some (some (.ref f_plane_order))) (l_plane_order : K.lookup f_plane_order = some ⟨oc_plane_order, od_plane_order, .func (PySem.W.fnOf "plane_order" "plane_order" (defArgs s_plane_order) (defBody s_plane_order) (defScope s_plane_order) .none kV_plane_order dc_plane_order pm_plane_order an_plane_order cd_plane_order ct_plane_order), sl_plane_order⟩) (c_plane_order : PySem.W.codeIn K cd_plane_order "plane_order" = true) (k_plane_order : PySem.W.keepIn K (.ref f_plane_order) = true)
    (a_undo_planes : PySem.W.nsIn K mainGlobals "undo_planes" = some (some (.ref f_undo_planes))) (l_undo_planes : K.lookup f_undo_planes = some ⟨oc_undo_planes, od_undo_planes, .func (PySem.W.fnOf "undo_planes" "undo_planes" (defArgs s_undo_planes) (defBody s_undo_planes) (defScope s_undo_planes) .none kV_undo_planes dc_undo_planes pm_undo_planes an_undo_planes cd_undo_planes ct_undo_planes), sl_undo_planes⟩) (c_undo_planes : PySem.W.codeIn K cd_undo_planes "undo_planes" = true) (k_undo_planes : PySem.W.keepIn K (.ref f_undo_planes) = true)
    (a_undo_runs : PySem.W.nsIn K mainGlobals "undo_runs" = some (some (.ref f_undo_runs))) (l_undo_runs : K.lookup f_undo_runs = some ⟨oc_undo_runs, od_undo_runs, .func (PySem.W.fnOf "undo_runs" "undo_runs" (defArgs s_undo_runs) (defBody s_undo_runs) (defScope s_undo_runs) .none kV_undo_runs dc_undo_runs pm_undo_runs an_undo_runs cd_undo_runs ct_undo_runs), sl_undo_runs⟩) (c_undo_runs : PySem.W.codeIn K cd_undo_runs "undo_runs" = true) (k_undo_runs : PySem.W.keepIn K (.ref f_undo_runs) = true)
    (a_undo_zeros : PySem.W.nsIn K mainGlobals "undo_zeros" = some (some (.ref f_undo_zeros))) (l_undo_zeros : K.lookup f_undo_zeros = some ⟨oc_undo_zeros, od_undo_zeros, .func (PySem.W.fnOf "undo_zeros" "undo_zeros" (defArgs s_undo_zeros) (defBody s_undo_zeros) (defScope s_undo_zeros) .none kV_undo_zeros dc_undo_zeros pm_undo_zeros an_undo_zeros cd_undo_zeros ct_undo_zeros), sl_undo_zeros⟩) (c_undo_zeros : PySem.W.codeIn K cd_undo_zeros "undo_zeros" = true) (k_undo_zeros : PySem.W.keepIn K (.ref f_undo_zeros) = true)
    (a_width : PySem.W.nsIn K mainGlobals "width" = some (some (.ref f_width))) (l_width : K.lookup f_width = some ⟨oc_width, od_width, .func (PySem.W.fnOf "width" "width" (defArgs s_width) (defBody s_width) (defScope s_width) .none kV_width dc_width pm_width an_width cd_width ct_width), sl_width⟩) (c_width : PySem.W.codeIn K cd_width "width" = true) (k_width : PySem.W.keepIn K (.ref f_width) = true)
    (a_value_count : PySem.W.nsIn K mainGlobals "value_count" = some (some (.ref f_value_count))) (l_value_count : K.lookup f_value_count = some ⟨oc_value_count, od_value_count, .func (PySem.W.fnOf "value_count" "value_count" (defArgs s_value_count) (defBody s_value_count) (defScope s_value_count) .none kV_value_count dc_value_count pm_value_count an_value_count cd_value_count ct_value_count), sl_value_count⟩) (c_value_count : PySem.W.codeIn K cd_value_count "value_count" = true) (k_value_count : PySem.W.keepIn K (.ref f_value_count) = true)
    (a_least : PySem.W.nsIn K mainGlobals "least" = some (some (.ref f_least))) (l_least : K.lookup f_least = some ⟨oc_least, od_least, .func (PySem.W.fnOf "least" "least" (defArgs s_least) (defBody s_least) (defScope s_least) .none kV_least dc_least pm_least an_least cd_least ct_least), sl_least⟩) (c_least : PySem.W.codeIn K cd_least "least" = true) (k_least : PySem.W.keepIn K (.ref f_least) = true)
    (a_greatest : PySem.W.nsIn K mainGlobals "greatest" = some (some (.ref f_greatest))) (l_greatest : K.lookup f_greatest = some ⟨oc_greatest, od_greatest, .func (PySem.W.fnOf "greatest" "greatest" (defArgs s_greatest) (defBody s_greatest) (defScope s_greatest) .none kV_greatest dc_greatest pm_greatest an_greatest cd_greatest ct_greatest), sl_greatest⟩) (c_greatest : PySem.W.codeIn K cd_greatest "greatest" = true) (k_greatest : PySem.W.keepIn K (.ref f_greatest) = true)
    (a_load_values : PySem.W.nsIn K mainGlobals "load_values" = some (some (.ref f_load_values))) (l_load_values : K.lookup f_load_values = some ⟨oc_load_values, od_load_values, .func (PySem.W.fnOf "load_values" "load_values" (defArgs s_load_values) (defBody s_load_values) (defScope s_load_values) .none kV_load_values dc_load_values pm_load_values an_load_values cd_load_values ct_load_values), sl_load_values⟩) (c_load_values : PySem.W.codeIn K cd_load_values "load_values" = true) (k_load_values : PySem.W.keepIn K (.ref f_load_values) = true)
    (a_stands_at : PySem.W.nsIn K mainGlobals "stands_at" = some (some (.ref f_stands_at))) (l_stands_at : K.lookup f_stands_at = some ⟨oc_stands_at, od_stands_at, .func (PySem.W.fnOf "stands_at" "stands_at" (defArgs s_stands_at) (defBody s_stands_at) (defScope s_stands_at) .none kV_stands_at dc_stands_at pm_stands_at an_stands_at cd_stands_at ct_stands_at), sl_stands_at⟩) (c_stands_at : PySem.W.codeIn K cd_stands_at "stands_at" = true) (k_stands_at : PySem.W.keepIn K (.ref f_stands_at) = true)
    (a_read_number : PySem.W.nsIn K mainGlobals "read_number" = some (some (.ref f_read_number))) (l_read_number : K.lookup f_read_number = some ⟨oc_read_number, od_read_number, .func (PySem.W.fnOf "read_number" "read_number" (defArgs s_read_number) (defBody s_read_number) (defScope s_read_number) .none kV_read_number dc_read_number pm_read_number an_read_number cd_read_number ct_read_number), sl_read_number⟩) (c_read_number : PySem.W.codeIn K cd_read_number "read_number" = true) (k_read_number : PySem.W.keepIn K (.ref f_read_number) = true)
    (a_read_byte : PySem.W.nsIn K mainGlobals "read_byte" = some (some (.ref f_read_byte))) (l_read_byte : K.lookup f_read_byte = some ⟨oc_read_byte, od_read_byte, .func (PySem.W.fnOf "read_byte" "read_byte" (defArgs s_read_byte) (defBody s_read_byte) (defScope s_read_byte) .none kV_read_byte dc_read_byte pm_read_byte an_read_byte cd_read_byte ct_read_byte), sl_read_byte⟩) (c_read_byte : PySem.W.codeIn K cd_read_byte "read_byte" = true) (k_read_byte : PySem.W.keepIn K (.ref f_read_byte) = true)
    (a_read_list : PySem.W.nsIn K mainGlobals "read_list" = some (some (.ref f_read_list))) (l_read_list : K.lookup f_read_list = some ⟨oc_read_list, od_read_list, .func (PySem.W.fnOf "read_list" "read_list" (defArgs s_read_list) (defBody s_read_list) (defScope s_read_list) .none kV_read_list dc_read_list pm_read_list an_read_list cd_read_list ct_read_list), sl_read_list⟩) (c_read_list : PySem.W.codeIn K cd_read_list "read_list" = true) (k_read_list : PySem.W.keepIn K (.ref f_read_list) = true)
    (a_read_bytes : PySem.W.nsIn K mainGlobals "read_bytes" = some (some (.ref f_read_bytes))) (l_read_bytes : K.lookup f_read_bytes = some ⟨oc_read_bytes, od_read_bytes, .func (PySem.W.fnOf "read_bytes" "read_bytes" (defArgs s_read_bytes) (defBody s_read_bytes) (defScope s_read_bytes) .none kV_read_bytes dc_read_bytes pm_read_bytes an_read_bytes cd_read_bytes ct_read_bytes), sl_read_bytes⟩) (c_read_bytes : PySem.W.codeIn K cd_read_bytes "read_bytes" = true) (k_read_bytes : PySem.W.keepIn K (.ref f_read_bytes) = true)
    (a_element_count : PySem.W.nsIn K mainGlobals "element_count" = some (some (.ref f_element_count))) (l_element_count : K.lookup f_element_count = some ⟨oc_element_count, od_element_count, .func (PySem.W.fnOf "element_count" "element_count" (defArgs s_element_count) (defBody s_element_count) (defScope s_element_count) .none kV_element_count dc_element_count pm_element_count an_element_count cd_element_count ct_element_count), sl_element_count⟩) (c_element_count : PySem.W.codeIn K cd_element_count "element_count" = true) (k_element_count : PySem.W.keepIn K (.ref f_element_count) = true)
    (a_decode_chunk : PySem.W.nsIn K mainGlobals "decode_chunk" = some (some (.ref f_decode_chunk))) (l_decode_chunk : K.lookup f_decode_chunk = some ⟨oc_decode_chunk, od_decode_chunk, .func (PySem.W.fnOf "decode_chunk" "decode_chunk" (defArgs s_decode_chunk) (defBody s_decode_chunk) (defScope s_decode_chunk) .none kV_decode_chunk dc_decode_chunk pm_decode_chunk an_decode_chunk cd_decode_chunk ct_decode_chunk), sl_decode_chunk⟩) (c_decode_chunk : PySem.W.codeIn K cd_decode_chunk "decode_chunk" = true) (k_decode_chunk : PySem.W.keepIn K (.ref f_decode_chunk) = true)
    (a__law_cell : PySem.W.nsIn K mainGlobals "_law_cell" = some (some (.ref f__law_cell))) (l__law_cell : K.lookup f__law_cell = some ⟨oc__law_cell, od__law_cell, .func (PySem.W.fnOf "_law_cell" "_law_cell" (defArgs s__law_cell) (defBody s__law_cell) (defScope s__law_cell) .none kV__law_cell dc__law_cell pm__law_cell an__law_cell cd__law_cell ct__law_cell), sl__law_cell⟩) (c__law_cell : PySem.W.codeIn K cd__law_cell "_law_cell" = true) (k__law_cell : PySem.W.keepIn K (.ref f__law_cell) = true)
    (a__law_draws : PySem.W.nsIn K mainGlobals "_law_draws" = some (some (.ref f__law_draws))) (l__law_draws : K.lookup f__law_draws = some ⟨oc__law_draws, od__law_draws, .func (PySem.W.fnOf "_law_draws" "_law_draws" (defArgs s__law_draws) (defBody s__law_draws) (defScope s__law_draws) .none kV__law_draws dc__law_draws pm__law_draws an__law_draws cd__law_draws ct__law_draws), sl__law_draws⟩) (c__law_draws : PySem.W.codeIn K cd__law_draws "_law_draws" = true) (k__law_draws : PySem.W.keepIn K (.ref f__law_draws) = true)
    (a__law_is_int : PySem.W.nsIn K mainGlobals "_law_is_int" = some (some (.ref f__law_is_int))) (l__law_is_int : K.lookup f__law_is_int = some ⟨oc__law_is_int, od__law_is_int, .func (PySem.W.fnOf "_law_is_int" "_law_is_int" (defArgs s__law_is_int) (defBody s__law_is_int) (defScope s__law_is_int) .none kV__law_is_int dc__law_is_int pm__law_is_int an__law_is_int cd__law_is_int ct__law_is_int), sl__law_is_int⟩) (c__law_is_int : PySem.W.codeIn K cd__law_is_int "_law_is_int" = true) (k__law_is_int : PySem.W.keepIn K (.ref f__law_is_int) = true)
    (a__law_is_number : PySem.W.nsIn K mainGlobals "_law_is_number" = some (some (.ref f__law_is_number))) (l__law_is_number : K.lookup f__law_is_number = some ⟨oc__law_is_number, od__law_is_number, .func (PySem.W.fnOf "_law_is_number" "_law_is_number" (defArgs s__law_is_number) (defBody s__law_is_number) (defScope s__law_is_number) .none kV__law_is_number dc__law_is_number pm__law_is_number an__law_is_number cd__law_is_number ct__law_is_number), sl__law_is_number⟩) (c__law_is_number : PySem.W.codeIn K cd__law_is_number "_law_is_number" = true) (k__law_is_number : PySem.W.keepIn K (.ref f__law_is_number) = true)
    (a__law_low : PySem.W.nsIn K mainGlobals "_law_low" = some (some (.ref f__law_low))) (l__law_low : K.lookup f__law_low = some ⟨oc__law_low, od__law_low, .func (PySem.W.fnOf "_law_low" "_law_low" (defArgs s__law_low) (defBody s__law_low) (defScope s__law_low) .none kV__law_low dc__law_low pm__law_low an__law_low cd__law_low ct__law_low), sl__law_low⟩) (c__law_low : PySem.W.codeIn K cd__law_low "_law_low" = true) (k__law_low : PySem.W.keepIn K (.ref f__law_low) = true)
    (a__law_high : PySem.W.nsIn K mainGlobals "_law_high" = some (some (.ref f__law_high))) (l__law_high : K.lookup f__law_high = some ⟨oc__law_high, od__law_high, .func (PySem.W.fnOf "_law_high" "_law_high" (defArgs s__law_high) (defBody s__law_high) (defScope s__law_high) .none kV__law_high dc__law_high pm__law_high an__law_high cd__law_high ct__law_high), sl__law_high⟩) (c__law_high : PySem.W.codeIn K cd__law_high "_law_high" = true) (k__law_high : PySem.W.keepIn K (.ref f__law_high) = true)
    (a__law_value : PySem.W.nsIn K mainGlobals "_law_value" = some (some (.ref f__law_value))) (l__law_value : K.lookup f__law_value = some ⟨oc__law_value, od__law_value, .func (PySem.W.fnOf "_law_value" "_law_value" (defArgs s__law_value) (defBody s__law_value) (defScope s__law_value) .none kV__law_value dc__law_value pm__law_value an__law_value cd__law_value ct__law_value), sl__law_value⟩) (c__law_value : PySem.W.codeIn K cd__law_value "_law_value" = true) (k__law_value : PySem.W.keepIn K (.ref f__law_value) = true)
    (a__law_kind : PySem.W.nsIn K mainGlobals "_law_kind" = some (some (.ref f__law_kind))) (l__law_kind : K.lookup f__law_kind = some ⟨oc__law_kind, od__law_kind, .func (PySem.W.fnOf "_law_kind" "_law_kind" (defArgs s__law_kind) (defBody s__law_kind) (defScope s__law_kind) .none kV__law_kind dc__law_kind pm__law_kind an__law_kind cd__law_kind ct__law_kind), sl__law_kind⟩) (c__law_kind : PySem.W.codeIn K cd__law_kind "_law_kind" = true) (k__law_kind : PySem.W.keepIn K (.ref f__law_kind) = true)
    (a__law_chain : PySem.W.nsIn K mainGlobals "_law_chain" = some (some (.ref f__law_chain))) (l__law_chain : K.lookup f__law_chain = some ⟨oc__law_chain, od__law_chain, .func (PySem.W.fnOf "_law_chain" "_law_chain" (defArgs s__law_chain) (defBody s__law_chain) (defScope s__law_chain) .none kV__law_chain dc__law_chain pm__law_chain an__law_chain cd__law_chain ct__law_chain), sl__law_chain⟩) (c__law_chain : PySem.W.codeIn K cd__law_chain "_law_chain" = true) (k__law_chain : PySem.W.keepIn K (.ref f__law_chain) = true)
    (a__law_same_ints : PySem.W.nsIn K mainGlobals "_law_same_ints" = some (some (.ref f__law_same_ints))) (l__law_same_ints : K.lookup f__law_same_ints = some ⟨oc__law_same_ints, od__law_same_ints, .func (PySem.W.fnOf "_law_same_ints" "_law_same_ints" (defArgs s__law_same_ints) (defBody s__law_same_ints) (defScope s__law_same_ints) .none kV__law_same_ints dc__law_same_ints pm__law_same_ints an__law_same_ints cd__law_same_ints ct__law_same_ints), sl__law_same_ints⟩) (c__law_same_ints : PySem.W.codeIn K cd__law_same_ints "_law_same_ints" = true) (k__law_same_ints : PySem.W.keepIn K (.ref f__law_same_ints) = true)
    (a__law_stream : PySem.W.nsIn K mainGlobals "_law_stream" = some (some (.ref f__law_stream))) (l__law_stream : K.lookup f__law_stream = some ⟨oc__law_stream, od__law_stream, .func (PySem.W.fnOf "_law_stream" "_law_stream" (defArgs s__law_stream) (defBody s__law_stream) (defScope s__law_stream) .none kV__law_stream dc__law_stream pm__law_stream an__law_stream cd__law_stream ct__law_stream), sl__law_stream⟩) (c__law_stream : PySem.W.codeIn K cd__law_stream "_law_stream" = true) (k__law_stream : PySem.W.keepIn K (.ref f__law_stream) = true)
    (a__law_number_bytes : PySem.W.nsIn K mainGlobals "_law_number_bytes" = some (some (.ref f__law_number_bytes))) (l__law_number_bytes : K.lookup f__law_number_bytes = some ⟨oc__law_number_bytes, od__law_number_bytes, .func (PySem.W.fnOf "_law_number_bytes" "_law_number_bytes" (defArgs s__law_number_bytes) (defBody s__law_number_bytes) (defScope s__law_number_bytes) .none kV__law_number_bytes dc__law_number_bytes pm__law_number_bytes an__law_number_bytes cd__law_number_bytes ct__law_number_bytes), sl__law_number_bytes⟩) (c__law_number_bytes : PySem.W.codeIn K cd__law_number_bytes "_law_number_bytes" = true) (k__law_number_bytes : PySem.W.keepIn K (.ref f__law_number_bytes) = true)
    (a__law_bytes_bytes : PySem.W.nsIn K mainGlobals "_law_bytes_bytes" = some (some (.ref f__law_bytes_bytes))) (l__law_bytes_bytes : K.lookup f__law_bytes_bytes = some ⟨oc__law_bytes_bytes, od__law_bytes_bytes, .func (PySem.W.fnOf "_law_bytes_bytes" "_law_bytes_bytes" (defArgs s__law_bytes_bytes) (defBody s__law_bytes_bytes) (defScope s__law_bytes_bytes) .none kV__law_bytes_bytes dc__law_bytes_bytes pm__law_bytes_bytes an__law_bytes_bytes cd__law_bytes_bytes ct__law_bytes_bytes), sl__law_bytes_bytes⟩) (c__law_bytes_bytes : PySem.W.codeIn K cd__law_bytes_bytes "_law_bytes_bytes" = true) (k__law_bytes_bytes : PySem.W.keepIn K (.ref f__law_bytes_bytes) = true)
    (a__law_many : PySem.W.nsIn K mainGlobals "_law_many" = some (some (.ref f__law_many))) (l__law_many : K.lookup f__law_many = some ⟨oc__law_many, od__law_many, .func (PySem.W.fnOf "_law_many" "_law_many" (defArgs s__law_many) (defBody s__law_many) (defScope s__law_many) .none kV__law_many dc__law_many pm__law_many an__law_many cd__law_many ct__law_many), sl__law_many⟩) (c__law_many : PySem.W.codeIn K cd__law_many "_law_many" = true) (k__law_many : PySem.W.keepIn K (.ref f__law_many) = true)
    (a__law_filter : PySem.W.nsIn K mainGlobals "_law_filter" = some (some (.ref f__law_filter))) (l__law_filter : K.lookup f__law_filter = some ⟨oc__law_filter, od__law_filter, .func (PySem.W.fnOf "_law_filter" "_law_filter" (defArgs s__law_filter) (defBody s__law_filter) (defScope s__law_filter) .none kV__law_filter dc__law_filter pm__law_filter an__law_filter cd__law_filter ct__law_filter), sl__law_filter⟩) (c__law_filter : PySem.W.codeIn K cd__law_filter "_law_filter" = true) (k__law_filter : PySem.W.keepIn K (.ref f__law_filter) = true)
    (a__law_back : PySem.W.nsIn K mainGlobals "_law_back" = some (some (.ref f__law_back))) (l__law_back : K.lookup f__law_back = some ⟨oc__law_back, od__law_back, .func (PySem.W.fnOf "_law_back" "_law_back" (defArgs s__law_back) (defBody s__law_back) (defScope s__law_back) .none kV__law_back dc__law_back pm__law_back an__law_back cd__law_back ct__law_back), sl__law_back⟩) (c__law_back : PySem.W.codeIn K cd__law_back "_law_back" = true) (k__law_back : PySem.W.keepIn K (.ref f__law_back) = true)
    (a__law_stored : PySem.W.nsIn K mainGlobals "_law_stored" = some (some (.ref f__law_stored))) (l__law_stored : K.lookup f__law_stored = some ⟨oc__law_stored, od__law_stored, .func (PySem.W.fnOf "_law_stored" "_law_stored" (defArgs s__law_stored) (defBody s__law_stored) (defScope s__law_stored) .none kV__law_stored dc__law_stored pm__law_stored an__law_stored cd__law_stored ct__law_stored), sl__law_stored⟩) (c__law_stored : PySem.W.codeIn K cd__law_stored "_law_stored" = true) (k__law_stored : PySem.W.keepIn K (.ref f__law_stored) = true)
    (a__law_loaded : PySem.W.nsIn K mainGlobals "_law_loaded" = some (some (.ref f__law_loaded))) (l__law_loaded : K.lookup f__law_loaded = some ⟨oc__law_loaded, od__law_loaded, .func (PySem.W.fnOf "_law_loaded" "_law_loaded" (defArgs s__law_loaded) (defBody s__law_loaded) (defScope s__law_loaded) .none kV__law_loaded dc__law_loaded pm__law_loaded an__law_loaded cd__law_loaded ct__law_loaded), sl__law_loaded⟩) (c__law_loaded : PySem.W.codeIn K cd__law_loaded "_law_loaded" = true) (k__law_loaded : PySem.W.keepIn K (.ref f__law_loaded) = true)
    (a__law_chunk_content : PySem.W.nsIn K mainGlobals "_law_chunk_content" = some (some (.ref f__law_chunk_content))) (l__law_chunk_content : K.lookup f__law_chunk_content = some ⟨oc__law_chunk_content, od__law_chunk_content, .func (PySem.W.fnOf "_law_chunk_content" "_law_chunk_content" (defArgs s__law_chunk_content) (defBody s__law_chunk_content) (defScope s__law_chunk_content) .none kV__law_chunk_content dc__law_chunk_content pm__law_chunk_content an__law_chunk_content cd__law_chunk_content ct__law_chunk_content), sl__law_chunk_content⟩) (c__law_chunk_content : PySem.W.codeIn K cd__law_chunk_content "_law_chunk_content" = true) (k__law_chunk_content : PySem.W.keepIn K (.ref f__law_chunk_content) = true)
    (a__law_read_bytes : PySem.W.nsIn K mainGlobals "_law_read_bytes" = some (some (.ref f__law_read_bytes))) (l__law_read_bytes : K.lookup f__law_read_bytes = some ⟨oc__law_read_bytes, od__law_read_bytes, .func (PySem.W.fnOf "_law_read_bytes" "_law_read_bytes" (defArgs s__law_read_bytes) (defBody s__law_read_bytes) (defScope s__law_read_bytes) .none kV__law_read_bytes dc__law_read_bytes pm__law_read_bytes an__law_read_bytes cd__law_read_bytes ct__law_read_bytes), sl__law_read_bytes⟩) (c__law_read_bytes : PySem.W.codeIn K cd__law_read_bytes "_law_read_bytes" = true) (k__law_read_bytes : PySem.W.keepIn K (.ref f__law_read_bytes) = true)
    (a__law_chunk_values : PySem.W.nsIn K mainGlobals "_law_chunk_values" = some (some (.ref f__law_chunk_values))) (l__law_chunk_values : K.lookup f__law_chunk_values = some ⟨oc__law_chunk_values, od__law_chunk_values, .func (PySem.W.fnOf "_law_chunk_values" "_law_chunk_values" (defArgs s__law_chunk_values) (defBody s__law_chunk_values) (defScope s__law_chunk_values) .none kV__law_chunk_values dc__law_chunk_values pm__law_chunk_values an__law_chunk_values cd__law_chunk_values ct__law_chunk_values), sl__law_chunk_values⟩) (c__law_chunk_values : PySem.W.codeIn K cd__law_chunk_values "_law_chunk_values" = true) (k__law_chunk_values : PySem.W.keepIn K (.ref f__law_chunk_values) = true)
    (a__law_chunk_shape : PySem.W.nsIn K mainGlobals "_law_chunk_shape" = some (some (.ref f__law_chunk_shape))) (l__law_chunk_shape : K.lookup f__law_chunk_shape = some ⟨oc__law_chunk_shape, od__law_chunk_shape, .func (PySem.W.fnOf "_law_chunk_shape" "_law_chunk_shape" (defArgs s__law_chunk_shape) (defBody s__law_chunk_shape) (defScope s__law_chunk_shape) .none kV__law_chunk_shape dc__law_chunk_shape pm__law_chunk_shape an__law_chunk_shape cd__law_chunk_shape ct__law_chunk_shape), sl__law_chunk_shape⟩) (c__law_chunk_shape : PySem.W.codeIn K cd__law_chunk_shape "_law_chunk_shape" = true) (k__law_chunk_shape : PySem.W.keepIn K (.ref f__law_chunk_shape) = true)
    (a_law : PySem.W.nsIn K mainGlobals "law" = some (some (.ref f_law))) (l_law : K.lookup f_law = some ⟨oc_law, od_law, .func (PySem.W.fnOf "law" "law" (defArgs s_law) (defBody s_law) (defScope s_law) .none kV_law dc_law pm_law an_law cd_law ct_law), sl_law⟩) (c_law : PySem.W.codeIn K cd_law "law" = true) (k_law : PySem.W.keepIn K (.ref f_law) = true)
    (a_K_Layout : PySem.W.nsIn K mainGlobals "Layout" = some (some (.ref K_Layout))) (pg_K_Layout : PySem.W.plainGet K K_Layout Str.empty = true) (hd_K_Layout : PySem.W.hasDictIn K K_Layout = true) (po_K_Layout : PySem.W.plainOver K K_Layout = true) (sa_K_Layout : PySem.W.findIn K (.ref K_Layout) "__setattr__" = some (some (.builtin "object.__setattr__")))
    (n_K_Layout_kind : PySem.W.findIn K (.ref K_Layout) "kind" = some none)
    (n_K_Layout_chunk_shape : PySem.W.findIn K (.ref K_Layout) "chunk_shape" = some none)
    (n_K_Layout_fill : PySem.W.findIn K (.ref K_Layout) "fill" = some none)
    (n_K_Layout_filters : PySem.W.findIn K (.ref K_Layout) "filters" = some none)
    (a_Layout___init__ : PySem.W.findIn K (.ref K_Layout) "__init__" = some (some (.ref f_Layout___init__))) (i_Layout___init__ : PySem.W.isFn K (.ref f_Layout___init__) = true) (l_Layout___init__ : K.lookup f_Layout___init__ = some ⟨oc_Layout___init__, od_Layout___init__, .func (PySem.W.fnOf "__init__" "Layout.__init__" (defArgs s_Layout___init__) (defBody s_Layout___init__) (defScope s_Layout___init__) .none kV_Layout___init__ dc_Layout___init__ pm_Layout___init__ an_Layout___init__ cd_Layout___init__ ct_Layout___init__), sl_Layout___init__⟩) (c_Layout___init__ : PySem.W.codeIn K cd_Layout___init__ "Layout.__init__" = true) (k_Layout___init__ : PySem.W.keepIn K (.ref f_Layout___init__) = true)
    (mk_K_Layout : PySem.W.makesIn K K_Layout = true) (kc_K_Layout : PySem.W.keepIn K (.ref K_Layout) = true)
    (ea_TesseraError : PySem.W.nsIn K mainGlobals "TesseraError" = some (some (.ref K_TesseraError)))
    (ega_TesseraError : PySem.W.findIn K (.ref K_TesseraError) "__getattribute__" = some (some (.builtin "BaseException.__getattribute__")))
    (egg_TesseraError : PySem.W.findIn K (.ref K_TesseraError) "__getattr__" = some none)
    (eex_TesseraError : PySem.W.subIn K (.ref K_TesseraError) (.type "BaseException") = some true)
    (ehd_TesseraError : PySem.W.hasDictIn K K_TesseraError = true)
    (eha_TesseraError : PySem.W.findIn K (.ref K_TesseraError) "__class__" = some (some (.builtin "object.__class__")))
    (ehm_TesseraError : PySem.W.mroIn K K_TesseraError (.type "object") = some true)
    (ety_TesseraError : PySem.W.typeIn K (.ref K_TesseraError) = some (.type "type"))
    (ea_Unreadable : PySem.W.nsIn K mainGlobals "Unreadable" = some (some (.ref K_Unreadable)))
    (ega_Unreadable : PySem.W.findIn K (.ref K_Unreadable) "__getattribute__" = some (some (.builtin "BaseException.__getattribute__")))
    (egg_Unreadable : PySem.W.findIn K (.ref K_Unreadable) "__getattr__" = some none)
    (eex_Unreadable : PySem.W.subIn K (.ref K_Unreadable) (.type "BaseException") = some true)
    (ehd_Unreadable : PySem.W.hasDictIn K K_Unreadable = true)
    (eha_Unreadable : PySem.W.findIn K (.ref K_Unreadable) "__class__" = some (some (.builtin "object.__class__")))
    (ehm_Unreadable : PySem.W.mroIn K K_Unreadable (.type "object") = some true)
    (ety_Unreadable : PySem.W.typeIn K (.ref K_Unreadable) = some (.type "type"))
    (ea_BadFilter : PySem.W.nsIn K mainGlobals "BadFilter" = some (some (.ref K_BadFilter)))
    (ega_BadFilter : PySem.W.findIn K (.ref K_BadFilter) "__getattribute__" = some (some (.builtin "BaseException.__getattribute__")))
    (egg_BadFilter : PySem.W.findIn K (.ref K_BadFilter) "__getattr__" = some none)
    (eex_BadFilter : PySem.W.subIn K (.ref K_BadFilter) (.type "BaseException") = some true)
    (ehd_BadFilter : PySem.W.hasDictIn K K_BadFilter = true)
    (eha_BadFilter : PySem.W.findIn K (.ref K_BadFilter) "__class__" = some (some (.builtin "object.__class__")))
    (ehm_BadFilter : PySem.W.mroIn K K_BadFilter (.type "object") = some true)
    (ety_BadFilter : PySem.W.typeIn K (.ref K_BadFilter) = some (.type "type"))
    (egn : PySem.W.specialIn K (.builtin "object.__class__") "__get__" = some (some (.builtin "getset_descriptor.__get__"))) (egt : PySem.W.takesIn K (.builtin "object.__class__") = some true)
    (est : PySem.W.nsIn K PySem.cStatics "thirdparty.any" = some none)
    (exl_Unreadable : K.lookup K_Unreadable = some (excClassObj nm_Unreadable qn_Unreadable K_Unreadable nn_Unreadable bs_Unreadable bm_Unreadable true sn_Unreadable sb_Unreadable ab_Unreadable co_Unreadable dd_Unreadable m0_Unreadable m1_Unreadable m2_Unreadable m3_Unreadable m5_Unreadable "ValueError.__new__"))
    (ebm_Unreadable : PySem.HandSPX.refsVE bm_Unreadable = true)
    (esa_Unreadable : PySem.W.findIn K (.ref K_Unreadable) "__setattr__" = some (some (.builtin "object.__setattr__")))
    (ekp_Unreadable : PySem.W.keepIn K (.ref K_Unreadable) = true)
    (esi_Unreadable : PySem.W.ks_superIn K K_Unreadable K_Unreadable "__init__" = some (some (.builtin "ValueError.__init__")))
    (esv_Unreadable : PySem.W.subIn K (.ref K_Unreadable) (.type "ValueError") = some true)
    (ese_Unreadable : PySem.W.mroIn K K_Unreadable (.ref K_Unreadable) = some true)
    (ein_Unreadable : PySem.W.findIn K (.ref K_Unreadable) "__init__" = some (some (.ref if_Unreadable)))
    (eit_Unreadable : PySem.W.typeIn K (.ref if_Unreadable) = some (.type "function"))
    (eil_Unreadable : K.lookup if_Unreadable = some ⟨ioc_Unreadable, iod_Unreadable, .func (PySem.W.fnX "__init__" "Unreadable.__init__" (defArgs s_Unreadable___init__) (defBody s_Unreadable___init__) (defScope s_Unreadable___init__) [("__class__", icc_Unreadable)] .none ikV_Unreadable idc_Unreadable ipm_Unreadable ian_Unreadable (.ref icd_Unreadable) ict_Unreadable), isl_Unreadable⟩)
    (eic_Unreadable : PySem.W.codeIn K (.ref icd_Unreadable) "Unreadable.__init__" = true)
    (ecc_Unreadable : K.lookup icc_Unreadable = some ⟨jc_Unreadable, jd_Unreadable, .cell (some (.ref K_Unreadable)), js_Unreadable⟩)
    (ecd_Unreadable : K.lookup icd_Unreadable = some ⟨kc_Unreadable, kd_Unreadable, .fields kf_Unreadable, ks_Unreadable⟩)
    (eft_Unreadable : kf_Unreadable[2]? = some (.str "/claim/cut.py" kt_Unreadable))
    (en_index_Unreadable : PySem.W.findIn K (.ref K_Unreadable) "index" = some none)
    (exl_BadFilter : K.lookup K_BadFilter = some (excClassObj nm_BadFilter qn_BadFilter K_BadFilter nn_BadFilter bs_BadFilter bm_BadFilter true sn_BadFilter sb_BadFilter ab_BadFilter co_BadFilter dd_BadFilter m0_BadFilter m1_BadFilter m2_BadFilter m3_BadFilter m5_BadFilter "ValueError.__new__"))
    (ebm_BadFilter : PySem.HandSPX.refsVE bm_BadFilter = true)
    (esa_BadFilter : PySem.W.findIn K (.ref K_BadFilter) "__setattr__" = some (some (.builtin "object.__setattr__")))
    (ekp_BadFilter : PySem.W.keepIn K (.ref K_BadFilter) = true)
    (esi_BadFilter : PySem.W.ks_superIn K K_BadFilter K_BadFilter "__init__" = some (some (.builtin "ValueError.__init__")))
    (esv_BadFilter : PySem.W.subIn K (.ref K_BadFilter) (.type "ValueError") = some true)
    (ese_BadFilter : PySem.W.mroIn K K_BadFilter (.ref K_BadFilter) = some true)
    (ein_BadFilter : PySem.W.findIn K (.ref K_BadFilter) "__init__" = some (some (.ref if_BadFilter)))
    (eit_BadFilter : PySem.W.typeIn K (.ref if_BadFilter) = some (.type "function"))
    (eil_BadFilter : K.lookup if_BadFilter = some ⟨ioc_BadFilter, iod_BadFilter, .func (PySem.W.fnX "__init__" "BadFilter.__init__" (defArgs s_BadFilter___init__) (defBody s_BadFilter___init__) (defScope s_BadFilter___init__) [("__class__", icc_BadFilter)] .none ikV_BadFilter idc_BadFilter ipm_BadFilter ian_BadFilter (.ref icd_BadFilter) ict_BadFilter), isl_BadFilter⟩)
    (eic_BadFilter : PySem.W.codeIn K (.ref icd_BadFilter) "BadFilter.__init__" = true)
    (ecc_BadFilter : K.lookup icc_BadFilter = some ⟨jc_BadFilter, jd_BadFilter, .cell (some (.ref K_BadFilter)), js_BadFilter⟩)
    (ecd_BadFilter : K.lookup icd_BadFilter = some ⟨kc_BadFilter, kd_BadFilter, .fields kf_BadFilter, ks_BadFilter⟩)
    (eft_BadFilter : kf_BadFilter[2]? = some (.str "/claim/cut.py" kt_BadFilter))
    (en_name_BadFilter : PySem.W.findIn K (.ref K_BadFilter) "name" = some none)
    (es_TesseraError_TesseraError : PySem.W.subIn K (.ref K_TesseraError) (.ref K_TesseraError) = some true)
    (es_TesseraError_Unreadable : PySem.W.subIn K (.ref K_TesseraError) (.ref K_Unreadable) = some false)
    (es_TesseraError_BadFilter : PySem.W.subIn K (.ref K_TesseraError) (.ref K_BadFilter) = some false)
    (es_Unreadable_TesseraError : PySem.W.subIn K (.ref K_Unreadable) (.ref K_TesseraError) = some true)
    (es_Unreadable_Unreadable : PySem.W.subIn K (.ref K_Unreadable) (.ref K_Unreadable) = some true)
    (es_Unreadable_BadFilter : PySem.W.subIn K (.ref K_Unreadable) (.ref K_BadFilter) = some false)
    (es_BadFilter_TesseraError : PySem.W.subIn K (.ref K_BadFilter) (.ref K_TesseraError) = some true)
    (es_BadFilter_Unreadable : PySem.W.subIn K (.ref K_BadFilter) (.ref K_Unreadable) = some false)
    (es_BadFilter_BadFilter : PySem.W.subIn K (.ref K_BadFilter) (.ref K_BadFilter) = some true)
    (z_BASE : PySem.W.nsIn K mainGlobals "BASE" = some (some (.int 125 t_BASE)))
    (z_BEYOND_TOLD : PySem.W.nsIn K mainGlobals "BEYOND_TOLD" = some (some (.int 1000000000000000000000000000000 t_BEYOND_TOLD)))
    (z_ESCAPE : PySem.W.nsIn K mainGlobals "ESCAPE" = some (some (.int 249 t_ESCAPE)))
    (z_HIGHEST_BYTE : PySem.W.nsIn K mainGlobals "HIGHEST_BYTE" = some (some (.int 249 t_HIGHEST_BYTE)))
    (z_HIGHEST_ESCAPED : PySem.W.nsIn K mainGlobals "HIGHEST_ESCAPED" = some (some (.int 6 t_HIGHEST_ESCAPED)))
    (z_LONGEST_RUN : PySem.W.nsIn K mainGlobals "LONGEST_RUN" = some (some (.int 255 t_LONGEST_RUN)))
    (z_MOST_ZEROS : PySem.W.nsIn K mainGlobals "MOST_ZEROS" = some (some (.int 65535 t_MOST_ZEROS)))
    (z_abs : PySem.W.nsIn K mainGlobals "abs" = some none)
    (z_bool : PySem.W.nsIn K mainGlobals "bool" = some none)
    (z_int : PySem.W.nsIn K mainGlobals "int" = some none)
    (z_isinstance : PySem.W.nsIn K mainGlobals "isinstance" = some none)
    (z_len : PySem.W.nsIn K mainGlobals "len" = some none)
    (z_list : PySem.W.nsIn K mainGlobals "list" = some none)
    (z_max : PySem.W.nsIn K mainGlobals "max" = some none)
    (z_min : PySem.W.nsIn K mainGlobals "min" = some none)
    (z_range : PySem.W.nsIn K mainGlobals "range" = some none)
    (z_reversed : PySem.W.nsIn K mainGlobals "reversed" = some none)
    (z_str : PySem.W.nsIn K mainGlobals "str" = some none)
    (z_super : PySem.W.nsIn K mainGlobals "super" = some none)
    (z_tuple : PySem.W.nsIn K mainGlobals "tuple" = some none)
    (z_zip : PySem.W.nsIn K mainGlobals "zip" = some none) : Top K mg :=
  { f_told := ⟨_, _, fun_mk (st := s_told) l_told c_told k_told, PySem.W.mg_of X G a_told, (fun_mk (st := s_told) l_told c_told k_told).binds (ps := ["thing"]) fun _ _ _ _ _ _ us hl => match us, hl with | [_], _ => rfl⟩,
    f_undo_filter := ⟨_, _, fun_mk (st := s_undo_filter) l_undo_filter c_undo_filter k_undo_filter, PySem.W.mg_of X G a_undo_filter, (fun_mk (st := s_undo_filter) l_undo_filter c_undo_filter k_undo_filter).binds (ps := ["name", "values", "size"]) fun _ _ _ _ _ _ us hl => match us, hl with | [_, _, _], _ => rfl⟩,
    f_undo_chain := ⟨_, _, fun_mk (st := s_undo_chain) l_undo_chain c_undo_chain k_undo_chain, PySem.W.mg_of X G a_undo_chain, (fun_mk (st := s_undo_chain) l_undo_chain c_undo_chain k_undo_chain).binds (ps := ["names", "values", "size"]) fun _ _ _ _ _ _ us hl => match us, hl with | [_, _, _], _ => rfl⟩,
    f_undo_delta := ⟨_, _, fun_mk (st := s_undo_delta) l_undo_delta c_undo_delta k_undo_delta, PySem.W.mg_of X G a_undo_delta, (fun_mk (st := s_undo_delta) l_undo_delta c_undo_delta k_undo_delta).binds (ps := ["values"]) fun _ _ _ _ _ _ us hl => match us, hl with | [_], _ => rfl⟩,
    f_plane_order := ⟨_, _, fun_mk (st := s_plane_order) l_plane_order c_plane_order k_plane_order, PySem.W.mg_of X G a_plane_order, (fun_mk (st := s_plane_order) l_plane_order c_plane_order k_plane_order).binds (ps := ["count", "size"]) fun _ _ _ _ _ _ us hl => match us, hl with | [_, _], _ => rfl⟩,
    f_undo_planes := ⟨_, _, fun_mk (st := s_undo_planes) l_undo_planes c_undo_planes k_undo_planes, PySem.W.mg_of X G a_undo_planes, (fun_mk (st := s_undo_planes) l_undo_planes c_undo_planes k_undo_planes).binds (ps := ["values", "size"]) fun _ _ _ _ _ _ us hl => match us, hl with | [_, _], _ => rfl⟩,
    f_undo_runs := ⟨_, _, fun_mk (st := s_undo_runs) l_undo_runs c_undo_runs k_undo_runs, PySem.W.mg_of X G a_undo_runs, (fun_mk (st := s_undo_runs) l_undo_runs c_undo_runs k_undo_runs).binds (ps := ["values"]) fun _ _ _ _ _ _ us hl => match us, hl with | [_], _ => rfl⟩,
    f_undo_zeros := ⟨_, _, fun_mk (st := s_undo_zeros) l_undo_zeros c_undo_zeros k_undo_zeros, PySem.W.mg_of X G a_undo_zeros, (fun_mk (st := s_undo_zeros) l_undo_zeros c_undo_zeros k_undo_zeros).binds (ps := ["values"]) fun _ _ _ _ _ _ us hl => match us, hl with | [_], _ => rfl⟩,
    f_width := ⟨_, _, fun_mk (st := s_width) l_width c_width k_width, PySem.W.mg_of X G a_width, (fun_mk (st := s_width) l_width c_width k_width).binds (ps := ["kind"]) fun _ _ _ _ _ _ us hl => match us, hl with | [_], _ => rfl⟩,
    f_value_count := ⟨_, _, fun_mk (st := s_value_count) l_value_count c_value_count k_value_count, PySem.W.mg_of X G a_value_count, (fun_mk (st := s_value_count) l_value_count c_value_count k_value_count).binds (ps := ["kind"]) fun _ _ _ _ _ _ us hl => match us, hl with | [_], _ => rfl⟩,
    f_least := ⟨_, _, fun_mk (st := s_least) l_least c_least k_least, PySem.W.mg_of X G a_least, (fun_mk (st := s_least) l_least c_least k_least).binds (ps := ["kind"]) fun _ _ _ _ _ _ us hl => match us, hl with | [_], _ => rfl⟩,
    f_greatest := ⟨_, _, fun_mk (st := s_greatest) l_greatest c_greatest k_greatest, PySem.W.mg_of X G a_greatest, (fun_mk (st := s_greatest) l_greatest c_greatest k_greatest).binds (ps := ["kind"]) fun _ _ _ _ _ _ us hl => match us, hl with | [_], _ => rfl⟩,
    f_load_values := ⟨_, _, fun_mk (st := s_load_values) l_load_values c_load_values k_load_values, PySem.W.mg_of X G a_load_values, (fun_mk (st := s_load_values) l_load_values c_load_values k_load_values).binds (ps := ["kind", "stored"]) fun _ _ _ _ _ _ us hl => match us, hl with | [_, _], _ => rfl⟩,
    f_stands_at := ⟨_, _, fun_mk (st := s_stands_at) l_stands_at c_stands_at k_stands_at, PySem.W.mg_of X G a_stands_at, (fun_mk (st := s_stands_at) l_stands_at c_stands_at k_stands_at).binds (ps := ["values", "index", "highest"]) fun _ _ _ _ _ _ us hl => match us, hl with | [_, _, _], _ => rfl⟩,
    f_read_number := ⟨_, _, fun_mk (st := s_read_number) l_read_number c_read_number k_read_number, PySem.W.mg_of X G a_read_number, (fun_mk (st := s_read_number) l_read_number c_read_number k_read_number).binds (ps := ["values", "index"]) fun _ _ _ _ _ _ us hl => match us, hl with | [_, _], _ => rfl⟩,
    f_read_byte := ⟨_, _, fun_mk (st := s_read_byte) l_read_byte c_read_byte k_read_byte, PySem.W.mg_of X G a_read_byte, (fun_mk (st := s_read_byte) l_read_byte c_read_byte k_read_byte).binds (ps := ["values", "index"]) fun _ _ _ _ _ _ us hl => match us, hl with | [_, _], _ => rfl⟩,
    f_read_list := ⟨_, _, fun_mk (st := s_read_list) l_read_list c_read_list k_read_list, PySem.W.mg_of X G a_read_list, (fun_mk (st := s_read_list) l_read_list c_read_list k_read_list).binds (ps := ["values", "index", "read_one"]) fun _ _ _ _ _ _ us hl => match us, hl with | [_, _, _], _ => rfl⟩,
    f_read_bytes := ⟨_, _, fun_mk (st := s_read_bytes) l_read_bytes c_read_bytes k_read_bytes, PySem.W.mg_of X G a_read_bytes, (fun_mk (st := s_read_bytes) l_read_bytes c_read_bytes k_read_bytes).binds (ps := ["values", "index"]) fun _ _ _ _ _ _ us hl => match us, hl with | [_, _], _ => rfl⟩,
    f_element_count := ⟨_, _, fun_mk (st := s_element_count) l_element_count c_element_count k_element_count, PySem.W.mg_of X G a_element_count, (fun_mk (st := s_element_count) l_element_count c_element_count k_element_count).binds (ps := ["shape"]) fun _ _ _ _ _ _ us hl => match us, hl with | [_], _ => rfl⟩,
    f_decode_chunk := ⟨_, _, fun_mk (st := s_decode_chunk) l_decode_chunk c_decode_chunk k_decode_chunk, PySem.W.mg_of X G a_decode_chunk, (fun_mk (st := s_decode_chunk) l_decode_chunk c_decode_chunk k_decode_chunk).binds (ps := ["layout", "content"]) fun _ _ _ _ _ _ us hl => match us, hl with | [_, _], _ => rfl⟩,
    f__law_cell := ⟨_, _, fun_mk (st := s__law_cell) l__law_cell c__law_cell k__law_cell, PySem.W.mg_of X G a__law_cell, (fun_mk (st := s__law_cell) l__law_cell c__law_cell k__law_cell).binds (ps := ["script", "k"]) fun _ _ _ _ _ _ us hl => match us, hl with | [_, _], _ => rfl⟩,
    f__law_draws := ⟨_, _, fun_mk (st := s__law_draws) l__law_draws c__law_draws k__law_draws, PySem.W.mg_of X G a__law_draws, (fun_mk (st := s__law_draws) l__law_draws c__law_draws k__law_draws).binds (ps := ["cell", "count"]) fun _ _ _ _ _ _ us hl => match us, hl with | [_, _], _ => rfl⟩,
    f__law_is_int := ⟨_, _, fun_mk (st := s__law_is_int) l__law_is_int c__law_is_int k__law_is_int, PySem.W.mg_of X G a__law_is_int, (fun_mk (st := s__law_is_int) l__law_is_int c__law_is_int k__law_is_int).binds (ps := ["x"]) fun _ _ _ _ _ _ us hl => match us, hl with | [_], _ => rfl⟩,
    f__law_is_number := ⟨_, _, fun_mk (st := s__law_is_number) l__law_is_number c__law_is_number k__law_is_number, PySem.W.mg_of X G a__law_is_number, (fun_mk (st := s__law_is_number) l__law_is_number c__law_is_number k__law_is_number).binds (ps := ["x", "due"]) fun _ _ _ _ _ _ us hl => match us, hl with | [_, _], _ => rfl⟩,
    f__law_low := ⟨_, _, fun_mk (st := s__law_low) l__law_low c__law_low k__law_low, PySem.W.mg_of X G a__law_low, (fun_mk (st := s__law_low) l__law_low c__law_low k__law_low).binds (ps := ["kind"]) fun _ _ _ _ _ _ us hl => match us, hl with | [_], _ => rfl⟩,
    f__law_high := ⟨_, _, fun_mk (st := s__law_high) l__law_high c__law_high k__law_high, PySem.W.mg_of X G a__law_high, (fun_mk (st := s__law_high) l__law_high c__law_high k__law_high).binds (ps := ["kind"]) fun _ _ _ _ _ _ us hl => match us, hl with | [_], _ => rfl⟩,
    f__law_value := ⟨_, _, fun_mk (st := s__law_value) l__law_value c__law_value k__law_value, PySem.W.mg_of X G a__law_value, (fun_mk (st := s__law_value) l__law_value c__law_value k__law_value).binds (ps := ["kind", "draw"]) fun _ _ _ _ _ _ us hl => match us, hl with | [_, _], _ => rfl⟩,
    f__law_kind := ⟨_, _, fun_mk (st := s__law_kind) l__law_kind c__law_kind k__law_kind, PySem.W.mg_of X G a__law_kind, (fun_mk (st := s__law_kind) l__law_kind c__law_kind k__law_kind).binds (ps := ["draw"]) fun _ _ _ _ _ _ us hl => match us, hl with | [_], _ => rfl⟩,
    f__law_chain := ⟨_, _, fun_mk (st := s__law_chain) l__law_chain c__law_chain k__law_chain, PySem.W.mg_of X G a__law_chain, (fun_mk (st := s__law_chain) l__law_chain c__law_chain k__law_chain).binds (ps := ["draw"]) fun _ _ _ _ _ _ us hl => match us, hl with | [_], _ => rfl⟩,
    f__law_same_ints := ⟨_, _, fun_mk (st := s__law_same_ints) l__law_same_ints c__law_same_ints k__law_same_ints, PySem.W.mg_of X G a__law_same_ints, (fun_mk (st := s__law_same_ints) l__law_same_ints c__law_same_ints k__law_same_ints).binds (ps := ["x", "due"]) fun _ _ _ _ _ _ us hl => match us, hl with | [_, _], _ => rfl⟩,
    f__law_stream := ⟨_, _, fun_mk (st := s__law_stream) l__law_stream c__law_stream k__law_stream, PySem.W.mg_of X G a__law_stream, (fun_mk (st := s__law_stream) l__law_stream c__law_stream k__law_stream).binds (ps := ["script", "count"]) fun _ _ _ _ _ _ us hl => match us, hl with | [_, _], _ => rfl⟩,
    f__law_number_bytes := ⟨_, _, fun_mk (st := s__law_number_bytes) l__law_number_bytes c__law_number_bytes k__law_number_bytes, PySem.W.mg_of X G a__law_number_bytes, (fun_mk (st := s__law_number_bytes) l__law_number_bytes c__law_number_bytes k__law_number_bytes).binds (ps := ["number"]) fun _ _ _ _ _ _ us hl => match us, hl with | [_], _ => rfl⟩,
    f__law_bytes_bytes := ⟨_, _, fun_mk (st := s__law_bytes_bytes) l__law_bytes_bytes c__law_bytes_bytes k__law_bytes_bytes, PySem.W.mg_of X G a__law_bytes_bytes, (fun_mk (st := s__law_bytes_bytes) l__law_bytes_bytes c__law_bytes_bytes k__law_bytes_bytes).binds (ps := ["values"]) fun _ _ _ _ _ _ us hl => match us, hl with | [_], _ => rfl⟩,
    f__law_many := ⟨_, _, fun_mk (st := s__law_many) l__law_many c__law_many k__law_many, PySem.W.mg_of X G a__law_many, (fun_mk (st := s__law_many) l__law_many c__law_many k__law_many).binds (ps := ["shape"]) fun _ _ _ _ _ _ us hl => match us, hl with | [_], _ => rfl⟩,
    f__law_filter := ⟨_, _, fun_mk (st := s__law_filter) l__law_filter c__law_filter k__law_filter, PySem.W.mg_of X G a__law_filter, (fun_mk (st := s__law_filter) l__law_filter c__law_filter k__law_filter).binds (ps := ["name", "values", "size"]) fun _ _ _ _ _ _ us hl => match us, hl with | [_, _, _], _ => rfl⟩,
    f__law_back := ⟨_, _, fun_mk (st := s__law_back) l__law_back c__law_back k__law_back, PySem.W.mg_of X G a__law_back, (fun_mk (st := s__law_back) l__law_back c__law_back k__law_back).binds (ps := ["name", "values", "size"]) fun _ _ _ _ _ _ us hl => match us, hl with | [_, _, _], _ => rfl⟩,
    f__law_stored := ⟨_, _, fun_mk (st := s__law_stored) l__law_stored c__law_stored k__law_stored, PySem.W.mg_of X G a__law_stored, (fun_mk (st := s__law_stored) l__law_stored c__law_stored k__law_stored).binds (ps := ["kind", "values"]) fun _ _ _ _ _ _ us hl => match us, hl with | [_, _], _ => rfl⟩,
    f__law_loaded := ⟨_, _, fun_mk (st := s__law_loaded) l__law_loaded c__law_loaded k__law_loaded, PySem.W.mg_of X G a__law_loaded, (fun_mk (st := s__law_loaded) l__law_loaded c__law_loaded k__law_loaded).binds (ps := ["kind", "stored"]) fun _ _ _ _ _ _ us hl => match us, hl with | [_, _], _ => rfl⟩,
    f__law_chunk_content := ⟨_, _, fun_mk (st := s__law_chunk_content) l__law_chunk_content c__law_chunk_content k__law_chunk_content, PySem.W.mg_of X G a__law_chunk_content, (fun_mk (st := s__law_chunk_content) l__law_chunk_content c__law_chunk_content k__law_chunk_content).binds (ps := ["kind", "filters", "values"]) fun _ _ _ _ _ _ us hl => match us, hl with | [_, _, _], _ => rfl⟩,
    f__law_read_bytes := ⟨_, _, fun_mk (st := s__law_read_bytes) l__law_read_bytes c__law_read_bytes k__law_read_bytes, PySem.W.mg_of X G a__law_read_bytes, (fun_mk (st := s__law_read_bytes) l__law_read_bytes c__law_read_bytes k__law_read_bytes).binds (ps := ["content"]) fun _ _ _ _ _ _ us hl => match us, hl with | [_], _ => rfl⟩,
    f__law_chunk_values := ⟨_, _, fun_mk (st := s__law_chunk_values) l__law_chunk_values c__law_chunk_values k__law_chunk_values, PySem.W.mg_of X G a__law_chunk_values, (fun_mk (st := s__law_chunk_values) l__law_chunk_values c__law_chunk_values k__law_chunk_values).binds (ps := ["kind", "filters", "many", "content"]) fun _ _ _ _ _ _ us hl => match us, hl with | [_, _, _, _], _ => rfl⟩,
    f__law_chunk_shape := ⟨_, _, fun_mk (st := s__law_chunk_shape) l__law_chunk_shape c__law_chunk_shape k__law_chunk_shape, PySem.W.mg_of X G a__law_chunk_shape, (fun_mk (st := s__law_chunk_shape) l__law_chunk_shape c__law_chunk_shape k__law_chunk_shape).binds (ps := ["draws", "at", "dimensions"]) fun _ _ _ _ _ _ us hl => match us, hl with | [_, _, _], _ => rfl⟩,
    f_law := ⟨_, _, fun_mk (st := s_law) l_law c_law k_law, PySem.W.mg_of X G a_law, (fun_mk (st := s_law) l_law c_law k_law).binds (ps := ["script"]) fun _ _ _ _ _ _ us hl => match us, hl with | [_], _ => rfl⟩,
    c_Layout := ⟨K_Layout, { cl := ⟨pg_K_Layout, hd_K_Layout, po_K_Layout, sa_K_Layout⟩, at_ := PySem.W.mg_of X G a_K_Layout, a_kind := n_K_Layout_kind, a_chunk_shape := n_K_Layout_chunk_shape, a_fill := n_K_Layout_fill, a_filters := n_K_Layout_filters, i_ := ⟨_, _, fun_mk (st := s_Layout___init__) l_Layout___init__ c_Layout___init__ k_Layout___init__, ⟨mk_K_Layout, a_Layout___init__, i_Layout___init__, kc_K_Layout⟩, (fun_mk (st := s_Layout___init__) l_Layout___init__ c_Layout___init__ k_Layout___init__).binds (ps := ["self", "kind", "chunk_shape", "fill", "filters"]) fun _ _ _ _ _ _ us hl => match us, hl with | [_, _, _, _, _], _ => rfl⟩ }⟩,
    errs := ⟨K_TesseraError, K_Unreadable, K_BadFilter, { c_TesseraError := ⟨PySem.W.mg_of X G ea_TesseraError, ⟨ega_TesseraError, egg_TesseraError, eex_TesseraError, ehd_TesseraError⟩, ⟨ega_TesseraError, egg_TesseraError, eex_TesseraError, ehd_TesseraError, eha_TesseraError, egn, egt, ehm_TesseraError⟩, ety_TesseraError⟩, c_Unreadable := ⟨PySem.W.mg_of X G ea_Unreadable, ⟨ega_Unreadable, egg_Unreadable, eex_Unreadable, ehd_Unreadable⟩, ⟨ega_Unreadable, egg_Unreadable, eex_Unreadable, ehd_Unreadable, eha_Unreadable, egn, egt, ehm_Unreadable⟩, ety_Unreadable⟩, c_BadFilter := ⟨PySem.W.mg_of X G ea_BadFilter, ⟨ega_BadFilter, egg_BadFilter, eex_BadFilter, ehd_BadFilter⟩, ⟨ega_BadFilter, egg_BadFilter, eex_BadFilter, ehd_BadFilter, eha_BadFilter, egn, egt, ehm_BadFilter⟩, ety_BadFilter⟩, i_Unreadable := ⟨⟨⟨⟨_, _, _, _, _, _, _, _, _, _, _, _, _, _, _, exl_Unreadable, ebm_Unreadable⟩, esa_Unreadable, eex_Unreadable, ety_Unreadable, ekp_Unreadable⟩, esi_Unreadable, esv_Unreadable, ese_Unreadable, est⟩, ⟨_, _, ⟨_, _, _, _, _, _, _, _, _, _, rfl, eil_Unreadable, eic_Unreadable, ⟨_, _, _, ecc_Unreadable⟩, _, _, _, _, _, ecd_Unreadable, eft_Unreadable⟩, ein_Unreadable, eit_Unreadable, .all fun us hl => match us, hl with | [_, _], _ => rfl⟩, (fun f hf => by rw [List.mem_singleton.mp hf]; exact en_index_Unreadable)⟩, i_BadFilter := ⟨⟨⟨⟨_, _, _, _, _, _, _, _, _, _, _, _, _, _, _, exl_BadFilter, ebm_BadFilter⟩, esa_BadFilter, eex_BadFilter, ety_BadFilter, ekp_BadFilter⟩, esi_BadFilter, esv_BadFilter, ese_BadFilter, est⟩, ⟨_, _, ⟨_, _, _, _, _, _, _, _, _, _, rfl, eil_BadFilter, eic_BadFilter, ⟨_, _, _, ecc_BadFilter⟩, _, _, _, _, _, ecd_BadFilter, eft_BadFilter⟩, ein_BadFilter, eit_BadFilter, .all fun us hl => match us, hl with | [_, _], _ => rfl⟩, (fun f hf => by rw [List.mem_singleton.mp hf]; exact en_name_BadFilter)⟩, s_TesseraError_TesseraError := es_TesseraError_TesseraError, s_TesseraError_Unreadable := es_TesseraError_Unreadable, s_TesseraError_BadFilter := es_TesseraError_BadFilter, s_Unreadable_TesseraError := es_Unreadable_TesseraError, s_Unreadable_Unreadable := es_Unreadable_Unreadable, s_Unreadable_BadFilter := es_Unreadable_BadFilter, s_BadFilter_TesseraError := es_BadFilter_TesseraError, s_BadFilter_Unreadable := es_BadFilter_Unreadable, s_BadFilter_BadFilter := es_BadFilter_BadFilter }⟩,
    g_BASE := ⟨_, PySem.W.mg_of X G z_BASE⟩,
    g_BEYOND_TOLD := ⟨_, PySem.W.mg_of X G z_BEYOND_TOLD⟩,
    g_ESCAPE := ⟨_, PySem.W.mg_of X G z_ESCAPE⟩,
    g_HIGHEST_BYTE := ⟨_, PySem.W.mg_of X G z_HIGHEST_BYTE⟩,
    g_HIGHEST_ESCAPED := ⟨_, PySem.W.mg_of X G z_HIGHEST_ESCAPED⟩,
    g_LONGEST_RUN := ⟨_, PySem.W.mg_of X G z_LONGEST_RUN⟩,
    g_MOST_ZEROS := ⟨_, PySem.W.mg_of X G z_MOST_ZEROS⟩,
    b_abs := PySem.W.mg_none_of X G z_abs,
    b_bool := PySem.W.mg_none_of X G z_bool,
    b_int := PySem.W.mg_none_of X G z_int,
    b_isinstance := PySem.W.mg_none_of X G z_isinstance,
    b_len := PySem.W.mg_none_of X G z_len,
    b_list := PySem.W.mg_none_of X G z_list,
    b_max := PySem.W.mg_none_of X G z_max,
    b_min := PySem.W.mg_none_of X G z_min,
    b_range := PySem.W.mg_none_of X G z_range,
    b_reversed := PySem.W.mg_none_of X G z_reversed,
    b_str := PySem.W.mg_none_of X G z_str,
    b_super := PySem.W.mg_none_of X G z_super,
    b_tuple := PySem.W.mg_none_of X G z_tuple,
    b_zip := PySem.W.mg_none_of X G z_zip }
theorem law_mk {l : PySem.W.OpenLaw} {w : World} {K : PySem.W.Frag} {mg : Str → Option Value} {fa : Addr} {k : Nat} {sp : Sp} (hfa : mg "law" = some (.ref fa)) (T : Top K mg)
    (F : ∀ (base : Heap) (f : Addr) (fd : FuncData), Fun K "law" "law" s_law f fd → FnOk l.prog w K mg base CX0 k f fd ["script"] sp) :
    ∃ fd : FuncData, (∀ (s : Shared) (v : Value), BindsTo s fd ⟨[v], []⟩ [("script", v)]) ∧ ∀ base : Heap, K.In base → base.Ns mainGlobals mg → FnOk l.prog w K mg base CX0 k fa fd ["script"] sp := by
  obtain ⟨f, fd, FF, hm, hb⟩ := T.f_law.ex
  have e : f = fa := by rw [hm] at hfa; exact Value.ref.inj (Option.some.inj hfa)
  subst e
  have FF2 := FF
  obtain ⟨oc, od, kV, doc, pm, an, cdv, ct, osl, rfl, lk, hcd⟩ := FF2.ex
  exact ⟨_, fun s v => .of_eq rfl, fun base _ _ => F base f _ FF⟩
theorem pr_ok : PrOk PySem.Challenge.rw_tessera_k48_chunks_read_or_damaged.prog := ⟨rfl, rfl⟩
def LawGoal (P : Program) : Prop := ∀ (w : World) (K : PySem.W.Frag) (mg : Str → Option Value), Top K mg → ∀ (base : Heap) (f : Addr) (fd : FuncData), Fun K "law" "law" s_law f fd → FnOk P w K mg base CX0 13 f fd ["script"] (spLaw K)
section
open PySem.W
set_option maxHeartbeats 0 in
open_top top_ for PySem.Challenge.rw_tessera_k48_chunks_read_or_damaged
set_option maxHeartbeats 0 in
theorem head_ok (GL : My.LawGoal PySem.Challenge.rw_tessera_k48_chunks_read_or_damaged.prog) : PySem.Challenge.rw_tessera_k48_chunks_read_or_damaged.Holds := by
  refine My.top_ ?_
  k_fill
  refine L2.walk_ofB (l := PySem.Challenge.rw_tessera_k48_chunks_read_or_damaged) (n := 63) (k := 13) (x := "script") (CX := fun _ => L2.CX0) (sp := fun w => My.spLaw _) rfl (by decide) rfl ⟨rfl, by decide, by decide⟩ (fun w h Y => PySem.W.kIn_of Y) ?F (fun w H a ns hl hb _ hS => My.law_in hl hb hS) (fun _ _ _ _ _ h => h)
  case F =>
    intro w mg fa h KX G hmg
    refine' (fun T => My.law_mk (l := PySem.Challenge.rw_tessera_k48_chunks_read_or_damaged) hmg T (fun base f fd F => GL _ _ _ T base f fd F)) ?T
    refine' My.top_mk KX G ?a_told ?l_told ?c_told ?k_told ?a_undo_filter ?l_undo_filter ?c_undo_filter ?k_undo_filter ?a_undo_chain ?l_undo_chain ?c_undo_chain ?k_undo_chain ?a_undo_delta ?l_undo_delta ?c_undo_delta ?k_undo_delta ?a_plane_order ?l_plane_order ?c_plane_order ?k_plane_order ?a_undo_planes ?l_undo_planes ?c_undo_planes ?k_undo_planes ?a_undo_runs ?l_undo_runs ?c_undo_runs ?k_undo_runs ?a_undo_zeros ?l_undo_zeros ?c_undo_zeros ?k_undo_zeros ?a_width ?l_width ?c_width ?k_width ?a_value_count ?l_value_count ?c_value_count ?k_value_count ?a_least ?l_least ?c_least ?k_least ?a_greatest ?l_greatest ?c_greatest ?k_greatest ?a_load_values ?l_load_values ?c_load_values ?k_load_values ?a_stands_at ?l_stands_at ?c_stands_at ?k_stands_at ?a_read_number ?l_read_number ?c_read_number ?k_read_number ?a_read_byte ?l_read_byte ?c_read_byte ?k_read_byte ?a_read_list ?l_read_list ?c_read_list ?k_read_list ?a_read_bytes ?l_read_bytes ?c_read_bytes ?k_read_bytes ?a_element_count ?l_element_count ?c_element_count ?k_element_count ?a_decode_chunk ?l_decode_chunk ?c_decode_chunk ?k_decode_chunk ?a__law_cell ?l__law_cell ?c__law_cell ?k__law_cell ?a__law_draws ?l__law_draws ?c__law_draws ?k__law_draws ?a__law_is_int ?l__law_is_int ?c__law_is_int ?k__law_is_int ?a__law_is_number ?l__law_is_number ?c__law_is_number ?k__law_is_number ?a__law_low ?l__law_low ?c__law_low ?k__law_low ?a__law_high ?l__law_high ?c__law_high ?k__law_high ?a__law_value ?l__law_value ?c__law_value ?k__law_value ?a__law_kind ?l__law_kind ?c__law_kind ?k__law_kind ?a__law_chain ?l__law_chain ?c__law_chain ?k__law_chain ?a__law_same_ints ?l__law_same_ints ?c__law_same_ints ?k__law_same_ints ?a__law_stream ?l__law_stream ?c__law_stream ?k__law_stream ?a__law_number_bytes ?l__law_number_bytes ?c__law_number_bytes ?k__law_number_bytes ?a__law_bytes_bytes ?l__law_bytes_bytes ?c__law_bytes_bytes ?k__law_bytes_bytes ?a__law_many ?l__law_many ?c__law_many ?k__law_many ?a__law_filter ?l__law_filter ?c__law_filter ?k__law_filter ?a__law_back ?l__law_back ?c__law_back ?k__law_back ?a__law_stored ?l__law_stored ?c__law_stored ?k__law_stored ?a__law_loaded ?l__law_loaded ?c__law_loaded ?k__law_loaded ?a__law_chunk_content ?l__law_chunk_content ?c__law_chunk_content ?k__law_chunk_content ?a__law_read_bytes ?l__law_read_bytes ?c__law_read_bytes ?k__law_read_bytes ?a__law_chunk_values ?l__law_chunk_values ?c__law_chunk_values ?k__law_chunk_values ?a__law_chunk_shape ?l__law_chunk_shape ?c__law_chunk_shape ?k__law_chunk_shape ?a_law ?l_law ?c_law ?k_law ?a_K_Layout ?pg_K_Layout ?hd_K_Layout ?po_K_Layout ?sa_K_Layout ?n_K_Layout_kind ?n_K_Layout_chunk_shape ?n_K_Layout_fill ?n_K_Layout_filters ?a_Layout___init__ ?i_Layout___init__ ?l_Layout___init__ ?c_Layout___init__ ?k_Layout___init__ ?mk_K_Layout ?kc_K_Layout ?ea_TesseraError ?ega_TesseraError ?egg_TesseraError ?eex_TesseraError ?ehd_TesseraError ?eha_TesseraError ?ehm_TesseraError ?ety_TesseraError ?ea_Unreadable ?ega_Unreadable ?egg_Unreadable ?eex_Unreadable ?ehd_Unreadable ?eha_Unreadable ?ehm_Unreadable ?ety_Unreadable ?ea_BadFilter ?ega_BadFilter ?egg_BadFilter ?eex_BadFilter ?ehd_BadFilter ?eha_BadFilter ?ehm_BadFilter ?ety_BadFilter ?egn ?egt ?est ?exl_Unreadable ?ebm_Unreadable ?esa_Unreadable ?ekp_Unreadable ?esi_Unreadable ?esv_Unreadable ?ese_Unreadable ?ein_Unreadable ?eit_Unreadable ?eil_Unreadable ?eic_Unreadable ?ecc_Unreadable ?ecd_Unreadable ?eft_Unreadable ?en_index_Unreadable ?exl_BadFilter ?ebm_BadFilter ?esa_BadFilter ?ekp_BadFilter ?esi_BadFilter ?esv_BadFilter ?ese_BadFilter ?ein_BadFilter ?eit_BadFilter ?eil_BadFilter ?eic_BadFilter ?ecc_BadFilter ?ecd_BadFilter ?eft_BadFilter ?en_name_BadFilter ?es_TesseraError_TesseraError ?es_TesseraError_Unreadable ?es_TesseraError_BadFilter ?es_Unreadable_TesseraError ?es_Unreadable_Unreadable ?es_Unreadable_BadFilter ?es_BadFilter_TesseraError ?es_BadFilter_Unreadable ?es_BadFilter_BadFilter ?z_BASE ?z_BEYOND_TOLD ?z_ESCAPE ?z_HIGHEST_BYTE ?z_HIGHEST_ESCAPED ?z_LONGEST_RUN ?z_MOST_ZEROS ?z_abs ?z_bool ?z_int ?z_isinstance ?z_len ?z_list ?z_max ?z_min ?z_range ?z_reversed ?z_str ?z_super ?z_tuple ?z_zip
    (case a_told => k_is); (case l_told => k_is); (case c_told => k_is); (case k_told => k_is); (case a_undo_filter => k_is); (case l_undo_filter => k_is); (case c_undo_filter => k_is); (case k_undo_filter => k_is); (case a_undo_chain => k_is); (case l_undo_chain => k_is); (case c_undo_chain => k_is); (case k_undo_chain => k_is); (case a_undo_delta => k_is); (case l_undo_delta => k_is); (case c_undo_delta => k_is); (case k_undo_delta => k_is); (case a_plane_order => k_is); (case l_plane_order => k_is); (case c_plane_order => k_is); (case k_plane_order => k_is); (case a_undo_planes => k_is); (case l_undo_planes => k_is); (case c_undo_planes => k_is); (case k_undo_planes => k_is); (case a_undo_runs => k_is); (case l_undo_runs => k_is); (case c_undo_runs => k_is); (case k_undo_runs => k_is); (case a_undo_zeros => k_is); (case l_undo_zeros => k_is); (case c_undo_zeros => k_is); (case k_undo_zeros => k_is); (case a_width => k_is); (case l_width => k_is); (case c_width => k_is); (case k_width => k_is); (case a_value_count => k_is); (case l_value_count => k_is); (case c_value_count => k_is); (case k_value_count => k_is); (case a_least => k_is); (case l_least => k_is); (case c_least => k_is); (case k_least => k_is); (case a_greatest => k_is); (case l_greatest => k_is); (case c_greatest => k_is); (case k_greatest => k_is); (case a_load_values => k_is); (case l_load_values => k_is); (case c_load_values => k_is); (case k_load_values => k_is); (case a_stands_at => k_is); (case l_stands_at => k_is); (case c_stands_at => k_is); (case k_stands_at => k_is); (case a_read_number => k_is); (case l_read_number => k_is); (case c_read_number => k_is); (case k_read_number => k_is); (case a_read_byte => k_is); (case l_read_byte => k_is); (case c_read_byte => k_is); (case k_read_byte => k_is); (case a_read_list => k_is); (case l_read_list => k_is); (case c_read_list => k_is); (case k_read_list => k_is); (case a_read_bytes => k_is); (case l_read_bytes => k_is); (case c_read_bytes => k_is); (case k_read_bytes => k_is); (case a_element_count => k_is); (case l_element_count => k_is); (case c_element_count => k_is); (case k_element_count => k_is); (case a_decode_chunk => k_is); (case l_decode_chunk => k_is); (case c_decode_chunk => k_is); (case k_decode_chunk => k_is); (case a__law_cell => k_is); (case l__law_cell => k_is); (case c__law_cell => k_is); (case k__law_cell => k_is); (case a__law_draws => k_is); (case l__law_draws => k_is); (case c__law_draws => k_is); (case k__law_draws => k_is); (case a__law_is_int => k_is); (case l__law_is_int => k_is); (case c__law_is_int => k_is); (case k__law_is_int => k_is); (case a__law_is_number => k_is); (case l__law_is_number => k_is); (case c__law_is_number => k_is); (case k__law_is_number => k_is); (case a__law_low => k_is); (case l__law_low => k_is); (case c__law_low => k_is); (case k__law_low => k_is); (case a__law_high => k_is); (case l__law_high => k_is); (case c__law_high => k_is); (case k__law_high => k_is); (case a__law_value => k_is); (case l__law_value => k_is); (case c__law_value => k_is); (case k__law_value => k_is); (case a__law_kind => k_is); (case l__law_kind => k_is); (case c__law_kind => k_is); (case k__law_kind => k_is); (case a__law_chain => k_is); (case l__law_chain => k_is); (case c__law_chain => k_is); (case k__law_chain => k_is); (case a__law_same_ints => k_is); (case l__law_same_ints => k_is); (case c__law_same_ints => k_is); (case k__law_same_ints => k_is); (case a__law_stream => k_is); (case l__law_stream => k_is); (case c__law_stream => k_is); (case k__law_stream => k_is); (case a__law_number_bytes => k_is); (case l__law_number_bytes => k_is); (case c__law_number_bytes => k_is); (case k__law_number_bytes => k_is); (case a__law_bytes_bytes => k_is); (case l__law_bytes_bytes => k_is); (case c__law_bytes_bytes => k_is); (case k__law_bytes_bytes => k_is); (case a__law_many => k_is); (case l__law_many => k_is); (case c__law_many => k_is); (case k__law_many => k_is); (case a__law_filter => k_is); (case l__law_filter => k_is); (case c__law_filter => k_is); (case k__law_filter => k_is); (case a__law_back => k_is); (case l__law_back => k_is); (case c__law_back => k_is); (case k__law_back => k_is); (case a__law_stored => k_is); (case l__law_stored => k_is); (case c__law_stored => k_is); (case k__law_stored => k_is); (case a__law_loaded => k_is); (case l__law_loaded => k_is); (case c__law_loaded => k_is); (case k__law_loaded => k_is); (case a__law_chunk_content => k_is); (case l__law_chunk_content => k_is); (case c__law_chunk_content => k_is); (case k__law_chunk_content => k_is); (case a__law_read_bytes => k_is); (case l__law_read_bytes => k_is); (case c__law_read_bytes => k_is); (case k__law_read_bytes => k_is); (case a__law_chunk_values => k_is); (case l__law_chunk_values => k_is); (case c__law_chunk_values => k_is); (case k__law_chunk_values => k_is); (case a__law_chunk_shape => k_is); (case l__law_chunk_shape => k_is); (case c__law_chunk_shape => k_is); (case k__law_chunk_shape => k_is); (case a_law => k_is); (case l_law => k_is); (case c_law => k_is); (case k_law => k_is); (case a_K_Layout => k_is); (case pg_K_Layout => k_is); (case hd_K_Layout => k_is); (case po_K_Layout => k_is); (case sa_K_Layout => k_is); (case n_K_Layout_kind => k_is); (case n_K_Layout_chunk_shape => k_is); (case n_K_Layout_fill => k_is); (case n_K_Layout_filters => k_is); (case a_Layout___init__ => k_is); (case i_Layout___init__ => k_is); (case l_Layout___init__ => k_is); (case c_Layout___init__ => k_is); (case k_Layout___init__ => k_is); (case mk_K_Layout => k_is); (case kc_K_Layout => k_is); (case ea_TesseraError => k_is); (case ega_TesseraError => k_is); (case egg_TesseraError => k_is); (case eex_TesseraError => k_is); (case ehd_TesseraError => k_is); (case eha_TesseraError => k_is); (case ehm_TesseraError => k_is); (case ety_TesseraError => k_is); (case ea_Unreadable => k_is); (case ega_Unreadable => k_is); (case egg_Unreadable => k_is); (case eex_Unreadable => k_is); (case ehd_Unreadable => k_is); (case eha_Unreadable => k_is); (case ehm_Unreadable => k_is); (case ety_Unreadable => k_is); (case ea_BadFilter => k_is); (case ega_BadFilter => k_is); (case egg_BadFilter => k_is); (case eex_BadFilter => k_is); (case ehd_BadFilter => k_is); (case eha_BadFilter => k_is); (case ehm_BadFilter => k_is); (case ety_BadFilter => k_is); (case egn => k_is); (case egt => k_is); (case est => k_is); (case exl_Unreadable => k_is); (case ebm_Unreadable => decide +kernel); (case esa_Unreadable => k_is); (case ekp_Unreadable => k_is); (case esi_Unreadable => ks_is); (case esv_Unreadable => k_is); (case ese_Unreadable => k_is); (case ein_Unreadable => k_is); (case eit_Unreadable => k_is); (case eil_Unreadable => k_is); (case eic_Unreadable => k_is); (case ecc_Unreadable => k_is); (case ecd_Unreadable => k_is); (case eft_Unreadable => rfl); (case en_index_Unreadable => k_is); (case exl_BadFilter => k_is); (case ebm_BadFilter => decide +kernel); (case esa_BadFilter => k_is); (case ekp_BadFilter => k_is); (case esi_BadFilter => ks_is); (case esv_BadFilter => k_is); (case ese_BadFilter => k_is); (case ein_BadFilter => k_is); (case eit_BadFilter => k_is); (case eil_BadFilter => k_is); (case eic_BadFilter => k_is); (case ecc_BadFilter => k_is); (case ecd_BadFilter => k_is); (case eft_BadFilter => rfl); (case en_name_BadFilter => k_is); (case es_TesseraError_TesseraError => k_is); (case es_TesseraError_Unreadable => k_is); (case es_TesseraError_BadFilter => k_is); (case es_Unreadable_TesseraError => k_is); (case es_Unreadable_Unreadable => k_is); (case es_Unreadable_BadFilter => k_is); (case es_BadFilter_TesseraError => k_is); (case es_BadFilter_Unreadable => k_is); (case es_BadFilter_BadFilter => k_is); (case z_BASE => k_is); (case z_BEYOND_TOLD => k_is); (case z_ESCAPE => k_is); (case z_HIGHEST_BYTE => k_is); (case z_HIGHEST_ESCAPED => k_is); (case z_LONGEST_RUN => k_is); (case z_MOST_ZEROS => k_is); (case z_abs => k_is); (case z_bool => k_is); (case z_int => k_is); (case z_isinstance => k_is); (case z_len => k_is); (case z_list => k_is); (case z_max => k_is); (case z_min => k_is); (case z_range => k_is); (case z_reversed => k_is); (case z_str => k_is); (case z_super => k_is); (case z_tuple => k_is); (case z_zip => k_is)
end

/-! ### loops over lists of ints that turn a state -/
def By (ns : List Int) : Prop := ∀ x ∈ ns, 0 ≤ x ∧ x < 256
theorem By.gi {ns : List Int} (d : By ns) {i : Int} (h0 : 0 ≤ i) (h1 : i < ns.length) : 0 ≤ gi ns i ∧ gi ns i < 256 := d _ (gi_mem h0 h1)
theorem By.app {ns ms : List Int} (d : By ns) (e : By ms) : By (ns ++ ms) := fun y hy => by
  rcases List.mem_append.mp hy with h | h
  · exact d y h
  · exact e y h
theorem By.take {ns : List Int} (d : By ns) (n : Nat) : By (ns.take n) := fun y hy => d y (List.mem_of_mem_take hy)
theorem By.drop {ns : List Int} (d : By ns) (n : Nat) : By (ns.drop n) := fun y hy => d y (List.mem_of_mem_drop hy)
theorem By.rep {x : Int} (n : Nat) (h : 0 ≤ x ∧ x < 256) : By (List.replicate n x) := fun y hy => by rw [List.eq_of_mem_replicate hy]; exact h
theorem fold_take {S : Type} {f : S → Int → S} {s : S} {ns : List Int} {i : Nat} {x : Int} (h : ns[i]? = some x) : (ns.take (i + 1)).foldl f s = f ((ns.take i).foldl f s) x := by
  rw [List.take_add_one, h, List.foldl_append]
  rfl
theorem int_at {ns : List Int} {i : Nat} {v : V} (h : (ns.map V.int)[i]? = some v) : ∃ x, ns[i]? = some x ∧ v = .int x := by
  rw [List.getElem?_map] at h
  cases e : ns[i]? with
  | none => rw [e] at h; cases h
  | some x => rw [e] at h; cases h; exact ⟨x, rfl, rfl⟩
theorem gi_of {ns : List Int} {i : Nat} {x : Int} (h : ns[i]? = some x) : gi ns (i : Int) = x := by
  unfold gi
  rw [List.getD_eq_getElem?_getD, show ((i : Int)).toNat = i from rfl, h]
  rfl
/-! ### delta -/
def stepD (s : List Int × Int) (x : Int) : List Int × Int := (s.1 ++ [(x - s.2) % 256], x)
def stepU (s : List Int × Int) (x : Int) : List Int × Int := (s.1 ++ [(s.2 + x) % 256], (s.2 + x) % 256)
def dlt (ns : List Int) : List Int := (ns.foldl stepD ([], 0)).1
def und (ns : List Int) : List Int := (ns.foldl stepU ([], 0)).1
theorem stepD_len : ∀ (ns : List Int) (s : List Int × Int), (ns.foldl stepD s).1.length = s.1.length + ns.length
  | [], s => rfl
  | x :: ns, s => by
    rw [List.foldl_cons, stepD_len ns, List.length_cons]
    show (s.1 ++ [_]).length + ns.length = _
    rw [List.length_append]
    simp
    omega
theorem stepU_len : ∀ (ns : List Int) (s : List Int × Int), (ns.foldl stepU s).1.length = s.1.length + ns.length
  | [], s => rfl
  | x :: ns, s => by
    rw [List.foldl_cons, stepU_len ns, List.length_cons]
    show (s.1 ++ [_]).length + ns.length = _
    rw [List.length_append]
    simp
    omega
def sp_l1 (K : PySem.W.Frag) (g : List Int → List Int) : Sp := fun vs H Q _ => ∃ (a : Addr) (ns : List Int), vs = [.ref a] ∧ SqL K H a (ns.map V.int) ∧ By ns ∧ ns.length ≤ 1000000 ∧ RetO H Q (.lst ((g ns).map V.int))
section
variable {P : Program} {w : World} {K : PySem.W.Frag} {mg : Str → Option Value} {base : Heap}
theorem d_undo_delta (T : Top K mg) : Def P w K mg base CX0 1 "undo_delta" ["values"] (sp_l1 K und) := by
  refine T.f_undo_delta.ok sc_undo_delta (by rintro vs H Q E ⟨a, ns, rfl, _⟩; rfl) (fun f cdv A outer s H vs Q E hr h => ?_)
  obtain ⟨a, ns, rfl, hS, hby, hz, q⟩ := h
  refine ⟨_, (pss_cons (ps_set (i := 1) sc_undo_delta.nd rfl (Or.inl rfl) (pe_lst pa_nil))
      (pss_cons (ps_set (i := 2) sc_undo_delta.nd rfl (Or.inl rfl) pe_int)
      (pss_cons (ps_for PassesOwn.never rfl (pi_list (pv 0)) (pg_name (i := 3) sc_undo_delta.nd rfl (Or.inl rfl)) (pss_cons (ps_set (i := 2) sc_undo_delta.nd rfl (Or.inl rfl) (pe_op op_mod (pe_op op_add (pv 2) (pv 3)) pe_int))
      (pss_one (ps_expr (pe_bm PySem.F.plainAttrs_list PySem.F.slot_list_append PySem.F.type_list_append mt_append (pv 1) (pa_cons (pv 2) pa_nil))))))
      (pss_one (ps_ret (pv 1)))))), ?_⟩
  walk_at "rd"
  refine r_newL (Own.nil H) (Nat.zero_le _) fun p1 H1 o1 => ?_
  walk_at "rd"
  refine forL (o1.old hS) (fun i σ' H' => ∃ v : Option V, σ' = [some (.ref a), some (.ref p1), some (.int ((ns.take i).foldl stepU ([], 0)).2), v] ∧ Own H H' [(p1, .lst ((((ns.take i).foldl stepU ([], 0)).1).map V.int))]) ⟨_, rfl, o1⟩ (fun i σ' H' _ ⟨_, _, o⟩ => o.old hS) ?_ ?_
  · rintro i v σ' H' hi ⟨v4, rfl, o⟩
    obtain ⟨x, hx, rfl⟩ := int_at hi
    walk_at "rd"
    refine r_app o 0 rfl (by rw [List.length_map, stepU_len, List.length_take]; simp; omega) fun H2 o2 => ?_
    rw [fold_take hx]
    exact ⟨_, rfl, by unfold stepU; rw [List.map_append]; exact o2⟩
  · rintro σ' H' ⟨v4, rfl, o⟩
    rw [List.length_map, List.take_length] at o
    walk_at "rd"
    exact q.mk o 0 rfl
end
/-! ### planes -/
def ordN (n w : Nat) : List Nat := (List.range w).flatMap fun p => (List.range n).filter fun k => k % w == p
def Wd (w : Nat) : Prop := w = 1 ∨ w = 2 ∨ w = 4
def turns (p n w : Nat) : Nat := (n + (w - 1 - p)) / w
theorem turns_filter {w : Nat} (hw : Wd w) {p : Nat} (hp : p < w) : ∀ n : Nat, (List.range n).filter (fun k => k % w == p) = (List.range (turns p n w)).map fun k => p + k * w
  | 0 => by
    have e : turns p 0 w = 0 := by
      unfold turns
      exact Nat.div_eq_of_lt (by omega)
    rw [e]
    rfl
  | n + 1 => by
    rw [List.range_succ, List.filter_append, turns_filter hw hp n]
    by_cases h : n % w = p
    · have e1 : turns p (n + 1) w = turns p n w + 1 := by
        unfold turns
        rcases hw with rfl | rfl | rfl <;> omega
      have e2 : n = p + turns p n w * w := by
        unfold turns
        rcases hw with rfl | rfl | rfl <;> omega
      rw [e1, List.range_succ, List.map_append]
      congr 1
      simp [h]
      omega
    · have e1 : turns p (n + 1) w = turns p n w := by
        unfold turns
        rcases hw with rfl | rfl | rfl <;> omega
      rw [e1]
      simp [h]
theorem ord_turns {w : Nat} (hw : Wd w) (n : Nat) : ordN n w = (List.range w).flatMap fun p => (List.range (turns p n w)).map fun k => p + k * w := by
  unfold ordN
  have : ∀ ps : List Nat, (∀ p ∈ ps, p < w) → ps.flatMap (fun p => (List.range n).filter fun k => k % w == p) = ps.flatMap fun p => (List.range (turns p n w)).map fun k => p + k * w := by
    intro ps
    induction ps with
    | nil => intro _; rfl
    | cons p ps ih =>
      intro h
      rw [List.flatMap_cons, List.flatMap_cons, turns_filter hw (h p List.mem_cons_self), ih fun q hq => h q (List.mem_cons_of_mem _ hq)]
  exact this _ fun p hp => List.mem_range.mp hp
theorem ord_mem {n w k : Nat} (hw : Wd w) : k ∈ ordN n w ↔ k < n := by
  unfold ordN
  rw [List.mem_flatMap]
  constructor
  · rintro ⟨p, _, h⟩
    exact List.mem_range.mp (List.mem_filter.mp h).1
  · intro h
    refine ⟨k % w, List.mem_range.mpr (Nat.mod_lt _ (by rcases hw with rfl | rfl | rfl <;> decide)), ?_⟩
    rw [List.mem_filter]
    exact ⟨List.mem_range.mpr h, by simp⟩
theorem ord_nodup (n w : Nat) : (ordN n w).Nodup := by
  unfold ordN
  rw [List.nodup_iff_pairwise_ne, List.pairwise_flatMap]
  refine ⟨fun p _ => List.Pairwise.filter _ (List.nodup_iff_pairwise_ne.mp List.nodup_range), ?_⟩
  refine List.Pairwise.imp ?_ (List.nodup_iff_pairwise_ne.mp List.nodup_range)
  intro p q hpq x hx y hy e
  subst e
  have h1 := (List.mem_filter.mp hx).2
  have h2 := (List.mem_filter.mp hy).2
  simp at h1 h2
  exact hpq (h1.symm.trans h2)
theorem ord_perm {n w : Nat} (hw : Wd w) : (ordN n w).Perm (List.range n) :=
  (List.perm_ext_iff_of_nodup (ord_nodup n w) List.nodup_range).mpr fun k => by rw [ord_mem hw, List.mem_range]
theorem ord_len {n w : Nat} (hw : Wd w) : (ordN n w).length = n := by rw [(ord_perm hw).length_eq, List.length_range]
def pln (w : Nat) (ns : List Int) : List Int := (ordN ns.length w).map fun (k : Nat) => gi ns (k : Int)
def unplF (s : List Int) (p : Nat × Int) : List Int := s.set p.1 p.2
def unpl (w : Nat) (ns : List Int) : List Int := ((ordN ns.length w).zip ns).foldl unplF (List.replicate ns.length 0)
section
variable {P : Program} {w : World} {K : PySem.W.Frag} {mg : Str → Option Value} {base : Heap}
def sp_order : Sp := fun vs H Q _ => ∃ (n wd : Nat), vs = [.int n, .int wd] ∧ Wd wd ∧ n ≤ 1000000 ∧ RetO H Q (.lst (((ordN n wd).map fun (k : Nat) => (k : Int)).map V.int))
theorem fitsL {x : Int} (h : -(2 ^ 62) ≤ x ∧ x < 2 ^ 62) : PySem.Builtin.Range.rangeFitsLong x = true := by
  unfold PySem.Builtin.Range.rangeFitsLong
  simp
  omega
theorem rsz {p n wd : Nat} (hw : Wd wd) (hp : p < wd) : PySem.Builtin.Range.rangeSize (p : Int) (n : Int) (wd : Int) = turns p n wd := by
  unfold PySem.Builtin.Range.rangeSize turns
  rcases hw with rfl | rfl | rfl <;> rw [if_pos (by decide)] <;> split <;> omega
theorem rgc_turns {p n wd : Nat} (hw : Wd wd) (hp : p < wd) (hn : n ≤ 1000000) : RgC (p : Int) (n : Int) (wd : Int) (turns p n wd) := by
  refine ⟨by rcases hw with rfl | rfl | rfl <;> decide, by rcases hw with rfl | rfl | rfl <;> decide, ?_, ?_⟩
  · have e : PySem.Builtin.Range.rangeSize (p : Int) (n : Int) (wd : Int) = turns p n wd := rsz hw hp
    unfold PySem.Builtin.Range.small
    rw [e]
    have ht : turns p n wd ≤ n := by unfold turns; rcases hw with rfl | rfl | rfl <;> omega
    have hwd : wd ≤ 4 := by rcases hw with rfl | rfl | rfl <;> decide
    have hpos : (wd : Int) > 0 := by rcases hw with rfl | rfl | rfl <;> decide
    rw [if_pos hpos]
    simp only [fitsL (show -(2 ^ 62) ≤ (p : Int) ∧ (p : Int) < 2 ^ 62 by omega), fitsL (show -(2 ^ 62) ≤ (n : Int) ∧ (n : Int) < 2 ^ 62 by omega), fitsL (show -(2 ^ 62) ≤ (wd : Int) ∧ (wd : Int) < 2 ^ 62 by omega), fitsL (show -(2 ^ 62) ≤ ((turns p n wd : Nat) : Int) ∧ ((turns p n wd : Nat) : Int) < 2 ^ 62 by omega), fitsL (show -(2 ^ 62) ≤ (n : Int) + ((wd : Int) - 1) ∧ (n : Int) + ((wd : Int) - 1) < 2 ^ 62 by omega)]
    simp
  · exact rsz hw hp
theorem d_plane_order (T : Top K mg) : Def P w K mg base CX0 1 "plane_order" ["count", "size"] sp_order := by
  refine T.f_plane_order.ok sc_plane_order (by rintro vs H Q E ⟨n, wd, rfl, _⟩; rfl) (fun f cdv A outer s H vs Q E hr h => ?_)
  obtain ⟨n, wd, rfl, hw, hz, q⟩ := h
  refine ⟨_, (pss_one (ps_ret (pe_lc2 (own := [("plane", 2), ("place", 3)]) (vs1 := [3]) (g := (gName 2)) (g1 := (gName 3)) (tt := tYes) (tt1 := tYes) rfl sc_plane_order.nd (pi_range1 (by rfl) T.b_range (pa_cons (pv 1) pa_nil)) (blkOk_by (N := N_plane_order) (sc := defScope s_plane_order) (by decide +kernel)) (by decide) (fun _ _ _ _ _ => (pg_name (i := 2) sc_plane_order.nd rfl (Or.inl rfl))) (fun _ _ _ _ _ => pts_nil) (fun _ _ _ _ _ => (pi_range3 (by rfl) T.b_range (pa_cons (pv 2) (pa_cons (pv 0) (pa_cons (pv 1) pa_nil))))) (fun _ _ _ _ _ => (pg_name (i := 3) sc_plane_order.nd rfl (Or.inl rfl))) (fun _ _ _ _ _ => pts_nil) (fun _ _ _ _ _ => (pv 3))))), ?_⟩
  walk_at "rd"
  have hw4 : wd ≤ 4 := by rcases hw with rfl | rfl | rfl <;> decide
  have eV : ((List.range wd).flatMap fun p => (List.range (turns p n wd)).map fun (k : Nat) => V.int ((p : Int) + (k : Int) * (wd : Int))) = ((ordN n wd).map fun (k : Nat) => (k : Int)).map V.int := by
    rw [ord_turns hw, List.map_flatMap, List.map_flatMap]
    congr 1
    funext p
    rw [List.map_map, List.map_map]
    congr 1
  have hlen : ((List.range wd).flatMap fun p => (List.range (turns p n wd)).map fun (k : Nat) => V.int ((p : Int) + (k : Int) * (wd : Int))).length = n := by rw [eV, List.length_map, List.length_map, ord_len hw]
  refine lc2R3 (n := wd) (c := (wd : Int)) (fun p => (p : Int)) (fun p => turns p n wd) (Own.nil H) rfl (by omega) (by rw [hlen]; omega) (fun x => rfl) (fun x y => rfl) ?_ ?_ fun p1 H1 o1 => ?_
  · intro p H' R hp r
    walk_at "rd"
    exact ⟨_, _, _, _, rfl, rgc_turns hw hp hz, r⟩
  · intro x z H' Q' q'
    walk_at "rd"
    exact q'
  · rw [eV] at o1
    exact q.mk o1 0 rfl
def sp_l2 (K : PySem.W.Frag) (g : Nat → List Int → List Int) : Sp := fun vs H Q _ => ∃ (a : Addr) (ns : List Int) (wd : Nat), vs = [.ref a, .int wd] ∧ SqL K H a (ns.map V.int) ∧ By ns ∧ Wd wd ∧ ns.length ≤ 1000000 ∧ RetO H Q (.lst ((g wd ns).map V.int))
theorem unplF_len : ∀ (ps : List (Nat × Int)) (s : List Int), (ps.foldl unplF s).length = s.length
  | [], _ => rfl
  | p :: ps, s => by
    rw [List.foldl_cons, unplF_len ps]
    unfold unplF
    rw [List.length_set]
theorem d_undo_planes (T : Top K mg) : Def P w K mg base CX0 2 "undo_planes" ["values", "size"] (sp_l2 K unpl) := by
  have G_plane_order : Def P w K mg base CX0 1 "plane_order" ["count", "size"] sp_order := d_plane_order T
  refine T.f_undo_planes.ok sc_undo_planes (by rintro vs H Q E ⟨a, ns, wd, rfl, _⟩; rfl) (fun f cdv A outer s H vs Q E hr h => ?_)
  obtain ⟨a, ns, wd, rfl, hS, hby, hw, hz, q⟩ := h
  refine ⟨_, (pss_cons (ps_set (i := 2) sc_undo_planes.nd rfl (Or.inl rfl) (pe_op op_rep (pe_lst (pa_cons pe_int pa_nil)) (pe_callB (r := Evl.rLenS K) call_len_seq (by rfl) T.b_len (by decide +kernel) (pa_cons (pv 0) pa_nil))))
      (pss_cons (ps_for PassesOwn.never rfl (RZ.pi_zipA (by rfl) T.b_zip (pa_cons (pe_callD G_plane_order (hr.mono (by decide)) (pa_cons (pe_callB (r := Evl.rLenS K) call_len_seq (by rfl) T.b_len (by decide +kernel) (pa_cons (pv 0) pa_nil)) (pa_cons (pv 1) pa_nil))) (pa_cons (pv 0) pa_nil))) (pg_tup (n := 2) rfl (pgs_cons (pg_name (i := 3) sc_undo_planes.nd rfl (Or.inl rfl)) (pgs_cons (pg_name (i := 4) sc_undo_planes.nd rfl (Or.inl rfl)) pgs_nil))) (pss_one (ps_asg (pv 4) (pg_sub (pv 2) (pv 3) set_list))))
      (pss_one (ps_ret (pv 2))))), ?_⟩
  walk_at "rd"
  refine r_newL (Own.nil H) (Nat.le_of_ble_eq_true rfl) fun p1 H1 o1 => ?_
  have hS1 := o1.old hS
  walk_at "rd"
  refine r_rep (n := ns.length) o1 (o1.at 0 rfl) (by rw [List.length_map]; rfl) (by rw [List.length_map]; omega) (by omega) fun p2 H2 s2 o2 => ?_
  have hS2 := o2.old hS
  walk_at "rd"
  refine ⟨ns.length, wd, by rw [List.length_map]; rfl, hw, hz, r_ret1 o2 fun p3 H3 o3 => ?_⟩
  walk_at "rd"
  have eP : ∀ i, ((ordN ns.length wd).zip ns).take i = ((ordN ns.length wd).zip ns).take i := fun _ => rfl
  refine forZL (o3.sqL 0 rfl) (o3.old hS) (by rw [List.length_map, List.length_map, List.length_map, ord_len hw]) (fun i σ' H' => ∃ v4 v5 : Option V, σ' = [some (.ref a), some (.int wd), some (.ref p2), v4, v5] ∧ Own H H' [(p2, .lst (((((ordN ns.length wd).zip ns).take i).foldl unplF (List.replicate ns.length 0)).map V.int)), (p3, .lst (((ordN ns.length wd).map fun (k : Nat) => (k : Int)).map V.int))])
    ⟨_, _, rfl, by
      have o4 := o3.pick2 1 0 (by decide) rfl rfl
      rw [List.take_zero, List.foldl_nil, List.map_replicate]
      exact o4⟩ (fun i σ' H' ⟨_, _, _, o⟩ => ⟨o.sqL 1 rfl, o.old hS⟩) ?_ ?_
  · rintro i x y T2 σ' H' hx hy ⟨v4, v5, rfl, o⟩ hT
    obtain ⟨x1, hx1, rfl⟩ := int_at hx
    obtain ⟨y1, hy1, rfl⟩ := int_at hy
    rw [List.getElem?_map] at hx1
    cases hk : (ordN ns.length wd)[i]? with
    | none => rw [hk] at hx1; cases hx1
    | some k =>
      rw [hk] at hx1
      cases hx1
      have hkn := (ord_mem hw).mp (List.mem_of_getElem? hk)
      refine r_gTup2 (SqT.of upd_same) ?_
      have o4 := o.mono (same_new hT (u := .tup [.int (k : Int), .int y1]))
      walk_at "rd"
      refine r_setL (k := k) o4 0 rfl ?_ fun H5 o5 => ?_
      · rw [List.length_map, unplF_len, List.length_replicate]
        show ixN ns.length (k : Int) = some k
        unfold ixN
        rw [if_pos (by omega), if_pos (by omega)]
        rfl
      refine ⟨_, _, rfl, ?_⟩
      have hz2 : ((ordN ns.length wd).zip ns)[i]? = some (k, y1) := by rw [List.getElem?_zip_eq_some]; exact ⟨hk, hy1⟩
      rw [List.take_add_one, hz2, List.foldl_append]
      show Own H H5 [(p2, .lst ((List.set _ k y1).map V.int)), _]
      rw [List.map_set]
      exact o5
  · rintro σ' H' ⟨v4, v5, rfl, o⟩
    walk_at "rd"
    have e : (((ordN ns.length wd).zip ns).take ((((ordN ns.length wd).map fun (k : Nat) => (k : Int)).map V.int).length)) = (ordN ns.length wd).zip ns := by
      refine List.take_of_length_le ?_
      rw [List.length_zip, List.length_map, List.length_map]
      omega
    rw [e] at o
    exact q.mk o 0 rfl
end

/-! ### zeros -/
def kz (ns : List Int) : Nat → Nat
  | 0 => 0
  | k + 1 => if gi ns (k : Int) = 0 ∧ ns.length - (k + 1) < 65535 then kz ns k else k + 1
theorem kz_le (ns : List Int) : ∀ k, kz ns k ≤ k
  | 0 => Nat.le_refl _
  | k + 1 => by
    unfold kz
    split
    · exact Nat.le_succ_of_le (kz_le ns k)
    · exact Nat.le_refl _
def zer (ns : List Int) : List Int := [((ns.length - kz ns ns.length : Nat) : Int) / 256, ((ns.length - kz ns ns.length : Nat) : Int) % 256] ++ ns.take (kz ns ns.length)
def cntZ (ns : List Int) : Int := gi ns 0 * 256 + gi ns 1
def unZ (ns : List Int) : Option (List Int) := if ns.length < 2 then none else if 2 < ns.length ∧ gi ns ((ns.length : Int) - 1) = 0 ∧ cntZ ns < 65535 then none else some (ns.drop 2 ++ List.replicate (cntZ ns).toNat 0)
/-! ### runs -/
def push (f : List Int) (v : Int) : List Int := if 0 < f.length ∧ gi f ((f.length : Int) - 1) = v ∧ gi f ((f.length : Int) - 2) < 255 then f.set (f.length - 2) (gi f ((f.length : Int) - 2) + 1) else f ++ [1, v]
def rns (ns : List Int) : List Int := ns.foldl push []
def noM (f : List Int) (v : Int) : Prop := ¬ (0 < f.length ∧ gi f ((f.length : Int) - 1) = v ∧ gi f ((f.length : Int) - 2) < 255)
theorem gi_app2 (f : List Int) (c v : Int) : gi (f ++ [c, v]) (((f ++ [c, v]).length : Int) - 1) = v ∧ gi (f ++ [c, v]) (((f ++ [c, v]).length : Int) - 2) = c := by
  have e : (f ++ [c, v]).length = f.length + 2 := by rw [List.length_append]; rfl
  rw [e]
  unfold gi
  rw [show (((f.length + 2 : Nat) : Int) - 1).toNat = f.length + 1 by omega, show (((f.length + 2 : Nat) : Int) - 2).toNat = f.length by omega]
  constructor
  · rw [List.getD_eq_getElem?_getD, List.getElem?_append_right (by omega), show f.length + 1 - f.length = 1 by omega]
    rfl
  · rw [List.getD_eq_getElem?_getD, List.getElem?_append_right (by omega), show f.length - f.length = 0 by omega]
    rfl
theorem push_app (f : List Int) (c v : Int) (hc : c < 255) : push (f ++ [c, v]) v = f ++ [c + 1, v] := by
  obtain ⟨h1, h2⟩ := gi_app2 f c v
  unfold push
  rw [h1, h2, if_pos ⟨by rw [List.length_append]; simp, rfl, hc⟩]
  have e : (f ++ [c, v]).length - 2 = f.length := by rw [List.length_append]; simp
  rw [e, List.set_append_right _ _ (Nat.le_refl _), Nat.sub_self]
  rfl
theorem push_block {f : List Int} {v : Int} (h : noM f v) : ∀ k : Nat, k + 1 ≤ 255 → (List.replicate (k + 1) v).foldl push f = f ++ [((k + 1 : Nat) : Int), v]
  | 0, _ => by
    show push f v = _
    unfold push
    rw [if_neg h]
    rfl
  | k + 1, hk => by
    have ih := push_block h k (by omega)
    rw [List.replicate_succ', List.foldl_append, ih]
    show push (f ++ [((k + 1 : Nat) : Int), v]) v = _
    rw [push_app f _ v (by omega)]
    rfl
theorem push_len (f : List Int) (v : Int) : (push f v).length ≤ f.length + 2 := by
  unfold push
  split
  · rw [List.length_set]; omega
  · rw [List.length_append]; simp
theorem rns_len : ∀ (ns : List Int) (f : List Int), (ns.foldl push f).length ≤ f.length + 2 * ns.length
  | [], f => by simp
  | x :: ns, f => by
    rw [List.foldl_cons]
    have h1 := rns_len ns (push f x)
    have h2 := push_len f x
    rw [List.length_cons]
    omega
theorem gi_eq {ns : List Int} {k : Nat} {v : Int} (h : k < ns.length) (e : gi ns (k : Int) = v) : ns[k]? = some v := by
  rw [List.getElem?_eq_getElem h, ← gi_nat h, e]
theorem take_block {ns : List Int} {s : Nat} {v : Int} : ∀ d : Nat, s + d ≤ ns.length → (∀ j, s ≤ j → j < s + d → gi ns (j : Int) = v) → ns.take (s + d) = ns.take s ++ List.replicate d v
  | 0, _, _ => by simp
  | d + 1, hl, h => by
    rw [← Nat.add_assoc, List.take_add_one, gi_eq (by omega) (h (s + d) (by omega) (by omega)), take_block d (by omega) fun j h1 h2 => h j h1 (by omega), List.replicate_succ', ← List.append_assoc]
    rfl
def prs (ns : List Int) : List (Int × Int) := (List.range (ns.length / 2)).map fun (k : Nat) => (gi ns (2 * (k : Int)), gi ns (2 * (k : Int) + 1))
def okP (ps : List (Int × Int)) : Prop := ∀ k, k < ps.length → (ps.getD k (0, 0)).1 ≠ 0 ∧ ¬ (0 < k ∧ (ps.getD (k - 1) (0, 0)).1 < 255 ∧ (ps.getD (k - 1) (0, 0)).2 = (ps.getD k (0, 0)).2)
instance (ps : List (Int × Int)) : Decidable (okP ps) := by unfold okP; infer_instance
def unpk (ps : List (Int × Int)) : List Int := ps.flatMap fun p => List.replicate p.1.toNat p.2
def unR (ns : List Int) : Option (List Int) := if ns.length % 2 = 1 then none else if okP (prs ns) then some (unpk (prs ns)) else none
section
variable {P : Program} {w : World} {K : PySem.W.Frag} {mg : Str → Option Value} {base : Heap}
def sp_un (K : PySem.W.Frag) (g : List Int → Option (List Int)) : Sp := fun vs H Q _ => ∃ (a : Addr) (ns ms : List Int), vs = [.ref a] ∧ SqL K H a (ns.map V.int) ∧ By ns ∧ ns.length ≤ 20000 + 1000 * 400 ∧ g ns = some ms ∧ ms.length ≤ 1000000 ∧ RetO H Q (.lst (ms.map V.int))
end

section
variable {P : Program} {w : World} {K : PySem.W.Frag} {mg : Str → Option Value} {base : Heap}
theorem stp2 {ns : List Int} {a : Nat} (ha : a = 0 ∨ a = 1) (h : ns.length % 2 = 0) : stpV (ns.map V.int) (some (a : Int)) none 2 = ((List.range (ns.length / 2)).map fun (k : Nat) => gi ns (2 * (k : Int) + (a : Int))).map V.int := by
  unfold stpV
  have e1 : (sliceBounds (some (a : Int)) none (some 2) (ns.map V.int).length).1 = (min a ns.length : Nat) := by
    rw [List.length_map]
    simp only [sliceBounds, Option.getD_some, show (2 : Int) > 0 by decide, if_true]
    rw [if_neg (by omega)]
    omega
  have e2 : (sliceBounds (some (a : Int)) none (some 2) (ns.map V.int).length).2.1 = (ns.length : Int) := by
    rw [List.length_map]
    simp only [sliceBounds, Option.getD_some, show (2 : Int) > 0 by decide, if_true]
  have e3 : (sliceBounds (some (a : Int)) none (some 2) (ns.map V.int).length).2.2 = 2 := rfl
  rw [e1, e2, e3]
  unfold sliceRange
  simp only [show (2 : Int) > 0 by decide, if_true]
  have e4 : (if ((min a ns.length : Nat) : Int) < (ns.length : Int) then ((ns.length : Int) - ((min a ns.length : Nat) : Int) + 2 - 1) / 2 else 0).toNat = ns.length / 2 := by
    split <;> omega
  rw [e4, List.filterMap_map, List.map_map]
  have h5 : ∀ k ∈ List.range (ns.length / 2), ((fun x => (ns.map V.int)[x]?) ∘ fun (k : Nat) => (((min a ns.length : Nat) : Int) + 2 * (k : Int)).toNat) k = some ((V.int ∘ fun (k : Nat) => gi ns (2 * (k : Int) + (a : Int))) k) := by
    intro k hk
    have hk2 := List.mem_range.mp hk
    have hlt : 2 * k + a < ns.length := by omega
    show (ns.map V.int)[(((min a ns.length : Nat) : Int) + 2 * (k : Int)).toNat]? = some (V.int (gi ns (2 * (k : Int) + (a : Int))))
    rw [show (((min a ns.length : Nat) : Int) + 2 * (k : Int)).toNat = 2 * k + a by omega, List.getElem?_map, List.getElem?_eq_getElem hlt, show 2 * (k : Int) + (a : Int) = ((2 * k + a : Nat) : Int) by omega, gi_nat hlt]
    rfl
  exact fm_some _ _ _ h5
def csN (ns : List Int) : List Int := (List.range (ns.length / 2)).map fun (k : Nat) => gi ns (2 * (k : Int) + ((0 : Nat) : Int))
def rsN (ns : List Int) : List Int := (List.range (ns.length / 2)).map fun (k : Nat) => gi ns (2 * (k : Int) + ((1 : Nat) : Int))
theorem cs_at {ns : List Int} {k : Nat} (h : k < ns.length / 2) : gi (csN ns) (k : Int) = ((prs ns).getD k (0, 0)).1 ∧ gi (rsN ns) (k : Int) = ((prs ns).getD k (0, 0)).2 := by
  have h1 : (csN ns)[k]? = some (gi ns (2 * (k : Int) + ((0 : Nat) : Int))) := by unfold csN; rw [List.getElem?_map, List.getElem?_range h]; rfl
  have h2 : (rsN ns)[k]? = some (gi ns (2 * (k : Int) + ((1 : Nat) : Int))) := by unfold rsN; rw [List.getElem?_map, List.getElem?_range h]; rfl
  have h3 : (prs ns)[k]? = some (gi ns (2 * (k : Int)), gi ns (2 * (k : Int) + 1)) := by unfold prs; rw [List.getElem?_map, List.getElem?_range h]; rfl
  rw [gi_of h1, gi_of h2, List.getD_eq_getElem?_getD, h3]
  constructor
  · show gi ns (2 * (k : Int) + ((0 : Nat) : Int)) = gi ns (2 * (k : Int))
    congr 1
  · rfl
theorem cs_len (ns : List Int) : (csN ns).length = ns.length / 2 := by unfold csN; rw [List.length_map, List.length_range]
theorem rs_len (ns : List Int) : (rsN ns).length = ns.length / 2 := by unfold rsN; rw [List.length_map, List.length_range]
theorem prs_len (ns : List Int) : (prs ns).length = ns.length / 2 := by unfold prs; rw [List.length_map, List.length_range]
theorem prs_by {ns : List Int} (hb : By ns) : ∀ p ∈ prs ns, (0 ≤ p.1 ∧ p.1 < 256) ∧ 0 ≤ p.2 ∧ p.2 < 256 := by
  intro p hp
  obtain ⟨k, hk, rfl⟩ := List.mem_map.mp hp
  have hk2 := List.mem_range.mp hk
  exact ⟨hb.gi (by omega) (by omega), hb.gi (by omega) (by omega)⟩
theorem unpk_len : ∀ {ps : List (Int × Int)}, (∀ p ∈ ps, (0 ≤ p.1 ∧ p.1 < 256) ∧ 0 ≤ p.2 ∧ p.2 < 256) → (unpk ps).length ≤ 255 * ps.length
  | [], _ => Nat.le_refl _
  | p :: ps, h => by
    have ih := unpk_len (ps := ps) fun q hq => h q (List.mem_cons_of_mem _ hq)
    have h1 := (h p List.mem_cons_self).1
    show (List.replicate p.1.toNat p.2 ++ unpk ps).length ≤ _
    rw [List.length_append, List.length_replicate, List.length_cons]
    omega
theorem unpk_take_le (ps : List (Int × Int)) (n : Nat) : (unpk (ps.take n)).length ≤ (unpk ps).length := by
  have e : unpk ps = unpk (ps.take n) ++ unpk (ps.drop n) := by
    unfold unpk
    rw [← List.flatMap_append, List.take_append_drop]
  rw [e, List.length_append]
  omega
end

/-! ### the dispatch, and the law's own filters -/
def sD : Str := PySem.Str.ofString "delta"
def sP : Str := PySem.Str.ofString "planes"
def sR : Str := PySem.Str.ofString "runs"
def sZ : Str := PySem.Str.ofString "zeros"
def appF (nm : Str) (wd : Nat) (ns : List Int) : List Int := if nm = sD then dlt ns else if nm = sP then pln wd ns else if nm = sR then rns ns else zer ns
def undF (nm : Str) (wd : Nat) (ns : List Int) : Option (List Int) := if nm = sD then some (und ns) else if nm = sP then some (unpl wd ns) else if nm = sR then unR ns else unZ ns
def sp_app (K : PySem.W.Frag) : Sp := fun vs H Q _ => ∃ (nm : Str) (a : Addr) (ns : List Int) (wd : Nat), vs = [.str nm, .ref a, .int wd] ∧ SqL K H a (ns.map V.int) ∧ By ns ∧ Wd wd ∧ ns.length ≤ 400000 ∧ RetO H Q (.lst ((appF nm wd ns).map V.int))
def sp_und (K : PySem.W.Frag) : Sp := fun vs H Q _ => ∃ (nm : Str) (a : Addr) (ns ms : List Int) (wd : Nat), vs = [.str nm, .ref a, .int wd] ∧ SqL K H a (ns.map V.int) ∧ By ns ∧ Wd wd ∧ ns.length ≤ 400000 ∧ undF nm wd ns = some ms ∧ ms.length ≤ 1000000 ∧ RetO H Q (.lst (ms.map V.int))
/-! delta as the law says it -/
def dLaw (ns : List Int) (k : Nat) : Int := (gi ns (k : Int) - (if 0 < k then gi ns ((k : Int) - 1) else 0)) % 256
theorem dlt_fold (ns : List Int) : ∀ i, i ≤ ns.length → (ns.take i).foldl stepD ([], 0) = (mapR i (dLaw ns), if 0 < i then gi ns ((i : Int) - 1) else 0)
  | 0, _ => rfl
  | i + 1, hi => by
    have hx : ns[i]? = some (gi ns (i : Int)) := gi_eq (by omega) rfl
    rw [fold_take hx, dlt_fold ns i (by omega)]
    unfold stepD
    refine Prod.ext ?_ ?_
    · show mapR i (dLaw ns) ++ [_] = mapR (i + 1) (dLaw ns)
      unfold mapR
      rw [List.range_succ, List.map_append]
      rfl
    · show gi ns (i : Int) = if 0 < i + 1 then gi ns (((i + 1 : Nat) : Int) - 1) else 0
      rw [if_pos (by omega), show (((i + 1 : Nat) : Int) - 1) = (i : Int) by omega]
theorem dlt_law (ns : List Int) : dlt ns = mapR ns.length (dLaw ns) := by
  have h := dlt_fold ns ns.length (Nat.le_refl _)
  rw [List.take_length] at h
  unfold dlt
  rw [h]
/-! zeros as the law says them -/
def tzF (ns : List Int) : Nat → Int
  | 0 => 0
  | i + 1 => if gi ns (i : Int) = 0 then tzF ns i + 1 else 0
theorem tz_nn (ns : List Int) : ∀ i, 0 ≤ tzF ns i ∧ tzF ns i ≤ i
  | 0 => ⟨Int.le_refl _, Int.le_refl _⟩
  | i + 1 => by
    have ih := tz_nn ns i
    unfold tzF
    split <;> omega
theorem kz_tz (ns : List Int) : ∀ k, k ≤ ns.length → ns.length - k ≤ 65535 → ((ns.length - kz ns k : Nat) : Int) = min (((ns.length - k : Nat) : Int) + tzF ns k) 65535
  | 0, _, h => by
    unfold kz tzF
    omega
  | k + 1, hk, h => by
    have hle := kz_le ns k
    have ht := tz_nn ns k
    unfold kz tzF
    by_cases h1 : gi ns (k : Int) = 0
    · rw [if_pos h1]
      by_cases h2 : ns.length - (k + 1) < 65535
      · rw [if_pos ⟨h1, h2⟩, kz_tz ns k (by omega) (by omega)]
        omega
      · rw [if_neg (fun h => h2 h.2)]
        omega
    · rw [if_neg h1, if_neg (fun h => h1 h.1)]
      omega
theorem zer_law (ns : List Int) : zer ns = [min (tzF ns ns.length) 65535 / 256, min (tzF ns ns.length) 65535 % 256] ++ ns.take (ns.length - (min (tzF ns ns.length) 65535).toNat) := by
  have h := kz_tz ns ns.length (Nat.le_refl _) (by omega)
  have hle := kz_le ns ns.length
  have ht := tz_nn ns ns.length
  unfold zer
  rw [h]
  congr 1
  · congr 1
    · congr 1
      omega
    · congr 1
      congr 1
      omega
  · congr 1
    omega
theorem push_even {f : List Int} (v : Int) (h : f.length % 2 = 0) : (push f v).length % 2 = 0 := by
  unfold push
  split
  · rw [List.length_set]; exact h
  · rw [List.length_append]; simp; omega
theorem rns_even : ∀ (ns : List Int) (f : List Int), f.length % 2 = 0 → (ns.foldl push f).length % 2 = 0
  | [], f, h => h
  | x :: ns, f, h => by
    rw [List.foldl_cons]
    exact rns_even ns _ (push_even x h)
def plnL (wd : Nat) (ns : List Int) (i : Nat) : List Int := (List.range i).flatMap fun p => ((List.range ns.length).filter fun k => k % wd == p).map fun (k : Nat) => gi ns (k : Int)
theorem plnL_eq (wd : Nat) (ns : List Int) : plnL wd ns wd = pln wd ns := by
  unfold plnL pln ordN
  rw [List.map_flatMap]
theorem plnL_len {wd : Nat} (hw : Wd wd) (ns : List Int) {i : Nat} (hi : i ≤ wd) : (plnL wd ns i).length ≤ ns.length := by
  have e : pln wd ns = plnL wd ns i ++ ((List.range (wd - i)).map (i + ·)).flatMap fun p => ((List.range ns.length).filter fun k => k % wd == p).map fun (k : Nat) => gi ns (k : Int) := by
    rw [← plnL_eq]
    unfold plnL
    rw [← List.flatMap_append, ← List.range_add, show i + (wd - i) = wd by omega]
  have h : (pln wd ns).length = ns.length := by unfold pln; rw [List.length_map, ord_len hw]
  rw [e, List.length_append] at h
  omega
section
variable {P : Program} {w : World} {K : PySem.W.Frag} {mg : Str → Option Value} {base : Heap}
theorem ne_pd : ¬ sP = sD := by decide +kernel
theorem ne_rd : ¬ sR = sD := by decide +kernel
theorem ne_rp : ¬ sR = sP := by decide +kernel
theorem d_law_filter (T : Top K mg) : Def P w K mg base CX0 1 "_law_filter" ["name", "values", "size"] (sp_app K) := by
  refine T.f__law_filter.ok sc__law_filter (by rintro vs H Q E ⟨nm, a, ns, wd, rfl, _⟩; rfl) (fun f cdv A outer s H vs Q E hr h => ?_)
  obtain ⟨nm, a, ns, wd, rfl, hS, hby, hw, hz, q⟩ := h
  refine ⟨_, (pss_cons (ps_if (pt_cmpR op_eq (pv 0) pe_str (nomark _)) (pss_one (ps_ret (pe_lc (own := [("k", 3)]) (g := (gName 3)) (tt := tYes) rfl sc__law_filter.nd (pi_range1 (by rfl) T.b_range (pa_cons (pe_callB (r := Evl.rLenS K) call_len_seq (by rfl) T.b_len (by decide +kernel) (pa_cons (pv 1) pa_nil)) pa_nil)) (blkOk_by (N := N__law_filter) (sc := defScope s__law_filter) (by decide +kernel)) (fun _ _ _ _ _ => (pg_name (i := 3) sc__law_filter.nd rfl (Or.inl rfl))) (fun _ _ _ _ _ => pts_nil) (fun _ _ _ _ _ => (pe_op op_mod (pe_callTy (r := rInt1) call_int1 (by rfl) T.b_int (by decide +kernel) (pa_cons (pe_op op_sub (pe_ix (r := rIxL K) ix_list (pv 1) (pv 3) (fun _ _ => rfl)) (pe_cutE (pe_ifExp (pt_cmpR op_gt (pv 3) pe_int (nomark _)) (pe_ix (r := rIxL K) ix_list (pv 1) (pe_op op_sub (pv 3) pe_int) (fun _ _ => rfl)) pe_int))) pa_nil)) pe_int))))) pss_nil)
      (pss_cons (ps_if (pt_cmpR op_eq (pv 0) pe_str (nomark _)) (pss_cons (ps_set (i := 4) sc__law_filter.nd rfl (Or.inl rfl) (pe_lst pa_nil))
      (pss_cons (ps_for PassesOwn.never rfl (pi_range1 (by rfl) T.b_range (pa_cons (pv 2) pa_nil)) (pg_name (i := 5) sc__law_filter.nd rfl (Or.inr rfl)) (pss_one (ps_set (i := 4) sc__law_filter.nd rfl (Or.inl rfl) (pe_op op_cat (pv 4) (pe_lc (own := [("k", 3)]) (g := (gName 3)) rfl sc__law_filter.nd (pi_range1 (by rfl) T.b_range (pa_cons (pe_callB (r := Evl.rLenS K) call_len_seq (by rfl) T.b_len (by decide +kernel) (pa_cons (pv 1) pa_nil)) pa_nil)) (blkOk_by (N := N__law_filter) (sc := defScope s__law_filter) (by decide +kernel)) (fun _ _ _ _ _ => (pg_name (i := 3) sc__law_filter.nd rfl (Or.inl rfl))) (fun _ _ _ _ _ => pts_one (pt_cmpR op_eq (pe_op op_mod (pv 3) (pv 2)) (pv 5) (nomark _))) (fun _ _ _ _ _ => (pe_ix (r := rIxL K) ix_list (pv 1) (pv 3) (fun _ _ => rfl))))))))
      (pss_one (ps_ret (pv 4))))) pss_nil)
      (pss_cons (ps_if (pt_cmpR op_eq (pv 0) pe_str (nomark _)) (pss_cons (ps_set (i := 4) sc__law_filter.nd rfl (Or.inl rfl) (pe_lst pa_nil))
      (pss_cons (ps_for PassesOwn.never rfl (pi_list (pv 1)) (pg_name (i := 6) sc__law_filter.nd rfl (Or.inl rfl)) (pss_one (ps_if (pt_cutT (PW.pt (pw_and (pt_cmpR op_gt (pe_callB (r := Evl.rLenS K) call_len_seq (by rfl) T.b_len (by decide +kernel) (pa_cons (pv 4) pa_nil)) pe_int (nomark _)) (pw_and (pt_cmpR op_eq (pe_ix (r := rIxL K) ix_list (pv 4) (pe_un un_neg pe_int) (fun _ _ => rfl)) (pv 6) (nomark _)) (pw_and1 (pt_cmpR op_lt (pe_ix (r := rIxL K) ix_list (pv 4) (pe_un un_neg pe_int) (fun _ _ => rfl)) pe_int (nomark _))))))) (pss_one (ps_asg (pe_op op_add (pe_ix (r := rIxL K) ix_list (pv 4) (pe_un un_neg pe_int) (fun _ _ => rfl)) pe_int) (pg_sub (pv 4) (pe_un un_neg pe_int) set_list))) (pss_one (ps_set (i := 4) sc__law_filter.nd rfl (Or.inl rfl) (pe_op op_cat (pv 4) (pe_lst (pa_cons pe_int (pa_cons (pv 6) pa_nil)))))))))
      (pss_one (ps_ret (pv 4))))) pss_nil)
      (pss_cons (ps_set (i := 7) sc__law_filter.nd rfl (Or.inl rfl) pe_int)
      (pss_cons (ps_for PassesOwn.never rfl (pi_range1 (by rfl) T.b_range (pa_cons (pe_callB (r := Evl.rLenS K) call_len_seq (by rfl) T.b_len (by decide +kernel) (pa_cons (pv 1) pa_nil)) pa_nil)) (pg_name (i := 3) sc__law_filter.nd rfl (Or.inl rfl)) (pss_one (ps_set (i := 7) sc__law_filter.nd rfl (Or.inl rfl) (pe_cutE (pe_ifExp (pt_cmpR op_eq (pe_ix (r := rIxL K) ix_list (pv 1) (pv 3) (fun _ _ => rfl)) pe_int (nomark _)) (pe_op op_add (pv 7) pe_int) pe_int)))))
      (pss_cons (ps_set (i := 7) sc__law_filter.nd rfl (Or.inl rfl) (pe_callB (r := rMin2) (call_min2 rfl) (by rfl) T.b_min (by decide +kernel) (pa_cons (pv 7) (pa_cons pe_int pa_nil))))
      (pss_one (ps_ret (pe_op op_cat (pe_lst (pa_cons (pe_op op_fdiv (pv 7) pe_int) (pa_cons (pe_op op_mod (pv 7) pe_int) pa_nil))) (pe_slice (r := rSlL K) sl_list (pv 1) po_none (po_some (pe_op op_sub (pe_callB (r := Evl.rLenS K) call_len_seq (by rfl) T.b_len (by decide +kernel) (pa_cons (pv 1) pa_nil)) (pv 7))))))))))))), ?_⟩
  unfold appF at q
  have hw4 : wd ≤ 4 ∧ 1 ≤ wd := by rcases hw with rfl | rfl | rfl <;> decide
  walk_at "rd"
  refine rif (fun h1 => ?_) fun h1 => ?_
  · rw [if_pos (show nm = sD from h1), dlt_law] at q
    walk_at "rd"
    rw [List.length_map]
    refine lcR1I (dLaw ns) (Own.nil H) rfl (by omega) (fun x => rfl) ?_ fun p2 H2 o2 => ?_
    · intro i p zs H' Q' hi o' q'
      have hS' := o'.old hS
      walk_at "rd"
      refine r_cutI (fun m => m = if 0 < i then gi ns ((i : Int) - 1) else 0) ?_ ?_
      · walk_at "rd"
        refine rif (fun h2 => ?_) fun h2 => ?_
        · walk_at "rd"
          exact ⟨rfl, _, rfl, (if_pos (by omega)).symm⟩
        · walk_at "rd"
          exact ⟨rfl, _, rfl, (if_neg (by omega)).symm⟩
      rintro m rfl
      walk_at "rd"
      exact q'.here
    · exact q.mk o2 0 rfl
  rw [if_neg (show ¬ nm = sD from h1)] at q
  walk_at "rd"
  refine rif (fun h2 => ?_) fun h2 => ?_
  · rw [if_pos (show nm = sP from h2), ← plnL_eq] at q
    walk_at "rd"
    refine r_newL (Own.nil H) (Nat.zero_le _) fun p1 H1 o1 => ?_
    walk_at "rd"
    refine forR1 (n := wd) rfl (by omega) (fun i σ' H' => ∃ (p : Addr) (v5 : Option V), σ' = [some (.str nm), some (.ref a), some (.int wd), none, some (.ref p), v5, none, none] ∧ Own H H' [(p, .lst ((plnL wd ns i).map V.int))]) ⟨p1, none, rfl, o1⟩ ?_ ?_
    · rintro i σ' H' hi ⟨p, v5, rfl, o⟩
      have hS' := o.old hS
      walk_at "rd"
      refine lcGR (n := ns.length) (fun k => if k % wd == i then some (.int (gi ns (k : Int))) else none) o (by rw [List.length_map]) (by omega) (fun x => rfl) ?_ ?_ fun p2 H2 s2 o2 => ?_
      · intro k q2 zs H'' Q' hk o'' _ q'
        walk_at "rd"
        have e : (if k % wd == i then some (V.int (gi ns (k : Int))) else none).isSome = decide ((k : Int) % (wd : Int) = (i : Int)) := by
          have e2 : (k : Int) % (wd : Int) = ((k % wd : Nat) : Int) := rfl
          rw [e2]
          by_cases hc : k % wd = i
          · rw [if_pos (by simpa using hc)]
            exact (decide_eq_true (by omega)).symm
          · rw [if_neg (by simpa using hc)]
            exact (decide_eq_false (by omega)).symm
        rw [e] at q'
        exact q' _ (Same.refl _)
      · intro k y q2 zs H'' Q' hk hy o'' _ q'
        have hS2 := o''.old hS
        walk_at "rd"
        split at hy
        · cases hy
          exact q'.here
        · cases hy
      · rw [fm_filter] at o2
        have hl1 := plnL_len hw ns (i := i) (by omega)
        have hl2 := plnL_len hw ns (i := i + 1) (by omega)
        have e3 : plnL wd ns (i + 1) = plnL wd ns i ++ ((List.range ns.length).filter fun k => k % wd == i).map fun (k : Nat) => gi ns (k : Int) := by
          unfold plnL
          rw [List.range_succ, List.flatMap_append]
          simp
        rw [e3, List.length_append, List.length_map] at hl2
        refine r_cat o2 (o2.at 1 rfl) (o2.at 0 rfl) (by rw [List.length_map, List.length_map]; omega) fun p3 H3 o3 => ?_
        walk_at "rd"
        refine ⟨p3, _, rfl, ?_⟩
        rw [e3, List.map_append, List.map_map]
        exact o3.pick1 0 rfl
    · rintro σ' H' ⟨p, v5, rfl, o⟩
      walk_at "rd"
      exact q.mk o 0 rfl
  rw [if_neg (show ¬ nm = sP from h2)] at q
  walk_at "rd"
  refine rif (fun h3 => ?_) fun h3 => ?_
  · rw [if_pos (show nm = sR from h3)] at q
    walk_at "rd"
    refine r_newL (Own.nil H) (Nat.zero_le _) fun p1 H1 o1 => ?_
    walk_at "rd"
    refine forL (o1.old hS) (fun i σ' H' => ∃ (p : Addr) (v6 : Option V), σ' = [some (.str nm), some (.ref a), some (.int wd), none, some (.ref p), none, v6, none] ∧ Own H H' [(p, .lst (((ns.take i).foldl push []).map V.int))]) ⟨p1, none, rfl, o1⟩ (fun i σ' H' _ ⟨_, _, _, o⟩ => o.old hS) ?_ ?_
    · rintro i v σ' H' hv ⟨p, v6, rfl, o⟩
      obtain ⟨x, hx, rfl⟩ := int_at hv
      have hev := rns_even (ns.take i) [] rfl
      have hl := rns_len (ns.take i) []
      rw [List.length_take] at hl
      rw [fold_take hx]
      generalize hF : (ns.take i).foldl push [] = ff at *
      simp at hl
      walk_at "rd"
      refine r_cutB (decide (0 < ff.length ∧ gi ff ((ff.length : Int) - 1) = x ∧ gi ff ((ff.length : Int) - 2) < 255)) ?_ ?_
      · walk_at "rd"
        rw [List.length_map]
        refine rif (fun h4 => ?_) fun h4 => ?_
        · walk_at "rd"
          refine r_ixL (o.sqL 0 rfl) (at_neg (d := 1) (by omega) (by omega)) ?_
          walk_at "rd"
          refine rif (fun h5 => ?_) fun h5 => ?_
          · walk_at "rd"
            refine r_ixL (o.sqL 0 rfl) (at_neg (d := 2) (by omega) (by omega)) ?_
            walk_at "rd"
            refine ⟨decide_eq_decide.mpr ⟨fun h6 => ⟨by omega, h5, h6⟩, fun h6 => h6.2.2⟩, rfl⟩
          · walk_at "rd"
            exact ⟨(decide_eq_false fun h6 => h5 h6.2.1).symm, rfl⟩
        · walk_at "rd"
          exact ⟨(decide_eq_false fun h6 => by omega).symm, rfl⟩
      refine rif (fun h4 => ?_) fun h4 => ?_
      · walk_at "rd"
        refine r_ixL (o.sqL 0 rfl) (at_neg (d := 2) (by omega) (by omega)) ?_
        walk_at "rd"
        refine r_setL (k := ff.length - 2) o 0 rfl (by rw [List.length_map]; exact ix_neg (d := 2) (by omega) (by omega)) fun H5 o5 => ?_
        refine ⟨p, _, rfl, ?_⟩
        unfold push
        rw [if_pos h4, List.map_set]
        exact o5
      · walk_at "rd"
        refine r_newL o (Nat.le_of_ble_eq_true rfl) fun p2 H2 o2 => ?_
        refine r_cat o2 (o2.at 1 rfl) (o2.at 0 rfl) (by rw [List.length_map]; simp; omega) fun p3 H3 o3 => ?_
        walk_at "rd"
        refine ⟨p3, _, rfl, ?_⟩
        unfold push
        rw [if_neg h4, List.map_append]
        exact o3.pick1 0 rfl
    · rintro σ' H' ⟨p, v6, rfl, o⟩
      rw [List.length_map, List.take_length] at o
      walk_at "rd"
      exact q.mk o 0 rfl
  rw [if_neg (show ¬ nm = sR from h3), zer_law] at q
  walk_at "rd"
  refine forR1 (n := ns.length) (by rw [List.length_map]) (by rw [List.length_map]; omega) (fun i σ' H' => ∃ (v3 : Option V), σ' = [some (.str nm), some (.ref a), some (.int wd), v3, none, none, none, some (.int (tzF ns i))] ∧ H' = H) ⟨none, rfl, rfl⟩ ?_ ?_
  · rintro i σ' H' hi ⟨v3, rfl, rfl⟩
    walk_at "rd"
    refine r_cutI (fun m => m = tzF ns (i + 1)) ?_ ?_
    · walk_at "rd"
      refine rif (fun h4 => ?_) fun h4 => ?_
      · walk_at "rd"
        refine ⟨rfl, _, rfl, ?_⟩
        show _ = if gi ns (i : Int) = 0 then tzF ns i + 1 else 0
        rw [if_pos h4]
      · walk_at "rd"
        refine ⟨rfl, _, rfl, ?_⟩
        show _ = if gi ns (i : Int) = 0 then tzF ns i + 1 else 0
        rw [if_neg h4]
    rintro m rfl
    walk_at "rd"
    exact ⟨_, rfl, rfl⟩
  · rintro σ' H' ⟨v3, rfl, rfl⟩
    have ht := tz_nn ns ns.length
    have em : (if (65535 : Int) < tzF ns ns.length then 65535 else tzF ns ns.length) = min (tzF ns ns.length) 65535 := by split <;> omega
    walk_at "rd"
    rw [em]
    refine r_newL (Own.nil H') (Nat.le_of_ble_eq_true rfl) fun p1 H1 o1 => ?_
    walk_at "rd"
    rw [List.length_map]
    refine r_slL o1 (o1.old hS) fun p2 H2 o2 => ?_
    rw [show ((ns.length : Int) - min (tzF ns ns.length) 65535) = ((ns.length - (min (tzF ns ns.length) 65535).toNat : Nat) : Int) by omega, cut_hi] at o2
    refine r_cat o2 (o2.at 1 rfl) (o2.at 0 rfl) (by rw [List.length_take, List.length_map]; simp; omega) fun p3 H3 o3 => ?_
    refine q.mk o3 0 ?_
    rw [List.map_append, List.map_take]
    rfl
end

/-! ### the way back gives the bytes again -/
theorem und_dlt {ns : List Int} (hb : By ns) : und (dlt ns) = ns := by
  have h : ∀ i, i ≤ ns.length → ((dlt ns).take i).foldl stepU ([], 0) = (ns.take i, if 0 < i then gi ns ((i : Int) - 1) else 0) := by
    intro i
    induction i with
    | zero => intro _; rfl
    | succ i ih =>
      intro hi
      have hx : (dlt ns)[i]? = some (dLaw ns i) := by rw [dlt_law]; exact mapR_get (by omega)
      have hy := gi_eq (show i < ns.length by omega) rfl
      rw [fold_take hx, ih (by omega)]
      have hg := hb.gi (i := (i : Int)) (by omega) (by omega)
      have e : ((if 0 < i then gi ns ((i : Int) - 1) else 0) + dLaw ns i) % 256 = gi ns (i : Int) := by
        unfold dLaw
        generalize (if 0 < i then gi ns ((i : Int) - 1) else 0) = z
        omega
      generalize (if 0 < i then gi ns ((i : Int) - 1) else 0) = z at *
      unfold stepU
      refine Prod.ext ?_ ?_
      · show ns.take i ++ [_] = ns.take (i + 1)
        rw [List.take_add_one, hy, e]
        rfl
      · show _ = if 0 < i + 1 then gi ns (((i + 1 : Nat) : Int) - 1) else 0
        rw [if_pos (by omega), show (((i + 1 : Nat) : Int) - 1) = (i : Int) by omega]
        exact e
  have hl : (dlt ns).length = ns.length := by rw [dlt_law, mapR_len]
  have h2 := h ns.length (Nat.le_refl _)
  rw [← hl, List.take_length, hl, List.take_length] at h2
  unfold und
  rw [h2]
theorem dlt_by (ns : List Int) : By (dlt ns) := by
  rw [dlt_law]
  intro x hx
  obtain ⟨k, _, rfl⟩ := mapR_mem hx
  unfold dLaw
  omega
theorem set_fold (g : Nat → Int) : ∀ (os : List Nat) (s : List Int), (∀ k ∈ os, k < s.length) → ∀ j, j < s.length → ((os.map fun k => (k, g k)).foldl unplF s)[j]? = some (if j ∈ os then g j else s.getD j 0)
  | [], s, _, j, hj => by
    rw [if_neg (by simp), List.getD_eq_getElem?_getD, List.getElem?_eq_getElem hj]
    show s[j]? = some s[j]
    exact List.getElem?_eq_getElem hj
  | k :: os, s, h, j, hj => by
    rw [List.map_cons, List.foldl_cons]
    have hk := h k List.mem_cons_self
    have e : (unplF s (k, g k)) = s.set k (g k) := rfl
    rw [e, set_fold g os (s.set k (g k)) (fun q hq => by rw [List.length_set]; exact h q (List.mem_cons_of_mem _ hq)) j (by rw [List.length_set]; exact hj)]
    by_cases h1 : j ∈ os
    · rw [if_pos h1, if_pos (List.mem_cons_of_mem _ h1)]
    · rw [if_neg h1]
      by_cases h2 : j = k
      · subst h2
        rw [if_pos List.mem_cons_self, List.getD_eq_getElem?_getD, List.getElem?_set_self hk]
        rfl
      · rw [if_neg (by simp [h1, h2]), List.getD_eq_getElem?_getD, List.getElem?_set_ne (Ne.symm h2), List.getD_eq_getElem?_getD]
theorem zip_map_self (g : Nat → Int) : ∀ os : List Nat, os.zip (os.map g) = os.map fun k => (k, g k)
  | [] => rfl
  | o :: os => by rw [List.map_cons, List.map_cons, List.zip_cons_cons, zip_map_self g os]
theorem pln_len {wd : Nat} (hw : Wd wd) (ns : List Int) : (pln wd ns).length = ns.length := by unfold pln; rw [List.length_map, ord_len hw]
theorem unpl_pln {wd : Nat} (hw : Wd wd) (ns : List Int) : unpl wd (pln wd ns) = ns := by
  unfold unpl
  rw [pln_len hw]
  unfold pln
  rw [zip_map_self]
  refine List.ext_getElem? fun j => ?_
  by_cases hj : j < ns.length
  · rw [set_fold (fun (k : Nat) => gi ns (k : Int)) (ordN ns.length wd) (List.replicate ns.length 0) (fun k hk => by rw [List.length_replicate]; exact (ord_mem hw).mp hk) j (by rw [List.length_replicate]; exact hj), if_pos ((ord_mem hw).mpr hj)]
    exact (gi_eq hj rfl).symm
  · have e := unplF_len ((ordN ns.length wd).map fun (k : Nat) => (k, gi ns (k : Int))) (List.replicate ns.length 0)
    rw [List.length_replicate] at e
    rw [List.getElem?_eq_none (by omega), List.getElem?_eq_none (by omega)]
theorem pln_by {wd : Nat} (hw : Wd wd) {ns : List Int} (hb : By ns) : By (pln wd ns) := by
  intro x hx
  obtain ⟨k, hk, rfl⟩ := List.mem_map.mp hx
  exact hb.gi (by omega) (by have := (ord_mem hw).mp hk; omega)
def flt (ps : List (Int × Int)) : List Int := ps.flatMap fun p => [p.1, p.2]
theorem flt_len : ∀ ps : List (Int × Int), (flt ps).length = 2 * ps.length
  | [] => rfl
  | p :: ps => by
    show ([p.1, p.2] ++ flt ps).length = _
    rw [List.length_append, flt_len ps, List.length_cons]
    simp
    omega
theorem flt_at : ∀ (ps : List (Int × Int)) (k : Nat), k < ps.length → gi (flt ps) (2 * (k : Int)) = (ps.getD k (0, 0)).1 ∧ gi (flt ps) (2 * (k : Int) + 1) = (ps.getD k (0, 0)).2
  | [], k, h => by simp at h
  | p :: ps, 0, _ => ⟨rfl, rfl⟩
  | p :: ps, k + 1, h => by
    have ih := flt_at ps k (by simpa using h)
    have e1 : gi (flt (p :: ps)) (2 * ((k + 1 : Nat) : Int)) = gi (flt ps) (2 * (k : Int)) := by
      unfold gi
      rw [show (2 * ((k + 1 : Nat) : Int)).toNat = (2 * (k : Int)).toNat + 2 by omega]
      rfl
    have e2 : gi (flt (p :: ps)) (2 * ((k + 1 : Nat) : Int) + 1) = gi (flt ps) (2 * (k : Int) + 1) := by
      unfold gi
      rw [show (2 * ((k + 1 : Nat) : Int) + 1).toNat = (2 * (k : Int) + 1).toNat + 2 by omega]
      rfl
    rw [e1, e2]
    exact ih
theorem prs_flt (ps : List (Int × Int)) : prs (flt ps) = ps := by
  refine List.ext_getElem? fun k => ?_
  by_cases hk : k < ps.length
  · have h1 : (prs (flt ps))[k]? = some (gi (flt ps) (2 * (k : Int)), gi (flt ps) (2 * (k : Int) + 1)) := by
      unfold prs
      rw [List.getElem?_map, List.getElem?_range (by rw [flt_len]; omega)]
      rfl
    have h2 := flt_at ps k hk
    rw [h1, h2.1, h2.2, List.getD_eq_getElem?_getD, List.getElem?_eq_getElem hk]
    rfl
  · rw [List.getElem?_eq_none (by rw [prs_len, flt_len]; omega), List.getElem?_eq_none (by omega)]
def gdP (ps : List (Int × Int)) : Prop := ∀ k, k < ps.length → (1 ≤ (ps.getD k (0, 0)).1 ∧ (ps.getD k (0, 0)).1 ≤ 255) ∧ ¬ (0 < k ∧ (ps.getD (k - 1) (0, 0)).1 < 255 ∧ (ps.getD (k - 1) (0, 0)).2 = (ps.getD k (0, 0)).2)
theorem getD_snoc {qs : List (Int × Int)} {p : Int × Int} {k : Nat} : (qs ++ [p]).getD k (0, 0) = if k < qs.length then qs.getD k (0, 0) else if k = qs.length then p else (0, 0) := by
  rw [List.getD_eq_getElem?_getD]
  by_cases h : k < qs.length
  · rw [if_pos h, List.getElem?_append_left h, List.getD_eq_getElem?_getD]
  · rw [if_neg h, List.getElem?_append_right (by omega)]
    by_cases h2 : k = qs.length
    · rw [if_pos h2, h2, Nat.sub_self]; rfl
    · rw [if_neg h2, List.getElem?_eq_none (by simp; omega)]; rfl
theorem flt_snoc (qs : List (Int × Int)) (p : Int × Int) : flt (qs ++ [p]) = flt qs ++ [p.1, p.2] := by unfold flt; rw [List.flatMap_append]; simp
theorem unpk_snoc (qs : List (Int × Int)) (p : Int × Int) : unpk (qs ++ [p]) = unpk qs ++ List.replicate p.1.toNat p.2 := by unfold unpk; rw [List.flatMap_append]; simp
theorem push_good {ps : List (Int × Int)} {xs : List Int} (v : Int) (hg : gdP ps) (hu : unpk ps = xs) : ∃ qs, push (flt ps) v = flt qs ∧ gdP qs ∧ unpk qs = xs ++ [v] := by
  have add : noM (flt ps) v → (∀ q, ps ≠ [] → ps.getLast? = some q → ¬ (q.1 < 255 ∧ q.2 = v)) → ∃ qs, push (flt ps) v = flt qs ∧ gdP qs ∧ unpk qs = xs ++ [v] := by
    intro hn hq
    refine ⟨ps ++ [(1, v)], ?_, ?_, ?_⟩
    · unfold push
      rw [if_neg hn, flt_snoc]
    · intro k hk
      rw [List.length_append] at hk
      simp at hk
      rw [getD_snoc, getD_snoc]
      by_cases h1 : k < ps.length
      · rw [if_pos h1, if_pos (by omega)]
        exact hg k h1
      · have h2 : k = ps.length := by omega
        rw [if_neg h1, if_pos h2]
        refine ⟨⟨(show (1 : Int) ≤ 1 by decide), (show (1 : Int) ≤ 255 by decide)⟩, fun h3 => ?_⟩
        rw [if_pos (by omega), h2] at h3
        have hne : ps ≠ [] := fun e => by rw [e] at h2; simp at h2; omega
        refine hq _ hne (List.getLast?_eq_getElem? ▸ ?_) h3.2
        rw [List.getD_eq_getElem?_getD, List.getElem?_eq_getElem (by omega)]
        rfl
    · rw [unpk_snoc, hu]
      rfl
  rcases List.eq_nil_or_concat ps with e | ⟨qs, ⟨c, u⟩, e⟩
  · subst e
    exact add (fun h => absurd h.1 (by simp [flt])) (fun q h => absurd rfl h)
  · rw [List.concat_eq_append] at e
    subst e
    have hl := hg qs.length (by simp)
    rw [getD_snoc, if_neg (Nat.lt_irrefl _), if_pos rfl] at hl
    obtain ⟨g1, g2⟩ := gi_app2 (flt qs) c u
    by_cases hm : u = v ∧ c < 255
    · obtain ⟨rfl, hc⟩ := hm
      refine ⟨qs ++ [(c + 1, u)], ?_, ?_, ?_⟩
      · rw [flt_snoc, flt_snoc]
        exact push_app (flt qs) c u hc
      · intro k hk
        rw [List.length_append] at hk
        simp at hk
        have h0 := hg k (by rw [List.length_append]; simp; omega)
        rw [getD_snoc, getD_snoc] at h0 ⊢
        by_cases h1 : k < qs.length
        · rw [if_pos h1, if_pos (by omega)] at h0 ⊢
          exact h0
        · have h2 : k = qs.length := by omega
          rw [if_neg h1, if_pos h2] at h0 ⊢
          refine ⟨⟨by have := hl.1.1; show 1 ≤ c + 1; omega, by show c + 1 ≤ 255; omega⟩, fun h3 => h0.2 ?_⟩
          rw [if_pos (by omega)] at h3 ⊢
          exact h3
      · rw [unpk_snoc] at hu ⊢
        rw [← hu]
        have hc1 := hl.1.1
        show unpk qs ++ List.replicate (c + 1).toNat u = _
        rw [show (c + 1).toNat = c.toNat + 1 by omega, List.replicate_succ', ← List.append_assoc]
    · refine add ?_ ?_
      · rw [flt_snoc]
        intro h
        rw [g1, g2] at h
        exact hm h.2
      · intro q _ hq
        rw [List.getLast?_append] at hq
        simp at hq
        subst hq
        exact fun h => hm ⟨h.2, h.1⟩
theorem rns_good : ∀ (ns : List Int) (ps : List (Int × Int)) (xs : List Int), gdP ps → unpk ps = xs → ∃ qs, ns.foldl push (flt ps) = flt qs ∧ gdP qs ∧ unpk qs = xs ++ ns
  | [], ps, xs, hg, hu => ⟨ps, rfl, hg, by rw [hu, List.append_nil]⟩
  | v :: ns, ps, xs, hg, hu => by
    obtain ⟨qs, h1, h2, h3⟩ := push_good v hg hu
    obtain ⟨rs, h4, h5, h6⟩ := rns_good ns qs (xs ++ [v]) h2 h3
    refine ⟨rs, by rw [List.foldl_cons, h1, h4], h5, ?_⟩
    rw [h6, List.append_assoc]
    rfl
theorem rns_flt (ns : List Int) : ∃ qs, rns ns = flt qs ∧ gdP qs ∧ unpk qs = ns := by
  obtain ⟨qs, h1, h2, h3⟩ := rns_good ns [] [] (fun k h => by simp at h) rfl
  exact ⟨qs, h1, h2, h3⟩
theorem unR_rns (ns : List Int) : unR (rns ns) = some ns := by
  obtain ⟨qs, h1, h2, h3⟩ := rns_flt ns
  unfold unR
  rw [h1, flt_len, if_neg (by omega), prs_flt, if_pos, h3]
  exact fun k hk => ⟨fun e => by have := (h2 k hk).1.1; omega, (h2 k hk).2⟩
theorem mem_unpk {ps : List (Int × Int)} (hg : gdP ps) {p : Int × Int} (hp : p ∈ ps) : p.2 ∈ unpk ps ∧ 1 ≤ p.1 ∧ p.1 ≤ 255 := by
  obtain ⟨k, hk⟩ := List.mem_iff_getElem?.mp hp
  have hlt := (List.getElem?_eq_some_iff.mp hk).1
  have h := (hg k hlt).1
  rw [List.getD_eq_getElem?_getD, hk] at h
  refine ⟨?_, h⟩
  unfold unpk
  rw [List.mem_flatMap]
  refine ⟨p, hp, ?_⟩
  rw [List.mem_replicate]
  have h1 : 1 ≤ p.1 := h.1
  exact ⟨by omega, rfl⟩
theorem rns_by {ns : List Int} (hb : By ns) : By (rns ns) := by
  obtain ⟨qs, h1, h2, h3⟩ := rns_flt ns
  rw [h1]
  intro x hx
  obtain ⟨p, hp, hx2⟩ := List.mem_flatMap.mp hx
  obtain ⟨m1, m2, m3⟩ := mem_unpk h2 hp
  rw [h3] at m1
  simp only [List.mem_cons, List.not_mem_nil, or_false] at hx2
  rcases hx2 with rfl | rfl
  · omega
  · exact hb _ m1
theorem kz_zero (ns : List Int) : ∀ k, (∀ j, k ≤ j → j < ns.length → gi ns (j : Int) = 0) → ∀ j, kz ns k ≤ j → j < ns.length → gi ns (j : Int) = 0
  | 0, h, j, h1, h2 => h j h1 h2
  | k + 1, h, j, h1, h2 => by
    unfold kz at h1
    split at h1
    · rename_i hc
      refine kz_zero ns k (fun i h3 h4 => ?_) j h1 h2
      by_cases e : i = k
      · rw [e]; exact hc.1
      · exact h i (by omega) h4
    · exact h j h1 h2
theorem kz_stop (ns : List Int) : ∀ k, 0 < kz ns k → ¬ (gi ns ((kz ns k : Int) - 1) = 0 ∧ ns.length - kz ns k < 65535)
  | 0, h => by unfold kz at h; omega
  | k + 1, h => by
    unfold kz at h ⊢
    by_cases hc : gi ns (k : Int) = 0 ∧ ns.length - (k + 1) < 65535
    · rw [if_pos hc] at h ⊢
      exact kz_stop ns k h
    · rw [if_neg hc] at h ⊢
      rw [show (((k + 1 : Nat) : Int) - 1) = (k : Int) by omega]
      exact hc
theorem zer_len (ns : List Int) : (zer ns).length = kz ns ns.length + 2 := by
  have hle := kz_le ns ns.length
  unfold zer
  rw [List.length_append, List.length_take]
  simp
  omega
theorem unZ_zer (ns : List Int) : unZ (zer ns) = some ns := by
  have hle := kz_le ns ns.length
  have hl := zer_len ns
  have hc : cntZ (zer ns) = ((ns.length - kz ns ns.length : Nat) : Int) := by
    unfold cntZ zer gi
    show ((ns.length - kz ns ns.length : Nat) : Int) / 256 * 256 + ((ns.length - kz ns ns.length : Nat) : Int) % 256 = _
    omega
  have hd : (zer ns).drop 2 = ns.take (kz ns ns.length) := by unfold zer; rfl
  unfold unZ
  rw [if_neg (by omega), hc, if_neg, hd]
  · congr 1
    have h2 := List.take_append_drop (kz ns ns.length) ns
    conv => rhs; rw [← h2]
    congr 1
    rw [Int.toNat_natCast]
    refine (List.eq_replicate_iff.mpr ⟨by rw [List.length_drop], fun x hx => ?_⟩).symm
    obtain ⟨j, hj⟩ := List.mem_iff_getElem?.mp hx
    rw [List.getElem?_drop] at hj
    have hlt := (List.getElem?_eq_some_iff.mp hj).1
    have h3 := kz_zero ns ns.length (fun j h1 h2 => by omega) (kz ns ns.length + j) (by omega) hlt
    rw [gi_of hj] at h3
    exact h3
  · intro h
    have hk : 0 < kz ns ns.length := by omega
    have h4 := kz_stop ns ns.length hk
    refine h4 ⟨?_, by omega⟩
    have h5 := h.2.1
    unfold gi at h5 ⊢
    rw [hl, show (((kz ns ns.length + 2 : Nat) : Int) - 1).toNat = kz ns ns.length - 1 + 2 by omega] at h5
    rw [show ((kz ns ns.length : Int) - 1).toNat = kz ns ns.length - 1 by omega]
    rw [List.getD_eq_getElem?_getD] at h5 ⊢
    have h6 : (zer ns)[kz ns ns.length - 1 + 2]? = (ns.take (kz ns ns.length))[kz ns ns.length - 1]? := by
      rw [← hd, List.getElem?_drop, Nat.add_comm]
    rw [h6, List.getElem?_take, if_pos (by omega)] at h5
    exact h5
theorem kz_ge (ns : List Int) : ∀ k, k ≤ ns.length → ns.length - k ≤ 65535 → ns.length - kz ns k ≤ 65535
  | 0, _, h => h
  | k + 1, hk, h => by
    unfold kz
    split
    · exact kz_ge ns k (by omega) (by omega)
    · exact h
theorem zer_by2 {ns : List Int} (hb : By ns) : By (zer ns) := by
  have h := kz_ge ns ns.length (Nat.le_refl _) (by omega)
  unfold zer
  refine By.app (fun x hx => ?_) (hb.take _)
  simp only [List.mem_cons, List.not_mem_nil, or_false] at hx
  rcases hx with rfl | rfl <;> omega
theorem und_app {nm : Str} {wd : Nat} {ns : List Int} (hw : Wd wd) (hb : By ns) : undF nm wd (appF nm wd ns) = some ns := by
  unfold undF appF
  by_cases h1 : nm = sD
  · rw [if_pos h1, if_pos h1, und_dlt hb]
  · rw [if_neg h1, if_neg h1]
    by_cases h2 : nm = sP
    · rw [if_pos h2, if_pos h2, unpl_pln hw]
    · rw [if_neg h2, if_neg h2]
      by_cases h3 : nm = sR
      · rw [if_pos h3, if_pos h3, unR_rns]
      · rw [if_neg h3, if_neg h3, unZ_zer]
theorem app_by {nm : Str} {wd : Nat} {ns : List Int} (hw : Wd wd) (hb : By ns) : By (appF nm wd ns) := by
  unfold appF
  split
  · exact dlt_by ns
  · split
    · exact pln_by hw hb
    · split
      · exact rns_by hb
      · exact zer_by2 hb
theorem app_len {nm : Str} {wd : Nat} {ns : List Int} (hw : Wd wd) : (appF nm wd ns).length ≤ 2 * ns.length + 2 := by
  unfold appF
  split
  · rw [dlt_law, mapR_len]; omega
  · split
    · rw [pln_len hw]; omega
    · split
      · have := rns_len ns []
        unfold rns
        simp at this
        omega
      · have := kz_le ns ns.length
        rw [zer_len]
        omega

section
variable {P : Program} {w : World} {K : PySem.W.Frag} {mg : Str → Option Value} {base : Heap}
theorem r_iRA {te : TE} {σ : L2.St} {H : Hp} {R : It → Hp → Prop} (q : te σ H fun v H1 => ∃ (a : Addr) (xs : List V), v = .ref a ∧ ((SqL K H1 a xs ∧ R (Itv K a xs.length) H1) ∨ (SqT K H1 a xs ∧ R (RT.ItvT K a xs.length) H1))) : RT.iRevA K te σ H R := q
def appC (nms : List Str) (wd : Nat) (ns : List Int) : List Int := nms.foldl (fun zs nm => appF nm wd zs) ns
theorem appC_snoc (nms : List Str) (nm : Str) (wd : Nat) (ns : List Int) : appC (nms ++ [nm]) wd ns = appF nm wd (appC nms wd ns) := by unfold appC; rw [List.foldl_append]; rfl
theorem appC_take {nms : List Str} {i : Nat} {nm : Str} (wd : Nat) (ns : List Int) (h : nms[i]? = some nm) : appC (nms.take (i + 1)) wd ns = appF nm wd (appC (nms.take i) wd ns) := by
  rw [List.take_add_one, h]
  exact appC_snoc _ _ _ _
theorem appC_by {wd : Nat} (hw : Wd wd) : ∀ (nms : List Str) {ns : List Int}, By ns → By (appC nms wd ns)
  | [], _, h => h
  | nm :: nms, _, h => appC_by hw nms (app_by (nm := nm) hw h)
theorem appC_len {wd : Nat} (hw : Wd wd) : ∀ (nms : List Str) (ns : List Int), (appC nms wd ns).length + 2 ≤ 2 ^ nms.length * (ns.length + 2)
  | [], ns => by show ns.length + 2 ≤ 2 ^ 0 * (ns.length + 2); omega
  | nm :: nms, ns => by
    have h1 := appC_len hw nms (appF nm wd ns)
    have h2 := app_len (nm := nm) (ns := ns) hw
    have h3 : 2 ^ nms.length * ((appF nm wd ns).length + 2) ≤ 2 ^ nms.length * (2 * (ns.length + 2)) := Nat.mul_le_mul_left _ (by omega)
    have e : 2 ^ (nm :: nms).length * (ns.length + 2) = 2 ^ nms.length * (2 * (ns.length + 2)) := by rw [List.length_cons, Nat.pow_succ, Nat.mul_assoc]
    have e2 : appC (nm :: nms) wd ns = appC nms wd (appF nm wd ns) := rfl
    rw [e2, e]
    exact Nat.le_trans h1 h3
theorem appC_len6 {wd : Nat} (hw : Wd wd) (nms : List Str) (i : Nat) {ns : List Int} (hl : nms.length ≤ 6) (hn : ns.length ≤ 749) : (appC (nms.take i) wd ns).length ≤ 48062 := by
  have h1 := appC_len hw (nms.take i) ns
  have h2 : (nms.take i).length ≤ 6 := by rw [List.length_take]; omega
  have h3 : 2 ^ (nms.take i).length ≤ 2 ^ 6 := Nat.pow_le_pow_right (by decide) h2
  have h4 : 2 ^ (nms.take i).length * (ns.length + 2) ≤ 2 ^ 6 * (749 + 2) := Nat.mul_le_mul h3 (by omega)
  omega
def sp_chain (K : PySem.W.Frag) : Sp := fun vs H Q _ => ∃ (t a : Addr) (nms : List Str) (ns : List Int) (wd : Nat), vs = [.ref t, .ref a, .int wd] ∧ SqT K H t (nms.map V.str) ∧ nms.length ≤ 6 ∧ SqL K H a (ns.map V.int) ∧ By ns ∧ Wd wd ∧ ns.length ≤ 749 ∧ RetO H Q (.lst ((appC nms wd ns).map V.int))
def sp_unchain (K : PySem.W.Frag) : Sp := fun vs H Q _ => ∃ (t a : Addr) (nms : List Str) (ns : List Int) (wd : Nat), vs = [.ref t, .ref a, .int wd] ∧ SqT K H t (nms.map V.str) ∧ nms.length ≤ 6 ∧ SqL K H a ((appC nms wd ns).map V.int) ∧ By ns ∧ Wd wd ∧ ns.length ≤ 749 ∧ RetO H Q (.lst (ns.map V.int))
end

/-! ### the kinds -/
def KS : List Str := [PySem.Str.ofString "i1", PySem.Str.ofString "i2", PySem.Str.ofString "i4", PySem.Str.ofString "u1", PySem.Str.ofString "u2", PySem.Str.ofString "u4"]
def kW (z : Str) : Int := ((z.cps.getD 1 0 : Nat) : Int) - 48
def kU (z : Str) : Bool := z.cps.getD 0 0 == 117
def kC (z : Str) : Int := 256 ^ (kW z).toNat
def kLow (z : Str) : Int := if kU z then 0 else -(kC z / 2)
def kHigh (z : Str) : Int := kLow z + kC z - 1
theorem k_at1 : ∀ z ∈ KS, atI z.cps.toList 1 = some (z.cps.getD 1 0) := by decide +kernel
theorem k_at0 : ∀ z ∈ KS, atI z.cps.toList 0 = some (z.cps.getD 0 0) := by decide +kernel
theorem k_int : ∀ z ∈ KS, PySem.intText? ⟨#[z.cps.getD 1 0]⟩ = some (kW z) := by decide +kernel
theorem k_len : ∀ z ∈ KS, z.length = 2 := by decide +kernel
theorem k_w : ∀ z ∈ KS, 1 ≤ kW z ∧ kW z ≤ 4 := by decide +kernel
theorem k_w3 : ∀ z ∈ KS, kW z = 1 ∨ kW z = 2 ∨ kW z = 4 := by decide +kernel
theorem k_shl : ∀ z ∈ KS, 1 * (2 : Int) ^ (8 * kW z).toNat = kC z := by decide +kernel
theorem k_i : ∀ z ∈ KS, decide ((⟨#[z.cps.getD 0 0]⟩ : Str) = PySem.Str.ofString "i") = !kU z := by decide +kernel
theorem k_c : ∀ z ∈ KS, 256 ≤ kC z ∧ kC z ≤ 4294967296 := by decide +kernel
section
variable {P : Program} {w : World} {K : PySem.W.Frag} {mg : Str → Option Value} {base : Heap}
def sp_kI (g : Str → Int) : Sp := fun vs H Q _ => ∃ (z : Str), vs = [.str z] ∧ z ∈ KS ∧ Q (.int (g z)) H
theorem d_width (T : Top K mg) : Def P w K mg base CX0 1 "width" ["kind"] (sp_kI kW) := by
  refine T.f_width.ok sc_width (by rintro vs H Q E ⟨z, rfl, _⟩; rfl) (fun f cdv A outer s H vs Q E hr h => ?_)
  obtain ⟨z, rfl, hz, q⟩ := h
  refine ⟨_, (pss_one (ps_ret (pe_callTy (r := rIntS) call_int_str (by rfl) T.b_int (by decide +kernel) (pa_cons (pe_ix ix_str (pv 0) pe_int (fun _ _ => rfl)) pa_nil)))), ?_⟩
  walk_at "rd"
  refine ⟨z, 1, _, rfl, rfl, sz100 (by rw [k_len z hz]; decide), k_at1 z hz, ?_⟩
  walk_at "rd"
  exact ⟨_, _, rfl, k_int z hz, by show 1 ≤ 640; decide, q⟩
theorem d_value_count (T : Top K mg) : Def P w K mg base CX0 2 "value_count" ["kind"] (sp_kI kC) := by
  have G_width : Def P w K mg base CX0 1 "width" ["kind"] (sp_kI kW) := d_width T
  refine T.f_value_count.ok sc_value_count (by rintro vs H Q E ⟨z, rfl, _⟩; rfl) (fun f cdv A outer s H vs Q E hr h => ?_)
  obtain ⟨z, rfl, hz, q⟩ := h
  refine ⟨_, (pss_one (ps_ret (pe_op op_shl pe_int (pe_op op_mul pe_int (pe_callD G_width (hr.mono (by decide)) (pa_cons (pv 0) pa_nil)))))), ?_⟩
  walk_at "rd"
  refine ⟨_, rfl, hz, ?_⟩
  have hw := k_w z hz
  walk_at "rd"
  rw [k_shl z hz]
  exact q
theorem d_least (T : Top K mg) : Def P w K mg base CX0 3 "least" ["kind"] (sp_kI kLow) := by
  have G_value_count : Def P w K mg base CX0 2 "value_count" ["kind"] (sp_kI kC) := d_value_count T
  refine T.f_least.ok sc_least (by rintro vs H Q E ⟨z, rfl, _⟩; rfl) (fun f cdv A outer s H vs Q E hr h => ?_)
  obtain ⟨z, rfl, hz, q⟩ := h
  refine ⟨_, (pss_cons (ps_if (pt_cmpR op_eq (pe_ix ix_str (pv 0) pe_int (fun _ _ => rfl)) pe_str (nomark _)) (pss_one (ps_ret (pe_un un_neg (pe_op op_fdiv (pe_callD G_value_count (hr.mono (by decide)) (pa_cons (pv 0) pa_nil)) pe_int)))) pss_nil)
      (pss_one (ps_ret pe_int))), ?_⟩
  walk_at "rd"
  refine ⟨z, 0, _, rfl, rfl, sz100 (by rw [k_len z hz]; decide), k_at0 z hz, ?_⟩
  walk_at "rd"
  rw [k_i z hz]
  unfold kLow at q
  cases hu : kU z with
  | true =>
    rw [hu, if_pos rfl] at q
    walk_at "rd"
    exact q
  | false =>
    rw [hu, if_neg (by decide)] at q
    walk_at "rd"
    refine ⟨_, rfl, hz, ?_⟩
    walk_at "rd"
    exact q
theorem d_greatest (T : Top K mg) : Def P w K mg base CX0 4 "greatest" ["kind"] (sp_kI kHigh) := by
  have G_value_count : Def P w K mg base CX0 2 "value_count" ["kind"] (sp_kI kC) := d_value_count T
  have G_least : Def P w K mg base CX0 3 "least" ["kind"] (sp_kI kLow) := d_least T
  refine T.f_greatest.ok sc_greatest (by rintro vs H Q E ⟨z, rfl, _⟩; rfl) (fun f cdv A outer s H vs Q E hr h => ?_)
  obtain ⟨z, rfl, hz, q⟩ := h
  refine ⟨_, (pss_one (ps_ret (pe_op op_sub (pe_op op_add (pe_callD G_least (hr.mono (by decide)) (pa_cons (pv 0) pa_nil)) (pe_callD G_value_count (hr.mono (by decide)) (pa_cons (pv 0) pa_nil))) pe_int))), ?_⟩
  walk_at "rd"
  refine ⟨_, rfl, hz, ?_⟩
  walk_at "rd"
  refine ⟨_, rfl, hz, ?_⟩
  walk_at "rd"
  exact q
end

/-! ### values as bytes -/
def digs : Nat → Int → List Int
  | 0, _ => []
  | w + 1, v => v % 256 :: digs w (v / 256)
def undig : List Int → Int
  | [] => 0
  | d :: ds => d + 256 * undig ds
theorem digs_len : ∀ (w : Nat) (v : Int), (digs w v).length = w
  | 0, _ => rfl
  | w + 1, v => by show (digs w (v / 256)).length + 1 = w + 1; rw [digs_len w]
theorem digs_by : ∀ (w : Nat) (v : Int), By (digs w v)
  | 0, _ => fun _ h => nomatch h
  | w + 1, v => fun x hx => by
    rcases List.mem_cons.mp hx with rfl | h
    · omega
    · exact digs_by w _ x h
theorem undig_digs : ∀ (w : Nat) (v : Int), 0 ≤ v → v < 256 ^ w → undig (digs w v) = v
  | 0, v, h0, h => by
    have : v < 1 := h
    show (0 : Int) = v
    omega
  | w + 1, v, h0, h => by
    have h1 : v / 256 < 256 ^ w := by rw [Int.pow_succ] at h; omega
    show v % 256 + 256 * undig (digs w (v / 256)) = v
    rw [undig_digs w (v / 256) (by omega) h1]
    omega
theorem undig_rng : ∀ (ds : List Int), By ds → 0 ≤ undig ds ∧ undig ds < 256 ^ ds.length
  | [], _ => ⟨by decide, by decide⟩
  | d :: ds, h => by
    obtain ⟨h1, h2⟩ := undig_rng ds fun x hx => h x (List.mem_cons_of_mem _ hx)
    have h3 := h d List.mem_cons_self
    show 0 ≤ d + 256 * undig ds ∧ d + 256 * undig ds < 256 ^ (ds.length + 1)
    rw [Int.pow_succ]
    omega
theorem digs_undig : ∀ (ds : List Int), By ds → digs ds.length (undig ds) = ds
  | [], _ => rfl
  | d :: ds, h => by
    have h3 := h d List.mem_cons_self
    have h4 := digs_undig ds fun x hx => h x (List.mem_cons_of_mem _ hx)
    show (d + 256 * undig ds) % 256 :: digs ds.length ((d + 256 * undig ds) / 256) = d :: ds
    rw [show (d + 256 * undig ds) % 256 = d by omega, show (d + 256 * undig ds) / 256 = undig ds by omega, h4]
def kN (z : Str) : Nat := (kW z).toNat
def encV (z : Str) (v : Int) : List Int := digs (kN z) (v % kC z)
def decV (z : Str) (ds : List Int) : Int := if kHigh z < undig ds then undig ds - kC z else undig ds
def stV (z : Str) (vs : List Int) : List Int := vs.flatMap (encV z)
def chnk (w : Nat) (zs : List Int) (i : Nat) : List Int := (zs.drop (i * w)).take w
def ldV (z : Str) (zs : List Int) (n : Nat) : List Int := mapR n fun i => decV z (chnk (kN z) zs i)
theorem k_abs : ∀ z ∈ KS, (kN z = 1 ∨ kN z = 2 ∨ kN z = 4) ∧ kC z = 256 ^ kN z ∧ (kC z = 256 ∨ kC z = 65536 ∨ kC z = 4294967296) ∧ (kLow z = 0 ∨ kLow z = -(kC z / 2)) ∧ kHigh z = kLow z + kC z - 1 ∧ kW z = (kN z : Nat) := by decide +kernel
theorem enc_len (z : Str) (v : Int) : (encV z v).length = kN z := digs_len _ _
theorem dec_enc {z : Str} {v : Int} (hz : z ∈ KS) (h0 : kLow z ≤ v) (h1 : v ≤ kHigh z) : decV z (encV z v) = v := by
  obtain ⟨_, h2, h3, h4, h5, _⟩ := k_abs z hz
  unfold decV encV
  have hu : undig (digs (kN z) (v % kC z)) = v % kC z := undig_digs _ _ (Int.emod_nonneg _ (by omega)) (by rw [← h2]; exact Int.emod_lt_of_pos _ (by omega))
  rw [hu]
  rcases h3 with h3 | h3 | h3 <;> rcases h4 with h4 | h4 <;> rw [h3] <;> split <;> omega
theorem enc_dec {z : Str} {ds : List Int} (hz : z ∈ KS) (hb : By ds) (hl : ds.length = kN z) : encV z (decV z ds) = ds := by
  obtain ⟨_, h2, h3, h4, h5, _⟩ := k_abs z hz
  obtain ⟨h6, h7⟩ := undig_rng ds hb
  rw [hl, ← h2] at h7
  have he : decV z ds % kC z = undig ds := by
    unfold decV
    rcases h3 with h3 | h3 | h3 <;> rw [h3] <;> split <;> omega
  unfold encV
  rw [he, ← hl]
  exact digs_undig ds hb
theorem dec_rng {z : Str} {ds : List Int} (hz : z ∈ KS) (hb : By ds) (hl : ds.length = kN z) : kLow z ≤ decV z ds ∧ decV z ds ≤ kHigh z := by
  obtain ⟨_, h2, h3, h4, h5, _⟩ := k_abs z hz
  obtain ⟨h6, h7⟩ := undig_rng ds hb
  rw [hl, ← h2] at h7
  unfold decV
  rcases h3 with h3 | h3 | h3 <;> rcases h4 with h4 | h4 <;> split <;> omega
theorem st_len (z : Str) : ∀ vs : List Int, (stV z vs).length = vs.length * kN z
  | [] => by show 0 = 0 * _; omega
  | v :: vs => by
    show (encV z v ++ stV z vs).length = (vs.length + 1) * kN z
    rw [List.length_append, enc_len, st_len z vs, Nat.add_mul]
    omega
theorem st_by (z : Str) : ∀ vs : List Int, By (stV z vs)
  | [] => fun _ h => nomatch h
  | v :: vs => By.app (digs_by _ _) (st_by z vs)
theorem st_snoc (z : Str) (vs : List Int) (v : Int) : stV z (vs ++ [v]) = stV z vs ++ encV z v := by unfold stV; rw [List.flatMap_append]; simp
theorem chk_st (z : Str) : ∀ (vs : List Int) (i : Nat) (h : i < vs.length), chnk (kN z) (stV z vs) i = encV z vs[i]
  | v :: vs, 0, _ => by
    show ((encV z v ++ stV z vs).drop (0 * kN z)).take (kN z) = encV z v
    rw [Nat.zero_mul, List.drop_zero, List.take_left' (enc_len z v)]
  | v :: vs, i + 1, h => by
    have ih := chk_st z vs i (Nat.lt_of_succ_lt_succ h)
    show ((encV z v ++ stV z vs).drop ((i + 1) * kN z)).take (kN z) = encV z (vs[i]'(Nat.lt_of_succ_lt_succ h))
    rw [← ih, show (i + 1) * kN z = (encV z v).length + i * kN z by rw [enc_len, Nat.add_mul]; omega, ← List.drop_drop, List.drop_left]
    rfl
theorem ld_st {z : Str} {vs : List Int} (hz : z ∈ KS) (hr : ∀ v ∈ vs, kLow z ≤ v ∧ v ≤ kHigh z) : ldV z (stV z vs) vs.length = vs := by
  apply List.ext_getElem
  · exact mapR_len _ _
  · intro i h1 h2
    have e : (ldV z (stV z vs) vs.length)[i]? = some (decV z (chnk (kN z) (stV z vs) i)) := mapR_get h2
    rw [List.getElem?_eq_getElem h1] at e
    rw [Option.some.inj e, chk_st z vs i h2]
    have := hr vs[i] (List.getElem_mem h2)
    exact dec_enc hz this.1 this.2
theorem chk_flat (w : Nat) : ∀ (n : Nat) (zs : List Int), zs.length = n * w → (List.range n).flatMap (chnk w zs) = zs
  | 0, zs, h => by
    have : zs = [] := List.length_eq_zero_iff.mp (by omega)
    rw [this]
    rfl
  | n + 1, zs, h => by
    have h1 : zs.length = n * w + w := by rw [h, Nat.add_mul, Nat.one_mul]
    have ih := chk_flat w n (zs.drop w) (by rw [List.length_drop]; omega)
    rw [List.range_succ_eq_map, List.flatMap_cons, List.flatMap_map]
    have e : (fun i => chnk w zs (i + 1)) = chnk w (zs.drop w) := by
      funext i
      unfold chnk
      rw [List.drop_drop, show (i + 1) * w = w + i * w by rw [Nat.add_mul]; omega]
    show chnk w zs 0 ++ (List.range n).flatMap (fun i => chnk w zs (i + 1)) = zs
    rw [e, ih]
    unfold chnk
    rw [Nat.zero_mul, List.drop_zero, List.take_append_drop]
theorem chk_len {w n i : Nat} {zs : List Int} (h : zs.length = n * w) (hi : i < n) : (chnk w zs i).length = w := by
  unfold chnk
  have : i * w + w ≤ n * w := by rw [← Nat.succ_mul]; exact Nat.mul_le_mul_right _ hi
  rw [List.length_take, List.length_drop]
  omega
theorem chk_by {w i : Nat} {zs : List Int} (hb : By zs) : By (chnk w zs i) := fun x hx => hb x (List.mem_of_mem_drop (List.mem_of_mem_take hx))
theorem st_ld {z : Str} {zs : List Int} {n : Nat} (hz : z ∈ KS) (hb : By zs) (hl : zs.length = n * kN z) : stV z (ldV z zs n) = zs := by
  have e : stV z (ldV z zs n) = (List.range n).flatMap (chnk (kN z) zs) := by
    unfold stV ldV mapR
    rw [List.flatMap_map, List.flatMap_def, List.flatMap_def]
    congr 1
    apply List.map_congr_left
    intro i hi
    exact enc_dec hz (chk_by hb) (chk_len hl (List.mem_range.mp hi))
  rw [e, chk_flat _ _ _ hl]
theorem ld_len (z : Str) (zs : List Int) (n : Nat) : (ldV z zs n).length = n := mapR_len _ _
theorem ld_rng {z : Str} {zs : List Int} {n : Nat} (hz : z ∈ KS) (hb : By zs) (hl : zs.length = n * kN z) : ∀ v ∈ ldV z zs n, kLow z ≤ v ∧ v ≤ kHigh z := by
  intro v hv
  obtain ⟨i, hi, rfl⟩ := mapR_mem hv
  exact dec_rng hz (chk_by hb) (chk_len hl hi)
theorem take_snoc {ns : List Int} {i : Nat} {v : Int} (h : ns[i]? = some v) : ns.take (i + 1) = ns.take i ++ [v] := by rw [List.take_add_one, h]; rfl
theorem ud_step {zs : List Int} {m j : Nat} (h : m < zs.length) : undig ((zs.drop m).take (j + 1)) = gi zs (m : Int) + 256 * undig ((zs.drop (m + 1)).take j) := by
  rw [gi_nat h, List.drop_eq_getElem_cons h]
  rfl
theorem ud_bnd {zs : List Int} {m j : Nat} (hb : By zs) (hj : j ≤ 4) : 0 ≤ undig ((zs.drop m).take j) ∧ undig ((zs.drop m).take j) < 4294967296 := by
  have h := undig_rng ((zs.drop m).take j) fun x hx => hb x (List.mem_of_mem_drop (List.mem_of_mem_take hx))
  have h2 : ((zs.drop m).take j).length ≤ 4 := by rw [List.length_take]; omega
  refine ⟨h.1, ?_⟩
  revert h h2
  generalize ((zs.drop m).take j).length = l
  generalize undig ((zs.drop m).take j) = u
  intro h h2
  have : l = 0 ∨ l = 1 ∨ l = 2 ∨ l = 3 ∨ l = 4 := by omega
  rcases this with rfl | rfl | rfl | rfl | rfl <;> have := h.2 <;> omega
theorem ld_snoc (z : Str) (zs : List Int) (i : Nat) : ldV z zs (i + 1) = ldV z zs i ++ [decV z (chnk (kN z) zs i)] := by
  unfold ldV mapR
  rw [List.range_succ, List.map_append]
  rfl

section
variable {P : Program} {w : World} {K : PySem.W.Frag} {mg : Str → Option Value} {base : Heap}
theorem rgc_mul {n wd : Nat} (hw : wd = 1 ∨ wd = 2 ∨ wd = 4) (hn : n ≤ 1000000) : RgC 0 ((n * wd : Nat) : Int) (wd : Int) n := by
  have e : PySem.Builtin.Range.rangeSize 0 ((n * wd : Nat) : Int) (wd : Int) = n := by
    unfold PySem.Builtin.Range.rangeSize
    rcases hw with rfl | rfl | rfl <;> rw [if_pos (by decide)] <;> split <;> omega
  refine ⟨by rcases hw with rfl | rfl | rfl <;> decide, by rcases hw with rfl | rfl | rfl <;> decide, ?_, e⟩
  unfold PySem.Builtin.Range.small
  rw [e]
  have hnw : n * wd ≤ 4000000 := by rcases hw with rfl | rfl | rfl <;> omega
  have hwd : wd ≤ 4 := by rcases hw with rfl | rfl | rfl <;> decide
  have hpos : (wd : Int) > 0 := by rcases hw with rfl | rfl | rfl <;> decide
  have fitsL : ∀ {x : Int}, -(2 ^ 62) ≤ x ∧ x < 2 ^ 62 → PySem.Builtin.Range.rangeFitsLong x = true := by
    intro x h
    unfold PySem.Builtin.Range.rangeFitsLong
    simp
    omega
  rw [if_pos hpos]
  generalize n * wd = m at *
  simp only [fitsL (show -(2 ^ 62) ≤ (0 : Int) ∧ (0 : Int) < 2 ^ 62 by omega), fitsL (show -(2 ^ 62) ≤ (m : Int) ∧ (m : Int) < 2 ^ 62 by omega), fitsL (show -(2 ^ 62) ≤ (wd : Int) ∧ (wd : Int) < 2 ^ 62 by omega), fitsL (show -(2 ^ 62) ≤ ((n : Nat) : Int) ∧ ((n : Nat) : Int) < 2 ^ 62 by omega), fitsL (show -(2 ^ 62) ≤ (m : Int) + ((wd : Int) - 1) ∧ (m : Int) + ((wd : Int) - 1) < 2 ^ 62 by omega)]
  simp
/-- a dict of texts and values, and what it holds -/
theorem r_disp {H0 H : Hp} {L : List (Addr × HO)} {trs : List (TE × TE)} {σ : L2.St} {Q : VK} (kvs : List (Key × V)) (o : Own H0 H L) (h : ∀ (H2 : Hp) (R : List (V × V) → Hp → Prop), R (kvs.map fun kv => (kV kv.1, kv.2)) H2 → tPairs trs σ H2 R) (hz : kvs.length ≤ 15)
    (k : ∀ p H', Own H0 H' ((p, .dK (mergeK [] kvs)) :: L) → Q (.ref p) H') : tDisp trs σ H Q := by
  intro p hp
  refine h _ _ ⟨by unfold upd; rw [if_pos rfl], kvs, rfl, hz, ?_⟩
  have e : upd (upd H p (.dK [])) p (.dK (mergeK [] kvs)) = upd H p (.dK (mergeK [] kvs)) := by
    funext b
    unfold upd
    split <;> rfl
  rw [e]
  exact k p _ (o.new hp)
theorem r_pp {tk tv : TE} {r : List (TE × TE)} {σ : L2.St} {H : Hp} {Q : List (V × V) → Hp → Prop} (q : tk σ H fun x H1 => tv σ H1 fun y H2 => tPairs r σ H2 fun ps H3 => Q ((x, y) :: ps) H3) : tPairs ((tk, tv) :: r) σ H Q := q
theorem r_pn {σ : L2.St} {H : Hp} {Q : List (V × V) → Hp → Prop} (q : Q [] H) : tPairs [] σ H Q := q
theorem r_dget {td ty : TE} {σ : L2.St} {H : Hp} {Q : VK} (q : td σ H fun x H1 => ty σ H1 fun y H2 => ∃ a v, x = .ref a ∧ DGet H2 a y (some v) ∧ Q v H2) : tDGet td ty σ H Q := q
def kvI (xs : List (Str × Int)) : List (Key × V) := xs.map fun p => (.inr p.1, .int p.2)
def LOWS : List (Str × Int) := [(PySem.Str.ofString "i1", -128), (PySem.Str.ofString "i2", -32768), (PySem.Str.ofString "i4", -2147483648), (PySem.Str.ofString "u1", 0), (PySem.Str.ofString "u2", 0), (PySem.Str.ofString "u4", 0)]
def HIGHS : List (Str × Int) := [(PySem.Str.ofString "i1", 127), (PySem.Str.ofString "i2", 32767), (PySem.Str.ofString "i4", 2147483647), (PySem.Str.ofString "u1", 255), (PySem.Str.ofString "u2", 65535), (PySem.Str.ofString "u4", 4294967295)]
theorem low_get {z : Str} (hz : z ∈ KS) : valV (mergeK [] (kvI LOWS)) (.inr z) = some (.int (kLow z)) := by
  simp only [KS, List.mem_cons, List.not_mem_nil, or_false] at hz
  rcases hz with rfl | rfl | rfl | rfl | rfl | rfl
  · exact congrArg (fun x : Int => some (V.int x)) (show (-128 : Int) = kLow _ by decide +kernel)
  · exact congrArg (fun x : Int => some (V.int x)) (show (-32768 : Int) = kLow _ by decide +kernel)
  · exact congrArg (fun x : Int => some (V.int x)) (show (-2147483648 : Int) = kLow _ by decide +kernel)
  · exact congrArg (fun x : Int => some (V.int x)) (show (0 : Int) = kLow _ by decide +kernel)
  · exact congrArg (fun x : Int => some (V.int x)) (show (0 : Int) = kLow _ by decide +kernel)
  · exact congrArg (fun x : Int => some (V.int x)) (show (0 : Int) = kLow _ by decide +kernel)
theorem high_get {z : Str} (hz : z ∈ KS) : valV (mergeK [] (kvI HIGHS)) (.inr z) = some (.int (kHigh z)) := by
  simp only [KS, List.mem_cons, List.not_mem_nil, or_false] at hz
  rcases hz with rfl | rfl | rfl | rfl | rfl | rfl
  · exact congrArg (fun x : Int => some (V.int x)) (show (127 : Int) = kHigh _ by decide +kernel)
  · exact congrArg (fun x : Int => some (V.int x)) (show (32767 : Int) = kHigh _ by decide +kernel)
  · exact congrArg (fun x : Int => some (V.int x)) (show (2147483647 : Int) = kHigh _ by decide +kernel)
  · exact congrArg (fun x : Int => some (V.int x)) (show (255 : Int) = kHigh _ by decide +kernel)
  · exact congrArg (fun x : Int => some (V.int x)) (show (65535 : Int) = kHigh _ by decide +kernel)
  · exact congrArg (fun x : Int => some (V.int x)) (show (4294967295 : Int) = kHigh _ by decide +kernel)
def sp_kV (g : Str → Int) : Sp := fun vs H Q _ => ∃ (z : Str), vs = [.str z] ∧ z ∈ KS ∧ RetV H Q (.int (g z))
theorem d_low (T : Top K mg) : Def P w K mg base CX0 1 "_law_low" ["kind"] (sp_kV kLow) := by
  refine T.f__law_low.ok sc__law_low (by rintro vs H Q E ⟨z, rfl, _⟩; rfl) (fun f cdv A outer s H vs Q E hr h => ?_)
  obtain ⟨z, rfl, hz, q⟩ := h
  refine ⟨_, (pss_one (ps_ret (pe_dget (Nat.lt_of_le_of_lt (Nat.add_le_add_left (by decide) _) hr.units) (pe_disp (pps_cons pe_str (pe_un un_neg pe_int) (pps_cons pe_str (pe_un un_neg pe_int) (pps_cons pe_str (pe_un un_neg pe_int) (pps_cons pe_str pe_int (pps_cons pe_str pe_int (pps_cons pe_str pe_int pps_nil)))))) (by rfl) (by rfl) (fun z => by cases z) (by decide)) (pv 0) (fun _ _ => rfl)))), ?_⟩
  walk_at "rd"
  refine r_dget ?_
  refine r_disp (kvI LOWS) (Own.nil H) ?h (by decide) fun p1 H1 o1 => ?_
  case h =>
    intro _ _ r
    repeat (refine r_pp ?_; walk_at "rd")
    exact r_pn r
  walk_at "rd"
  exact ⟨_, _, rfl, .inl ⟨_, .inr z, .inl (o1.at 0 rfl), rfl, (low_get hz).symm⟩, q.mk o1⟩
theorem d_high (T : Top K mg) : Def P w K mg base CX0 1 "_law_high" ["kind"] (sp_kV kHigh) := by
  refine T.f__law_high.ok sc__law_high (by rintro vs H Q E ⟨z, rfl, _⟩; rfl) (fun f cdv A outer s H vs Q E hr h => ?_)
  obtain ⟨z, rfl, hz, q⟩ := h
  refine ⟨_, (pss_one (ps_ret (pe_dget (Nat.lt_of_le_of_lt (Nat.add_le_add_left (by decide) _) hr.units) (pe_disp (pps_cons pe_str pe_int (pps_cons pe_str pe_int (pps_cons pe_str pe_int (pps_cons pe_str pe_int (pps_cons pe_str pe_int (pps_cons pe_str pe_int pps_nil)))))) (by rfl) (by rfl) (fun z => by cases z) (by decide)) (pv 0) (fun _ _ => rfl)))), ?_⟩
  walk_at "rd"
  refine r_dget ?_
  refine r_disp (kvI HIGHS) (Own.nil H) ?h (by decide) fun p1 H1 o1 => ?_
  case h =>
    intro _ _ r
    repeat (refine r_pp ?_; walk_at "rd")
    exact r_pn r
  walk_at "rd"
  exact ⟨_, _, rfl, .inl ⟨_, .inr z, .inl (o1.at 0 rfl), rfl, (high_get hz).symm⟩, q.mk o1⟩
def valF (z : Str) (d : Int) : Int := if d % 6 = 0 then kLow z else if d % 6 = 1 then kHigh z else if d % 6 = 2 then (if (if d / 6 % 5 - 2 < kHigh z then d / 6 % 5 - 2 else kHigh z) > kLow z then (if d / 6 % 5 - 2 < kHigh z then d / 6 % 5 - 2 else kHigh z) else kLow z) else kLow z + (d * d * 7919 + d * 31) % (kHigh z - kLow z + 1)
theorem valF_rng {z : Str} (hz : z ∈ KS) (d : Int) : kLow z ≤ valF z d ∧ valF z d ≤ kHigh z := by
  obtain ⟨_, _, h3, h4, h5, _⟩ := k_abs z hz
  have e1 := Int.emod_nonneg (d * d * 7919 + d * 31) (show kHigh z - kLow z + 1 ≠ 0 by omega)
  have e2 := Int.emod_lt_of_pos (d * d * 7919 + d * 31) (show 0 < kHigh z - kLow z + 1 by omega)
  unfold valF
  split
  · omega
  split
  · omega
  split
  · split <;> split <;> omega
  · omega
def sp_kval : Sp := fun vs H Q _ => ∃ (z : Str) (d : Int), vs = [.str z, .int d] ∧ z ∈ KS ∧ 0 ≤ d ∧ d ≤ 5000 ∧ RetV H Q (.int (valF z d))
theorem d_value (T : Top K mg) : Def P w K mg base CX0 2 "_law_value" ["kind", "draw"] sp_kval := by
  have G__law_low : Def P w K mg base CX0 1 "_law_low" ["kind"] (sp_kV kLow) := d_low T
  have G__law_high : Def P w K mg base CX0 1 "_law_high" ["kind"] (sp_kV kHigh) := d_high T
  refine T.f__law_value.ok sc__law_value (by rintro vs H Q E ⟨z, d, rfl, _⟩; rfl) (fun f cdv A outer s H vs Q E hr h => ?_)
  obtain ⟨z, d, rfl, hz, h0, h1, q⟩ := h
  obtain ⟨_, _, h3, h4, h5, _⟩ := k_abs z hz
  refine ⟨_, (pss_cons (ps_set (i := 2) sc__law_value.nd rfl (Or.inl rfl) (pe_callD G__law_low (hr.mono (by decide)) (pa_cons (pv 0) pa_nil)))
      (pss_cons (ps_set (i := 3) sc__law_value.nd rfl (Or.inl rfl) (pe_callD G__law_high (hr.mono (by decide)) (pa_cons (pv 0) pa_nil)))
      (pss_cons (ps_set (i := 4) sc__law_value.nd rfl (Or.inl rfl) (pe_op op_mod (pv 1) pe_int))
      (pss_cons (ps_if (pt_cmpR op_eq (pv 4) pe_int (nomark _)) (pss_one (ps_ret (pv 2))) pss_nil)
      (pss_cons (ps_if (pt_cmpR op_eq (pv 4) pe_int (nomark _)) (pss_one (ps_ret (pv 3))) pss_nil)
      (pss_cons (ps_if (pt_cmpR op_eq (pv 4) pe_int (nomark _)) (pss_one (ps_ret (pe_callB (r := rMax2) (call_max2 rfl) (by rfl) T.b_max (by decide +kernel) (pa_cons (pv 2) (pa_cons (pe_callB (r := rMin2) (call_min2 rfl) (by rfl) T.b_min (by decide +kernel) (pa_cons (pv 3) (pa_cons (pe_op op_sub (pe_op op_mod (pe_op op_fdiv (pv 1) pe_int) pe_int) pe_int) pa_nil))) pa_nil))))) pss_nil)
      (pss_one (ps_ret (pe_op op_add (pv 2) (pe_op op_mod (pe_callTy (r := rInt1) call_int1 (by rfl) T.b_int (by decide +kernel) (pa_cons (pe_op op_add (pe_op op_mul (pe_op op_mul (pv 1) (pv 1)) pe_int) (pe_op op_mul (pv 1) pe_int)) pa_nil)) (pe_op op_add (pe_op op_sub (pv 3) (pv 2)) pe_int))))))))))), ?_⟩
  walk_at "rd"
  refine ⟨_, rfl, hz, fun H1 s1 => ?_⟩
  walk_at "rd"
  refine ⟨_, rfl, hz, fun H2 s2 => ?_⟩
  have s12 := s1.trans s2
  walk_at "rd"
  unfold valF at q
  refine rif (fun h => ?_) fun h => ?_
  · rw [if_pos h] at q
    walk_at "rd"
    exact q _ s12
  rw [if_neg h] at q
  walk_at "rd"
  refine rif (fun h => ?_) fun h => ?_
  · rw [if_pos h] at q
    walk_at "rd"
    exact q _ s12
  rw [if_neg h] at q
  walk_at "rd"
  refine rif (fun h => ?_) fun h => ?_
  · rw [if_pos h] at q
    walk_at "rd"
    exact q _ s12
  rw [if_neg h] at q
  walk_at "rd"
  exact q _ s12
def sp_kkind : Sp := fun vs H Q _ => ∃ (d : Int), vs = [.int d] ∧ 0 ≤ d ∧ ∀ z ∈ KS, RetV H Q (.str z)
theorem d_kind (T : Top K mg) : Def P w K mg base CX0 1 "_law_kind" ["draw"] sp_kkind := by
  refine T.f__law_kind.ok sc__law_kind (by rintro vs H Q E ⟨d, rfl, _⟩; rfl) (fun f cdv A outer s H vs Q E hr h => ?_)
  obtain ⟨d, rfl, h0, q⟩ := h
  refine ⟨_, (pss_one (ps_ret (pe_ix (r := rIxL K) ix_list (pe_lst (pa_cons pe_str (pa_cons pe_str (pa_cons pe_str (pa_cons pe_str (pa_cons pe_str (pa_cons pe_str pa_nil))))))) (pe_op op_mod (pv 0) pe_int) (fun _ _ => rfl)))), ?_⟩
  walk_at "rd"
  refine r_newL (Own.nil H) (Nat.le_of_ble_eq_true rfl) fun p1 H1 o1 => ?_
  walk_at "rd"
  refine r_ixS (zs := KS) (o1.sqL 0 rfl) (by omega) (show _ < (6 : Int) by omega) fun z hz e => ?_
  exact (q z hz).mk o1
end

section
variable {P : Program} {w : World} {K : PySem.W.Frag} {mg : Str → Option Value} {base : Heap}
def sp_load (K : PySem.W.Frag) : Sp := fun vs H Q _ => ∃ (z : Str) (a : Addr) (zs : List Int) (n : Nat), vs = [.str z, .ref a] ∧ z ∈ KS ∧ SqL K H a (zs.map V.int) ∧ n ≤ 100000 ∧ zs.length = n * kN z ∧ By zs ∧ RetO H Q (.lst ((ldV z zs n).map V.int))
theorem d_load (T : Top K mg) : Def P w K mg base CX0 5 "load_values" ["kind", "stored"] (sp_load K) := by
  have G_greatest : Def P w K mg base CX0 4 "greatest" ["kind"] (sp_kI kHigh) := d_greatest T
  have G_width : Def P w K mg base CX0 1 "width" ["kind"] (sp_kI kW) := d_width T
  have G_value_count : Def P w K mg base CX0 2 "value_count" ["kind"] (sp_kI kC) := d_value_count T
  refine T.f_load_values.ok sc_load_values (by rintro vs H Q E ⟨z, a, ns, n, rfl, _⟩; rfl) (fun f cdv A outer s H vs Q E hr h => ?_)
  obtain ⟨z, a, zs, n, rfl, hz, hS, hn, hl, hby, q⟩ := h
  obtain ⟨hw, _, hc, _, _, hkw⟩ := k_abs z hz
  refine ⟨_, (pss_cons (ps_set (i := 2) sc_load_values.nd rfl (Or.inl rfl) (pe_callD G_width (hr.mono (by decide)) (pa_cons (pv 0) pa_nil)))
      (pss_cons (ps_set (i := 3) sc_load_values.nd rfl (Or.inl rfl) (pe_callD G_value_count (hr.mono (by decide)) (pa_cons (pv 0) pa_nil)))
      (pss_cons (ps_set (i := 4) sc_load_values.nd rfl (Or.inl rfl) (pe_callD G_greatest (hr.mono (by decide)) (pa_cons (pv 0) pa_nil)))
      (pss_cons (ps_set (i := 5) sc_load_values.nd rfl (Or.inl rfl) (pe_lst pa_nil))
      (pss_cons (ps_for PassesOwn.never rfl (pi_range3 (by rfl) T.b_range (pa_cons pe_int (pa_cons (pe_callB (r := Evl.rLenS K) call_len_seq (by rfl) T.b_len (by decide +kernel) (pa_cons (pv 1) pa_nil)) (pa_cons (pv 2) pa_nil)))) (pg_name (i := 6) sc_load_values.nd rfl (Or.inl rfl)) (pss_cons (ps_set (i := 7) sc_load_values.nd rfl (Or.inl rfl) pe_int)
      (pss_cons (ps_for PassesOwn.never rfl (pi_range3 (by rfl) T.b_range (pa_cons (pe_op op_sub (pe_op op_add (pv 6) (pv 2)) pe_int) (pa_cons (pe_op op_sub (pv 6) pe_int) (pa_cons (pe_un un_neg pe_int) pa_nil)))) (pg_name (i := 8) sc_load_values.nd rfl (Or.inl rfl)) (pss_one (ps_set (i := 7) sc_load_values.nd rfl (Or.inl rfl) (pe_op op_add (pe_op op_mul (pv 7) pe_int) (pe_ix (r := rIxL K) ix_list (pv 1) (pv 8) (fun _ _ => rfl))))))
      (Evl.pss_cut (ps_if (pt_cmpR op_gt (pv 7) (pv 4) (nomark _)) (pss_one (ps_set (i := 7) sc_load_values.nd rfl (Or.inl rfl) (pe_op op_sub (pv 7) (pv 3)))) pss_nil)
      (pss_one (ps_expr (pe_bm PySem.F.plainAttrs_list PySem.F.slot_list_append PySem.F.type_list_append mt_append (pv 5) (pa_cons (pv 7) pa_nil))))))))
      (pss_one (ps_ret (pv 5)))))))), ?_⟩
  walk_at "rd"
  refine ⟨_, rfl, hz, ?_⟩
  walk_at "rd"
  refine ⟨_, rfl, hz, ?_⟩
  walk_at "rd"
  refine ⟨_, rfl, hz, ?_⟩
  walk_at "rd"
  refine r_newL (Own.nil H) (Nat.zero_le _) fun p1 H1 o1 => ?_
  have hS1 := o1.old hS
  walk_at "rd"
  rw [hkw, List.length_map, hl]
  refine forR3 (n := n) (rgc_mul hw (by omega)) (fun i σ' H' => ∃ (v6 v7 v8 : Option V), σ' = [some (.str z), some (.ref a), some (.int (kN z)), some (.int (kC z)), some (.int (kHigh z)), some (.ref p1), v6, v7, v8] ∧ Own H H' [(p1, .lst ((ldV z zs i).map V.int))]) ⟨_, _, _, rfl, o1⟩ ?_ ?_
  · rintro i σ' H' hi ⟨v6, v7, v8, rfl, o⟩
    have hS2 := o.old hS
    have hb1 : i * kN z + kN z ≤ n * kN z := by rw [← Nat.succ_mul]; exact Nat.mul_le_mul_right _ hi
    have hnz : n * kN z ≤ 400000 := by rcases hw with h | h | h <;> rw [h] <;> omega
    rw [show (0 : Int) + ((i : Nat) : Int) * ((kN z : Nat) : Int) = ((i * kN z : Nat) : Int) by omega]
    have hrg : RgC (((i * kN z : Nat) : Int) + ((kN z : Nat) : Int) - 1) (((i * kN z : Nat) : Int) - 1) (-1) (kN z) := by
      have h := RgC.neg (i := ((i * kN z : Nat) : Int) + ((kN z : Nat) : Int) - 1) (j := ((i * kN z : Nat) : Int) - 1) (by omega) (by omega) (by omega) (by omega)
      rwa [show (((i * kN z : Nat) : Int) + ((kN z : Nat) : Int) - 1 - (((i * kN z : Nat) : Int) - 1)).toNat = kN z by omega] at h
    have hdec : decV z (chnk (kN z) zs i) = if kHigh z < undig (chnk (kN z) zs i) then undig (chnk (kN z) zs i) - kC z else undig (chnk (kN z) zs i) := rfl
    generalize hst : i * kN z = st at *
    walk_at "rd"
    refine forR3 (n := kN z) hrg (fun j σ' H2 => H2 = H' ∧ ∃ v8, σ' = [some (.str z), some (.ref a), some (.int (kN z)), some (.int (kC z)), some (.int (kHigh z)), some (.ref p1), some (.int st), some (.int (undig ((zs.drop (st + (kN z - j))).take j))), v8]) ⟨rfl, _, rfl⟩ ?_ ?_
    · rintro j σ' H2 hj ⟨rfl, v8, rfl⟩
      have hm : st + (kN z - (j + 1)) < zs.length := by omega
      have e1 : ((st : Nat) : Int) + ((kN z : Nat) : Int) - 1 + ((j : Nat) : Int) * (-1) = ((st + (kN z - (j + 1)) : Nat) : Int) := by omega
      have e2 := ud_step (j := j) hm
      rw [show st + (kN z - (j + 1)) + 1 = st + (kN z - j) by omega] at e2
      have hbn := ud_bnd (m := st + (kN z - j)) (j := j) hby (by omega)
      have hgb := hby.gi (i := ((st + (kN z - (j + 1)) : Nat) : Int)) (by omega) (by omega)
      rw [e1]
      walk_at "rd"
      refine ⟨rfl, some (.int ((st + (kN z - (j + 1)) : Nat) : Int)), ?_⟩
      rw [e2, Int.add_comm, Int.mul_comm]
      rfl
    · rintro σ' H2 ⟨rfl, v8, rfl⟩
      have e3 : (zs.drop (st + (kN z - kN z))).take (kN z) = chnk (kN z) zs i := by unfold chnk; rw [hst, Nat.sub_self, Nat.add_zero]
      rw [e3]
      walk_at "rd"
      refine ⟨fun σ' H3 => σ' = [some (.str z), some (.ref a), some (.int (kN z)), some (.int (kC z)), some (.int (kHigh z)), some (.ref p1), some (.int st), some (.int (decV z (chnk (kN z) zs i))), v8] ∧ H3 = H2, ?_, ?_⟩
      · rw [hdec]
        walk_at "rd"
        refine rif (fun h => ?_) fun h => ?_
        · rw [if_pos h]
          walk_at "rd"
          exact ⟨rfl, rfl⟩
        · rw [if_neg h]
          walk_at "rd"
          exact ⟨rfl, rfl⟩
      rintro σ' H3 ⟨rfl, rfl⟩
      walk_at "rd"
      refine r_app o 0 rfl (by rw [List.length_map, ld_len]; omega) fun H4 o4 => ?_
      walk_at "rd"
      refine ⟨_, _, _, rfl, ?_⟩
      rw [ld_snoc, List.map_append]
      exact o4
  · rintro σ' H' ⟨v6, v7, v8, rfl, o⟩
    walk_at "rd"
    exact q.mk o 0 rfl
end

section
variable {P : Program} {w : World} {K : PySem.W.Frag} {mg : Str → Option Value} {base : Heap}
/-- the digits of a number -/
def numB (n : Nat) : List Int := if _h : n < 125 then [(n : Int)] else ((n % 125 + 125 : Nat) : Int) :: numB (n / 125)
termination_by n
decreasing_by omega
theorem numB_lt {n : Nat} (h : n < 125) : numB n = [(n : Int)] := by rw [numB, dif_pos h]
theorem numB_ge {n : Nat} (h : ¬ n < 125) : numB n = ((n % 125 + 125 : Nat) : Int) :: numB (n / 125) := by rw [numB, dif_neg h]
theorem numB_len : ∀ (k n : Nat), n < 125 ^ (k + 1) → (numB n).length ≤ k + 1
  | 0, n, h => by
    rw [numB_lt (by simpa using h)]
    exact Nat.le_refl _
  | k + 1, n, h => by
    by_cases h1 : n < 125
    · rw [numB_lt h1]
      exact Nat.succ_le_succ (Nat.zero_le _)
    · rw [numB_ge h1, List.length_cons]
      refine Nat.succ_le_succ (numB_len k _ ?_)
      rw [Nat.pow_succ] at h
      exact Nat.div_lt_of_lt_mul (by rw [Nat.mul_comm]; exact h)
theorem numB_pos (n : Nat) : 1 ≤ (numB n).length := by
  by_cases h1 : n < 125
  · rw [numB_lt h1]; exact Nat.le_refl _
  · rw [numB_ge h1]; exact Nat.succ_le_succ (Nat.zero_le _)
/-- bytes in a wide sense -/
def Bw (ns : List Int) : Prop := ∀ x ∈ ns, 0 ≤ x ∧ x < 1000
theorem Bw.gi {ns : List Int} (d : Bw ns) {i : Int} (h0 : 0 ≤ i) (h1 : i < ns.length) : 0 ≤ gi ns i ∧ gi ns i < 1000 := d _ (gi_mem h0 h1)
theorem Bw.app {ns ms : List Int} (d : Bw ns) (e : Bw ms) : Bw (ns ++ ms) := fun y hy => by
  rcases List.mem_append.mp hy with h | h
  · exact d y h
  · exact e y h
theorem Bw.take {ns : List Int} (d : Bw ns) (n : Nat) : Bw (ns.take n) := fun y hy => d y (List.mem_of_mem_take hy)
theorem Bw.drop {ns : List Int} (d : Bw ns) (n : Nat) : Bw (ns.drop n) := fun y hy => d y (List.mem_of_mem_drop hy)
theorem bw_num (n : Nat) : ∀ x ∈ numB n, 0 ≤ x ∧ x < 250 := by
  induction n using Nat.strongRecOn with
  | _ n ih =>
    intro x hx
    by_cases h1 : n < 125
    · rw [numB_lt h1, List.mem_singleton] at hx
      omega
    · rw [numB_ge h1, List.mem_cons] at hx
      rcases hx with rfl | hx
      · omega
      · exact ih _ (by omega) x hx
/-- reading a number: it and how many digits it took -/
def rdN : List Int → Bool → Option (Int × Nat)
  | [], _ => none
  | b :: r, f => if b < 125 then (if b = 0 ∧ f = false then none else some (b, 1)) else if b > 249 then none else (rdN r false).map fun p => (b - 125 + 125 * p.1, p.2 + 1)
theorem rdN_num (n : Nat) : ∀ (bk : List Int) (f : Bool), (f = true ∨ 0 < n) → rdN (numB n ++ bk) f = some ((n : Int), (numB n).length) := by
  induction n using Nat.strongRecOn with
  | _ n ih =>
    intro bk f hf
    by_cases h1 : n < 125
    · rw [numB_lt h1]
      show (if (n : Int) < 125 then (if (n : Int) = 0 ∧ f = false then none else some ((n : Int), 1)) else _) = _
      rw [if_pos (by omega), if_neg]
      · rfl
      · rintro ⟨h2, h3⟩
        rcases hf with h | h
        · rw [h] at h3; cases h3
        · omega
    · rw [numB_ge h1, List.cons_append]
      show (if (((n % 125 + 125 : Nat) : Int)) < 125 then _ else if ((n % 125 + 125 : Nat) : Int) > 249 then none else (rdN (numB (n / 125) ++ bk) false).map fun p => (((n % 125 + 125 : Nat) : Int) - 125 + 125 * p.1, p.2 + 1)) = _
      rw [if_neg (by omega), if_neg (by omega), ih (n / 125) (by omega) bk false (.inr (by omega))]
      show some (((n % 125 + 125 : Nat) : Int) - 125 + 125 * ((n / 125 : Nat) : Int), (numB (n / 125)).length + 1) = _
      rw [List.length_cons]
      congr 2
      omega
/-- .. with a zero behind it as the last digit -/
def numZ (n : Nat) : List Int := if _h : n < 125 then [(n : Int) + 125, 0] else ((n % 125 + 125 : Nat) : Int) :: numZ (n / 125)
termination_by n
decreasing_by omega
theorem numZ_lt {n : Nat} (h : n < 125) : numZ n = [(n : Int) + 125, 0] := by rw [numZ, dif_pos h]
theorem numZ_ge {n : Nat} (h : ¬ n < 125) : numZ n = ((n % 125 + 125 : Nat) : Int) :: numZ (n / 125) := by rw [numZ, dif_neg h]
theorem rdN_zero (n : Nat) : ∀ (bk : List Int) (f : Bool), rdN (numZ n ++ bk) f = none := by
  induction n using Nat.strongRecOn with
  | _ n ih =>
    intro bk f
    by_cases h1 : n < 125
    · rw [numZ_lt h1]
      show (if (n : Int) + 125 < 125 then _ else if (n : Int) + 125 > 249 then none else (rdN (0 :: bk) false).map _) = _
      rw [if_neg (by omega), if_neg (by omega)]
      show Option.map _ (if (0 : Int) < 125 then (if (0 : Int) = 0 ∧ false = false then none else some (0, 1)) else _) = _
      rw [if_pos (by decide), if_pos ⟨rfl, rfl⟩]
      rfl
    · rw [numZ_ge h1, List.cons_append]
      show (if (((n % 125 + 125 : Nat) : Int)) < 125 then _ else if ((n % 125 + 125 : Nat) : Int) > 249 then none else (rdN (numZ (n / 125) ++ bk) false).map fun p => (((n % 125 + 125 : Nat) : Int) - 125 + 125 * p.1, p.2 + 1)) = _
      rw [if_neg (by omega), if_neg (by omega), ih (n / 125) (by omega) bk false]
      rfl
theorem numZ_cut (n : Nat) : numZ n = (numB n).take ((numB n).length - 1) ++ [gi (numB n) (((numB n).length : Int) - ((1 : Nat) : Int)) + 125, 0] := by
  induction n using Nat.strongRecOn with
  | _ n ih =>
    by_cases h1 : n < 125
    · rw [numZ_lt h1, numB_lt h1]
      rfl
    · have hp := numB_pos (n / 125)
      rw [numZ_ge h1, numB_ge h1, ih (n / 125) (by omega), List.length_cons, show (numB (n / 125)).length + 1 - 1 = ((numB (n / 125)).length - 1) + 1 by omega, List.take_succ_cons, List.cons_append]
      congr 4
      unfold RD.gi
      rw [show ((((numB (n / 125)).length + 1 : Nat) : Int) - ((1 : Nat) : Int)).toNat = ((numB (n / 125)).length - 1) + 1 by omega, show (((numB (n / 125)).length : Int) - ((1 : Nat) : Int)).toNat = (numB (n / 125)).length - 1 by omega]
      rfl
theorem bw_numZ (n : Nat) : ∀ x ∈ numZ n, 0 ≤ x ∧ x < 1000 := by
  induction n using Nat.strongRecOn with
  | _ n ih =>
    intro x hx
    by_cases h1 : n < 125
    · rw [numZ_lt h1] at hx
      simp only [List.mem_cons, List.not_mem_nil, or_false] at hx
      omega
    · rw [numZ_ge h1, List.mem_cons] at hx
      rcases hx with rfl | hx
      · omega
      · exact ih _ (by omega) x hx
theorem cut_m1 (xs : List V) : cutV xs none (some (-1)) = xs.take (xs.length - 1) := by
  unfold cutV
  have e : HT.sIx xs.length xs.length (some (-1)) = xs.length - 1 := by
    show (if (-1 : Int) < 0 then (-1 + (xs.length : Int)).toNat else min (-1 : Int).toNat xs.length) = xs.length - 1
    rw [if_pos (by decide)]
    omega
  rw [HT.sIx_none, e, List.drop_zero, Nat.sub_zero]
def sp_read_number (K : PySem.W.Frag) (C : Addr) : Sp := fun vs H Q E => ∃ (a : Addr) (ns : List Int) (i : Int), vs = [.ref a, .int i] ∧ SqL K H a (ns.map V.int) ∧ Bw ns ∧ ns.length ≤ 1000000 ∧ -2000000 ≤ i ∧ i ≤ 2000000 ∧
  (∀ x k, 0 ≤ i → rdN (ns.drop i.toNat) true = some (x, k) → RetO H Q (.tup [.int x, .int (i + (k : Int))])) ∧
  (i < 0 ∨ rdN (ns.drop i.toNat) true = none → RetE H E C [("index", .int i)])
theorem d_read_number {C : Addr} (T : Top K mg) (E_Unreadable : EDef P w K mg base C "Unreadable" ["self", "index"] (sp_i1 C "index")) : Def P w K mg base (L2N.CX P w) 5 "read_number" ["values", "index"] (sp_read_number K C) := by
  obtain ⟨t1, g_BASE⟩ := T.g_BASE
  obtain ⟨t2, g_HIGHEST_BYTE⟩ := T.g_HIGHEST_BYTE
  refine T.f_read_number.okN sc_read_number (by rintro vs H Q E ⟨a, ns, i, rfl, _⟩; rfl) (fun f cdv A outer s H vs Q E hr h => ?_)
  obtain ⟨a, ns, i, rfl, hS, hB, hl, hi1, hi2, q, qe⟩ := h
  have bad : (i < 0 ∨ rdN (ns.drop i.toNat) true = none) → ∀ (v2 v3 v4 v5 : Option V), tRaise (tErr C ["index"] (tCons (tVar 1) tNil)) (fun cls d _ H => E cls d H) { nx := fun σ H => True, rt := fun _ _ => True } [some (.ref a), some (.int i), v2, v3, v4, v5] H := fun ho v2 v3 v4 v5 => by
    refine r_raise ⟨_, rfl, rfl, ?_, fun d hd => (qe ho).mk (Own.nil H) hd⟩
    intro u hu
    rw [List.mem_singleton.mp hu]
    exact tell_small ⟨by omega, by omega⟩
  refine ⟨_, (pss_cons (ps_if (pt_cmpR op_lt (pv 1) pe_int (nomark _)) (pss_one (ps_raiseE rfl (L2N.takes_of rfl rfl rfl rfl) (pmk_e1 E_Unreadable (hr.mono (by decide)) (pa_cons (pv 1) pa_nil)))) pss_nil)
      (pss_cons (ps_set (i := 2) sc_read_number.nd rfl (Or.inl rfl) pe_int)
      (pss_cons (ps_set (i := 3) sc_read_number.nd rfl (Or.inl rfl) pe_int)
      (pss_cons (ps_for (passes_of rfl) rfl (pi_range2 (by rfl) T.b_range (pa_cons (pv 1) (pa_cons (pe_callB (r := Evl.rLenS K) call_len_seq (by rfl) T.b_len (by decide +kernel) (pa_cons (pv 0) pa_nil)) pa_nil))) (pg_name (i := 4) sc_read_number.nd rfl (Or.inl rfl)) (pss_cons (ps_set (i := 5) sc_read_number.nd rfl (Or.inl rfl) (pe_ix (r := rIxL K) ix_list (pv 0) (pv 4) (fun _ _ => rfl)))
      (pss_cons (ps_if (pt_cmpR op_lt (pv 5) (pe_glob (v := .int 125) rfl g_BASE ⟨_, rfl⟩) (nomark _)) (pss_cons (ps_if (PW.pt (pw_and (pt_cmpR op_eq (pv 5) pe_int (nomark _)) (pw_and1 (pt_cmpR op_gt (pv 4) (pv 1) (nomark _))))) (pss_one ps_break) pss_nil)
      (pss_one (ps_ret (pe_tup (pa_cons (pe_op op_add (pv 2) (pe_op op_mul (pv 5) (pv 3))) (pa_cons (pe_op op_add (pv 4) pe_int) pa_nil)))))) pss_nil)
      (pss_cons (ps_if (pt_cmpR op_gt (pv 5) (pe_glob (v := .int 249) rfl g_HIGHEST_BYTE ⟨_, rfl⟩) (nomark _)) (pss_one ps_break) pss_nil)
      (pss_cons (ps_set (i := 2) sc_read_number.nd rfl (Or.inl rfl) (pe_op op_add (pv 2) (pe_op op_mul (pe_op op_sub (pv 5) (pe_glob (v := .int 125) rfl g_BASE ⟨_, rfl⟩)) (pv 3))))
      (pss_one (ps_set (i := 3) sc_read_number.nd rfl (Or.inl rfl) (pe_op op_mul (pv 3) (pe_glob (v := .int 125) rfl g_BASE ⟨_, rfl⟩)))))))))
      (pss_one (ps_raiseE rfl (L2N.takes_of rfl rfl rfl rfl) (pmk_e1 E_Unreadable (hr.mono (by decide)) (pa_cons (pv 1) pa_nil)))))))), ?_⟩
  walk_at "rd"
  refine rif (fun h1 => ?_) fun h1 => ?_
  · walk_at "rd"
    exact bad (.inl h1) _ _ _ _
  walk_at "rd"
  refine forR2 (n := ns.length - i.toNat) (by rw [List.length_map]; omega) (by rw [List.length_map]; omega) (fun k σ' H' => H' = H ∧ ∃ (x wt : Int) (v4 v5 : Option V), σ' = [some (.ref a), some (.int i), some (.int x), some (.int wt), v4, v5] ∧
    rdN (ns.drop i.toNat) true = (rdN (ns.drop (i.toNat + k)) (decide (k = 0))).map fun p => (x + wt * p.1, p.2 + k)) ⟨rfl, 0, 1, _, _, rfl, ?_⟩ ?_ ?_
  · rw [Nat.add_zero, decide_eq_true rfl]
    cases rdN (ns.drop i.toNat) true with
    | none => rfl
    | some p => show some p = some ((0 : Int) + 1 * p.1, p.2 + 0); rw [Int.zero_add, Int.one_mul, Nat.add_zero]
  · rintro k σ' H' hk ⟨rfl, x, wt, v4, v5, rfl, hr2⟩
    have hlt : i.toNat + k < ns.length := by omega
    have hd : ns.drop (i.toNat + k) = gi ns (i + (k : Int)) :: ns.drop (i.toNat + (k + 1)) := by
      rw [← List.getElem_cons_drop hlt, show i + (k : Int) = ((i.toNat + k : Nat) : Int) by omega, gi_nat hlt]
      rfl
    have hb := hB.gi (i := i + (k : Int)) (by omega) (by omega)
    rw [hd] at hr2
    walk_at "rd"
    generalize gi ns (i + (k : Int)) = b at *
    have hc : rdN (b :: ns.drop (i.toNat + (k + 1))) (decide (k = 0)) = if b < 125 then (if b = 0 ∧ decide (k = 0) = false then none else some (b, 1)) else if b > 249 then none else (rdN (ns.drop (i.toNat + (k + 1))) false).map fun p => (b - 125 + 125 * p.1, p.2 + 1) := rfl
    rw [hc] at hr2
    refine rif (fun h2 => ?_) fun h2 => ?_
    · rw [if_pos h2] at hr2
      have good : ¬ (b = 0 ∧ decide (k = 0) = false) → ∀ Z, (∀ (_ : RetO H' Q (.tup [.int (x + b * wt), .int (i + (k : Int) + 1)])), Z) → Z := fun hg Z z => by
        rw [if_neg hg] at hr2
        have z2 := q _ _ (by omega) hr2
        rw [show wt * b = b * wt from Int.mul_comm _ _] at z2
        refine z ?_
        rw [show i + (k : Int) + 1 = i + ((1 + k : Nat) : Int) by omega]
        exact z2
      walk_at "rd"
      refine rif (fun h3 => ?_) fun h3 => ?_
      · walk_at "rd"
        refine rif (fun h4 => ?_) fun h4 => ?_
        · walk_at "rd"
          rw [if_pos ⟨h3, decide_eq_false (by omega)⟩] at hr2
          exact bad (.inr hr2) _ _ _ _
        · walk_at "rd"
          refine good (fun hg => h4 ?_) _ fun z => ?_
          · have := of_decide_eq_false hg.2
            omega
          · refine r_newT (Own.nil H') (Nat.le_of_ble_eq_true rfl) fun p2 H2 o2 => ?_
            exact z.mk o2 0 rfl
      · walk_at "rd"
        refine good (fun hg => h3 hg.1) _ fun z => ?_
        refine r_newT (Own.nil H') (Nat.le_of_ble_eq_true rfl) fun p2 H2 o2 => ?_
        exact z.mk o2 0 rfl
    · rw [if_neg h2] at hr2
      walk_at "rd"
      refine rif (fun h3 => ?_) fun h3 => ?_
      · walk_at "rd"
        rw [if_pos h3] at hr2
        exact bad (.inr hr2) _ _ _ _
      · rw [if_neg h3] at hr2
        walk_at "rd"
        refine ⟨rfl, _, _, _, _, rfl, ?_⟩
        rw [hr2, decide_eq_false (show ¬ k + 1 = 0 by omega)]
        cases rdN (ns.drop (i.toNat + (k + 1))) false with
        | none => rfl
        | some p =>
          show some (x + wt * (b - 125 + 125 * p.1), p.2 + 1 + k) = some (x + (b - 125) * wt + wt * 125 * p.1, p.2 + (k + 1))
          rw [Int.mul_add, Int.mul_comm wt (b - 125), ← Int.mul_assoc, ← Int.add_assoc, show p.2 + 1 + k = p.2 + (k + 1) by omega]
  · rintro σ' H' ⟨rfl, x, wt, v4, v5, rfl, hr2⟩
    walk_at "rd"
    refine bad (.inr ?_) _ _ _ _
    rw [hr2, List.drop_of_length_le (by omega)]
    rfl
end

section
variable {P : Program} {w : World} {K : PySem.W.Frag} {mg : Str → Option Value} {base : Heap}
/-! ### integers -/
def zz (z : Int) : Nat := if z < 0 then (-2 * z - 1).toNat else (2 * z).toNat
def unzz (x : Int) : Int := if x % 2 = 1 then -((x + 1) / 2) else x / 2
theorem unzz_zz (z : Int) : unzz ((zz z : Nat) : Int) = z := by
  unfold unzz zz
  by_cases h : z < 0
  · rw [if_pos h, if_pos (by omega)]
    omega
  · rw [if_neg h, if_neg (by omega)]
    omega
def intB (z : Int) : List Int := numB (zz z)
/-- one thing read: it and how many bytes it took -/
def OneOk (one : List Int → Option (Int × Nat)) : Prop := ∀ s x k, one s = some (x, k) → 1 ≤ k ∧ k ≤ s.length
def rdZ (s : List Int) : Option (Int × Nat) := (rdN s true).map fun p => (unzz p.1, p.2)
theorem rdN_ok : ∀ (s : List Int) (f : Bool) (x : Int) (k : Nat), rdN s f = some (x, k) → 1 ≤ k ∧ k ≤ s.length
  | [], f, x, k, h => by cases h
  | b :: r, f, x, k, h => by
    have h : (if b < 125 then (if b = 0 ∧ f = false then none else some (b, 1)) else if b > 249 then none else (rdN r false).map fun p => (b - 125 + 125 * p.1, p.2 + 1)) = some (x, k) := h
    rw [List.length_cons]
    by_cases h1 : b < 125
    · rw [if_pos h1] at h
      by_cases h2 : b = 0 ∧ f = false
      · rw [if_pos h2] at h; cases h
      · rw [if_neg h2] at h; cases h; omega
    · rw [if_neg h1] at h
      by_cases h2 : b > 249
      · rw [if_pos h2] at h; cases h
      · rw [if_neg h2] at h
        cases h3 : rdN r false with
        | none => rw [h3] at h; cases h
        | some p =>
          rw [h3] at h
          have := rdN_ok r false p.1 p.2 h3
          cases h
          show 1 ≤ p.2 + 1 ∧ p.2 + 1 ≤ _
          omega
theorem rdZ_ok : OneOk rdZ := fun s x k h => by
  unfold rdZ at h
  cases h3 : rdN s true with
  | none => rw [h3] at h; cases h
  | some p =>
    rw [h3] at h
    have := rdN_ok s true p.1 p.2 h3
    cases h
    exact this
theorem rdZ_int (z : Int) (bk : List Int) : rdZ (intB z ++ bk) = some (z, (intB z).length) := by
  unfold rdZ intB
  rw [rdN_num _ bk true (.inl rfl)]
  show some (unzz ((zz z : Nat) : Int), _) = _
  rw [unzz_zz]
/-! ### bytes -/
def rdB : List Int → Option (Int × Nat)
  | [] => none
  | b :: r => if b > 249 then none else if b < 249 then some (b, 1) else match r with
    | [] => none
    | c :: _ => if c ≤ 6 then some (249 + c, 2) else none
theorem rdB_ok : OneOk rdB := fun s x k h => by
  match s, h with
  | b :: r, h =>
    have h : (if b > 249 then none else if b < 249 then some (b, 1) else match r with
      | [] => none
      | c :: _ => if c ≤ 6 then some (249 + c, 2) else none) = some (x, k) := h
    rw [List.length_cons]
    by_cases h1 : b > 249
    · rw [if_pos h1] at h; cases h
    · rw [if_neg h1] at h
      by_cases h2 : b < 249
      · rw [if_pos h2] at h; cases h; omega
      · rw [if_neg h2] at h
        match r, h with
        | c :: t, h =>
          have h : (if c ≤ 6 then some (249 + c, 2) else none) = some (x, k) := h
          by_cases h3 : c ≤ 6
          · rw [if_pos h3] at h
            cases h
            rw [List.length_cons]
            omega
          · rw [if_neg h3] at h; cases h
def byB (v : Int) : List Int := if v < 249 then [v] else [249, v - 249]
theorem rdB_by {v : Int} (h : 0 ≤ v ∧ v < 256) (bk : List Int) : rdB (byB v ++ bk) = some (v, (byB v).length) := by
  unfold byB
  by_cases h1 : v < 249
  · rw [if_pos h1]
    show (if v > 249 then none else if v < 249 then some (v, 1) else _) = _
    rw [if_neg (by omega), if_pos h1]
    rfl
  · rw [if_neg h1]
    show (if (249 : Int) > 249 then none else if (249 : Int) < 249 then _ else if v - 249 ≤ 6 then some (249 + (v - 249), 2) else none) = _
    rw [if_neg (by omega), if_neg (by omega), if_pos (by omega), show 249 + (v - 249) = v by omega]
    rfl
/-! ### lists -/
def rdL (one : List Int → Option (Int × Nat)) : Nat → Int → List Int → Option (List Int × Nat)
  | 0, c, _ => if c ≤ 0 then some ([], 0) else none
  | f + 1, c, s => if c ≤ 0 then some ([], 0) else match one s with
    | none => none
    | some p => (rdL one f (c - 1) (s.drop p.2)).map fun q => (p.1 :: q.1, p.2 + q.2)
theorem rdL_0 (one : List Int → Option (Int × Nat)) {f : Nat} {c : Int} {s : List Int} (h : c ≤ 0) : rdL one f c s = some ([], 0) := by
  cases f <;> (unfold rdL; rw [if_pos h])
theorem rdL_none {one : List Int → Option (Int × Nat)} {f : Nat} {c : Int} {s : List Int} (h : ¬ c ≤ 0) (ho : one s = none) : rdL one f c s = none := by
  cases f with
  | zero => unfold rdL; rw [if_neg h]
  | succ f => unfold rdL; rw [if_neg h, ho]
theorem rdL_some {one : List Int → Option (Int × Nat)} {f : Nat} {c x : Int} {k : Nat} {s : List Int} (h : ¬ c ≤ 0) (ho : one s = some (x, k)) : rdL one (f + 1) c s = (rdL one f (c - 1) (s.drop k)).map fun q => (x :: q.1, k + q.2) := by
  conv => lhs; unfold rdL
  rw [if_neg h, ho]
def rdLs (one : List Int → Option (Int × Nat)) (s : List Int) : Option (List Int × Nat) := (rdN s true).bind fun p => (rdL one (s.length + 1) p.1 (s.drop p.2)).map fun q => (q.1, p.2 + q.2)
theorem rdL_list {one : List Int → Option (Int × Nat)} {wr : Int → List Int} : ∀ (zs : List Int) (f : Nat) (bk : List Int), (∀ z ∈ zs, ∀ bk, one (wr z ++ bk) = some (z, (wr z).length)) → zs.length ≤ f → rdL one f (zs.length : Int) (zs.flatMap wr ++ bk) = some (zs, (zs.flatMap wr).length)
  | [], f, bk, _, _ => rdL_0 one (by show (0 : Int) ≤ 0; omega)
  | z :: zs, f, bk, h, hf => by
    obtain ⟨f, rfl⟩ : ∃ g, f = g + 1 := ⟨f - 1, by rw [List.length_cons] at hf; omega⟩
    rw [List.flatMap_cons, List.append_assoc, rdL_some (by rw [List.length_cons]; omega) (h z List.mem_cons_self _), List.drop_left, List.length_cons, show (((zs.length + 1 : Nat) : Int) - 1) = (zs.length : Int) by omega,
      rdL_list zs f bk (fun z hz => h z (List.mem_cons_of_mem _ hz)) (by rw [List.length_cons] at hf; omega), List.length_append]
    rfl
def lsB (wr : Int → List Int) (zs : List Int) : List Int := numB zs.length ++ zs.flatMap wr
theorem flat_ge {wr : Int → List Int} : ∀ (zs : List Int), (∀ z ∈ zs, 1 ≤ (wr z).length) → zs.length ≤ (zs.flatMap wr).length
  | [], _ => Nat.zero_le _
  | z :: zs, h => by
    have h1 := h z List.mem_cons_self
    have h2 := flat_ge zs fun z hz => h z (List.mem_cons_of_mem _ hz)
    rw [List.flatMap_cons, List.length_append, List.length_cons]
    omega
theorem flat_le {wr : Int → List Int} {m : Nat} : ∀ (zs : List Int), (∀ z ∈ zs, (wr z).length ≤ m) → (zs.flatMap wr).length ≤ zs.length * m
  | [], _ => by simp
  | z :: zs, h => by
    have h1 := h z List.mem_cons_self
    have h2 := flat_le zs fun z hz => h z (List.mem_cons_of_mem _ hz)
    rw [List.flatMap_cons, List.length_append, List.length_cons, Nat.add_mul]
    omega
theorem rdLs_list {one : List Int → Option (Int × Nat)} {wr : Int → List Int} (zs bk : List Int) (h : ∀ z ∈ zs, ∀ bk, one (wr z ++ bk) = some (z, (wr z).length)) (h1 : ∀ z ∈ zs, 1 ≤ (wr z).length) : rdLs one (lsB wr zs ++ bk) = some (zs, (lsB wr zs).length) := by
  have h2 := flat_ge zs h1
  unfold rdLs lsB
  rw [List.append_assoc, rdN_num _ _ true (.inl rfl)]
  show ((rdL one _ (zs.length : Int) ((numB zs.length ++ (zs.flatMap wr ++ bk)).drop (numB zs.length).length)).map fun q => (q.1, (numB zs.length).length + q.2)) = _
  rw [List.drop_left, rdL_list zs _ bk h (by rw [List.length_append, List.length_append]; omega), List.length_append]
  rfl
theorem bw_int (z : Int) : ∀ x ∈ intB z, 0 ≤ x ∧ x < 250 := bw_num _
theorem bw_by {v : Int} (h : 0 ≤ v ∧ v < 256) : ∀ x ∈ byB v, 0 ≤ x ∧ x < 250 := by
  intro x hx
  unfold byB at hx
  split at hx <;> simp only [List.mem_cons, List.not_mem_nil, or_false] at hx <;> omega
theorem by_len (v : Int) : 1 ≤ (byB v).length ∧ (byB v).length ≤ 2 := by
  unfold byB
  split
  · exact ⟨Nat.le_refl _, Nat.le_succ _⟩
  · exact ⟨Nat.le_succ _, Nat.le_refl _⟩
theorem bw_ls {wr : Int → List Int} {zs : List Int} (h : ∀ z ∈ zs, ∀ x ∈ wr z, 0 ≤ x ∧ x < 250) : ∀ x ∈ lsB wr zs, 0 ≤ x ∧ x < 250 := by
  intro x hx
  rcases List.mem_append.mp hx with hx | hx
  · exact bw_num _ x hx
  · obtain ⟨z, hz, hx⟩ := List.mem_flatMap.mp hx
    exact h z hz x hx
theorem Bw.of {ns : List Int} (h : ∀ x ∈ ns, 0 ≤ x ∧ x < 250) : Bw ns := fun x hx => ⟨(h x hx).1, by have := (h x hx).2; omega⟩
/-! ### the defs that read -/
def sp_one (one : List Int → Option (Int × Nat)) (K : PySem.W.Frag) (C : Addr) : Sp := fun vs H Q E => ∃ (a : Addr) (ns : List Int) (i : Int), vs = [.ref a, .int i] ∧ SqL K H a (ns.map V.int) ∧ Bw ns ∧ ns.length ≤ 1000000 ∧ -2000000 ≤ i ∧ i ≤ 2000000 ∧
  (∀ x k, 0 ≤ i → one (ns.drop i.toNat) = some (x, k) → RetO H Q (.tup [.int x, .int (i + (k : Int))])) ∧
  (i < 0 ∨ one (ns.drop i.toNat) = none → RetE H E C [("index", .int i)])
/-- a list of ints and an int -/
def RetLT (H : Hp) (Q : VK) (xs : List Int) (j : Int) : Prop := ∀ H' p l, Same H H' → H p = none → H l = none → p ≠ l → H' p = some (.tup [.ref l, .int j]) → H' l = some (.lst (xs.map V.int)) → Q (.ref p) H'
theorem RetLT.mk {H0 H : Hp} {Q : VK} {xs : List Int} {j : Int} {L : List (Addr × HO)} {p l : Addr} (q : RetLT H0 Q xs j) (o : Own H0 H L) (i i2 : Nat) (h : L[i]? = some (p, .tup [.ref l, .int j])) (h2 : L[i2]? = some (l, .lst (xs.map V.int))) : Q (.ref p) H := by
  refine q H p l o.ex (o.fresh i h) (o.fresh i2 h2) (o.ne h h2 fun e => ?_) (o.at i h) (o.at i2 h2)
  subst e
  rw [h] at h2
  cases h2
theorem r_retLT {H0 H : Hp} {Q : VK} {xs : List Int} {j : Int} {L : List (Addr × HO)} (o : Own H0 H L) (k : ∀ p l H', Own H0 H' ((p, .tup [.ref l, .int j]) :: (l, .lst (xs.map V.int)) :: L) → Q (.ref p) H') : RetLT H Q xs j := fun H' p l s hp hl hne h1 h2 => by
  have o1 := o.add s hl h2
  refine k p l H' ⟨o1.ex, fun x hx => ?_, ?_⟩
  · rcases List.mem_cons.mp hx with rfl | hx
    · exact ⟨o.ex.free hp, h1⟩
    · exact o1.fr x hx
  · rw [List.map_cons, List.nodup_cons]
    refine ⟨fun hm => ?_, o1.nd⟩
    obtain ⟨x, hx, e⟩ := List.mem_map.mp hm
    rcases List.mem_cons.mp hx with rfl | hx
    · exact hne e.symm
    · have := (o.fr x hx).2
      rw [e] at this
      rw [show (p, HO.tup [V.ref l, V.int j]).1 = p from rfl, hp] at this
      cases this
def sp_ls (one : List Int → Option (Int × Nat)) (K : PySem.W.Frag) (C : Addr) : Sp := fun vs H Q E => ∃ (a : Addr) (ns : List Int) (i : Int), vs = [.ref a, .int i] ∧ SqL K H a (ns.map V.int) ∧ Bw ns ∧ ns.length ≤ 1000000 ∧ -2000000 ≤ i ∧ i ≤ 2000000 ∧
  (∀ xs k, 0 ≤ i → rdLs one (ns.drop i.toNat) = some (xs, k) → RetLT H Q xs (i + (k : Int))) ∧
  (i < 0 ∨ rdLs one (ns.drop i.toNat) = none → RetE H E C [("index", .int i)])
def sp_rlist (one : List Int → Option (Int × Nat)) (K : PySem.W.Frag) (C f : Addr) : Sp := fun vs H Q E => ∃ (a : Addr) (ns : List Int) (i : Int), vs = [.ref a, .int i, .ref f] ∧ SqL K H a (ns.map V.int) ∧ Bw ns ∧ ns.length ≤ 1000000 ∧ -2000000 ≤ i ∧ i ≤ 2000000 ∧
  (∀ xs k, 0 ≤ i → rdLs one (ns.drop i.toNat) = some (xs, k) → RetLT H Q xs (i + (k : Int))) ∧
  (i < 0 ∨ rdLs one (ns.drop i.toNat) = none → RetE H E C [("index", .int i)])
theorem d_rlist {C_TesseraError C_Unreadable C_BadFilter : Addr} {one : List Int → Option (Int × Nat)} {fo : Addr} (hone : OneOk one) (T : Top K mg) (R : Errs K mg C_TesseraError C_Unreadable C_BadFilter) (E_Unreadable : EDef P w K mg base C_Unreadable "Unreadable" ["self", "index"] (sp_i1 C_Unreadable "index")) (EH_Unreadable : EDefH P w K mg base C_Unreadable "Unreadable" ["self", "index"] (sp_i1 C_Unreadable "index"))
    (L_read_one : HeldX P w K mg base (L2N.CX P w) 7 fo (sp_one one K C_Unreadable)) : Def P w K mg base (L2.CX P w) 8 "read_list" ["values", "index", "read_one"] (sp_rlist one K C_Unreadable fo) := by
  have G_read_number : Def P w K mg base (L2.CX P w) 5 "read_number" ["values", "index"] (sp_read_number K C_Unreadable) := (d_read_number T E_Unreadable).toX
  refine T.f_read_list.okX sc_read_list (by rintro vs H Q E ⟨a, ns, i, rfl, _⟩; rfl) (fun f cdv A outer s H vs Q E hr h => ?_)
  obtain ⟨a, ns, i, rfl, hS, hB, hl, hi1, hi2, q, qe⟩ := h
  refine ⟨_, (pss_cons (ps_asg (pe_callX G_read_number (L2.takes_of rfl rfl rfl rfl) (hr.mono (by decide)) (pa_cons (pv 0) (pa_cons (pv 1) pa_nil))) (pg_tup (n := 2) rfl (pgs_cons (pg_name (i := 3) sc_read_list.nd rfl (Or.inl rfl)) (pgs_cons (pg_name (i := 4) sc_read_list.nd rfl (Or.inl rfl)) pgs_nil))))
      (pss_cons (ps_set (i := 5) sc_read_list.nd rfl (Or.inl rfl) (pe_lst pa_nil))
      (pss_cons (ps_tryO (Wout := fun cls d _ H => E cls d H) rfl rfl ⟨rfl, by decide, Or.inl R.c_Unreadable.at_⟩ (fun hd => L2H.passesAt_of rfl hd) (L2.takes_of rfl rfl rfl rfl) (fun W pn xe tk po => (pss_one (ps_whileT po (pt_cmpR op_lt (pe_callB (r := Evl.rLenS K) call_len_seq (by rfl) T.b_len (by decide +kernel) (pa_cons (pv 5) pa_nil)) (pv 3) (nomark _)) (pss_cons (ps_asg (pe_callLN (i := 2) L_read_one tk (hr.mono (by decide)) rfl (Or.inl rfl) (pa_cons (pv 0) (pa_cons (pv 4) pa_nil))) (pg_tupK (K := K) (n := 2) rfl rfl (pgs_cons (pg_name (i := 6) sc_read_list.nd rfl (Or.inl rfl)) (pgs_cons (pg_name (i := 4) sc_read_list.nd rfl (Or.inl rfl)) pgs_nil))))
      (pss_one (ps_expr (pe_bmK (K := K) rfl PySem.F.plainAttrs_list PySem.F.slot_list_append PySem.F.type_list_append mt_append (pv 5) (pa_cons (pv 6) pa_nil)))))))) (fun a oe cls d pn hz hf tkS hot => (pss_one (ps_raiseF hot tkS (pmk5_e1 EH_Unreadable (L2H.roomH_mark (hr.mono (by decide)) _) hot (pa_cons (pv 1) pa_nil))))))
      (pss_one (ps_ret (pe_tup (pa_cons (pv 5) (pa_cons (pv 4) pa_nil)))))))), ?_⟩
  walk_at "rd"
  refine ⟨a, ns, i, rfl, hS, hB, hl, hi1, hi2, fun c k h0 hx => ?_, fun hx => qe ?_⟩
  rotate_left
  · rcases hx with hx | hx
    · exact .inl hx
    · refine .inr ?_
      unfold rdLs
      rw [hx]
      rfl
  have hk := rdN_ok _ _ _ _ hx
  rw [List.length_drop] at hk
  refine r_ret1 (Own.nil H) fun p1 H1 o1 => ?_
  walk_at "rd"
  refine r_newL o1 (Nat.zero_le _) fun p2 H2 o2 => ?_
  walk_at "rd"
  obtain ⟨i0, rfl⟩ : ∃ i0 : Nat, i = i0 := ⟨i.toNat, by omega⟩
  have ht : rdLs one (ns.drop i0) = (rdL one (ns.length - i0 + 1) c (ns.drop (i0 + k))).map fun q => (q.1, k + q.2) := by
    unfold rdLs
    rw [show rdN (ns.drop i0) true = some (c, k) from hx]
    show (rdL one ((ns.drop i0).length + 1) c ((ns.drop i0).drop k)).map _ = _
    rw [List.length_drop, List.drop_drop]
  rw [show ((i0 : Nat) : Int).toNat = i0 from rfl] at q qe hk
  generalize rdLs one (ns.drop i0) = tot at *
  refine whileB (fun m σ' H' => ∃ (xs : List Int) (b g : Nat) (v6 : Option V) (L : List (Addr × HO)), m = ns.length - b ∧ b ≤ ns.length ∧ ns.length - b < g ∧ i0 ≤ b ∧ xs.length ≤ b ∧ σ' = [some (.ref a), some (.int (i0 : Int)), some (.ref fo), some (.int c), some (.int (b : Int)), some (.ref p2), v6] ∧
    tot = (rdL one g (c - (xs.length : Int)) (ns.drop b)).map (fun q => (xs ++ q.1, (b - i0) + q.2)) ∧ Own H H' ((p2, .lst (xs.map V.int)) :: L)) (ns.length - (i0 + k))
    ⟨[], i0 + k, ns.length - i0 + 1, _, _, rfl, by omega, by omega, by omega, Nat.zero_le _, (by rw [show ((i0 : Int) + (k : Int)) = ((i0 + k : Nat) : Int) by omega]; rfl), (by rw [ht, List.length_nil, show c - ((0 : Nat) : Int) = c by omega, show i0 + k - i0 = k by omega]; rfl), o2⟩ ?_
  rintro m σ' H' ⟨xs, b, g, v6, L, rfl, hb, hg, hib, hxb, rfl, ht2, o⟩
  walk_at "rd"
  rw [List.length_map]
  refine rif (fun h1 => ?_) fun h1 => ?_
  · refine wh_turn ?_
    obtain ⟨g, rfl⟩ : ∃ g2, g = g2 + 1 := ⟨g - 1, by omega⟩
    walk_at "rd"
    refine ⟨a, ns, (b : Int), rfl, o.old hS, hB, hl, by omega, by omega, fun x k2 _ hx2 => ?_, fun hx2 => ?_⟩
    · rw [show ((b : Nat) : Int).toNat = b from rfl] at hx2
      have hk2 := hone _ _ _ hx2
      rw [List.length_drop] at hk2
      rw [rdL_some (by omega) hx2] at ht2
      refine r_ret1 o fun p3 H3 o3 => ?_
      walk_at "rd"
      refine r_app o3 1 rfl (by rw [List.length_map]; omega) fun H4 o4 => ?_
      have o5 : Own H H4 ((p2, .lst ((xs ++ [x]).map V.int)) :: _) := (by
        rw [List.map_append]
        exact o4.cons_of (o4.pick1 0 rfl) (List.mem_of_getElem? (i := 1) rfl) fun q2 hq2 => by rw [List.mem_singleton.mp hq2]; exact o4.nei (i := 0) (j := 1) rfl rfl (by decide))
      refine ⟨ns.length - (b + k2), by omega, xs ++ [x], b + k2, g, _, _, rfl, by omega, by omega, by omega, (by rw [List.length_append]; show xs.length + 1 ≤ _; omega), (by rw [show ((b + k2 : Nat) : Int) = (b : Int) + (k2 : Int) by omega]; rfl), ?_, o5⟩
      · rw [ht2, List.drop_drop, List.length_append, show c - (xs.length : Int) - 1 = c - ((xs.length + [x].length : Nat) : Int) by show _ = c - ((xs.length + 1 : Nat) : Int); omega, Option.map_map]
        congr 1
        funext q2
        show (xs ++ (x :: q2.1), b - i0 + (k2 + q2.2)) = (xs ++ [x] ++ q2.1, b + k2 - i0 + q2.2)
        rw [List.append_assoc]
        congr 1
        omega
    · have hn : one (ns.drop b) = none := by
        rcases hx2 with hx2 | hx2
        · omega
        · exact hx2
      rw [rdL_none (by omega) hn] at ht2
      refine r_retE o fun d H3 hd o3 => ?_
      refine wo_yes (R.c_Unreadable.exm R.s_Unreadable_Unreadable) fun a0 na => ?_
      walk_at "rd"
      refine r_raise ⟨_, rfl, rfl, ?_, fun d2 hd2 => (qe (.inr ht2)).mk o3 hd2⟩
      intro u hu
      rw [List.mem_singleton.mp hu]
      exact tell_small ⟨by omega, by omega⟩
  · rw [rdL_0 one (by omega)] at ht2
    walk_at "rd"
    refine r_newT o (Nat.le_of_ble_eq_true rfl) fun p3 H3 o3 => ?_
    have z := q _ _ (by omega) ht2
    rw [List.append_nil, Nat.add_zero] at z
    refine z.mk o3 0 1 (by rw [show (i0 : Int) + ((b - i0 : Nat) : Int) = (b : Int) by omega]; rfl) rfl
end

section
variable {P : Program} {w : World} {K : PySem.W.Frag} {mg : Str → Option Value} {base : Heap}
def Byt (zs : List Int) : Prop := ∀ z ∈ zs, 0 ≤ z ∧ z < 256
theorem drop_gi {ns : List Int} {i : Int} (h0 : 0 ≤ i) (h1 : i < ns.length) : ns.drop i.toNat = gi ns i :: ns.drop (i.toNat + 1) := by
  obtain ⟨n, rfl⟩ := Int.eq_ofNat_of_zero_le h0
  have hlt : n < ns.length := by omega
  show ns.drop n = gi ns (n : Int) :: ns.drop (n + 1)
  rw [gi_nat hlt, List.getElem_cons_drop]
def sp_stands (K : PySem.W.Frag) : Sp := fun vs H Q _ => ∃ (a : Addr) (ns : List Int) (i m : Int), vs = [.ref a, .int i, .int m] ∧ SqL K H a (ns.map V.int) ∧ Q (.bl (decide (0 ≤ i ∧ i < ns.length ∧ gi ns i ≤ m))) H
theorem d_stands (T : Top K mg) : Def P w K mg base CX0 1 "stands_at" ["values", "index", "highest"] (sp_stands K) := by
  refine T.f_stands_at.ok sc_stands_at (by rintro vs H Q E ⟨a, ns, i, m, rfl, _⟩; rfl) (fun f cdv A outer s H vs Q E hr h => ?_)
  obtain ⟨a, ns, i, m, rfl, hS, q⟩ := h
  refine ⟨_, (pss_one (ps_ret (pe_and (pe_chain op_le op_lt pe_int (pv 1) (pe_callB (r := Evl.rLenS K) call_len_seq (by rfl) T.b_len (by decide +kernel) (pa_cons (pv 0) pa_nil))) (pe_one (pe_cmpR op_le (pe_ix (r := rIxL K) ix_list (pv 0) (pv 1) (fun _ _ => rfl)) (pv 2) (nomark _)))))), ?_⟩
  walk_at "rd"
  refine rif (fun h1 => ?_) fun h1 => ?_
  · walk_at "rd"
    rw [List.length_map]
    refine rif (fun h2 => ?_) fun h2 => ?_
    · walk_at "rd"
      rw [decide_eq_decide.mpr (show (0 ≤ i ∧ i < ns.length ∧ gi ns i ≤ m) ↔ gi ns i ≤ m from ⟨fun h => h.2.2, fun h => ⟨h1, h2, h⟩⟩)] at q
      exact q
    · walk_at "rd"
      rw [decide_eq_false (fun h => h2 h.2.1)] at q
      exact q
  · walk_at "rd"
    rw [decide_eq_false (fun h => h1 h.1)] at q
    exact q
theorem d_read_byte {C : Addr} (T : Top K mg) (E_Unreadable : EDef P w K mg base C "Unreadable" ["self", "index"] (sp_i1 C "index")) : Def P w K mg base (L2N.CX P w) 6 "read_byte" ["values", "index"] (sp_one rdB K C) := by
  have G_stands_at : Def P w K mg base CX0 1 "stands_at" ["values", "index", "highest"] (sp_stands K) := d_stands T
  obtain ⟨t1, g_HIGHEST_BYTE⟩ := T.g_HIGHEST_BYTE
  obtain ⟨t2, g_ESCAPE⟩ := T.g_ESCAPE
  obtain ⟨t3, g_HIGHEST_ESCAPED⟩ := T.g_HIGHEST_ESCAPED
  refine T.f_read_byte.okN sc_read_byte (by rintro vs H Q E ⟨a, ns, i, rfl, _⟩; rfl) (fun f cdv A outer s H vs Q E hr h => ?_)
  obtain ⟨a, ns, i, rfl, hS, hB, hl, hi1, hi2, q, qe⟩ := h
  have bad : (i < 0 ∨ rdB (ns.drop i.toNat) = none) → tRaise (tErr C ["index"] (tCons (tVar 1) tNil)) (fun cls d _ H => E cls d H) { nx := fun σ H => True, rt := fun _ _ => True } [some (.ref a), some (.int i)] H := fun ho => by
    refine r_raise ⟨_, rfl, rfl, ?_, fun d hd => (qe ho).mk (Own.nil H) hd⟩
    intro u hu
    rw [List.mem_singleton.mp hu]
    exact tell_small ⟨by omega, by omega⟩
  refine ⟨_, (pss_cons (ps_if (pt_not (pt_val (pe_callD G_stands_at (hr.mono (by decide)) (pa_cons (pv 0) (pa_cons (pv 1) (pa_cons (pe_glob (v := .int 249) rfl g_HIGHEST_BYTE ⟨_, rfl⟩) pa_nil)))))) (pss_one (ps_raiseE rfl (L2N.takes_of rfl rfl rfl rfl) (pmk_e1 E_Unreadable (hr.mono (by decide)) (pa_cons (pv 1) pa_nil)))) pss_nil)
      (pss_cons (ps_if (pt_cmpR op_lt (pe_ix (r := rIxL K) ix_list (pv 0) (pv 1) (fun _ _ => rfl)) (pe_glob (v := .int 249) rfl g_ESCAPE ⟨_, rfl⟩) (nomark _)) (pss_one (ps_ret (pe_tup (pa_cons (pe_ix (r := rIxL K) ix_list (pv 0) (pv 1) (fun _ _ => rfl)) (pa_cons (pe_op op_add (pv 1) pe_int) pa_nil))))) pss_nil)
      (pss_cons (ps_if (pt_not (pt_val (pe_callD G_stands_at (hr.mono (by decide)) (pa_cons (pv 0) (pa_cons (pe_op op_add (pv 1) pe_int) (pa_cons (pe_glob (v := .int 6) rfl g_HIGHEST_ESCAPED ⟨_, rfl⟩) pa_nil)))))) (pss_one (ps_raiseE rfl (L2N.takes_of rfl rfl rfl rfl) (pmk_e1 E_Unreadable (hr.mono (by decide)) (pa_cons (pv 1) pa_nil)))) pss_nil)
      (pss_one (ps_ret (pe_tup (pa_cons (pe_op op_add (pe_glob (v := .int 249) rfl g_ESCAPE ⟨_, rfl⟩) (pe_ix (r := rIxL K) ix_list (pv 0) (pe_op op_add (pv 1) pe_int) (fun _ _ => rfl))) (pa_cons (pe_op op_add (pv 1) pe_int) pa_nil)))))))), ?_⟩
  walk_at "rd"
  refine ⟨a, ns, i, _, rfl, hS, ?_⟩
  walk_at "rd"
  refine rif_n (fun h1 => ?_) fun h1 => ?_
  · walk_at "rd"
    refine bad ?_
    by_cases h0 : i < 0
    · exact .inl h0
    · refine .inr ?_
      by_cases h2 : i < ns.length
      · rw [drop_gi (by omega) h2]
        show (if gi ns i > 249 then none else _) = none
        rw [if_pos (by omega)]
      · rw [List.drop_of_length_le (by omega)]
        rfl
  obtain ⟨h0, h2, h3⟩ := h1
  have hd := drop_gi h0 h2
  have hb := hB.gi h0 h2
  have hr1 : rdB (ns.drop i.toNat) = if gi ns i < 249 then some (gi ns i, 1) else match ns.drop (i.toNat + 1) with
      | [] => none
      | c :: _ => if c ≤ 6 then some (249 + c, 2) else none := by
    rw [hd]
    show (if gi ns i > 249 then none else _) = _
    rw [if_neg (by omega)] <;> rfl
  walk_at "rd"
  refine rif (fun h4 => ?_) fun h4 => ?_
  · rw [if_pos h4] at hr1
    have z := q _ _ h0 hr1
    walk_at "rd"
    refine r_newT (Own.nil H) (Nat.le_of_ble_eq_true rfl) fun p2 H2 o2 => ?_
    exact z.mk o2 0 rfl
  rw [if_neg h4] at hr1
  walk_at "rd"
  refine ⟨a, ns, i + 1, _, rfl, hS, ?_⟩
  walk_at "rd"
  refine rif_n (fun h5 => ?_) fun h5 => ?_
  · walk_at "rd"
    refine bad (.inr ?_)
    rw [hr1]
    by_cases h6 : i + 1 < ns.length
    · have hd2 := drop_gi (ns := ns) (i := i + 1) (by omega) h6
      rw [show (i + 1).toNat = i.toNat + 1 by omega] at hd2
      rw [hd2]
      show (if gi ns (i + 1) ≤ 6 then _ else none) = none
      rw [if_neg (by omega)]
    · rw [List.drop_of_length_le (by omega)]
  obtain ⟨h6, h7, h8⟩ := h5
  have hd2 := drop_gi (ns := ns) (i := i + 1) (by omega) h7
  rw [show (i + 1).toNat = i.toNat + 1 by omega] at hd2
  rw [hd2] at hr1
  have hr2 : rdB (ns.drop i.toNat) = if gi ns (i + 1) ≤ 6 then some (249 + gi ns (i + 1), 2) else none := hr1
  rw [if_pos h8] at hr2
  have z := q _ _ h0 hr2
  walk_at "rd"
  refine r_newT (Own.nil H) (Nat.le_of_ble_eq_true rfl) fun p2 H2 o2 => ?_
  exact z.mk o2 0 rfl
theorem d_read_bytes {C_TesseraError C_Unreadable C_BadFilter : Addr} (T : Top K mg) (R : Errs K mg C_TesseraError C_Unreadable C_BadFilter) (E_Unreadable : EDef P w K mg base C_Unreadable "Unreadable" ["self", "index"] (sp_i1 C_Unreadable "index")) (EH_Unreadable : EDefH P w K mg base C_Unreadable "Unreadable" ["self", "index"] (sp_i1 C_Unreadable "index")) : Def P w K mg base (L2.CX P w) 9 "read_bytes" ["values", "index"] (sp_ls rdB K C_Unreadable) := by
  obtain ⟨fa_read_byte, fd1, F1, hm_read_byte, hk1, hb1⟩ := (d_read_byte (P := P) (w := w) (base := base) T E_Unreadable).ex
  have G_read_list : Def P w K mg base (L2.CX P w) 8 "read_list" ["values", "index", "read_one"] (sp_rlist rdB K C_Unreadable fa_read_byte) := d_rlist rdB_ok T R E_Unreadable EH_Unreadable ⟨fd1, _, F1.mono (by decide), hk1, hb1⟩
  refine T.f_read_bytes.okX sc_read_bytes (by rintro vs H Q E ⟨a, ns, i, rfl, _⟩; rfl) (fun f cdv A outer s H vs Q E hr h => ?_)
  obtain ⟨a, ns, i, rfl, hS, hB, hl, hi1, hi2, q, qe⟩ := h
  refine ⟨_, (pss_one (ps_ret (pe_callX G_read_list (L2.takes_of rfl rfl rfl rfl) (hr.mono (by decide)) (pa_cons (pv 0) (pa_cons (pv 1) (pa_cons (pe_glob (v := .ref fa_read_byte) rfl hm_read_byte rfl) pa_nil)))))), ?_⟩
  walk_at "rd"
  exact ⟨a, ns, i, rfl, hS, hB, hl, hi1, hi2, q, qe⟩
end

section
variable {P : Program} {w : World} {K : PySem.W.Frag} {mg : Str → Option Value} {base : Heap}
def GR9 : List Int := [0, 1, 124, 125, 249, 250, 15624, 15625, 31249]
def sp_lnumber : Sp := fun vs H Q _ => ∃ (n : Nat), vs = [.int (n : Int)] ∧ n < 125 ^ 21 ∧ RetO H Q (.lst ((numB n).map V.int))
theorem d_lnumber (T : Top K mg) : Def P w K mg base CX0 1 "_law_number_bytes" ["number"] sp_lnumber := by
  refine T.f__law_number_bytes.ok sc__law_number_bytes (by rintro vs H Q E ⟨n, rfl, _⟩; rfl) (fun f cdv A outer s H vs Q E hr h => ?_)
  obtain ⟨n, rfl, hn, q⟩ := h
  have fin : ∀ (m : Nat) (ws : List Int) (p : Addr) (H' : Hp), m < 125 → ws ++ numB m = numB n → Own H H' [(p, .lst (ws.map V.int))] → ∀ Z : Prop, (∀ (_ : ∀ p2 H2, Own H H2 [(p2, .lst ((ws ++ [(m : Int)]).map V.int))] → Q (.ref p2) H2), Z) → Z := fun m ws p H' hm hw o Z z => z fun p2 H2 o2 => by
    rw [numB_lt hm] at hw
    rw [hw] at o2
    exact q.mk o2 0 rfl
  have hnl := numB_len 20 n hn
  refine ⟨_, (pss_cons (ps_set (i := 1) sc__law_number_bytes.nd rfl (Or.inl rfl) (pe_lst pa_nil))
      (pss_cons (ps_for PassesOwn.never rfl (pi_range1 (by rfl) T.b_range (pa_cons pe_int pa_nil)) (pg_name (i := 2) sc__law_number_bytes.nd rfl (Or.inl rfl)) (pss_cons (ps_if (pt_cmpR op_lt (pv 0) pe_int (nomark _)) (pss_one ps_break) pss_nil)
      (pss_cons (ps_expr (pe_bm PySem.F.plainAttrs_list PySem.F.slot_list_append PySem.F.type_list_append mt_append (pv 1) (pa_cons (pe_op op_add pe_int (pe_op op_mod (pe_callTy (r := rInt1) call_int1 (by rfl) T.b_int (by decide +kernel) (pa_cons (pv 0) pa_nil)) pe_int)) pa_nil)))
      (pss_one (ps_set (i := 0) sc__law_number_bytes.nd rfl (Or.inl rfl) (pe_op op_fdiv (pv 0) pe_int))))))
      (pss_one (ps_ret (pe_op op_cat (pv 1) (pe_lst (pa_cons (pv 0) pa_nil))))))), ?_⟩
  walk_at "rd"
  refine r_newL (Own.nil H) (Nat.zero_le _) fun p1 H1 o1 => ?_
  walk_at "rd"
  refine forR1 (n := 20) rfl (by omega) (fun k σ' H' => ∃ (m : Nat) (ws : List Int) (v : Option V), σ' = [some (.int (m : Int)), some (.ref p1), v] ∧ k ≤ 20 ∧ m < 125 ^ (21 - k) ∧ ws ++ numB m = numB n ∧ Own H H' [(p1, .lst (ws.map V.int))]) ⟨n, [], _, rfl, Nat.zero_le _, hn, rfl, o1⟩ ?_ ?_
  · rintro k σ' H' hk ⟨m, ws, v, rfl, _, hm, hw, o⟩
    have hwl : ws.length ≤ 21 := by
      have := congrArg List.length hw
      rw [List.length_append] at this
      omega
    walk_at "rd"
    refine rif (fun h1 => ?_) fun h1 => ?_
    · walk_at "rd"
      refine r_newL o (Nat.le_of_ble_eq_true rfl) fun p2 H2 o2 => ?_
      refine r_cat o2 (o2.at 1 rfl) (o2.at 0 rfl) (by rw [List.length_map]; show _ + 1 ≤ _; omega) fun p3 H3 o3 => ?_
      rw [show ws.map V.int ++ [V.int (m : Int)] = (ws ++ [(m : Int)]).map V.int by rw [List.map_append]; rfl] at o3
      exact fin m ws p1 H' (by omega) hw o _ fun z => z p3 H3 (o3.pick1 0 rfl)
    · walk_at "rd"
      refine r_app o 0 rfl (by rw [List.length_map]; omega) fun H2 o2 => ?_
      walk_at "rd"
      refine ⟨m / 125, ws ++ [((m % 125 + 125 : Nat) : Int)], _, rfl, by omega, ?_, ?_, ?_⟩
      · refine Nat.div_lt_of_lt_mul ?_
        rw [show 21 - k = (21 - (k + 1)) + 1 by omega, Nat.pow_succ, Nat.mul_comm] at hm
        exact hm
      · rw [List.append_assoc, List.singleton_append, ← numB_ge (by omega)]
        exact hw
      · rw [show ((m % 125 + 125 : Nat) : Int) = 125 + (m : Int) % 125 by omega, List.map_append]
        exact o2
  · rintro σ' H' ⟨m, ws, v, rfl, _, hm, hw, o⟩
    have hwl : ws.length ≤ 21 := by
      have := congrArg List.length hw
      rw [List.length_append] at this
      omega
    walk_at "rd"
    refine r_newL o (Nat.le_of_ble_eq_true rfl) fun p2 H2 o2 => ?_
    refine r_cat o2 (o2.at 1 rfl) (o2.at 0 rfl) (by rw [List.length_map]; show _ + 1 ≤ _; omega) fun p3 H3 o3 => ?_
    rw [show ws.map V.int ++ [V.int (m : Int)] = (ws ++ [(m : Int)]).map V.int by rw [List.map_append]; rfl] at o3
    exact fin m ws p1 H' (by simpa using hm) hw o _ fun z => z p3 H3 (o3.pick1 0 rfl)
end

section
variable {P : Program} {w : World} {K : PySem.W.Frag} {mg : Str → Option Value} {base : Heap}
def sp_lbb (K : PySem.W.Frag) : Sp := fun vs H Q _ => ∃ (a : Addr) (zs : List Int), vs = [.ref a] ∧ SqL K H a (zs.map V.int) ∧ zs.length ≤ 100000 ∧ RetO H Q (.lst ((lsB byB zs).map V.int))
theorem d_lbb (T : Top K mg) : Def P w K mg base CX0 2 "_law_bytes_bytes" ["values"] (sp_lbb K) := by
  have G__law_number_bytes : Def P w K mg base CX0 1 "_law_number_bytes" ["number"] sp_lnumber := d_lnumber T
  refine T.f__law_bytes_bytes.ok sc__law_bytes_bytes (by rintro vs H Q E ⟨a, zs, rfl, _⟩; rfl) (fun f cdv A outer s H vs Q E hr h => ?_)
  obtain ⟨a, zs, rfl, hS, hl, q⟩ := h
  have hn0 : zs.length < 125 ^ 21 := Nat.lt_of_le_of_lt hl (by decide)
  have hn := numB_len 20 zs.length hn0
  refine ⟨_, (pss_cons (ps_set (i := 1) sc__law_bytes_bytes.nd rfl (Or.inl rfl) (pe_callD G__law_number_bytes (hr.mono (by decide)) (pa_cons (pe_callB (r := Evl.rLenS K) call_len_seq (by rfl) T.b_len (by decide +kernel) (pa_cons (pv 0) pa_nil)) pa_nil)))
      (pss_cons (ps_for PassesOwn.never rfl (pi_list (pv 0)) (pg_name (i := 2) sc__law_bytes_bytes.nd rfl (Or.inl rfl)) (pss_one (ps_if (pt_cmpR op_lt (pv 2) pe_int (nomark _)) (pss_one (ps_set (i := 1) sc__law_bytes_bytes.nd rfl (Or.inl rfl) (pe_op op_cat (pv 1) (pe_lst (pa_cons (pv 2) pa_nil))))) (pss_one (ps_set (i := 1) sc__law_bytes_bytes.nd rfl (Or.inl rfl) (pe_op op_cat (pv 1) (pe_lst (pa_cons pe_int (pa_cons (pe_op op_sub (pv 2) pe_int) pa_nil)))))))))
      (pss_one (ps_ret (pv 1))))), ?_⟩
  walk_at "rd"
  refine ⟨zs.length, by rw [List.length_map]; rfl, hn0, r_ret1 (Own.nil H) fun p1 H1 o1 => ?_⟩
  walk_at "rd"
  refine forL (o1.old hS) (fun i σ' H' => ∃ (v : Option V) (p : Addr) (L : List (Addr × HO)), σ' = [some (.ref a), some (.ref p), v] ∧ Own H H' ((p, .lst ((numB zs.length ++ (zs.take i).flatMap byB).map V.int)) :: L)) ⟨_, p1, [], rfl, (by rw [List.take_zero, List.flatMap_nil, List.append_nil]; exact o1)⟩ (fun i σ' H' _ ⟨_, _, _, _, o⟩ => o.old hS) ?_ ?_
  · rintro i x σ' H' hx ⟨v, p, L, rfl, o⟩
    obtain ⟨z, hv, rfl⟩ := get_ints hx
    have hfi := flat_le (wr := byB) (m := 2) (zs.take i) fun z _ => (by_len z).2
    have htl : (zs.take i).length ≤ zs.length := by rw [List.length_take]; omega
    have hf : (zs.take (i + 1)).flatMap byB = (zs.take i).flatMap byB ++ byB z := take_flat hv
    have fin : ∀ p3 H3 L3, Own H H3 ((p3, .lst ((numB zs.length ++ (zs.take i).flatMap byB).map V.int ++ (byB z).map V.int)) :: L3) → Own H H3 ((p3, .lst ((numB zs.length ++ (zs.take (i + 1)).flatMap byB).map V.int)) :: L3) := fun p3 H3 L3 o3 => by
      rw [← List.map_append, List.append_assoc, ← hf] at o3
      exact o3
    walk_at "rd"
    refine rif (fun h1 => ?_) fun h1 => ?_
    · have hb1 : byB z = [z] := by unfold byB; rw [if_pos h1]
      walk_at "rd"
      refine r_newL o (Nat.le_of_ble_eq_true rfl) fun p2 H2 o2 => ?_
      refine r_cat o2 (o2.at 1 rfl) (o2.at 0 rfl) (by rw [List.length_map, List.length_append]; show _ + 1 ≤ _; omega) fun p3 H3 o3 => ?_
      walk_at "rd"
      exact ⟨_, p3, _, rfl, fin _ _ _ (by rw [hb1]; exact o3)⟩
    · have hb1 : byB z = [249, z - 249] := by unfold byB; rw [if_neg h1]
      walk_at "rd"
      refine r_newL o (Nat.le_of_ble_eq_true rfl) fun p2 H2 o2 => ?_
      refine r_cat o2 (o2.at 1 rfl) (o2.at 0 rfl) (by rw [List.length_map, List.length_append]; show _ + 2 ≤ _; omega) fun p3 H3 o3 => ?_
      walk_at "rd"
      exact ⟨_, p3, _, rfl, fin _ _ _ (by rw [hb1]; exact o3)⟩
  · rintro σ' H' ⟨v, p, L, rfl, o⟩
    rw [List.length_map, List.take_length] at o
    walk_at "rd"
    exact q.mk o 0 rfl
def SGS : Str := PySem.Str.ofString " !\"#$&'()*+,-./0123456789:;<=>?@ABCDEFGHIJKLMNOPQRSTUVWXYZ[\\]^_`abcdefghijklmnopqrstuvwxyz{|}~"
theorem sgs_len : SGS.length = 94 := by decide +kernel
def TxC (c : Nat) : Prop := 32 ≤ c ∧ c ≤ 126 ∧ c ≠ 37
instance (c : Nat) : Decidable (TxC c) := by unfold TxC; infer_instance
theorem sgs_at : ∀ j, j < 94 → TxC (SGS.cps.toList.getD j 0) := by decide +kernel
theorem sgs_get {j : Nat} (h : j < 94) : ∃ c, SGS.cps.toList[j]? = some c ∧ TxC c := by
  have h1 := sgs_at j h
  have h2 : j < SGS.cps.toList.length := by rw [show SGS.cps.toList.length = 94 by decide +kernel]; exact h
  rw [List.getD_eq_getElem?_getD, List.getElem?_eq_getElem h2] at h1
  exact ⟨_, List.getElem?_eq_getElem h2, h1⟩
theorem sgs_idx0 : ∀ c, c < 127 → TxC c → Txt.index0 SGS (tx [c]) = some (if c < 37 then c - 32 else c - 33) := by decide +kernel
theorem sgs_idx {c : Nat} (h : TxC c) : Txt.index0 SGS (tx [c]) = some (if c < 37 then c - 32 else c - 33) := sgs_idx0 c (by have := h.2.1; omega) h
end

section
variable {P : Program} {w : World} {K : PySem.W.Frag} {mg : Str → Option Value} {base : Heap}
/-- the fields of a layout -/
def lyF (z : V) (c f t : V) : List (Str × V) := putF "filters" t (putF "fill" f (putF "chunk_shape" c (putF "kind" z [])))
theorem upd_upd (H : Hp) (p : Addr) (u v : HO) : upd (upd H p u) p v = upd H p v := by
  funext b
  unfold upd
  split <;> rfl
def sp_lyinit (C : Addr) : Sp := fun vs H Q _ => ∃ (p dx : Addr) (z c f t : V), vs = [.ref p, z, c, f, t] ∧ H p = some (.ins C dx []) ∧ Q .non (upd H p (.ins C dx (lyF z c f t)))
theorem d_lyinit {C : Addr} (T : Top K mg) (D : Cl_Layout K mg C) : KDef P w K mg base CX0 1 C ["self", "kind", "chunk_shape", "fill", "filters"] (sp_lyinit C) := by
  refine D.i_.ok sc_Layout___init__ (by rintro vs H Q E ⟨p, dx, z, c, f, t, rfl, _⟩; rfl) (fun f cdv A outer s H vs Q E hr h => ?_)
  obtain ⟨p, dx, z, c, f, t, rfl, hp, q⟩ := h
  refine ⟨_, (pss_cons (ps_fld (pv 0) (pv 1) rfl)
      (pss_cons (ps_fld (pv 0) (pv 2) rfl)
      (pss_cons (ps_fld (pv 0) (pv 3) rfl)
      (pss_one (ps_fld (pv 0) (pv 4) rfl))))), ?_⟩
  walk_at "rd"
  refine ⟨p, C, dx, [], rfl, hp, D.cl, D.a_kind, by decide, ?_⟩
  walk_at "rd"
  refine ⟨p, C, dx, _, rfl, upd_same, D.cl, D.a_chunk_shape, Nat.le_of_ble_eq_true rfl, ?_⟩
  walk_at "rd"
  refine ⟨p, C, dx, _, rfl, upd_same, D.cl, D.a_fill, Nat.le_of_ble_eq_true rfl, ?_⟩
  walk_at "rd"
  refine ⟨p, C, dx, _, rfl, upd_same, D.cl, D.a_filters, Nat.le_of_ble_eq_true rfl, ?_⟩
  rw [upd_upd, upd_upd, upd_upd]
  exact q
/-- the layout at x -/
def IsLy (K : PySem.W.Frag) (H : Hp) (C x : Addr) (z : Str) (cs : List Int) (fl : Int) (nms : List Str) : Prop := ∃ (dx c t : Addr), H x = some (.ins C dx (lyF (.str z) (.ref c) (.int fl) (.ref t))) ∧ SqT K H c (cs.map V.int) ∧ SqT K H t (nms.map V.str)
theorem IsLy.up {H H' : Hp} {C x : Addr} {z : Str} {cs : List Int} {fl : Int} {nms : List Str} (h : IsLy K H C x z cs fl nms) (s : Same H H') : IsLy K H' C x z cs fl nms := by
  obtain ⟨dx, c, t, h1, h2, h3⟩ := h
  exact ⟨dx, c, t, s _ _ h1, (Stp.of s).sq h2, (Stp.of s).sq h3⟩
end

/-! ### selections -/
inductive Sel where
  | pts (ps : List (List Int))
  | box (rs : List (Int × Int × Int))
def tupI (p : List Int) : PyData := .tuple (p.map PyData.int)
def triI (r : Int × Int × Int) : PyData := .tuple [.int r.1, .int r.2.1, .int r.2.2]
def Sel.d : Sel → PyData
  | .pts ps => .tuple [.str (PySem.Str.ofString "points"), .tuple (ps.map tupI)]
  | .box rs => .tuple [.str (PySem.Str.ofString "box"), .tuple (rs.map triI)]
def isIdx (sh ix : List Int) : Bool := decide (ix.length = sh.length) && (ix.zip sh).all fun p => decide (0 ≤ p.1) && decide (p.1 < p.2)
def wholeR (sh : List Int) : List (Int × Int × Int) := sh.map fun z => (0, 1, z)
def prodL (ns : List Int) : Int := ns.foldl (· * ·) 1
def rLast (r : Int × Int × Int) : Int := r.1 + r.2.1 * (r.2.2 - 1)
def rOk (r : Int × Int × Int) : Bool := decide (0 ≤ r.1) && decide (1 ≤ r.2.1) && decide (0 ≤ r.2.2)
def boxFits (sh : List Int) (rs : List (Int × Int × Int)) : Bool :=
  decide (rs.length = sh.length) && rs.all rOk && (rs.any (fun r => decide (r.2.2 = 0)) || ((rs.map rLast).zip sh).all fun p => decide (p.1 < p.2))
def Sel.fits (sh : List Int) : Sel → Bool
  | .pts ps => ps.all (isIdx sh)
  | .box rs => boxFits sh rs
def Sel.size : Sel → Int
  | .pts ps => ps.length
  | .box rs => prodL (rs.map (·.2.2))
def Sel.len : Sel → Nat
  | .pts ps => ps.length
  | .box rs => rs.length
/-- the sizes of what is passed -/
def Sel.ok : Sel → Prop
  | .pts ps => ps.length ≤ 200000 ∧ ∀ p ∈ ps, p.length ≤ 1000
  | .box rs => rs.length ≤ 1000 ∧ ∀ r ∈ rs, -1000000000000000000 ≤ r.2.1 ∧ r.2.1 ≤ 1000000000000000000
theorem prodL_take {ns : List Int} {i : Nat} {x : Int} (h : ns[i]? = some x) : prodL (ns.take (i + 1)) = prodL (ns.take i) * x := by
  unfold prodL
  rw [List.take_add_one, h, List.foldl_append]
  rfl
theorem int_atT {ns : List Int} {i : Nat} {v : V} (h : (ns.map V.int)[i]? = some v) : ∃ x, ns[i]? = some x ∧ v = .int x := by
  rw [List.getElem?_map] at h
  cases e : ns[i]? with
  | none => rw [e] at h; cases h
  | some x => rw [e] at h; cases h; exact ⟨x, rfl, rfl⟩
theorem zip_get {α β : Type} {xs : List α} {ys : List β} {i : Nat} {x : α} {y : β} (h : xs[i]? = some x) (h2 : ys[i]? = some y) : (xs.zip ys)[i]? = some (x, y) := List.getElem?_zip_eq_some.mpr ⟨h, h2⟩
/-- the answers of a zip's turns -/
theorem zip_map {α β γ : Type} {xs : List α} {ys : List β} {n : Nat} (hn : n = min xs.length ys.length) (g : Nat → γ) (f : α × β → γ) (h : ∀ i x y, xs[i]? = some x → ys[i]? = some y → g i = f (x, y)) : (List.range n).map g = (xs.zip ys).map f := by
  subst hn
  have e : min xs.length ys.length = (xs.zip ys).length := by rw [List.length_zip]
  rw [e]
  refine range_map_get (xs.zip ys) f g fun i p hp => ?_
  obtain ⟨h1, h2⟩ := List.getElem?_zip_eq_some.mp hp
  exact h i _ _ h1 h2
theorem same_seqL' {K : PySem.W.Frag} {H H' : Hp} {l : Addr} {xs : List V} (e : Same H H') (h : SqL K H l xs) : SqL K H' l xs := e.seq h
section
variable {P : Program} {w : World} {K : PySem.W.Frag} {mg : Str → Option Value} {base : Heap}
theorem sel_inv {H : Hp} {v : V} {s : Str} {ds : List PyData} (h : Tp K H v (.tuple [.str s, .tuple ds])) : ∃ a c ws, v = .ref a ∧ SqT K H a [.str s, .ref c] ∧ SqT K H c ws ∧ TpAll K H ws ds := by
  obtain ⟨a, xs, rfl, hs, ha⟩ := h.inv
  cases ha with
  | cons h1 h2 =>
    cases h2 with
    | cons h3 h4 =>
      cases h4
      cases h1
      obtain ⟨c, ws, rfl, hc, hw⟩ := h3.inv
      exact ⟨a, c, ws, rfl, hs, hc, hw⟩
theorem tri_inv {H : Hp} {v : V} {r : Int × Int × Int} (h : Tp K H v (triI r)) : ∃ a, v = .ref a ∧ SqT K H a [.int r.1, .int r.2.1, .int r.2.2] := by
  obtain ⟨a, xs, rfl, hs, ha⟩ := h.inv
  have e := TpAll.ints_inv (ns := [r.1, r.2.1, r.2.2]) ha
  subst e
  exact ⟨a, rfl, hs⟩
theorem tri_at {H : Hp} {ws : List V} {rs : List (Int × Int × Int)} {i : Nat} {v : V} (h : TpAll K H ws (rs.map triI)) (hv : ws[i]? = some v) : ∃ r a, rs[i]? = some r ∧ v = .ref a ∧ SqT K H a [.int r.1, .int r.2.1, .int r.2.2] := by
  obtain ⟨d, hd, t⟩ := h.getV hv
  rw [List.getElem?_map] at hd
  cases e : rs[i]? with
  | none => rw [e] at hd; cases hd
  | some r =>
    rw [e] at hd
    cases hd
    obtain ⟨a, rfl, hs⟩ := tri_inv t
    exact ⟨r, a, rfl, rfl, hs⟩
theorem pt_at {H : Hp} {ws : List V} {ps : List (List Int)} {i : Nat} {v : V} (h : TpAll K H ws (ps.map tupI)) (hv : ws[i]? = some v) : ∃ r a, ps[i]? = some r ∧ v = .ref a ∧ SqT K H a (r.map V.int) := by
  obtain ⟨d, hd, t⟩ := h.getV hv
  rw [List.getElem?_map] at hd
  cases e : ps[i]? with
  | none => rw [e] at hd; cases hd
  | some r =>
    rw [e] at hd
    cases hd
    obtain ⟨a, rfl, hs⟩ := Tp.invI (ns := r) t
    exact ⟨r, a, rfl, rfl, hs⟩
end

/-! ### ranks -/
def rankI (sh ix : List Int) : Int := (sh.zip ix).foldl (fun a p => a * p.1 + p.2) 0
theorem rankI_take {sh ix : List Int} {i : Nat} {x y : Int} (hx : sh[i]? = some x) (hy : ix[i]? = some y) : ((sh.zip ix).take (i + 1)).foldl (fun (a : Int) p => a * p.1 + p.2) 0 = ((sh.zip ix).take i).foldl (fun (a : Int) p => a * p.1 + p.2) 0 * x + y := by
  rw [List.take_add_one, zip_get hx hy, List.foldl_append]
  rfl
def okSize (z : Int) : Bool := decide (0 ≤ z ∧ z ≤ 1000000000)
def isShape (ns : List Int) : Bool := decide (ns.length ≤ 4) && ns.all okSize
section
variable {P : Program} {w : World} {K : PySem.W.Frag} {mg : Str → Option Value} {base : Heap}
def sp_count (K : PySem.W.Frag) : Sp := fun vs H Q _ => ∃ (a : Addr) (ns : List Int), vs = [.ref a] ∧ SqT K H a (ns.map V.int) ∧ (∀ x ∈ ns, -(2 ^ 60) ≤ x ∧ x ≤ 2 ^ 60) ∧ Q (.int (prodL ns)) H
theorem d_element_count (T : Top K mg) : Def P w K mg base CX0 1 "element_count" ["shape"] (sp_count K) := by
  refine T.f_element_count.ok sc_element_count (by rintro vs H Q E ⟨a, ns, rfl, _⟩; rfl) (fun f cdv A outer s H vs Q E hr h => ?_)
  obtain ⟨a, ns, rfl, hS, hok, q⟩ := h
  refine ⟨_, (pss_cons (ps_set (i := 1) sc_element_count.nd rfl (Or.inl rfl) pe_int)
      (pss_cons (ps_for PassesOwn.never rfl (pi_tup (pv 0)) (pg_name (i := 2) sc_element_count.nd rfl (Or.inl rfl)) (pss_one (ps_set (i := 1) sc_element_count.nd rfl (Or.inl rfl) (pe_op op_mul (pv 1) (pv 2)))))
      (pss_one (ps_ret (pv 1))))), ?_⟩
  walk_at "rd"
  refine forT hS (fun i σ' H' => H' = H ∧ ∃ v, σ' = [some (.ref a), some (.int (prodL (ns.take i))), v]) ⟨rfl, _, rfl⟩ (fun i σ' H' _ ⟨e, _⟩ => by rw [e]; exact hS) ?_ ?_
  · rintro i v σ' H' hi ⟨rfl, v2, rfl⟩
    obtain ⟨x, hx, rfl⟩ := int_atT hi
    have hx0 := hok x (List.mem_of_getElem? hx)
    walk_at "rd"
    refine ⟨rfl, some (.int x), ?_⟩
    rw [prodL_take hx]
    rfl
  · rintro σ' H' ⟨rfl, v2, rfl⟩
    walk_at "rd"
    rw [List.length_map, List.take_length]
    exact q
end

/-! ### the law's own reckoning of chunks -/
def SIZES : List (Str × Int) := [(PySem.Str.ofString "1", 1), (PySem.Str.ofString "2", 2), (PySem.Str.ofString "4", 4)]
theorem size_get {z : Str} (hz : z ∈ KS) : valV (mergeK [] (kvI SIZES)) (.inr ⟨#[z.cps.getD 1 0]⟩) = some (.int ((kN z : Nat) : Int)) := by
  simp only [KS, List.mem_cons, List.not_mem_nil, or_false] at hz
  rcases hz with rfl | rfl | rfl | rfl | rfl | rfl <;> rfl
def POWS : List (Key × V) := [(.inl 1, .int 256), (.inl 2, .int 65536), (.inl 4, .int 4294967296)]
theorem pow_get {z : Str} (hz : z ∈ KS) : valV (mergeK [] POWS) (.inl ((kN z : Nat) : Int)) = some (.int (kC z)) := by
  simp only [KS, List.mem_cons, List.not_mem_nil, or_false] at hz
  rcases hz with rfl | rfl | rfl | rfl | rfl | rfl <;> rfl
theorem enc_neg {z : Str} (hz : z ∈ KS) {v : Int} (h : kLow z ≤ v ∧ v ≤ kHigh z) : digs (kN z) (if v < 0 then v + kC z else v) = encV z v := by
  obtain ⟨h1, h2⟩ := h
  obtain ⟨hw, hc1, hc, h3, h4, _⟩ := k_abs z hz
  unfold encV
  congr 1
  rcases hc with hc | hc | hc <;> rw [hc] at h3 h4 ⊢ <;> rcases h3 with h3 | h3 <;> split <;> omega
theorem prod3 {cs : List Int} (hl : cs.length ≤ 3) (hb : ∀ x ∈ cs, 1 ≤ x ∧ x ≤ 4) : ∃ n : Nat, prodL cs = n ∧ 1 ≤ n ∧ n ≤ 64 := by
  have key : 1 ≤ prodL cs ∧ prodL cs ≤ 64 := by
    match cs, hl, hb with
    | [], _, _ => exact ⟨by decide, by decide⟩
    | [a], _, hb =>
      have h1 := hb a (by simp)
      show 1 ≤ 1 * a ∧ 1 * a ≤ 64
      omega
    | [a, b], _, hb =>
      have h1 := hb a (by simp)
      have h2 := hb b (by simp)
      show 1 ≤ 1 * a * b ∧ 1 * a * b ≤ 64
      have : a = 1 ∨ a = 2 ∨ a = 3 ∨ a = 4 := by omega
      rcases this with rfl | rfl | rfl | rfl <;> omega
    | [a, b, c], _, hb =>
      have h1 := hb a (by simp)
      have h2 := hb b (by simp)
      have h3 := hb c (by simp)
      show 1 ≤ 1 * a * b * c ∧ 1 * a * b * c ≤ 64
      have ha : a = 1 ∨ a = 2 ∨ a = 3 ∨ a = 4 := by omega
      have hb' : b = 1 ∨ b = 2 ∨ b = 3 ∨ b = 4 := by omega
      rcases ha with rfl | rfl | rfl | rfl <;> rcases hb' with rfl | rfl | rfl | rfl <;> omega
    | a :: b :: c :: d :: r, hl, _ => exact absurd hl (by simp only [List.length_cons]; omega)
  exact ⟨(prodL cs).toNat, by omega, by omega, by omega⟩
section
variable {P : Program} {w : World} {K : PySem.W.Frag} {mg : Str → Option Value} {base : Heap}
def sp_law_manyT (K : PySem.W.Frag) : Sp := fun vs H Q _ => ∃ (a : Addr) (ns : List Int), vs = [.ref a] ∧ SqT K H a (ns.map V.int) ∧ (∀ x ∈ ns, -(2 ^ 60) ≤ x ∧ x ≤ 2 ^ 60) ∧ Q (.int (prodL ns)) H
theorem d_law_manyT (T : Top K mg) : Def P w K mg base CX0 1 "_law_many" ["shape"] (sp_law_manyT K) := by
  refine T.f__law_many.ok sc__law_many (by rintro vs H Q E ⟨a, ns, rfl, _⟩; rfl) (fun f cdv A outer s H vs Q E hr h => ?_)
  obtain ⟨a, ns, rfl, hS, hok, q⟩ := h
  refine ⟨_, (pss_cons (ps_set (i := 1) sc__law_many.nd rfl (Or.inl rfl) pe_int)
      (pss_cons (ps_for PassesOwn.never rfl (pi_tup (pv 0)) (pg_name (i := 2) sc__law_many.nd rfl (Or.inl rfl)) (pss_one (ps_set (i := 1) sc__law_many.nd rfl (Or.inl rfl) (pe_op op_mul (pv 1) (pv 2)))))
      (pss_one (ps_ret (pv 1))))), ?_⟩
  walk_at "rd"
  refine forT hS (fun i σ' H' => H' = H ∧ ∃ v, σ' = [some (.ref a), some (.int (prodL (ns.take i))), v]) ⟨rfl, _, rfl⟩ (fun i σ' H' _ ⟨e, _⟩ => by rw [e]; exact hS) ?_ ?_
  · rintro i v σ' H' hi ⟨rfl, v2, rfl⟩
    obtain ⟨x, hx, rfl⟩ := int_atT hi
    have hx0 := hok x (List.mem_of_getElem? hx)
    walk_at "rd"
    refine ⟨rfl, some (.int x), ?_⟩
    rw [prodL_take hx]
    rfl
  · rintro σ' H' ⟨rfl, v2, rfl⟩
    walk_at "rd"
    rw [List.length_map, List.take_length]
    exact q
def sp_law_chain (K : PySem.W.Frag) : Sp := fun vs H Q _ => ∃ (d : Int), vs = [.int d] ∧ 0 ≤ d ∧ d < 5000 ∧ ∀ nms : List Str, nms.length ≤ 3 → RetD K H Q (.tuple (nms.map PyData.str))
theorem d_law_chain (T : Top K mg) : Def P w K mg base CX0 1 "_law_chain" ["draw"] (sp_law_chain K) := by
  refine T.f__law_chain.ok sc__law_chain (by rintro vs H Q E ⟨d, rfl, _⟩; rfl) (fun f cdv A outer s H vs Q E hr h => ?_)
  obtain ⟨d, rfl, h0, h1, q⟩ := h
  refine ⟨_, (pss_cons (ps_set (i := 1) sc__law_chain.nd rfl (Or.inl rfl) (pe_lst pa_nil))
      (pss_cons (ps_for PassesOwn.never rfl (pi_range1 (by rfl) T.b_range (pa_cons (pe_op op_mod (pv 0) pe_int) pa_nil)) (pg_name (i := 2) sc__law_chain.nd rfl (Or.inl rfl)) (pss_one (ps_expr (pe_bm PySem.F.plainAttrs_list PySem.F.slot_list_append PySem.F.type_list_append mt_append (pv 1) (pa_cons (pe_ix (r := rIxL K) ix_list (pe_lst (pa_cons pe_str (pa_cons pe_str (pa_cons pe_str (pa_cons pe_str pa_nil))))) (pe_op op_mod (pe_op op_fdiv (pv 0) (pe_op op_mul pe_int (pe_op op_add (pv 2) pe_int))) pe_int) (fun _ _ => rfl)) pa_nil)))))
      (pss_one (ps_ret (pe_callTy (r := rTupS K) call_tuple_of (by rfl) T.b_tuple (by decide +kernel) (pa_cons (pv 1) pa_nil)))))), ?_⟩
  walk_at "rd"
  refine r_newL (Own.nil H) (Nat.zero_le _) fun p1 H1 o1 => ?_
  walk_at "rd"
  obtain ⟨n, hn⟩ : ∃ n : Nat, d % 4 = n := ⟨(d % 4).toNat, by omega⟩
  rw [hn]
  refine forR1 (n := n) rfl (by omega) (fun i σ' H' => ∃ (nms : List Str) (v : Option V), σ' = [some (.int d), some (.ref p1), v] ∧ nms.length = i ∧ Own H H' [(p1, .lst (nms.map V.str))]) ⟨[], _, rfl, rfl, o1⟩ ?_ ?_
  · rintro i σ' H' hi ⟨nms, v, rfl, hl, o⟩
    walk_at "rd"
    refine r_newL o (Nat.le_of_ble_eq_true rfl) fun p2 H2 o2 => ?_
    walk_at "rd"
    refine r_ixS (zs := [sD, sP, sR, sZ]) (o2.sqL 0 rfl) (by omega) (show _ < (4 : Int) by omega) fun z hz e => ?_
    walk_at "rd"
    refine r_app o2 1 rfl (by rw [List.length_map]; omega) fun H3 o3 => ?_
    walk_at "rd"
    refine ⟨nms ++ [z], _, rfl, by rw [List.length_append, hl]; rfl, ?_⟩
    rw [List.map_append]
    exact o3.tl
  · rintro σ' H' ⟨nms, v, rfl, hl, o⟩
    walk_at "rd"
    refine r_tupLs o (o.sqL 0 rfl) fun t H2 s2 o2 h2 => ?_
    exact (q nms (by omega)).mk o2 (.tup h2 (TpAll.strs nms))
def sp_law_chunk_shape (K : PySem.W.Frag) : Sp := fun vs H Q _ => ∃ (a : Addr) (dr : List Int) (i n : Nat), vs = [.ref a, .int i, .int n] ∧ SqL K H a (dr.map V.int) ∧ Dr dr ∧ 0 < dr.length ∧ dr.length ≤ 1000 ∧ i ≤ 1000 ∧ n ≤ 1000 ∧ ∀ cs : List Int, cs.length = n → (∀ z ∈ cs, 1 ≤ z ∧ z ≤ 4) → RetD K H Q (tupI cs)
theorem d_law_chunk_shape (T : Top K mg) : Def P w K mg base CX0 1 "_law_chunk_shape" ["draws", "at", "dimensions"] (sp_law_chunk_shape K) := by
  refine T.f__law_chunk_shape.ok sc__law_chunk_shape (by rintro vs H Q E ⟨a, dr, i, n, rfl, _⟩; rfl) (fun f cdv A outer s H vs Q E hr h => ?_)
  obtain ⟨a, dr, i, n, rfl, ha, hd, h0, hz, hi, hn, q⟩ := h
  refine ⟨_, (pss_one (ps_ret (pe_callTy (r := rTupS K) call_tuple_of (by rfl) T.b_tuple (by decide +kernel) (pa_cons (pe_lc (own := [("k", 3)]) (g := (gName 3)) (tt := tYes) rfl sc__law_chunk_shape.nd (pi_range1 (by rfl) T.b_range (pa_cons (pv 2) pa_nil)) (blkOk_by (N := N__law_chunk_shape) (sc := defScope s__law_chunk_shape) (by decide +kernel)) (fun _ _ _ _ _ => (pg_name (i := 3) sc__law_chunk_shape.nd rfl (Or.inl rfl))) (fun _ _ _ _ _ => pts_nil) (fun _ _ _ _ _ => (pe_op op_add pe_int (pe_op op_mod (pe_ix (r := rIxL K) ix_list (pv 0) (pe_op op_mod (pe_op op_add (pv 1) (pv 3)) (pe_callB (r := Evl.rLenS K) call_len_seq (by rfl) T.b_len (by decide +kernel) (pa_cons (pv 0) pa_nil))) (fun _ _ => rfl)) pe_int)))) pa_nil)))), ?_⟩
  have hlm := List.length_map (as := dr) V.int
  walk_at "rd"
  refine lcjR (K := K) (n := n) (fun k => some (.int (1 + gi dr (((i : Int) + (k : Int)) % (dr.length : Int)) % 4))) (Own.nil H) rfl (by omega) ?_ ?_
  · intro k p zs H' R hk o' s' r
    have hS : SqL K H' a (dr.map V.int) := o'.old ha
    refine r_name (r _ rfl (fun Qb k => k H' (Same.refl _)) fun d' H2 hd' s2 Qv qv => ?_)
    cases hd'
    have hS2 := same_seqL' s2 hS
    have m1 := Int.emod_nonneg ((i : Int) + (k : Int)) (show (dr.length : Int) ≠ 0 by omega)
    have m2 := Int.emod_lt_of_pos ((i : Int) + (k : Int)) (show (0 : Int) < (dr.length : Int) by omega)
    walk_at "rd"
    rw [hlm]
    refine r_ixI hS2 m1 m2 ?_
    walk_at "rd"
    exact qv _ _ (Same.refl _) (.int _)
  intro p1 H1 zs s1 o1 t1
  rw [rfm_all] at t1
  have e := ints_invF t1
  subst e
  walk_at "rd"
  refine r_tupLs o1 (o1.sqL 0 rfl) fun t H2 s2 o2 h2 => ?_
  refine (q _ (by rw [List.length_map, List.length_range]) fun z hz' => ?_).mk o2 (Tp.intsT h2)
  obtain ⟨k, hk, rfl⟩ := List.mem_map.mp hz'
  omega
def sp_law_stored (K : PySem.W.Frag) : Sp := fun vs H Q _ => ∃ (z : Str) (a : Addr) (ns : List Int), vs = [.str z, .ref a] ∧ z ∈ KS ∧ SqL K H a (ns.map V.int) ∧ ns.length ≤ 10000 ∧ (∀ v ∈ ns, kLow z ≤ v ∧ v ≤ kHigh z) ∧ RetO H Q (.lst ((stV z ns).map V.int))
theorem d_law_stored (T : Top K mg) : Def P w K mg base CX0 1 "_law_stored" ["kind", "values"] (sp_law_stored K) := by
  refine T.f__law_stored.ok sc__law_stored (by rintro vs H Q E ⟨z, a, ns, rfl, _⟩; rfl) (fun f cdv A outer s H vs Q E hr h => ?_)
  obtain ⟨z, a, ns, rfl, hz, hS, hl, hr2, q⟩ := h
  obtain ⟨hw, hc1, hc, _, _, hkw⟩ := k_abs z hz
  refine ⟨_, (pss_cons (ps_set (i := 2) sc__law_stored.nd rfl (Or.inl rfl) (pe_lst pa_nil))
      (pss_cons (ps_set (i := 3) sc__law_stored.nd rfl (Or.inl rfl) (pe_dget (Nat.lt_of_le_of_lt (Nat.add_le_add_left (by decide) _) hr.units) (pe_disp (pps_cons pe_str pe_int (pps_cons pe_str pe_int (pps_cons pe_str pe_int pps_nil))) (by rfl) (by rfl) (fun z => by cases z) (by decide)) (pe_ix ix_str (pv 0) pe_int (fun _ _ => rfl)) (fun _ _ => rfl)))
      (pss_cons (ps_for PassesOwn.never rfl (pi_list (pv 1)) (pg_name (i := 4) sc__law_stored.nd rfl (Or.inl rfl)) (pss_cons (ps_set (i := 5) sc__law_stored.nd rfl (Or.inl rfl) (pv 4))
      (Evl.pss_cut (ps_if (pt_cmpR op_lt (pv 4) pe_int (nomark _)) (pss_one (ps_set (i := 5) sc__law_stored.nd rfl (Or.inl rfl) (pe_op op_add (pv 4) (pe_dget (Nat.lt_of_le_of_lt (Nat.add_le_add_left (by decide) _) hr.units) (pe_disp (pps_cons pe_int pe_int (pps_cons pe_int pe_int (pps_cons pe_int pe_int pps_nil))) (by rfl) (by rfl) (fun z => by cases z) (by decide)) (pv 3) (fun _ _ => rfl))))) pss_nil)
      (pss_one (ps_for PassesOwn.never rfl (pi_range1 (by rfl) T.b_range (pa_cons (pv 3) pa_nil)) (pg_name (i := 6) sc__law_stored.nd rfl (Or.inl rfl)) (pss_cons (ps_expr (pe_bm PySem.F.plainAttrs_list PySem.F.slot_list_append PySem.F.type_list_append mt_append (pv 2) (pa_cons (pe_op op_mod (pe_callTy (r := rInt1) call_int1 (by rfl) T.b_int (by decide +kernel) (pa_cons (pv 5) pa_nil)) pe_int) pa_nil)))
      (pss_one (ps_set (i := 5) sc__law_stored.nd rfl (Or.inl rfl) (pe_op op_fdiv (pv 5) pe_int)))))))))
      (pss_one (ps_ret (pv 2)))))), ?_⟩
  walk_at "rd"
  refine r_newL (Own.nil H) (Nat.zero_le _) fun p1 H1 o1 => ?_
  walk_at "rd"
  refine r_dget ?_
  refine r_disp (kvI SIZES) o1 ?h (by decide) fun p6 H6 o6 => ?_
  case h =>
    intro _ _ r
    repeat (refine r_pp ?_; walk_at "rd")
    exact r_pn r
  walk_at "rd"
  refine ⟨z, 1, _, rfl, rfl, sz100 (by rw [k_len z hz]; decide), k_at1 z hz, ?_⟩
  refine ⟨_, _, rfl, .inl ⟨_, .inr ⟨#[z.cps.getD 1 0]⟩, .inl (o6.at 0 rfl), rfl, (size_get hz).symm⟩, ?_⟩
  walk_at "rd"
  refine forL (o6.old hS) (fun i σ' H' => ∃ (v4 v5 v6 : Option V), σ' = [some (.str z), some (.ref a), some (.ref p1), some (.int (kN z)), v4, v5, v6] ∧ Own H H' [(p1, .lst ((stV z (ns.take i)).map V.int))]) ⟨_, _, _, rfl, o6.pick1 1 rfl⟩ (fun i σ' H' _ ⟨_, _, _, _, o⟩ => o.old hS) ?_ ?_
  · rintro i x σ' H' hx ⟨v4, v5, v6, rfl, o⟩
    obtain ⟨v, hv, rfl⟩ := int_atT hx
    have hvr := hr2 v (List.mem_of_getElem? hv)
    have hsl : (stV z (ns.take i)).length ≤ 400000 := by
      rw [st_len, List.length_take]
      rcases hw with h | h | h <;> rw [h] <;> omega
    walk_at "rd"
    refine ⟨fun σ' H2 => σ' = [some (.str z), some (.ref a), some (.ref p1), some (.int (kN z)), some (.int v), some (.int (if v < 0 then v + kC z else v)), v6] ∧ Own H H2 [(p1, .lst ((stV z (ns.take i)).map V.int))], ?_, ?_⟩
    · walk_at "rd"
      refine rif (fun h0 => ?_) fun h0 => ?_
      · rw [if_pos h0]
        walk_at "rd"
        refine r_dget ?_
        refine r_disp POWS o ?h2 (by decide) fun p7 H7 o7 => ?_
        case h2 =>
          intro _ _ r
          repeat (refine r_pp ?_; walk_at "rd")
          exact r_pn r
        walk_at "rd"
        refine ⟨_, _, rfl, .inl ⟨_, .inl ((kN z : Nat) : Int), .inl (o7.at 0 rfl), rfl, (pow_get hz).symm⟩, ?_⟩
        walk_at "rd"
        exact ⟨rfl, o7.pick1 1 rfl⟩
      · rw [if_neg h0]
        walk_at "rd"
        exact ⟨rfl, o⟩
    rintro σ' H2 ⟨rfl, o2⟩
    walk_at "rd"
    refine forR1 (n := kN z) rfl (by omega) (fun j σ' H' => ∃ (ds : List Int) (r : Int) (v7 : Option V), σ' = [some (.str z), some (.ref a), some (.ref p1), some (.int (kN z)), some (.int v), some (.int r), v7] ∧ ds.length = j ∧ ds ++ digs (kN z - j) r = encV z v ∧ Own H H' [(p1, .lst ((stV z (ns.take i) ++ ds).map V.int))]) ⟨[], _, _, rfl, rfl, enc_neg hz hvr, by rw [List.append_nil]; exact o2⟩ ?_ ?_
    · rintro j σ' H' hj ⟨ds, r, v7, rfl, hdl, hde, o⟩
      walk_at "rd"
      refine r_app o 0 rfl (by rw [List.length_map, List.length_append]; omega) fun H2 o2 => ?_
      walk_at "rd"
      refine ⟨ds ++ [r % 256], _, _, rfl, by rw [List.length_append, hdl]; rfl, ?_, ?_⟩
      · rw [show kN z - j = (kN z - (j + 1)) + 1 by omega] at hde
        rw [← hde, List.append_assoc]
        rfl
      · rw [← List.append_assoc, List.map_append]
        exact o2
    · rintro σ' H' ⟨ds, r, v7, rfl, hdl, hde, o⟩
      rw [Nat.sub_self] at hde
      have hde2 : ds = encV z v := by rw [← hde]; exact (List.append_nil ds).symm
      rw [hde2, ← st_snoc, ← take_snoc hv] at o
      exact ⟨_, _, _, rfl, o⟩
  · rintro σ' H' ⟨v4, v5, v6, rfl, o⟩
    rw [List.length_map, List.take_length] at o
    walk_at "rd"
    exact q.mk o 0 rfl
def sp_law_content (K : PySem.W.Frag) : Sp := fun vs H Q _ => ∃ (z : Str) (t a : Addr) (nms : List Str) (ns : List Int), vs = [.str z, .ref t, .ref a] ∧ z ∈ KS ∧ SqT K H t (nms.map V.str) ∧ nms.length ≤ 6 ∧ SqL K H a (ns.map V.int) ∧ ns.length ≤ 180 ∧ (∀ v ∈ ns, kLow z ≤ v ∧ v ≤ kHigh z) ∧ RetO H Q (.lst ((lsB byB (appC nms (kN z) (stV z ns))).map V.int))
theorem d_law_content (T : Top K mg) : Def P w K mg base CX0 3 "_law_chunk_content" ["kind", "filters", "values"] (sp_law_content K) := by
  have G__law_stored : Def P w K mg base CX0 1 "_law_stored" ["kind", "values"] (sp_law_stored K) := d_law_stored T
  have G__law_filter : Def P w K mg base CX0 1 "_law_filter" ["name", "values", "size"] (sp_app K) := d_law_filter T
  have G__law_bytes_bytes : Def P w K mg base CX0 2 "_law_bytes_bytes" ["values"] (sp_lbb K) := d_lbb T
  refine T.f__law_chunk_content.ok sc__law_chunk_content (by rintro vs H Q E ⟨z, t, a, nms, ns, rfl, _⟩; rfl) (fun f cdv A outer s H vs Q E hr h => ?_)
  obtain ⟨z, t, a, nms, ns, rfl, hz, hT, hnl, hS, hl, hr2, q⟩ := h
  obtain ⟨hw, _, _, _, _, hkw⟩ := k_abs z hz
  have hsl : (stV z ns).length ≤ 720 := by
    rw [st_len]
    rcases hw with h | h | h <;> rw [h] <;> omega
  refine ⟨_, (pss_cons (ps_set (i := 3) sc__law_chunk_content.nd rfl (Or.inl rfl) (pe_callD G__law_stored (hr.mono (by decide)) (pa_cons (pv 0) (pa_cons (pv 2) pa_nil))))
      (pss_cons (ps_for PassesOwn.never rfl (pi_tup (pv 1)) (pg_name (i := 4) sc__law_chunk_content.nd rfl (Or.inl rfl)) (pss_one (ps_set (i := 3) sc__law_chunk_content.nd rfl (Or.inl rfl) (pe_callD G__law_filter (hr.mono (by decide)) (pa_cons (pv 4) (pa_cons (pv 3) (pa_cons (pe_dget (Nat.lt_of_le_of_lt (Nat.add_le_add_left (by decide) _) hr.units) (pe_disp (pps_cons pe_str pe_int (pps_cons pe_str pe_int (pps_cons pe_str pe_int pps_nil))) (by rfl) (by rfl) (fun z => by cases z) (by decide)) (pe_ix ix_str (pv 0) pe_int (fun _ _ => rfl)) (fun _ _ => rfl)) pa_nil)))))))
      (pss_one (ps_ret (pe_callD G__law_bytes_bytes (hr.mono (by decide)) (pa_cons (pv 3) pa_nil)))))), ?_⟩
  walk_at "rd"
  refine ⟨_, _, _, rfl, hz, hS, by omega, hr2, r_ret1 (Own.nil H) fun p1 H1 o1 => ?_⟩
  walk_at "rd"
  refine forT (o1.oldT hT) (fun i σ' H' => ∃ (p : Addr) (v4 : Option V) (L : List (Addr × HO)), σ' = [some (.str z), some (.ref t), some (.ref a), some (.ref p), v4] ∧ Own H H' ((p, .lst ((appC (nms.take i) (kN z) (stV z ns)).map V.int)) :: L)) ⟨_, _, _, rfl, o1⟩ (fun i σ' H' _ ⟨_, _, _, _, o⟩ => o.oldT hT) ?_ ?_
  · rintro i x σ' H' hx ⟨p, v4, L, rfl, o⟩
    obtain ⟨nm, hn2, rfl⟩ : ∃ nm, nms[i]? = some nm ∧ x = .str nm := by
      rw [List.getElem?_map] at hx
      cases h2 : nms[i]? with
      | none => rw [h2] at hx; cases hx
      | some nm => rw [h2] at hx; cases hx; exact ⟨nm, rfl, rfl⟩
    have h48 := appC_len6 hw nms i (ns := stV z ns) hnl (by omega)
    walk_at "rd"
    refine r_dget ?_
    refine r_disp (kvI SIZES) o ?h3 (by decide) fun p6 H6 o6 => ?_
    case h3 =>
      intro _ _ r
      repeat (refine r_pp ?_; walk_at "rd")
      exact r_pn r
    walk_at "rd"
    refine ⟨z, 1, _, rfl, rfl, sz100 (by rw [k_len z hz]; decide), k_at1 z hz, ?_⟩
    refine ⟨_, _, rfl, .inl ⟨_, .inr ⟨#[z.cps.getD 1 0]⟩, .inl (o6.at 0 rfl), rfl, (size_get hz).symm⟩, ?_⟩
    refine ⟨_, _, _, kN z, rfl, o6.sqL 1 rfl, appC_by hw _ (st_by z ns), hw, by omega, r_ret1 o6 fun p2 H2 o2 => ?_⟩
    rw [← appC_take (kN z) (stV z ns) hn2] at o2
    walk_at "rd"
    exact ⟨_, _, _, rfl, o2⟩
  · rintro σ' H' ⟨p, v4, L, rfl, o⟩
    have h48 := appC_len6 hw nms nms.length (ns := stV z ns) hnl (by omega)
    rw [List.length_map] at o
    rw [List.take_length] at o h48
    walk_at "rd"
    refine ⟨_, _, rfl, o.sqL 0 rfl, by omega, r_ret1 o fun p3 H3 o3 => ?_⟩
    exact q.mk o3 0 rfl
end

/-! ### the ways back, of bytes of any kind -/
theorem unZ_len {ns ms : List Int} (hb : By ns) (h : unZ ns = some ms) : ms.length ≤ ns.length + 65535 := by
  unfold unZ at h
  by_cases h2 : ns.length < 2
  · rw [if_pos h2] at h; cases h
  rw [if_neg h2] at h
  by_cases h3 : 2 < ns.length ∧ gi ns ((ns.length : Int) - 1) = 0 ∧ cntZ ns < 65535
  · rw [if_pos h3] at h; cases h
  rw [if_neg h3] at h
  cases h
  have hb0 := hb.gi (i := 0) (by omega) (by omega)
  have hb1 := hb.gi (i := 1) (by omega) (by omega)
  rw [List.length_append, List.length_drop, List.length_replicate]
  unfold cntZ
  omega
theorem unZ_by {ns ms : List Int} (hb : By ns) (h : unZ ns = some ms) : By ms := by
  unfold unZ at h
  by_cases h2 : ns.length < 2
  · rw [if_pos h2] at h; cases h
  rw [if_neg h2] at h
  by_cases h3 : 2 < ns.length ∧ gi ns ((ns.length : Int) - 1) = 0 ∧ cntZ ns < 65535
  · rw [if_pos h3] at h; cases h
  rw [if_neg h3] at h
  cases h
  exact (hb.drop 2).app (By.rep _ (by decide))
theorem unR_some {ns ms : List Int} (h : unR ns = some ms) : ms = unpk (prs ns) := by
  unfold unR at h
  by_cases h2 : ns.length % 2 = 1
  · rw [if_pos h2] at h; cases h
  rw [if_neg h2] at h
  by_cases h3 : okP (prs ns)
  · rw [if_pos h3] at h; cases h; rfl
  · rw [if_neg h3] at h; cases h
theorem unR_len {ns ms : List Int} (hb : By ns) (h : unR ns = some ms) : ms.length ≤ 255 * (ns.length / 2) := by
  rw [unR_some h, ← prs_len]
  exact unpk_len (prs_by hb)
theorem unR_by {ns ms : List Int} (hb : By ns) (h : unR ns = some ms) : By ms := by
  rw [unR_some h]
  intro x hx
  obtain ⟨p, hp, hx⟩ := List.mem_flatMap.mp hx
  have := (prs_by hb p hp).2
  rw [List.eq_of_mem_replicate hx]
  exact this
theorem und_by {ns : List Int} : By (und ns) := by
  have h : ∀ (ns : List Int) (s : List Int × Int), By s.1 → By (ns.foldl stepU s).1 := by
    intro ns
    induction ns with
    | nil => intro s h; exact h
    | cons x ns ih =>
      intro s h
      refine ih _ (h.app ?_)
      intro y hy
      rw [List.mem_singleton.mp hy]
      omega
  exact h ns _ fun y hy => by cases hy
theorem und_len (ns : List Int) : (und ns).length = ns.length := by
  unfold und
  rw [stepU_len]
  exact Nat.zero_add _
theorem unpl_len (wd : Nat) (ns : List Int) : (unpl wd ns).length = ns.length := by
  unfold unpl
  rw [unplF_len, List.length_replicate]
theorem unplF_by : ∀ (ps : List (Nat × Int)) (s : List Int), By s → (∀ p ∈ ps, 0 ≤ p.2 ∧ p.2 < 256) → By (ps.foldl unplF s)
  | [], _, h, _ => h
  | p :: ps, s, h, hp => by
    rw [List.foldl_cons]
    refine unplF_by ps _ (fun x hx => ?_) fun q hq => hp q (List.mem_cons_of_mem _ hq)
    unfold unplF at hx
    rcases List.mem_or_eq_of_mem_set hx with hx | rfl
    · exact h x hx
    · exact hp p List.mem_cons_self
theorem unpl_by {wd : Nat} {ns : List Int} (hb : By ns) : By (unpl wd ns) := by
  unfold unpl
  refine unplF_by _ _ (By.rep _ (by decide)) fun p hp => ?_
  exact hb p.2 (List.of_mem_zip (show (p.1, p.2) ∈ _ from hp)).2
theorem undF_by {nm : Str} {wd : Nat} {ns ms : List Int} (hb : By ns) (h : undF nm wd ns = some ms) : By ms := by
  unfold undF at h
  by_cases h1 : nm = sD
  · rw [if_pos h1] at h; cases h; exact und_by
  rw [if_neg h1] at h
  by_cases h2 : nm = sP
  · rw [if_pos h2] at h; cases h; exact unpl_by hb
  rw [if_neg h2] at h
  by_cases h3 : nm = sR
  · rw [if_pos h3] at h; exact unR_by hb h
  rw [if_neg h3] at h
  exact unZ_by hb h
theorem undF_len {nm : Str} {wd : Nat} {ns ms : List Int} (hb : By ns) (h : undF nm wd ns = some ms) : ms.length ≤ 128 * ns.length + 65535 := by
  unfold undF at h
  by_cases h1 : nm = sD
  · rw [if_pos h1] at h; cases h; rw [und_len]; omega
  rw [if_neg h1] at h
  by_cases h2 : nm = sP
  · rw [if_pos h2] at h; cases h; rw [unpl_len]; omega
  rw [if_neg h2] at h
  by_cases h3 : nm = sR
  · rw [if_pos h3] at h; have := unR_len hb h; omega
  rw [if_neg h3] at h
  have := unZ_len hb h
  omega
/-- the way back through filters, the first of these first -/
def undC (wd : Nat) : List Str → List Int → Option (List Int)
  | [], ns => some ns
  | nm :: r, ns => (undF nm wd ns).bind (undC wd r)
/-- runs: what is made before the first pair that may not stand there is not too long -/
def gdN (ns : List Int) (k : Nat) : Prop := ((prs ns).getD k (0, 0)).1 ≠ 0 ∧ ¬ (0 < k ∧ ((prs ns).getD (k - 1) (0, 0)).1 < 255 ∧ ((prs ns).getD (k - 1) (0, 0)).2 = ((prs ns).getD k (0, 0)).2)
def RunsOk (ns : List Int) : Prop := ∀ i, (∀ k, k < i → k < (prs ns).length → gdN ns k) → (unpk ((prs ns).take i)).length ≤ 16700000
theorem RunsOk.of {ns : List Int} (hb : By ns) (h : ns.length ≤ 130900) : RunsOk ns := fun i _ => by
  have h1 := unpk_take_le (prs ns) i
  have h2 := unpk_len (prs_by hb)
  rw [prs_len] at h2
  omega
/-- no list on the way is long -/
def smC (wd : Nat) : List Str → List Int → Prop
  | [], _ => True
  | nm :: r, ns => ns.length ≤ 1000000 ∧ (nm = sR → RunsOk ns) ∧ ∀ ms, undF nm wd ns = some ms → smC wd r ms
theorem le_line {n : Nat} (h : n ≤ 16700000) : n ≤ sizeLine := Nat.le_trans h (by decide)
theorem undC_by {wd : Nat} : ∀ {nms : List Str} {ns ms : List Int}, By ns → undC wd nms ns = some ms → By ms
  | [], ns, ms, hb, h => by cases h; exact hb
  | nm :: r, ns, ms, hb, h => by
    have h : (undF nm wd ns).bind (undC wd r) = some ms := h
    cases h2 : undF nm wd ns with
    | none => rw [h2] at h; cases h
    | some ks => rw [h2] at h; exact undC_by (undF_by hb h2) h
section
variable {P : Program} {w : World} {K : PySem.W.Frag} {mg : Str → Option Value} {base : Heap}
theorem RetE.up {H H' : Hp} {E : XK} {C : Addr} {fs : List (Str × V)} {L : List (Addr × HO)} (q : RetE H E C fs) (o : Own H H' L) : RetE H' E C fs := fun H2 d s hd hx => q H2 d (o.ex.trans s) (o.ex.free hd) hx
theorem RetO.up {H H' : Hp} {Q : VK} {u : HO} {L : List (Addr × HO)} (q : RetO H Q u) (o : Own H H' L) : RetO H' Q u := fun H2 p s hp hx => q H2 p (o.ex.trans s) (o.ex.free hp) hx
def sp_unE (K : PySem.W.Frag) (C : Addr) (nm : Str) (g : List Int → Option (List Int)) : Sp := fun vs H Q E => ∃ (a : Addr) (ns : List Int), vs = [.ref a] ∧ SqL K H a (ns.map V.int) ∧ By ns ∧ ns.length ≤ 1000000 ∧ (nm = sR → RunsOk ns) ∧ (∀ ms, g ns = some ms → RetO H Q (.lst (ms.map V.int))) ∧ (g ns = none → RetE H E C [("name", .str nm)])
theorem tell_str {z : Str} (h : z.length ≤ 100) : Tell (.str z) := .inr ⟨z, rfl, by omega⟩
theorem okP_gd {ns : List Int} : okP (prs ns) ↔ ∀ k, k < ns.length / 2 → gi (csN ns) (k : Int) ≠ 0 ∧ ¬ (0 < k ∧ gi (csN ns) ((k : Int) - 1) < 255 ∧ gi (rsN ns) ((k : Int) - 1) = gi (rsN ns) (k : Int)) := by
  unfold okP
  rw [prs_len]
  refine forall_congr' fun k => forall_congr' fun hk => ?_
  rw [(cs_at hk).1, (cs_at hk).2]
  by_cases h0 : 0 < k
  · have h6 := cs_at (ns := ns) (k := k - 1) (by omega)
    rw [show ((k : Int) - 1) = ((k - 1 : Nat) : Int) by omega, h6.1, h6.2]
  · simp [h0]
theorem d_undo_zerosE {C : Addr} (T : Top K mg) (E_BadFilter : EDef P w K mg base C "BadFilter" ["self", "name"] (sp_i1 C "name")) : Def P w K mg base (L2N.CX P w) 5 "undo_zeros" ["values"] (sp_unE K C sZ unZ) := by
  obtain ⟨t1, g_MOST_ZEROS⟩ := T.g_MOST_ZEROS
  refine T.f_undo_zeros.okN sc_undo_zeros (by rintro vs H Q E ⟨a, ns, rfl, _⟩; rfl) (fun f cdv A outer s H vs Q E hr h => ?_)
  obtain ⟨a, ns, rfl, hS, hby, hz, hro, q, qe⟩ := h
  refine ⟨_, (pss_cons (ps_if (pt_cmpR op_lt (pe_callB (r := Evl.rLenS K) call_len_seq (by rfl) T.b_len (by decide +kernel) (pa_cons (pv 0) pa_nil)) pe_int (nomark _)) (pss_one (ps_raiseE rfl (L2N.takes_of rfl rfl rfl rfl) (pmk_e1 E_BadFilter (hr.mono (by decide)) (pa_cons pe_str pa_nil)))) pss_nil)
      (pss_cons (ps_set (i := 1) sc_undo_zeros.nd rfl (Or.inl rfl) (pe_op op_add (pe_op op_mul (pe_ix (r := rIxL K) ix_list (pv 0) pe_int (fun _ _ => rfl)) pe_int) (pe_ix (r := rIxL K) ix_list (pv 0) pe_int (fun _ _ => rfl))))
      (pss_cons (ps_if (PW.pt (pw_and (pt_cmpR op_gt (pe_callB (r := Evl.rLenS K) call_len_seq (by rfl) T.b_len (by decide +kernel) (pa_cons (pv 0) pa_nil)) pe_int (nomark _)) (pw_and (pt_cmpR op_eq (pe_ix (r := rIxL K) ix_list (pv 0) (pe_un un_neg pe_int) (fun _ _ => rfl)) pe_int (nomark _)) (pw_and1 (pt_cmpR op_lt (pv 1) (pe_glob (v := .int 65535) rfl g_MOST_ZEROS ⟨_, rfl⟩) (nomark _)))))) (pss_one (ps_raiseE rfl (L2N.takes_of rfl rfl rfl rfl) (pmk_e1 E_BadFilter (hr.mono (by decide)) (pa_cons pe_str pa_nil)))) pss_nil)
      (pss_one (ps_ret (pe_op op_cat (pe_slice (r := rSlL K) sl_list (pv 0) (po_some pe_int) po_none) (pe_op op_rep (pe_lst (pa_cons pe_int pa_nil)) (pv 1)))))))), ?_⟩
  have hlast : 0 < ns.length → atI (ns.map V.int) (-1) = some (.int (gi ns ((ns.length : Int) - 1))) := fun h => by
    rw [show (ns.map V.int) = ((ns.map V.int).take (ns.length - 1)) ++ [V.int (gi ns ((ns.length : Int) - 1))] by
      have e := gi_nat (ns := ns) (k := ns.length - 1) (by omega)
      rw [show (((ns.length - 1 : Nat) : Int)) = (ns.length : Int) - 1 by omega] at e
      rw [e]
      have h4 : (ns.map V.int).take ((ns.length - 1) + 1) = ns.map V.int := List.take_of_length_le (by rw [List.length_map]; omega)
      rw [List.take_add_one, List.getElem?_map, List.getElem?_eq_getElem (show ns.length - 1 < ns.length by omega)] at h4
      exact h4.symm]
    exact atI_last _ _
  have tl : ∀ v ∈ [V.str sZ], Tell v := fun v hv => by rw [List.mem_singleton.mp hv]; exact tell_str (by decide +kernel)
  unfold unZ at q qe
  walk_at "rd"
  rw [List.length_map]
  refine rif (fun h2 => ?_) fun h2 => ?_
  · rw [if_pos (show ns.length < 2 by omega)] at qe
    walk_at "rd"
    exact r_raise ⟨rfl, tl, fun d hd => (qe rfl).mk (Own.nil H) hd⟩
  rw [if_neg (show ¬ ns.length < 2 by omega)] at q qe
  have hb0 := hby.gi (i := 0) (by omega) (by omega)
  have hb1 := hby.gi (i := 1) (by omega) (by omega)
  have bad : 2 < ns.length ∧ gi ns ((ns.length : Int) - 1) = 0 ∧ cntZ ns < 65535 → RetE H E C [("name", .str sZ)] := fun h => qe (by rw [if_pos h])
  have good : ¬ (2 < ns.length ∧ gi ns ((ns.length : Int) - 1) = 0 ∧ cntZ ns < 65535) → RetO H Q (.lst ((ns.drop 2 ++ List.replicate (cntZ ns).toNat 0).map V.int)) := fun h => q _ (by rw [if_neg h])
  clear q qe
  walk_at "rd"
  rw [List.length_map]
  refine rif (fun h4 => ?_) fun h4 => ?_
  · walk_at "rd"
    refine r_ixL hS (hlast (by omega)) ?_
    walk_at "rd"
    refine rif (fun h5 => ?_) fun h5 => ?_
    · walk_at "rd"
      refine rif (fun h6 => ?_) fun h6 => ?_
      · walk_at "rd"
        exact r_raise ⟨rfl, tl, fun d hd => (bad ⟨by omega, h5, h6⟩).mk (Own.nil H) hd⟩
      · have q := good fun h => h6 h.2.2
        walk_at "rd"
        refine r_slL (Own.nil H) hS fun p1 H1 o1 => ?_
        rw [show (2 : Int) = ((2 : Nat) : Int) from rfl, cut_lo] at o1
        walk_at "rd"
        refine r_newL o1 (Nat.le_of_ble_eq_true rfl) fun p2 H2 o2 => ?_
        walk_at "rd"
        refine r_rep (n := (cntZ ns).toNat) o2 (o2.at 0 rfl) rfl (by unfold cntZ at *; omega) (by unfold cntZ; omega) fun p3 H3 s3 o3 => ?_
        refine r_cat o3 (o3.at 2 rfl) (o3.at 0 rfl) (by rw [List.length_drop, List.length_map, List.length_replicate]; unfold cntZ; omega) fun p4 H4 o4 => ?_
        rw [← List.map_drop, ← List.map_replicate, ← List.map_append] at o4
        walk_at "rd"
        exact q.mk o4 0 rfl
    · have q := good fun h => h5 h.2.1
      walk_at "rd"
      refine r_slL (Own.nil H) hS fun p1 H1 o1 => ?_
      rw [show (2 : Int) = ((2 : Nat) : Int) from rfl, cut_lo] at o1
      walk_at "rd"
      refine r_newL o1 (Nat.le_of_ble_eq_true rfl) fun p2 H2 o2 => ?_
      walk_at "rd"
      refine r_rep (n := (cntZ ns).toNat) o2 (o2.at 0 rfl) rfl (by unfold cntZ at *; omega) (by unfold cntZ; omega) fun p3 H3 s3 o3 => ?_
      refine r_cat o3 (o3.at 2 rfl) (o3.at 0 rfl) (by rw [List.length_drop, List.length_map, List.length_replicate]; unfold cntZ; omega) fun p4 H4 o4 => ?_
      rw [← List.map_drop, ← List.map_replicate, ← List.map_append] at o4
      walk_at "rd"
      exact q.mk o4 0 rfl
  · have q := good fun h => h4 (by omega)
    walk_at "rd"
    refine r_slL (Own.nil H) hS fun p1 H1 o1 => ?_
    rw [show (2 : Int) = ((2 : Nat) : Int) from rfl, cut_lo] at o1
    walk_at "rd"
    refine r_newL o1 (Nat.le_of_ble_eq_true rfl) fun p2 H2 o2 => ?_
    walk_at "rd"
    refine r_rep (n := (cntZ ns).toNat) o2 (o2.at 0 rfl) rfl (by unfold cntZ at *; omega) (by unfold cntZ; omega) fun p3 H3 s3 o3 => ?_
    refine r_cat o3 (o3.at 2 rfl) (o3.at 0 rfl) (by rw [List.length_drop, List.length_map, List.length_replicate]; unfold cntZ; omega) fun p4 H4 o4 => ?_
    rw [← List.map_drop, ← List.map_replicate, ← List.map_append] at o4
    walk_at "rd"
    exact q.mk o4 0 rfl
theorem d_undo_runsE {C : Addr} (T : Top K mg) (E_BadFilter : EDef P w K mg base C "BadFilter" ["self", "name"] (sp_i1 C "name")) : Def P w K mg base (L2N.CX P w) 5 "undo_runs" ["values"] (sp_unE K C sR unR) := by
  obtain ⟨t1, g_LONGEST_RUN⟩ := T.g_LONGEST_RUN
  refine T.f_undo_runs.okN sc_undo_runs (by rintro vs H Q E ⟨a, ns, rfl, _⟩; rfl) (fun f cdv A outer s H vs Q E hr h => ?_)
  obtain ⟨a, ns, rfl, hS, hby, hz, hro, q, qe⟩ := h
  refine ⟨_, (pss_cons (ps_if (pt_cmpR op_eq (pe_op op_mod (pe_callB (r := Evl.rLenS K) call_len_seq (by rfl) T.b_len (by decide +kernel) (pa_cons (pv 0) pa_nil)) pe_int) pe_int (nomark _)) (pss_one (ps_raiseE rfl (L2N.takes_of rfl rfl rfl rfl) (pmk_e1 E_BadFilter (hr.mono (by decide)) (pa_cons pe_str pa_nil)))) pss_nil)
      (pss_cons (ps_set (i := 1) sc_undo_runs.nd rfl (Or.inl rfl) (pe_sl3 (pv 0) (po_some pe_int) po_none (po_some pe_int)))
      (pss_cons (ps_set (i := 2) sc_undo_runs.nd rfl (Or.inl rfl) (pe_sl3 (pv 0) (po_some pe_int) po_none (po_some pe_int)))
      (pss_cons (ps_for (passes_of rfl) rfl (pi_range1 (by rfl) T.b_range (pa_cons (pe_callB (r := Evl.rLenS K) call_len_seq (by rfl) T.b_len (by decide +kernel) (pa_cons (pv 1) pa_nil)) pa_nil)) (pg_name (i := 3) sc_undo_runs.nd rfl (Or.inl rfl)) (pss_cons (ps_if (pt_cmpR op_eq (pe_ix (r := rIxL K) ix_list (pv 1) (pv 3) (fun _ _ => rfl)) pe_int (nomark _)) (pss_one (ps_raiseE rfl (L2N.takes_of rfl rfl rfl rfl) (pmk_e1 E_BadFilter (hr.mono (by decide)) (pa_cons pe_str pa_nil)))) pss_nil)
      (pss_one (ps_if (PW.pt (pw_and (pt_cmpR op_gt (pv 3) pe_int (nomark _)) (pw_and (pt_cmpR op_lt (pe_ix (r := rIxL K) ix_list (pv 1) (pe_op op_sub (pv 3) pe_int) (fun _ _ => rfl)) (pe_glob (v := .int 255) rfl g_LONGEST_RUN ⟨_, rfl⟩) (nomark _)) (pw_and1 (pt_cmpR op_eq (pe_ix (r := rIxL K) ix_list (pv 2) (pe_op op_sub (pv 3) pe_int) (fun _ _ => rfl)) (pe_ix (r := rIxL K) ix_list (pv 2) (pv 3) (fun _ _ => rfl)) (nomark _)))))) (pss_one (ps_raiseE rfl (L2N.takes_of rfl rfl rfl rfl) (pmk_e1 E_BadFilter (hr.mono (by decide)) (pa_cons pe_str pa_nil)))) pss_nil))))
      (pss_cons (ps_set (i := 4) sc_undo_runs.nd rfl (Or.inl rfl) (pe_lst pa_nil))
      (pss_cons (ps_for (passes_of rfl) rfl (RZ.pi_zipA (by rfl) T.b_zip (pa_cons (pv 1) (pa_cons (pv 2) pa_nil))) (pg_tup (n := 2) rfl (pgs_cons (pg_name (i := 5) sc_undo_runs.nd rfl (Or.inl rfl)) (pgs_cons (pg_name (i := 6) sc_undo_runs.nd rfl (Or.inl rfl)) pgs_nil))) (pss_one (ps_expr (pe_bm PySem.F.plainAttrs_list PySem.F.slot_list_extend PySem.F.type_list_extend mt_extend (pv 4) (pa_cons (pe_op op_rep (pe_lst (pa_cons (pv 6) pa_nil)) (pv 5)) pa_nil)))))
      (pss_one (ps_ret (pv 4))))))))), ?_⟩
  have tl : ∀ v ∈ [V.str sR], Tell v := fun v hv => by rw [List.mem_singleton.mp hv]; exact tell_str (by decide +kernel)
  unfold unR at q qe
  walk_at "rd"
  rw [List.length_map]
  refine rif (fun h2 => ?_) fun h2 => ?_
  · rw [if_pos (show ns.length % 2 = 1 by omega)] at qe
    walk_at "rd"
    exact r_raise ⟨rfl, tl, fun d hd => (qe rfl).mk (Own.nil H) hd⟩
  rw [if_neg (show ¬ ns.length % 2 = 1 by omega)] at q qe
  have bad : ¬ okP (prs ns) → RetE H E C [("name", .str sR)] := fun h => qe (by rw [if_neg h])
  have good : okP (prs ns) → RetO H Q (.lst ((unpk (prs ns)).map V.int)) := fun h => q _ (by rw [if_pos h])
  clear q qe
  walk_at "rd"
  have e0 := stp2 (ns := ns) (a := 0) (.inl rfl) (by omega)
  have e1 := stp2 (ns := ns) (a := 1) (.inr rfl) (by omega)
  refine r_slc (Own.nil H) hS (by decide) (by rw [show (some (0 : Int)) = some ((0 : Nat) : Int) from rfl, e0, List.length_map, List.length_map, List.length_range]; omega) fun p1 H1 s1 o1 => ?_
  rw [show (some (0 : Int)) = some ((0 : Nat) : Int) from rfl, e0] at o1
  walk_at "rd"
  refine r_slc o1 (o1.old hS) (by decide) (by rw [show (some (1 : Int)) = some ((1 : Nat) : Int) from rfl, e1, List.length_map, List.length_map, List.length_range]; omega) fun p2 H2 s2 o2 => ?_
  rw [show (some (1 : Int)) = some ((1 : Nat) : Int) from rfl, e1] at o2
  replace o2 : Own H H2 [(p2, .lst ((rsN ns).map V.int)), (p1, .lst ((csN ns).map V.int))] := o2
  have hcl := cs_len ns
  have hrl := rs_len ns
  walk_at "rd"
  refine forR1 (n := ns.length / 2) (by rw [List.length_map, hcl]) (by rw [List.length_map]; omega) (fun i σ' H' => ∃ v3 : Option V, σ' = [some (.ref a), some (.ref p1), some (.ref p2), v3, none, none, none] ∧ H' = H2 ∧ ∀ k, k < i → gi (csN ns) (k : Int) ≠ 0 ∧ ¬ (0 < k ∧ gi (csN ns) ((k : Int) - 1) < 255 ∧ gi (rsN ns) ((k : Int) - 1) = gi (rsN ns) (k : Int))) ⟨_, rfl, rfl, fun k hk => absurd hk (Nat.not_lt_zero _)⟩ ?_ ?_
  · rintro i σ' H' hi ⟨v3, rfl, rfl, hgd⟩
    have step : gi (csN ns) (i : Int) ≠ 0 → ¬ (0 < i ∧ gi (csN ns) ((i : Int) - 1) < 255 ∧ gi (rsN ns) ((i : Int) - 1) = gi (rsN ns) (i : Int)) → ∀ k, k < i + 1 → gi (csN ns) (k : Int) ≠ 0 ∧ ¬ (0 < k ∧ gi (csN ns) ((k : Int) - 1) < 255 ∧ gi (rsN ns) ((k : Int) - 1) = gi (rsN ns) (k : Int)) := fun h1 h2 k hk => by
      by_cases e : k = i
      · rw [e]; exact ⟨h1, h2⟩
      · exact hgd k (by omega)
    have bad2 : (gi (csN ns) (i : Int) = 0 ∨ (0 < i ∧ gi (csN ns) ((i : Int) - 1) < 255 ∧ gi (rsN ns) ((i : Int) - 1) = gi (rsN ns) (i : Int))) → RetE H E C [("name", .str sR)] := fun h => bad fun hok => by
      have h3 := okP_gd.mp hok i hi
      rcases h with h | h
      · exact h3.1 h
      · exact h3.2 h
    walk_at "rd"
    refine rif (fun h5 => ?_) fun h5 => ?_
    · walk_at "rd"
      exact r_raise ⟨rfl, tl, fun d hd => (bad2 (.inl h5)).mk o2 hd⟩
    walk_at "rd"
    refine rif (fun h6 => ?_) fun h6 => ?_
    all_goals walk_at "rd"
    · refine rif (fun h7 => ?_) fun h7 => ?_
      all_goals walk_at "rd"
      · refine rif (fun h8 => ?_) fun h8 => ?_
        all_goals walk_at "rd"
        · exact r_raise ⟨rfl, tl, fun d hd => (bad2 (.inr ⟨by omega, h7, h8⟩)).mk o2 hd⟩
        · exact ⟨_, rfl, rfl, step h5 fun h => h8 h.2.2⟩
      · exact ⟨_, rfl, rfl, step h5 fun h => h7 h.2.1⟩
    · exact ⟨_, rfl, rfl, step h5 fun h => h6 (by omega)⟩
  rintro σ' H' ⟨v3, rfl, rfl, hgd⟩
  have hokp := okP_gd.mpr hgd
  have q := good hokp
  have hul0 := hro rfl (prs ns).length fun k _ hk => hokp k hk
  rw [List.take_length] at hul0
  walk_at "rd"
  refine r_newL o2 (Nat.zero_le _) fun p3 H3 o3 => ?_
  walk_at "rd"
  refine forZL (o3.sqL 2 rfl) (o3.sqL 1 rfl) (by rw [List.length_map, List.length_map, hcl, hrl]) (fun i σ' H' => ∃ v3 v5 v6 : Option V, σ' = [some (.ref a), some (.ref p1), some (.ref p2), v3, some (.ref p3), v5, v6] ∧ Own H H' [(p3, .lst ((unpk ((prs ns).take i)).map V.int)), (p2, .lst ((rsN ns).map V.int)), (p1, .lst ((csN ns).map V.int))])
    ⟨_, _, _, rfl, o3⟩ (fun i σ' H' ⟨_, _, _, _, o⟩ => ⟨o.sqL 2 rfl, o.sqL 1 rfl⟩) ?_ ?_
  · rintro i x y T2 σ' H' hx hy ⟨v3, v5, v6, rfl, o⟩ hT
    obtain ⟨x1, hx1, rfl⟩ := int_at hx
    obtain ⟨y1, hy1, rfl⟩ := int_at hy
    have hi : i < ns.length / 2 := by rw [← hcl]; exact (List.getElem?_eq_some_iff.mp hx1).1
    have hp : (prs ns)[i]? = some (x1, y1) := by
      have h1 := cs_at hi
      rw [gi_of hx1, gi_of hy1] at h1
      rw [List.getD_eq_getElem?_getD, List.getElem?_eq_getElem (by rw [prs_len]; exact hi)] at h1
      rw [List.getElem?_eq_getElem (by rw [prs_len]; exact hi)]
      exact congrArg some (Prod.ext h1.1.symm h1.2.symm)
    have hpb := prs_by hby _ (List.mem_of_getElem? hp)
    refine r_gTup2 (SqT.of upd_same) ?_
    have o4 := o.mono (same_new hT (u := .tup [.int x1, .int y1]))
    generalize upd H' T2 (.tup [.int x1, .int y1]) = H4 at *
    walk_at "rd"
    refine r_newL o4 (Nat.le_of_ble_eq_true rfl) fun p5 H5 o5 => ?_
    walk_at "rd"
    refine r_rep (n := x1.toNat) o5 (o5.at 0 rfl) rfl (by omega) (by omega) fun p6 H6 s6 o6 => ?_
    have e3 : unpk ((prs ns).take (i + 1)) = unpk ((prs ns).take i) ++ List.replicate x1.toNat y1 := by
      unfold unpk
      rw [List.take_add_one, hp, List.flatMap_append]
      simp
    have hul := unpk_take_le (prs ns) (i + 1)
    rw [e3, List.length_append, List.length_replicate] at hul
    refine ⟨p3, p6, _, _, rfl, rfl, o6.at 2 rfl, o6.at 0 rfl, le_line (by rw [List.length_map, List.length_replicate]; omega), ?_⟩
    have o7 := o6.set (v := .lst ((unpk ((prs ns).take i)).map V.int ++ List.replicate x1.toNat (V.int y1))) 2 rfl
    generalize upd H6 p3 (.lst ((unpk ((prs ns).take i)).map V.int ++ List.replicate x1.toNat (V.int y1))) = H7 at *
    walk_at "rd"
    refine ⟨_, _, _, rfl, ?_⟩
    rw [e3, List.map_append, List.map_replicate]
    exact o7.tl.tl
  · rintro σ' H' ⟨v3, v5, v6, rfl, o⟩
    rw [List.length_map, hcl, List.take_of_length_le (by rw [prs_len]; omega)] at o
    walk_at "rd"
    exact q.mk o 0 rfl
def sp_undE (K : PySem.W.Frag) (C : Addr) : Sp := fun vs H Q E => ∃ (nm : Str) (a : Addr) (ns : List Int) (wd : Nat), vs = [.str nm, .ref a, .int wd] ∧ SqL K H a (ns.map V.int) ∧ By ns ∧ Wd wd ∧ ns.length ≤ 1000000 ∧ (nm = sR → RunsOk ns) ∧ (∀ ms, undF nm wd ns = some ms → RetO H Q (.lst (ms.map V.int))) ∧ (undF nm wd ns = none → ∀ z, RetE H E C [("name", .str z)])
theorem d_undo_filterE {C : Addr} (T : Top K mg) (E_BadFilter : EDef P w K mg base C "BadFilter" ["self", "name"] (sp_i1 C "name")) : Def P w K mg base (L2N.CX P w) 6 "undo_filter" ["name", "values", "size"] (sp_undE K C) := by
  have G_undo_delta : Def P w K mg base CX0 1 "undo_delta" ["values"] (sp_l1 K und) := d_undo_delta T
  have G_undo_planes : Def P w K mg base CX0 2 "undo_planes" ["values", "size"] (sp_l2 K unpl) := d_undo_planes T
  have G_undo_runs : Def P w K mg base (L2N.CX P w) 5 "undo_runs" ["values"] (sp_unE K C sR unR) := d_undo_runsE T E_BadFilter
  have G_undo_zeros : Def P w K mg base (L2N.CX P w) 5 "undo_zeros" ["values"] (sp_unE K C sZ unZ) := d_undo_zerosE T E_BadFilter
  refine T.f_undo_filter.okN sc_undo_filter (by rintro vs H Q E ⟨nm, a, ns, wd, rfl, _⟩; rfl) (fun f cdv A outer s H vs Q E hr h => ?_)
  obtain ⟨nm, a, ns, wd, rfl, hS, hby, hw, hz, hro, q, qe⟩ := h
  refine ⟨_, (pss_cons (ps_if (pt_cmpR op_eq (pv 0) pe_str (nomark _)) (pss_one (ps_ret (pe_callD G_undo_delta (hr.mono (by decide)) (pa_cons (pv 1) pa_nil)))) pss_nil)
      (pss_cons (ps_if (pt_cmpR op_eq (pv 0) pe_str (nomark _)) (pss_one (ps_ret (pe_callD G_undo_planes (hr.mono (by decide)) (pa_cons (pv 1) (pa_cons (pv 2) pa_nil))))) pss_nil)
      (pss_cons (ps_if (pt_cmpR op_eq (pv 0) pe_str (nomark _)) (pss_one (ps_ret (pe_callN G_undo_runs (L2N.takes_of rfl rfl rfl rfl) (hr.mono (by decide)) (pa_cons (pv 1) pa_nil)))) pss_nil)
      (pss_one (ps_ret (pe_callN G_undo_zeros (L2N.takes_of rfl rfl rfl rfl) (hr.mono (by decide)) (pa_cons (pv 1) pa_nil))))))), ?_⟩
  unfold undF at q qe
  walk_at "rd"
  refine rif (fun h1 => ?_) fun h1 => ?_
  · rw [if_pos (show nm = sD from h1)] at q
    walk_at "rd"
    exact ⟨_, _, rfl, hS, hby, by omega, q _ rfl⟩
  rw [if_neg (show ¬ nm = sD from h1)] at q qe
  walk_at "rd"
  refine rif (fun h2 => ?_) fun h2 => ?_
  · rw [if_pos (show nm = sP from h2)] at q
    walk_at "rd"
    exact ⟨_, _, _, rfl, hS, hby, hw, by omega, q _ rfl⟩
  rw [if_neg (show ¬ nm = sP from h2)] at q qe
  walk_at "rd"
  refine rif (fun h3 => ?_) fun h3 => ?_
  · rw [if_pos (show nm = sR from h3)] at q qe
    walk_at "rd"
    exact ⟨_, _, rfl, hS, hby, hz, fun _ => hro h3, q, fun h => qe h _⟩
  rw [if_neg (show ¬ nm = sR from h3)] at q qe
  walk_at "rd"
  exact ⟨_, _, rfl, hS, hby, hz, (fun h => absurd h (by decide +kernel)), q, fun h => qe h _⟩
def sp_unchE (K : PySem.W.Frag) (C : Addr) : Sp := fun vs H Q E => ∃ (t a : Addr) (nms : List Str) (ns : List Int) (wd : Nat), vs = [.ref t, .ref a, .int wd] ∧ SqT K H t (nms.map V.str) ∧ nms.length ≤ 6 ∧ SqL K H a (ns.map V.int) ∧ By ns ∧ Wd wd ∧ smC wd nms.reverse ns ∧ (∀ ms, undC wd nms.reverse ns = some ms → RetO H Q (.lst (ms.map V.int))) ∧ (undC wd nms.reverse ns = none → ∀ z, RetE H E C [("name", .str z)])
theorem d_undo_chainE {C : Addr} (T : Top K mg) (E_BadFilter : EDef P w K mg base C "BadFilter" ["self", "name"] (sp_i1 C "name")) : Def P w K mg base (L2N.CX P w) 7 "undo_chain" ["names", "values", "size"] (sp_unchE K C) := by
  have G_undo_filter : Def P w K mg base (L2N.CX P w) 6 "undo_filter" ["name", "values", "size"] (sp_undE K C) := d_undo_filterE T E_BadFilter
  refine T.f_undo_chain.okN sc_undo_chain (by rintro vs H Q E ⟨t, a, nms, ns, wd, rfl, _⟩; rfl) (fun f cdv A outer s H vs Q E hr h => ?_)
  obtain ⟨t, a, nms, ns, wd, rfl, hT, hnl, hS, hby, hw, hsm, q, qe⟩ := h
  refine ⟨_, (pss_cons (ps_set (i := 3) sc_undo_chain.nd rfl (Or.inl rfl) (pe_callTy (r := Evl.rListS K) call_list_of (by rfl) T.b_list (by decide +kernel) (pa_cons (pv 1) pa_nil)))
      (pss_cons (ps_for (passes_of rfl) rfl (RT.pi_revA (by rfl) T.b_reversed (pv 0)) (pg_name (i := 4) sc_undo_chain.nd rfl (Or.inl rfl)) (pss_one (ps_set (i := 3) sc_undo_chain.nd rfl (Or.inl rfl) (pe_callN G_undo_filter (L2N.takes_of rfl rfl rfl rfl) (hr.mono (by decide)) (pa_cons (pv 4) (pa_cons (pv 3) (pa_cons (pv 2) pa_nil)))))))
      (pss_one (ps_ret (pv 3))))), ?_⟩
  walk_at "rd"
  refine r_list (Own.nil H) hS fun p1 H1 o1 => ?_
  walk_at "rd"
  refine r_iRA ?_
  walk_at "rd"
  refine ⟨_, _, rfl, .inr ⟨o1.oldT hT, RT.for_ItvT (fun i σ' H' => ∃ (p : Addr) (xs : List Int) (v4 : Option V) (L : List (Addr × HO)), σ' = [some (.ref t), some (.ref a), some (.int wd), some (.ref p), v4] ∧ Own H H' ((p, .lst (xs.map V.int)) :: L) ∧ By xs ∧ smC wd (nms.reverse.drop i) xs ∧ undC wd (nms.reverse.drop i) xs = undC wd nms.reverse ns) ⟨p1, ns, none, [], rfl, o1, hby, hsm, rfl⟩ (fun i σ' H' ⟨_, _, _, _, _, o, _⟩ => o.oldT hT) ?_ ?_⟩⟩
  · rintro i x σ' H' hi hx ⟨p, xs, v4, L, rfl, o, hbx, hsx, hux⟩
    rw [List.length_map] at hi
    obtain ⟨nm, hn2, rfl⟩ : ∃ nm, nms[nms.length - 1 - i]? = some nm ∧ x = .str nm := by
      rw [List.getElem?_map, List.length_map] at hx
      cases h2 : nms[nms.length - 1 - i]? with
      | none => rw [h2] at hx; cases hx
      | some nm => rw [h2] at hx; cases hx; exact ⟨nm, rfl, rfl⟩
    have hd : nms.reverse.drop i = nm :: nms.reverse.drop (i + 1) := by
      have h1 : nms.reverse[i]? = some nm := by rw [List.getElem?_reverse (by omega)]; exact hn2
      obtain ⟨h2, h3⟩ := List.getElem?_eq_some_iff.mp h1
      rw [← h3, List.getElem_cons_drop h2]
    rw [hd] at hsx hux
    obtain ⟨hlx, hrx, hnx⟩ := hsx
    have hux : (undF nm wd xs).bind (undC wd (nms.reverse.drop (i + 1))) = undC wd nms.reverse ns := hux
    walk_at "rd"
    refine ⟨_, _, _, wd, rfl, o.sqL 0 rfl, hbx, hw, hlx, hrx, fun ms hms => r_ret1 o fun p2 H2 o2 => ?_, fun hms z => RetE.up (qe (by rw [← hux, hms]; rfl) z) o⟩
    walk_at "rd"
    rw [hms] at hux
    exact ⟨_, _, _, _, rfl, o2, undF_by hbx hms, hnx _ hms, hux⟩
  · rintro σ' H' ⟨p, xs, v4, L, rfl, o, hbx, hsx, hux⟩
    rw [List.length_map, List.drop_of_length_le (by rw [List.length_reverse]; omega)] at hux
    walk_at "rd"
    exact (q _ hux.symm).mk o 0 rfl
end
theorem pe_fldK {X : Cx} {K : PySem.W.Frag} {e : Expr} {f : Str} {pos : Pos} {ta : TE} (hK : X.K = K) (he : PE X e ta) (hb : attributeBase e f X.env (eval e X.env) = eval e X.env) : PE X (.Attribute e f pos) (tFld K ta f) := by
  subst hK
  exact pe_fld he hb

theorem byt_rd {zs : List Int} (h : Byt zs) : ∀ z ∈ zs, ∀ bk, rdB (byB z ++ bk) = some (z, (byB z).length) := fun z hz bk => rdB_by (h z hz) bk
def chB (z : Str) (nms : List Str) (ns : List Int) : List Int := lsB byB (appC nms (kN z) (stV z ns))
theorem chB_len {z : Str} {nms : List Str} {ns : List Int} (hz : z ∈ KS) (hn : nms.length ≤ 6) (hl : ns.length ≤ 180) : (chB z nms ns).length ≤ 1000000 := by
  have hsl : (stV z ns).length ≤ 720 := by
    have hw := (k_abs z hz).1
    rw [st_len]
    rcases hw with h | h | h <;> rw [h] <;> omega
  have h48 := appC_len6 (k_abs z hz).1 nms nms.length (ns := stV z ns) hn (by omega)
  rw [List.take_length] at h48
  have h1 := numB_len 20 (appC nms (kN z) (stV z ns)).length (Nat.lt_of_le_of_lt h48 (by decide))
  have h2 := flat_le (wr := byB) (m := 2) (appC nms (kN z) (stV z ns)) fun z _ => (by_len z).2
  unfold chB lsB
  rw [List.length_append]
  omega
theorem chB_rd {z : Str} {nms : List Str} {ns : List Int} (hz : z ∈ KS) : rdLs rdB (chB z nms ns) = some (appC nms (kN z) (stV z ns), (chB z nms ns).length) := by
  have hby : By (appC nms (kN z) (stV z ns)) := appC_by (k_abs z hz).1 nms (st_by z ns)
  have h := rdLs_list (appC nms (kN z) (stV z ns)) [] (byt_rd hby) fun z _ => (by_len z).1
  rw [List.append_nil] at h
  exact h
theorem chB_b {z : Str} {nms : List Str} {ns : List Int} (hz : z ∈ KS) : ∀ x ∈ chB z nms ns, 0 ≤ x ∧ x < 250 := by
  have hby : By (appC nms (kN z) (stV z ns)) := appC_by (k_abs z hz).1 nms (st_by z ns)
  exact bw_ls fun z hz => bw_by (hby z hz)
theorem prodL_pos : ∀ {ns : List Int}, (∀ x ∈ ns, 1 ≤ x) → 1 ≤ prodL ns := by
  intro ns h
  have key : ∀ (ns : List Int) (a : Int), 1 ≤ a → (∀ x ∈ ns, 1 ≤ x) → a ≤ ns.foldl (· * ·) a := by
    intro ns
    induction ns with
    | nil => intro a _ _; exact Int.le_refl _
    | cons n ns ih =>
      intro a ha hb
      have h1 := hb n List.mem_cons_self
      have h2 : a ≤ a * n := by
        have := Int.mul_le_mul_of_nonneg_left h1 (show (0 : Int) ≤ a by omega)
        omega
      exact Int.le_trans h2 (ih (a * n) (by omega) fun x hx => hb x (List.mem_cons_of_mem _ hx))
  exact key ns 1 (by omega) h
/-! ### the content of a chunk's record, whatever it is -/
def decC (z : Str) (cs : List Int) (nms : List Str) (c : List Int) : Option (List Int) := (rdLs rdB c).bind fun p => (undC (kN z) nms.reverse p.1).bind fun ys => if p.2 < c.length ∨ (ys.length : Int) ≠ (kN z : Int) * prodL cs then none else some (ldV z ys (prodL cs).toNat)
theorem rdB_rng {s : List Int} {x : Int} {k : Nat} (h : rdB s = some (x, k)) (hb : ∀ y ∈ s, 0 ≤ y ∧ y < 256) : 0 ≤ x ∧ x < 256 := by
  match s, h with
  | b :: r, h =>
    have h : (if b > 249 then none else if b < 249 then some (b, 1) else match r with
      | [] => none
      | c :: _ => if c ≤ 6 then some (249 + c, 2) else none) = some (x, k) := h
    have h0 := hb b List.mem_cons_self
    by_cases h1 : b > 249
    · rw [if_pos h1] at h; cases h
    · rw [if_neg h1] at h
      by_cases h2 : b < 249
      · rw [if_pos h2] at h; cases h; omega
      · rw [if_neg h2] at h
        match r, h with
        | c :: t, h =>
          have h : (if c ≤ 6 then some (249 + c, 2) else none) = some (x, k) := h
          have h4 := hb c (List.mem_cons_of_mem _ List.mem_cons_self)
          by_cases h3 : c ≤ 6
          · rw [if_pos h3] at h; cases h; omega
          · rw [if_neg h3] at h; cases h
theorem rdL_rng : ∀ {f : Nat} {c : Int} {s xs : List Int} {k : Nat}, rdL rdB f c s = some (xs, k) → (∀ y ∈ s, 0 ≤ y ∧ y < 256) → By xs
  | 0, c, s, xs, k, h, hb => by
    unfold rdL at h
    split at h
    · cases h; exact fun y hy => by cases hy
    · cases h
  | f + 1, c, s, xs, k, h, hb => by
    by_cases hc : c ≤ 0
    · rw [rdL_0 _ hc] at h; cases h; exact fun y hy => by cases hy
    cases h1 : rdB s with
    | none => rw [rdL_none hc h1] at h; cases h
    | some p =>
      rw [rdL_some (x := p.1) (k := p.2) hc h1] at h
      cases h2 : rdL rdB f (c - 1) (s.drop p.2) with
      | none => rw [h2] at h; cases h
      | some q =>
        rw [h2] at h
        cases h
        have h3 := rdL_rng (xs := q.1) (k := q.2) h2 fun y hy => hb y (List.mem_of_mem_drop hy)
        intro y hy
        rcases List.mem_cons.mp hy with rfl | hy
        · exact rdB_rng h1 hb
        · exact h3 y hy
theorem rdLs_rng {s xs : List Int} {k : Nat} (h : rdLs rdB s = some (xs, k)) (hb : ∀ y ∈ s, 0 ≤ y ∧ y < 256) : By xs := by
  unfold rdLs at h
  cases h1 : rdN s true with
  | none => rw [h1] at h; cases h
  | some p =>
    rw [h1] at h
    have h : (rdL rdB (s.length + 1) p.1 (s.drop p.2)).map (fun q => (q.1, p.2 + q.2)) = some (xs, k) := h
    cases h2 : rdL rdB (s.length + 1) p.1 (s.drop p.2) with
    | none => rw [h2] at h; cases h
    | some q =>
      rw [h2] at h
      cases h
      exact rdL_rng (xs := q.1) (k := q.2) h2 fun y hy => hb y (List.mem_of_mem_drop hy)
/-- what a content must keep so that it can be read at all -/
structure CtOk (z : Str) (nms : List Str) (c : List Int) : Prop where
  b : ∀ x ∈ c, 0 ≤ x ∧ x < 256
  le : c.length ≤ 1000000
  sm : ∀ xs k, rdLs rdB c = some (xs, k) → smC (kN z) nms.reverse xs
structure LyM (z : Str) (cs : List Int) (nms : List Str) : Prop where
  hz : z ∈ KS
  nl : nms.length ≤ 6
  hcs : ∀ c ∈ cs, 1 ≤ c ∧ c ≤ 4096
  pr : prodL cs ≤ 4096
section
variable {P : Program} {w : World} {K : PySem.W.Frag} {mg : Str → Option Value} {base : Heap}
def sp_decG (K : PySem.W.Frag) (C : Addr) : Sp := fun vs H Q _ => ∃ (x a : Addr) (z : Str) (cs : List Int) (fl : Int) (nms : List Str) (c : List Int), vs = [.ref x, .ref a] ∧ IsLy K H C x z cs fl nms ∧ LyM z cs nms ∧ SqL K H a (c.map V.int) ∧ CtOk z nms c ∧
  (∀ ns, decC z cs nms c = some ns → RetO H Q (.lst (ns.map V.int))) ∧ (decC z cs nms c = none → RetV H Q .non)
theorem d_decG {C_TesseraError C_Unreadable C_BadFilter C : Addr} (T : Top K mg) (R : Errs K mg C_TesseraError C_Unreadable C_BadFilter) (E_Unreadable : EDef P w K mg base C_Unreadable "Unreadable" ["self", "index"] (sp_i1 C_Unreadable "index")) (EH_Unreadable : EDefH P w K mg base C_Unreadable "Unreadable" ["self", "index"] (sp_i1 C_Unreadable "index")) (E_BadFilter : EDef P w K mg base C_BadFilter "BadFilter" ["self", "name"] (sp_i1 C_BadFilter "name")) (C_Layout : Cl_Layout K mg C) : Def P w K mg base CX0 10 "decode_chunk" ["layout", "content"] (sp_decG K C) := by
  have G_width : Def P w K mg base CX0 1 "width" ["kind"] (sp_kI kW) := d_width T
  have G_read_bytes : Def P w K mg base (L2.CX P w) 9 "read_bytes" ["values", "index"] (sp_ls rdB K C_Unreadable) := d_read_bytes T R E_Unreadable EH_Unreadable
  have G_undo_chain : Def P w K mg base (L2.CX P w) 7 "undo_chain" ["names", "values", "size"] (sp_unchE K C_BadFilter) := (d_undo_chainE T E_BadFilter).toX
  have G_element_count : Def P w K mg base CX0 1 "element_count" ["shape"] (sp_count K) := d_element_count T
  have G_load_values : Def P w K mg base CX0 5 "load_values" ["kind", "stored"] (sp_load K) := d_load T
  refine T.f_decode_chunk.ok sc_decode_chunk (by rintro vs H Q E ⟨x, a, z, cs, fl, nms, ns, rfl, _⟩; rfl) (fun f cdv A outer s H vs Q E hr h => ?_)
  obtain ⟨x, a, z, cs, fl, nms, ct, rfl, hx, hly, hS, hct, q, qn⟩ := h
  obtain ⟨dx, c, t, hx1, hx2, hx3⟩ := hx
  obtain ⟨hw, _, _, _, _, hkw⟩ := k_abs z hly.hz
  have hwd : Wd (kN z) := hw
  refine ⟨_, (pss_cons (ps_set (i := 2) sc_decode_chunk.nd rfl (Or.inl rfl) (pe_callD G_width (hr.mono (by decide)) (pa_cons (pe_fld (pv 0) rfl) pa_nil)))
      (pss_cons (ps_tryT rfl rfl ⟨rfl, by decide, Or.inl R.c_Unreadable.at_⟩ ⟨rfl, by decide, Or.inl R.c_BadFilter.at_⟩ (fun W pn xe tk po => (pss_cons (ps_asg (pe_callX G_read_bytes tk (hr.mono (by decide)) (pa_cons (pv 1) (pa_cons pe_int pa_nil))) (pg_tupK (K := K) (n := 2) rfl rfl (pgs_cons (pg_name (i := 3) sc_decode_chunk.nd rfl (Or.inl rfl)) (pgs_cons (pg_name (i := 4) sc_decode_chunk.nd rfl (Or.inl rfl)) pgs_nil))))
      (pss_one (ps_set (i := 5) sc_decode_chunk.nd rfl (Or.inl rfl) (pe_callX G_undo_chain tk (hr.mono (by decide)) (pa_cons (pe_fldK (K := K) rfl (pv 0) rfl) (pa_cons (pv 3) (pa_cons (pv 2) pa_nil)))))))) (fun a oe cls d pn hz hf => (pss_one (ps_ret pe_non))))
      (pss_cons (ps_if (PW.pt (pw_or (pt_cmpR op_lt (pv 4) (pe_callB (r := Evl.rLenS K) call_len_seq (by rfl) T.b_len (by decide +kernel) (pa_cons (pv 1) pa_nil)) (nomark _)) (pw_or1 (pt_cmpR op_ne (pe_callB (r := Evl.rLenS K) call_len_seq (by rfl) T.b_len (by decide +kernel) (pa_cons (pv 5) pa_nil)) (pe_op op_mul (pv 2) (pe_callD G_element_count (hr.mono (by decide)) (pa_cons (pe_fld (pv 0) rfl) pa_nil))) (nomark _))))) (pss_one (ps_ret pe_non)) pss_nil)
      (pss_one (ps_ret (pe_callD G_load_values (hr.mono (by decide)) (pa_cons (pe_fld (pv 0) rfl) (pa_cons (pv 5) pa_nil)))))))), ?_⟩
  walk_at "rd"
  refine ⟨x, C, dx, _, .str z, rfl, hx1, C_Layout.cl, C_Layout.a_kind, rfl, ?_⟩
  walk_at "rd"
  refine ⟨_, rfl, hly.hz, ?_⟩
  rw [hkw]
  walk_at "rd"
  unfold decC at q qn
  refine ⟨a, ct, 0, rfl, hS, (fun x hx => ⟨(hct.b x hx).1, by have := (hct.b x hx).2; omega⟩), hct.le, by omega, by omega, fun xs k _ hxs => ?_, fun hxs => ?_⟩
  rotate_left
  · rw [show (0 : Int).toNat = 0 from rfl, List.drop_zero] at hxs
    have hxs : rdLs rdB ct = none := by
      rcases hxs with h | h
      · omega
      · exact h
    rw [hxs] at qn
    refine r_retE (Own.nil H) fun d H3 hd o3 => ⟨exm_any2 (R.c_Unreadable.exm R.s_Unreadable_Unreadable) (R.c_BadFilter.exm R.s_Unreadable_BadFilter) rfl, fun a0 na => ?_⟩
    walk_at "rd"
    exact qn rfl _ o3.ex
  rw [show (0 : Int).toNat = 0 from rfl, List.drop_zero] at hxs
  rw [hxs] at q qn
  have hby := rdLs_rng hxs hct.b
  have hsm := hct.sm _ _ hxs
  refine r_retLT (Own.nil H) fun p1 l1 H1 o1 => ?_
  refine r_gTup2 (o1.sqT 0 rfl) ?_
  walk_at "rd"
  refine ⟨x, C, dx, _, .ref t, rfl, o1.ex _ _ hx1, C_Layout.cl, C_Layout.a_filters, rfl, ?_⟩
  walk_at "rd"
  refine ⟨t, l1, nms, xs, kN z, rfl, o1.oldT hx3, hly.nl, o1.sqL 1 rfl, hby, hwd, hsm, fun ms hms => r_ret1 o1 fun p2 H2 o2 => ?_, fun hms z2 => ?_⟩
  rotate_left
  · have qn := qn (by show (undC (kN z) nms.reverse xs).bind _ = none; rw [hms]; rfl)
    refine r_retE o1 fun d H3 hd o3 => ⟨exm_any2 (R.c_Unreadable.exm R.s_BadFilter_Unreadable) (R.c_BadFilter.exm R.s_BadFilter_BadFilter) rfl, fun a0 na => ?_⟩
    walk_at "rd"
    exact qn _ o3.ex
  have hmb : By ms := undC_by hby hms
  have q : ∀ ns, (if k < ct.length ∨ (ms.length : Int) ≠ (kN z : Int) * prodL cs then none else some (ldV z ms (prodL cs).toNat)) = some ns → RetO H Q (.lst (ns.map V.int)) := fun ns h => q ns (by show (undC (kN z) nms.reverse xs).bind _ = _; rw [hms]; exact h)
  have qn : (if k < ct.length ∨ (ms.length : Int) ≠ (kN z : Int) * prodL cs then none else some (ldV z ms (prodL cs).toNat)) = none → RetV H Q .non := fun h => qn (by show (undC (kN z) nms.reverse xs).bind _ = _; rw [hms]; exact h)
  walk_at "rd"
  rw [List.length_map]
  refine rif (fun h => ?_) fun h => ?_
  · walk_at "rd"
    exact qn (if_pos (.inl (by omega))) _ o2.ex
  walk_at "rd"
  refine ⟨x, C, dx, _, .ref c, rfl, o2.ex _ _ hx1, C_Layout.cl, C_Layout.a_chunk_shape, rfl, ?_⟩
  walk_at "rd"
  refine ⟨c, cs, rfl, o2.oldT hx2, fun v hv => by have := hly.hcs v hv; omega, ?_⟩
  walk_at "rd"
  rw [List.length_map]
  refine rif_n (fun h2 => ?_) fun h2 => ?_
  · walk_at "rd"
    exact qn (if_pos (.inr h2)) _ o2.ex
  have q := q _ (if_neg (by rintro (h3 | h3); exact h (by omega); exact h3 h2))
  have hp1 := prodL_pos (ns := cs) fun x hx => (hly.hcs x hx).1
  have hpr := hly.pr
  walk_at "rd"
  refine ⟨x, C, dx, _, .str z, rfl, o2.ex _ _ hx1, C_Layout.cl, C_Layout.a_kind, rfl, ?_⟩
  walk_at "rd"
  refine ⟨z, p2, ms, (prodL cs).toNat, rfl, hly.hz, o2.sqL 0 rfl, by omega, ?_, hmb, RetO.up q o2⟩
  obtain ⟨n, hn⟩ : ∃ n : Nat, prodL cs = n := ⟨(prodL cs).toNat, by omega⟩
  rw [hn] at h2 ⊢
  rw [show ((n : Int)).toNat = n from rfl]
  have : ((ms.length : Nat) : Int) = ((n * kN z : Nat) : Int) := by rw [h2, Int.natCast_mul, Int.mul_comm]
  omega
end

/-! ### the law's own way back through a filter -/
theorem unplF_any : ∀ (ps : List (Nat × Int)) (s s' : List Int), s.length = s'.length → (∀ j, (∀ p ∈ ps, p.1 ≠ j) → s[j]? = s'[j]?) → ps.foldl unplF s = ps.foldl unplF s'
  | [], s, s', _, h => List.ext_getElem? fun j => h j fun p hp => by cases hp
  | p :: ps, s, s', hl, h => by
    rw [List.foldl_cons, List.foldl_cons]
    refine unplF_any ps _ _ (by unfold unplF; rw [List.length_set, List.length_set, hl]) fun j hj => ?_
    unfold unplF
    by_cases e : p.1 = j
    · subst e
      rw [List.getElem?_set, List.getElem?_set, if_pos rfl, if_pos rfl, hl]
    · rw [List.getElem?_set_ne e, List.getElem?_set_ne e]
      refine h j fun q hq => ?_
      rcases List.mem_cons.mp hq with rfl | hq
      · exact e
      · exact hj q hq
theorem unpl_any {wd : Nat} {ns : List Int} (hw : Wd wd) : ((ordN ns.length wd).zip ns).foldl unplF ns = unpl wd ns := by
  unfold unpl
  refine unplF_any _ _ _ (by rw [List.length_replicate]) fun j hj => ?_
  have hj2 : ¬ j < ns.length := fun hlt => by
    obtain ⟨i, hi, e⟩ := List.mem_iff_getElem.mp ((ord_mem hw (n := ns.length)).mpr hlt)
    have hi2 := hi
    rw [ord_len hw] at hi2
    have hz : ((ordN ns.length wd).zip ns)[i]? = some (j, ns[i]) := by
      rw [List.getElem?_zip_eq_some]
      exact ⟨by rw [List.getElem?_eq_getElem hi, e], List.getElem?_eq_getElem hi2⟩
    exact hj _ (List.mem_of_getElem? hz) rfl
  rw [List.getElem?_eq_none (by omega), List.getElem?_eq_none (by rw [List.length_replicate]; omega)]
def plcN (n wd i : Nat) : List Nat := (List.range i).flatMap fun p => (List.range n).filter fun k => k % wd == p
theorem plcN_le {n wd i : Nat} (hw : Wd wd) (hi : i ≤ wd) : (plcN n wd i).length ≤ n := by
  have e : ordN n wd = plcN n wd i ++ ((List.range (wd - i)).map (i + ·)).flatMap fun p => (List.range n).filter fun k => k % wd == p := by
    unfold plcN ordN
    rw [← List.flatMap_append, ← List.range_add, show i + (wd - i) = wd by omega]
  have h := ord_len (n := n) hw
  rw [e, List.length_append] at h
  omega
section
variable {P : Program} {w : World} {K : PySem.W.Frag} {mg : Str → Option Value} {base : Heap}
def sp_back (K : PySem.W.Frag) : Sp := fun vs H Q _ => ∃ (nm : Str) (a : Addr) (ns : List Int) (wd : Nat), vs = [.str nm, .ref a, .int wd] ∧ (nm = sD ∨ nm = sP ∨ nm = sR ∨ nm = sZ) ∧ SqL K H a (ns.map V.int) ∧ By ns ∧ Wd wd ∧ ns.length ≤ 1000000 ∧ (nm = sR → RunsOk ns) ∧ (∀ ms, undF nm wd ns = some ms → RetO H Q (.lst (ms.map V.int))) ∧ (undF nm wd ns = none → RetV H Q .non)
theorem d_back (T : Top K mg) : Def P w K mg base CX0 1 "_law_back" ["name", "values", "size"] (sp_back K) := by
  refine T.f__law_back.ok sc__law_back (by rintro vs H Q E ⟨nm, a, ns, wd, rfl, _⟩; rfl) (fun f cdv A outer s H vs Q E hr h => ?_)
  obtain ⟨nm, a, ns, wd, rfl, hnm, hS, hby, hw, hz, hro, q, qn⟩ := h
  refine ⟨_, (pss_cons (ps_if (pt_cmpR op_eq (pv 0) pe_str (nomark _)) (pss_cons (ps_set (i := 3) sc__law_back.nd rfl (Or.inl rfl) pe_int)
      (pss_cons (ps_set (i := 4) sc__law_back.nd rfl (Or.inl rfl) (pe_lst pa_nil))
      (pss_cons (ps_for PassesOwn.never rfl (pi_list (pv 1)) (pg_name (i := 5) sc__law_back.nd rfl (Or.inl rfl)) (pss_cons (ps_set (i := 3) sc__law_back.nd rfl (Or.inl rfl) (pe_op op_mod (pe_op op_add (pv 3) (pv 5)) pe_int))
      (pss_one (ps_expr (pe_bm PySem.F.plainAttrs_list PySem.F.slot_list_append PySem.F.type_list_append mt_append (pv 4) (pa_cons (pv 3) pa_nil))))))
      (pss_one (ps_ret (pv 4)))))) pss_nil)
      (pss_cons (ps_if (pt_cmpR op_eq (pv 0) pe_str (nomark _)) (pss_cons (ps_set (i := 6) sc__law_back.nd rfl (Or.inl rfl) (pe_lst pa_nil))
      (pss_cons (ps_for PassesOwn.never rfl (pi_range1 (by rfl) T.b_range (pa_cons (pv 2) pa_nil)) (pg_name (i := 7) sc__law_back.nd rfl (Or.inr rfl)) (pss_one (ps_set (i := 6) sc__law_back.nd rfl (Or.inl rfl) (pe_op op_cat (pv 6) (pe_lc (own := [("k", 8)]) (g := (gName 8)) rfl sc__law_back.nd (pi_range1 (by rfl) T.b_range (pa_cons (pe_callB (r := Evl.rLenS K) call_len_seq (by rfl) T.b_len (by decide +kernel) (pa_cons (pv 1) pa_nil)) pa_nil)) (blkOk_by (N := N__law_back) (sc := defScope s__law_back) (by decide +kernel)) (fun _ _ _ _ _ => (pg_name (i := 8) sc__law_back.nd rfl (Or.inl rfl))) (fun _ _ _ _ _ => pts_one (pt_cmpR op_eq (pe_op op_mod (pv 8) (pv 2)) (pv 7) (nomark _))) (fun _ _ _ _ _ => (pv 8)))))))
      (pss_cons (ps_set (i := 4) sc__law_back.nd rfl (Or.inl rfl) (pe_callTy (r := Evl.rListS K) call_list_of (by rfl) T.b_list (by decide +kernel) (pa_cons (pv 1) pa_nil)))
      (pss_cons (ps_for PassesOwn.never rfl (pi_range1 (by rfl) T.b_range (pa_cons (pe_callB (r := Evl.rLenS K) call_len_seq (by rfl) T.b_len (by decide +kernel) (pa_cons (pv 6) pa_nil)) pa_nil)) (pg_name (i := 8) sc__law_back.nd rfl (Or.inl rfl)) (pss_one (ps_asg (pe_ix (r := rIxL K) ix_list (pv 1) (pv 8) (fun _ _ => rfl)) (pg_sub (pv 4) (pe_ix (r := rIxL K) ix_list (pv 6) (pv 8) (fun _ _ => rfl)) set_list))))
      (pss_one (ps_ret (pv 4))))))) pss_nil)
      (pss_cons (ps_if (pt_cmpR op_eq (pv 0) pe_str (nomark _)) (pss_cons (ps_if (pt_cutT (PW.pt (pw_or (pt_cmpR op_lt (pe_callB (r := Evl.rLenS K) call_len_seq (by rfl) T.b_len (by decide +kernel) (pa_cons (pv 1) pa_nil)) pe_int (nomark _)) (pw_or1 (PW.pt (pw_and (pt_cmpR op_lt (pe_op op_add (pe_op op_mul (pe_ix (r := rIxL K) ix_list (pv 1) pe_int (fun _ _ => rfl)) pe_int) (pe_ix (r := rIxL K) ix_list (pv 1) pe_int (fun _ _ => rfl))) pe_int (nomark _)) (pw_and (pt_cmpR op_gt (pe_callB (r := Evl.rLenS K) call_len_seq (by rfl) T.b_len (by decide +kernel) (pa_cons (pv 1) pa_nil)) pe_int (nomark _)) (pw_and1 (pt_cmpR op_eq (pe_ix (r := rIxL K) ix_list (pv 1) (pe_un un_neg pe_int) (fun _ _ => rfl)) pe_int (nomark _)))))))))) (pss_one (ps_ret pe_non)) pss_nil)
      (pss_one (ps_ret (pe_op op_cat (pe_slice (r := rSlL K) sl_list (pv 1) (po_some pe_int) po_none) (pe_op op_rep (pe_lst (pa_cons pe_int pa_nil)) (pe_op op_add (pe_op op_mul (pe_ix (r := rIxL K) ix_list (pv 1) pe_int (fun _ _ => rfl)) pe_int) (pe_ix (r := rIxL K) ix_list (pv 1) pe_int (fun _ _ => rfl)))))))) pss_nil)
      (pss_cons (ps_if (pt_cmpR op_eq (pe_op op_mod (pe_callB (r := Evl.rLenS K) call_len_seq (by rfl) T.b_len (by decide +kernel) (pa_cons (pv 1) pa_nil)) pe_int) pe_int (nomark _)) (pss_one (ps_ret pe_non)) pss_nil)
      (pss_cons (ps_set (i := 4) sc__law_back.nd rfl (Or.inl rfl) (pe_lst pa_nil))
      (pss_cons (ps_for PassesOwn.never rfl (pi_range3 (by rfl) T.b_range (pa_cons pe_int (pa_cons (pe_callB (r := Evl.rLenS K) call_len_seq (by rfl) T.b_len (by decide +kernel) (pa_cons (pv 1) pa_nil)) (pa_cons pe_int pa_nil)))) (pg_name (i := 8) sc__law_back.nd rfl (Or.inl rfl)) (pss_cons (ps_if (pt_cutT (PW.pt (pw_or (pt_cmpR op_eq (pe_ix (r := rIxL K) ix_list (pv 1) (pv 8) (fun _ _ => rfl)) pe_int (nomark _)) (pw_or1 (PW.pt (pw_and (pt_cmpR op_gt (pv 8) pe_int (nomark _)) (pw_and (pt_cmpR op_eq (pe_ix (r := rIxL K) ix_list (pv 1) (pe_op op_add (pv 8) pe_int) (fun _ _ => rfl)) (pe_ix (r := rIxL K) ix_list (pv 1) (pe_op op_sub (pv 8) pe_int) (fun _ _ => rfl)) (nomark _)) (pw_and1 (pt_cmpR op_lt (pe_ix (r := rIxL K) ix_list (pv 1) (pe_op op_sub (pv 8) pe_int) (fun _ _ => rfl)) pe_int (nomark _)))))))))) (pss_one (ps_ret pe_non)) pss_nil)
      (pss_one (ps_set (i := 4) sc__law_back.nd rfl (Or.inl rfl) (pe_op op_cat (pv 4) (pe_op op_rep (pe_lst (pa_cons (pe_ix (r := rIxL K) ix_list (pv 1) (pe_op op_add (pv 8) pe_int) (fun _ _ => rfl)) pa_nil)) (pe_ix (r := rIxL K) ix_list (pv 1) (pv 8) (fun _ _ => rfl))))))))
      (pss_one (ps_ret (pv 4))))))))), ?_⟩
  unfold undF at q qn
  have hw4 : wd ≤ 4 ∧ 1 ≤ wd := by rcases hw with rfl | rfl | rfl <;> decide
  walk_at "rd"
  refine rif (fun h1 => ?_) fun h1 => ?_
  · rw [if_pos (show nm = sD from h1)] at q
    have q := q _ rfl
    walk_at "rd"
    refine r_newL (Own.nil H) (Nat.zero_le _) fun p1 H1 o1 => ?_
    walk_at "rd"
    refine forL (o1.old hS) (fun i σ' H' => ∃ v : Option V, σ' = [some (.str nm), some (.ref a), some (.int wd), some (.int ((ns.take i).foldl stepU ([], 0)).2), some (.ref p1), v, none, none, none] ∧ Own H H' [(p1, .lst ((((ns.take i).foldl stepU ([], 0)).1).map V.int))]) ⟨_, rfl, o1⟩ (fun i σ' H' _ ⟨_, _, o⟩ => o.old hS) ?_ ?_
    · rintro i v σ' H' hi ⟨v4, rfl, o⟩
      obtain ⟨x, hx, rfl⟩ := int_at hi
      walk_at "rd"
      refine r_app o 0 rfl (by rw [List.length_map, stepU_len, List.length_take]; simp; omega) fun H2 o2 => ?_
      walk_at "rd"
      rw [fold_take hx]
      exact ⟨_, rfl, by unfold stepU; rw [List.map_append]; exact o2⟩
    · rintro σ' H' ⟨v4, rfl, o⟩
      rw [List.length_map, List.take_length] at o
      walk_at "rd"
      exact q.mk o 0 rfl
  rw [if_neg (show ¬ nm = sD from h1)] at q qn
  walk_at "rd"
  refine rif (fun h2 => ?_) fun h2 => ?_
  · rw [if_pos (show nm = sP from h2)] at q
    have q := q _ rfl
    rw [← unpl_any hw] at q
    walk_at "rd"
    refine r_newL (Own.nil H) (Nat.zero_le _) fun p1 H1 o1 => ?_
    walk_at "rd"
    refine forR1 (n := wd) rfl (by omega) (fun i σ' H' => ∃ (p : Addr) (v7 v8 : Option V), σ' = [some (.str nm), some (.ref a), some (.int wd), none, none, none, some (.ref p), v7, v8] ∧ Own H H' [(p, .lst (((plcN ns.length wd i).map fun (k : Nat) => (k : Int)).map V.int))]) ⟨p1, none, none, rfl, o1⟩ ?_ ?_
    · rintro i σ' H' hi ⟨p, v7, v8, rfl, o⟩
      have hS' := o.old hS
      walk_at "rd"
      refine lcGR (n := ns.length) (fun k => if k % wd == i then some (.int (k : Int)) else none) o (by rw [List.length_map]) (by omega) (fun x => rfl) ?_ ?_ fun p2 H2 s2 o2 => ?_
      · intro k q2 zs H'' Q' hk o'' _ q'
        walk_at "rd"
        have e : (if k % wd == i then some (V.int (k : Int)) else none).isSome = decide ((k : Int) % (wd : Int) = (i : Int)) := by
          have e2 : (k : Int) % (wd : Int) = ((k % wd : Nat) : Int) := rfl
          rw [e2]
          by_cases hc : k % wd = i
          · rw [if_pos (by simpa using hc)]
            exact (decide_eq_true (by omega)).symm
          · rw [if_neg (by simpa using hc)]
            exact (decide_eq_false (by omega)).symm
        rw [e] at q'
        exact q' _ (Same.refl _)
      · intro k y q2 zs H'' Q' hk hy o'' _ q'
        walk_at "rd"
        split at hy
        · cases hy
          exact q'.here
        · cases hy
      · rw [RD.fm_filter] at o2
        have hl2 := plcN_le (n := ns.length) hw (i := i + 1) (by omega)
        have e3 : plcN ns.length wd (i + 1) = plcN ns.length wd i ++ (List.range ns.length).filter fun k => k % wd == i := by
          unfold plcN
          rw [List.range_succ, List.flatMap_append]
          simp
        rw [e3, List.length_append] at hl2
        refine r_cat o2 (o2.at 1 rfl) (o2.at 0 rfl) (by rw [List.length_map, List.length_map, List.length_map]; omega) fun p3 H3 o3 => ?_
        walk_at "rd"
        refine ⟨p3, _, _, rfl, ?_⟩
        rw [e3, List.map_append, List.map_append, List.map_map (l := (List.range ns.length).filter _)]
        exact o3.pick1 0 rfl
    · rintro σ' H' ⟨p, v7, v8, rfl, o⟩
      have o : Own H H' [(p, .lst (((ordN ns.length wd).map fun (k : Nat) => (k : Int)).map V.int))] := o
      have hol := ord_len (n := ns.length) hw
      walk_at "rd"
      refine r_list o (o.old hS) fun p2 H2 o2 => ?_
      walk_at "rd"
      refine forR1 (n := ns.length) (by rw [List.length_map, List.length_map, hol]) (by rw [List.length_map, List.length_map]; omega) (fun i σ' H' => ∃ (v7 v8 : Option V), σ' = [some (.str nm), some (.ref a), some (.int wd), none, some (.ref p2), none, some (.ref p), v7, v8] ∧ Own H H' [(p2, .lst ((((((ordN ns.length wd).zip ns).take i).foldl unplF ns)).map V.int)), (p, .lst (((ordN ns.length wd).map fun (k : Nat) => (k : Int)).map V.int))]) ⟨_, _, rfl, o2⟩ ?_ ?_
      · rintro i σ' H3 hi ⟨v7', v8', rfl, o3⟩
        have hS3 := o3.old hS
        have hoi : (ordN ns.length wd)[i]? = some (ordN ns.length wd)[i] := List.getElem?_eq_getElem (by omega)
        have hni : ns[i]? = some ns[i] := List.getElem?_eq_getElem hi
        have hkn := (ord_mem hw).mp (List.mem_of_getElem? hoi)
        have hgo : gi ((ordN ns.length wd).map fun (k : Nat) => (k : Int)) (i : Int) = (((ordN ns.length wd)[i] : Nat) : Int) := gi_of (by rw [List.getElem?_map, hoi]; rfl)
        have hgn : gi ns (i : Int) = ns[i] := gi_of hni
        walk_at "rd"
        rw [hgn, hgo]
        refine r_setL (k := (ordN ns.length wd)[i]) o3 0 rfl ?_ fun H5 o5 => ?_
        · rw [List.length_map, unplF_len]
          unfold ixN
          rw [if_pos (by omega), if_pos (by omega)]
          rfl
        refine ⟨_, _, rfl, ?_⟩
        have hz2 : ((ordN ns.length wd).zip ns)[i]? = some ((ordN ns.length wd)[i], ns[i]) := by rw [List.getElem?_zip_eq_some]; exact ⟨hoi, hni⟩
        rw [List.take_add_one, hz2, List.foldl_append]
        show Own H H5 [(p2, .lst ((List.set _ (ordN ns.length wd)[i] ns[i]).map V.int)), _]
        rw [List.map_set]
        exact o5
      · rintro σ' H3 ⟨v7', v8', rfl, o3⟩
        rw [List.take_of_length_le (by rw [List.length_zip]; omega)] at o3
        walk_at "rd"
        exact q.mk o3 0 rfl
  rw [if_neg (show ¬ nm = sP from h2)] at q qn
  walk_at "rd"
  refine rif (fun h3 => ?_) fun h3 => ?_
  · have h3 : nm = sZ := h3
    rw [if_neg (show ¬ nm = sR by rw [h3]; decide +kernel)] at q qn
    unfold unZ at q qn
    have hlast : 0 < ns.length → atI (ns.map V.int) (-1) = some (.int (gi ns ((ns.length : Int) - 1))) := fun h => by
      rw [show (ns.map V.int) = ((ns.map V.int).take (ns.length - 1)) ++ [V.int (gi ns ((ns.length : Int) - 1))] by
        have e := gi_nat (ns := ns) (k := ns.length - 1) (by omega)
        rw [show (((ns.length - 1 : Nat) : Int)) = (ns.length : Int) - 1 by omega] at e
        rw [e]
        have h4 : (ns.map V.int).take ((ns.length - 1) + 1) = ns.map V.int := List.take_of_length_le (by rw [List.length_map]; omega)
        rw [List.take_add_one, List.getElem?_map, List.getElem?_eq_getElem (show ns.length - 1 < ns.length by omega)] at h4
        exact h4.symm]
      exact atI_last _ _
    walk_at "rd"
    refine r_cutB (decide (ns.length < 2 ∨ (cntZ ns < 65535 ∧ 2 < ns.length ∧ gi ns ((ns.length : Int) - 1) = 0))) ?_ ?_
    · walk_at "rd"
      rw [List.length_map]
      refine rif (fun h4 => ?_) fun h4 => ?_
      · walk_at "rd"
        exact ⟨(decide_eq_true (.inl (by omega))).symm, rfl⟩
      walk_at "rd"
      refine rif (fun h5 => ?_) fun h5 => ?_
      · walk_at "rd"
        rw [List.length_map]
        refine rif (fun h6 => ?_) fun h6 => ?_
        · walk_at "rd"
          refine r_ixL hS (hlast (by omega)) ?_
          walk_at "rd"
          refine ⟨decide_eq_decide.mpr ⟨fun h7 => .inr ⟨h5, by omega, h7⟩, fun h7 => ?_⟩, rfl⟩
          rcases h7 with h7 | h7
          · omega
          · exact h7.2.2
        · walk_at "rd"
          exact ⟨(decide_eq_false (by rintro (h7 | h7); omega; omega)).symm, rfl⟩
      · walk_at "rd"
        exact ⟨(decide_eq_false (by rintro (h7 | h7); omega; exact h5 h7.1)).symm, rfl⟩
    refine rif (fun h4 => ?_) fun h4 => ?_
    · walk_at "rd"
      refine qn ?_ _ (Same.refl _)
      by_cases h5 : ns.length < 2
      · rw [if_pos h5]
      · rw [if_neg h5, if_pos (by rcases h4 with h4 | h4; exact absurd h4 h5; exact ⟨h4.2.1, h4.2.2, h4.1⟩)]
    have q := q _ (by rw [if_neg (fun h => h4 (.inl h)), if_neg (fun h => h4 (.inr ⟨h.2.2, h.1, h.2.1⟩))])
    have h2n : 2 ≤ ns.length := Nat.le_of_not_lt fun h => h4 (.inl h)
    have hb0 := hby.gi (i := 0) (by omega) (by omega)
    have hb1 := hby.gi (i := 1) (by omega) (by omega)
    walk_at "rd"
    refine r_slL (Own.nil H) hS fun p1 H1 o1 => ?_
    rw [show (2 : Int) = ((2 : Nat) : Int) from rfl, cut_lo] at o1
    walk_at "rd"
    refine r_newL o1 (Nat.le_of_ble_eq_true rfl) fun p2 H2 o2 => ?_
    have hS2 := o2.old hS
    walk_at "rd"
    refine r_rep (n := (cntZ ns).toNat) o2 (o2.at 0 rfl) rfl (by unfold cntZ at *; omega) (by unfold cntZ; omega) fun p3 H3 s3 o3 => ?_
    refine r_cat o3 (o3.at 2 rfl) (o3.at 0 rfl) (by rw [List.length_drop, List.length_map, List.length_replicate]; unfold cntZ; omega) fun p4 H4 o4 => ?_
    rw [← List.map_drop, ← List.map_replicate, ← List.map_append] at o4
    walk_at "rd"
    exact q.mk o4 0 rfl
  have hr : nm = sR := by
    rcases hnm with h | h | h | h
    · exact absurd h h1
    · exact absurd h h2
    · exact h
    · exact absurd h h3
  rw [if_pos hr] at q qn
  unfold unR at q qn
  walk_at "rd"
  rw [List.length_map]
  refine rif (fun h4 => ?_) fun h4 => ?_
  · walk_at "rd"
    exact qn (if_pos (by omega)) _ (Same.refl _)
  rw [if_neg (show ¬ ns.length % 2 = 1 by omega)] at q qn
  have bad : ¬ okP (prs ns) → RetV H Q .non := fun h => qn (if_neg h)
  have good : okP (prs ns) → RetO H Q (.lst ((unpk (prs ns)).map V.int)) := fun h => q _ (if_pos h)
  clear q qn
  have hro := hro hr
  walk_at "rd"
  refine r_newL (Own.nil H) (Nat.zero_le _) fun p1 H1 o1 => ?_
  walk_at "rd"
  rw [List.length_map]
  have hrg : RgC 0 (ns.length : Int) 2 (ns.length / 2) := by have h := rgc_mul (n := ns.length / 2) (wd := 2) (.inr (.inl rfl)) (by omega); rw [show ns.length / 2 * 2 = ns.length by omega] at h; exact h
  have hpg : ∀ i, i < ns.length / 2 → (prs ns)[i]? = some (gi ns (2 * (i : Int)), gi ns (2 * (i : Int) + 1)) := fun i hi => by
    unfold prs
    rw [List.getElem?_map, List.getElem?_range hi]
    rfl
  have hpd : ∀ i, i < ns.length / 2 → (prs ns).getD i (0, 0) = (gi ns (2 * (i : Int)), gi ns (2 * (i : Int) + 1)) := fun i hi => by
    rw [List.getD_eq_getElem?_getD, hpg i hi]
    rfl
  refine forR3 hrg (fun i σ' H' => ∃ (p : Addr) (v8 : Option V), σ' = [some (.str nm), some (.ref a), some (.int wd), none, some (.ref p), none, none, none, v8] ∧ Own H H' [(p, .lst ((unpk ((prs ns).take i)).map V.int))] ∧ ∀ k, k < i → ((prs ns).getD k (0, 0)).1 ≠ 0 ∧ ¬ (0 < k ∧ ((prs ns).getD (k - 1) (0, 0)).1 < 255 ∧ ((prs ns).getD (k - 1) (0, 0)).2 = ((prs ns).getD k (0, 0)).2)) ⟨p1, _, rfl, o1, fun k hk => absurd hk (Nat.not_lt_zero _)⟩ ?_ ?_
  · rintro i σ' H' hi ⟨p, v8, rfl, o, hgd⟩
    rw [show (0 : Int) + (i : Int) * 2 = 2 * (i : Int) by omega]
    have hS' := o.old hS
    have hb0 := hby.gi (i := 2 * (i : Int)) (by omega) (by omega)
    walk_at "rd"
    refine r_cutB (decide (gi ns (2 * (i : Int)) = 0 ∨ (0 < i ∧ gi ns (2 * (i : Int) + 1) = gi ns (2 * (i : Int) - 1) ∧ gi ns (2 * (i : Int) - 2) < 255))) ?_ ?_
    · walk_at "rd"
      refine rif (fun h5 => ?_) fun h5 => ?_
      · walk_at "rd"
        exact ⟨(decide_eq_true (.inl h5)).symm, rfl⟩
      walk_at "rd"
      refine rif (fun h6 => ?_) fun h6 => ?_
      · walk_at "rd"
        refine rif (fun h7 => ?_) fun h7 => ?_
        · walk_at "rd"
          refine ⟨decide_eq_decide.mpr ⟨fun h8 => .inr ⟨by omega, h7, h8⟩, fun h8 => ?_⟩, rfl⟩
          rcases h8 with h8 | h8
          · exact absurd h8 h5
          · exact h8.2.2
        · walk_at "rd"
          exact ⟨(decide_eq_false (by rintro (h8 | h8); exact h5 h8; exact h7 h8.2.1)).symm, rfl⟩
      · walk_at "rd"
        exact ⟨(decide_eq_false (by rintro (h8 | h8); exact h5 h8; exact h6 (by omega))).symm, rfl⟩
    have hpr : 0 < i → (prs ns).getD (i - 1) (0, 0) = (gi ns (2 * (i : Int) - 2), gi ns (2 * (i : Int) - 1)) := fun h0 => by
      rw [hpd (i - 1) (by omega), show 2 * ((i - 1 : Nat) : Int) = 2 * (i : Int) - 2 by omega, show 2 * (i : Int) - 2 + 1 = 2 * (i : Int) - 1 by omega]
    refine rif (fun h5 => ?_) fun h5 => ?_
    · walk_at "rd"
      refine bad (fun hok => ?_) _ o.ex
      have h6 := hok i (by rw [prs_len]; exact hi)
      rw [hpd i hi] at h6
      rcases h5 with h5 | h5
      · exact h6.1 h5
      · rw [hpr h5.1] at h6
        exact h6.2 ⟨h5.1, h5.2.2, h5.2.1.symm⟩
    have hnext : ∀ k, k < i + 1 → ((prs ns).getD k (0, 0)).1 ≠ 0 ∧ ¬ (0 < k ∧ ((prs ns).getD (k - 1) (0, 0)).1 < 255 ∧ ((prs ns).getD (k - 1) (0, 0)).2 = ((prs ns).getD k (0, 0)).2) := fun k hk => by
      by_cases e : k = i
      · subst e
        rw [hpd k hi]
        refine ⟨fun h6 => h5 (.inl h6), fun h6 => ?_⟩
        rw [hpr h6.1] at h6
        exact h5 (.inr ⟨h6.1, h6.2.2.symm, h6.2.1⟩)
      · exact hgd k (by omega)
    have e3 : unpk ((prs ns).take (i + 1)) = unpk ((prs ns).take i) ++ List.replicate (gi ns (2 * (i : Int))).toNat (gi ns (2 * (i : Int) + 1)) := by
      unfold unpk
      rw [List.take_add_one, hpg i hi, List.flatMap_append]
      simp
    have hul := hro (i + 1) fun k hk _ => hnext k hk
    rw [e3, List.length_append, List.length_replicate] at hul
    walk_at "rd"
    refine r_newL o (Nat.le_of_ble_eq_true rfl) fun p2 H2 o2 => ?_
    have hS2 := o2.old hS
    walk_at "rd"
    refine r_rep (n := (gi ns (2 * (i : Int))).toNat) o2 (o2.at 0 rfl) rfl (by omega) (by omega) fun p3 H3 s3 o3 => ?_
    refine ⟨_, _, _, _, rfl, rfl, o3.at 2 rfl, o3.at 0 rfl, le_line (by rw [List.length_map, List.length_replicate]; omega), fun p4 hp4 => ?_⟩
    have o4 := o3.new (u := .lst ((unpk ((prs ns).take i)).map V.int ++ List.replicate (gi ns (2 * (i : Int))).toNat (V.int (gi ns (2 * (i : Int) + 1))))) hp4
    generalize upd H3 p4 (.lst ((unpk ((prs ns).take i)).map V.int ++ List.replicate (gi ns (2 * (i : Int))).toNat (V.int (gi ns (2 * (i : Int) + 1))))) = H4 at *
    walk_at "rd"
    refine ⟨p4, _, rfl, ?_, hnext⟩
    rw [e3, List.map_append, List.map_replicate]
    exact o4.pick1 0 rfl
  · rintro σ' H' ⟨p, v8, rfl, o, hgd⟩
    rw [List.take_of_length_le (by rw [prs_len]; omega)] at o
    walk_at "rd"
    exact (good fun k hk => hgd k (by rw [prs_len] at hk; exact hk)).mk o 0 rfl
end

/-! ### t[::-1], t a tuple -/
theorem fm_congr {α β : Type} {f g : α → Option β} : ∀ {l : List α}, (∀ x ∈ l, f x = g x) → l.filterMap f = l.filterMap g
  | [], _ => rfl
  | x :: l, h => by
    rw [List.filterMap_cons, List.filterMap_cons, h x List.mem_cons_self, fm_congr fun y hy => h y (List.mem_cons_of_mem _ hy)]
section
variable {prog : Program} {w : World} {A : Around} {E : Value → Shared → Prop} {s : Shared}
theorem adj_rev (n : Nat) : Builtin.Slice.sliceAdjust none none (-1) (n : Int) = ((n : Int) - 1, -1) := rfl
theorem plc_rev (n : Nat) : Builtin.Slice.slicePlaces ((n : Int) - 1) (-1) (-1) = n := by
  unfold Builtin.Slice.slicePlaces
  have h1 : ¬ ((-1 : Int) > 0) := by omega
  simp only [h1, if_false]
  rw [show (-(-1) : Int) = 1 by rfl, Int.ediv_one]
  split <;> omega
theorem sliceApplied_rev {sl : Addr} {vl vu vs : Value} {n : Nat} {Q : Int × Int × Nat → Shared → Prop} (hs : s.heap.IsSliceOf sl vl vu vs) (pl : IsPart vl none) (pu : IsPart vu none) (ps : IsPart vs (some (-1)))
    (h : Q ((n : Int) - 1, -1, n) s) : wpAny (model prog w) A (Builtin.Slice.sliceApplied (.ref sl) (pure (n : Int))) Q E s := by
  obtain ⟨os, hos, hcs, hds⟩ := id hs
  unfold Builtin.Slice.sliceApplied Builtin.Slice.sliceFields
  refine wpAny_bind (wpAny_bind (wpAny_field hos hds (x := vl) rfl (wpAny_bind (wpAny_field hos hds (x := vu) rfl (wpAny_bind (wpAny_field hos hds (x := vs) rfl (wpAny_pure ?_)))))))
  refine wpAny_bind (HT.slicePart_ ps ?_)
  show wpAny _ _ (if ((-1 : Int) == 0) = true then _ else _) _ _ s
  rw [if_neg (by decide)]
  refine wpAny_bind (HT.slicePart_ pl (wpAny_bind (HT.slicePart_ pu (wpAny_bind (wpAny_pure ?_)))))
  show wpAny _ _ (match Builtin.Slice.sliceAdjust none none (-1) (n : Int) with | (lo, hi) => pure (lo, (-1 : Int), Builtin.Slice.slicePlaces lo hi (-1))) _ _ s
  rw [adj_rev]
  show wpAny _ _ (pure ((n : Int) - 1, (-1 : Int), Builtin.Slice.slicePlaces ((n : Int) - 1) (-1) (-1))) _ _ s
  rw [plc_rev]
  exact wpAny_pure h
theorem pick_rev (xs : Array Value) : ((List.range xs.size).filterMap fun (m : Nat) => xs[(((xs.size : Int) - 1) + (m : Int) * (-1)).toNat]?).toArray = xs.toList.reverse.toArray := by
  congr 1
  have e : (List.range xs.size).filterMap (fun (m : Nat) => xs[(((xs.size : Int) - 1) + (m : Int) * (-1)).toNat]?) = (List.range xs.size).filterMap fun m => xs.toList.reverse[m]? := by
    refine fm_congr fun m hm => ?_
    have hm := List.mem_range.mp hm
    rw [List.getElem?_reverse (by rw [Array.length_toList]; exact hm), Array.length_toList, show (((xs.size : Int) - 1) + (m : Int) * (-1)).toNat = xs.size - 1 - m by omega, Array.getElem?_toList]
  rw [e]
  have h : ∀ L : List Value, (List.range L.length).filterMap (fun m => L[m]?) = L := by
    intro L
    have h2 := range_pick L (fun x => x)
    simpa using h2
  have h3 := h xs.toList.reverse
  rw [List.length_reverse, Array.length_toList] at h3
  exact h3
theorem getItem_tuple_rev {t sl : Addr} {items : Array Value} {vl vu vs : Value} {Q : Value → Shared → Prop} (ht : IsTup s.heap t items) (hs : s.heap.IsSliceOf sl vl vu vs) (pl : IsPart vl none) (pu : IsPart vu none) (ps : IsPart vs (some (-1)))
    (h : Q (.ref s.heap.objs.size) { s with heap := s.heap.push { cls := .type "tuple", data := .seq items.toList.reverse.toArray } })
    (hsz : items.size ≤ sizeLine) : wpAny (model prog w) A (getItem (.ref t) (.ref sl)) Q E s := by
  have htake : sizeOk (.seq items.toList.reverse.toArray) := by
    show items.toList.reverse.toArray.size ≤ sizeLine
    rw [List.size_toArray, List.length_reverse, Array.length_toList]
    exact hsz
  obtain ⟨os, hos, hcs, hds⟩ := id hs
  have hTs : s.TypeIs (.ref sl) "slice" := ⟨os, hos, hcs⟩
  unfold getItem
  try with_reducible refine wpAny_holding ?_
  first | refine wpAny_bind (wpAny_pure ?_) | skip
  refine wpAny_bind (wpAny_sequenceKey ht.typeIs (by decide) ?_)
  refine wpAny_bind (wpAny_callSpecial?_slot (name := Str.ofString "__getitem__") ht.typeIs PyProof.Rows.slot_tuple_getitem
    (wpAny_call_entry PyProof.Rows.slot_tuple_getitem ht.typeIs entry_tuple_getitem ?_ (args_tuple_getitem _ _)))
  show wpAny _ _ (Builtin.Tuple.tupleItemsOf (.ref t) >>= _) _ _ s
  refine wpAny_bind (tupleItemsOf_ ht ?_)
  refine wpAny_bind (wpAny_typeOf hTs ?_)
  rw [if_pos (by decide)]
  refine wpAny_bind (sliceApplied_rev hs pl pu ps ?_)
  have hno : ¬ ((((items.size : Int) - 1) == 0 && (-1 : Int) == 1 && items.size == items.size) = true) := by
    intro q
    rw [Bool.and_eq_true, Bool.and_eq_true] at q
    exact absurd q.1.2 (by decide)
  show wpAny _ _ (if (((items.size : Int) - 1) == 0 && (-1 : Int) == 1 && items.size == items.size) = true then _ else _) _ _ s
  rw [if_neg hno, pick_rev]
  first
    | exact wpAny_bind (m := Builtin.Tuple.tupleExact _) (wpAny_newObj_type (wpAny_pure ⟨_, rfl, wpAny_pure h⟩) htake)
    | exact wpAny_bind (m := Builtin.Tuple.tupleExact _) (wpAny_newObj_type (wpAny_bind (wpAny_pure (wpAny_pure ⟨_, rfl, wpAny_pure h⟩))) htake)
    | exact wpAny_bind (wpAny_bind (m := Builtin.Tuple.tupleExact _) (wpAny_newObj_type (wpAny_pure (wpAny_pure ⟨_, rfl, wpAny_pure h⟩)) htake))
    | exact wpAny_bind (wpAny_bind (m := Builtin.Tuple.tupleExact _) (wpAny_newObj_type (wpAny_pure ⟨_, rfl, wpAny_pure h⟩) htake))
end
def tRevT (K : PySem.W.Frag) (te : TE) : TE := fun σ H Q => te σ H fun x H1 => ∃ a xs, x = .ref a ∧ SqT K H1 a xs ∧ ∀ p, H1 p = none → Q (.ref p) (upd H1 p (.tup xs.reverse))
theorem pe_revT {X : Cx} {e : Expr} {te : TE} {k : Nat} {p1 p2 p3 pos : Pos} (he : PE X e te) : PE X (.Subscript e (.Slice none none (some (.UnaryOp .USub (.Constant (.int 1) k p1) p2)) p3) pos) (tRevT X.K te) := by
  refine ⟨fun pins s σ H Q I h => ?_⟩
  refine Subscript_ (thn (he.run pins s σ H _ I h) fun v s1 ⟨x, H1, I1, r1, q1⟩ => ?_)
  obtain ⟨a, xs, ex, hx, q⟩ := q1
  subst ex
  cases r1
  have hst : PO X (some (.UnaryOp .USub (.Constant (.int 1) k p1) p2)) (tPart (tUn (rU fun i => .int (-i)) (tC (.int 1)))) := po_some (pe_un un_neg pe_int)
  refine wpAny_Slice (thn (po_none.run pins s1 σ H1 (fun o H2 => o = none ∧ H2 = H1) I1 ⟨rfl, rfl⟩) fun vl s2 ⟨l, H2, I2, pl, el, e2⟩ => ?_)
  subst el e2
  refine thn (po_none.run pins s2 σ H2 (fun o H3 => o = none ∧ H3 = H2) I2 ⟨rfl, rfl⟩) fun vu s3 ⟨u, H3, I3, pu, eu, e3⟩ => ?_
  subst eu e3
  refine thn (hst.run pins s3 σ H3 (fun o H4 => o = some (-1) ∧ H4 = H3) I3 ⟨1, rfl, -1, rfl, rfl, rfl⟩) fun vs s4 ⟨o, H4, I4, ps, eo, e4⟩ => ?_
  subst eo e4
  have I5 : Inv X pins σ H4 { s4 with heap := s4.heap.push { cls := .type "slice", data := .fields #[vl, vu, vs] } } := I4.kept (t' := s4.toks) fun b ob q => Heap.get?_push_of_some _ q
  obtain ⟨its, r, ht, hz⟩ := I5.tuple hx
  have hlen := r.length
  show wpAny (model X.prog X.w) X.A (subscriptTail e (.Slice none none (some (.UnaryOp .USub (.Constant (.int 1) k p1) p2)) p3) (.ref a) (.ref s4.heap.objs.size)) (EP X pins σ Q) X.xe { s4 with heap := s4.heap.push { cls := .type "slice", data := .fields #[vl, vu, vs] } }
  refine tail_any (ops := [.ref a, .ref s4.heap.objs.size]) ht.typeIs (PyProof.Rows.slot_tuple_getitem.lookup) ?_ (by with_unfolding_all rfl)
  refine getItem_tuple_rev ht (Heap.IsSliceOf.new _ vl vu vs) pl pu ps ?_ (by rw [List.size_toArray]; omega)
  refine ⟨.ref _, _, I5.laid (t' := s4.toks) (o := .tup xs.reverse) (fun b ob q => Heap.get?_push_of_some _ q) (Nat.le_refl _) ?_, rfl, q _ (I5.hok.fresh (Nat.le_refl _))⟩
  exact ⟨by rw [List.length_reverse]; exact hz, _, r.reverse, IsTup.new _ _⟩
theorem r_revT {K : PySem.W.Frag} {te : TE} {σ : L2.St} {H : Hp} {Q : VK} (q : te σ H fun x H1 => ∃ a xs, x = .ref a ∧ SqT K H1 a xs ∧ ∀ p, H1 p = none → Q (.ref p) (upd H1 p (.tup xs.reverse))) : tRevT K te σ H Q := q
/-- for k in range(j), where what comes behind is told first -/
theorem forR1b {σ : L2.St} {H : Hp} {j : Int} {D : Ends} {ts : TS} {n s : Nat} (hn : j = (n : Int)) (hb : j < 2 ^ 62) (Pv : Nat → L2.St → Hp → Prop) (R : L2.St → Hp → Prop) (h0 : Pv 0 σ H) (hR : ∀ σ H, R σ H → D.nx σ H)
    (hs : (∀ σ H, R σ H → D.nx σ H) → ∀ i σ H, i < n → Pv i σ H → ts { D with nx := Pv (i + 1), ct := Pv (i + 1), bk := D.nx } (σ.set s (some (.int (i : Int)))) H) (hd : ∀ σ H, Pv n σ H → R σ H) :
    ∃ k : Int, [V.int j] = [.int k] ∧ -(2 ^ 62) ≤ k ∧ k < 2 ^ 62 ∧ RFor (Itr 0 k.toNat) (gName s) ts D σ H := forR1 hn hb Pv h0 (hs hR) fun σ H p => hR σ H (hd σ H p)

/-! ### the law's own reading -/
theorem rdL_short {f : Nat} : ∀ {c : Int} {s : List Int}, (s.length : Int) < c → rdL rdB f c s = none := by
  induction f with
  | zero => intro c s h; unfold rdL; rw [if_neg (by omega)]
  | succ f ih =>
    intro c s h
    cases h1 : rdB s with
    | none => exact rdL_none (by omega) h1
    | some p =>
      have hk := rdB_ok s p.1 p.2 h1
      rw [rdL_some (x := p.1) (k := p.2) (by omega) h1, ih (by rw [List.length_drop]; omega)]
      rfl
def rbV (c : List Int) : Option (List Int) := (rdLs rdB c).bind fun p => if p.2 < c.length then none else some p.1
section
variable {P : Program} {w : World} {K : PySem.W.Frag} {mg : Str → Option Value} {base : Heap}
def sp_rdb (K : PySem.W.Frag) : Sp := fun vs H Q _ => ∃ (a : Addr) (c : List Int), vs = [.ref a] ∧ SqL K H a (c.map V.int) ∧ (∀ x ∈ c, 0 ≤ x ∧ x < 256) ∧ c.length ≤ 5000 ∧ (∀ xs, rbV c = some xs → RetO H Q (.lst (xs.map V.int))) ∧ (rbV c = none → RetV H Q .non)
theorem d_rdb (T : Top K mg) : Def P w K mg base CX0 1 "_law_read_bytes" ["content"] (sp_rdb K) := by
  refine T.f__law_read_bytes.ok sc__law_read_bytes (by rintro vs H Q E ⟨a, c, rfl, _⟩; rfl) (fun f cdv A outer s H vs Q E hr h => ?_)
  obtain ⟨a, c, rfl, hS, hB, hl, q, qn⟩ := h
  have hgb : ∀ i : Nat, i < c.length → 0 ≤ gi c (i : Int) ∧ gi c (i : Int) < 256 := fun i hi => by rw [gi_nat hi]; exact hB _ (List.getElem_mem hi)
  have hdc : ∀ i : Nat, i < c.length → c.drop i = gi c (i : Int) :: c.drop (i + 1) := fun i hi => by rw [gi_nat hi]; exact List.drop_eq_getElem_cons hi
  refine ⟨_, (pss_cons (ps_set (i := 1) sc__law_read_bytes.nd rfl (Or.inl rfl) pe_int)
      (pss_cons (ps_set (i := 2) sc__law_read_bytes.nd rfl (Or.inl rfl) pe_int)
      (pss_cons (ps_set (i := 3) sc__law_read_bytes.nd rfl (Or.inl rfl) pe_int)
      (pss_cons (ps_for PassesOwn.never rfl (pi_range1 (by rfl) T.b_range (pa_cons (pe_callB (r := Evl.rLenS K) call_len_seq (by rfl) T.b_len (by decide +kernel) (pa_cons (pv 0) pa_nil)) pa_nil)) (pg_name (i := 4) sc__law_read_bytes.nd rfl (Or.inl rfl)) (pss_cons (ps_if (pt_cutT (PW.pt (pw_or (pt_cmpR op_ge (pv 3) (pe_callB (r := Evl.rLenS K) call_len_seq (by rfl) T.b_len (by decide +kernel) (pa_cons (pv 0) pa_nil)) (nomark _)) (pw_or1 (pt_cmpR op_gt (pe_ix (r := rIxL K) ix_list (pv 0) (pv 3) (fun _ _ => rfl)) pe_int (nomark _)))))) (pss_one (ps_ret pe_non)) pss_nil)
      (pss_cons (ps_if (pt_cmpR op_lt (pe_ix (r := rIxL K) ix_list (pv 0) (pv 3) (fun _ _ => rfl)) pe_int (nomark _)) (pss_one ps_break) pss_nil)
      (pss_cons (ps_set (i := 1) sc__law_read_bytes.nd rfl (Or.inl rfl) (pe_op op_add (pv 1) (pe_op op_mul (pv 2) (pe_op op_sub (pe_ix (r := rIxL K) ix_list (pv 0) (pv 3) (fun _ _ => rfl)) pe_int))))
      (pss_cons (ps_set (i := 2) sc__law_read_bytes.nd rfl (Or.inl rfl) (pe_op op_mul (pv 2) pe_int))
      (pss_one (ps_set (i := 3) sc__law_read_bytes.nd rfl (Or.inl rfl) (pe_op op_add (pv 3) pe_int))))))))
      (pss_cons (ps_if (pt_cutT (PW.pt (pw_or (pt_cmpR op_ge (pv 3) (pe_callB (r := Evl.rLenS K) call_len_seq (by rfl) T.b_len (by decide +kernel) (pa_cons (pv 0) pa_nil)) (nomark _)) (pw_or (pt_cmpR op_gt (pe_ix (r := rIxL K) ix_list (pv 0) (pv 3) (fun _ _ => rfl)) pe_int (nomark _)) (pw_or1 (PW.pt (pw_and (pt_cmpR op_eq (pe_ix (r := rIxL K) ix_list (pv 0) (pv 3) (fun _ _ => rfl)) pe_int (nomark _)) (pw_and1 (pt_cmpR op_gt (pv 3) pe_int (nomark _)))))))))) (pss_one (ps_ret pe_non)) pss_nil)
      (pss_cons (ps_set (i := 1) sc__law_read_bytes.nd rfl (Or.inl rfl) (pe_op op_add (pv 1) (pe_op op_mul (pv 2) (pe_ix (r := rIxL K) ix_list (pv 0) (pv 3) (fun _ _ => rfl)))))
      (pss_cons (ps_set (i := 3) sc__law_read_bytes.nd rfl (Or.inl rfl) (pe_op op_add (pv 3) pe_int))
      (pss_cons (ps_set (i := 5) sc__law_read_bytes.nd rfl (Or.inl rfl) (pe_lst pa_nil))
      (pss_cons (ps_if (pt_cmpR op_gt (pv 1) (pe_callB (r := Evl.rLenS K) call_len_seq (by rfl) T.b_len (by decide +kernel) (pa_cons (pv 0) pa_nil)) (nomark _)) (pss_one (ps_ret pe_non)) pss_nil)
      (pss_cons (ps_for PassesOwn.never rfl (pi_range1 (by rfl) T.b_range (pa_cons (pv 1) pa_nil)) (pg_name (i := 4) sc__law_read_bytes.nd rfl (Or.inl rfl)) (pss_cons (ps_if (pt_cutT (PW.pt (pw_or (pt_cmpR op_ge (pv 3) (pe_callB (r := Evl.rLenS K) call_len_seq (by rfl) T.b_len (by decide +kernel) (pa_cons (pv 0) pa_nil)) (nomark _)) (pw_or1 (pt_cmpR op_gt (pe_ix (r := rIxL K) ix_list (pv 0) (pv 3) (fun _ _ => rfl)) pe_int (nomark _)))))) (pss_one (ps_ret pe_non)) pss_nil)
      (pss_cons (ps_set (i := 6) sc__law_read_bytes.nd rfl (Or.inl rfl) (pe_ix (r := rIxL K) ix_list (pv 0) (pv 3) (fun _ _ => rfl)))
      (pss_cons (ps_set (i := 3) sc__law_read_bytes.nd rfl (Or.inl rfl) (pe_op op_add (pv 3) pe_int))
      (Evl.pss_cut (ps_if (pt_cmpR op_eq (pv 6) pe_int (nomark _)) (pss_cons (ps_if (pt_cutT (PW.pt (pw_or (pt_cmpR op_ge (pv 3) (pe_callB (r := Evl.rLenS K) call_len_seq (by rfl) T.b_len (by decide +kernel) (pa_cons (pv 0) pa_nil)) (nomark _)) (pw_or1 (pt_cmpR op_gt (pe_ix (r := rIxL K) ix_list (pv 0) (pv 3) (fun _ _ => rfl)) pe_int (nomark _)))))) (pss_one (ps_ret pe_non)) pss_nil)
      (pss_cons (ps_set (i := 6) sc__law_read_bytes.nd rfl (Or.inl rfl) (pe_op op_add (pv 6) (pe_ix (r := rIxL K) ix_list (pv 0) (pv 3) (fun _ _ => rfl))))
      (pss_one (ps_set (i := 3) sc__law_read_bytes.nd rfl (Or.inl rfl) (pe_op op_add (pv 3) pe_int))))) pss_nil)
      (pss_one (ps_expr (pe_bm PySem.F.plainAttrs_list PySem.F.slot_list_append PySem.F.type_list_append mt_append (pv 5) (pa_cons (pv 6) pa_nil)))))))))
      (pss_one (ps_ret (pe_cutE (pe_ifExp (pt_cmpR op_eq (pv 3) (pe_callB (r := Evl.rLenS K) call_len_seq (by rfl) T.b_len (by decide +kernel) (pa_cons (pv 0) pa_nil)) (nomark _)) (pv 5) pe_non)))))))))))))), ?_⟩
  walk_at "rd"
  refine forR1b (n := c.length) (by rw [List.length_map]) (by rw [List.length_map]; omega) (fun k σ' H' => H' = H ∧ ∃ (x wt : Int) (v4 : Option V), σ' = [some (.ref a), some (.int x), some (.int wt), some (.int (k : Int)), v4, none, none] ∧ 0 ≤ x ∧ 0 ≤ wt ∧
    rdN c true = (rdN (c.drop k) (decide (k = 0))).map fun p => (x + wt * p.1, p.2 + k))
    (fun σ' H' => H' = H ∧ ∃ (x wt : Int) (at_ : Nat) (v4 : Option V), σ' = [some (.ref a), some (.int x), some (.int wt), some (.int (at_ : Int)), v4, none, none] ∧ 0 ≤ x ∧ 0 ≤ wt ∧ at_ ≤ c.length ∧ (at_ < c.length → gi c (at_ : Int) < 125) ∧
    rdN c true = (rdN (c.drop at_) (decide (at_ = 0))).map fun p => (x + wt * p.1, p.2 + at_)) ⟨rfl, 0, 1, _, rfl, by decide, by decide, ?_⟩ ?_ ?_ ?_
  · rw [List.drop_zero, decide_eq_true rfl]
    cases rdN c true with
    | none => rfl
    | some p => show some p = some ((0 : Int) + 1 * p.1, p.2 + 0); rw [Int.zero_add, Int.one_mul, Nat.add_zero]
  · rintro σ' H' ⟨rfl, x, wt, at_, v4, rfl, hx0, hw0, hat, hlt, hr2⟩
    have tot : rdLs rdB c = (rdN c true).bind fun p => (rdL rdB (c.length + 1) p.1 (c.drop p.2)).map fun q => (q.1, p.2 + q.2) := rfl
    have hcons : ∀ (f : Bool), at_ < c.length → rdN (c.drop at_) f = if gi c (at_ : Int) = 0 ∧ f = false then none else some (gi c (at_ : Int), 1) := fun f h => by
      rw [hdc at_ h]
      show (if gi c (at_ : Int) < 125 then _ else _) = _
      rw [if_pos (hlt h)]
    walk_at "rd"
    refine r_cutB (decide (c.length ≤ at_ ∨ (gi c (at_ : Int) = 0 ∧ 0 < at_))) ?_ ?_
    · walk_at "rd"
      rw [List.length_map]
      refine rif (fun h1 => ?_) fun h1 => ?_
      · walk_at "rd"
        exact ⟨(decide_eq_true (.inl (by omega))).symm, rfl⟩
      have g := hgb at_ (by omega)
      have g2 := hlt (by omega)
      walk_at "rd"
      refine rif (fun h2 => by omega) fun h2 => ?_
      walk_at "rd"
      refine rif (fun h3 => ?_) fun h3 => ?_
      · walk_at "rd"
        refine ⟨decide_eq_decide.mpr ⟨fun h => .inr ⟨h3, by omega⟩, fun h => ?_⟩, rfl⟩
        rcases h with h | h
        · omega
        · omega
      · walk_at "rd"
        exact ⟨(decide_eq_false (by rintro (h | h); omega; exact h3 h.1)).symm, rfl⟩
    refine rif (fun h1 => ?_) fun h1 => ?_
    · walk_at "rd"
      refine qn ?_ _ (Same.refl _)
      have e : rdN c true = none := by
        rw [hr2]
        by_cases h2 : at_ < c.length
        · rw [hcons _ h2, if_pos]
          · rfl
          · rcases h1 with h1 | h1
            · omega
            · exact ⟨h1.1, decide_eq_false (by omega)⟩
        · rw [List.drop_of_length_le (by omega)]
          rfl
      unfold rbV
      rw [tot, e]
      rfl
    have hat2 : at_ < c.length := Nat.lt_of_not_le fun h => h1 (.inl h)
    have g := hgb at_ hat2
    have g2 := hlt hat2
    have hc0 : 0 ≤ x + wt * gi c (at_ : Int) := Int.add_nonneg hx0 (Int.mul_nonneg hw0 g.1)
    have e : rdN c true = some (x + wt * gi c (at_ : Int), 1 + at_) := by
      rw [hr2, hcons _ hat2, if_neg]
      · rfl
      · rintro ⟨h3, h4⟩
        have h4 := of_decide_eq_false h4
        exact h1 (.inr ⟨h3, by omega⟩)
    rw [e] at tot
    have tot : rdLs rdB c = (rdL rdB (c.length + 1) (x + wt * gi c (at_ : Int)) (c.drop (1 + at_))).map fun q => (q.1, 1 + at_ + q.2) := tot
    walk_at "rd"
    generalize x + wt * gi c (at_ : Int) = cnt at *
    refine r_newL (Own.nil H') (Nat.zero_le _) fun p1 H1 o1 => ?_
    have hS1 := o1.old hS
    walk_at "rd"
    rw [List.length_map]
    refine rif (fun h3 => ?_) fun h3 => ?_
    · walk_at "rd"
      refine qn ?_ _ o1.ex
      unfold rbV
      rw [tot, rdL_short (by rw [List.length_drop]; omega)]
      rfl
    walk_at "rd"
    refine forR1 (n := cnt.toNat) (by omega) (by omega) (fun k σ' H2 => ∃ (xs : List Int) (b g : Nat) (v4 v6 : Option V) (L : List (Addr × HO)), σ' = [some (.ref a), some (.int cnt), some (.int wt), some (.int (b : Int)), v4, some (.ref p1), v6] ∧ b ≤ c.length ∧ c.length - b < g ∧ xs.length = k ∧
      rdLs rdB c = ((rdL rdB g (cnt - (k : Int)) (c.drop b)).map fun q => (xs ++ q.1, b + q.2)) ∧ Own H' H2 ((p1, .lst (xs.map V.int)) :: L)) ?_ ?_ ?_
    · refine ⟨[], 1 + at_, c.length + 1, _, _, _, (by rw [show ((1 + at_ : Nat) : Int) = (at_ : Int) + 1 by omega]; rfl), by omega, by omega, rfl, ?_, o1⟩
      rw [tot, show cnt - ((0 : Nat) : Int) = cnt by omega]
      rfl
    · rintro k σ' H2 hk ⟨xs, b, gg, v4', v6, L, rfl, hb, hgg, hxl, ht, o⟩
      obtain ⟨gg, rfl⟩ : ∃ g2, gg = g2 + 1 := ⟨gg - 1, by omega⟩
      have hS2 := o.old hS
      have none_ : rdB (c.drop b) = none → rbV c = none := fun h => by
        unfold rbV
        rw [ht, rdL_none (by omega) h]
        rfl
      walk_at "rd"
      refine r_cutB (decide (c.length ≤ b ∨ 249 < gi c (b : Int))) ?_ ?_
      · walk_at "rd"
        rw [List.length_map]
        refine rif (fun h4 => ?_) fun h4 => ?_
        · walk_at "rd"
          exact ⟨(decide_eq_true (.inl (by omega))).symm, rfl⟩
        have g4 := hgb b (by omega)
        walk_at "rd"
        refine ⟨?_, rfl⟩
        rw [decide_eq_decide]
        exact ⟨fun h => .inr h, fun h => h.resolve_left (by omega)⟩
      refine rif (fun h4 => ?_) fun h4 => ?_
      · walk_at "rd"
        refine qn (none_ ?_) _ o.ex
        by_cases h5 : b < c.length
        · rw [hdc b h5]
          have h6 := h4.resolve_left (by omega)
          show (if gi c (b : Int) > 249 then none else _) = _
          rw [if_pos (by omega)]
        · rw [List.drop_of_length_le (by omega)]
          rfl
      have h49 : gi c (b : Int) ≤ 249 := Int.not_lt.mp fun h => h4 (.inr h)
      have h4 : ¬ c.length ≤ b := fun h => h4 (.inl h)
      have hb4 : b < c.length := by omega
      have g4 := hgb b hb4
      have hd4 := hdc b hb4
      walk_at "rd"
      refine ⟨fun σ' H3 => ∃ (v : Int) (k2 : Nat), σ' = [some (.ref a), some (.int cnt), some (.int wt), some (.int ((b + k2 : Nat) : Int)), some (.int (k : Int)), some (.ref p1), some (.int v)] ∧ H3 = H2 ∧ rdB (c.drop b) = some (v, k2), ?_, ?_⟩
      · walk_at "rd"
        refine rif (fun h5 => ?_) fun h5 => ?_
        · walk_at "rd"
          refine r_cutB (decide (c.length ≤ b + 1 ∨ 6 < gi c ((b + 1 : Nat) : Int))) ?_ ?_
          · walk_at "rd"
            rw [List.length_map]
            refine rif (fun h6 => ?_) fun h6 => ?_
            · walk_at "rd"
              exact ⟨(decide_eq_true (.inl (by omega))).symm, rfl⟩
            have g6 := hgb (b + 1) (by omega)
            walk_at "rd"
            refine ⟨decide_eq_decide.mpr ⟨fun h => .inr (by rw [show ((b + 1 : Nat) : Int) = (b : Int) + 1 by omega]; exact h), fun h => ?_⟩, rfl⟩
            rcases h with h | h
            · omega
            · rw [show ((b + 1 : Nat) : Int) = (b : Int) + 1 by omega] at h; exact h
          refine rif (fun h6 => ?_) fun h6 => ?_
          · walk_at "rd"
            refine qn (none_ ?_) _ o.ex
            rw [hd4, h5]
            show (if (249 : Int) > 249 then none else if (249 : Int) < 249 then some ((249 : Int), 1) else match c.drop (b + 1) with
              | [] => none
              | y :: _ => if y ≤ 6 then some (249 + y, 2) else none) = none
            rw [if_neg (by decide), if_neg (by decide)]
            by_cases h7 : b + 1 < c.length
            · rw [hdc (b + 1) h7]
              dsimp only
              rw [if_neg (by omega)]
            · rw [List.drop_of_length_le (by omega)]
          have h7 : b + 1 < c.length := Nat.lt_of_not_le fun h => h6 (.inl h)
          have g7 := hgb (b + 1) h7
          have e7 : gi c ((b : Int) + 1) = gi c ((b + 1 : Nat) : Int) := by rw [show ((b + 1 : Nat) : Int) = (b : Int) + 1 by omega]
          walk_at "rd"
          refine ⟨249 + gi c ((b + 1 : Nat) : Int), 2, ?_, rfl, ?_⟩
          · rw [e7, h5, show ((b + 2 : Nat) : Int) = (b : Int) + 1 + 1 by omega]
            rfl
          · rw [hd4, h5]
            show (if (249 : Int) > 249 then none else if (249 : Int) < 249 then some ((249 : Int), 1) else match c.drop (b + 1) with
              | [] => none
              | y :: _ => if y ≤ 6 then some (249 + y, 2) else none) = _
            rw [if_neg (by decide), if_neg (by decide), hdc (b + 1) h7]
            dsimp only
            rw [if_pos (by omega)]
        · walk_at "rd"
          refine ⟨gi c (b : Int), 1, ?_, rfl, ?_⟩
          · rw [show ((b + 1 : Nat) : Int) = (b : Int) + 1 by omega]
            rfl
          · rw [hd4]
            show (if gi c (b : Int) > 249 then none else if gi c (b : Int) < 249 then some (gi c (b : Int), 1) else _) = _
            rw [if_neg (by omega), if_pos (by omega)]
      rintro σ' H3 ⟨v, k2, rfl, rfl, hv⟩
      have hk2 := rdB_ok _ _ _ hv
      rw [List.length_drop] at hk2
      walk_at "rd"
      refine r_app o 0 rfl (by rw [List.length_map]; omega) fun H4 o4 => ?_
      refine ⟨xs ++ [v], b + k2, gg, _, _, L, rfl, by omega, by omega, by rw [List.length_append, hxl]; rfl, ?_, by rw [List.map_append]; exact o4⟩
      rw [ht, rdL_some (by omega) hv, List.drop_drop, Option.map_map, show cnt - ((k + 1 : Nat) : Int) = cnt - (k : Int) - 1 by omega]
      congr 1
      funext q2
      show (xs ++ (v :: q2.1), b + (k2 + q2.2)) = (xs ++ [v] ++ q2.1, b + k2 + q2.2)
      rw [List.append_assoc, Nat.add_assoc]
      rfl
    · rintro σ' H2 ⟨xs, b, gg, v4', v6, L, rfl, hb, hgg, hxl, ht, o⟩
      have hS2 := o.old hS
      rw [rdL_0 _ (by omega)] at ht
      have ht : rdLs rdB c = some (xs ++ [], b + 0) := ht
      rw [List.append_nil, Nat.add_zero] at ht
      walk_at "rd"
      refine r_cutE _ ?_ fun _ _ h => h
      walk_at "rd"
      rw [List.length_map]
      have erb : rbV c = if b < c.length then none else some xs := by unfold rbV; rw [ht]; rfl
      refine rif (fun h5 => ?_) fun h5 => ?_
      · walk_at "rd"
        exact (q xs (by rw [erb, if_neg (by omega)])).mk o 0 rfl
      · walk_at "rd"
        exact qn (by rw [erb, if_pos (by omega)]) _ o.ex
  · rintro hR k σ' H' hk ⟨rfl, x, wt, v4, rfl, hx0, hw0, hr2⟩
    have g := hgb k hk
    walk_at "rd"
    refine r_cutB (decide (249 < gi c (k : Int))) ?_ ?_
    · walk_at "rd"
      rw [List.length_map]
      refine rif (fun h4 => by omega) fun h4 => ?_
      walk_at "rd"
      exact ⟨rfl, rfl⟩
    refine rif (fun h0 => ?_) fun h0 => ?_
    · walk_at "rd"
      refine qn ?_ _ (Same.refl _)
      have e : rdN c true = none := by
        rw [hr2, hdc k hk]
        show ((if gi c (k : Int) < 125 then _ else if gi c (k : Int) > 249 then none else _) : Option (Int × Nat)).map _ = none
        rw [if_neg (by omega), if_pos (by omega)]
        rfl
      unfold rbV rdLs
      rw [e]
      rfl
    walk_at "rd"
    refine rif (fun h4 => ?_) fun h4 => ?_
    · walk_at "rd"
      exact hR _ _ ⟨rfl, x, wt, k, _, rfl, hx0, hw0, by omega, fun _ => h4, hr2⟩
    · walk_at "rd"
      refine ⟨rfl, x + wt * (gi c (k : Int) - 125), wt * 125, _, rfl, Int.add_nonneg hx0 (Int.mul_nonneg hw0 (by omega)), by omega, ?_⟩
      rw [hr2, hdc k hk]
      show ((if gi c (k : Int) < 125 then _ else if gi c (k : Int) > 249 then none else (rdN (c.drop (k + 1)) false).map fun p => (gi c (k : Int) - 125 + 125 * p.1, p.2 + 1)) : Option (Int × Nat)).map _ = _
      rw [if_neg h4, if_neg (by omega), decide_eq_false (show ¬ k + 1 = 0 by omega), Option.map_map]
      congr 1
      funext p
      show (x + wt * (gi c (k : Int) - 125 + 125 * p.1), p.2 + 1 + k) = (x + wt * (gi c (k : Int) - 125) + wt * 125 * p.1, p.2 + (k + 1))
      rw [Int.mul_add, ← Int.add_assoc, ← Int.mul_assoc, Nat.add_assoc, Nat.add_comm 1 k]
  · rintro σ' H' ⟨rfl, x, wt, v4, rfl, hx0, hw0, hr2⟩
    exact ⟨rfl, x, wt, c.length, v4, rfl, hx0, hw0, Nat.le_refl _, fun h => absurd h (Nat.lt_irrefl _), hr2⟩
def sp_loaded (K : PySem.W.Frag) : Sp := fun vs H Q _ => ∃ (z : Str) (a : Addr) (zs : List Int) (n : Nat), vs = [.str z, .ref a] ∧ z ∈ KS ∧ SqL K H a (zs.map V.int) ∧ n ≤ 5000 ∧ zs.length = n * kN z ∧ By zs ∧ RetO H Q (.lst ((ldV z zs n).map V.int))
theorem d_loaded (T : Top K mg) : Def P w K mg base CX0 2 "_law_loaded" ["kind", "stored"] (sp_loaded K) := by
  have G__law_high : Def P w K mg base CX0 1 "_law_high" ["kind"] (sp_kV kHigh) := d_high T
  refine T.f__law_loaded.ok sc__law_loaded (by rintro vs H Q E ⟨z, a, zs, n, rfl, _⟩; rfl) (fun f cdv A outer s H vs Q E hr h => ?_)
  obtain ⟨z, a, zs, n, rfl, hz, hS, hn, hl, hby, q⟩ := h
  obtain ⟨hw, hc1, hc, _, _, hkw⟩ := k_abs z hz
  have hw4 : kN z ≤ 4 ∧ 1 ≤ kN z := by rcases hw with h | h | h <;> omega
  refine ⟨_, (pss_cons (ps_set (i := 2) sc__law_loaded.nd rfl (Or.inl rfl) (pe_dget (Nat.lt_of_le_of_lt (Nat.add_le_add_left (by decide) _) hr.units) (pe_disp (pps_cons pe_str pe_int (pps_cons pe_str pe_int (pps_cons pe_str pe_int pps_nil))) (by rfl) (by rfl) (fun z => by cases z) (by decide)) (pe_ix ix_str (pv 0) pe_int (fun _ _ => rfl)) (fun _ _ => rfl)))
      (pss_cons (ps_set (i := 3) sc__law_loaded.nd rfl (Or.inl rfl) (pe_lst pa_nil))
      (pss_cons (ps_for PassesOwn.never rfl (pi_range3 (by rfl) T.b_range (pa_cons pe_int (pa_cons (pe_callB (r := Evl.rLenS K) call_len_seq (by rfl) T.b_len (by decide +kernel) (pa_cons (pv 1) pa_nil)) (pa_cons (pv 2) pa_nil)))) (pg_name (i := 4) sc__law_loaded.nd rfl (Or.inl rfl)) (pss_cons (ps_set (i := 5) sc__law_loaded.nd rfl (Or.inl rfl) pe_int)
      (pss_cons (ps_for PassesOwn.never rfl (pi_range1 (by rfl) T.b_range (pa_cons (pv 2) pa_nil)) (pg_name (i := 6) sc__law_loaded.nd rfl (Or.inl rfl)) (pss_one (ps_set (i := 5) sc__law_loaded.nd rfl (Or.inl rfl) (pe_op op_add (pe_op op_mul (pv 5) pe_int) (pe_ix (r := rIxL K) ix_list (pv 1) (pe_op op_sub (pe_op op_sub (pe_op op_add (pv 4) (pv 2)) pe_int) (pv 6)) (fun _ _ => rfl))))))
      (Evl.pss_cut (ps_if (pt_cmpR op_gt (pv 5) (pe_callD G__law_high (hr.mono (by decide)) (pa_cons (pv 0) pa_nil)) (nomark _)) (pss_one (ps_set (i := 5) sc__law_loaded.nd rfl (Or.inl rfl) (pe_op op_sub (pv 5) (pe_dget (Nat.lt_of_le_of_lt (Nat.add_le_add_left (by decide) _) hr.units) (pe_disp (pps_cons pe_int pe_int (pps_cons pe_int pe_int (pps_cons pe_int pe_int pps_nil))) (by rfl) (by rfl) (fun z => by cases z) (by decide)) (pv 2) (fun _ _ => rfl))))) pss_nil)
      (pss_one (ps_expr (pe_bm PySem.F.plainAttrs_list PySem.F.slot_list_append PySem.F.type_list_append mt_append (pv 3) (pa_cons (pv 5) pa_nil))))))))
      (pss_one (ps_ret (pv 3)))))), ?_⟩
  walk_at "rd"
  refine r_dget ?_
  refine r_disp (kvI SIZES) (Own.nil H) ?h (by decide) fun p6 H6 o6 => ?_
  case h =>
    intro _ _ r
    repeat (refine r_pp ?_; walk_at "rd")
    exact r_pn r
  walk_at "rd"
  refine ⟨z, 1, _, rfl, rfl, sz100 (by rw [k_len z hz]; decide), k_at1 z hz, ?_⟩
  refine ⟨_, _, rfl, .inl ⟨_, .inr ⟨#[z.cps.getD 1 0]⟩, .inl (o6.at 0 rfl), rfl, (size_get hz).symm⟩, ?_⟩
  walk_at "rd"
  refine r_newL o6 (Nat.zero_le _) fun p1 H1 o1 => ?_
  have hS1 := o1.old hS
  walk_at "rd"
  rw [List.length_map, hl]
  refine forR3 (rgc_mul hw (by omega)) (fun i σ' H' => ∃ (v4 v5 v6 : Option V), σ' = [some (.str z), some (.ref a), some (.int (kN z)), some (.ref p1), v4, v5, v6] ∧ Own H H' [(p1, .lst ((ldV z zs i).map V.int))]) ⟨_, _, _, rfl, o1.pick1 0 rfl⟩ ?_ ?_
  · rintro i σ' H' hi ⟨v4, v5, v6, rfl, o⟩
    have him : (i + 1) * kN z ≤ n * kN z := Nat.mul_le_mul_right _ hi
    rw [Nat.add_mul, Nat.one_mul] at him
    rw [show (0 : Int) + (i : Int) * ((kN z : Nat) : Int) = ((i * kN z : Nat) : Int) by rw [Int.natCast_mul]; omega]
    walk_at "rd"
    refine forR1 (n := kN z) rfl (by omega) (fun j σ' H2 => ∃ v6 : Option V, σ' = [some (.str z), some (.ref a), some (.int (kN z)), some (.ref p1), some (.int ((i * kN z : Nat) : Int)), some (.int (undig ((zs.drop (i * kN z + kN z - j)).take j))), v6] ∧ H2 = H') ⟨_, (by rw [List.take_zero]; rfl), rfl⟩ ?_ ?_
    · rintro j σ' H2 hj ⟨v6, rfl, rfl⟩
      have hS2 := o.old hS
      have hm : i * kN z + kN z - 1 - j < zs.length := by omega
      have hus := ud_step (zs := zs) (m := i * kN z + kN z - 1 - j) (j := j) hm
      have hub := ud_bnd (zs := zs) (m := i * kN z + kN z - j) (j := j) hby (by omega)
      rw [show i * kN z + kN z - 1 - j + 1 = i * kN z + kN z - j by omega] at hus
      have hgb := hby.gi (i := ((i * kN z + kN z - 1 - j : Nat) : Int)) (by omega) (by omega)
      walk_at "rd"
      refine ⟨some (.int (j : Int)), ?_, rfl⟩
      rw [show i * kN z + kN z - (j + 1) = i * kN z + kN z - 1 - j by omega, hus, show ((i * kN z : Nat) : Int) + ((kN z : Nat) : Int) - 1 - (j : Int) = ((i * kN z + kN z - 1 - j : Nat) : Int) by omega, show gi zs ((i * kN z + kN z - 1 - j : Nat) : Int) + 256 * undig ((zs.drop (i * kN z + kN z - j)).take j) = undig ((zs.drop (i * kN z + kN z - j)).take j) * 256 + gi zs ((i * kN z + kN z - 1 - j : Nat) : Int) by omega]
      rfl
    · rintro σ' H2 ⟨v6, rfl, rfl⟩
      have hck : (zs.drop (i * kN z + kN z - kN z)).take (kN z) = chnk (kN z) zs i := by rw [Nat.add_sub_cancel]; rfl
      have hub := ud_bnd (zs := zs) (m := i * kN z + kN z - kN z) (j := kN z) hby hw4.1
      rw [hck] at hub ⊢
      walk_at "rd"
      refine ⟨fun σ' H2 => σ' = [some (.str z), some (.ref a), some (.int (kN z)), some (.ref p1), some (.int ((i * kN z : Nat) : Int)), some (.int (decV z (chnk (kN z) zs i))), v6] ∧ Own H H2 [(p1, .lst ((ldV z zs i).map V.int))], ?_, ?_⟩
      · walk_at "rd"
        refine ⟨z, rfl, hz, fun H5 s5 => ?_⟩
        have o5 := o.mono s5
        walk_at "rd"
        refine rif (fun h0 => ?_) fun h0 => ?_
        · walk_at "rd"
          refine r_dget ?_
          refine r_disp POWS o5 ?h2 (by decide) fun p7 H7 o7 => ?_
          case h2 =>
            intro _ _ r
            repeat (refine r_pp ?_; walk_at "rd")
            exact r_pn r
          walk_at "rd"
          refine ⟨_, _, rfl, .inl ⟨_, .inl ((kN z : Nat) : Int), .inl (o7.at 0 rfl), rfl, (pow_get hz).symm⟩, ?_⟩
          walk_at "rd"
          refine ⟨?_, o7.pick1 1 rfl⟩
          unfold decV
          rw [if_pos (by omega)]
          rfl
        · walk_at "rd"
          refine ⟨?_, o5⟩
          unfold decV
          rw [if_neg (by omega)]
      rintro σ' H3 ⟨rfl, o3⟩
      walk_at "rd"
      refine r_app o3 0 rfl (by rw [List.length_map, ld_len]; omega) fun H4 o4 => ?_
      refine ⟨_, _, _, rfl, ?_⟩
      rw [ld_snoc, List.map_append]
      exact o4
  · rintro σ' H' ⟨v4, v5, v6, rfl, o⟩
    walk_at "rd"
    exact q.mk o 0 rfl
theorem decC_rb (z : Str) (cs : List Int) (nms : List Str) (c : List Int) : decC z cs nms c = ((rbV c).bind (undC (kN z) nms.reverse)).bind fun ys => if (ys.length : Int) ≠ (kN z : Int) * prodL cs then none else some (ldV z ys (prodL cs).toNat) := by
  unfold decC rbV
  cases h : rdLs rdB c with
  | none => rfl
  | some p =>
    show ((undC (kN z) nms.reverse p.1).bind fun ys => if p.2 < c.length ∨ (ys.length : Int) ≠ (kN z : Int) * prodL cs then none else some (ldV z ys (prodL cs).toNat)) = _
    by_cases h1 : p.2 < c.length
    · show _ = (((if p.2 < c.length then none else some p.1) : Option (List Int)).bind _).bind _
      rw [if_pos h1]
      cases undC (kN z) nms.reverse p.1 with
      | none => rfl
      | some ys => exact if_pos (.inl h1)
    · show _ = (((if p.2 < c.length then none else some p.1) : Option (List Int)).bind _).bind _
      rw [if_neg h1]
      show _ = (undC (kN z) nms.reverse p.1).bind _
      cases undC (kN z) nms.reverse p.1 with
      | none => rfl
      | some ys =>
        show (if p.2 < c.length ∨ (ys.length : Int) ≠ (kN z : Int) * prodL cs then none else some (ldV z ys (prodL cs).toNat)) = if (ys.length : Int) ≠ (kN z : Int) * prodL cs then none else some (ldV z ys (prodL cs).toNat)
        by_cases h2 : (ys.length : Int) ≠ (kN z : Int) * prodL cs
        · rw [if_pos (.inr h2), if_pos h2]
        · rw [if_neg (by rintro (h3 | h3); exact h1 h3; exact h2 h3), if_neg h2]
def OptV (K : PySem.W.Frag) (H : Hp) (v : V) : Option (List Int) → Prop
  | none => v = .non
  | some xs => ∃ p, v = .ref p ∧ SqL K H p (xs.map V.int)
theorem OptV.up {K : PySem.W.Frag} {H H' : Hp} {v : V} {xo : Option (List Int)} (s : Same H H') (h : OptV K H v xo) : OptV K H' v xo := by
  cases xo with
  | none => exact h
  | some xs =>
    obtain ⟨p, h1, h2⟩ := h
    exact ⟨p, h1, same_seqL' s h2⟩
theorem rdb_both {K : PySem.W.Frag} {a : Addr} {c : List Int} {H : Hp} {Q : VK} {E : XK} (hS : SqL K H a (c.map V.int)) (hb : ∀ x ∈ c, 0 ≤ x ∧ x < 256) (hl : c.length ≤ 5000) (h : ∀ v H', Same H H' → OptV K H' v (rbV c) → Q v H') : sp_rdb K [.ref a] H Q E := by
  refine ⟨a, c, rfl, hS, hb, hl, fun xs hxs H' p s _ hp => h _ _ s ?_, fun hn H' s => h _ _ s ?_⟩
  · rw [hxs]
    exact ⟨p, rfl, .inl (.inl hp)⟩
  · rw [hn]
    rfl
theorem back_both {K : PySem.W.Frag} {nm : Str} {a : Addr} {ns : List Int} {wd : Nat} {H : Hp} {Q : VK} {E : XK} (hnm : nm = sD ∨ nm = sP ∨ nm = sR ∨ nm = sZ) (hS : SqL K H a (ns.map V.int)) (hb : By ns) (hw : Wd wd) (hl : ns.length ≤ 1000000) (hro : nm = sR → RunsOk ns) (h : ∀ v H', Same H H' → OptV K H' v (undF nm wd ns) → Q v H') : sp_back K [.str nm, .ref a, .int wd] H Q E := by
  refine ⟨nm, a, ns, wd, rfl, hnm, hS, hb, hw, hl, hro, fun xs hxs H' p s _ hp => h _ _ s ?_, fun hn H' s => h _ _ s ?_⟩
  · rw [hxs]
    exact ⟨p, rfl, .inl (.inl hp)⟩
  · rw [hn]
    rfl
def sp_lcv (K : PySem.W.Frag) : Sp := fun vs H Q _ => ∃ (z : Str) (t : Addr) (a : Addr) (cs : List Int) (nms : List Str) (c : List Int), vs = [.str z, .ref t, .int (prodL cs), .ref a] ∧ LyM z cs nms ∧ SqT K H t (nms.map V.str) ∧ (∀ nm ∈ nms, nm = sD ∨ nm = sP ∨ nm = sR ∨ nm = sZ) ∧ SqL K H a (c.map V.int) ∧ c.length ≤ 5000 ∧ CtOk z nms c ∧
  (∀ ns, decC z cs nms c = some ns → RetO H Q (.lst (ns.map V.int))) ∧ (decC z cs nms c = none → RetV H Q .non)
theorem d_lcv (T : Top K mg) : Def P w K mg base CX0 3 "_law_chunk_values" ["kind", "filters", "many", "content"] (sp_lcv K) := by
  have G__law_read_bytes : Def P w K mg base CX0 1 "_law_read_bytes" ["content"] (sp_rdb K) := d_rdb T
  have G__law_back : Def P w K mg base CX0 1 "_law_back" ["name", "values", "size"] (sp_back K) := d_back T
  have G__law_loaded : Def P w K mg base CX0 2 "_law_loaded" ["kind", "stored"] (sp_loaded K) := d_loaded T
  refine T.f__law_chunk_values.ok sc__law_chunk_values (by rintro vs H Q E ⟨z, t, a, cs, nms, c, rfl, _⟩; rfl) (fun f cdv A outer s H vs Q E hr h => ?_)
  obtain ⟨z, t, a, cs, nms, c, rfl, hly, hT, hnm, hS, hcl, hct, q, qn⟩ := h
  have hz := hly.hz
  obtain ⟨hw, hc1, hc, _, _, hkw⟩ := k_abs z hz
  have hwd : Wd (kN z) := hw
  have hpr := hly.pr
  have hp1 := prodL_pos (ns := cs) fun x hx => (hly.hcs x hx).1
  rw [decC_rb] at q qn
  refine ⟨_, (pss_cons (ps_set (i := 4) sc__law_chunk_values.nd rfl (Or.inl rfl) (pe_dget (Nat.lt_of_le_of_lt (Nat.add_le_add_left (by decide) _) hr.units) (pe_disp (pps_cons pe_str pe_int (pps_cons pe_str pe_int (pps_cons pe_str pe_int pps_nil))) (by rfl) (by rfl) (fun z => by cases z) (by decide)) (pe_ix ix_str (pv 0) pe_int (fun _ _ => rfl)) (fun _ _ => rfl)))
      (pss_cons (ps_set (i := 5) sc__law_chunk_values.nd rfl (Or.inl rfl) (pe_callD G__law_read_bytes (hr.mono (by decide)) (pa_cons (pv 3) pa_nil)))
      (pss_cons (ps_for PassesOwn.never rfl (pi_tup (pe_revT (pv 1))) (pg_name (i := 6) sc__law_chunk_values.nd rfl (Or.inl rfl)) (pss_one (ps_if (pt_cmpR (r := rNotNon) op_notN (pv 5) pe_non (nomark _)) (pss_one (ps_set (i := 5) sc__law_chunk_values.nd rfl (Or.inl rfl) (pe_callD G__law_back (hr.mono (by decide)) (pa_cons (pv 6) (pa_cons (pv 5) (pa_cons (pv 4) pa_nil)))))) pss_nil)))
      (pss_cons (ps_if (pt_cutT (PW.pt (pw_or (pt_cmpR (r := rIsNon) op_isN (pv 5) pe_non (nomark _)) (pw_or1 (pt_cmpR op_ne (pe_callB (r := Evl.rLenS K) call_len_seq (by rfl) T.b_len (by decide +kernel) (pa_cons (pv 5) pa_nil)) (pe_op op_mul (pv 4) (pv 2)) (nomark _)))))) (pss_one (ps_ret pe_non)) pss_nil)
      (pss_one (ps_ret (pe_callD G__law_loaded (hr.mono (by decide)) (pa_cons (pv 0) (pa_cons (pv 5) pa_nil))))))))), ?_⟩
  walk_at "rd"
  refine r_dget ?_
  refine r_disp (kvI SIZES) (Own.nil H) ?h (by decide) fun p6 H6 o6 => ?_
  case h =>
    intro _ _ r
    repeat (refine r_pp ?_; walk_at "rd")
    exact r_pn r
  walk_at "rd"
  refine ⟨z, 1, _, rfl, rfl, sz100 (by rw [k_len z hz]; decide), k_at1 z hz, ?_⟩
  refine ⟨_, _, rfl, .inl ⟨_, .inr ⟨#[z.cps.getD 1 0]⟩, .inl (o6.at 0 rfl), rfl, (size_get hz).symm⟩, ?_⟩
  walk_at "rd"
  have hsm : ∀ xs, rbV c = some xs → By xs ∧ smC (kN z) nms.reverse xs := fun xs h => by
    unfold rbV at h
    cases h1 : rdLs rdB c with
    | none => rw [h1] at h; cases h
    | some p =>
      rw [h1] at h
      have h : (if p.2 < c.length then none else some p.1) = some xs := h
      by_cases h2 : p.2 < c.length
      · rw [if_pos h2] at h; cases h
      · rw [if_neg h2] at h
        cases h
        exact ⟨rdLs_rng h1 hct.b, hct.sm _ _ h1⟩
  refine rdb_both (o6.old hS) hct.b hcl fun rv H7 s7 hv7 => ?_
  have o7 := o6.mono s7
  walk_at "rd"
  refine r_revT ?_
  walk_at "rd"
  refine ⟨t, _, rfl, o7.oldT hT, fun p8 hp8 => ?_⟩
  have o8 := o7.new (u := .tup (nms.map V.str).reverse) hp8
  have hv8 := hv7.up (same_new (u := .tup (nms.map V.str).reverse) hp8)
  generalize upd H7 p8 (.tup (nms.map V.str).reverse) = H8 at *
  have hT8 : SqT K H8 p8 (nms.reverse.map V.str) := by rw [List.map_reverse]; exact o8.sqT 0 rfl
  have e8 : Same H H8 := o8.ex
  clear o6 o7 o8 s7 hv7
  refine forT hT8 (fun i σ' H' => ∃ (rv : V) (v6 : Option V) (xo : Option (List Int)), σ' = [some (.str z), some (.ref t), some (.int (prodL cs)), some (.ref a), some (.int (kN z)), some rv, v6] ∧ Same H8 H' ∧ OptV K H' rv xo ∧ xo.bind (undC (kN z) (nms.reverse.drop i)) = (rbV c).bind (undC (kN z) nms.reverse) ∧ ∀ xs, xo = some xs → By xs ∧ smC (kN z) (nms.reverse.drop i) xs) ⟨rv, _, rbV c, rfl, Same.refl _, hv8, rfl, hsm⟩ (fun i σ' H' _ ⟨_, _, _, _, s, _⟩ => same_seqT s hT8) ?_ ?_
  · rintro i v σ' H' hi ⟨rv, v6, xo, rfl, s8, hv, hu, hx⟩
    obtain ⟨nm, hn2, rfl⟩ : ∃ nm, nms.reverse[i]? = some nm ∧ v = .str nm := by
      rw [List.getElem?_map] at hi
      cases h2 : nms.reverse[i]? with
      | none => rw [h2] at hi; cases hi
      | some nm => rw [h2] at hi; cases hi; exact ⟨nm, rfl, rfl⟩
    have hd : nms.reverse.drop i = nm :: nms.reverse.drop (i + 1) := by
      obtain ⟨h2, h3⟩ := List.getElem?_eq_some_iff.mp hn2
      rw [← h3, List.getElem_cons_drop h2]
    rw [hd] at hu hx
    cases xo with
    | none =>
      have hv : rv = .non := hv
      subst hv
      walk_at "rd"
      exact ⟨.non, _, none, rfl, s8, rfl, hu, fun xs h => by cases h⟩
    | some xs =>
      obtain ⟨p, rfl, hp⟩ := hv
      obtain ⟨hbx, hlx, hrx, hnx⟩ := hx xs rfl
      walk_at "rd"
      refine back_both (hnm nm (List.mem_reverse.mp (List.mem_of_getElem? hn2))) hp hbx hwd hlx hrx fun v9 H9 s9 hv9 => ?_
      walk_at "rd"
      exact ⟨v9, _, _, rfl, s8.trans s9, hv9, hu, fun ys hys => ⟨undF_by hbx hys, hnx ys hys⟩⟩
  · rintro σ' H' ⟨rv, v6, xo, rfl, s8, hv, hu, hx⟩
    rw [List.length_map, List.drop_of_length_le (Nat.le_refl _)] at hu hx
    have eu : xo.bind (undC (kN z) []) = xo := by cases xo <;> rfl
    rw [eu] at hu
    rw [← hu] at q qn
    have e9 := e8.trans s8
    walk_at "rd"
    cases xo with
    | none =>
      have hv : rv = .non := hv
      subst hv
      refine r_cutB true ?_ ?_
      · walk_at "rd"
        exact ⟨rfl, rfl⟩
      walk_at "rd"
      exact qn rfl _ e9
    | some xs =>
      obtain ⟨p, rfl, hp⟩ := hv
      have hbx := (hx xs rfl).1
      refine r_cutB (!decide ((xs.length : Int) = (kN z : Int) * prodL cs)) ?_ ?_
      · walk_at "rd"
        rw [List.length_map]
        exact ⟨rfl, rfl⟩
      refine rif_n (fun h1 => ?_) fun h1 => ?_
      · walk_at "rd"
        exact qn (if_pos h1) _ e9
      · walk_at "rd"
        have q := q _ (if_neg (fun h => h h1))
        refine ⟨z, p, xs, (prodL cs).toNat, rfl, hz, hp, by omega, ?_, hbx, RetO.up q ((Own.nil H).mono e9)⟩
        obtain ⟨n, hn⟩ : ∃ n : Nat, prodL cs = n := ⟨(prodL cs).toNat, by omega⟩
        rw [hn] at h1 ⊢
        rw [show ((n : Int)).toNat = n from rfl]
        have : ((xs.length : Nat) : Int) = ((n * kN z : Nat) : Int) := by rw [h1, Int.natCast_mul, Int.mul_comm]
        omega
end

/-! ### lists on the way back -/
theorem prs_gd {ns : List Int} {k : Nat} (h : k < ns.length / 2) : (prs ns).getD k (0, 0) = (gi ns (2 * (k : Int)), gi ns (2 * (k : Int) + 1)) := by
  unfold prs
  rw [List.getD_eq_getElem?_getD, List.getElem?_map, List.getElem?_range h]
  rfl
theorem okP_gi {ns : List Int} (h : okP (prs ns)) {k : Nat} (hk : k < ns.length / 2) : gi ns (2 * (k : Int)) ≠ 0 ∧ (0 < k → gi ns (2 * (k : Int) - 2) < 255 → gi ns (2 * (k : Int) - 1) ≠ gi ns (2 * (k : Int) + 1)) := by
  have h1 := h k (by rw [prs_len]; exact hk)
  rw [prs_gd hk] at h1
  refine ⟨h1.1, fun h0 h2 h3 => h1.2 ⟨h0, ?_⟩⟩
  rw [prs_gd (by omega), show 2 * ((k - 1 : Nat) : Int) = 2 * (k : Int) - 2 by omega, show 2 * (k : Int) - 2 + 1 = 2 * (k : Int) - 1 by omega]
  exact ⟨h2, h3⟩
/-- four equal ones, from an even place on -/
theorem four_even {y : List Int} (h : okP (prs y)) {k : Nat} {v : Int} (hv : v < 255) (hk : k + 1 < y.length / 2) (h0 : gi y (2 * (k : Int)) = v) (h1 : gi y (2 * (k : Int) + 1) = v) (h3 : gi y (2 * (k : Int) + 3) = v) : False := by
  have h4 := (okP_gi h hk).2 (by omega)
  rw [show 2 * ((k + 1 : Nat) : Int) - 2 = 2 * (k : Int) by omega, show 2 * ((k + 1 : Nat) : Int) - 1 = 2 * (k : Int) + 1 by omega, show 2 * ((k + 1 : Nat) : Int) + 1 = 2 * (k : Int) + 3 by omega, h0, h1, h3] at h4
  exact h4 hv rfl
/-- three equal ones, from an odd place on -/
theorem three_odd {y : List Int} (h : okP (prs y)) {k : Nat} {v : Int} (hk : k + 1 < y.length / 2) (h1 : gi y (2 * (k : Int) + 1) = v) (h3 : gi y (2 * (k : Int) + 3) = v) : 255 ≤ gi y (2 * (k : Int)) := by
  have h4 := (okP_gi h hk).2 (by omega)
  rw [show 2 * ((k + 1 : Nat) : Int) - 2 = 2 * (k : Int) by omega, show 2 * ((k + 1 : Nat) : Int) - 1 = 2 * (k : Int) + 1 by omega, show 2 * ((k + 1 : Nat) : Int) + 1 = 2 * (k : Int) + 3 by omega, h1, h3] at h4
  exact Int.not_lt.mp fun h5 => h4 h5 rfl
theorem unpk_split {ps : List (Int × Int)} {i : Nat} {p : Int × Int} (h : ps[i]? = some p) : unpk ps = unpk (ps.take i) ++ (List.replicate p.1.toNat p.2 ++ unpk (ps.drop (i + 1))) := by
  obtain ⟨hi, e⟩ := List.getElem?_eq_some_iff.mp h
  have e2 : ps = ps.take i ++ (p :: ps.drop (i + 1)) := by
    rw [← e, List.getElem_cons_drop hi, List.take_append_drop]
  conv => lhs; rw [e2]
  unfold unpk
  rw [List.flatMap_append, List.flatMap_cons]
/-- the block of a pair in what is made -/
theorem block {ps : List (Int × Int)} {i j : Nat} {p : Int × Int} (h : ps[i]? = some p) (hj : j < p.1.toNat) : gi (unpk ps) (((unpk (ps.take i)).length + j : Nat) : Int) = p.2 ∧ (unpk (ps.take i)).length + j < (unpk ps).length := by
  rw [unpk_split h]
  have hl : (unpk (ps.take i)).length + j < (unpk (ps.take i) ++ (List.replicate p.1.toNat p.2 ++ unpk (ps.drop (i + 1)))).length := by
    rw [List.length_append, List.length_append, List.length_replicate]
    omega
  refine ⟨?_, hl⟩
  rw [gi_nat hl, List.getElem_append_right (by omega), List.getElem_append_left (by rw [List.length_replicate]; omega), List.getElem_replicate]
/-- what stands before it -/
theorem before {ps : List (Int × Int)} {i : Nat} {p : Int × Int} (h : ps[i]? = some p) (hp : 1 ≤ p.1) : gi (unpk ps) ((unpk (ps.take (i + 1))).length - 1 : Nat) = p.2 ∧ 1 ≤ (unpk (ps.take (i + 1))).length := by
  have e : unpk (ps.take (i + 1)) = unpk (ps.take i) ++ List.replicate p.1.toNat p.2 := by
    unfold unpk
    rw [List.take_add_one, h, List.flatMap_append]
    simp
  have h1 := block (j := p.1.toNat - 1) h (by omega)
  rw [e, List.length_append, List.length_replicate, show (unpk (ps.take i)).length + p.1.toNat - 1 = (unpk (ps.take i)).length + (p.1.toNat - 1) by omega]
  exact ⟨h1.1, by omega⟩
theorem even_len {y : List Int} (h : y.length % 2 = 0) {a : Nat} (ha : a < y.length) : a / 2 < y.length / 2 := by omega
/-- a long block of anything but 255 cannot stand in what may be unpacked again -/
theorem block_short {ps : List (Int × Int)} {i : Nat} {p : Int × Int} (hok : okP (prs (unpk ps))) (hev : (unpk ps).length % 2 = 0) (h : ps[i]? = some p) (hv : p.2 < 255) (h4 : 4 ≤ p.1) : (unpk (ps.take i)).length % 2 = 1 ∧ p.1 = 4 ∧ 255 ≤ gi (unpk ps) (((unpk (ps.take i)).length - 1 : Nat) : Int) := by
  generalize ho : (unpk (ps.take i)).length = o
  have b0 := block (j := 0) h (by omega)
  have b1 := block (j := 1) h (by omega)
  have b2 := block (j := 2) h (by omega)
  have b3 := block (j := 3) h (by omega)
  rw [ho] at b0 b1 b2 b3
  by_cases he : o % 2 = 0
  · exfalso
    have e : ((o : Nat) : Int) = 2 * ((o / 2 : Nat) : Int) := by omega
    refine four_even (k := o / 2) hok hv (by omega) ?_ ?_ ?_
    · rw [← e]; exact b0.1
    · rw [← e]; exact b1.1
    · rw [← e]; exact b3.1
  · have e : ((o : Nat) : Int) = 2 * ((o / 2 : Nat) : Int) + 1 := by omega
    have t := three_odd (k := o / 2) (v := p.2) hok (by omega) (by rw [← e]; exact b0.1) (by rw [show 2 * ((o / 2 : Nat) : Int) + 3 = ((o + 2 : Nat) : Int) by omega]; exact b2.1)
    refine ⟨by omega, ?_, by rw [show ((o - 1 : Nat) : Int) = 2 * ((o / 2 : Nat) : Int) by omega]; exact t⟩
    by_cases h5 : p.1 = 4
    · exact h5
    exfalso
    have b4 := block (j := 4) h (by omega)
    rw [ho] at b4
    refine four_even (k := o / 2 + 1) hok hv (by omega) ?_ ?_ ?_
    · rw [show 2 * ((o / 2 + 1 : Nat) : Int) = ((o + 1 : Nat) : Int) by omega]; exact b1.1
    · rw [show 2 * ((o / 2 + 1 : Nat) : Int) + 1 = ((o + 2 : Nat) : Int) by omega]; exact b2.1
    · rw [show 2 * ((o / 2 + 1 : Nat) : Int) + 3 = ((o + 4 : Nat) : Int) by omega]; exact b4.1
theorem unR_ok {ns ms : List Int} (h : unR ns = some ms) : ns.length % 2 = 0 ∧ okP (prs ns) ∧ ms = unpk (prs ns) := by
  unfold unR at h
  by_cases h2 : ns.length % 2 = 1
  · rw [if_pos h2] at h; cases h
  rw [if_neg h2] at h
  by_cases h3 : okP (prs ns)
  · rw [if_pos h3] at h; cases h; exact ⟨by omega, h3, rfl⟩
  · rw [if_neg h3] at h; cases h
theorem rns_ok (ns : List Int) : (rns ns).length % 2 = 0 ∧ okP (prs (rns ns)) ∧ ns = unpk (prs (rns ns)) := unR_ok (unR_rns ns)
theorem prs_get {ns : List Int} {k : Nat} (h : k < ns.length / 2) : (prs ns)[k]? = some (gi ns (2 * (k : Int)), gi ns (2 * (k : Int) + 1)) := by
  unfold prs
  rw [List.getElem?_map, List.getElem?_range h]
  rfl
theorem unpk_ge {ps : List (Int × Int)} {i : Nat} {p : Int × Int} (h : ps[i]? = some p) : p.1.toNat ≤ (unpk ps).length := by
  rw [unpk_split h, List.length_append, List.length_append, List.length_replicate]
  omega
/-- twice packed, the counts are small -/
theorem counts3 {x : List Int} (hb : By x) (hl : x.length ≤ 254) {i : Nat} (hi : 2 * i < (rns (rns x)).length) : gi (rns (rns x)) (2 * (i : Int)) ≤ 3 := by
  obtain ⟨e3, ok3, u3⟩ := rns_ok (rns x)
  obtain ⟨e2, ok2, u2⟩ := rns_ok x
  have hb2 := rns_by hb
  have hb3 := rns_by hb2
  refine Int.not_lt.mp fun h4 => ?_
  have hp := prs_get (ns := rns (rns x)) (k := i) (by omega)
  have hv := hb3.gi (i := 2 * (i : Int) + 1) (by omega) (by omega)
  -- counts of the first packing stay below 255
  have hc : ∀ k : Nat, k < (rns x).length / 2 → gi (rns x) (2 * (k : Int)) < 255 := fun k hk => by
    have h1 := unpk_ge (prs_get hk)
    rw [← u2] at h1
    dsimp only at h1
    omega
  have ok2' : okP (prs (unpk (prs (rns (rns x))))) := by rw [← u3]; exact ok2
  have ev2 : (unpk (prs (rns (rns x)))).length % 2 = 0 := by rw [← u3]; exact e2
  by_cases hv255 : gi (rns (rns x)) (2 * (i : Int) + 1) < 255
  · obtain ⟨h1, _, h2⟩ := block_short ok2' ev2 hp hv255 (by dsimp only; omega)
    have b0 := block (j := 0) hp (by dsimp only; omega)
    rw [← u3] at h2 b0
    have h3 := hc ((unpk ((prs (rns (rns x))).take i)).length / 2) (by omega)
    rw [show 2 * (((unpk ((prs (rns (rns x))).take i)).length / 2 : Nat) : Int) = (((unpk ((prs (rns (rns x))).take i)).length - 1 : Nat) : Int) by omega] at h3
    omega
  · have b0 := block (j := 0) hp (by dsimp only; omega)
    have b1 := block (j := 1) hp (by dsimp only; omega)
    rw [← u3] at b0 b1
    generalize (unpk ((prs (rns (rns x))).take i)).length = o at *
    dsimp only at b0 b1
    by_cases he : o % 2 = 0
    · have h3 := hc (o / 2) (by omega)
      rw [show 2 * ((o / 2 : Nat) : Int) = ((o + 0 : Nat) : Int) by omega, b0.1] at h3
      omega
    · have h3 := hc ((o + 1) / 2) (by omega)
      rw [show 2 * (((o + 1) / 2 : Nat) : Int) = ((o + 1 : Nat) : Int) by omega, b1.1] at h3
      omega
/-- what a change of one byte makes of the list that was written -/
def Edit (x xs : List Int) : Prop := ∃ (s r m : Nat) (E : List Int), E.length ≤ 2 ∧ s ≤ r ∧ s ≤ x.length ∧ xs = (x.take s ++ E ++ x.drop r).take m
theorem Edit.len {x xs : List Int} (h : Edit x xs) : xs.length ≤ x.length + 2 := by
  obtain ⟨s, r, m, E, h1, h2, h3, rfl⟩ := h
  rw [List.length_take, List.length_append, List.length_append, List.length_take, List.length_drop]
  omega
theorem gi_take {l : List Int} {m j : Nat} (h : j < (l.take m).length) : gi (l.take m) (j : Int) = gi l (j : Int) := by
  have h2 : j < l.length := by rw [List.length_take] at h; omega
  rw [gi_nat h, gi_nat h2, List.getElem_take]
theorem edit_lo {x E : List Int} {s r m j : Nat} (hs : s ≤ x.length) (hj : j < ((x.take s ++ E ++ x.drop r).take m).length) (h : j < s) : gi ((x.take s ++ E ++ x.drop r).take m) (j : Int) = gi x (j : Int) := by
  have h2 : j < (x.take s ++ E ++ x.drop r).length := by rw [List.length_take] at hj; omega
  have h3 : j < (x.take s).length := by rw [List.length_take]; omega
  rw [gi_take hj, gi_nat h2, List.getElem_append_left (by rw [List.length_append]; omega), List.getElem_append_left h3, List.getElem_take, gi_nat (by omega)]
theorem edit_hi {x E : List Int} {s r m j : Nat} (hs : s ≤ x.length) (hj : j < ((x.take s ++ E ++ x.drop r).take m).length) (h : s + E.length ≤ j) : j - s - E.length + r < x.length ∧ gi ((x.take s ++ E ++ x.drop r).take m) (j : Int) = gi x ((j - s - E.length + r : Nat) : Int) := by
  have h2 : j < (x.take s ++ E ++ x.drop r).length := by rw [List.length_take] at hj; omega
  have h3 : (x.take s ++ E).length = s + E.length := by rw [List.length_append, List.length_take]; omega
  have h4 := h2
  rw [List.length_append, h3, List.length_drop] at h4
  have h5 : j - s - E.length + r < x.length := by omega
  refine ⟨h5, ?_⟩
  rw [gi_take hj, gi_nat h2, List.getElem_append_right (by omega), List.getElem_drop, gi_nat h5]
  congr 1
  omega
theorem unpk_bound {ps : List (Int × Int)} {i0 i1 : Nat} (h : ∀ i p, ps[i]? = some p → p.1 ≤ 3 + (if i = i0 then 252 else 0) + (if i = i1 then 1 else 0)) : ∀ n, n ≤ ps.length → (unpk (ps.take n)).length ≤ 3 * n + (if i0 < n then 252 else 0) + (if i1 < n then 1 else 0)
  | 0, _ => Nat.zero_le _
  | n + 1, hn => by
    have ih := unpk_bound h n (by omega)
    have hp : ps[n]? = some ps[n] := List.getElem?_eq_getElem (by omega)
    have h1 := h n _ hp
    have e : unpk (ps.take (n + 1)) = unpk (ps.take n) ++ List.replicate ps[n].1.toNat ps[n].2 := by
      unfold unpk
      rw [List.take_add_one, hp, List.flatMap_append]
      simp
    rw [e, List.length_append, List.length_replicate]
    by_cases e0 : n = i0 <;> by_cases e1 : n = i1
    · rw [if_pos e0, if_pos e1] at h1
      rw [if_neg (by omega), if_neg (by omega)] at ih
      rw [if_pos (by omega), if_pos (by omega)]
      omega
    · rw [if_pos e0, if_neg e1] at h1
      rw [if_neg (show ¬ i0 < n by omega)] at ih
      rw [if_pos (show i0 < n + 1 by omega)]
      by_cases e2 : i1 < n
      · rw [if_pos e2] at ih; rw [if_pos (by omega)]; omega
      · rw [if_neg e2] at ih; rw [if_neg (by omega)]; omega
    · rw [if_neg e0, if_pos e1] at h1
      rw [if_neg (show ¬ i1 < n by omega)] at ih
      rw [if_pos (show i1 < n + 1 by omega)]
      by_cases e2 : i0 < n
      · rw [if_pos e2] at ih; rw [if_pos (by omega)]; omega
      · rw [if_neg e2] at ih; rw [if_neg (by omega)]; omega
    · rw [if_neg e0, if_neg e1] at h1
      by_cases e2 : i0 < n <;> by_cases e3 : i1 < n
      · rw [if_pos e2, if_pos e3] at ih; rw [if_pos (by omega), if_pos (by omega)]; omega
      · rw [if_pos e2, if_neg e3] at ih; rw [if_pos (by omega), if_neg (by omega)]; omega
      · rw [if_neg e2, if_pos e3] at ih; rw [if_neg (by omega), if_pos (by omega)]; omega
      · rw [if_neg e2, if_neg e3] at ih; rw [if_neg (by omega), if_neg (by omega)]; omega
theorem rns_len2 (ns : List Int) : (rns ns).length ≤ 2 * ns.length := by
  have h := rns_len ns []
  rw [List.length_nil, Nat.zero_add] at h
  exact h
/-- a list packed twice, changed in one place and unpacked twice, is not long -/
theorem hard {x1 xs y2 y1 : List Int} (hb : By x1) (hl : x1.length ≤ 128) (he : Edit (rns (rns x1)) xs) (hbx : By xs) (h2 : unR xs = some y2) (h1 : unR y2 = some y1) : y1.length ≤ 130900 := by
  have hlen := he.len
  have l2 := rns_len2 x1
  have l3 := rns_len2 (rns x1)
  have hby2 := unR_by hbx h2
  have hly1 := unR_len hby2 h1
  obtain ⟨ev, ok, e2⟩ := unR_ok h2
  obtain ⟨ev2, ok2, _⟩ := unR_ok h1
  obtain ⟨s, r, m, E, hE, hsr, hs, exs⟩ := he
  have hx : ∀ i : Nat, 2 * i < (rns (rns x1)).length → gi (rns (rns x1)) (2 * (i : Int)) ≤ 3 := fun i hi => counts3 hb (by omega) hi
  have lo : ∀ j : Nat, j < xs.length → j < s → gi xs (j : Int) = gi (rns (rns x1)) (j : Int) := fun j hj h => by rw [exs]; rw [exs] at hj; exact edit_lo hs hj h
  have hi : ∀ j : Nat, j < xs.length → s + E.length ≤ j → j - s - E.length + r < (rns (rns x1)).length ∧ gi xs (j : Int) = gi (rns (rns x1)) ((j - s - E.length + r : Nat) : Int) := fun j hj h => by rw [exs]; rw [exs] at hj; exact edit_hi hs hj h
  generalize rns (rns x1) = x3 at *
  clear exs h2 h1
  have key : ∀ i p, (prs xs)[i]? = some p → p.1 ≤ 3 + (if i = (s + 1) / 2 then 252 else 0) + (if i = (s + E.length + 1) / 2 then 1 else 0) := by
    intro i p hp
    have hip : i < xs.length / 2 := by rw [← prs_len]; exact (List.getElem?_eq_some_iff.mp hp).1
    have hpe := prs_get hip
    rw [hp] at hpe
    have hpe := Option.some.inj hpe
    subst hpe
    have hb0 := hbx.gi (i := 2 * (i : Int)) (by omega) (by omega)
    have hb1 := hbx.gi (i := 2 * (i : Int) + 1) (by omega) (by omega)
    show gi xs (2 * (i : Int)) ≤ _
    by_cases e0 : i = (s + 1) / 2
    · rw [if_pos e0]
      split <;> omega
    rw [if_neg e0]
    have c0 : ((2 * i : Nat) : Int) = 2 * (i : Int) := by omega
    have c1 : ((2 * i + 1 : Nat) : Int) = 2 * (i : Int) + 1 := by omega
    by_cases h3 : 2 * i < s
    · have h4 := lo (2 * i) (by omega) h3
      have h5 := hx i (by omega)
      rw [c0] at h4
      rw [h4]
      split <;> omega
    have h6 : s + E.length ≤ 2 * i := by omega
    obtain ⟨h7, h8⟩ := hi (2 * i) (by omega) h6
    obtain ⟨h9, h10⟩ := hi (2 * i + 1) (by omega) (by omega)
    rw [c0] at h8
    rw [c1] at h10
    by_cases hev : (2 * i - s - E.length + r) % 2 = 0
    · have h5 := hx ((2 * i - s - E.length + r) / 2) (by omega)
      rw [show 2 * (((2 * i - s - E.length + r) / 2 : Nat) : Int) = ((2 * i - s - E.length + r : Nat) : Int) by omega, ← h8] at h5
      split <;> omega
    have hq : gi xs (2 * (i : Int) + 1) ≤ 3 := by
      have h5 := hx ((2 * i + 1 - s - E.length + r) / 2) (by omega)
      rw [show 2 * (((2 * i + 1 - s - E.length + r) / 2 : Nat) : Int) = ((2 * i + 1 - s - E.length + r : Nat) : Int) by omega, ← h10] at h5
      exact h5
    refine Int.not_lt.mp fun hbig => ?_
    have h4 : 4 ≤ gi xs (2 * (i : Int)) := by
      have : (0 : Int) ≤ if i = (s + E.length + 1) / 2 then 1 else 0 := by split <;> omega
      omega
    rw [e2] at ok2 ev2
    obtain ⟨ho, hp4, h255⟩ := block_short ok2 ev2 hp (show gi xs (2 * (i : Int) + 1) < 255 by omega) h4
    have hp4 : gi xs (2 * (i : Int)) = 4 := hp4
    by_cases e1 : i = (s + E.length + 1) / 2
    · rw [if_pos e1] at hbig
      omega
    -- the pair before it stands behind the change, too
    obtain ⟨i', rfl⟩ : ∃ i', i = i' + 1 := ⟨i - 1, by omega⟩
    have hpp := prs_get (ns := xs) (k := i') (by omega)
    have h0 := (okP_gi ok (k := i') (by omega)).1
    have hb2 := hbx.gi (i := 2 * (i' : Int)) (by omega) (by omega)
    have hbf := (before hpp (show 1 ≤ gi xs (2 * (i' : Int)) by omega)).1
    rw [hbf] at h255
    have h255 : 255 ≤ gi xs (2 * (i' : Int) + 1) := h255
    obtain ⟨h11, h12⟩ := hi (2 * i' + 1) (by omega) (by omega)
    have h5 := hx ((2 * i' + 1 - s - E.length + r) / 2) (by omega)
    rw [show 2 * (((2 * i' + 1 - s - E.length + r) / 2 : Nat) : Int) = ((2 * i' + 1 - s - E.length + r : Nat) : Int) by omega, ← h12, show ((2 * i' + 1 : Nat) : Int) = 2 * (i' : Int) + 1 by omega] at h5
    omega
  have hbd := unpk_bound key (prs xs).length (Nat.le_refl _)
  rw [List.take_length, ← e2, prs_len] at hbd
  have hb1 : (if (s + 1) / 2 < xs.length / 2 then 252 else 0) ≤ 252 := by split <;> omega
  have hb2 : (if (s + E.length + 1) / 2 < xs.length / 2 then 1 else 0) ≤ 1 := by split <;> omega
  omega
theorem tail0 {u : List Int} {m k : Nat} (h : u.length ≤ 2 * k) (hk : k < (u ++ List.replicate m (0 : Int)).length / 2) : gi (u ++ List.replicate m (0 : Int)) (2 * (k : Int)) = 0 := by
  have h1 : 2 * k < (u ++ List.replicate m (0 : Int)).length := by omega
  rw [show 2 * (k : Int) = ((2 * k : Nat) : Int) by omega, gi_nat h1, List.getElem_append_right h, List.getElem_replicate]
theorem runs_tail {u : List Int} {m : Nat} (hb : By u) (hl : u.length ≤ 70000) : RunsOk (u ++ List.replicate m (0 : Int)) := fun i hg => by
  have hby : By (u ++ List.replicate m (0 : Int)) := hb.app (By.rep _ (by decide))
  have hi : i ≤ (u.length + 1) / 2 ∨ (prs (u ++ List.replicate m (0 : Int))).length ≤ (u.length + 1) / 2 := by
    by_cases h1 : i ≤ (u.length + 1) / 2
    · exact .inl h1
    by_cases h2 : (prs (u ++ List.replicate m (0 : Int))).length ≤ (u.length + 1) / 2
    · exact .inr h2
    exfalso
    have h3 := (hg ((u.length + 1) / 2) (by omega) (by omega)).1
    rw [prs_len] at h2
    rw [prs_gd (by omega)] at h3
    exact h3 (tail0 (by omega) (by omega))
  have h4 : ((prs (u ++ List.replicate m (0 : Int))).take i).length ≤ (u.length + 1) / 2 := by rw [List.length_take]; omega
  have h5 := unpk_len (ps := (prs (u ++ List.replicate m (0 : Int))).take i) fun p hp => prs_by hby p (List.mem_of_mem_take hp)
  omega
theorem ok_tail {u : List Int} {m : Nat} (h : okP (prs (u ++ List.replicate m (0 : Int)))) : (u ++ List.replicate m (0 : Int)).length / 2 ≤ (u.length + 1) / 2 := by
  refine Nat.le_of_not_lt fun h2 => ?_
  exact (okP_gi h h2).1 (tail0 (by omega) h2)
theorem undF_inv {nm : Str} {wd : Nat} {ns ms : List Int} (hb : By ns) (h : undF nm wd ns = some ms) : (ms.length = ns.length) ∨ (nm = sR ∧ unR ns = some ms) ∨ ∃ u m, ms = u ++ List.replicate m (0 : Int) ∧ u.length + 2 ≤ ns.length ∧ m ≤ 65535 ∧ By u := by
  unfold undF at h
  by_cases h1 : nm = sD
  · rw [if_pos h1] at h; cases h; exact .inl (und_len _)
  rw [if_neg h1] at h
  by_cases h2 : nm = sP
  · rw [if_pos h2] at h; cases h; exact .inl (unpl_len _ _)
  rw [if_neg h2] at h
  by_cases h3 : nm = sR
  · rw [if_pos h3] at h
    exact .inr (.inl ⟨h3, h⟩)
  rw [if_neg h3] at h
  unfold unZ at h
  by_cases h4 : ns.length < 2
  · rw [if_pos h4] at h; cases h
  rw [if_neg h4] at h
  by_cases h5 : 2 < ns.length ∧ gi ns ((ns.length : Int) - 1) = 0 ∧ cntZ ns < 65535
  · rw [if_pos h5] at h; cases h
  rw [if_neg h5] at h
  cases h
  have hb0 := hb.gi (i := 0) (by omega) (by omega)
  have hb1 := hb.gi (i := 1) (by omega) (by omega)
  refine .inr (.inr ⟨ns.drop 2, (cntZ ns).toNat, rfl, by rw [List.length_drop]; omega, by unfold cntZ; omega, hb.drop 2⟩)
theorem smA {wd : Nat} {rs : List Str} {xs : List Int} (hn : rs.length ≤ 3) (hb : By xs) (hl : xs.length ≤ 548) (hh : ∀ f y2 y1, rs = [sR, sR, f] → unR xs = some y2 → unR y2 = some y1 → y1.length ≤ 130900) : smC wd rs xs := by
  match rs, hn, hh with
  | [], _, _ => trivial
  | f3 :: r, hn, hh =>
    refine ⟨by omega, fun _ => RunsOk.of hb (by omega), fun y2 h2 => ?_⟩
    have hb2 := undF_by hb h2
    have i2 := undF_inv hb h2
    have l2 : y2.length ≤ 69870 := by
      rcases i2 with e | ⟨_, e⟩ | ⟨u, m, rfl, e1, e2, _⟩
      · omega
      · have := unR_len hb e; omega
      · rw [List.length_append, List.length_replicate]; omega
    match r, hn, hh with
    | [], _, _ => trivial
    | f2 :: r2, hn, hh =>
      refine ⟨by omega, fun _ => RunsOk.of hb2 (by omega), fun y1 h1 => ?_⟩
      have hb1 := undF_by hb2 h1
      match r2, hn, hh with
      | [], _, _ => trivial
      | [f1], _, hh =>
        rcases undF_inv hb2 h1 with e | ⟨ef2, e⟩ | ⟨u, m, rfl, e1, e2, hbu⟩
        · exact ⟨by omega, fun _ => RunsOk.of hb1 (by omega), fun _ _ => trivial⟩
        · have l1 : y1.length ≤ 130900 := by
            have hl1 := unR_len hb2 e
            rcases i2 with e3 | ⟨ef3, e3⟩ | ⟨u, m, rfl, e3, e4, _⟩
            · omega
            · exact hh f1 y2 y1 (by rw [ef3, ef2]) e3 e
            · have h5 := ok_tail (unR_ok e).2.1
              omega
          exact ⟨by omega, fun _ => RunsOk.of hb1 l1, fun _ _ => trivial⟩
        · exact ⟨by rw [List.length_append, List.length_replicate]; omega, fun _ => runs_tail hbu (by omega), fun _ _ => trivial⟩
      | _ :: _ :: _, hn, _ => exact absurd hn (by simp)
/-! ### bytes that are read as a list -/
def Rd (t ys : List Int) : Prop := ∃ (f : Nat) (c : Int) (k : Nat), rdL rdB f c t = some (ys, k)
theorem Rd.cases {t ys : List Int} (h : Rd t ys) : ys = [] ∨ ∃ v k ys', rdB t = some (v, k) ∧ ys = v :: ys' ∧ Rd (t.drop k) ys' := by
  obtain ⟨f, c, k, h⟩ := h
  by_cases hc : c ≤ 0
  · rw [rdL_0 _ hc] at h
    cases h
    exact .inl rfl
  cases h1 : rdB t with
  | none => rw [rdL_none hc h1] at h; cases h
  | some p =>
    cases f with
    | zero => unfold rdL at h; rw [if_neg hc] at h; cases h
    | succ f =>
      rw [rdL_some (x := p.1) (k := p.2) hc h1] at h
      cases h2 : rdL rdB f (c - 1) (t.drop p.2) with
      | none => rw [h2] at h; cases h
      | some q =>
        rw [h2] at h
        cases h
        exact .inr ⟨p.1, p.2, q.1, rfl, rfl, f, c - 1, q.2, h2⟩
def flB (x : List Int) : List Int := x.flatMap byB
theorem Rd.byte {v : Int} {t ys : List Int} (hv : 0 ≤ v ∧ v < 256) (h : Rd (byB v ++ t) ys) : ys = [] ∨ ∃ ys', ys = v :: ys' ∧ Rd t ys' := by
  rcases h.cases with h | ⟨v', k, ys', h1, h2, h3⟩
  · exact .inl h
  · rw [rdB_by hv] at h1
    cases h1
    rw [List.drop_left] at h3
    exact .inr ⟨ys', h2, h3⟩
theorem Rd.nil {ys : List Int} (h : Rd [] ys) : ys = [] := by
  rcases h.cases with h | ⟨v', k, ys', h1, h2, h3⟩
  · exact h
  · cases h1
theorem Rd.pre : ∀ {A t ys : List Int}, By A → Rd (flB A ++ t) ys → (∃ m, ys = A.take m) ∨ ∃ ys', ys = A ++ ys' ∧ Rd t ys'
  | [], t, ys, _, h => .inr ⟨ys, rfl, h⟩
  | v :: A, t, ys, hb, h => by
    have e : flB (v :: A) ++ t = byB v ++ (flB A ++ t) := by unfold flB; rw [List.flatMap_cons, List.append_assoc]
    rw [e] at h
    rcases h.byte (hb v List.mem_cons_self) with rfl | ⟨ys', rfl, h'⟩
    · exact .inl ⟨0, rfl⟩
    · rcases Rd.pre (fun x hx => hb x (List.mem_cons_of_mem _ hx)) h' with ⟨m, e3⟩ | ⟨y2, e3, h3⟩
      · exact .inl ⟨m + 1, by rw [e3]; rfl⟩
      · exact .inr ⟨y2, by rw [e3]; rfl, h3⟩
theorem Rd.flat {B ys : List Int} (hb : By B) (h : Rd (flB B) ys) : ∃ m, ys = B.take m := by
  have h2 : Rd (flB B ++ []) ys := by rw [List.append_nil]; exact h
  rcases Rd.pre hb h2 with h3 | ⟨ys', rfl, h3⟩
  · exact h3
  · rw [h3.nil]
    exact ⟨B.length, by rw [List.append_nil, List.take_length]⟩
/-- behind a few bytes of any kind stands what was written -/
def PS (e : Nat) (B ys : List Int) : Prop := ∃ (r m : Nat) (E : List Int), E.length ≤ e ∧ ys = (E ++ B.drop r).take m
theorem PS.mono {e e' : Nat} {B ys : List Int} (h : PS e B ys) (he : e ≤ e') : PS e' B ys := by
  obtain ⟨r, m, E, h1, h2⟩ := h
  exact ⟨r, m, E, by omega, h2⟩
theorem PS.nil (e : Nat) (B : List Int) : PS e B [] := ⟨0, 0, [], Nat.zero_le _, by rw [List.take_zero]⟩
theorem PS.cons {e : Nat} {B ys : List Int} (v : Int) (h : PS e B ys) : PS (e + 1) B (v :: ys) := by
  obtain ⟨r, m, E, h1, h2⟩ := h
  exact ⟨r, m + 1, v :: E, by rw [List.length_cons]; omega, by rw [h2]; rfl⟩
theorem PS.down {e i : Nat} {B ys : List Int} (h : PS e (B.drop i) ys) : PS e B ys := by
  obtain ⟨r, m, E, h1, h2⟩ := h
  exact ⟨i + r, m, E, h1, by rw [h2, List.drop_drop]⟩
theorem Rd.ps0 {B ys : List Int} (hb : By B) (h : Rd (flB B) ys) : PS 0 B ys := by
  obtain ⟨m, rfl⟩ := h.flat hb
  exact ⟨0, m, [], Nat.le_refl _, rfl⟩
theorem rdB_lo {b : Int} (t : List Int) (h : b < 249) : rdB (b :: t) = some (b, 1) := by
  show (if b > 249 then none else if b < 249 then some (b, 1) else _) = _
  rw [if_neg (by omega), if_pos h]
theorem rdB_hi {b : Int} (t : List Int) (h : 249 < b) : rdB (b :: t) = none := by
  show (if b > 249 then none else _) = _
  rw [if_pos (by omega)]
theorem rdB_esc (c : Int) (t : List Int) : rdB (249 :: c :: t) = if c ≤ 6 then some (249 + c, 2) else none := rfl
theorem Rd.ps1 {B ys : List Int} {b : Int} (hb : By B) (h : Rd (b :: flB B) ys) : PS 1 B ys := by
  rcases h.cases with rfl | ⟨v, k, ys', h1, rfl, h3⟩
  · exact .nil _ _
  by_cases hlo : b < 249
  · rw [rdB_lo _ hlo] at h1
    cases h1
    exact (Rd.ps0 hb h3).cons b
  by_cases hhi : 249 < b
  · rw [rdB_hi _ hhi] at h1; cases h1
  have e : b = 249 := by omega
  subst e
  match B, hb with
  | [], _ => cases h1
  | w' :: B, hb =>
    have hw := hb w' List.mem_cons_self
    by_cases h6 : w' < 249
    · have e2 : flB (w' :: B) = w' :: flB B := by unfold flB; rw [List.flatMap_cons]; unfold byB; rw [if_pos h6]; rfl
      rw [e2] at h1 h3
      rw [rdB_esc] at h1
      by_cases h7 : w' ≤ 6
      · rw [if_pos h7] at h1
        cases h1
        have h3 : Rd (flB B) ys' := h3
        have h4 := (Rd.ps0 (fun x hx => hb x (List.mem_cons_of_mem _ hx)) h3).cons (249 + w')
        exact PS.down (i := 1) h4
      · rw [if_neg h7] at h1; cases h1
    · have e2 : flB (w' :: B) = 249 :: (w' - 249) :: flB B := by unfold flB; rw [List.flatMap_cons]; unfold byB; rw [if_neg h6]; rfl
      rw [e2, rdB_esc, if_neg (by decide)] at h1
      cases h1
theorem Rd.ps2 {B ys : List Int} {b b' : Int} (hb : By B) (h : Rd (b :: b' :: flB B) ys) : PS 2 B ys := by
  rcases h.cases with rfl | ⟨v, k, ys', h1, rfl, h3⟩
  · exact .nil _ _
  by_cases hlo : b < 249
  · rw [rdB_lo _ hlo] at h1
    cases h1
    exact (Rd.ps1 hb h3).cons b
  by_cases hhi : 249 < b
  · rw [rdB_hi _ hhi] at h1; cases h1
  have e : b = 249 := by omega
  subst e
  rw [rdB_esc] at h1
  by_cases h7 : b' ≤ 6
  · rw [if_pos h7] at h1
    cases h1
    exact ((Rd.ps0 hb h3).cons (249 + b')).mono (by decide)
  · rw [if_neg h7] at h1; cases h1
theorem Rd.psU {u B ys : List Int} (hb : By B) (hu : u.length ≤ 2) (h : Rd (u ++ flB B) ys) : PS 2 B ys := by
  match u, hu with
  | [], _ => exact (Rd.ps0 hb h).mono (by decide)
  | [b], _ => exact (Rd.ps1 hb h).mono (by decide)
  | [b, b'], _ => exact Rd.ps2 hb h
  | _ :: _ :: _ :: _, hu => exact absurd hu (by simp)

theorem flB_cons (v : Int) (X : List Int) : flB (v :: X) = byB v ++ flB X := by unfold flB; rw [List.flatMap_cons]
theorem fl_suf : ∀ (X : List Int) (j : Nat), ∃ (r : Nat) (v : List Int), (flB X).drop j = v ++ flB (X.drop r) ∧ v.length ≤ 1
  | [], j => ⟨0, [], by rw [show flB ([] : List Int) = [] from rfl]; exact List.drop_nil, Nat.zero_le _⟩
  | v :: X, j => by
    rw [flB_cons]
    by_cases h : (byB v).length ≤ j
    · obtain ⟨r, u, h1, h2⟩ := fl_suf X (j - (byB v).length)
      exact ⟨r + 1, u, by rw [List.drop_append, List.drop_of_length_le h]; exact h1, h2⟩
    · by_cases h0 : j = 0
      · subst h0
        exact ⟨0, [], by rw [List.drop_zero, List.drop_zero, ← flB_cons]; rfl, Nat.zero_le _⟩
      · have h2 := (by_len v).2
        refine ⟨1, (byB v).drop j, ?_, by rw [List.length_drop]; omega⟩
        rw [List.drop_append, show j - (byB v).length = 0 by omega]
        rfl
theorem fl_split : ∀ (X : List Int) (j j' : Nat), j ≤ j' → ∃ (s r : Nat) (u v : List Int), s ≤ r ∧ s ≤ X.length ∧ (flB X).take j = flB (X.take s) ++ u ∧ (flB X).drop j' = v ++ flB (X.drop r) ∧ (u = [] ∨ u = [249]) ∧ v.length ≤ 1
  | [], j, j', _ => ⟨0, 0, [], [], Nat.le_refl _, Nat.le_refl _, by rw [show flB ([] : List Int) = [] from rfl]; exact List.take_nil, by rw [show flB ([] : List Int) = [] from rfl]; exact List.drop_nil, .inl rfl, Nat.zero_le _⟩
  | v :: X, j, j', hj => by
    by_cases h0 : j = 0
    · subst h0
      obtain ⟨r, w, h1, h2⟩ := fl_suf (v :: X) j'
      exact ⟨0, r, [], w, Nat.zero_le _, Nat.zero_le _, rfl, h1, .inl rfl, h2⟩
    by_cases h : (byB v).length ≤ j
    · obtain ⟨s, r, u, w, h1, h2, h3, h4, h5, h6⟩ := fl_split X (j - (byB v).length) (j' - (byB v).length) (by omega)
      refine ⟨s + 1, r + 1, u, w, by omega, by rw [List.length_cons]; omega, ?_, ?_, h5, h6⟩
      · rw [flB_cons, List.take_append, List.take_of_length_le h, h3, List.take_succ_cons, flB_cons, List.append_assoc]
      · rw [flB_cons, List.drop_append, List.drop_of_length_le (by omega)]
        exact h4
    · have h2 := (by_len v).2
      have hj1 : j = 1 := by omega
      subst hj1
      obtain ⟨r, w, h3, h4⟩ := fl_suf (v :: X) j'
      refine ⟨0, r, [249], w, Nat.zero_le _, Nat.zero_le _, ?_, h3, .inr rfl, h4⟩
      have e : byB v = [249, v - 249] := by
        by_cases h5 : v < 249
        · have e : byB v = [v] := if_pos h5
          rw [e] at h
          exact absurd (Nat.le_refl 1) h
        · exact if_neg h5
      rw [flB_cons, e]
      rfl
theorem Rd.psW {u M B ys : List Int} (hb : By B) (hu : u = [] ∨ u = [249]) (hM : M.length ≤ 2) (h : Rd (u ++ M ++ flB B) ys) : PS 2 B ys := by
  rcases hu with rfl | rfl
  · exact Rd.psU hb hM h
  match M, hM with
  | [], _ => exact Rd.psU (u := [249]) hb (Nat.le_of_ble_eq_true rfl) h
  | [b], _ => exact Rd.psU (u := [249, b]) hb (Nat.le_of_ble_eq_true rfl) h
  | [b, k], _ =>
    have h : Rd (249 :: b :: k :: flB B) ys := h
    rcases h.cases with rfl | ⟨v, q, ys', h1, rfl, h3⟩
    · exact .nil _ _
    rw [rdB_esc] at h1
    by_cases h7 : b ≤ 6
    · rw [if_pos h7] at h1
      cases h1
      exact (Rd.ps1 hb h3).cons (249 + b)
    · rw [if_neg h7] at h1; cases h1
  | _ :: _ :: _ :: _, hM => exact absurd hM (by simp)
theorem Edit.pre {x : List Int} {s m : Nat} : Edit x ((x.take s).take m) := by
  refine ⟨min s x.length, x.length, m, [], Nat.zero_le _, Nat.min_le_right _ _, Nat.min_le_right _ _, ?_⟩
  rw [List.drop_length, List.append_nil, List.append_nil]
  congr 1
  by_cases h : s ≤ x.length
  · rw [Nat.min_eq_left h]
  · rw [Nat.min_eq_right (by omega), List.take_length, List.take_of_length_le (by omega)]
theorem Edit.of_ps {x ys : List Int} {s r : Nat} (h1 : s ≤ r) (h2 : s ≤ x.length) (h : PS 2 (x.drop r) ys) : Edit x (x.take s ++ ys) := by
  obtain ⟨r', m, E, h3, rfl⟩ := h
  refine ⟨s, r + r', s + m, E, h3, by omega, h2, ?_⟩
  have e1 : (x.take s).length = s := by rw [List.length_take]; omega
  rw [List.append_assoc, List.drop_drop]
  generalize x.take s = y at *
  generalize E ++ x.drop (r + r') = t
  rw [List.take_append, List.take_of_length_le (show y.length ≤ s + m by omega), e1, Nat.add_sub_cancel_left]
theorem rdLs_rd {c xs : List Int} {k : Nat} (h : rdLs rdB c = some (xs, k)) : ∃ n q, rdN c true = some (n, q) ∧ Rd (c.drop q) xs := by
  unfold rdLs at h
  cases h1 : rdN c true with
  | none => rw [h1] at h; cases h
  | some p =>
    rw [h1] at h
    have h : (rdL rdB (c.length + 1) p.1 (c.drop p.2)).map (fun q => (q.1, p.2 + q.2)) = some (xs, k) := h
    cases h2 : rdL rdB (c.length + 1) p.1 (c.drop p.2) with
    | none => rw [h2] at h; cases h
    | some q =>
      rw [h2] at h
      cases h
      exact ⟨p.1, p.2, rfl, _, _, _, h2⟩
theorem head_read {P B xs : List Int} {k : Nat} (hb : By B) (hP : P.length ≤ 3) (h : rdLs rdB (P ++ flB B) = some (xs, k)) : PS 2 B xs := by
  obtain ⟨n, q, h1, h2⟩ := rdLs_rd h
  have hq := (rdN_ok _ _ _ _ h1).1
  rw [List.drop_append] at h2
  obtain ⟨r, v, h3, h4⟩ := fl_suf B (q - P.length)
  by_cases h5 : q ≤ P.length
  · rw [show q - P.length = 0 by omega, List.drop_zero] at h2
    exact Rd.psU hb (by rw [List.length_drop]; omega) h2
  · rw [List.drop_of_length_le (by omega), List.nil_append, h3] at h2
    exact (Rd.psU (hb.drop r) (by omega) h2).down
/-- a content with one byte changed, left out or put in, or cut off: its list is the list that was written, edited -/
theorem edit_read {X M xs : List Int} {a a' k : Nat} (hb : By X) (hl : X.length < 15625) (hM : M.length ≤ 1) (ha : a ≤ a') (h : rdLs rdB ((lsB byB X).take a ++ M ++ (lsB byB X).drop a') = some (xs, k)) : Edit X xs := by
  have hN := numB_len 1 X.length (by omega)
  have e0 : lsB byB X = numB X.length ++ flB X := rfl
  rw [e0] at h
  generalize hNN : numB X.length = N at *
  by_cases h1 : N.length ≤ a
  · obtain ⟨s, r, u, v, h2, h3, h4, h5, h6, h7⟩ := fl_split X (a - N.length) (a' - N.length) (by omega)
    rw [List.take_append, List.take_of_length_le h1, List.drop_append, List.drop_of_length_le (by omega), h4, h5, List.nil_append, List.append_assoc, List.append_assoc, List.append_assoc] at h
    obtain ⟨n, q, h8, h9⟩ := rdLs_rd h
    rw [← hNN, rdN_num X.length _ true (.inl rfl)] at h8
    cases h8
    rw [hNN, List.drop_left] at h9
    rcases Rd.pre (hb.take s) h9 with ⟨m, rfl⟩ | ⟨ys, rfl, h10⟩
    · exact .pre
    · refine .of_ps h2 h3 (Rd.psW (u := u) (M := M ++ v) (hb.drop r) h6 (by rw [List.length_append]; omega) ?_)
      rw [List.append_assoc, List.append_assoc]
      exact h10
  · have key : ∀ (r : Nat) (P : List Int), P.length ≤ 3 → rdLs rdB (P ++ flB (X.drop r)) = some (xs, k) → Edit X xs := fun r P hP h2 => by
      have h3 := Edit.of_ps (s := 0) (Nat.zero_le r) (Nat.zero_le _) (head_read (hb.drop r) hP h2)
      exact h3
    have hlt : ((N ++ flB X).take a).length ≤ 1 := by rw [List.length_take]; omega
    by_cases h2 : a' ≤ N.length
    · rw [List.drop_append, show a' - N.length = 0 by omega, List.drop_zero, ← List.append_assoc, List.take_append, show a - N.length = 0 by omega, List.take_zero, List.append_nil] at h
      refine key 0 _ ?_ h
      rw [List.length_append, List.length_append, List.length_take, List.length_drop]
      omega
    · obtain ⟨r, v, h3, h4⟩ := fl_suf X (a' - N.length)
      rw [List.drop_append, List.drop_of_length_le (by omega), List.nil_append, h3, ← List.append_assoc] at h
      refine key r _ ?_ h
      rw [List.length_append, List.length_append]
      omega
theorem app_len2 {nm : Str} {wd : Nat} {ns : List Int} (hw : Wd wd) (h : ns.length ≤ 64) : (appF nm wd ns).length ≤ 128 := by
  unfold appF
  split
  · rw [dlt_law, mapR_len]; omega
  · split
    · rw [pln_len hw]; omega
    · split
      · have := rns_len2 ns; omega
      · have := kz_le ns ns.length
        rw [zer_len]; omega
theorem app_sR (wd : Nat) (ns : List Int) : appF sR wd ns = rns ns := by
  unfold appF
  rw [if_neg (by decide), if_neg (by decide), if_pos rfl]
theorem rev3 {nms : List Str} {a b c : Str} (h : nms.reverse = [a, b, c]) : nms = [c, b, a] := by
  have := congrArg List.reverse h
  rw [List.reverse_reverse] at this
  exact this
/-- whatever one byte makes of a content: what is made of it on the way back stays small -/
theorem sm_edit {wd : Nat} {nms : List Str} {x0 xs : List Int} (hw : Wd wd) (hn : nms.length ≤ 3) (hb : By x0) (hl : x0.length ≤ 64) (he : Edit (appC nms wd x0) xs) (hbx : By xs) : smC wd nms.reverse xs := by
  have h1 := appC_len hw nms x0
  have h2 : 2 ^ nms.length ≤ 2 ^ 3 := Nat.pow_le_pow_right (by decide) hn
  have h3 : 2 ^ nms.length * (x0.length + 2) ≤ 2 ^ 3 * (64 + 2) := Nat.mul_le_mul h2 (by omega)
  have h4 := he.len
  refine smA (by rw [List.length_reverse]; exact hn) hbx (by omega) fun f y2 y1 e h5 h6 => ?_
  have e := rev3 e
  subst e
  refine hard (x1 := appF f wd x0) (app_by hw hb) (app_len2 hw hl) ?_ hbx h5 h6
  have e : appC [f, sR, sR] wd x0 = appF sR wd (appF sR wd (appF f wd x0)) := rfl
  rw [e, app_sR, app_sR] at he
  exact he
theorem sm_other {wd w' : Nat} {nms : List Str} {x0 : List Int} (hw : Wd w') (hn : nms.length ≤ 3) (hb : By x0) (hl : x0.length ≤ 68) : smC wd nms.reverse (appC nms.tail w' x0) := by
  have h1 := appC_len hw nms.tail x0
  have h2 : 2 ^ nms.tail.length ≤ 2 ^ 2 := Nat.pow_le_pow_right (by decide) (by rw [List.length_tail]; omega)
  have h3 : 2 ^ nms.tail.length * (x0.length + 2) ≤ 2 ^ 2 * (68 + 2) := Nat.mul_le_mul h2 (by omega)
  refine smA (by rw [List.length_reverse]; exact hn) (appC_by hw _ hb) (by omega) fun f y2 y1 e h5 h6 => ?_
  have e := rev3 e
  subst e
  have e : appC [f, sR, sR].tail w' x0 = appF sR w' (appF sR w' x0) := rfl
  rw [e, app_sR, app_sR, unR_rns] at h5
  cases h5
  rw [unR_rns] at h6
  cases h6
  omega
theorem ct_len {wd : Nat} {nms : List Str} {x0 : List Int} (hw : Wd wd) (hn : nms.length ≤ 3) (hl : x0.length ≤ 68) : (appC nms wd x0).length ≤ 560 ∧ (lsB byB (appC nms wd x0)).length ≤ 1122 := by
  have h1 := appC_len hw nms x0
  have h2 : 2 ^ nms.length ≤ 2 ^ 3 := Nat.pow_le_pow_right (by decide) hn
  have h3 : 2 ^ nms.length * (x0.length + 2) ≤ 2 ^ 3 * (68 + 2) := Nat.mul_le_mul h2 (by omega)
  have h4 : (appC nms wd x0).length ≤ 560 := by omega
  have h5 := numB_len 1 (appC nms wd x0).length (by omega)
  have h6 := flat_le (wr := byB) (m := 2) (appC nms wd x0) fun z _ => (by_len z).2
  refine ⟨h4, ?_⟩
  unfold lsB
  rw [List.length_append]
  omega
theorem ct_edit {z : Str} {nms : List Str} {ns M : List Int} {a a' : Nat} (hz : z ∈ KS) (hn : nms.length ≤ 3) (hl : ns.length ≤ 16) (hM : M.length ≤ 1) (hMb : ∀ x ∈ M, 0 ≤ x ∧ x < 256) (ha : a ≤ a') : CtOk z nms ((chB z nms ns).take a ++ M ++ (chB z nms ns).drop a') ∧ ((chB z nms ns).take a ++ M ++ (chB z nms ns).drop a').length ≤ 5000 := by
  have hw := (k_abs z hz).1
  have hsl : (stV z ns).length ≤ 64 := by
    rw [st_len]
    rcases hw with h | h | h <;> rw [h] <;> omega
  have hc := ct_len hw hn (x0 := stV z ns) (by omega)
  have hlen : ((chB z nms ns).take a ++ M ++ (chB z nms ns).drop a').length ≤ 5000 := by
    have h2 : (chB z nms ns).length ≤ 1122 := hc.2
    rw [List.length_append, List.length_append, List.length_take, List.length_drop]
    omega
  have hcb := chB_b (z := z) (nms := nms) (ns := ns) hz
  have hb : ∀ x ∈ (chB z nms ns).take a ++ M ++ (chB z nms ns).drop a', 0 ≤ x ∧ x < 256 := fun x hx => by
    rcases List.mem_append.mp hx with hx | hx
    · rcases List.mem_append.mp hx with hx | hx
      · have := hcb x (List.mem_of_mem_take hx); omega
      · exact hMb x hx
    · have := hcb x (List.mem_of_mem_drop hx); omega
  exact ⟨⟨hb, by omega, fun xs k h => sm_edit hw hn (st_by z ns) hsl (edit_read (appC_by hw nms (st_by z ns)) (by have := hc.1; omega) hM ha h) (rdLs_rng h hb)⟩, hlen⟩
theorem ct_other {z z' : Str} {nms : List Str} {ns : List Int} (hz : z' ∈ KS) (hn : nms.length ≤ 3) (hl : ns.length ≤ 17) : CtOk z nms (chB z' nms.tail ns) ∧ (chB z' nms.tail ns).length ≤ 5000 := by
  have hw := (k_abs z' hz).1
  have hsl : (stV z' ns).length ≤ 68 := by
    rw [st_len]
    rcases hw with h | h | h <;> rw [h] <;> omega
  have hc := ct_len hw (nms := nms.tail) (by rw [List.length_tail]; omega) hsl
  have hlen : (chB z' nms.tail ns).length ≤ 1122 := hc.2
  have hcb := chB_b (z := z') (nms := nms.tail) (ns := ns) hz
  refine ⟨⟨fun x hx => by have := hcb x hx; omega, by omega, fun xs k h => ?_⟩, by omega⟩
  rw [chB_rd hz] at h
  cases h
  exact sm_other hw hn (st_by z' ns) hsl

section
variable {P : Program} {w : World} {K : PySem.W.Frag} {mg : Str → Option Value} {base : Heap}
def sp_law_chain4 (K : PySem.W.Frag) : Sp := fun vs H Q _ => ∃ (d : Int), vs = [.int d] ∧ 0 ≤ d ∧ d < 5000 ∧ ∀ nms : List Str, nms.length ≤ 3 → (∀ nm ∈ nms, nm = sD ∨ nm = sP ∨ nm = sR ∨ nm = sZ) → RetD K H Q (.tuple (nms.map PyData.str))
theorem d_law_chain4 (T : Top K mg) : Def P w K mg base CX0 1 "_law_chain" ["draw"] (sp_law_chain4 K) := by
  refine T.f__law_chain.ok sc__law_chain (by rintro vs H Q E ⟨d, rfl, _⟩; rfl) (fun f cdv A outer s H vs Q E hr h => ?_)
  obtain ⟨d, rfl, h0, h1, q⟩ := h
  refine ⟨_, (pss_cons (ps_set (i := 1) sc__law_chain.nd rfl (Or.inl rfl) (pe_lst pa_nil))
      (pss_cons (ps_for PassesOwn.never rfl (pi_range1 (by rfl) T.b_range (pa_cons (pe_op op_mod (pv 0) pe_int) pa_nil)) (pg_name (i := 2) sc__law_chain.nd rfl (Or.inl rfl)) (pss_one (ps_expr (pe_bm PySem.F.plainAttrs_list PySem.F.slot_list_append PySem.F.type_list_append mt_append (pv 1) (pa_cons (pe_ix (r := rIxL K) ix_list (pe_lst (pa_cons pe_str (pa_cons pe_str (pa_cons pe_str (pa_cons pe_str pa_nil))))) (pe_op op_mod (pe_op op_fdiv (pv 0) (pe_op op_mul pe_int (pe_op op_add (pv 2) pe_int))) pe_int) (fun _ _ => rfl)) pa_nil)))))
      (pss_one (ps_ret (pe_callTy (r := rTupS K) call_tuple_of (by rfl) T.b_tuple (by decide +kernel) (pa_cons (pv 1) pa_nil)))))), ?_⟩
  walk_at "rd"
  refine r_newL (Own.nil H) (Nat.zero_le _) fun p1 H1 o1 => ?_
  walk_at "rd"
  obtain ⟨n, hn⟩ : ∃ n : Nat, d % 4 = n := ⟨(d % 4).toNat, by omega⟩
  rw [hn]
  refine forR1 (n := n) rfl (by omega) (fun i σ' H' => ∃ (nms : List Str) (v : Option V), σ' = [some (.int d), some (.ref p1), v] ∧ nms.length = i ∧ (∀ nm ∈ nms, nm = sD ∨ nm = sP ∨ nm = sR ∨ nm = sZ) ∧ Own H H' [(p1, .lst (nms.map V.str))]) ⟨[], _, rfl, rfl, (fun nm h => by cases h), o1⟩ ?_ ?_
  · rintro i σ' H' hi ⟨nms, v, rfl, hl, hm, o⟩
    walk_at "rd"
    refine r_newL o (Nat.le_of_ble_eq_true rfl) fun p2 H2 o2 => ?_
    walk_at "rd"
    refine r_ixS (zs := [sD, sP, sR, sZ]) (o2.sqL 0 rfl) (by omega) (show _ < (4 : Int) by omega) fun z hz e => ?_
    walk_at "rd"
    refine r_app o2 1 rfl (by rw [List.length_map]; omega) fun H3 o3 => ?_
    walk_at "rd"
    refine ⟨nms ++ [z], _, rfl, by rw [List.length_append, hl]; rfl, fun nm hm2 => ?_, ?_⟩
    · rcases List.mem_append.mp hm2 with h | h
      · exact hm nm h
      · rw [List.mem_singleton.mp h]
        simp only [List.mem_cons, List.not_mem_nil, or_false] at hz
        exact hz
    · rw [List.map_append]
      exact o3.tl
  · rintro σ' H' ⟨nms, v, rfl, hl, hm, o⟩
    walk_at "rd"
    refine r_tupLs o (o.sqL 0 rfl) fun t H2 s2 o2 h2 => ?_
    exact (q nms (by omega) hm).mk o2 (.tup h2 (TpAll.strs nms))
theorem prod16 {cs : List Int} (hl : cs.length ≤ 2) (hb : ∀ x ∈ cs, 1 ≤ x ∧ x ≤ 4) : ∃ n : Nat, prodL cs = n ∧ 1 ≤ n ∧ n ≤ 16 := by
  match cs, hl with
  | [], _ => exact ⟨1, rfl, by decide, by decide⟩
  | [a], _ =>
    have := hb a List.mem_cons_self
    exact ⟨a.toNat, by show 1 * a = _; omega, by omega, by omega⟩
  | [a, b], _ =>
    have h1 := hb a List.mem_cons_self
    have h2 := hb b (List.mem_cons_of_mem _ List.mem_cons_self)
    have e : prodL [a, b] = a * b := by show 1 * a * b = _; rw [Int.one_mul]
    have h3 : a = 1 ∨ a = 2 ∨ a = 3 ∨ a = 4 := by omega
    refine ⟨(a * b).toNat, ?_, ?_, ?_⟩ <;> rcases h3 with rfl | rfl | rfl | rfl <;> (try rw [e]) <;> omega
  | _ :: _ :: _ :: _, hl => exact absurd hl (by simp)
theorem decC_len {z : Str} {cs : List Int} {nms : List Str} {c ns : List Int} (h : decC z cs nms c = some ns) : ns.length = (prodL cs).toNat := by
  rw [decC_rb] at h
  cases h1 : (rbV c).bind (undC (kN z) nms.reverse) with
  | none => rw [h1] at h; cases h
  | some ys =>
    rw [h1] at h
    have h : (if (ys.length : Int) ≠ (kN z : Int) * prodL cs then none else some (ldV z ys (prodL cs).toNat)) = some ns := h
    split at h
    · cases h
    · cases h
      exact ld_len _ _ _
theorem one_rng : ∀ z ∈ KS, kLow z ≤ 1 ∧ 1 ≤ kHigh z := by decide +kernel
def lawK : Nat := 13
theorem ok_law (hP : PrOk P) {f : Addr} {fd : FuncData} (F : Fun K "law" "law" s_law f fd) (T : Top K mg) : FnOk P w K mg base CX0 lawK f fd ["script"] (spLaw K) := by
  obtain ⟨C, C_Layout⟩ := T.c_Layout
  obtain ⟨C_TesseraError, C_Unreadable, C_BadFilter, R⟩ := T.errs
  have E_Unreadable := ini_Unreadable (P := P) (w := w) (base := base) hP T.b_super (d_told T) R.c_Unreadable R.i_Unreadable
  have EH_Unreadable := inih_Unreadable (P := P) (w := w) (base := base) hP T.b_super (w_told T) R.c_Unreadable R.i_Unreadable
  have E_BadFilter := ini_BadFilter (P := P) (w := w) (base := base) hP T.b_super R.c_BadFilter R.i_BadFilter
  have G__law_stream : Def P w K mg base CX0 2 "_law_stream" ["script", "count"] (sp_stream K) := d_stream T
  have G__law_kind : Def P w K mg base CX0 1 "_law_kind" ["draw"] sp_kkind := d_kind T
  have G__law_value : Def P w K mg base CX0 2 "_law_value" ["kind", "draw"] sp_kval := d_value T
  have G__law_many : Def P w K mg base CX0 1 "_law_many" ["shape"] (sp_law_manyT K) := d_law_manyT T
  have G__law_chunk_shape : Def P w K mg base CX0 1 "_law_chunk_shape" ["draws", "at", "dimensions"] (sp_law_chunk_shape K) := d_law_chunk_shape T
  have G__law_chain : Def P w K mg base CX0 1 "_law_chain" ["draw"] (sp_law_chain4 K) := d_law_chain4 T
  have G__law_chunk_content : Def P w K mg base CX0 3 "_law_chunk_content" ["kind", "filters", "values"] (sp_law_content K) := d_law_content T
  have G__law_same_ints : Def P w K mg base CX0 3 "_law_same_ints" ["x", "due"] (sp_same_ints K) := d_same_ints T
  have G__law_chunk_values : Def P w K mg base CX0 3 "_law_chunk_values" ["kind", "filters", "many", "content"] (sp_lcv K) := d_lcv T
  have I_Layout : KDef P w K mg base CX0 1 C ["self", "kind", "chunk_shape", "fill", "filters"] (sp_lyinit C) := d_lyinit T C_Layout
  have G_decode_chunk : Def P w K mg base CX0 10 "decode_chunk" ["layout", "content"] (sp_decG K C) := d_decG T R E_Unreadable EH_Unreadable E_BadFilter C_Layout
  refine F.ok sc_law (by rintro vs H Q E ⟨a, ss, rfl, _⟩; rfl) (fun cdv A outer s H vs Q E hr h => ?_)
  obtain ⟨a, ss, rfl, hS, hl, hb, q⟩ := h
  refine ⟨_, (pss_cons (ps_set (i := 1) sc_law.nd rfl (Or.inr rfl) (pe_callD G__law_stream (hr.mono (by decide)) (pa_cons (pv 0) (pa_cons pe_int pa_nil))))
      (pss_cons (ps_set (i := 2) sc_law.nd rfl (Or.inr rfl) (pe_callD G__law_kind (hr.mono (by decide)) (pa_cons (pe_ix (r := rIxL K) ix_list (pv 1) pe_int (fun _ _ => rfl)) pa_nil)))
      (pss_cons (ps_set (i := 3) sc_law.nd rfl (Or.inl rfl) (pe_callD G__law_chunk_shape (hr.mono (by decide)) (pa_cons (pv 1) (pa_cons pe_int (pa_cons (pe_op op_mod (pe_ix (r := rIxL K) ix_list (pv 1) pe_int (fun _ _ => rfl)) pe_int) pa_nil)))))
      (pss_cons (ps_set (i := 4) sc_law.nd rfl (Or.inl rfl) (pe_callD G__law_chain (hr.mono (by decide)) (pa_cons (pe_ix (r := rIxL K) ix_list (pv 1) pe_int (fun _ _ => rfl)) pa_nil)))
      (pss_cons (ps_set (i := 5) sc_law.nd rfl (Or.inl rfl) (pe_makeD I_Layout C_Layout.at_ (hr.mono (by decide)) (pa_cons (pv 2) (pa_cons (pv 3) (pa_cons pe_int (pa_cons (pv 4) pa_nil))))))
      (pss_cons (ps_set (i := 6) sc_law.nd rfl (Or.inl rfl) (pe_callD G__law_many (hr.mono (by decide)) (pa_cons (pv 3) pa_nil)))
      (pss_cons (ps_setLc (i := 7) (own := [("k", 8)]) (g := (gName 8)) (tt := tYes) rfl sc_law.nd rfl rfl (sw_true rfl rfl rfl (by decide +kernel)) (pi_range1 (by rfl) T.b_range (pa_cons (pv 6) pa_nil)) (blkOk_by (N := N_law) (sc := defScope s_law) (by decide +kernel)) (fun _ _ _ _ _ => (pg_name (i := 8) sc_law.nd rfl (Or.inl rfl))) (fun _ _ _ _ _ => pts_nil) (fun _ _ _ _ _ => (pe_callD G__law_value (hr.mono (by decide)) (pa_cons (pv 2) (pa_cons (pe_op op_add (pe_ix (r := rIxL K) ix_list (pv 1) (pe_op op_mod (pe_op op_add pe_int (pv 8)) pe_int) (fun _ _ => rfl)) (pe_op op_mul pe_int (pv 8))) pa_nil)))))
      (Evl.pss_cut (ps_if (pt_cmpR op_eq (pe_op op_mod (pe_ix (r := rIxL K) ix_list (pv 1) pe_int (fun _ _ => rfl)) pe_int) pe_int (nomark _)) (pss_one (ps_set (i := 7) sc_law.nd rfl (Or.inl rfl) (pe_op op_rep (pe_lst (pa_cons (pe_ix (r := rIxL K) ix_list (pv 7) pe_int (fun _ _ => rfl)) pa_nil)) (pv 6)))) pss_nil)
      (pss_cons (ps_set (i := 9) sc_law.nd rfl (Or.inl rfl) (pe_callD G__law_chunk_content (hr.mono (by decide)) (pa_cons (pv 2) (pa_cons (pv 4) (pa_cons (pv 7) pa_nil)))))
      (pss_cons (ps_set (i := 10) sc_law.nd rfl (Or.inl rfl) (pe_op op_mod (pe_ix (r := rIxL K) ix_list (pv 1) pe_int (fun _ _ => rfl)) (pe_op op_add (pe_callB (r := Evl.rLenS K) call_len_seq (by rfl) T.b_len (by decide +kernel) (pa_cons (pv 9) pa_nil)) pe_int)))
      (pss_cons (ps_set (i := 11) sc_law.nd rfl (Or.inl rfl) (pe_op op_mod (pe_ix (r := rIxL K) ix_list (pv 1) pe_int (fun _ _ => rfl)) pe_int))
      (pss_cons (ps_set (i := 12) sc_law.nd rfl (Or.inl rfl) (pe_ix (r := rIxL K) ix_list (pe_lst (pa_cons (pe_op op_mod (pe_ix (r := rIxL K) ix_list (pv 1) pe_int (fun _ _ => rfl)) pe_int) (pa_cons pe_int (pa_cons pe_int (pa_cons (pe_op op_add pe_int (pe_op op_mod (pe_ix (r := rIxL K) ix_list (pv 1) pe_int (fun _ _ => rfl)) pe_int)) (pa_cons pe_int pa_nil)))))) (pe_op op_mod (pe_ix (r := rIxL K) ix_list (pv 1) pe_int (fun _ _ => rfl)) pe_int) (fun _ _ => rfl)))
      (Evl.pss_cut (ps_if (pt_cmpR op_eq (pv 11) pe_int (nomark _)) (pss_one (ps_set (i := 9) sc_law.nd rfl (Or.inl rfl) (pe_op op_cat (pe_op op_cat (pe_slice (r := rSlL K) sl_list (pv 9) po_none (po_some (pv 10))) (pe_lst (pa_cons (pv 12) pa_nil))) (pe_slice (r := rSlL K) sl_list (pv 9) (po_some (pe_op op_add (pv 10) pe_int)) po_none)))) (pss_one (ps_if (pt_cmpR op_eq (pv 11) pe_int (nomark _)) (pss_one (ps_set (i := 9) sc_law.nd rfl (Or.inl rfl) (pe_op op_cat (pe_slice (r := rSlL K) sl_list (pv 9) po_none (po_some (pv 10))) (pe_slice (r := rSlL K) sl_list (pv 9) (po_some (pe_op op_add (pv 10) pe_int)) po_none)))) (pss_one (ps_if (pt_cmpR op_eq (pv 11) pe_int (nomark _)) (pss_one (ps_set (i := 9) sc_law.nd rfl (Or.inl rfl) (pe_op op_cat (pe_op op_cat (pe_slice (r := rSlL K) sl_list (pv 9) po_none (po_some (pv 10))) (pe_lst (pa_cons (pv 12) pa_nil))) (pe_slice (r := rSlL K) sl_list (pv 9) (po_some (pv 10)) po_none)))) (pss_one (ps_if (pt_cmpR op_eq (pv 11) pe_int (nomark _)) (pss_one (ps_set (i := 9) sc_law.nd rfl (Or.inl rfl) (pe_slice (r := rSlL K) sl_list (pv 9) po_none (po_some (pv 10))))) (pss_one (ps_if (pt_cmpR op_eq (pv 11) pe_int (nomark _)) (pss_one (ps_set (i := 9) sc_law.nd rfl (Or.inl rfl) (pe_op op_cat (pv 9) (pe_lst (pa_cons (pv 12) pa_nil))))) (pss_one (ps_if (pt_cmpR op_eq (pv 11) pe_int (nomark _)) (pss_one (ps_set (i := 9) sc_law.nd rfl (Or.inl rfl) (pe_callD G__law_chunk_content (hr.mono (by decide)) (pa_cons (pe_callD G__law_kind (hr.mono (by decide)) (pa_cons (pe_ix (r := rIxL K) ix_list (pv 1) pe_int (fun _ _ => rfl)) pa_nil)) (pa_cons (pe_slice (r := rSlA K) sl_tupA (pv 4) (po_some pe_int) po_none) (pa_cons (pe_op op_rep (pe_lst (pa_cons pe_int pa_nil)) (pe_op op_add (pv 6) (pe_op op_mod (pe_ix (r := rIxL K) ix_list (pv 1) pe_int (fun _ _ => rfl)) pe_int))) pa_nil)))))) pss_nil)))))))))))
      (pss_cons (ps_set (i := 13) sc_law.nd rfl (Or.inl rfl) (pe_callD G__law_chunk_values (hr.mono (by decide)) (pa_cons (pv 2) (pa_cons (pv 4) (pa_cons (pv 6) (pa_cons (pv 9) pa_nil))))))
      (pss_cons (ps_set (i := 14) sc_law.nd rfl (Or.inl rfl) (pe_callTy (r := Evl.rListS K) call_list_of (by rfl) T.b_list (by decide +kernel) (pa_cons (pv 9) pa_nil)))
      (pss_cons (ps_set (i := 15) sc_law.nd rfl (Or.inl rfl) (pe_callD G_decode_chunk (hr.mono (by decide)) (pa_cons (pv 5) (pa_cons (pv 14) pa_nil))))
      (pss_cons (ps_if (pt_cmpR (r := rNeD K) (op_neD hr.units) (pv 14) (pv 9) (nomark _)) (pss_one (ps_ret pe_bl)) pss_nil)
      (pss_cons (ps_if (pt_cmpR (r := rIsNon) op_isN (pv 13) pe_non (nomark _)) (pss_one (ps_ret (pe_cmpR (r := rIsNon) op_isN (pv 15) pe_non (nomark _)))) pss_nil)
      (pss_one (ps_ret (pe_callD G__law_same_ints (hr.mono (by decide)) (pa_cons (pv 15) (pa_cons (pv 13) pa_nil))))))))))))))))))))))), ?_⟩
  walk_at "rd"
  refine ⟨_, _, 48, rfl, hS, by omega, fun dr hdl hd => r_ret1 (Own.nil H) fun p1 H1 o1 => ?_⟩
  have g0 := hd.gi (i := 0) (by omega) (by omega)
  have g4 := hd.gi (i := 4) (by omega) (by omega)
  have g5 := hd.gi (i := 5) (by omega) (by omega)
  have g40 := hd.gi (i := 40) (by omega) (by omega)
  have g41 := hd.gi (i := 41) (by omega) (by omega)
  have g42 := hd.gi (i := 42) (by omega) (by omega)
  have g43 := hd.gi (i := 43) (by omega) (by omega)
  have g44 := hd.gi (i := 44) (by omega) (by omega)
  have g45 := hd.gi (i := 45) (by omega) (by omega)
  walk_at "rd"
  refine ⟨_, rfl, by omega, fun z hz H2 s2 => ?_⟩
  have o2 := o1.mono s2
  walk_at "rd"
  obtain ⟨dm, hdm, hdm2⟩ : ∃ dm : Nat, gi dr 4 % 3 = dm ∧ dm ≤ 2 := ⟨(gi dr 4 % 3).toNat, by omega, by omega⟩
  rw [hdm]
  refine ⟨p1, dr, 1, dm, rfl, o2.sqL 0 rfl, hd, by omega, by omega, by omega, by omega, fun cs hcl hcb => r_retD o2 fun u3 H3 s3 o3 h3 => ?_⟩
  obtain ⟨ca, rfl, hca⟩ := Tp.invI h3
  walk_at "rd"
  refine ⟨_, rfl, by omega, by omega, fun nms hnl hnm => r_retD o3 fun u5 H5 s5 o5 h5 => ?_⟩
  obtain ⟨ta, ts, rfl, hta, htt⟩ := h5.inv
  have e := strs_inv htt
  subst e
  walk_at "rd"
  intro x dx nx ndx nex
  have oa := o5.new (u := .own x) ndx
  have ob := oa.new (u := .ins C dx []) (show upd H5 dx (.own x) x = none by rw [upd_ne (Ne.symm nex)]; exact nx)
  refine ⟨x, dx, _, _, _, _, rfl, ob.at 0 rfl, rfl, ?_⟩
  have oc := ob.set (v := .ins C dx (lyF (.str z) (.ref ca) (.int 0) (.ref ta))) 0 rfl
  have s45 : Stp H5 (upd (upd (upd H5 dx (.own x)) x (.ins C dx [])) x (.ins C dx (lyF (.str z) (.ref ca) (.int 0) (.ref ta)))) := by
    rw [upd_upd]
    refine (Stp.of (same_new ndx)).trans (.of (same_new ?_))
    rw [upd_ne (Ne.symm nex)]
    exact nx
  generalize upd (upd (upd H5 dx (.own x)) x (.ins C dx [])) x (.ins C dx (lyF (.str z) (.ref ca) (.int 0) (.ref ta))) = B at *
  have hcB := s45.sq ((Stp.of s5).sq hca)
  have htB := s45.sq hta
  have hdB : SqL K B p1 (dr.map V.int) := oc.sqL 2 rfl
  have hxB : IsLy K B C x z cs 0 nms := ⟨dx, ca, ta, oc.at 0 rfl, hcB, htB⟩
  clear o1 o2 o3 o5 oa ob oc h3 h5 htt hta hca s45 s2 s3 s5 nx ndx nex
  walk_at "rd"
  refine ⟨_, cs, rfl, hcB, (fun v hv => by have := hcb v hv; omega), ?_⟩
  obtain ⟨n, hpn, hn1, hn2⟩ := prod16 (by omega) hcb
  rw [hpn]
  have hly : LyM z cs nms := ⟨hz, by omega, fun c hc => by have := hcb c hc; omega, by omega⟩
  walk_at "rd"
  refine lcR1I (n := n) (fun k => valF z (gi dr ((7 + (k : Int)) % 48) + 7 * (k : Int))) (Own.nil B) rfl (by omega) (fun x => rfl) ?_ fun p6 H6 o6 => ?_
  · intro i p zs H' Q' hi o' q'
    have gk := hd.gi (i := (7 + (i : Int)) % 48) (by omega) (by omega)
    have hdk : SqL K H' p1 (dr.map V.int) := o'.old hdB
    walk_at "rd"
    exact ⟨_, _, rfl, hz, by omega, by omega, q'⟩
  have hvb : ∀ v ∈ mapR n (fun k => valF z (gi dr ((7 + (k : Int)) % 48) + 7 * (k : Int))), kLow z ≤ v ∧ v ≤ kHigh z := by
    intro v hv
    obtain ⟨k, _, rfl⟩ := mapR_mem hv
    exact valF_rng hz _
  have hvl : (mapR n (fun k => valF z (gi dr ((7 + (k : Int)) % 48) + 7 * (k : Int)))).length = n := mapR_len _ _
  generalize mapR n (fun k => valF z (gi dr ((7 + (k : Int)) % 48) + 7 * (k : Int))) = vals0 at *
  have hd6 : SqL K H6 p1 (dr.map V.int) := o6.old hdB
  walk_at "rd"
  refine ⟨fun σ' H7 => ∃ (pv : Addr) (vals : List Int), σ' = [some (.ref a), some (.ref p1), some (.str z), some (.ref ca), some (.ref ta), some (.ref x), some (.int (n : Int)), some (.ref pv), none, none, none, none, none, none, none, none] ∧ vals.length = n ∧ (∀ v ∈ vals, kLow z ≤ v ∧ v ≤ kHigh z) ∧ Own B H7 [(pv, .lst (vals.map V.int))], ?_, ?_⟩
  · walk_at "rd"
    refine rif (fun _ => ?_) fun _ => ?_
    · walk_at "rd"
      refine r_newL o6 (Nat.le_of_ble_eq_true rfl) fun p7 H7 o7 => ?_
      walk_at "rd"
      refine r_rep (i := (n : Int)) (n := n) o7 (o7.at 0 rfl) rfl (by omega) (by omega) fun p8 H8 s8 o8 => ?_
      walk_at "rd"
      refine ⟨p8, List.replicate n (gi vals0 0), rfl, List.length_replicate, fun v hv => ?_, by rw [List.map_replicate]; exact o8.pick1 0 rfl⟩
      rw [List.eq_of_mem_replicate hv]
      exact hvb _ (gi_mem (by omega) (by omega))
    · walk_at "rd"
      exact ⟨p6, vals0, rfl, hvl, hvb, o6⟩
  rintro σ' H7 ⟨pv, vals, rfl, hvl2, hvb2, o7⟩
  clear hvb hvl o6 hd6
  have hd7 : SqL K H7 p1 (dr.map V.int) := o7.old hdB
  walk_at "rd"
  refine ⟨z, ta, pv, nms, vals, rfl, hz, o7.oldT htB, by omega, o7.sqL 0 rfl, by omega, hvb2, r_ret1 o7 fun pc H8 o8 => ?_⟩
  change Own B H8 ((pc, .lst ((chB z nms vals).map V.int)) :: _) at o8
  have hlc : (chB z nms vals).length ≤ 5000 := by
    have h := (ct_edit (M := []) (a := (chB z nms vals).length) (a' := (chB z nms vals).length) hz hnl (show vals.length ≤ 16 by omega) (Nat.zero_le _) (fun x hx => by cases hx) (Nat.le_refl _)).2
    rw [List.take_length, List.drop_length, List.append_nil, List.append_nil] at h
    exact h
  have hd8 : SqL K H8 p1 (dr.map V.int) := o8.old hdB
  walk_at "rd"
  rw [List.length_map]
  have m1 := Int.emod_nonneg (gi dr 40) (show (((chB z nms vals).length : Int) + 1) ≠ 0 by omega)
  have m2 := Int.emod_lt_of_pos (gi dr 40) (show (0 : Int) < ((chB z nms vals).length : Int) + 1 by omega)
  obtain ⟨at_, hat⟩ : ∃ at_ : Nat, gi dr 40 % (((chB z nms vals).length : Int) + 1) = at_ := ⟨(gi dr 40 % (((chB z nms vals).length : Int) + 1)).toNat, by omega⟩
  rw [hat] at m2 ⊢
  walk_at "rd"
  refine r_newL o8 (Nat.le_of_ble_eq_true rfl) fun p9 H9 o9 => ?_
  have hd9 : SqL K H9 p1 (dr.map V.int) := o9.old hdB
  walk_at "rd"
  refine r_ixI (i := gi dr 43 % 5) (ns := [gi dr 42 % 250, 249, 0, 250 + gi dr 42 % 6, 1]) (o9.sqL 0 rfl) (by omega) (show gi dr 43 % 5 < (5 : Int) by omega) ?_
  have hbt : 0 ≤ gi [gi dr 42 % 250, 249, 0, 250 + gi dr 42 % 6, 1] (gi dr 43 % 5) ∧ gi [gi dr 42 % 250, 249, 0, 250 + gi dr 42 % 6, 1] (gi dr 43 % 5) < 256 := by
    have h := gi_mem (ns := [gi dr 42 % 250, 249, 0, 250 + gi dr 42 % 6, 1]) (i := gi dr 43 % 5) (by omega) (show _ < (5 : Int) by omega)
    simp only [List.mem_cons, List.not_mem_nil, or_false] at h
    omega
  generalize gi [gi dr 42 % 250, 249, 0, 250 + gi dr 42 % 6, 1] (gi dr 43 % 5) = bt at *
  have o10 := o9.tl
  have ed : ∀ (M : List Int) (a a' : Nat), M.length ≤ 1 → (∀ x ∈ M, x = bt) → a ≤ a' → CtOk z nms ((chB z nms vals).take a ++ M ++ (chB z nms vals).drop a') ∧ ((chB z nms vals).take a ++ M ++ (chB z nms vals).drop a').length ≤ 5000 := fun M a a' h1 h2 h3 => ct_edit hz hnl (show vals.length ≤ 16 by omega) h1 (fun x hx => by rw [h2 x hx]; exact hbt) h3
  have oth : ∀ (z' : Str) (m : Nat), z' ∈ KS → m ≤ 17 → CtOk z nms (chB z' nms.tail (List.replicate m 1)) ∧ (chB z' nms.tail (List.replicate m 1)).length ≤ 5000 := fun z' m h1 h2 => ct_other h1 hnl (by rw [List.length_replicate]; exact h2)
  have o11 := o10.pick1 0 rfl
  clear o10 o9 o8 o7 hd8 hd7 hvb2
  generalize hcc : chB z nms vals = cc at *
  walk_at "rd"
  refine ⟨fun σ' H7 => ∃ (pv' : Addr) (ct : List Int), σ' = [some (.ref a), some (.ref p1), some (.str z), some (.ref ca), some (.ref ta), some (.ref x), some (.int (n : Int)), some (.ref pv), none, some (.ref pv'), some (.int (at_ : Int)), some (.int (gi dr 41 % 8)), some (.int bt), none, none, none] ∧ (CtOk z nms ct ∧ ct.length ≤ 5000) ∧ Own B H7 [(pv', .lst (ct.map V.int))], ?_, ?_⟩
  · have mc : ∀ (M : List Int) (a a' : Nat), (cc.map V.int).take a ++ M.map V.int ++ (cc.map V.int).drop a' = (cc.take a ++ M ++ cc.drop a').map V.int := fun M a a' => by rw [List.map_append, List.map_append, List.map_take, List.map_drop]
    walk_at "rd"
    refine rif (fun _ => ?_) fun _ => ?_
    · walk_at "rd"
      refine r_slL o11 (o11.sqL 0 rfl) fun q1 J1 u1 => ?_
      rw [cut_hi] at u1
      walk_at "rd"
      refine r_newL u1 (Nat.le_of_ble_eq_true rfl) fun q2 J2 u2 => ?_
      refine r_cat u2 (u2.at 1 rfl) (u2.at 0 rfl) (by rw [List.length_take, List.length_map]; show _ + 1 ≤ _; omega) fun q3 J3 u3 => ?_
      walk_at "rd"
      refine r_slL u3 (u3.sqL 3 rfl) fun q4 J4 u4 => ?_
      rw [show (at_ : Int) + 1 = ((at_ + 1 : Nat) : Int) by omega, cut_lo] at u4
      refine r_cat u4 (u4.at 1 rfl) (u4.at 0 rfl) (by rw [List.length_append, List.length_take, List.length_drop, List.length_map]; show _ + 1 + _ ≤ _; omega) fun q5 J5 u5 => ?_
      rw [show [V.int bt] = [bt].map V.int from rfl, mc] at u5
      walk_at "rd"
      exact ⟨q5, _, rfl, ed [bt] at_ (at_ + 1) (Nat.le_refl _) (fun x hx => List.mem_singleton.mp hx) (Nat.le_succ _), u5.pick1 0 rfl⟩
    walk_at "rd"
    refine rif (fun _ => ?_) fun _ => ?_
    · walk_at "rd"
      refine r_slL o11 (o11.sqL 0 rfl) fun q1 J1 u1 => ?_
      rw [cut_hi] at u1
      walk_at "rd"
      refine r_slL u1 (u1.sqL 1 rfl) fun q4 J4 u4 => ?_
      rw [show (at_ : Int) + 1 = ((at_ + 1 : Nat) : Int) by omega, cut_lo] at u4
      refine r_cat u4 (u4.at 1 rfl) (u4.at 0 rfl) (by rw [List.length_take, List.length_drop, List.length_map]; omega) fun q5 J5 u5 => ?_
      have e := mc [] at_ (at_ + 1)
      rw [List.map_nil, List.append_nil] at e
      rw [e] at u5
      walk_at "rd"
      exact ⟨q5, _, rfl, ed [] at_ (at_ + 1) (Nat.zero_le _) (fun x hx => by cases hx) (Nat.le_succ _), u5.pick1 0 rfl⟩
    walk_at "rd"
    refine rif (fun _ => ?_) fun _ => ?_
    · walk_at "rd"
      refine r_slL o11 (o11.sqL 0 rfl) fun q1 J1 u1 => ?_
      rw [cut_hi] at u1
      walk_at "rd"
      refine r_newL u1 (Nat.le_of_ble_eq_true rfl) fun q2 J2 u2 => ?_
      refine r_cat u2 (u2.at 1 rfl) (u2.at 0 rfl) (by rw [List.length_take, List.length_map]; show _ + 1 ≤ _; omega) fun q3 J3 u3 => ?_
      walk_at "rd"
      refine r_slL u3 (u3.sqL 3 rfl) fun q4 J4 u4 => ?_
      rw [cut_lo] at u4
      refine r_cat u4 (u4.at 1 rfl) (u4.at 0 rfl) (by rw [List.length_append, List.length_take, List.length_drop, List.length_map]; show _ + 1 + _ ≤ _; omega) fun q5 J5 u5 => ?_
      rw [show [V.int bt] = [bt].map V.int from rfl, mc] at u5
      walk_at "rd"
      exact ⟨q5, _, rfl, ed [bt] at_ at_ (Nat.le_refl _) (fun x hx => List.mem_singleton.mp hx) (Nat.le_refl _), u5.pick1 0 rfl⟩
    walk_at "rd"
    refine rif (fun _ => ?_) fun _ => ?_
    · walk_at "rd"
      refine r_slL o11 (o11.sqL 0 rfl) fun q1 J1 u1 => ?_
      rw [cut_hi, ← List.map_take] at u1
      walk_at "rd"
      have h := ed [] at_ cc.length (Nat.zero_le _) (fun x hx => by cases hx) (by omega)
      rw [List.drop_length, List.append_nil, List.append_nil] at h
      exact ⟨q1, _, rfl, h, u1.pick1 0 rfl⟩
    walk_at "rd"
    refine rif (fun _ => ?_) fun _ => ?_
    · walk_at "rd"
      refine r_newL o11 (Nat.le_of_ble_eq_true rfl) fun q2 J2 u2 => ?_
      refine r_cat u2 (u2.at 1 rfl) (u2.at 0 rfl) (by rw [List.length_map]; show _ + 1 ≤ _; omega) fun q3 J3 u3 => ?_
      rw [show [V.int bt] = [bt].map V.int from rfl, ← List.map_append] at u3
      walk_at "rd"
      have h := ed [bt] cc.length cc.length (Nat.le_refl _) (fun x hx => List.mem_singleton.mp hx) (Nat.le_refl _)
      rw [List.drop_length, List.append_nil, List.take_length] at h
      exact ⟨q3, _, rfl, h, u3.pick1 0 rfl⟩
    walk_at "rd"
    refine rif (fun _ => ?_) fun _ => ?_
    · walk_at "rd"
      refine ⟨_, rfl, by omega, fun z' hz' J1 t1 => ?_⟩
      have u1 := o11.mono t1
      walk_at "rd"
      refine r_slA u1 (u1.oldT htB) fun q2 J2 t2 u2 hq2 => ?_
      have hq2 : SqT K J2 q2 (nms.tail.map V.str) := by
        rw [show (some (1 : Int)) = some ((1 : Nat) : Int) from rfl, cut_lo, ← List.map_drop, List.drop_one] at hq2
        exact hq2
      walk_at "rd"
      refine r_newLs u2 (Nat.le_of_ble_eq_true rfl) fun q3 J3 t3 u3 => ?_
      have hd3 : SqL K J3 p1 (dr.map V.int) := u3.old hdB
      have hq3 : SqT K J3 q2 (nms.tail.map V.str) := t3.sq hq2
      walk_at "rd"
      obtain ⟨m, hm⟩ : ∃ m : Nat, (n : Int) + gi dr 43 % 2 = m := ⟨((n : Int) + gi dr 43 % 2).toNat, by omega⟩
      rw [hm]
      refine r_rep (i := (m : Int)) (n := m) u3 (u3.at 0 rfl) rfl (by omega) (by omega) fun q4 J4 t4 u4 => ?_
      rw [← List.map_replicate] at u4
      have hrg := one_rng z' hz'
      refine ⟨z', q2, q4, nms.tail, List.replicate m 1, rfl, hz', t4.sq hq3, by rw [List.length_tail]; omega, u4.sqL 0 rfl, by rw [List.length_replicate]; omega, (fun v hv => by rw [List.eq_of_mem_replicate hv]; exact hrg), r_ret1 u4 fun q5 J5 u5 => ?_⟩
      change Own B J5 ((q5, .lst ((chB z' nms.tail (List.replicate m 1)).map V.int)) :: _) at u5
      walk_at "rd"
      exact ⟨q5, _, rfl, oth z' m hz' (by omega), u5.pick1 0 rfl⟩
    · walk_at "rd"
      have h := ed [] cc.length cc.length (Nat.zero_le _) (fun x hx => by cases hx) (Nat.le_refl _)
      rw [List.drop_length, List.append_nil, List.append_nil, List.take_length] at h
      exact ⟨pc, _, rfl, h, o11⟩
  clear o11 hd9 ed oth
  rintro σ' H12 ⟨pc', ct, rfl, ⟨hct, hctl⟩, o12⟩
  walk_at "rd"
  cases hdc : decC z cs nms ct with
  | none =>
    refine ⟨z, ta, pc', cs, nms, ct, (by rw [hpn]; rfl), hly, o12.oldT htB, hnm, o12.sqL 0 rfl, hctl, hct, (fun ns h => by rw [hdc] at h; cases h), fun _ H13 s13 => ?_⟩
    have o13 := o12.mono s13
    walk_at "rd"
    refine r_list o13 (o13.sqL 0 rfl) fun p14 H14 o14 => ?_
    walk_at "rd"
    refine ⟨x, p14, z, cs, 0, nms, ct, rfl, hxB.up o14.ex, hly, o14.sqL 0 rfl, hct, (fun ns h => by rw [hdc] at h; cases h), fun _ H15 s15 => ?_⟩
    have o15 := o14.mono s15
    walk_at "rd"
    exact q _
  | some ns =>
    refine ⟨z, ta, pc', cs, nms, ct, (by rw [hpn]; rfl), hly, o12.oldT htB, hnm, o12.sqL 0 rfl, hctl, hct, fun ns' h => ?_, fun h => by rw [hdc] at h; cases h⟩
    rw [hdc] at h
    cases h
    refine r_ret1 o12 fun p13 H13 o13 => ?_
    walk_at "rd"
    refine r_list o13 (o13.sqL 1 rfl) fun p14 H14 o14 => ?_
    walk_at "rd"
    refine ⟨x, p14, z, cs, 0, nms, ct, rfl, hxB.up o14.ex, hly, o14.sqL 0 rfl, hct, fun ns' h => ?_, fun h => by rw [hdc] at h; cases h⟩
    rw [hdc] at h
    cases h
    refine r_ret1 o14 fun p15 H15 o15 => ?_
    walk_at "rd"
    have hnl2 := decC_len hdc
    refine ⟨p15, p13, ns, rfl, o15.at 0 rfl, o15.sqL 2 rfl, by omega, ?_⟩
    walk_at "rd"
    exact q _
end

end My
theorem PySem.Challenge.cw_tessera_k48_chunks_read_or_damaged_holds : PySem.Challenge.rw_tessera_k48_chunks_read_or_damaged.Holds := by
  exact My.head_ok fun w K mg T base f fd F => My.ok_law (P := PySem.Challenge.rw_tessera_k48_chunks_read_or_damaged.prog) (w := w) (base := base) My.pr_ok F T


