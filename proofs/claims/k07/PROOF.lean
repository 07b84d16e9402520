import PyProof.Rows.All
import Wide.All
import OpenK.AllK
import Wide.FinOn
import KE.KStateDown
import Lean
import HandS.ForMost
import HandS.IsInst
import HandS.TupAny
import HandS.TupMul
import HandS.Walk
import HandS.NoneIn
import HandS.Wide
import HandS.Style
import HandS.Evl
import HandS.Defaults
import HandS.Head0
import HandS.Head1
import HandS.Head2
import HandS.HeadEnd
import HandS.HeadHook1
import HandS.HeadHook2
import PyProof.ReprRoads
import HandS.Zip
import KE.DataMinMax
import HandS.TupLe
import HandS.More
import KE.GoesEnum
import PySem.Challenge.RW_stintpurse_k07_heights_and_dips
set_option Elab.async false
set_option synthInstance.maxSize 100000
set_option synthInstance.maxHeartbeats 0
set_option linter.all false
set_option maxRecDepth 100000
set_option maxHeartbeats 8000000
namespace Lw
open PySem PySem.Spec PyProof.Rows L2

/-! ### heaps -/
/-- all that was tracked stays, but for what stands at s -/
def But (s : Addr) (H H' : Hp) : Prop := ∀ b o, b ≠ s → H b = some o → H' b = some o
theorem But.refl (s : Addr) (H : Hp) : But s H H := fun _ _ _ h => h
theorem But.trans {s : Addr} {H H1 H2 : Hp} (a : But s H H1) (b : But s H1 H2) : But s H H2 := fun c o n h => b c o n (a c o n h)
theorem But.of {s : Addr} {H H' : Hp} (a : Same H H') : But s H H' := fun b o _ h => a b o h
theorem But.put {s : Addr} {H : Hp} {o : HO} : But s H (upd H s o) := fun b x n h => by rw [upd_ne n]; exact h
theorem Same.new {H : Hp} {p : Addr} {o : HO} (h : H p = none) : Same H (upd H p o) := fun b x e => by
  rw [upd_ne (ne_of_none e h)]; exact e
theorem But.new {s : Addr} {H : Hp} {p : Addr} {o : HO} (h : H p = none) : But s H (upd H p o) := But.of (Same.new h)
/-- what holds of tuples stays -/
def Tups (H H' : Hp) : Prop := ∀ b xs, H b = some (.tup xs) → H' b = some (.tup xs)
theorem Tups.refl (H : Hp) : Tups H H := fun _ _ h => h
theorem Tups.trans {H H1 H2 : Hp} (a : Tups H H1) (b : Tups H1 H2) : Tups H H2 := fun c o h => b c o (a c o h)
theorem Same.tups {H H' : Hp} (a : Same H H') : Tups H H' := fun b xs h => a b _ h

/-! ### data: whole numbers, texts, truths, None, tuples of such -/
inductive D where
  | n | b (x : Bool) | i (x : Int) | s (x : Str) | t (l : List D)
mutual
def At (H : Hp) : D → V → Prop
  | .n, v => v = .non
  | .b x, v => v = .bl x
  | .i x, v => v = .int x
  | .s x, v => v = .str x
  | .t l, v => ∃ a vs, v = .ref a ∧ H a = some (.tup vs) ∧ AtL H l vs
def AtL (H : Hp) : List D → List V → Prop
  | [], vs => vs = []
  | d :: l, vs => ∃ v r, vs = v :: r ∧ At H d v ∧ AtL H l r
end
mutual
theorem At.up {H H' : Hp} (T : Tups H H') : ∀ (d : D) (v : V), At H d v → At H' d v
  | .n, v, h => by unfold At at h ⊢; exact h
  | .b x, v, h => by unfold At at h ⊢; exact h
  | .i x, v, h => by unfold At at h ⊢; exact h
  | .s x, v, h => by unfold At at h ⊢; exact h
  | .t l, v, h => by
    unfold At at h ⊢
    obtain ⟨a, vs, e, ha, r⟩ := h
    exact ⟨a, vs, e, T _ _ ha, AtL.up T l vs r⟩
theorem AtL.up {H H' : Hp} (T : Tups H H') : ∀ (l : List D) (vs : List V), AtL H l vs → AtL H' l vs
  | [], vs, h => by unfold AtL at h ⊢; exact h
  | d :: l, vs, h => by
    unfold AtL at h ⊢
    obtain ⟨v, r, e, h1, h2⟩ := h
    exact ⟨v, r, e, At.up T d v h1, AtL.up T l r h2⟩
end
theorem AtL.length {H : Hp} : ∀ {l : List D} {vs : List V}, AtL H l vs → vs.length = l.length
  | [], vs, h => by unfold AtL at h; rw [h]; rfl
  | d :: l, vs, h => by
    unfold AtL at h
    obtain ⟨v, r, e, _, h2⟩ := h
    rw [e, List.length_cons, List.length_cons, AtL.length h2]
theorem AtL.get {H : Hp} : ∀ {l : List D} {vs : List V} {i : Nat} {d : D}, AtL H l vs → l[i]? = some d → ∃ v, vs[i]? = some v ∧ At H d v
  | [], vs, i, d, h, e => by simp at e
  | d :: l, vs, 0, d', h, e => by
    unfold AtL at h
    obtain ⟨v, r, e1, h1, h2⟩ := h
    have e2 : d = d' := Option.some.inj e
    subst e2
    exact ⟨v, by rw [e1]; rfl, h1⟩
  | d :: l, vs, i + 1, d', h, e => by
    unfold AtL at h
    obtain ⟨v, r, e1, h1, h2⟩ := h
    obtain ⟨u, g, z⟩ := AtL.get h2 (i := i) (d := d') e
    exact ⟨u, by rw [e1]; exact g, z⟩
theorem AtL.get' {H : Hp} {l : List D} {vs : List V} {i : Nat} {v : V} (h : AtL H l vs) (e : vs[i]? = some v) : ∃ d, l[i]? = some d ∧ At H d v := by
  have hl := h.length
  have hi : i < l.length := by
    rw [← hl]
    exact (List.getElem?_eq_some_iff.mp e).1
  obtain ⟨u, g, z⟩ := h.get (i := i) (d := l[i]) (List.getElem?_eq_getElem hi)
  rw [e] at g
  cases g
  exact ⟨l[i], List.getElem?_eq_getElem hi, z⟩
theorem AtL.of {H : Hp} : ∀ {l : List D} {vs : List V}, vs.length = l.length → (∀ (i : Nat) (d : D) (v : V), l[i]? = some d → vs[i]? = some v → At H d v) → AtL H l vs
  | [], vs, hl, h => by
    unfold AtL
    exact List.eq_nil_of_length_eq_zero hl
  | d :: l, [], hl, h => by simp at hl
  | d :: l, v :: r, hl, h => by
    unfold AtL
    exact ⟨v, r, rfl, h 0 d v rfl rfl, AtL.of (by simpa using hl) fun i d' v' e1 e2 => h (i + 1) d' v' e1 e2⟩
theorem AtL.drop {H : Hp} {l : List D} {vs : List V} (h : AtL H l vs) (k : Nat) : AtL H (l.drop k) (vs.drop k) :=
  AtL.of (by rw [List.length_drop, List.length_drop, h.length]) fun i d v e1 e2 => by
    rw [List.getElem?_drop] at e1 e2
    obtain ⟨u, g, z⟩ := h.get e1
    rw [e2] at g
    cases g
    exact z
theorem AtL.take {H : Hp} {l : List D} {vs : List V} (h : AtL H l vs) (k : Nat) : AtL H (l.take k) (vs.take k) :=
  AtL.of (by rw [List.length_take, List.length_take, h.length]) fun i d v e1 e2 => by
    by_cases hi : i < k
    · rw [List.getElem?_take_of_lt hi] at e1 e2
      obtain ⟨u, g, z⟩ := h.get e1
      rw [e2] at g
      cases g
      exact z
    · rw [List.getElem?_take_eq_none (by omega)] at e1
      cases e1
theorem AtL.append {H : Hp} : ∀ {l l' : List D} {vs vs' : List V}, AtL H l vs → AtL H l' vs' → AtL H (l ++ l') (vs ++ vs')
  | [], l', vs, vs', h, h' => by
    unfold AtL at h
    rw [h]
    exact h'
  | d :: l, l', vs, vs', h, h' => by
    unfold AtL at h
    obtain ⟨v, r, e, h1, h2⟩ := h
    rw [e, List.cons_append, List.cons_append]
    unfold AtL
    exact ⟨v, _, rfl, h1, AtL.append h2 h'⟩
theorem AtL.nil {H : Hp} : AtL H [] [] := by unfold AtL; rfl
theorem AtL.cons {H : Hp} {d : D} {l : List D} {v : V} {vs : List V} (h : At H d v) (r : AtL H l vs) : AtL H (d :: l) (v :: vs) := by
  unfold AtL
  exact ⟨v, vs, rfl, h, r⟩
theorem At.int {H : Hp} (n : Int) : At H (.i n) (.int n) := by unfold At; rfl
theorem At.tup {H : Hp} {a : Addr} {vs : List V} {l : List D} (h : H a = some (.tup vs)) (r : AtL H l vs) : At H (.t l) (.ref a) := by
  unfold At
  exact ⟨a, vs, rfl, h, r⟩
theorem At.inv {H : Hp} {l : List D} {v : V} (h : At H (.t l) v) : ∃ a vs, v = .ref a ∧ H a = some (.tup vs) ∧ AtL H l vs := by unfold At at h; exact h
theorem At.iv {H : Hp} {x : Int} {v : V} (h : At H (.i x) v) : v = .int x := by unfold At at h; exact h
theorem At.same {H H' : Hp} {d : D} {v : V} (h : At H d v) (e : Same H H') : At H' d v := At.up (Same.tups e) d v h
theorem AtL.same {H H' : Hp} {d : List D} {v : List V} (h : AtL H d v) (e : Same H H') : AtL H' d v := AtL.up (Same.tups e) d v h
/-- a pair, a row -/
abbrev dP (x : Int × Int) : D := .t [.i x.1, .i x.2]
abbrev dR (r : List (Int × Int)) : D := .t (r.map dP)
theorem At.pair {H : Hp} {x : Int × Int} {v : V} (h : At H (dP x) v) : ∃ a, v = .ref a ∧ H a = some (.tup [.int x.1, .int x.2]) := by
  obtain ⟨a, vs, e, ha, r⟩ := h.inv
  unfold AtL at r
  obtain ⟨v1, r1, e1, h1, r⟩ := r
  unfold AtL at r
  obtain ⟨v2, r2, e2, h2, r⟩ := r
  unfold AtL at r
  refine ⟨a, e, ?_⟩
  rw [ha, e1, e2, r, h1.iv, h2.iv]
theorem At.mkPair {H : Hp} {a : Addr} {x y : Int} (h : H a = some (.tup [.int x, .int y])) : At H (dP (x, y)) (.ref a) :=
  At.tup h (AtL.cons (At.int x) (AtL.cons (At.int y) AtL.nil))

/-! ### the stream of a script -/
structure Strm (c : Addr) (H : Hp) (s : Addr) : Prop where
  ex : ∃ (cs : List Int) (b l bl : Int), H s = some (.lst [.ref c, .int b, .int l, .int bl]) ∧ H c = some (.lst (cs.map V.int)) ∧ (∀ x ∈ cs, 0 ≤ x) ∧ cs.length ≤ 63 ∧ 0 ≤ b ∧ 0 ≤ l ∧ 0 ≤ bl ∧ bl < 4294967296
theorem strm_ne {H : Hp} {s c : Addr} {cs : List Int} {b l bl : Int} (h : H s = some (.lst [.ref c, .int b, .int l, .int bl])) (h' : H c = some (.lst (cs.map V.int))) : c ≠ s := by
  intro e
  subst e
  rw [h] at h'
  cases cs with
  | nil => cases h'
  | cons x r => cases h'
theorem Strm.up {H H' : Hp} {c s : Addr} (h : Strm c H s) (e : Same H H') : Strm c H' s := by
  obtain ⟨cs, b, l, bl, h1, h2, h3⟩ := h.ex
  exact ⟨cs, b, l, bl, e _ _ h1, e _ _ h2, h3⟩
theorem Strm.lst {H : Hp} {c s : Addr} (h : Strm c H s) : ∃ xs, H s = some (.lst xs) := by
  obtain ⟨cs, b, l, bl, h1, _⟩ := h.ex
  exact ⟨_, h1⟩
theorem Strm.new {H : Hp} {c s p : Addr} (h : Strm c H s) (hp : H p = none) : p ≠ s ∧ p ≠ c := by
  obtain ⟨cs, b, l, bl, h1, h2, _⟩ := h.ex
  exact ⟨(ne_of_none h1 hp).symm, (ne_of_none h2 hp).symm⟩
theorem Strm.put {H : Hp} {c s o : Addr} {x : HO} (h : Strm c H s) (ns : o ≠ s) (nc : o ≠ c) : Strm c (upd H o x) s := by
  obtain ⟨cs, b, l, bl, h1, h2, h3⟩ := h.ex
  refine ⟨cs, b, l, bl, ?_, ?_, h3⟩
  · rw [upd_ne (fun e => ns e.symm)]
    exact h1
  · rw [upd_ne (fun e => nc e.symm)]
    exact h2
theorem But.tups {c s : Addr} {H H' : Hp} (h : Strm c H s) (b : But s H H') : Tups H H' := fun a xs e => by
  obtain ⟨ys, hs⟩ := h.lst
  exact b a _ (ne_of e hs (by intro z; cases z)) e
theorem At.but {c s : Addr} {H H' : Hp} {d : D} {v : V} (h : At H d v) (hs : Strm c H s) (b : But s H H') : At H' d v := At.up (But.tups hs b) d v h
theorem AtL.but {c s : Addr} {H H' : Hp} {d : List D} {v : List V} (h : AtL H d v) (hs : Strm c H s) (b : But s H H') : AtL H' d v := AtL.up (But.tups hs b) d v h

/-! ### sizes, places -/
theorem sz1 : 1 ≤ sizeLine := by decide
theorem sz2 : 2 ≤ sizeLine := by decide
theorem sz3 : 3 ≤ sizeLine := by decide
theorem sz4 : 4 ≤ sizeLine := by decide
theorem szM {n : Nat} (h : n ≤ 1000000) : n < sizeLine := Nat.lt_of_le_of_lt h (by decide)
theorem ixN_of {n : Nat} {z : Int} {i : Nat} (e : z = (i : Int)) (h : i < n) : ixN n z = some i := by
  subst e
  unfold ixN
  rw [if_pos (by omega), if_pos (by omega)]
  simp
theorem AtL.set {H : Hp} {l : List D} {vs : List V} {d : D} {v : V} (h : AtL H l vs) (a : At H d v) (k : Nat) : AtL H (l.set k d) (vs.set k v) :=
  AtL.of (by rw [List.length_set, List.length_set, h.length]) fun i d' v' e1 e2 => by
    rw [List.getElem?_set] at e1 e2
    have hl := h.length
    split at e1
    · rename_i hk
      rw [if_pos hk] at e2
      split at e1
      · rw [if_pos (by omega)] at e2
        cases e1
        cases e2
        exact a
      · cases e1
    · rename_i hk
      rw [if_neg hk] at e2
      obtain ⟨u, g, z⟩ := h.get e1
      rw [e2] at g
      cases g
      exact z
theorem But.own {s o : Addr} {H H' : Hp} {x : HO} (b : But s H H') (h : H o = none) : But s H (upd H' o x) := fun c z n e => by
  rw [upd_ne (ne_of_none e h)]
  exact b c z n e
theorem Same.own {o : Addr} {H H' : Hp} {x : HO} (b : Same H H') (h : H o = none) : Same H (upd H' o x) := fun c z e => by
  rw [upd_ne (ne_of_none e h)]
  exact b c z e
/-! ### built-in names that the top leaves alone -/
structure Bi (mg : Str → Option Value) : Prop where
  len : mg "len" = none
  max : mg "max" = none
  min : mg "min" = none
  range : mg "range" = none
  tuple : mg "tuple" = none
  abs : mg "abs" = none
  isinstance : mg "isinstance" = none
  bool : mg "bool" = none
  str : mg "str" = none
  int : mg "int" = none
  sum : mg "sum" = none
  zip : mg "zip" = none
  enumerate : mg "enumerate" = none
  all : mg "all" = none
  any : mg "any" = none
  sorted : mg "sorted" = none
  repr : mg "repr" = none
  list : mg "list" = none
  reversed : mg "reversed" = none
theorem rel_ty (n : String) : RelV (.ty n) (.type n) := rfl
theorem lcYes {σ : L2.St} {H : Hp} {A B : Hp → Prop} (h : A H) : tYes σ H (fun b H3 => if b = true then A H3 else B H3) := by
  show if true = true then A H else B H
  exact iteT h
/-! ### rules that speak of the written part by its own name -/
section
variable {X : Cx} {K : PySem.W.Frag}
theorem ixT_ (h : X.K = K) : IxR X (rIxT K) := by subst h; exact ix_tup
theorem ixL_ (h : X.K = K) : IxR X (rIxL K) := by subst h; exact ix_list
theorem slL_ (h : X.K = K) : SlR X (rSlL K) := by subst h; exact sl_list
theorem slT_ (h : X.K = K) : SlR X (rSlA K) := by subst h; exact sl_tupA
theorem len_ (h : X.K = K) : CallR X (.builtin "len") (fun xs H Q => ∃ p ys, xs = [.ref p] ∧ (SqL K H p ys ∨ SqT K H p ys) ∧ Q (.int ys.length) H) := by subst h; exact call_len_seq
theorem tuple_ (h : X.K = K) : CallR X (.type "tuple") (fun xs H Q => ∃ p ys, xs = [.ref p] ∧ ((SqL K H p ys ∧ ∀ l, H l = none → Q (.ref l) (upd H l (.tup ys))) ∨ (SqT K H p ys ∧ Q (.ref p) H))) := by subst h; exact call_tuple_of
theorem isi_ (h : X.K = K) : CallR X (.builtin "isinstance") (rIsi K) := by subst h; exact call_isi
theorem isiT_ (h : X.K = K) : CallR X (.builtin "isinstance") (rIsiT K) := by subst h; exact call_isiT
theorem sum_ (hc : X.calm = true) (h : X.K = K) : CallR X (.builtin "sum") (rSum K) := by subst h; exact cr_sum hc
theorem max_ (hc : X.calm = true) (h : X.K = K) : CallR X (.builtin "max") (rMax K) := by subst h; exact cr_max hc
theorem min_ (hc : X.calm = true) (h : X.K = K) : CallR X (.builtin "min") (rMin K) := by subst h; exact cr_min hc
theorem all_ (hc : X.calm = true) (h : X.K = K) : CallR X (.builtin "all") (rAll K) := by subst h; exact cr_all hc
theorem eqD_ (hu : X.A.units + 64 < cLine) (h : X.K = K) : OpR X (compareOp .Eq) (rEqD K) := by subst h; exact op_eqD hu
theorem neD_ (hu : X.A.units + 64 < cLine) (h : X.K = K) : OpR X (compareOp .NotEq) (rNeD K) := by subst h; exact op_neD hu
end
/-! ### slices of tuples -/
theorem slA_take {K : PySem.W.Frag} {H : Hp} {l : List D} {v : V} {z : Int} {k : Nat} {Q : VK} (h : At H (.t l) v) (e : z = (k : Int)) (q : ∀ H' u, Same H H' → At H' (.t (l.take k)) u → Q u H') : rSlA K v none (some z) H Q := by
  subst e
  obtain ⟨a, vs, rfl, ha, av⟩ := h.inv
  refine ⟨a, vs, rfl, .inl (.inl ha), fun hw => ?_, fun hw p np => ?_⟩
  · have h2 := hw.2
    rw [HT.sIx_nat] at h2
    have hk : l.length ≤ k := by rw [← av.length]; omega
    refine q H _ (Same.refl _) ?_
    rw [List.take_of_length_le hk]
    exact h
  · refine q _ _ (Same.new np) (At.tup upd_same ?_)
    have ec : cutV vs none (some (k : Int)) = vs.take k := by
      unfold cutV
      rw [HT.sIx_none, HT.sIx_nat, List.drop_zero, Nat.sub_zero]
      by_cases hk : k ≤ vs.length
      · rw [Nat.min_eq_left hk]
      · rw [Nat.min_eq_right (by omega), List.take_of_length_le (Nat.le_refl _), List.take_of_length_le (by omega)]
    rw [ec]
    exact (av.take k).same (Same.new np)
theorem slA_drop {K : PySem.W.Frag} {H : Hp} {l : List D} {v : V} {z : Int} {k : Nat} {Q : VK} (h : At H (.t l) v) (e : z = (k : Int)) (q : ∀ H' u, Same H H' → At H' (.t (l.drop k)) u → Q u H') : rSlA K v (some z) none H Q := by
  subst e
  obtain ⟨a, vs, rfl, ha, av⟩ := h.inv
  refine ⟨a, vs, rfl, .inl (.inl ha), fun hw => ?_, fun hw p np => ?_⟩
  · have h2 := hw.1
    rw [HT.sIx_nat] at h2
    have hk : k = 0 ∨ l.length = 0 := by rw [← av.length]; omega
    refine q H _ (Same.refl _) ?_
    have el : l.drop k = l := by
      rcases hk with hk | hk
      · rw [hk]; rfl
      · rw [List.eq_nil_of_length_eq_zero hk]; exact List.drop_nil
    rw [el]
    exact h
  · refine q _ _ (Same.new np) (At.tup upd_same ?_)
    have ec : cutV vs (some (k : Int)) none = vs.drop k := by
      unfold cutV
      rw [HT.sIx_none, HT.sIx_nat]
      by_cases hk : k ≤ vs.length
      · rw [Nat.min_eq_left hk]
        exact List.take_of_length_le (by rw [List.length_drop]; omega)
      · rw [Nat.min_eq_right (by omega), List.drop_eq_nil_of_le (Nat.le_refl _), List.drop_eq_nil_of_le (show vs.length ≤ k by omega)]
        exact List.take_nil
    rw [ec]
    exact (av.drop k).same (Same.new np)
theorem slA_dropN {σ : L2.St} {K : PySem.W.Frag} {H : Hp} {l : List D} {v : V} {z : Int} {k : Nat} {Q : VK} (h : At H (.t l) v) (e : z = (k : Int)) (q : ∀ H' u, Same H H' → At H' (.t (l.drop k)) u → Q u H') : tNoPart σ H fun o H3 => rSlA K v (some z) o H3 Q :=
  slA_drop h e q
def spLaw (K : PySem.W.Frag) : Sp := fun vs H Q _ => ∃ (a : Addr) (ns : List Int), vs = [.ref a] ∧ SqL K H a (ns.map V.int) ∧ ns.length ≤ 63 ∧ ∀ H', Q (.bl true) H'
/-! ### depth -/
def Dep : Nat → D → Prop
  | 0, .t _ => False
  | k + 1, .t l => l.length ≤ 1000000 ∧ ∀ d ∈ l, Dep k d
  | _, _ => True
theorem Dep.mono : ∀ {k : Nat} {d : D}, Dep k d → Dep (k + 1) d
  | 0, .t _, h => h.elim
  | k + 1, .t l, h => ⟨h.1, fun d hd => Dep.mono (h.2 d hd)⟩
  | 0, .n, _ => trivial
  | 0, .b _, _ => trivial
  | 0, .i _, _ => trivial
  | 0, .s _, _ => trivial
  | k + 1, .n, _ => trivial
  | k + 1, .b _, _ => trivial
  | k + 1, .i _, _ => trivial
  | k + 1, .s _, _ => trivial
theorem Dep.row {ps : List (Int × Int)} (h : ps.length ≤ 1000000) : Dep 2 (dR ps) := by
  refine ⟨by rw [List.length_map]; exact h, fun d hd => ?_⟩
  obtain ⟨x, _, rfl⟩ := List.mem_map.mp hd
  refine ⟨(show 2 ≤ 1000000 by decide), fun e he => ?_⟩
  rcases List.mem_cons.mp he with h | h
  · rw [h]; trivial
  · rw [List.mem_singleton.mp h]; trivial
theorem Dep.pair (x : Int × Int) : Dep 1 (dP x) := by
  refine ⟨(show 2 ≤ 1000000 by decide), fun e he => ?_⟩
  rcases List.mem_cons.mp he with h | h
  · rw [h]; trivial
  · rw [List.mem_singleton.mp h]; trivial
/-! ### calls in short -/
abbrev FnP (K : PySem.W.Frag) (x : Str) (st : Stmt) (f : Addr) (fd : FuncData) : Prop := FunD K x x (defArgs st) (defBody st) (defScope st) [] [] f fd
/-- the module's name x is a def that keeps sp at level k -/
structure Cl (P : Program) (w : World) (K : PySem.W.Frag) (mg : Str → Option Value) (base : Heap) (k : Nat) (x : Str) (ps : List Str) (sp : Sp) : Prop where
  ex : ∃ (f : Addr) (fd : FuncData), mg x = some (.ref f) ∧ PySem.W.keepIn K (.ref f) = true ∧ Binds K fd ps [] ∧ FnOk P w K mg base CX0 k f fd ps sp
theorem Cl.mono {P : Program} {w : World} {K : PySem.W.Frag} {mg : Str → Option Value} {base : Heap} {j k : Nat} {x : Str} {ps : List Str} {sp : Sp} (c : Cl P w K mg base j x ps sp) (h : j ≤ k) : Cl P w K mg base k x ps sp := by
  obtain ⟨f, fd, a, b, d, e⟩ := c.ex
  exact ⟨f, fd, a, b, d, e.mono h⟩
theorem pe_cl {X : Cx} {k : Nat} {x : Str} {ps : List Str} {sp : Sp} {e : Expr} {es : List Expr} {t : TA} {p pos : Pos} (c : Cl X.prog X.w X.K X.mg X.base k x ps sp) (hr : Room k X.A) (hg : Gl X x) (ha : PA X (e :: es) t)
    (hdb : (x == ("__debug__" : Str)) = false := by decide) (he : starEach (e :: es) X.env = (false, eval e X.env) :: starEach es X.env := by rfl) (hpl : (backTo pos (starEach es X.env)).any (·.1) = false := by rfl) :
    PE X (.Call (.Name x p) (e :: es) [] pos) (tCall sp [] E0 t) := by
  obtain ⟨f, fd, a, b, d, F⟩ := c.ex
  exact pe_call F hr hg a b d .nil pass0 ha hdb he hpl
/-! ### the mathematics of pairs and rows -/
/-- what is gained and the deepest dip, from t and d on -/
def dipf : List (Int × Int) → Int → Int → Int × Int
  | [], t, d => (t, d)
  | x :: r, t, d => dipf r (t - x.1 + x.2) (if t - x.1 < d then t - x.1 else d)
def inOne (ps : List (Int × Int)) : Int × Int := (0 - (dipf ps 0 0).2, (dipf ps 0 0).1 - (dipf ps 0 0).2)
def jn (x y : Int × Int) : Int × Int := (x.1 + (if y.1 - x.2 > 0 then y.1 - x.2 else 0), y.2 + (if x.2 - y.1 > 0 then x.2 - y.1 else 0))
theorem dipf_append : ∀ (a b : List (Int × Int)) (t d : Int), dipf (a ++ b) t d = dipf b (dipf a t d).1 (dipf a t d).2
  | [], b, t, d => rfl
  | x :: a, b, t, d => by
    rw [List.cons_append]
    exact dipf_append a b _ _
theorem dipf_take {ps : List (Int × Int)} {i : Nat} {r : Int × Int} (h : ps[i]? = some r) (t d : Int) :
    dipf (ps.take (i + 1)) t d = ((dipf (ps.take i) t d).1 - r.1 + r.2, if (dipf (ps.take i) t d).1 - r.1 < (dipf (ps.take i) t d).2 then (dipf (ps.take i) t d).1 - r.1 else (dipf (ps.take i) t d).2) := by
  rw [List.take_add_one, h, dipf_append]
  rfl
theorem foldl_take {α β : Type} {f : β → α → β} {x : β} {ps : List α} {i : Nat} {r : α} (h : ps[i]? = some r) : (ps.take (i + 1)).foldl f x = f ((ps.take i).foldl f x) r := by
  rw [List.take_add_one, h, List.foldl_append]
  rfl
theorem jn_assoc (x y z : Int × Int) : jn (jn x y) z = jn x (jn y z) := by
  unfold jn
  refine Prod.ext ?_ ?_
  · dsimp only
    repeat' split
    all_goals omega
  · dsimp only
    repeat' split
    all_goals omega
theorem jn_zero {x : Int × Int} (h : 0 ≤ x.1) : jn (0, 0) x = x := by
  unfold jn
  refine Prod.ext ?_ ?_
  · dsimp only
    split <;> omega
  · dsimp only
    split <;> omega
theorem jn_zero' {x : Int × Int} (h : 0 ≤ x.2) : jn x (0, 0) = x := by
  unfold jn
  refine Prod.ext ?_ ?_
  · dsimp only
    split <;> omega
  · dsimp only
    split <;> omega
def Nn (x : Int × Int) : Prop := 0 ≤ x.1 ∧ 0 ≤ x.2
theorem jn_nn {x y : Int × Int} (hx : Nn x) (hy : Nn y) : Nn (jn x y) := by
  obtain ⟨h1, h2⟩ := hx
  obtain ⟨h3, h4⟩ := hy
  unfold jn Nn
  dsimp only
  constructor <;> split <;> omega
def wl : List (Int × Int) → Int × Int
  | [] => (0, 0)
  | x :: r => jn x (wl r)
theorem wl_nn : ∀ {ps : List (Int × Int)}, (∀ x ∈ ps, Nn x) → Nn (wl ps)
  | [], _ => ⟨by decide, by decide⟩
  | x :: r, h => jn_nn (h x (List.mem_cons_self ..)) (wl_nn fun y hy => h y (List.mem_cons_of_mem _ hy))
theorem dipf_wl : ∀ (ps : List (Int × Int)) (t d : Int), (∀ x ∈ ps, Nn x) → dipf ps t d = (t + (wl ps).2 - (wl ps).1, if ps = [] then d else if t - (wl ps).1 < d then t - (wl ps).1 else d)
  | [], t, d, _ => by
    unfold dipf wl
    refine Prod.ext ?_ ?_
    · dsimp only
      omega
    · rfl
  | x :: r, t, d, h => by
    have hx := h x (List.mem_cons_self ..)
    have hr := wl_nn (ps := r) fun y hy => h y (List.mem_cons_of_mem _ hy)
    have ih := dipf_wl r (t - x.1 + x.2) (if t - x.1 < d then t - x.1 else d) fun y hy => h y (List.mem_cons_of_mem _ hy)
    show dipf r _ _ = _
    have hz : r = [] → wl r = (0, 0) := fun e => by rw [e]; rfl
    rw [ih, if_neg (List.cons_ne_nil x r), show wl (x :: r) = jn x (wl r) from rfl]
    obtain ⟨h1, h2⟩ := hx
    obtain ⟨h3, h4⟩ := hr
    generalize wl r = m at *
    unfold jn
    refine Prod.ext ?_ ?_
    · dsimp only
      repeat' split
      all_goals omega
    · dsimp only
      by_cases e : r = []
      · have hm := hz e
        subst hm
        rw [if_pos e]
        dsimp only
        repeat' split
        all_goals omega
      · rw [if_neg e]
        repeat' split
        all_goals omega
theorem inOne_wl {ps : List (Int × Int)} (h : ∀ x ∈ ps, Nn x) : inOne ps = wl ps := by
  have hn := wl_nn h
  unfold inOne
  rw [dipf_wl ps 0 0 h]
  obtain ⟨h3, h4⟩ := hn
  by_cases e : ps = []
  · subst e
    rfl
  · refine Prod.ext ?_ ?_
    · dsimp only
      rw [if_neg e]
      split <;> omega
    · dsimp only
      rw [if_neg e]
      split <;> omega
theorem foldl_wl : ∀ (ps : List (Int × Int)) (x : Int × Int), 0 ≤ x.2 → (∀ y ∈ ps, Nn y) → ps.foldl jn x = jn x (wl ps)
  | [], x, h, _ => (jn_zero' h).symm
  | y :: r, x, h, hn => by
    show r.foldl jn (jn x y) = jn x (jn y (wl r))
    rw [← jn_assoc]
    refine foldl_wl r (jn x y) ?_ fun z hz => hn z (List.mem_cons_of_mem _ hz)
    obtain ⟨h3, h4⟩ := hn y (List.mem_cons_self ..)
    unfold jn
    dsimp only
    split <;> omega
theorem whole_wl {ps : List (Int × Int)} (h : ∀ x ∈ ps, Nn x) : ps.foldl jn (0, 0) = wl ps := by
  rw [foldl_wl ps (0, 0) (by decide) h]
  exact jn_zero (wl_nn h).1
theorem wl_append : ∀ (a b : List (Int × Int)), (∀ x ∈ b, Nn x) → wl (a ++ b) = jn (wl a) (wl b)
  | [], b, h => (jn_zero (wl_nn h).1).symm
  | x :: a, b, h => by
    show jn x (wl (a ++ b)) = jn (jn x (wl a)) (wl b)
    rw [wl_append a b h, jn_assoc]
theorem nn_take {ps : List (Int × Int)} (h : ∀ x ∈ ps, Nn x) (k : Nat) : ∀ x ∈ ps.take k, Nn x := fun x hx => h x (List.mem_of_mem_take hx)
theorem nn_drop {ps : List (Int × Int)} (h : ∀ x ∈ ps, Nn x) (k : Nat) : ∀ x ∈ ps.drop k, Nn x := fun x hx => h x (List.mem_of_mem_drop hx)
theorem wl_cut {ps : List (Int × Int)} (h : ∀ x ∈ ps, Nn x) (k : Nat) : jn (wl (ps.take k)) (wl (ps.drop k)) = wl ps := by
  rw [← wl_append _ _ (nn_drop h k), List.take_append_drop]
theorem one_cut {ps : List (Int × Int)} (h : ∀ x ∈ ps, Nn x) (k : Nat) : jn (inOne (ps.take k)) (inOne (ps.drop k)) = inOne ps := by
  rw [inOne_wl h, inOne_wl (nn_take h k), inOne_wl (nn_drop h k), wl_cut h]
theorem whole_cut {ps : List (Int × Int)} (h : ∀ x ∈ ps, Nn x) (k : Nat) : jn ((ps.take k).foldl jn (0, 0)) ((ps.drop k).foldl jn (0, 0)) = inOne ps := by
  rw [inOne_wl h, whole_wl (nn_take h k), whole_wl (nn_drop h k), wl_cut h]
theorem nn_three {x y z : Int × Int} (hx : Nn x) (hy : Nn y) (hz : Nn z) : ∀ u ∈ [x, y, z], Nn u := fun u hu => by
  rcases List.mem_cons.mp hu with h | h
  · rw [h]; exact hx
  rcases List.mem_cons.mp h with h | h
  · rw [h]; exact hy
  · rw [List.mem_singleton.mp h]; exact hz
theorem three_b {x y z : Int × Int} (hx : Nn x) (hy : Nn y) (hz : Nn z) : jn x (jn y z) = inOne [x, y, z] := by
  rw [inOne_wl (nn_three hx hy hz)]
  show _ = jn x (jn y (jn z (0, 0)))
  rw [jn_zero' hz.2]
theorem three_a {x y z : Int × Int} (hx : Nn x) (hy : Nn y) (hz : Nn z) : jn (jn x y) z = inOne [x, y, z] := by
  rw [jn_assoc, three_b hx hy hz]
/-! ### tuple * int, all ways -/
theorem tup_mul_same (l : Addr) (items : Array Value) (n : Nat) (dd : Option Addr) (sl : Array (Option Value)) (x : Int) (u : Tok) (c0 : (decide (x < -(2 ^ 63)) || decide (x ≥ 2 ^ 63)) = false) (c1 : (items.isEmpty || x == 1) = true) :
    Meets (Builtin.«tuple.__mul__» ⟨[.ref l, .int x u], []⟩) (fun _ R s => s.heap.get? l = some { cls := .type "tuple", dict := dd, data := .seq items n, slots := sl } ∧ R (.ok (.ret (Value.ref l))) { s with heap := s.heap, toks := s.toks }) :=
  .of_wp fun prog w A R s h => by
    obtain ⟨hp, g, d, tk, os⟩ := s
    obtain ⟨hl, h⟩ := h
    have f1 := AutoSeq1.idx_int
    wp_walk using wpAny_loadPart' hl
    repeat (first
      | (refine wpAny_ite_false (decide_eq_false (by rw [c0]; exact Bool.false_ne_true)) ?_; wp_walk using wpAny_loadPart' hl)
      | (refine wpAny_ite_true (decide_eq_true c1) ?_; wp_walk using wpAny_loadPart' hl))
    exact ⟨_, rfl, h⟩
theorem tup_mul_none (l : Addr) (items : Array Value) (n : Nat) (dd : Option Addr) (sl : Array (Option Value)) (x : Int) (u : Tok) (c0 : (decide (x < -(2 ^ 63)) || decide (x ≥ 2 ^ 63)) = false) (c1 : (items.isEmpty || x == 1) = false) (c2 : (decide (x ≤ 0) || items.isEmpty) = true) :
    Meets (Builtin.«tuple.__mul__» ⟨[.ref l, .int x u], []⟩) (fun _ R s => s.heap.get? l = some { cls := .type "tuple", dict := dd, data := .seq items n, slots := sl } ∧
      R (.ok (.ret (Value.ref s.heap.objs.size))) { s with heap := s.heap.push { cls := Value.type "tuple", data := Data.seq #[] }, toks := s.toks }) :=
  .of_wp fun prog w A R s h => by
    obtain ⟨hp, g, d, tk, os⟩ := s
    obtain ⟨hl, h⟩ := h
    have f1 := AutoSeq1.idx_int
    wp_walk using wpAny_loadPart' hl
    repeat (first
      | (refine wpAny_ite_false (decide_eq_false (by rw [c0]; exact Bool.false_ne_true)) ?_; wp_walk using wpAny_loadPart' hl)
      | (refine wpAny_ite_false (decide_eq_false (by rw [c1]; exact Bool.false_ne_true)) ?_; wp_walk using wpAny_loadPart' hl)
      | (refine wpAny_ite_true (decide_eq_true c2) ?_; wp_walk using wpAny_loadPart' hl))
    exact ⟨_, rfl, h⟩
def rRepA (K : PySem.W.Frag) : R2 := fun x y H Q => ∃ l k xs, x = .ref l ∧ y = .int k ∧ SqT K H l xs ∧ 0 ≤ k ∧ k ≤ 1000 ∧ xs.length ≤ 1000 ∧ ((xs = [] ∨ k = 1) → Q (.ref l) H) ∧ (¬ (xs = [] ∨ k = 1) → ∀ p, H p = none → Q (.ref p) (upd H p (.tup (List.replicate k.toNat xs).flatten)))
theorem op_repA {X : Cx} : OpR X (binaryOp .Mult) (rRepA X.K) := by
  intro pins s σ H x y v u Q I rx ry h
  obtain ⟨l, k, xs, rfl, rfl, hT, h0, h2, hz, q1, q2⟩ := h
  by_cases hk : xs ≠ [] ∧ 2 ≤ k
  · exact op_repT pins s σ H _ _ v u Q I rx ry ⟨l, k, xs, rfl, rfl, hT, hk.1, hk.2, h2, hz, q2 (by intro z; rcases z with z | z; exact hk.1 z; omega)⟩
  cases rx
  obtain ⟨t, rfl⟩ := ry
  obtain ⟨its, r, ⟨⟨cls, dd, data, sl⟩, ho, hc, n, hd⟩, hs⟩ := I.tuple hT
  simp only at hc hd
  subst hc hd
  have hle : its.length = xs.length := r.length.symm
  have c0 : (decide (k < -(2 ^ 63)) || decide (k ≥ 2 ^ 63)) = false := by
    rw [decide_eq_false (by omega), decide_eq_false (by omega)] <;> rfl
  by_cases hs1 : xs = [] ∨ k = 1
  · have c1 : (its.toArray.isEmpty || k == 1) = true := by
      rcases hs1 with e | e
      · rw [e] at hle
        rw [List.eq_nil_of_length_eq_zero hle]
        rfl
      · subst e
        rw [Bool.or_eq_true]
        exact .inr rfl
    refine wpAny_binaryOp_repeat_ref (T := "tuple") (U := "int") (by decide) ⟨_, ho, rfl⟩ (fun s' => typeIs_int s' k t) noFill_tuple_mul F.fills_int_mul F.slot_int_rmul repeat_tuple F.slot_int_index.lookup
      (call_meets F.slot_int_rmul (typeIs_int s k t) F.entry_int_rmul (F.args_int_rmul_2 _ _) (int_rmul_tuple k t l its.toArray n dd sl)
        ⟨ho, rfl, ⟨_, ho, rfl⟩, call_meets F.slot_tuple_mul ⟨_, ho, rfl⟩ F.entry_tuple_mul (F.args_tuple_mul_2 _ _) (tup_mul_same l its.toArray n dd sl k t c0 c1) ⟨ho, ?_⟩⟩)
    exact ⟨.ref l, H, I, rfl, q1 hs1⟩
  · have hk0 : k = 0 := by
      rcases Classical.em (xs = []) with e | e
      · exact absurd (.inl e) hs1
      · rcases Classical.em (2 ≤ k) with e2 | e2
        · exact absurd ⟨e, e2⟩ hk
        · have := fun z => hs1 (.inr z)
          omega
    subst hk0
    have hne : xs ≠ [] := fun e => hs1 (.inl e)
    have hi : its.toArray.isEmpty = false := by
      cases its with
      | nil => exact absurd (List.eq_nil_of_length_eq_zero hle.symm) hne
      | cons a b => rfl
    have c1 : (its.toArray.isEmpty || (0 : Int) == 1) = false := by rw [hi]; rfl
    refine wpAny_binaryOp_repeat_ref (T := "tuple") (U := "int") (by decide) ⟨_, ho, rfl⟩ (fun s' => typeIs_int s' 0 t) noFill_tuple_mul F.fills_int_mul F.slot_int_rmul repeat_tuple F.slot_int_index.lookup
      (call_meets F.slot_int_rmul (typeIs_int s 0 t) F.entry_int_rmul (F.args_int_rmul_2 _ _) (int_rmul_tuple 0 t l its.toArray n dd sl)
        ⟨ho, rfl, ⟨_, ho, rfl⟩, call_meets F.slot_tuple_mul ⟨_, ho, rfl⟩ F.entry_tuple_mul (F.args_tuple_mul_2 _ _) (tup_mul_none l its.toArray n dd sl 0 t c0 c1 rfl) ⟨ho, ?_⟩⟩)
    refine ⟨.ref s.heap.objs.size, _, I.laid (t' := s.toks) (o := .tup []) (fun b ob q => Heap.get?_push_of_some _ q) (Nat.le_refl _) ?_, rfl, q2 hs1 _ (I.hok.fresh (Nat.le_refl _))⟩
    exact ⟨Nat.zero_le _, [], .nil, IsTup.new _ _⟩
theorem repA_ {X : Cx} {K : PySem.W.Frag} (h : X.K = K) : OpR X (binaryOp .Mult) (rRepA K) := by subst h; exact op_repA
theorem AtL.rep {H : Hp} {l : List D} {vs : List V} (h : AtL H l vs) : ∀ k : Nat, AtL H (List.replicate k l).flatten (List.replicate k vs).flatten
  | 0 => AtL.nil
  | k + 1 => by
    rw [List.replicate_succ, List.replicate_succ, List.flatten_cons, List.flatten_cons]
    exact AtL.append h (AtL.rep h k)
theorem repA_at {K : PySem.W.Frag} {H : Hp} {l : List D} {v : V} {k : Int} {Q : VK} (h : At H (.t l) v) (h0 : 0 ≤ k) (h1 : k ≤ 1000) (hl : l.length ≤ 1000) (q : ∀ H' u, Same H H' → At H' (.t (List.replicate k.toNat l).flatten) u → Q u H') : rRepA K v (.int k) H Q := by
  obtain ⟨a, vs, rfl, ha, av⟩ := h.inv
  refine ⟨a, k, vs, rfl, rfl, .inl (.inl ha), h0, h1, by rw [av.length]; exact hl, fun hw => ?_, fun hw p np => ?_⟩
  · refine q H _ (Same.refl _) ?_
    have el : (List.replicate k.toNat l).flatten = l := by
      rcases hw with e | e
      · rw [e] at av
        have hl0 : l = [] := List.eq_nil_of_length_eq_zero av.length.symm
        subst hl0
        exact List.eq_nil_iff_forall_not_mem.mpr fun x hx => by
          obtain ⟨y, hy, hxy⟩ := List.mem_flatten.mp hx
          rw [(List.mem_replicate.mp hy).2] at hxy
          cases hxy
      · subst e
        show (List.replicate 1 l).flatten = l
        rw [List.replicate_one, List.flatten_singleton]
    rw [el]
    exact h
  · exact q _ _ (Same.new np) (At.tup upd_same ((av.rep k.toNat).same (Same.new np)))
/-! ### so many times one pair -/
def pw (x : Int × Int) (k : Int) : Int × Int := if k = 0 then (0, 0) else if 0 ≤ k * (x.2 - x.1) then (x.1, x.1 + k * (x.2 - x.1)) else (x.2 - k * (x.2 - x.1), x.2)
theorem pw_zero (x : Int × Int) : pw x 0 = (0, 0) := by unfold pw; rw [if_pos rfl]
theorem pw_up {x : Int × Int} {k : Int} (hk : 0 < k) (h : x.1 ≤ x.2) : pw x k = (x.1, x.1 + k * (x.2 - x.1)) := by
  unfold pw
  rw [if_neg (by omega), if_pos (Int.mul_nonneg (by omega) (by omega))]
theorem pw_down {x : Int × Int} {k : Int} (hk : 0 < k) (h : x.2 < x.1) : pw x k = (x.2 - k * (x.2 - x.1), x.2) := by
  unfold pw
  have e : k * (x.2 - x.1) < 0 := Int.mul_neg_of_pos_of_neg hk (by omega)
  rw [if_neg (by omega), if_neg (by omega)]
theorem pw_one (x : Int × Int) : pw x 1 = x := by
  by_cases h : x.1 ≤ x.2
  · rw [pw_up (by decide) h, Int.one_mul]
    exact Prod.ext rfl (by dsimp only; omega)
  · rw [pw_down (by decide) (by omega), Int.one_mul]
    exact Prod.ext (by dsimp only; omega) rfl
theorem pw_nn {x : Int × Int} {k : Int} (hx : Nn x) (hk : 0 ≤ k) : Nn (pw x k) := by
  by_cases h0 : k = 0
  · subst h0; rw [pw_zero]; exact ⟨by decide, by decide⟩
  obtain ⟨h1, h2⟩ := hx
  by_cases h : x.1 ≤ x.2
  · rw [pw_up (by omega) h]
    have := Int.mul_nonneg hk (show 0 ≤ x.2 - x.1 by omega)
    exact ⟨h1, by dsimp only; omega⟩
  · rw [pw_down (by omega) (by omega)]
    have := Int.mul_neg_of_pos_of_neg (show 0 < k by omega) (show x.2 - x.1 < 0 by omega)
    exact ⟨by dsimp only; omega, h2⟩
theorem pw_add {x : Int × Int} {a b : Int} (hx : Nn x) (ha : 0 ≤ a) (hb : 0 ≤ b) : pw x (a + b) = jn (pw x a) (pw x b) := by
  by_cases ha0 : a = 0
  · subst ha0
    rw [Int.zero_add, pw_zero, jn_zero (pw_nn hx hb).1]
  by_cases hb0 : b = 0
  · subst hb0
    rw [Int.add_zero, pw_zero, jn_zero' (pw_nn hx ha).2]
  obtain ⟨h1, h2⟩ := hx
  by_cases h : x.1 ≤ x.2
  · rw [pw_up (by omega) h, pw_up (by omega) h, pw_up (by omega) h, Int.add_mul]
    have e1 := Int.mul_nonneg ha (show 0 ≤ x.2 - x.1 by omega)
    have e2 := Int.mul_nonneg hb (show 0 ≤ x.2 - x.1 by omega)
    generalize a * (x.2 - x.1) = p at *
    generalize b * (x.2 - x.1) = r at *
    unfold jn
    refine Prod.ext ?_ ?_
    · dsimp only
      split <;> omega
    · dsimp only
      split <;> omega
  · rw [pw_down (by omega) (by omega), pw_down (by omega) (by omega), pw_down (by omega) (by omega), Int.add_mul]
    have e1 := Int.mul_neg_of_pos_of_neg (show 0 < a by omega) (show x.2 - x.1 < 0 by omega)
    have e2 := Int.mul_neg_of_pos_of_neg (show 0 < b by omega) (show x.2 - x.1 < 0 by omega)
    generalize a * (x.2 - x.1) = p at *
    generalize b * (x.2 - x.1) = r at *
    unfold jn
    refine Prod.ext ?_ ?_
    · dsimp only
      split <;> omega
    · dsimp only
      split <;> omega
theorem pw_succ {x : Int × Int} {a : Int} (hx : Nn x) (ha : 0 ≤ a) : pw x (a + 1) = jn x (pw x a) := by
  rw [Int.add_comm, pw_add hx (by decide) ha, pw_one]
theorem pw_mul {x : Int × Int} {a b : Int} (hx : Nn x) (ha : 0 ≤ a) (hb : 0 ≤ b) : pw (pw x a) b = pw x (a * b) := by
  by_cases ha0 : a = 0
  · subst ha0
    rw [Int.zero_mul, pw_zero]
    by_cases hb0 : b = 0
    · subst hb0; rw [pw_zero]
    · rw [pw_up (by omega) (Int.le_refl _)]
      exact Prod.ext rfl (by dsimp only; omega)
  by_cases hb0 : b = 0
  · subst hb0
    rw [Int.mul_zero, pw_zero, pw_zero]
  have hab : 0 < a * b := Int.mul_pos (by omega) (by omega)
  have ec : b * (a * (x.2 - x.1)) = a * b * (x.2 - x.1) := by rw [← Int.mul_assoc, Int.mul_comm b a]
  by_cases h : x.1 ≤ x.2
  · have e1 := Int.mul_nonneg ha (show 0 ≤ x.2 - x.1 by omega)
    rw [pw_up (x := x) (by omega) h, pw_up (x := x) hab h, pw_up (by omega) (by dsimp only; omega)]
    refine Prod.ext rfl ?_
    dsimp only
    rw [show x.1 + a * (x.2 - x.1) - x.1 = a * (x.2 - x.1) by omega, ec]
  · have e1 := Int.mul_neg_of_pos_of_neg (show 0 < a by omega) (show x.2 - x.1 < 0 by omega)
    rw [pw_down (x := x) (by omega) (by omega), pw_down (x := x) hab (by omega), pw_down (by omega) (by dsimp only; omega)]
    refine Prod.ext ?_ rfl
    dsimp only
    rw [show x.2 - (x.2 - a * (x.2 - x.1)) = a * (x.2 - x.1) by omega, ec]
theorem pw_wl {x : Int × Int} (hx : Nn x) : ∀ n : Nat, wl (List.replicate n x) = pw x n
  | 0 => (pw_zero x).symm
  | n + 1 => by
    rw [List.replicate_succ]
    show jn x (wl (List.replicate n x)) = _
    rw [pw_wl hx n, Int.natCast_add, Int.natCast_one, pw_succ hx (Int.natCast_nonneg n)]
theorem pw_one_row {x : Int × Int} (hx : Nn x) (k : Int) (hk : 0 ≤ k) : inOne (List.replicate k.toNat x) = pw x k := by
  rw [inOne_wl fun y hy => by rw [(List.mem_replicate.mp hy).2]; exact hx, pw_wl hx, Int.toNat_of_nonneg hk]
theorem rep_flat {α : Type} (x : α) : ∀ n : Nat, (List.replicate n [x]).flatten = List.replicate n x
  | 0 => rfl
  | n + 1 => by
    rw [List.replicate_succ, List.flatten_cons, rep_flat x n, List.replicate_succ]
    rfl
theorem lt_pow {n a b : Nat} (h : n < 2 ^ a) (hab : a ≤ b) : n < 2 ^ b := Nat.lt_of_lt_of_le h (Nat.pow_le_pow_right (by decide) hab)
/-- sizes -/
theorem mul_lt {i j : Int} {a b : Nat} (hi : i.natAbs < 2 ^ a) (hj : j.natAbs < 2 ^ b) : (i * j).natAbs < 2 ^ (a + b) := by
  rw [Int.natAbs_mul, Nat.pow_add]
  exact Nat.mul_lt_mul'' hi hj
theorem pw_sz {x : Int × Int} {k : Int} {a b : Nat} (h1 : x.1.natAbs < 2 ^ a) (h2 : x.2.natAbs < 2 ^ a) (hk : k.natAbs < 2 ^ b) : (pw x k).1.natAbs < 2 ^ (a + b + 2) ∧ (pw x k).2.natAbs < 2 ^ (a + b + 2) := by
  have hd : (x.2 - x.1).natAbs < 2 ^ (a + 1) := by
    rw [Nat.pow_succ]
    omega
  have hm := mul_lt hk hd
  have ha : 2 ^ a ≤ 2 ^ (a + b) := Nat.pow_le_pow_right (by decide) (by omega)
  have e : b + (a + 1) = a + b + 1 := by omega
  rw [e] at hm
  have e1 : 2 ^ (a + b + 1) = 2 ^ (a + b) * 2 := Nat.pow_succ ..
  have e2 : 2 ^ (a + b + 2) = 2 ^ (a + b) * 4 := by rw [Nat.pow_add]
  have e3 : 0 < 2 ^ (a + b) := Nat.pow_pos (by decide)
  unfold pw
  split
  · exact ⟨by show 0 < _; omega, by show 0 < _; omega⟩
  split
  · exact ⟨by dsimp only; omega, by dsimp only; omega⟩
  · exact ⟨by dsimp only; omega, by dsimp only; omega⟩
/-! ### defs that are called where no repr is under way -/
/-- the promise sp of the def at f, at level k, wherever no guard stands on the stack -/
structure FnG (P : Program) (w : World) (K : PySem.W.Frag) (mg : Str → Option Value) (base : Heap) (k : Nat) (f : Addr) (fd : FuncData) (ps : List Str) (sp : Sp) : Prop where
  len : ∀ vs H Q E, sp vs H Q E → vs.length = ps.length
  run : ∀ (A : Around) (outer : List Env) (s : Shared) (H : Hp) (args : Args) (us : List Value) (vs : List V) (Q : VK) (E : XK), A.guards = some [] → Room k A → Env0 P w K mg base A outer s H →
    BindsTo s fd args (ps.zip us) → Vals vs us → sp vs H Q E → codeAny (model P w) A (.call (.ref f) args) (CR CX0 outer P w H s Q E) s
theorem FnG.of {P : Program} {w : World} {K : PySem.W.Frag} {mg : Str → Option Value} {base : Heap} {k : Nat} {f : Addr} {fd : FuncData} {ps : List Str} {sp : Sp} (F : FnOk P w K mg base CX0 k f fd ps sp) : FnG P w K mg base k f fd ps sp :=
  ⟨F.len, fun A outer s H args us vs Q E _ hr => F.run A outer s H args us vs Q E hr⟩
section
variable {P : Program} {w : World} {K : PySem.W.Frag} {mg : Str → Option Value} {base : Heap}
theorem okG {x : Str} {st : Stmt} {f : Addr} {fd : FuncData} {N ps : List Str} {k : Nat} {sp : Sp} (F : FnP K x st f fd) (S : FnScope N ps (defScope st)) (len : ∀ vs H Q E, sp vs H Q E → vs.length = ps.length)
    (body : ∀ (cdv : Value) (A : Around) (outer : List Env) (s : Shared) (H : Hp) (vs : List V) (Q : VK) (E : XK), A.guards = some [] → Room k (A.deeper (envOfC x (defScope st) s.heap.objs.size f cdv)) → sp vs H Q E →
      ∃ t, PSs (cxOf CX0 P w K mg base N x (defScope st) f cdv A outer s H E) (defBody st) t ∧ t { nx := fun _ H' => Q .non H', rt := Q } (start N vs) H) :
    FnG P w K mg base (k + 1) f fd ps sp := by
  obtain ⟨oc, od, dV, kV, doc, pm, an, cdv, ct, osl, efd, look, hcd, _, _⟩ := F.ex
  subst efd
  refine ⟨len, ?_⟩
  intro A outer s H args us vs Q E hG room env binds rel want
  have hlen := len vs H Q E want
  have written : K.In s.heap := env.mod.kin.keeps (fun b o z => (env.bs b o z).1)
  have free : s.heap.NoLimit := env.mod.nolimit.keeps (fun b o z => (env.bs b o z).1)
  refine codeAny_call_function room.depth (written _ _ look) rfl S.co S.gen rfl (PySem.W.codeRec_of written hcd) (binds _ _ _ _ ?_)
  refine wpAny_newFunctionEnv_cells S.kind (fun y hy => ?_) (fun e1 h1 s1 inside => ?_)
  · obtain ⟨nm, val⟩ := y
    cases S.par nm (List.of_mem_zip hy).1 with
    | inl z => exact Or.inl z
    | inr z => exact Or.inr (And.intro z (PySem.W.cellsFrom_some _ _ _ (Or.inl z)))
  subst h1
  refine And.intro (free.keeps inside.toInCall.keep) (codeAny_func ?_)
  obtain ⟨t, rules, reading⟩ := body cdv A outer s H vs Q E hG (room.deeper _) want
  have inv : Inv (cxOf CX0 P w K mg base N x (defScope st) f cdv A outer s H E) [] (start N vs) H s1 := inv_start S room.hd env hlen rel inside
  refine wpAny_mono (rules.run [] s1 (start N vs) H _ inv reading) (fun flow s2 told => ?_) (fun e s2 z => z)
  cases flow with
  | ret u =>
    obtain ⟨v2, σ2, H2, J, rv, qq⟩ := told
    exact ⟨v2, H2, J.os, J.bare, J.base, J.hok, rv, qq⟩
  | next =>
    obtain ⟨σ2, H2, J, qq⟩ := told
    exact ⟨V.non, H2, J.os, J.bare, J.base, J.hok, rfl, qq⟩
  | brk => exact (told.choose_spec.choose_spec.2).elim
  | cont => exact (told.choose_spec.choose_spec.2).elim
end
/-- the module's name x is a def that keeps sp at level k, where no guard stands -/
structure ClG (P : Program) (w : World) (K : PySem.W.Frag) (mg : Str → Option Value) (base : Heap) (k : Nat) (x : Str) (ps : List Str) (sp : Sp) : Prop where
  ex : ∃ (f : Addr) (fd : FuncData), mg x = some (.ref f) ∧ PySem.W.keepIn K (.ref f) = true ∧ Binds K fd ps [] ∧ FnG P w K mg base k f fd ps sp
theorem pe_clG {X : Cx} {k : Nat} {x : Str} {ps : List Str} {sp : Sp} {e : Expr} {es : List Expr} {t : TA} {p pos : Pos} (c : ClG X.prog X.w X.K X.mg X.base k x ps sp) (hG : X.A.guards = some []) (hr : Room k X.A) (hg : Gl X x) (ha : PA X (e :: es) t)
    (hdb : (x == ("__debug__" : Str)) = false := by decide) (he : starEach (e :: es) X.env = (false, eval e X.env) :: starEach es X.env := by rfl) (hpl : (backTo pos (starEach es X.env)).any (·.1) = false := by rfl) :
    PE X (.Call (.Name x p) (e :: es) [] pos) (tCall sp [] E0 t) := by
  obtain ⟨f, fd, a, b, d, F⟩ := c.ex
  refine ⟨fun pins s σ H Q I h => wpAny_Call_Name_kw (ld_glob I hg a ?_ hdb)⟩
  refine PySem.W.callWith_K (h₀ := X.base) I.ok.mod.kin b (thn (ha.run pos pins s σ H _ I h) (fun us s1 got => ?_)) he hpl
  obtain ⟨vs, H1, I1, r, q⟩ := got
  refine And.intro I1.kIn ?_
  have q : sp vs H1 Q E0 := by
    have q2 : sp (vs ++ []) H1 Q E0 := q
    rw [List.append_nil] at q2
    exact q2
  have hl : us.length = ps.length := by rw [← r.length]; exact F.len _ _ _ _ q
  have bt : BindsTo s1 fd ⟨us, []⟩ (ps.zip us) := by
    have z := d s1 us I1.kIn (by rw [List.append_nil]; exact hl)
    rw [List.append_nil] at z
    exact z
  refine wpAny_call (codeAny_mono (F.run X.A X.stack s1 H1 ⟨us, []⟩ us vs Q E0 hG hr I1.env0 bt r q) (fun res s2 told => ?_))
  match res, told with
  | .error _, told => exact told.elim
  | .ok (.ret u), told => exact I1.after told
  | .ok .next, told => exact told.elim
  | .ok .brk, told => exact told.elim
  | .ok .cont, told => exact told.elim
theorem byC {v : V} {σ : L2.St} {H : Hp} {Q : VK} (h : Q v H) : tC v σ H Q := h
/-! ### repr of data -/
mutual
def toPy : D → PyData
  | .n => .none
  | .b x => .bool x
  | .i x => .int x
  | .s x => .str x
  | .t l => .tuple (toPyL l)
def toPyL : List D → List PyData
  | [] => []
  | d :: l => toPy d :: toPyL l
end
mutual
/-- small enough to be shown -/
def Sm : D → Prop
  | .i x => x.natAbs.log2 < 1920
  | .t l => SmL l
  | _ => True
def SmL : List D → Prop
  | [] => True
  | d :: l => Sm d ∧ SmL l
end
mutual
def wt : D → Nat
  | .n => 4
  | .b _ => 5
  | .i _ => 1925
  | .s x => (reprText x).length
  | .t l => wtL l + 3
def wtL : List D → Nat
  | [] => 0
  | d :: l => wt d + 2 + wtL l
end
mutual
theorem At.dp {K : PySem.W.Frag} {H : Hp} : ∀ (d : D) (v : V), At H d v → Dp K H v (toPy d)
  | .n, v, h => by unfold At at h; subst h; unfold toPy; exact .non
  | .b x, v, h => by unfold At at h; subst h; unfold toPy; exact .bl x
  | .i x, v, h => by unfold At at h; subst h; unfold toPy; exact .int x
  | .s x, v, h => by unfold At at h; subst h; unfold toPy; exact .str x
  | .t l, v, h => by
    obtain ⟨a, vs, rfl, ha, r⟩ := h.inv
    unfold toPy
    exact .tup (.inl (.inl ha)) (AtL.dp l vs r)
theorem AtL.dp {K : PySem.W.Frag} {H : Hp} : ∀ (l : List D) (vs : List V), AtL H l vs → DpAll K H vs (toPyL l)
  | [], vs, h => by unfold AtL at h; subst h; unfold toPyL; exact .nil
  | d :: l, vs, h => by
    unfold AtL at h
    obtain ⟨v, r, rfl, h1, h2⟩ := h
    unfold toPyL
    exact .cons (At.dp d v h1) (AtL.dp l r h2)
end
mutual
theorem sm_show : ∀ d : D, Sm d → (toPy d).showable = true
  | .n, _ => by unfold toPy; simp [PyData.showable]
  | .b x, _ => by unfold toPy; simp [PyData.showable]
  | .i x, h => by unfold Sm at h; unfold toPy; simp [PyData.showable, h]
  | .s x, _ => by unfold toPy; simp [PyData.showable]
  | .t l, h => by unfold Sm at h; unfold toPy; simp only [PyData.showable]; exact sm_showL l h
theorem sm_showL : ∀ l : List D, SmL l → PyData.showableAll (toPyL l) = true
  | [], _ => by unfold toPyL; simp [PyData.showableAll]
  | d :: l, h => by unfold SmL at h; unfold toPyL; simp only [PyData.showableAll, sm_show d h.1, sm_showL l h.2, Bool.and_self]
end
mutual
theorem no_dict : ∀ d : D, (toPy d).hasDict = false
  | .n => by unfold toPy; simp [PyData.hasDict]
  | .b x => by unfold toPy; simp [PyData.hasDict]
  | .i x => by unfold toPy; simp [PyData.hasDict]
  | .s x => by unfold toPy; simp [PyData.hasDict]
  | .t l => by unfold toPy; simp only [PyData.hasDict]; exact no_dictL l
theorem no_dictL : ∀ l : List D, PyData.hasDictAll (toPyL l) = false
  | [] => by unfold toPyL; simp [PyData.hasDictAll]
  | d :: l => by unfold toPyL; simp only [PyData.hasDictAll, no_dict d, no_dictL l, Bool.or_self]
end
theorem tupleText_le (ts : List Str) : (tupleText ts).length ≤ piled ts + 3 := by
  cases ts with
  | nil => decide
  | cons t r =>
    have h := join_length_add (t :: r) (List.cons_ne_nil t r)
    unfold tupleText
    rw [strLen_append, strLen_append]
    have h1 : ("(" : Str).length = 1 := by decide
    have h2 : ((if (t :: r).length == 1 then ",)" else ")" : String) : Str).length ≤ 2 := by
      split <;> decide
    omega
mutual
theorem shown_le : ∀ d : D, Sm d → (toPy d).shown.length ≤ wt d
  | .n, _ => by unfold toPy wt; simp only [PyData.shown]; decide
  | .b x, _ => by unfold toPy wt; simp only [PyData.shown]; cases x <;> decide
  | .i x, h => by
    unfold Sm at h
    unfold toPy wt
    simp only [PyData.shown]
    have e := int_text_length_le (k := 1920) (by decide) h
    show (Str.ofString (toString x)).length ≤ 1925
    rw [PySem.ofString_length]
    omega
  | .s x, _ => by unfold toPy wt; simp only [PyData.shown]; exact Nat.le_refl _
  | .t l, h => by
    unfold Sm at h
    unfold toPy wt
    simp only [PyData.shown]
    have h1 := tupleText_le (PyData.shownAll (toPyL l))
    have h2 := shown_leL l h
    omega
theorem shown_leL : ∀ l : List D, SmL l → piled (PyData.shownAll (toPyL l)) ≤ wtL l
  | [], _ => by unfold toPyL wtL; simp only [PyData.shownAll, piled_nil]; exact Nat.le_refl _
  | d :: l, h => by
    unfold SmL at h
    unfold toPyL wtL
    simp only [PyData.shownAll, piled_cons]
    have h1 := shown_le d h.1
    have h2 := shown_leL l h.2
    omega
end
theorem dep_depth : ∀ (k : Nat) (d : D), Dep k d → (toPy d).depth ≤ k
  | _, .n, _ => by unfold toPy; simp [PyData.depth]
  | _, .b x, _ => by unfold toPy; simp [PyData.depth]
  | _, .i x, _ => by unfold toPy; simp [PyData.depth]
  | _, .s x, _ => by unfold toPy; simp [PyData.depth]
  | 0, .t l, h => h.elim
  | k + 1, .t l, h => by
    unfold toPy
    simp only [PyData.depth]
    have go : ∀ l : List D, (∀ d ∈ l, Dep k d) → PyData.depthAll (toPyL l) ≤ k := by
      intro l
      induction l with
      | nil => intro _; unfold toPyL; simp [PyData.depthAll]
      | cons d l ih =>
        intro hl
        unfold toPyL
        simp only [PyData.depthAll]
        have h1 := dep_depth k d (hl d (List.mem_cons_self ..))
        have h2 := ih fun x hx => hl x (List.mem_cons_of_mem _ hx)
        omega
    have := go l h.2
    omega
def rRepr : List V → Hp → VK → Prop := fun xs H Q => ∃ (v : V) (d : D), xs = [v] ∧ At H d v ∧ Dep 40 d ∧ Sm d ∧ wt d ≤ sizeLine ∧ Q (.str (toPy d).shown) H
theorem call_reprG {X : Cx} (hG : X.A.guards = some []) (hu : X.A.units + 64 < cLine) : CallR X (.builtin "repr") rRepr := by
  intro pins s σ H xs us Q I r h
  obtain ⟨v, d, rfl, hv, hd, hs, hw, q⟩ := h
  obtain ⟨u, rfl, rv⟩ := vals1 r
  obtain ⟨as, rd⟩ := Dp.reads I (toPy d) v u (At.dp d v hv) rv
  have hl := Nat.le_trans (shown_le d hs) hw
  have hdep := dep_depth 40 d hd
  cases d with
  | t l =>
    obtain ⟨a, vs, rfl, _⟩ := hv.inv
    obtain rfl : u = Value.ref a := rv
    exact PySem.repr_of_reads' rd (sm_show _ hs) (PyData.noDict_hsm (no_dict _)) hG (by omega) (fun _ _ e => e) (fun h' u tk hk => ⟨.str _, H, I.kept (t' := tk) hk, ⟨_, rfl⟩, q⟩) hl
  | n =>
    unfold At at hv
    subst hv
    obtain rfl : u = Value.none := rv
    refine PySem.P.repr_of_none ⟨.str _, H, I.tok _, ⟨_, rfl⟩, ?_⟩
    unfold toPy at q
    simp only [PyData.shown] at q
    exact q
  | b x =>
    unfold At at hv
    subst hv
    obtain rfl : u = Value.bool x := rv
    refine PySem.P.repr_of_bool ⟨.str _, H, I.tok _, ⟨_, rfl⟩, ?_⟩
    unfold toPy at q
    simp only [PyData.shown] at q
    exact q
  | i x =>
    unfold At at hv
    subst hv
    obtain ⟨t, rfl⟩ := rv
    unfold Sm at hs
    refine PySem.P.repr_of_int hs ⟨.str _, H, I.tok _, ⟨_, rfl⟩, ?_⟩
    unfold toPy at q
    simp only [PyData.shown] at q
    exact q
  | s x =>
    unfold At at hv
    subst hv
    obtain ⟨t, rfl⟩ := rv
    unfold toPy at q hl
    simp only [PyData.shown] at q hl
    exact PySem.P.repr_of_str (hsz := hl) ⟨.str _, H, I.tok _, ⟨_, rfl⟩, q⟩
/-! ### the law's entry -/
/-- a law's def that keeps its promise where no guard stands -/
theorem callG {P : Program} {w : World} {K : PySem.W.Frag} {mg mb : Str → Option Value} {k : Nat} {fa a : Addr} {fd : FuncData} {x : Str} {sp : Sp} {s₁ : Shared} {vs : List Value} {ns : List Int}
    (kin : K.In s₁.heap) (glob : s₁.heap.Ns mainGlobals mg) (blt : s₁.heap.Ns builtinsNs mb) (same : ∀ x : Str, x ≠ "__name__" → mb x = bootBuiltins x) (lim : s₁.heap.NoLimit) (gens : s₁.gens = #[])
    (script : s₁.heap.get? a = some { cls := .type "list", data := .seq vs.toArray }) (nums : IntsAre vs ns) (short : ns.length ≤ sizeLine) (room : Room k callerA)
    (F : ∀ base : Heap, K.In base → base.Ns mainGlobals mg → FnG P w K mg base k fa fd [x] sp) (binds : ∀ (s : Shared) (u : Value), BindsTo s fd ⟨[u], []⟩ [(x, u)])
    (want : ∀ H : Hp, Only H → SqL K H a (ns.map V.int) → sp [.ref a] H (fun v _ => v = .bl true) fun _ _ _ => False) :
    codeAny (model P w) callerA (.call (.ref fa) ⟨[.ref a], []⟩) (fun r s' => r = .ok (.ret (.bool true)) ∧ OldK s₁.heap s'.heap ∧ s'.os = s₁.os ∧ AllBare s'.gens) s₁ := by
  -- from any abstract heap that tracks the script alone, or nothing
  have go : ∀ H : Hp, Only H → SqL K H a (ns.map V.int) → HOk P w H s₁.heap → (∀ b, H b ≠ none → b = a ∧ K.lookup a = none) →
      codeAny (model P w) callerA (.call (.ref fa) ⟨[.ref a], []⟩) (fun r s' => r = .ok (.ret (.bool true)) ∧ OldK s₁.heap s'.heap ∧ s'.os = s₁.os ∧ AllBare s'.gens) s₁ := by
    intro H only sq ok at_a
    have untracked : ∀ {b : Addr}, (H b ≠ none → False) → H b = none := fun {b} h => by
      rcases hb : H b with _ | u
      · rfl
      · exact (h (by rw [hb]; simp)).elim
    have dicts : ∀ {b : Addr} {o : Obj} {es : Array DictEntry} {ep : Nat}, s₁.heap.get? b = some o → o.data = .dict es ep → H b = none := fun {b o es ep} e1 e2 => untracked fun hb => by
      have eb := (at_a b hb).1
      rw [eb, script] at e1
      cases e1
      have e3 : Data.seq vs.toArray _ = Data.dict es ep := e2
      cases e3
    have spaces : ∀ {b : Addr} {m : Str → Option Value}, s₁.heap.Ns b m → (hidT s₁.heap H).Ns b m := fun {b m} z => by
      obtain ⟨o, es, ep, z1, z2, z3⟩ := z
      exact ⟨o, es, ep, hidT_get z1 (dicts z1 z2), z2, z3⟩
    have written : K.In (hidT s₁.heap H) := fun b o e1 => hidT_get (kin b o e1) (untracked fun hb => by
      have e2 := at_a b hb
      rw [e2.1, e2.2] at e1
      cases e1)
    have modl : Mod K mg (hidT s₁.heap H) := by
      obtain ⟨mc, l1, l2⟩ := lim
      exact ⟨written, spaces glob, ⟨mb, spaces blt, same⟩, ⟨mc, spaces l1, l2⟩⟩
    have env : Env0 P w K mg (hidT s₁.heap H) callerA [] s₁ H :=
      ⟨rfl, modl, fun b o e1 => of_hidT e1, Nat.le_of_eq (hidT_size _ _), trivial, (fun b hb => nomatch (show b ∈ ([] : List Addr) from hb)), ok, .of_eq gens⟩
    have run := (F _ written (spaces glob)).run callerA [] s₁ H ⟨[.ref a], []⟩ [.ref a] [.ref a] (fun v _ => v = .bl true) (fun _ _ _ => False) rfl room env (binds s₁ (.ref a)) (.cons rfl .nil) (want H only sq)
    refine codeAny_mono run (fun res s2 told => ?_)
    match res, told with
    | .error _, told => exact told.elim
    | .ok .next, told => exact told.elim
    | .ok .brk, told => exact told.elim
    | .ok .cont, told => exact told.elim
    | .ok (.ret u), told =>
      obtain ⟨v2, H2, t1, t2, t3, t4, t5, t6⟩ := told
      have e6 : v2 = .bl true := t6
      subst e6
      obtain rfl : u = Value.bool true := t5
      refine ⟨rfl, OldK.of_keep (fun b o e1 => ?_), t1, t2⟩
      rcases hb : H b with _ | u
      · exact t3.keep b o e1 hb (fun z => nomatch (show b ∈ ([] : List Addr) from z)) (by simp)
      · rcases only b with z | ⟨ob, xs, z⟩
        · rw [hb] at z
          cases z
        · have e2 := (ok b _ z).1
          have e3 := (t4 b _ (t3.frzs b ob _ z)).1
          rw [e1] at e2
          cases e2
          exact e3
  have rel := vals_ints nums
  rcases own : K.lookup a with _ | o
  · refine go (fun b => if b = a then some (.frz { cls := .type "list", data := .seq vs.toArray } (.lst (ns.map V.int))) else none) (fun b => ?_) (.inl (.inr ⟨_, if_pos rfl⟩)) (fun b u z => ?_) (fun b z => ?_)
    · by_cases hb : b = a
      · exact Or.inr ⟨_, _, if_pos hb⟩
      · exact Or.inl (if_neg hb)
    · by_cases hb : b = a
      · have z2 := Eq.trans (if_pos hb).symm z
        cases z2
        rw [hb]
        exact ⟨script, by rw [List.length_map]; exact short, vs, _, rel, script⟩
      · have z2 := Eq.trans (if_neg hb).symm z
        cases z2
    · by_cases hb : b = a
      · exact ⟨hb, own⟩
      · exact (z (if_neg hb)).elim
  · have e := kin a o own
    rw [script] at e
    cases e
    refine go (fun _ => none) (fun _ => Or.inl rfl) (.inr ⟨_, vs.toArray, _, own, rfl, rfl, rfl, by rw [List.size_toArray, nums.length]; exact short, by simpa using rel⟩) (fun b u z => ?_) (fun b z => absurd rfl z)
    have z2 : (none : Option HO) = some u := z
    cases z2
theorem walkG {l : PySem.W.OpenLaw} {n k : Nat} {q : Program} {loose : List Str} {XP : (Str → Option Value) → Heap → Prop} {YP : World → Heap → Prop} {d : DefRec} {x : Str}
    (m63 : l.most = some n) (fits : n ≤ sizeLine) (plain : d.params.defaults = []) (room : Room k callerA)
    (told : ∀ (w : World) (mg : Str → Option Value) (fa : Addr) (h : Heap), YP w h → h.Ns mainGlobals mg → mg d.name = some (.ref fa) →
      ∃ (K : PySem.W.Frag) (fd : FuncData) (sp : Sp), K.In h ∧ (∀ (s : Shared) (v : Value), BindsTo s fd ⟨[v], []⟩ [(x, v)]) ∧
        (∀ (H : Hp) (a : Addr) (ns : List Int), ns.length ≤ n → SqL K H a (ns.map V.int) → sp [.ref a] H (fun v _ => v = .bl true) fun _ _ _ => False) ∧ (∀ base : Heap, K.In base → base.Ns mainGlobals mg → FnG l.prog w K mg base k fa fd [x] sp)) :
    PySem.W.WalkO q loose XP YP l.row.toRowW d [] (fun g us => PySem.call g us) := by
  refine Att.attach_call m63 plain ?_
  intro w s0 s1 mg mb fa o pm cd doc a vs ns G Y h1 h2 h3 named obj nums len gens
  obtain ⟨K, fd, sp, kin, bind, want, F⟩ := told w mg fa _ Y G.T.g named
  exact callG kin G.T.g G.T.b G.T.builtins G.T.nolimit gens obj nums (Nat.le_trans len fits) room F bind (fun H _ sq => want H a ns len sq)
/-! ### rows: bounds, walking -/
def Bd (x : Int × Int) : Prop := 0 ≤ x.1 ∧ x.1 < 10000000000000000000000000000000000000000 ∧ 0 ≤ x.2 ∧ x.2 < 10000000000000000000000000000000000000000
theorem Bd.nn {x : Int × Int} (h : Bd x) : Nn x := ⟨h.1, h.2.2.1⟩
theorem sm_int {x : Int} (h : x.natAbs < 2 ^ 1900) : Sm (.i x) := by
  unfold Sm
  exact Nat.lt_of_lt_of_le (PySem.Flt.log2_lt_of (by decide) h) (by decide)
theorem sm_pair {x : Int × Int} (h1 : x.1.natAbs < 2 ^ 1900) (h2 : x.2.natAbs < 2 ^ 1900) : Sm (dP x) := by
  unfold Sm SmL SmL SmL
  exact ⟨sm_int h1, sm_int h2, trivial⟩
theorem Bd.sz1 {x : Int × Int} (h : Bd x) : x.1.natAbs < 2 ^ 140 := Nat.lt_trans (show x.1.natAbs < 10000000000000000000000000000000000000000 by have := h.1; have := h.2.1; omega) (by decide)
theorem Bd.sz2 {x : Int × Int} (h : Bd x) : x.2.natAbs < 2 ^ 140 := Nat.lt_trans (show x.2.natAbs < 10000000000000000000000000000000000000000 by have := h.2.2.1; have := h.2.2.2; omega) (by decide)
theorem Bd.sm {x : Int × Int} (h : Bd x) : Sm (dP x) := sm_pair (lt_pow h.sz1 (by decide)) (lt_pow h.sz2 (by decide))
theorem sm_rowL : ∀ {ps : List (Int × Int)}, (∀ x ∈ ps, Sm (dP x)) → SmL (ps.map dP)
  | [], _ => by unfold List.map SmL; trivial
  | x :: r, h => by
    rw [List.map_cons]
    unfold SmL
    exact ⟨h x (List.mem_cons_self ..), sm_rowL fun y hy => h y (List.mem_cons_of_mem _ hy)⟩
theorem sm_row {ps : List (Int × Int)} (h : ∀ x ∈ ps, Sm (dP x)) : Sm (dR ps) := by
  unfold Sm
  exact sm_rowL h
theorem wt_pair (x : Int × Int) : wt (dP x) = 3857 := by
  unfold wt wtL wtL wtL wt
  rfl
theorem wt_rowL : ∀ ps : List (Int × Int), wtL (ps.map dP) = 3859 * ps.length
  | [] => by unfold List.map wtL; rfl
  | x :: r => by
    rw [List.map_cons]
    unfold wtL
    rw [wt_rowL r, wt_pair, List.length_cons]
    omega
theorem wt_row {ps : List (Int × Int)} (h : ps.length ≤ 4000) : wt (dR ps) ≤ sizeLine := by
  unfold wt
  rw [wt_rowL, sizeLine_eq]
  omega
theorem Dep.le {j k : Nat} {d : D} (h : j ≤ k) (a : Dep j d) : Dep k d := by
  induction h with
  | refl => exact a
  | step _ ih => exact ih.mono
theorem rep_map (k : Nat) (ps : List (Int × Int)) : (List.replicate k (ps.map dP)).flatten = (List.replicate k ps).flatten.map dP := by
  rw [List.map_flatten, List.map_replicate]
theorem rep_mem {α : Type} {k : Nat} {ps : List α} {x : α} (h : x ∈ (List.replicate k ps).flatten) : x ∈ ps := by
  obtain ⟨l, hl, hx⟩ := List.mem_flatten.mp h
  rw [(List.mem_replicate.mp hl).2] at hx
  exact hx
/-- what a purse holds behind a row, none where it is not borne -/
def wk : List (Int × Int) → Int → Option Int
  | [], k => some k
  | x :: r, k => if k < x.1 then none else wk r (k - x.1 + x.2)
def vO : Option Int → V
  | none => .non
  | some x => .int x
def dO : Option Int → D
  | none => .n
  | some x => .i x
theorem at_dO {H : Hp} (o : Option Int) : At H (dO o) (vO o) := by
  cases o with
  | none => unfold dO vO At; rfl
  | some x => unfold dO vO At; rfl
theorem wk_wl : ∀ {ps : List (Int × Int)} {k : Int}, (∀ x ∈ ps, Nn x) → 0 ≤ k → wk ps k = if k < (wl ps).1 then none else some (k - (wl ps).1 + (wl ps).2)
  | [], k, _, hk => by
    unfold wk wl
    rw [if_neg (by dsimp only; omega)]
    dsimp only
    congr 1
    omega
  | x :: r, k, h, hk => by
    have hx := h x (List.mem_cons_self ..)
    have hr := wl_nn (ps := r) fun y hy => h y (List.mem_cons_of_mem _ hy)
    unfold wk
    rw [show wl (x :: r) = jn x (wl r) from rfl]
    obtain ⟨h1, h2⟩ := hx
    obtain ⟨h3, h4⟩ := hr
    by_cases e : k < x.1
    · rw [if_pos e, if_pos (by unfold jn; dsimp only; split <;> omega)]
    · rw [if_neg e, wk_wl (ps := r) (fun y hy => h y (List.mem_cons_of_mem _ hy)) (by omega)]
      generalize wl r = m at *
      unfold jn
      dsimp only
      by_cases e2 : k - x.1 + x.2 < m.1
      · rw [if_pos e2, if_pos (by split <;> omega)]
      · rw [if_neg e2, if_neg (by split <;> omega)]
        congr 1
        repeat' split
        all_goals omega
theorem wk_need {ps : List (Int × Int)} (h : ∀ x ∈ ps, Nn x) : wk ps (wl ps).1 = some (wl ps).2 := by
  rw [wk_wl h (wl_nn h).1, if_neg (by omega)]
  congr 1
  omega
theorem wk_less {ps : List (Int × Int)} {k : Int} (h : ∀ x ∈ ps, Nn x) (h0 : 0 ≤ k) (h1 : k < (wl ps).1) : wk ps k = none := by
  rw [wk_wl h h0, if_pos h1]
theorem wk_more {ps : List (Int × Int)} {m : Int} (h : ∀ x ∈ ps, Nn x) (h0 : 0 ≤ m) : wk ps ((wl ps).1 + m) = some ((wl ps).2 + m) := by
  have := (wl_nn h).1
  rw [wk_wl h (by omega), if_neg (by omega)]
  congr 1
  omega
/-! ### t[::-1] of a tuple -/
theorem pick_back (xs : Array Value) : ((List.range xs.size).filterMap fun (k : Nat) => xs[(((xs.size : Int) - 1) + (k : Int) * (-1)).toNat]?) = xs.toList.reverse := by
  have e : ∀ k ∈ List.range xs.size, xs[(((xs.size : Int) - 1) + (k : Int) * (-1)).toNat]? = xs.toList.reverse[k]? := by
    intro k hk
    have h1 := List.mem_range.mp hk
    rw [List.getElem?_reverse (by rw [Array.length_toList]; exact h1), Array.length_toList, Array.getElem?_toList]
    congr 1
    omega
  have fm : ∀ (l : List Nat) (f g : Nat → Option Value), (∀ k ∈ l, f k = g k) → l.filterMap f = l.filterMap g := by
    intro l f g
    induction l with
    | nil => intro _; rfl
    | cons a l ih =>
      intro h
      rw [List.filterMap_cons, List.filterMap_cons, h a (List.mem_cons_self ..), ih fun k hk => h k (List.mem_cons_of_mem _ hk)]
  rw [fm _ _ _ e]
  have h2 : xs.toList.reverse.length = xs.size := by rw [List.length_reverse, Array.length_toList]
  rw [← h2]
  generalize xs.toList.reverse = l
  induction l with
  | nil => rfl
  | cons a l ih =>
    rw [List.length_cons, List.range_succ_eq_map, List.filterMap_cons]
    show a :: _ = _
    rw [List.filterMap_map]
    exact congrArg (a :: ·) ih
section
variable {prog : Program} {w : World} {A : Around} {E : Value → Shared → Prop} {s : Shared}
theorem applied_back {sl : Addr} {t : Tok} {n : Nat} {Q : Int × Int × Nat → Shared → Prop} (hs : s.heap.IsSliceOf sl .none .none (.int (-1) t)) (h : Q ((n : Int) - 1, -1, n) s) :
    wpAny (model prog w) A (Builtin.Slice.sliceApplied (.ref sl) (pure (n : Int))) Q E s := by
  obtain ⟨os, o1, o2, o3⟩ := id hs
  unfold Builtin.Slice.sliceApplied Builtin.Slice.sliceFields
  refine wpAny_bind (wpAny_bind (wpAny_field o1 o3 (x := .none) rfl (wpAny_bind (wpAny_field o1 o3 (x := .none) rfl (wpAny_bind (wpAny_field o1 o3 (x := .int (-1) t) rfl (wpAny_pure ?_)))))))
  refine wpAny_bind (HT.slicePart_ (IsPart.int (-1) t) ?_)
  show wpAny _ _ (if ((-1 : Int) == 0) = true then _ else _) _ _ s
  rw [if_neg (by decide)]
  refine wpAny_bind (HT.slicePart_ IsPart.none (wpAny_bind (HT.slicePart_ IsPart.none (wpAny_bind (wpAny_pure ?_)))))
  have e : Builtin.Slice.slicePlaces ((n : Int) - 1) (-1) (-1) = n := by
    unfold Builtin.Slice.slicePlaces
    rw [if_neg (by decide), show (-(-1 : Int)) = 1 from rfl, Int.ediv_one]
    split <;> omega
  show wpAny _ _ (pure ((n : Int) - 1, (-1 : Int), Builtin.Slice.slicePlaces ((n : Int) - 1) (-1) (-1))) _ _ s
  rw [e]
  exact wpAny_pure h
theorem item_back {t sl : Addr} {its : Array Value} {k : Tok} {Q : Value → Shared → Prop} (ht : IsTup s.heap t its) (hs : s.heap.IsSliceOf sl .none .none (.int (-1) k))
    (h : Q (.ref s.heap.objs.size) { s with heap := s.heap.push { cls := .type "tuple", data := .seq its.toList.reverse.toArray } }) (hsz : its.size ≤ sizeLine) :
    wpAny (model prog w) A (getItem (.ref t) (.ref sl)) Q E s := by
  have fits : sizeOk (.seq its.toList.reverse.toArray) := by
    show its.toList.reverse.toArray.size ≤ sizeLine
    rw [List.size_toArray, List.length_reverse, Array.length_toList]
    exact hsz
  obtain ⟨os, o1, o2, o3⟩ := id hs
  have isS : s.TypeIs (.ref sl) "slice" := ⟨os, o1, o2⟩
  unfold getItem
  try with_reducible refine wpAny_holding ?_
  first | refine wpAny_bind (wpAny_pure ?_) | skip
  refine wpAny_bind (wpAny_sequenceKey ht.typeIs (by decide) ?_)
  refine wpAny_bind (wpAny_callSpecial?_slot (name := Str.ofString "__getitem__") ht.typeIs PyProof.Rows.slot_tuple_getitem ?_)
  refine wpAny_call_entry PyProof.Rows.slot_tuple_getitem ht.typeIs entry_tuple_getitem ?_ (args_tuple_getitem _ _)
  show wpAny _ _ (Builtin.Tuple.tupleItemsOf (.ref t) >>= _) _ _ s
  refine wpAny_bind (tupleItemsOf_ ht (wpAny_bind (wpAny_typeOf isS ?_)))
  rw [if_pos (by decide)]
  refine wpAny_bind (applied_back hs ?_)
  have no : ¬ ((((its.size : Int) - 1) == 0 && (-1 : Int) == 1 && its.size == its.size) = true) := by
    intro z
    rw [Bool.and_eq_true, Bool.and_eq_true] at z
    exact absurd (eq_of_beq z.1.2) (by decide)
  show wpAny _ _ (if (((its.size : Int) - 1) == 0 && (-1 : Int) == 1 && its.size == its.size) = true then _ else _) _ _ s
  rw [if_neg no, pick_back]
  first
    | exact wpAny_bind (m := Builtin.Tuple.tupleExact _) (wpAny_newObj_type (wpAny_pure ⟨_, rfl, wpAny_pure h⟩) fits)
    | exact wpAny_bind (m := Builtin.Tuple.tupleExact _) (wpAny_newObj_type (wpAny_bind (wpAny_pure (wpAny_pure ⟨_, rfl, wpAny_pure h⟩))) fits)
    | exact wpAny_bind (wpAny_bind (m := Builtin.Tuple.tupleExact _) (wpAny_newObj_type (wpAny_pure (wpAny_pure ⟨_, rfl, wpAny_pure h⟩)) fits))
    | exact wpAny_bind (wpAny_bind (m := Builtin.Tuple.tupleExact _) (wpAny_newObj_type (wpAny_pure ⟨_, rfl, wpAny_pure h⟩) fits))
end
def tRevT (K : PySem.W.Frag) (te : TE) : TE := fun σ H Q => te σ H fun x H1 => ∃ a xs, x = .ref a ∧ SqT K H1 a xs ∧ ∀ p, H1 p = none → Q (.ref p) (upd H1 p (.tup xs.reverse))
theorem pe_revT_ {X : Cx} {K : PySem.W.Frag} {e : Expr} {te : TE} {k : Nat} {p1 p2 p3 pos : Pos} (hK : X.K = K) (he : PE X e te) : PE X (.Subscript e (.Slice none none (some (.UnaryOp .USub (.Constant (.int 1) k p1) p2)) p3) pos) (tRevT K te) := by
  subst hK
  refine ⟨fun pins s σ H Q I h => Subscript_ (thn (he.run pins s σ H _ I h) (fun v s1 got => ?_))⟩
  obtain ⟨x, H1, I1, r1, a, xs, ex, hx, q⟩ := got
  subst ex
  cases r1
  have step : PO X (some (.UnaryOp .USub (.Constant (.int 1) k p1) p2)) (tPart (tUn (rU fun i => .int (-i)) (tC (.int 1)))) := po_some (pe_un un_neg pe_int)
  refine wpAny_Slice (thn (po_none.run pins s1 σ H1 (fun o H2 => o = none ∧ H2 = H1) I1 ⟨rfl, rfl⟩) (fun vl s2 got => ?_))
  obtain ⟨l, H2, I2, pl, el, e2⟩ := got
  subst el e2
  refine thn (po_none.run pins s2 σ H2 (fun o H3 => o = none ∧ H3 = H2) I2 ⟨rfl, rfl⟩) (fun vu s3 got => ?_)
  obtain ⟨u, H3, I3, pu, eu, e3⟩ := got
  subst eu e3
  refine thn (step.run pins s3 σ H3 (fun o H4 => o = some (-1) ∧ H4 = H3) I3 ⟨1, rfl, -1, rfl, rfl, rfl⟩) (fun vs s4 got => ?_)
  obtain ⟨o, H4, I4, ps, eo, e4⟩ := got
  subst eo e4
  cases pl
  cases pu
  cases ps with
  | int i t =>
  have I5 : Inv X pins σ H4 { s4 with heap := s4.heap.push { cls := .type "slice", data := .fields #[.none, .none, .int (-1) t] } } := I4.kept (t' := s4.toks) (fun b ob z => Heap.get?_push_of_some _ z)
  obtain ⟨its, r, ht, hz⟩ := I5.tuple hx
  have hlen : its.toArray.size = xs.length := by rw [List.size_toArray]; exact r.length.symm
  show wpAny (model X.prog X.w) X.A (subscriptTail e (.Slice none none (some (.UnaryOp .USub (.Constant (.int 1) k p1) p2)) p3) (.ref a) (.ref s4.heap.objs.size)) (EP X pins σ Q) X.xe { s4 with heap := s4.heap.push { cls := .type "slice", data := .fields #[.none, .none, .int (-1) t] } }
  refine tail_any (ops := [.ref a, .ref s4.heap.objs.size]) ht.typeIs PyProof.Rows.slot_tuple_getitem.lookup ?_ (by with_unfolding_all rfl)
  refine item_back ht (Heap.IsSliceOf.new _ _ _ _) ?_ (by rw [hlen]; exact hz)
  refine ⟨.ref _, _, I5.laid (t' := s4.toks) (o := .tup xs.reverse) (fun b ob z => Heap.get?_push_of_some _ z) (Nat.le_refl _) ?_, rfl, q _ (I5.hok.fresh (Nat.le_refl _))⟩
  exact ⟨by rw [List.length_reverse]; exact hz, _, r.reverse, IsTup.new _ _⟩
/-! ### more rules by the written part's own name -/
theorem pgT_ {X : Cx} {K : PySem.W.Frag} {es : List Expr} {k : Nat} {t : TGs} {n : Nat} {pos : Pos} (hK : X.K = K) (hc : X.calm = true) (h : PGs X es t)
    (hn : (assignEach es X.env).length = n := by rfl) (hst : (assignEach es X.env).findIdx? (·.1) = none := by rfl) : PG X (.Tuple es k pos) (gTup K n t) := by
  subst hK
  exact pg_tup hc h hn hst
theorem piT_ {X : Cx} {K : PySem.W.Frag} {tg l : Expr} {tl : TE} (hK : X.K = K) (h : PE X l tl) : PI X tg l (iTup K tl) := by
  subst hK
  exact pi_tup h
theorem piL_ {X : Cx} {K : PySem.W.Frag} {tg l : Expr} {tl : TE} (hK : X.K = K) (h : PE X l tl) : PI X tg l (iList K tl) := by
  subst hK
  exact pi_list h
theorem pe_revL_ {X : Cx} {K : PySem.W.Frag} {e : Expr} {te : TE} {k : Nat} {p1 p2 p3 pos : Pos} (hK : X.K = K) (he : PE X e te) : PE X (.Subscript e (.Slice none none (some (.UnaryOp .USub (.Constant (.int 1) k p1) p2)) p3) pos) (tRevL K te) := by
  subst hK
  exact pe_revL he
theorem catA_ {X : Cx} {K : PySem.W.Frag} (hK : X.K = K) : OpR X (binaryOp .Add) (rCatA K) := by
  subst hK
  exact op_catA
/-- zip of two tuples -/
theorem walk_zipT {K : PySem.W.Frag} {a b : Addr} {xs ys : List V} {n : Nat} (hn : n = min xs.length ys.length) : Walk (RZ.ItzT K a b) n (fun H => SqT K H a xs ∧ SqT K H b ys) (YPair (fun i => xs[i]?) (fun i => ys[i]?)) := by
  subst hn
  refine ⟨fun i _ hi q => ?_, fun _ q => ⟨xs, ys, q.1, q.2, by omega⟩, fun i H v H' _ q y => ?_⟩
  · have l1 : i < xs.length := by omega
    have l2 : i < ys.length := by omega
    exact ⟨xs, ys, xs[i], ys[i], q.1, q.2, List.getElem?_eq_getElem l1, List.getElem?_eq_getElem l2⟩
  · obtain ⟨T, x, z, y1, y2, y3, y4, y5⟩ := y
    exact ⟨T, x, z, y1, y2, y3, y4 xs q.1, y5 ys q.2⟩
theorem Dep.ints {ns : List Int} (h : ns.length ≤ 1000000) : Dep 1 (.t (ns.map D.i)) := by
  refine ⟨by rw [List.length_map]; exact h, fun d hd => ?_⟩
  obtain ⟨x, _, rfl⟩ := List.mem_map.mp hd
  trivial
theorem at_ints {H : Hp} : ∀ ns : List Int, AtL H (ns.map D.i) (ns.map V.int)
  | [] => AtL.nil
  | n :: ns => AtL.cons (At.int n) (at_ints ns)
theorem upd_lst_tups {H : Hp} {o : Addr} {xs : List V} {x : HO} (h : H o = some (.lst xs)) : Tups H (upd H o x) := fun b ys e => by
  rw [upd_ne (ne_of e h (by intro z; cases z))]
  exact e
/-! ### heights and dips -/
def gn (ps : List (Int × Int)) : Int := (ps.map fun x => x.2 - x.1).sum
def hts (ps : List (Int × Int)) : List Int := (List.range (ps.length + 1)).map fun k => gn (ps.take k)
def dpA (ps : List (Int × Int)) (k : Nat) : Int := gn (ps.take k) - (ps.getD k (0, 0)).1
def dps (ps : List (Int × Int)) : List Int := (List.range ps.length).map (dpA ps)
def swp (x : Int × Int) : Int × Int := (x.2, x.1)
def trn (ps : List (Int × Int)) : List (Int × Int) := ps.reverse.map swp
theorem gn_nil : gn [] = 0 := rfl
theorem gn_cons (x : Int × Int) (r : List (Int × Int)) : gn (x :: r) = x.2 - x.1 + gn r := by
  unfold gn
  rw [List.map_cons, List.sum_cons]
theorem gn_append (a b : List (Int × Int)) : gn (a ++ b) = gn a + gn b := by
  unfold gn
  rw [List.map_append, List.sum_append]
theorem gn_take {ps : List (Int × Int)} {i : Nat} {r : Int × Int} (h : ps[i]? = some r) : gn (ps.take (i + 1)) = gn (ps.take i) + (r.2 - r.1) := by
  rw [List.take_add_one, h, gn_append]
  show gn (ps.take i) + gn [r] = _
  rw [gn_cons, gn_nil]
  omega
theorem hts_len (ps : List (Int × Int)) : (hts ps).length = ps.length + 1 := by
  unfold hts
  rw [List.length_map, List.length_range]
theorem dps_len (ps : List (Int × Int)) : (dps ps).length = ps.length := by
  unfold dps
  rw [List.length_map, List.length_range]
theorem hts_get {ps : List (Int × Int)} {k : Nat} (h : k ≤ ps.length) : (hts ps)[k]? = some (gn (ps.take k)) := by
  unfold hts
  rw [List.getElem?_map, List.getElem?_range (by omega)]
  rfl
theorem dps_get {ps : List (Int × Int)} {k : Nat} (h : k < ps.length) : (dps ps)[k]? = some (dpA ps k) := by
  unfold dps
  rw [List.getElem?_map, List.getElem?_range h]
  rfl
theorem map_range_succ {α : Type} (f : Nat → α) (i : Nat) : (List.range (i + 1)).map f = (List.range i).map f ++ [f i] := by
  rw [List.range_succ, List.map_append]
  rfl
theorem gn_trn : ∀ ps : List (Int × Int), gn (trn ps) = - gn ps
  | [] => rfl
  | x :: r => by
    have ih := gn_trn r
    unfold trn at *
    rw [List.reverse_cons, List.map_append, gn_append, ih, gn_cons]
    show - gn r + gn [swp x] = _
    rw [gn_cons, gn_nil]
    unfold swp
    dsimp only
    omega
theorem trn_len (ps : List (Int × Int)) : (trn ps).length = ps.length := by
  unfold trn
  rw [List.length_map, List.length_reverse]
theorem trn_get {ps : List (Int × Int)} {k : Nat} (h : k < ps.length) : (trn ps)[k]? = some (swp (ps.getD (ps.length - 1 - k) (0, 0))) := by
  unfold trn
  rw [List.getElem?_map, List.getElem?_reverse h, List.getD_eq_getElem?_getD, List.getElem?_eq_getElem (by omega)]
  rfl
theorem trn_take (ps : List (Int × Int)) (k : Nat) (h : k ≤ ps.length) : (trn ps).take k = trn (ps.drop (ps.length - k)) := by
  unfold trn
  rw [← List.map_take]
  congr 1
  rw [List.take_reverse]
theorem gn_drop (ps : List (Int × Int)) (k : Nat) : gn (ps.drop k) = gn ps - gn (ps.take k) := by
  have h := gn_append (ps.take k) (ps.drop k)
  rw [List.take_append_drop] at h
  omega
theorem getD_get {ps : List (Int × Int)} {k : Nat} (h : k < ps.length) : ps[k]? = some (ps.getD k (0, 0)) := by
  rw [List.getD_eq_getElem?_getD, List.getElem?_eq_getElem h]
  rfl
/-- turned about the dips are the same, from the end on, less the last height -/
theorem dps_trn (ps : List (Int × Int)) : dps (trn ps) = (dps ps).reverse.map fun d => d - gn ps := by
  apply List.ext_getElem?
  intro k
  by_cases hk : k < ps.length
  · rw [dps_get (by rw [trn_len]; exact hk), List.getElem?_map, List.getElem?_reverse (by rw [dps_len]; exact hk), dps_len, dps_get (by omega)]
    show some (dpA (trn ps) k) = some (dpA ps (ps.length - 1 - k) - gn ps)
    congr 1
    unfold dpA
    have e1 : (trn ps).getD k (0, 0) = swp (ps.getD (ps.length - 1 - k) (0, 0)) := by
      rw [List.getD_eq_getElem?_getD, trn_get hk]
      rfl
    have e2 := gn_take (getD_get (show ps.length - 1 - k < ps.length by omega))
    rw [show ps.length - 1 - k + 1 = ps.length - k by omega] at e2
    rw [e1, trn_take ps k (by omega), gn_trn, gn_drop, e2]
    unfold swp
    dsimp only
    omega
  · rw [List.getElem?_eq_none (by rw [dps_len, trn_len]; omega), List.getElem?_eq_none (by rw [List.length_map, List.length_reverse, dps_len]; omega)]
theorem dpA_succ (x : Int × Int) (r : List (Int × Int)) (k : Nat) : dpA (x :: r) (k + 1) = x.2 - x.1 + dpA r k := by
  unfold dpA
  rw [List.take_succ_cons, gn_cons, List.getD_cons_succ]
  omega
theorem dpA_zero (x : Int × Int) (r : List (Int × Int)) : dpA (x :: r) 0 = - x.1 := by
  unfold dpA
  rw [List.take_zero, gn_nil, List.getD_cons_zero]
  omega
/-- the least purse: no dip is deeper, and it is 0 or some dip's -/
theorem wl_dips : ∀ (ps : List (Int × Int)), (∀ x ∈ ps, Nn x) → (∀ k, k < ps.length → - dpA ps k ≤ (wl ps).1) ∧ ((wl ps).1 = 0 ∨ ∃ k, k < ps.length ∧ (wl ps).1 = - dpA ps k)
  | [], _ => ⟨fun k h => absurd h (Nat.not_lt_zero k), .inl rfl⟩
  | x :: r, h => by
    have hx := h x (List.mem_cons_self ..)
    obtain ⟨ih1, ih2⟩ := wl_dips r fun y hy => h y (List.mem_cons_of_mem _ hy)
    have hr := (wl_nn (ps := r) fun y hy => h y (List.mem_cons_of_mem _ hy)).1
    obtain ⟨h1, h2⟩ := hx
    have e : (wl (x :: r)).1 = x.1 + (if (wl r).1 - x.2 > 0 then (wl r).1 - x.2 else 0) := rfl
    refine ⟨fun k hk => ?_, ?_⟩
    · cases k with
      | zero =>
        rw [dpA_zero, e]
        split <;> omega
      | succ k =>
        have := ih1 k (by rw [List.length_cons] at hk; omega)
        rw [dpA_succ, e]
        split <;> omega
    · by_cases hg : (wl r).1 - x.2 > 0
      · rw [if_pos hg] at e
        rcases ih2 with z | ⟨k, hk, ek⟩
        · omega
        · refine .inr ⟨k + 1, by rw [List.length_cons]; omega, ?_⟩
          rw [dpA_succ, e]
          omega
      · rw [if_neg hg] at e
        refine .inr ⟨0, by rw [List.length_cons]; omega, ?_⟩
        rw [dpA_zero, e]
        omega
theorem wl_max {ps : List (Int × Int)} (h : ∀ x ∈ ps, Nn x) {m : Int} (hm : m ∈ 0 :: (dps ps).map fun d => 0 - d) (ub : ∀ y ∈ 0 :: (dps ps).map fun d => 0 - d, y ≤ m) : (wl ps).1 = m := by
  obtain ⟨h1, h2⟩ := wl_dips ps h
  have mem : ∀ k, k < ps.length → 0 - dpA ps k ∈ 0 :: (dps ps).map fun d => 0 - d := fun k hk =>
    List.mem_cons_of_mem _ (List.mem_map.mpr ⟨dpA ps k, List.mem_of_getElem? (dps_get hk), rfl⟩)
  have u0 := ub 0 (List.mem_cons_self ..)
  have le : (wl ps).1 ≤ m := by
    rcases h2 with z | ⟨k, hk, ek⟩
    · omega
    · have := ub _ (mem k hk)
      omega
  have ge : m ≤ (wl ps).1 := by
    rcases List.mem_cons.mp hm with z | z
    · rw [z]
      exact (wl_nn h).1
    · obtain ⟨d, hd, rfl⟩ := List.mem_map.mp z
      obtain ⟨k, hk⟩ := List.getElem?_of_mem hd
      have hkl : k < ps.length := by
        rw [← dps_len]
        exact (List.getElem?_eq_some_iff.mp hk).1
      rw [dps_get hkl] at hk
      have := h1 k hkl
      cases hk
      omega
  omega
theorem hts_last (ps : List (Int × Int)) : (hts ps)[ps.length]? = some (gn ps) := by
  rw [hts_get (Nat.le_refl _), List.take_length]
/-! ### min of a tuple of whole numbers, > of two such tuples, slices -/
def rMinT (K : PySem.W.Frag) : List V → Hp → VK → Prop := fun vs H Q => ∃ (a : Addr) (n : Int) (ns : List Int), vs = [V.ref a] ∧ H a = some (.tup ((n :: ns).map V.int)) ∧ Q (.int (ns.foldl min n)) H
theorem readsAll_nums {h : Heap} : ∀ {vs : List Value} {ns : List Int}, IntsAre vs ns → ReadsAll h vs (ns.map PyData.int) []
  | _, _, .nil => .nil
  | _, _, .cons n t r => .cons (.int n t) (readsAll_nums r)
theorem minT_ {X : Cx} {K : PySem.W.Frag} (hc : X.calm = true) (hu : X.A.units + 64 < cLine) (hK : X.K = K) : CallR X (.builtin "min") (rMinT K) := by
  subst hK
  intro pins s σ H vs us Q I r h
  obtain ⟨a, n, ns, rfl, ha, q⟩ := h
  obtain ⟨its, rv, hl, _⟩ := I.tuple (.inl (.inl ha))
  rw [Vals.ref1 r]
  have nums : IntsAre its (n :: ns) := rv.ints
  have dep : ∀ l : List Int, PyData.depthAll (l.map PyData.int) = 0 := fun l => by
    induction l with
    | nil => rfl
    | cons x l ih =>
      rw [List.map_cons]
      simp only [PyData.depthAll, PyData.depth, ih]
      rfl
  refine PySem.W.min_tuple_data (x := .int n) (xs := ns.map .int) (I.ok.hd hc) hl (by simpa using readsAll_nums (h := s.heap) nums) ⟨fun x hx y hy => ?_, fun x hx => ?_⟩ ?_ (fun i v h' tk bs e1 rd keep => ?_)
  · have e : ∀ z ∈ PyData.int n :: ns.map PyData.int, ∃ k, z = .int k := fun z hz => by
      rcases List.mem_cons.mp hz with h | h
      · exact ⟨n, h⟩
      · obtain ⟨k, _, e⟩ := List.mem_map.mp h
        exact ⟨k, e.symm⟩
    obtain ⟨k1, rfl⟩ := e x hx
    obtain ⟨k2, rfl⟩ := e y hy
    rfl
  · rcases List.mem_cons.mp hx with h | h
    · rw [h]; exact fun z => nomatch z
    · obtain ⟨k, _, e⟩ := List.mem_map.mp h
      rw [← e]; exact fun z => nomatch z
  · have := dep (n :: ns)
    rw [List.map_cons] at this
    rw [this]
    omega
  · rw [PySem.W.minD_ints] at rd
    cases rd with
    | int _ t => exact ⟨.int _, H, I.kept (t' := tk) keep, ⟨t, rfl⟩, q⟩
theorem foldl_min_mem : ∀ (ns : List Int) (n : Int), ns.foldl min n ∈ n :: ns ∧ ∀ y ∈ n :: ns, ns.foldl min n ≤ y
  | [], n => ⟨List.mem_cons_self .., fun y hy => by rw [List.mem_singleton.mp hy]; exact Int.le_refl _⟩
  | x :: r, n => by
    obtain ⟨h1, h2⟩ := foldl_min_mem r (min n x)
    rw [List.foldl_cons]
    refine ⟨?_, fun y hy => ?_⟩
    · rcases List.mem_cons.mp h1 with h | h
      · rw [h]
        rcases Int.le_total n x with z | z
        · rw [Int.min_eq_left z]; exact List.mem_cons_self ..
        · rw [Int.min_eq_right z]; exact List.mem_cons_of_mem _ (List.mem_cons_self ..)
      · exact List.mem_cons_of_mem _ (List.mem_cons_of_mem _ h)
    · have hm := h2 (min n x) (List.mem_cons_self ..)
      rcases List.mem_cons.mp hy with h | h
      · rw [h]; omega
      · rcases List.mem_cons.mp h with h | h
        · rw [h]; omega
        · exact h2 y (List.mem_cons_of_mem _ h)
def lexGt : List Int → List Int → Bool
  | [], _ => false
  | _ :: _, [] => true
  | x :: r, y :: t => if x = y then lexGt r t else decide (y < x)
def rGtT (K : PySem.W.Frag) : R2 := fun x y H Q => ∃ (a b : Addr) (x1 x2 x3 y1 y2 y3 : Int), x = .ref a ∧ y = .ref b ∧ H a = some (.tup [.int x1, .int x2, .int x3]) ∧ H b = some (.tup [.int y1, .int y2, .int y3]) ∧ Q (.bl (lexGt [x1, x2, x3] [y1, y2, y3])) H
theorem gtT_ {X : Cx} {K : PySem.W.Frag} (hu : X.A.units < cLine) (hK : X.K = K) : OpR X (compareOp .Gt) (rGtT K) := by
  subst hK
  intro pins s σ H x y v u Q I rx ry h
  obtain ⟨a, b, x1, x2, x3, y1, y2, y3, rfl, rfl, ha, hb, q⟩ := h
  cases rx
  cases ry
  obtain ⟨its, r1, p1, _⟩ := I.tuple (xs := [x1, x2, x3].map V.int) (.inl (.inl ha))
  obtain ⟨its2, r2, p2, _⟩ := I.tuple (xs := [y1, y2, y3].map V.int) (.inl (.inl hb))
  have i1 : IntsAre its [x1, x2, x3] := Vals.ints r1
  have i2 : IntsAre its2 [y1, y2, y3] := Vals.ints r2
  have e1 : its.toArray.size = 3 := by rw [List.size_toArray]; exact i1.length
  have e2 : its2.toArray.size = 3 := by rw [List.size_toArray]; exact i2.length
  have at1 : ∀ j (h1 : j < its.toArray.size), ∃ t, its.toArray[j] = .int ([x1, x2, x3].getD j 0) t := fun j h1 => PyProof.Rows.IntsAre.int_at i1 _ _ (by simp at h1; simp [h1])
  have at2 : ∀ j (h1 : j < its2.toArray.size), ∃ t, its2.toArray[j] = .int ([y1, y2, y3].getD j 0) t := fun j h1 => PyProof.Rows.IntsAre.int_at i2 _ _ (by simp at h1; simp [h1])
  have R := Ob.RcOp.tuples_gt (A := X.A) (s := s) (e := fun j => ([x1, x2, x3].getD j 0 == [y1, y2, y3].getD j 0)) (r := fun j => decide ([y1, y2, y3].getD j 0 < [x1, x2, x3].getD j 0)) p1 p2 hu (fun j h1 h2 => by
    obtain ⟨t1, q1⟩ := at1 j h1
    obtain ⟨t2, q2⟩ := at2 j h2
    rw [q1, q2]
    exact SeqAt.EqAt.int_int _ _ _ _) (fun j h1 h2 _ => by
    obtain ⟨t1, q1⟩ := at1 j h1
    obtain ⟨t2, q2⟩ := at2 j h2
    rw [q1, q2]
    exact Ob.RcOp.gt_int _ _ _ _)
  rw [e1, e2] at R
  have el : Ob.lexAt (fun j => ([x1, x2, x3].getD j 0 == [y1, y2, y3].getD j 0)) (fun j => decide ([y1, y2, y3].getD j 0 < [x1, x2, x3].getD j 0)) (decide (3 > 3)) 0 (min 3 3) = lexGt [x1, x2, x3] [y1, y2, y3] := by
    show (if (x1 == y1) = true then (if (x2 == y2) = true then (if (x3 == y3) = true then false else decide (y3 < x3)) else decide (y2 < x2)) else decide (y1 < x1)) = (if x1 = y1 then (if x2 = y2 then (if x3 = y3 then false else decide (y3 < x3)) else decide (y2 < x2)) else decide (y1 < x1))
    simp only [beq_iff_eq]
  rw [el] at R
  have z : wpAny (model X.prog X.w) X.A (compareOp .Gt (.ref a) (.ref b)) (EP X pins σ Q) X.xe s := R X.prog X.w X.xe (EP X pins σ Q) ⟨.bl _, H, I, rfl, q⟩
  exact z
theorem slA_cut {K : PySem.W.Frag} {H : Hp} {l : List D} {v : V} {z1 z2 : Int} {i k : Nat} {Q : VK} (h : At H (.t l) v) (e1 : z1 = (i : Int)) (e2 : z2 = (k : Int)) (hik : i ≤ k) (hk : k ≤ l.length) (q : ∀ H' u, Same H H' → At H' (.t ((l.drop i).take (k - i))) u → Q u H') : rSlA K v (some z1) (some z2) H Q := by
  subst e1 e2
  obtain ⟨a, vs, rfl, ha, av⟩ := h.inv
  have hl := av.length
  refine ⟨a, vs, rfl, .inl (.inl ha), fun hw => ?_, fun hw p np => ?_⟩
  · obtain ⟨h1, h2⟩ := hw
    rw [HT.sIx_nat] at h1 h2
    refine q H _ (Same.refl _) ?_
    have el : (l.drop i).take (k - i) = l := by
      by_cases h0 : l = []
      · subst h0
        rw [List.drop_nil, List.take_nil]
      · have hpos : 0 < l.length := List.length_pos_iff.mpr h0
        have i0 : i = 0 := by omega
        subst i0
        rw [List.drop_zero, List.take_of_length_le (by omega)]
    rw [el]
    exact h
  · refine q _ _ (Same.new np) (At.tup upd_same ?_)
    have ec : cutV vs (some (i : Int)) (some (k : Int)) = (vs.drop i).take (k - i) := by
      unfold cutV
      rw [HT.sIx_nat, HT.sIx_nat, Nat.min_eq_left (by omega), Nat.min_eq_left (by omega)]
    rw [ec]
    exact ((av.drop i).take (k - i)).same (Same.new np)
theorem catA_at {K : PySem.W.Frag} {H : Hp} {l l' : List D} {u v : V} {Q : VK} (h : At H (.t l) u) (h' : At H (.t l') v) (hl : l.length + l'.length ≤ 1000000) (q : ∀ H' w, Same H H' → At H' (.t (l ++ l')) w → Q w H') : rCatA K u v H Q := by
  obtain ⟨a, us, rfl, ha, au⟩ := id h.inv
  obtain ⟨b, vs, rfl, hb, bv⟩ := id h'.inv
  refine ⟨a, b, us, vs, rfl, rfl, .inl (.inl ha), .inl (.inl hb), Nat.le_of_lt (szM (by rw [au.length, bv.length]; exact hl)), fun e => ?_, fun e e2 => ?_, fun e e2 p np => ?_⟩
  · have el : l = [] := List.eq_nil_of_length_eq_zero (by rw [← au.length, e]; rfl)
    refine q H _ (Same.refl _) ?_
    rw [el]
    exact h'
  · have el : l' = [] := List.eq_nil_of_length_eq_zero (by rw [← bv.length, e2]; rfl)
    refine q H _ (Same.refl _) ?_
    rw [el, List.append_nil]
    exact h
  · exact q _ _ (Same.new np) (At.tup upd_same ((AtL.append au bv).same (Same.new np)))
/-! ### the ups of a row -/
def Tl (ps : List (Int × Int)) (k : Nat) : Int := gn (ps.take k)
/-- the least of f s .. f (s + j) -/
def mn (f : Nat → Int) (s : Nat) : Nat → Int
  | 0 => f s
  | j + 1 => if f (s + (j + 1)) < mn f s j then f (s + (j + 1)) else mn f s j
theorem mn_le (f : Nat → Int) (s : Nat) : ∀ (j i : Nat), i ≤ j → mn f s j ≤ f (s + i)
  | 0, i, h => by
    have : i = 0 := by omega
    subst this
    exact Int.le_refl _
  | j + 1, i, h => by
    unfold mn
    by_cases e : i = j + 1
    · subst e
      split <;> omega
    · have := mn_le f s j i (by omega)
      split <;> omega
theorem mn_mem (f : Nat → Int) (s : Nat) : ∀ j : Nat, ∃ i, i ≤ j ∧ mn f s j = f (s + i)
  | 0 => ⟨0, Nat.le_refl _, rfl⟩
  | j + 1 => by
    obtain ⟨i, hi, e⟩ := mn_mem f s j
    unfold mn
    split
    · exact ⟨j + 1, Nat.le_refl _, rfl⟩
    · exact ⟨i, by omega, e⟩
theorem mn_mono (f : Nat → Int) (s : Nat) {i j : Nat} (h : i ≤ j) : mn f s j ≤ mn f s i := by
  obtain ⟨k, hk, e⟩ := mn_mem f s i
  rw [e]
  exact mn_le f s j k (by omega)
theorem mn_ge {f : Nat → Int} {s j : Nat} {x : Int} (h : ∀ i, i ≤ j → x ≤ f (s + i)) : x ≤ mn f s j := by
  obtain ⟨i, hi, e⟩ := mn_mem f s j
  rw [e]
  exact h i hi
/-- the least dip of the pairs from s to below k -/
def Mk (ps : List (Int × Int)) (s k : Nat) : Int := mn (dpA ps) s (k - s - 1)
theorem Mk_mono {ps : List (Int × Int)} {s i j : Nat} (h : i ≤ j) : Mk ps s j ≤ Mk ps s i := mn_mono _ _ (by omega)
theorem Mk_le {ps : List (Int × Int)} {s k j : Nat} (h1 : s ≤ j) (h2 : j < k) : Mk ps s k ≤ dpA ps j := by
  have := mn_le (dpA ps) s (k - s - 1) (j - s) (by omega)
  rw [show s + (j - s) = j by omega] at this
  exact this
theorem Mk_ge {ps : List (Int × Int)} {s k : Nat} {x : Int} (hk : s < k) (h : ∀ j, s ≤ j → j < k → x ≤ dpA ps j) : x ≤ Mk ps s k :=
  mn_ge fun i hi => h (s + i) (by omega) (by omega)
theorem Mk_mem {ps : List (Int × Int)} {s k : Nat} (hk : s < k) : ∃ j, s ≤ j ∧ j < k ∧ Mk ps s k = dpA ps j := by
  obtain ⟨i, hi, e⟩ := mn_mem (dpA ps) s (k - s - 1)
  exact ⟨s + i, by omega, by omega, e⟩
/-- e is no worse than k: by the least dip, the height, the length -/
def Ok3 (ps : List (Int × Int)) (s k e : Nat) : Prop := Mk ps s k < Mk ps s e ∨ (Mk ps s k = Mk ps s e ∧ (Tl ps k < Tl ps e ∨ (Tl ps k = Tl ps e ∧ k ≤ e)))
def IsUp (ps : List (Int × Int)) (s e : Nat) : Prop :=
  (e = s ∧ ∀ k, s < k → k ≤ ps.length → Tl ps k ≤ Tl ps s) ∨ (s < e ∧ e ≤ ps.length ∧ Tl ps s < Tl ps e ∧ ∀ k, s < k → k ≤ ps.length → Tl ps s < Tl ps k → Ok3 ps s k e)
theorem IsUp.uniq {ps : List (Int × Int)} {s e e' : Nat} (h : IsUp ps s e) (h' : IsUp ps s e') : e = e' := by
  rcases h with ⟨h1, h2⟩ | ⟨h1, h2, h3, h4⟩
  · rcases h' with ⟨g1, g2⟩ | ⟨g1, g2, g3, g4⟩
    · omega
    · have := h2 e' g1 g2
      omega
  · rcases h' with ⟨g1, g2⟩ | ⟨g1, g2, g3, g4⟩
    · have := g2 e h1 h2
      omega
    · have a := h4 e' g1 g2 g3
      have b := g4 e h1 h2 h3
      unfold Ok3 at a b
      omega
theorem IsUp.bd {ps : List (Int × Int)} {s e : Nat} (h : IsUp ps s e) (hs : s ≤ ps.length) : e ≤ ps.length := by
  rcases h with ⟨a, b⟩ | ⟨a, b, c⟩
  · omega
  · exact b
inductive IsUps (ps : List (Int × Int)) : Nat → List (Nat × Nat) → Prop
  | nil {s : Nat} : IsUp ps s s → IsUps ps s []
  | cons {s e : Nat} {l : List (Nat × Nat)} : IsUp ps s e → s < e → IsUps ps e l → IsUps ps s ((s, e) :: l)
theorem IsUps.uniq {ps : List (Int × Int)} : ∀ {l l' : List (Nat × Nat)} {s : Nat}, IsUps ps s l → IsUps ps s l' → l = l'
  | [], [], _, _, _ => rfl
  | [], _ :: _, _, .nil h, .cons g1 g2 _ => by
    have := h.uniq g1
    omega
  | _ :: _, [], _, .cons g1 g2 _, .nil h => by
    have := h.uniq g1
    omega
  | _ :: _, _ :: _, _, .cons g1 g2 g3, .cons h1 h2 h3 => by
    have e := g1.uniq h1
    subst e
    rw [IsUps.uniq g3 h3]
/-- where the last of them ends -/
def lastE : Nat → List (Nat × Nat) → Nat
  | s, [] => s
  | _, x :: l => lastE x.2 l
theorem IsUps.le {ps : List (Int × Int)} : ∀ {l : List (Nat × Nat)} {s : Nat}, IsUps ps s l → s ≤ ps.length → s ≤ lastE s l ∧ lastE s l ≤ ps.length
  | [], _, _, h => ⟨Nat.le_refl _, h⟩
  | _ :: _, _, .cons g1 g2 g3, h => by
    have he := g1.bd h
    have := IsUps.le g3 he
    exact ⟨Nat.le_trans (Nat.le_of_lt g2) this.1, this.2⟩
theorem lastE_last : ∀ {l : List (Nat × Nat)} {s : Nat} {x : Nat × Nat}, l.getLast? = some x → lastE s l = x.2
  | [], _, _, h => by cases h
  | [y], _, x, h => by
    have e : y = x := Option.some.inj h
    subst e
    rfl
  | y :: z :: l, s, x, h => by
    rw [List.getLast?_cons_cons] at h
    exact lastE_last (l := z :: l) (s := y.2) h
theorem IsUps.len {ps : List (Int × Int)} : ∀ {l : List (Nat × Nat)} {s : Nat}, IsUps ps s l → s ≤ ps.length → l.length + s ≤ ps.length
  | [], _, _, h => by rw [List.length_nil]; omega
  | _ :: _, _, .cons g1 g2 g3, h => by
    have he := g1.bd h
    have := IsUps.len g3 he
    rw [List.length_cons]
    omega
/-- the first place above s -/
def IsAbove (ps : List (Int × Int)) (s : Nat) : Option Nat → Prop
  | none => ∀ k, s < k → k ≤ ps.length → Tl ps k ≤ Tl ps s
  | some a => s < a ∧ a ≤ ps.length ∧ Tl ps s < Tl ps a ∧ ∀ k, s < k → k < a → Tl ps k ≤ Tl ps s
/-- while it is looked for the end: at, best -/
structure Look (ps : List (Int × Int)) (s a : Nat) (fl : Int) (t b : Nat) : Prop where
  h1 : a ≤ t
  h2 : t ≤ ps.length
  h3 : a ≤ b
  h4 : b ≤ t
  h5 : ∀ k, a ≤ k → k < t → fl ≤ dpA ps k
  h6 : ∀ k, a ≤ k → k ≤ t → Tl ps k ≤ Tl ps b
  h7 : ∀ k, b < k → k ≤ t → Tl ps k < Tl ps b
theorem Look.fin {ps : List (Int × Int)} {s a t b : Nat} {fl : Int} (ab : IsAbove ps s (some a)) (efl : fl = Mk ps s a) (h : Look ps s a fl t b) (stop : t = ps.length ∨ (t < ps.length ∧ dpA ps t < fl)) : IsUp ps s b := by
  obtain ⟨a1, a2, a3, a4⟩ := ab
  obtain ⟨h1, h2, h3, h4, h5, h6, h7⟩ := h
  have eM : ∀ k, a ≤ k → k ≤ t → Mk ps s k = fl := fun k hk hkt => by
    have l1 := Mk_mono (ps := ps) (s := s) hk
    have l2 : fl ≤ Mk ps s k := Mk_ge (by omega) fun j hj hjk => by
      by_cases hja : j < a
      · rw [efl]; exact Mk_le hj hja
      · exact h5 j (by omega) (by omega)
    omega
  have hb := h6 a (Nat.le_refl _) h1
  refine .inr ⟨by omega, by omega, by omega, fun k hk hkn hkT => ?_⟩
  have hka : a ≤ k := by
    rcases Nat.lt_or_ge k a with z | z
    · have := a4 k hk z
      omega
    · exact z
  unfold Ok3
  by_cases hkt : k ≤ t
  · have e1 := eM k hka hkt
    have e2 := eM b h3 h4
    have e3 := h6 k hka hkt
    refine .inr ⟨by omega, ?_⟩
    by_cases hbk : b < k
    · exact .inl (h7 k hbk hkt)
    · by_cases e : Tl ps k = Tl ps b
      · exact .inr ⟨e, by omega⟩
      · exact .inl (by omega)
  · rcases stop with z | ⟨z1, z2⟩
    · omega
    · have e2 := eM b h3 h4
      have e3 := Mk_le (ps := ps) (s := s) (k := k) (j := t) (by omega) (by omega)
      exact .inl (by omega)
theorem Look.step {ps : List (Int × Int)} {s a t b : Nat} {fl : Int} (h : Look ps s a fl t b) (ht : t < ps.length) (hd : fl ≤ dpA ps t) : Look ps s a fl (t + 1) (if Tl ps b ≤ Tl ps (t + 1) then t + 1 else b) := by
  obtain ⟨h1, h2, h3, h4, h5, h6, h7⟩ := h
  have g5 : ∀ k, a ≤ k → k < t + 1 → fl ≤ dpA ps k := fun k hk hkt => by
    by_cases e : k = t
    · rw [e]; exact hd
    · exact h5 k hk (by omega)
  by_cases e : Tl ps b ≤ Tl ps (t + 1)
  · rw [if_pos e]
    refine ⟨by omega, by omega, by omega, by omega, g5, fun k hk hkt => ?_, fun k hk hkt => by omega⟩
    by_cases e2 : k = t + 1
    · rw [e2]; omega
    · have := h6 k hk (by omega)
      omega
  · rw [if_neg e]
    refine ⟨by omega, by omega, by omega, by omega, g5, fun k hk hkt => ?_, fun k hk hkt => ?_⟩
    · by_cases e2 : k = t + 1
      · rw [e2]; omega
      · exact h6 k hk (by omega)
    · by_cases e2 : k = t + 1
      · rw [e2]; omega
      · exact h7 k hk (by omega)
theorem Look.start {ps : List (Int × Int)} {s a : Nat} {fl : Int} (ab : IsAbove ps s (some a)) : Look ps s a fl a a := by
  obtain ⟨a1, a2, a3, a4⟩ := ab
  exact ⟨Nat.le_refl _, a2, Nat.le_refl _, Nat.le_refl _, fun k _ _ => by omega, fun k _ _ => by rw [show k = a by omega]; exact Int.le_refl _, fun k _ _ => by omega⟩
/-- the middle's end -/
def IsMid (ps : List (Int × Int)) (s m : Nat) : Prop := s ≤ m ∧ m ≤ ps.length ∧ Tl ps m = Tl ps s ∧ ∀ k, m < k → k ≤ ps.length → Tl ps k ≠ Tl ps s
theorem IsMid.uniq {ps : List (Int × Int)} {s m m' : Nat} (h : IsMid ps s m) (h' : IsMid ps s m') : m = m' := by
  obtain ⟨h1, h2, h3, h4⟩ := h
  obtain ⟨g1, g2, g3, g4⟩ := h'
  rcases Nat.lt_trichotomy m m' with z | z | z
  · exact absurd g3 (h4 m' z g2)
  · exact z
  · exact absurd h3 (g4 m z h2)
/-- places, as pairs of numbers -/
def cst (x : Nat × Nat) : Int × Int := ((x.1 : Int), (x.2 : Int))
/-- the downs behind the middle -/
def dwn (n : Nat) (l : List (Nat × Nat)) : List (Int × Int) := l.reverse.map fun x => ((n : Int) - (x.2 : Int), (n : Int) - (x.1 : Int))
theorem Tl_succ {ps : List (Int × Int)} {k : Nat} (h : k < ps.length) : Tl ps (k + 1) = Tl ps k - (ps.getD k (0, 0)).1 + (ps.getD k (0, 0)).2 := by
  unfold Tl
  rw [gn_take (getD_get h)]
  omega
theorem foldl_Mk {ps : List (Int × Int)} {s a : Nat} {n : Int} {ns : List Int} (h : s < a) (ha : a ≤ ps.length) (e : ((dps ps).drop s).take (a - s) = n :: ns) : ns.foldl min n = Mk ps s a := by
  obtain ⟨h1, h2⟩ := foldl_min_mem ns n
  rw [← e] at h1 h2
  have get : ∀ i, i < a - s → (((dps ps).drop s).take (a - s))[i]? = some (dpA ps (s + i)) := fun i hi => by
    rw [List.getElem?_take_of_lt hi, List.getElem?_drop, dps_get (by omega)]
  have le : ns.foldl min n ≤ Mk ps s a := Mk_ge h fun j hj hja => by
    have := get (j - s) (by omega)
    rw [show s + (j - s) = j by omega] at this
    exact h2 _ (List.mem_of_getElem? this)
  have ge : Mk ps s a ≤ ns.foldl min n := by
    obtain ⟨i, hi⟩ := List.getElem?_of_mem h1
    have hil : i < a - s := by
      have := (List.getElem?_eq_some_iff.mp hi).1
      rw [List.length_take] at this
      omega
    rw [get i hil] at hi
    have := Option.some.inj hi
    rw [← this]
    exact Mk_le (by omega) (by omega)
  omega
/-! ### the law's own looking for ups -/
theorem lexGt3 {a b c a' b' c' : Int} : lexGt [a, b, c] [a', b', c'] = true ↔ a' < a ∨ (a = a' ∧ (b' < b ∨ (b = b' ∧ c' < c))) := by
  unfold lexGt
  by_cases h1 : a = a'
  · rw [if_pos h1]
    unfold lexGt
    by_cases h2 : b = b'
    · rw [if_pos h2]
      unfold lexGt
      by_cases h3 : c = c'
      · rw [if_pos h3]
        unfold lexGt
        constructor
        · intro z; cases z
        · intro z; omega
      · rw [if_neg h3, decide_eq_true_iff]
        omega
    · rw [if_neg h2, decide_eq_true_iff]
      omega
  · rw [if_neg h1, decide_eq_true_iff]
    omega
/-- chosen so far, of the beginnings up to k -/
def Cho (ps : List (Int × Int)) (s k : Nat) : Option Nat → Prop
  | none => ∀ j, s < j → j ≤ k → Tl ps j ≤ Tl ps s
  | some e => s < e ∧ e ≤ k ∧ Tl ps s < Tl ps e ∧ ∀ j, s < j → j ≤ k → Tl ps s < Tl ps j → Ok3 ps s j e
theorem Cho.fin {ps : List (Int × Int)} {s : Nat} : ∀ {o : Option Nat}, Cho ps s ps.length o → IsUp ps s (o.getD s)
  | none, h => .inl ⟨rfl, fun k h1 h2 => h k h1 h2⟩
  | some e, h => .inr ⟨h.1, h.2.1, h.2.2.1, fun k h1 h2 h3 => h.2.2.2 k h1 h2 h3⟩
theorem Cho.skip {ps : List (Int × Int)} {s k : Nat} (hl : Tl ps (k + 1) ≤ Tl ps s) : ∀ {o : Option Nat}, Cho ps s k o → Cho ps s (k + 1) o
  | none, h => fun j h1 h2 => by
    by_cases e : j = k + 1
    · rw [e]; exact hl
    · exact h j h1 (by omega)
  | some e, h => ⟨h.1, by have := h.2.1; omega, h.2.2.1, fun j h1 h2 h3 => by
    by_cases ej : j = k + 1
    · rw [ej] at h3; omega
    · exact h.2.2.2 j h1 (by omega) h3⟩
theorem Cho.first {ps : List (Int × Int)} {s k : Nat} (hs : s ≤ k) (hl : Tl ps s < Tl ps (k + 1)) (h : Cho ps s k none) : Cho ps s (k + 1) (some (k + 1)) :=
  ⟨by omega, Nat.le_refl _, hl, fun j h1 h2 h3 => by
    by_cases ej : j = k + 1
    · rw [ej]; exact .inr ⟨rfl, .inr ⟨rfl, Nat.le_refl _⟩⟩
    · have := h j h1 (by omega)
      omega⟩
theorem Cho.better {ps : List (Int × Int)} {s k e : Nat} (hs : s ≤ k) (hl : Tl ps s < Tl ps (k + 1)) (h : Cho ps s k (some e)) (g : Mk ps s e < Mk ps s (k + 1) ∨ (Mk ps s (k + 1) = Mk ps s e ∧ (Tl ps e < Tl ps (k + 1) ∨ (Tl ps (k + 1) = Tl ps e ∧ e < k + 1)))) : Cho ps s (k + 1) (some (k + 1)) :=
  ⟨by omega, Nat.le_refl _, hl, fun j h1 h2 h3 => by
    by_cases ej : j = k + 1
    · rw [ej]; exact .inr ⟨rfl, .inr ⟨rfl, Nat.le_refl _⟩⟩
    · have := h.2.2.2 j h1 (by omega) h3
      unfold Ok3 at *
      omega⟩
theorem Cho.stay {ps : List (Int × Int)} {s k e : Nat} (h : Cho ps s k (some e)) (g : ¬ (Mk ps s e < Mk ps s (k + 1) ∨ (Mk ps s (k + 1) = Mk ps s e ∧ (Tl ps e < Tl ps (k + 1) ∨ (Tl ps (k + 1) = Tl ps e ∧ e < k + 1))))) : Cho ps s (k + 1) (some e) :=
  ⟨h.1, by have := h.2.1; omega, h.2.2.1, fun j h1 h2 h3 => by
    by_cases ej : j = k + 1
    · rw [ej]
      unfold Ok3
      omega
    · exact h.2.2.2 j h1 (by omega) h3⟩
/-- the deepest dip so far, from the beginning's height -/
def dpt (ps : List (Int × Int)) (s i : Nat) : Int := if i = 0 then 0 else Mk ps s (s + i) - Tl ps s
theorem dpt_succ {ps : List (Int × Int)} {s i : Nat} (hn : 0 ≤ (ps.getD (s + i) (0, 0)).1) : (if Tl ps (s + i) - Tl ps s - (ps.getD (s + i) (0, 0)).1 < dpt ps s i then Tl ps (s + i) - Tl ps s - (ps.getD (s + i) (0, 0)).1 else dpt ps s i) = dpt ps s (i + 1) := by
  have ed : Tl ps (s + i) - (ps.getD (s + i) (0, 0)).1 = dpA ps (s + i) := rfl
  unfold dpt
  rw [if_neg (show ¬ i + 1 = 0 by omega)]
  by_cases h0 : i = 0
  · subst h0
    rw [if_pos rfl]
    have e1 : Mk ps s (s + (0 + 1)) = dpA ps s := by
      unfold Mk
      rw [show s + (0 + 1) - s - 1 = 0 by omega]
      rfl
    rw [e1]
    rw [show s + 0 = s by omega] at ed hn ⊢
    split <;> omega
  · rw [if_neg h0]
    obtain ⟨j, rfl⟩ : ∃ j, i = j + 1 := ⟨i - 1, by omega⟩
    have e1 : Mk ps s (s + (j + 1 + 1)) = if dpA ps (s + (j + 1)) < Mk ps s (s + (j + 1)) then dpA ps (s + (j + 1)) else Mk ps s (s + (j + 1)) := by
      unfold Mk
      rw [show s + (j + 1 + 1) - s - 1 = j + 1 by omega, show s + (j + 1) - s - 1 = j by omega]
      rfl
    rw [e1, ← ed]
    repeat' split
    all_goals omega
theorem trn_take_succ {ps : List (Int × Int)} {i : Nat} {r : Int × Int} (h : ps[i]? = some r) : trn (ps.take (i + 1)) = swp r :: trn (ps.take i) := by
  unfold trn
  rw [List.take_add_one, h, List.reverse_append]
  rfl
theorem trn_nn {ps : List (Int × Int)} (h : ∀ x ∈ ps, Nn x) : ∀ x ∈ trn ps, Nn x := fun x hx => by
  unfold trn at hx
  obtain ⟨y, hy, rfl⟩ := List.mem_map.mp hx
  have := h y (List.mem_reverse.mp hy)
  exact ⟨this.2, this.1⟩
theorem trn_bd {ps : List (Int × Int)} (h : ∀ x ∈ ps, Bd x) : ∀ x ∈ trn ps, Bd x := fun x hx => by
  unfold trn at hx
  obtain ⟨y, hy, rfl⟩ := List.mem_map.mp hx
  have := h y (List.mem_reverse.mp hy)
  exact ⟨this.2.2.1, this.2.2.2, this.1, this.2.1⟩
theorem IsUps.mem {ps : List (Int × Int)} : ∀ {l : List (Nat × Nat)} {s : Nat}, IsUps ps s l → s ≤ ps.length → ∀ x ∈ l, x.1 ≤ ps.length ∧ x.2 ≤ ps.length
  | [], _, _, _, x, hx => by cases hx
  | _ :: _, _, .cons g1 g2 g3, h, x, hx => by
    have he := g1.bd h
    rcases List.mem_cons.mp hx with z | z
    · rw [z]; exact ⟨h, he⟩
    · exact IsUps.mem g3 he x z
theorem small_sm {x : Int} (h : x.natAbs ≤ 100000) : x.natAbs < 2 ^ 1900 := Nat.lt_of_le_of_lt h (Nat.lt_of_lt_of_le (show 100000 < 2 ^ 20 by decide) (Nat.pow_le_pow_right (by decide) (by decide)))
/-- a cut as data is shown -/
theorem cut_shown {n : Nat} {L LD : List (Nat × Nat)} {m e : Nat} (hn : n ≤ 1000) (hm : m ≤ n) (he : e ≤ n) (h1 : ∀ x ∈ L, x.1 ≤ n ∧ x.2 ≤ n) (h2 : ∀ x ∈ LD, x.1 ≤ n ∧ x.2 ≤ n) (l1 : L.length ≤ n) (l2 : LD.length ≤ n) :
    Dep 40 (.t [dR (L.map cst), dP ((e : Int), (m : Int)), dR (dwn n LD)]) ∧ Sm (.t [dR (L.map cst), dP ((e : Int), (m : Int)), dR (dwn n LD)]) ∧ wt (.t [dR (L.map cst), dP ((e : Int), (m : Int)), dR (dwn n LD)]) ≤ sizeLine := by
  have ld : (dwn n LD).length = LD.length := by unfold dwn; rw [List.length_map, List.length_reverse]
  have s1 : Sm (dR (L.map cst)) := sm_row fun x hx => by
    obtain ⟨y, hy, rfl⟩ := List.mem_map.mp hx
    have := h1 y hy
    exact sm_pair (small_sm (by show ((y.1 : Nat) : Int).natAbs ≤ _; omega)) (small_sm (by show ((y.2 : Nat) : Int).natAbs ≤ _; omega))
  have s2 : Sm (dP ((e : Int), (m : Int))) := sm_pair (small_sm (by show ((e : Nat) : Int).natAbs ≤ _; omega)) (small_sm (by show ((m : Nat) : Int).natAbs ≤ _; omega))
  have s3 : Sm (dR (dwn n LD)) := sm_row fun x hx => by
    unfold dwn at hx
    obtain ⟨y, hy, rfl⟩ := List.mem_map.mp hx
    have := h2 y (List.mem_reverse.mp hy)
    exact sm_pair (small_sm (by dsimp only; omega)) (small_sm (by dsimp only; omega))
  refine ⟨⟨(show 3 ≤ 1000000 by decide), fun d hd => ?_⟩, ?_, ?_⟩
  · rcases List.mem_cons.mp hd with z | z
    · rw [z]; exact Dep.le (by decide) (Dep.row (by rw [List.length_map]; omega))
    rcases List.mem_cons.mp z with z | z
    · rw [z]; exact Dep.le (by decide) (Dep.pair _)
    · rw [List.mem_singleton.mp z]; exact Dep.le (by decide) (Dep.row (by rw [ld]; omega))
  · unfold Sm
    unfold SmL
    refine ⟨s1, ?_⟩
    unfold SmL
    refine ⟨s2, ?_⟩
    unfold SmL
    exact ⟨s3, by unfold SmL; trivial⟩
  · have w1 : wt (dR (L.map cst)) = 3859 * L.length + 3 := by
      unfold wt
      rw [wt_rowL, List.length_map]
    have w3 : wt (dR (dwn n LD)) = 3859 * LD.length + 3 := by
      unfold wt
      rw [wt_rowL, ld]
    have e0 : wt (.t [dR (L.map cst), dP ((e : Int), (m : Int)), dR (dwn n LD)]) = wt (dR (L.map cst)) + 2 + (wt (dP ((e : Int), (m : Int))) + 2 + (wt (dR (dwn n LD)) + 2 + 0)) + 3 := by
      simp only [wt, wtL]
    rw [e0, w1, w3, wt_pair, sizeLine_eq]
    omega
/-! ### one behind another, without a gap -/
def Ch : Int → List (Int × Int) → Int → Prop
  | a, [], b => a = b
  | a, x :: l, b => x.1 = a ∧ x.1 < x.2 ∧ Ch x.2 l b
theorem Ch.append : ∀ {l : List (Int × Int)} {a b : Int} {x : Int × Int}, Ch a l b → x.1 = b → x.1 < x.2 → Ch a (l ++ [x]) x.2
  | [], a, b, x, h, h1, h2 => by
    have e : a = b := h
    exact ⟨by omega, h2, rfl⟩
  | y :: l, a, b, x, h, h1, h2 => ⟨h.1, h.2.1, Ch.append h.2.2 h1 h2⟩
theorem IsUps.chain {ps : List (Int × Int)} (n : Nat) : ∀ {l : List (Nat × Nat)} {s : Nat}, IsUps ps s l → Ch ((n : Int) - (lastE s l : Nat)) (dwn n l) ((n : Int) - (s : Nat))
  | [], s, _ => rfl
  | _ :: l, s, .cons (e := e) g1 g2 g3 => by
    have ih := IsUps.chain n g3
    have ed : dwn n ((s, e) :: l) = dwn n l ++ [((n : Int) - (e : Int), (n : Int) - (s : Int))] := by
      unfold dwn
      rw [List.reverse_cons, List.map_append]
      rfl
    rw [ed]
    exact Ch.append (x := ((n : Int) - (e : Int), (n : Int) - (s : Int))) ih rfl (by dsimp only; omega)
theorem IsUps.last {ps : List (Int × Int)} : ∀ {l : List (Nat × Nat)} {s : Nat}, IsUps ps s l → IsUp ps (lastE s l) (lastE s l)
  | [], _, .nil h => h
  | _ :: _, _, .cons _ _ g3 => by
    have z := IsUps.last g3
    exact z
theorem IsUp.flat {ps : List (Int × Int)} {s : Nat} (h : IsUp ps s s) : ∀ k, s < k → k ≤ ps.length → Tl ps k ≤ Tl ps s := by
  rcases h with ⟨_, h⟩ | ⟨h, _⟩
  · exact h
  · omega
theorem Tl_trn {ps : List (Int × Int)} {m k : Nat} (hm : m ≤ ps.length) (hk : k ≤ ps.length - m) : Tl (trn (ps.drop m)) k = Tl ps (ps.length - k) - Tl ps ps.length := by
  unfold Tl
  have hl : (ps.drop m).length = ps.length - m := List.length_drop ..
  rw [trn_take _ k (by rw [hl]; exact hk), gn_trn, List.drop_drop, hl, gn_drop, List.take_length]
  rw [show m + (ps.length - m - k) = ps.length - k by omega]
  omega
/-- the downs cover all of what is left -/
theorem cut_covers {ps : List (Int × Int)} {L LD : List (Nat × Nat)} {m : Nat} (up : IsUps ps 0 L) (md : IsMid ps (lastE 0 L) m) (dn : IsUps (trn (ps.drop m)) 0 LD) : Ch (m : Int) (dwn ps.length LD) (ps.length : Int) := by
  have fl := up.last.flat
  obtain ⟨m1, m2, m3, m4⟩ := md
  have below : ∀ k, m < k → k ≤ ps.length → Tl ps k < Tl ps m := fun k h1 h2 => by
    have := fl k (by omega) h2
    have := m4 k h1 h2
    omega
  have hl : (trn (ps.drop m)).length = ps.length - m := by rw [trn_len, List.length_drop]
  have hle := (dn.le (Nat.zero_le _)).2
  rw [hl] at hle
  have all : lastE 0 LD = ps.length - m := by
    rcases Nat.lt_or_ge (lastE 0 LD) (ps.length - m) with z | z
    · have h1 := dn.last.flat (ps.length - m) z (by rw [hl]; exact Nat.le_refl _)
      rw [Tl_trn m2 (Nat.le_refl _), Tl_trn m2 (by omega), show ps.length - (ps.length - m) = m by omega] at h1
      have h2 := below (ps.length - lastE 0 LD) (by omega) (by omega)
      omega
    · omega
  have c := dn.chain ps.length
  rw [all] at c
  rw [show (ps.length : Int) - ((ps.length - m : Nat) : Int) = (m : Int) by omega, show (ps.length : Int) - ((0 : Nat) : Int) = (ps.length : Int) by omega] at c
  exact c
/-! ### stretches as pairs -/
def seg (ps : List (Int × Int)) (s e : Nat) : List (Int × Int) := (ps.drop s).take (e - s)
theorem wl_gain : ∀ {ps : List (Int × Int)}, (wl ps).2 - (wl ps).1 = gn ps
  | [] => rfl
  | x :: r => by
    have ih := wl_gain (ps := r)
    rw [gn_cons, show wl (x :: r) = jn x (wl r) from rfl]
    unfold jn
    dsimp only
    repeat' split
    all_goals omega
theorem seg_len {ps : List (Int × Int)} {s e : Nat} (he : e ≤ ps.length) : (seg ps s e).length = e - s := by
  unfold seg
  rw [List.length_take, List.length_drop]
  omega
theorem seg_get {ps : List (Int × Int)} {s e k : Nat} (hk : k < e - s) : (seg ps s e)[k]? = ps[s + k]? := by
  unfold seg
  rw [List.getElem?_take_of_lt hk, List.getElem?_drop]
theorem seg_take {ps : List (Int × Int)} {s e k : Nat} (hk : k ≤ e - s) : gn ((seg ps s e).take k) = Tl ps (s + k) - Tl ps s := by
  unfold seg Tl
  rw [List.take_take, Nat.min_eq_left hk]
  have h := gn_append (ps.take s) ((ps.drop s).take k)
  rw [← List.take_add] at h
  omega
theorem seg_nn {ps : List (Int × Int)} (h : ∀ x ∈ ps, Nn x) (s e : Nat) : ∀ x ∈ seg ps s e, Nn x := fun x hx => h x (List.mem_of_mem_drop (List.mem_of_mem_take hx))
theorem seg_dp {ps : List (Int × Int)} {s e k : Nat} (he : e ≤ ps.length) (hk : k < e - s) : dpA (seg ps s e) k = dpA ps (s + k) - Tl ps s := by
  unfold dpA
  rw [seg_take (Nat.le_of_lt hk), List.getD_eq_getElem?_getD, List.getD_eq_getElem?_getD, seg_get hk]
  unfold Tl
  omega
theorem wl_seg {ps : List (Int × Int)} {s e : Nat} (h : ∀ x ∈ ps, Nn x) (hs : s < e) (he : e ≤ ps.length) : wl (seg ps s e) = (Tl ps s - Mk ps s e, Tl ps e - Mk ps s e) := by
  obtain ⟨h1, h2⟩ := wl_dips (seg ps s e) (seg_nn h s e)
  have hl := seg_len (ps := ps) (s := s) he
  have hg := wl_gain (ps := seg ps s e)
  have hgn : gn (seg ps s e) = Tl ps e - Tl ps s := by
    have := seg_take (ps := ps) (s := s) (e := e) (k := e - s) (Nat.le_refl _)
    rw [List.take_of_length_le (by rw [hl]; exact Nat.le_refl _), show s + (e - s) = e by omega] at this
    exact this
  have up : (wl (seg ps s e)).1 ≤ Tl ps s - Mk ps s e := by
    rcases h2 with z | ⟨k, hk, ek⟩
    · have n0 : 0 ≤ (ps.getD s (0, 0)).1 := (h _ (List.mem_of_getElem? (getD_get (show s < ps.length by omega)))).1
      have m0 := Mk_le (ps := ps) (s := s) (k := e) (Nat.le_refl s) hs
      have ed : dpA ps s = Tl ps s - (ps.getD s (0, 0)).1 := rfl
      omega
    · rw [hl] at hk
      rw [ek, seg_dp he hk]
      have := Mk_le (ps := ps) (s := s) (k := e) (j := s + k) (by omega) (by omega)
      omega
  have dn : Tl ps s - Mk ps s e ≤ (wl (seg ps s e)).1 := by
    obtain ⟨j, j1, j2, ej⟩ := Mk_mem (ps := ps) hs
    have := h1 (j - s) (by rw [hl]; omega)
    rw [seg_dp he (by omega), show s + (j - s) = j by omega] at this
    omega
  exact Prod.ext (by dsimp only; omega) (by dsimp only; omega)
/-- rising numbers -/
def Ris : List Int → Prop
  | [] => True
  | [_] => True
  | x :: y :: l => x < y ∧ Ris (y :: l)
def flat2 (ps : List (Int × Int)) : List (Nat × Nat) → List Int
  | [] => []
  | x :: l => (Tl ps x.1 - Mk ps x.1 x.2) :: (Tl ps x.2 - Mk ps x.1 x.2) :: flat2 ps l
theorem IsUp.deeper {ps : List (Int × Int)} {s e e2 : Nat} (h : IsUp ps s e) (hs : s < e) (h2 : IsUp ps e e2) (hs2 : e < e2) : Mk ps e e2 < Mk ps s e := by
  rcases h with ⟨a, _⟩ | ⟨_, _, a3, a4⟩
  · omega
  rcases h2 with ⟨b, _⟩ | ⟨_, b2, b3, _⟩
  · omega
  have o := a4 e2 (by omega) b2 (by omega)
  unfold Ok3 at o
  have lt : Mk ps s e2 < Mk ps s e := by omega
  obtain ⟨j, j1, j2, ej⟩ := Mk_mem (ps := ps) (s := s) (k := e2) (by omega)
  have hje : e ≤ j := by
    rcases Nat.lt_or_ge j e with z | z
    · have := Mk_le (ps := ps) (s := s) (k := e) j1 z
      omega
    · exact z
  have := Mk_le (ps := ps) (s := e) (k := e2) hje j2
  omega
theorem IsUps.rises {ps : List (Int × Int)} : ∀ {l : List (Nat × Nat)} {s : Nat}, IsUps ps s l → Ris (flat2 ps l)
  | [], _, _ => trivial
  | [_], _, .cons (s := s) (e := e) g1 g2 _ => by
    rcases g1 with ⟨a, _⟩ | ⟨_, _, a3, _⟩
    · omega
    exact ⟨by dsimp only; omega, trivial⟩
  | _ :: _ :: l, _, .cons (s := s) (e := e) g1 g2 (.cons (e := e2) k1 k2 k3) => by
    have ih := IsUps.rises (IsUps.cons k1 k2 k3)
    have dp := g1.deeper g2 k1 k2
    rcases g1 with ⟨a, _⟩ | ⟨_, _, a3, _⟩
    · omega
    exact ⟨by dsimp only; omega, by dsimp only; omega, ih⟩
/-- no height is above where the ups end -/
theorem IsUps.highest {ps : List (Int × Int)} : ∀ {l : List (Nat × Nat)} {s : Nat}, IsUps ps s l → ∀ k, s ≤ k → k ≤ ps.length → Tl ps k ≤ Tl ps (lastE s l)
  | [], s, .nil h, k, h1, h2 => by
    by_cases e : k = s
    · rw [e]; exact Int.le_refl _
    · exact h.flat k (by omega) h2
  | _ :: l, _, .cons (s := s) (e := e) g1 g2 g3, k, h1, h2 => by
    have ih := IsUps.highest g3
    have en := g1.bd (by omega)
    show Tl ps k ≤ Tl ps (lastE e l)
    rcases Nat.lt_or_ge k e with z | z
    · have he := ih e (Nat.le_refl _) en
      rcases g1 with ⟨a, _⟩ | ⟨_, _, a3, a4⟩
      · omega
      by_cases hk : Tl ps s < Tl ps k
      · have hsk : s < k := by
          rcases Nat.lt_or_ge s k with y | y
          · exact y
          · rw [show k = s by omega] at hk; omega
        have o := a4 k hsk h2 hk
        have mm := Mk_mono (ps := ps) (s := s) (Nat.le_of_lt z)
        unfold Ok3 at o
        omega
      · omega
    · exact ih k z h2
theorem jn_swp (a b : Int × Int) : jn (swp b) (swp a) = swp (jn a b) := by
  unfold jn swp
  rfl
theorem wl_trn : ∀ {ps : List (Int × Int)}, (∀ x ∈ ps, Nn x) → wl (trn ps) = swp (wl ps)
  | [], _ => rfl
  | x :: r, h => by
    have hx := h x (List.mem_cons_self ..)
    have e : trn (x :: r) = trn r ++ [swp x] := by
      unfold trn
      rw [List.reverse_cons, List.map_append]
      rfl
    have n1 : ∀ y ∈ [swp x], Nn y := fun y hy => by
      rw [List.mem_singleton.mp hy]
      exact ⟨hx.2, hx.1⟩
    rw [e, wl_append _ _ n1, wl_trn fun y hy => h y (List.mem_cons_of_mem _ hy), show wl [swp x] = jn (swp x) (0, 0) from rfl, jn_zero' (by unfold swp; exact hx.1), jn_swp]
    rfl
/-- a down is an up of what is left, turned about -/
theorem seg_trn {ps : List (Int × Int)} {m f l : Nat} (hm : m ≤ ps.length) (hfl : f ≤ l) (hl : l ≤ ps.length - m) : seg ps (ps.length - l) (ps.length - f) = trn (seg (trn (ps.drop m)) f l) := by
  have hlen : (trn (ps.drop m)).length = ps.length - m := by rw [trn_len, List.length_drop]
  apply List.ext_getElem?
  intro k
  by_cases hk : k < l - f
  · have h1 : (seg (trn (ps.drop m)) f l).length = l - f := seg_len (by rw [hlen]; exact hl)
    rw [seg_get (by omega), trn_get (by rw [h1]; exact hk), List.getD_eq_getElem?_getD, h1, seg_get (by omega), trn_get (by rw [List.length_drop]; omega), List.length_drop]
    rw [List.getD_eq_getElem?_getD, List.getElem?_drop, show m + (ps.length - m - 1 - (f + (l - f - 1 - k))) = ps.length - l + k by omega, List.getElem?_eq_getElem (show ps.length - l + k < ps.length by omega)]
    rfl
  · rw [List.getElem?_eq_none (by rw [seg_len (by omega)]; omega), List.getElem?_eq_none (by rw [trn_len, seg_len (by rw [hlen]; exact hl)]; omega)]
/-! ### list.extend of a tuple -/
theorem ext_tup (l b : Addr) (its its2 : Array Value) (n n2 : Nat) (dd : Option Addr) (sl : Array (Option Value)) (h0 : ¬(!its.isEmpty && Builtin.List.listTooLong (its.size + its2.size)) = true) (h1 : its.size ≤ sizeLine) (h2 : its.size + its2.size ≤ sizeLine + 1) :
    Meets (Builtin.«list.extend» ⟨[.ref l, .ref b], []⟩) (fun _ R s => s.heap.get? l = some { cls := .type "list", dict := none, data := .seq its n, slots := #[] } ∧ s.heap.get? b = some { cls := .type "tuple", dict := dd, data := .seq its2 n2, slots := sl } ∧
      R (.ok (.ret Value.none)) { s with heap := s.heap.update l (Obj.mapSeq fun x => x ++ its2), toks := s.toks }) :=
  .of_wp fun prog w A R s h => by
    obtain ⟨hp, g, d, tk, os⟩ := s
    obtain ⟨hl, hb, h⟩ := h
    have f1 := AutoSeq1.idx_int
    have f2 := AutoSeq1.sub_tuple_tuple
    have f3 := AutoSeq1.sub_list_list
    have f4 := AutoSeq1.sub_tuple_list
    have f5 := AutoSeq1.sub_list_tuple
    have fits : (its ++ its2).size ≤ sizeLine + 1 := by
      rw [Array.size_append]
      exact h2
    wp_walk using (wpAny_updateSeq hl rfl (hz := h1) (_hz' := fits)), wpAny_loadPart' hl, wpAny_loadPart' hb
    exact ⟨_, rfl, h⟩
def rExtT : V → List V → Hp → VK → Prop := fun x vs H Q => ∃ l b xs zs, x = .ref l ∧ vs = [.ref b] ∧ H l = some (.lst xs) ∧ H b = some (.tup zs) ∧ xs.length + zs.length ≤ sizeLine ∧ Q .non (upd H l (.lst (xs ++ zs)))
theorem mt_extendT {X : Cx} : MtM X "list.extend" rExtT := by
  intro pins s σ H x vs v us Q I rx rv h
  obtain ⟨l, b, xs, zs, rfl, rfl, hH, hB, hz, q⟩ := h
  cases rx
  obtain ⟨u, rfl, ru⟩ := rv.one
  cases ru
  obtain ⟨z, its, n, r, hl, e⟩ := I.lstM hH
  obtain ⟨its2, r2, ⟨⟨cls, dd, data, sl⟩, ho, hc, n2, hd⟩, hs⟩ := I.tuple (.inl (.inl hB))
  simp only at hc hd
  subst hc hd
  have l2 : its2.length = zs.length := r2.length.symm
  have fits : its.toArray.size + its2.toArray.size ≤ sizeLine := by rw [List.size_toArray, List.size_toArray]; omega
  have short : ¬ (!its.toArray.isEmpty && Builtin.List.listTooLong (its.toArray.size + its2.toArray.size)) = true := by
    rw [notLongL fits, Bool.and_false]
    exact fun y => nomatch y
  refine call_meets F.slot_list_extend ⟨_, e, rfl⟩ F.entry_list_extend (F.args_list_extend_2 _ _) (ext_tup l b its.toArray its2.toArray n n2 dd sl short (by rw [List.size_toArray]; omega) (by omega)) ⟨e, ho, ?_⟩
  refine ⟨.non, _, I.lset (its' := its ++ its2) hH e (by simp) (r.append r2) ?_, rfl, q⟩
  rw [List.length_append]
  omega
/-! ### what is asked of a cut -/
theorem Ch.le : ∀ {l : List (Int × Int)} {a b : Int}, Ch a l b → a ≤ b ∧ ∀ x ∈ l, x.2 ≤ b
  | [], a, b, h => ⟨by have e : a = b := h; omega, fun x hx => by cases hx⟩
  | y :: l, a, b, h => by
    obtain ⟨h1, h2, h3⟩ := h
    have ih := Ch.le h3
    refine ⟨by omega, fun x hx => ?_⟩
    rcases List.mem_cons.mp hx with z | z
    · rw [z]; exact ih.1
    · exact ih.2 x z
theorem IsUps.chU {ps : List (Int × Int)} : ∀ {l : List (Nat × Nat)} {s : Nat}, IsUps ps s l → Ch (s : Int) (l.map cst) ((lastE s l : Nat) : Int)
  | [], s, _ => rfl
  | _ :: l, s, .cons (e := e) g1 g2 g3 => by
    have ih := IsUps.chU g3
    exact ⟨rfl, by show (s : Int) < (e : Int); omega, ih⟩
theorem IsUps.lt {ps : List (Int × Int)} : ∀ {l : List (Nat × Nat)} {s : Nat}, IsUps ps s l → ∀ x ∈ l, x.1 < x.2
  | [], _, _, x, hx => by cases hx
  | _ :: _, _, .cons g1 g2 g3, x, hx => by
    rcases List.mem_cons.mp hx with z | z
    · rw [z]; exact g2
    · exact IsUps.lt g3 x z
theorem Ris.get : ∀ {l : List Int}, Ris l → ∀ (k : Nat) (x y : Int), l[k]? = some x → l[k + 1]? = some y → x < y
  | [], _, k, x, y, h, _ => by simp at h
  | [_], _, 0, x, y, _, h => by simp at h
  | [_], _, k + 1, x, y, h, _ => by simp at h
  | a :: b :: l, h, 0, x, y, h1, h2 => by
    have e1 : a = x := Option.some.inj h1
    have e2 : b = y := Option.some.inj h2
    have := h.1
    omega
  | a :: b :: l, h, k + 1, x, y, h1, h2 => Ris.get (l := b :: l) h.2 k x y h1 h2
/-- the numbers of the stretches as pairs -/
def flatW (ps : List (Int × Int)) : List (Nat × Nat) → List Int
  | [] => []
  | x :: l => (wl (seg ps x.1 x.2)).1 :: (wl (seg ps x.1 x.2)).2 :: flatW ps l
theorem flatW_append (ps : List (Int × Int)) : ∀ a b : List (Nat × Nat), flatW ps (a ++ b) = flatW ps a ++ flatW ps b
  | [], b => rfl
  | x :: a, b => by
    show _ :: _ :: flatW ps (a ++ b) = _
    rw [flatW_append ps a b]
    rfl
theorem flatW_len (ps : List (Int × Int)) : ∀ a : List (Nat × Nat), (flatW ps a).length = 2 * a.length
  | [] => rfl
  | x :: a => by
    show (flatW ps a).length + 1 + 1 = 2 * (a.length + 1)
    rw [flatW_len ps a]
    omega
theorem flatW_ups {ps : List (Int × Int)} (h : ∀ x ∈ ps, Nn x) : ∀ {l : List (Nat × Nat)}, (∀ x ∈ l, x.1 < x.2 ∧ x.2 ≤ ps.length) → flatW ps l = flat2 ps l
  | [], _ => rfl
  | x :: l, hl => by
    have h0 := hl x (List.mem_cons_self ..)
    show (wl (seg ps x.1 x.2)).1 :: (wl (seg ps x.1 x.2)).2 :: flatW ps l = _
    rw [wl_seg h h0.1 h0.2, flatW_ups h fun y hy => hl y (List.mem_cons_of_mem _ hy)]
    rfl
def dwnN (n : Nat) (l : List (Nat × Nat)) : List (Nat × Nat) := l.reverse.map fun x => (n - x.2, n - x.1)
theorem dwn_cst {n : Nat} {l : List (Nat × Nat)} (h : ∀ x ∈ l, x.1 ≤ n ∧ x.2 ≤ n) : dwn n l = (dwnN n l).map cst := by
  unfold dwn dwnN
  rw [List.map_map]
  apply List.map_congr_left
  intro x hx
  have := h x (List.mem_reverse.mp hx)
  show _ = cst (n - x.2, n - x.1)
  unfold cst
  exact Prod.ext (by dsimp only; omega) (by dsimp only; omega)
theorem flatW_downs {ps : List (Int × Int)} {m : Nat} (h : ∀ x ∈ ps, Nn x) (hm : m ≤ ps.length) : ∀ {l : List (Nat × Nat)}, (∀ x ∈ l, x.1 < x.2 ∧ x.2 ≤ ps.length - m) → (flatW ps (dwnN ps.length l)).reverse = flatW (trn (ps.drop m)) l
  | [], _ => rfl
  | x :: l, hl => by
    have h0 := hl x (List.mem_cons_self ..)
    have ed : dwnN ps.length (x :: l) = dwnN ps.length l ++ [(ps.length - x.2, ps.length - x.1)] := by
      unfold dwnN
      rw [List.reverse_cons, List.map_append]
      rfl
    rw [ed, flatW_append, List.reverse_append, flatW_downs h hm fun y hy => hl y (List.mem_cons_of_mem _ hy)]
    show (wl (seg ps (ps.length - x.2) (ps.length - x.1))).2 :: (wl (seg ps (ps.length - x.2) (ps.length - x.1))).1 :: flatW (trn (ps.drop m)) l = _
    rw [seg_trn hm (Nat.le_of_lt h0.1) h0.2, wl_trn (seg_nn (trn_nn (nn_drop h m)) _ _)]
    rfl
/-- data made of whole numbers and tuples is the same as itself -/
theorem hts_max {ps : List (Int × Int)} {L : List (Nat × Nat)} (up : IsUps ps 0 L) {M : Int} (h1 : M ∈ hts ps) (h2 : ∀ y ∈ hts ps, y ≤ M) : M = Tl ps (lastE 0 L) := by
  have hle := (up.le (Nat.zero_le _)).2
  have g1 : Tl ps (lastE 0 L) ≤ M := h2 _ (List.mem_of_getElem? (hts_get hle))
  obtain ⟨k, hk⟩ := List.getElem?_of_mem h1
  have hkl : k ≤ ps.length := by
    have := (List.getElem?_eq_some_iff.mp hk).1
    rw [hts_len] at this
    omega
  rw [hts_get hkl] at hk
  have e := Option.some.inj hk
  have g2 := up.highest k (Nat.zero_le _) hkl
  unfold Tl at *
  omega
/-! ### for i, x in enumerate(t), t a tuple -/
theorem enum_new1 {v : Value} {o : Obj} {G : Heap → Prop} (Bg : Begins v o G) :
    Meets (Builtin.«enumerate.__new__» ⟨[.type "enumerate", v], []⟩) (fun _ R s => G s.heap ∧
      R (.ok (.ret (.ref (s.heap.push o).objs.size))) { s with heap := (s.heap.push o).push { cls := .type "enumerate", data := .fields #[.none, .bool false, .ref s.heap.objs.size, rawInt 0, .none, .none] } }) :=
  .of_wp fun prog w A R s h => by
    obtain ⟨hp, g, d, tk, os⟩ := s
    obtain ⟨h1, h⟩ := h
    have fs := sub_enumerate
    have it : ∀ {A' : Around} {E : Value → Shared → Prop} {Q : Value → Shared → Prop}, Q (.ref hp.objs.size) ⟨hp.push o, g, d, tk, os⟩ → wpAny (model prog w) A' (pyIter v) Q E ⟨hp, g, d, tk, os⟩ :=
      fun q => Bg.iter prog w _ _ ⟨hp, g, d, tk, os⟩ _ h1 q
    wp_walk using it
    refine wpAny_stack_any (fun st => wpAny_pure ?_)
    split
    · rename_i c _ _ _ _ _
      cases (c == Value.type "enumerate") <;> (wp_walk using it; exact ⟨_, rfl, h⟩)
    · wp_walk using it
      exact ⟨_, rfl, h⟩
section
variable {prog : Program} {w : World} {A : Around} {E : Value → Shared → Prop} {s : Shared}
theorem call_enumT {t : Addr} {its : Array Value} {Q : Value → Shared → Prop} (ht : s.heap.IsTuple t its)
    (h : ∀ h', IsEnum h' (s.heap.objs.size + 1) s.heap.objs.size 0 .none → h'.IsTupleIter s.heap.objs.size t 0 → h'.objs.size = s.heap.objs.size + 2 →
      (∀ b o, s.heap.get? b = some o → h'.get? b = some o) → Q (.ref (s.heap.objs.size + 1)) { s with heap := h' }) :
    wpAny (model prog w) A (call (.type "enumerate") [.ref t]) Q E s := by
  refine callType_new F.called_enumerate (by decide) (F.typeCall_enumerate_1 _) (F.newCall_enumerate_1 _) (fun obj => F.args_object_init_2 obj _) F.entry_enumerate_new (enum_new1 (begins_tuple t its)) ⟨ht, ?_⟩
  have sz : (s.heap.push { cls := .type "tuple_iterator", data := .fields #[.ref t, .int 0 0] }).objs.size = s.heap.objs.size + 1 := Heap.size_push ..
  show _ ∧ _
  rw [sz]
  have en : IsEnum ((s.heap.push { cls := .type "tuple_iterator", data := .fields #[.ref t, .int 0 0] }).push { cls := .type "enumerate", data := .fields #[.none, .bool false, .ref s.heap.objs.size, rawInt 0, .none, .none] }) (s.heap.objs.size + 1) s.heap.objs.size 0 .none := by
    have z := Heap.get?_push_size (s.heap.push { cls := .type "tuple_iterator", data := .fields #[.ref t, .int 0 0] }) (o := { cls := .type "enumerate", data := .fields #[.none, .bool false, .ref s.heap.objs.size, rawInt 0, .none, .none] }) rfl
    rw [sz] at z
    exact z
  refine ⟨⟨_, en, rfl⟩, h _ en ⟨_, Heap.get?_push_of_some _ (Heap.get?_push_size _ rfl), rfl, rfl⟩ (by rw [Heap.size_push, sz]) (fun b o z => Heap.get?_push_of_some _ (Heap.get?_push_of_some _ z))⟩
end
def IteT (K : PySem.W.Frag) (a : Addr) : It :=
  ⟨fun i H => ∃ (xs : List V) (x : V), SqT K H a xs ∧ xs[i]? = some x, fun i H v H' => ∃ T x, v = .ref T ∧ H T = none ∧ H' = upd H T (.tup [.int (i : Nat), x]) ∧ ∀ xs, SqT K H a xs → xs[i]? = some x, fun i H => ∃ xs : List V, SqT K H a xs ∧ xs.length = i⟩
theorem turn_enumT {P : Program} {w : World} {K : PySem.W.Frag} {elts : List Expr} {kk : Nat} {tpos : Pos} (a e it : Addr) (hae : a ≠ e) (hai : a ≠ it) :
    Turn P w K (.Tuple elts kk tpos) (IteT K a) [e, it] e (fun i h => (∃ old, IsEnum h e it ((i : Nat) : Int) old) ∧ h.IsTupleIter it a i ∧ e ≠ it) where
  mem := by simp
  obj := fun i h st b hb => by
    obtain ⟨⟨old, he⟩, ⟨o, ho, hc, hd⟩, _⟩ := st
    rcases (by simpa using hb : b = e ∨ b = it) with z | z
    · rw [z]
      exact ⟨_, he, fun v q => nomatch q⟩
    · rw [z]
      exact ⟨o, ho, fun v q => by rw [hd] at q; cases q⟩
  keep := fun i h h' st k => by
    obtain ⟨⟨old, he⟩, hi, hne⟩ := st
    exact ⟨⟨old, k e (by simp) _ he⟩, hi.at (fun o q => k it (by simp) o q), hne⟩
  item := by
    intro X hP hw hK hc i pins s σ H E I hf st hg
    subst hP hw hK
    obtain ⟨⟨old, he⟩, hit, hne⟩ := st
    obtain ⟨xs, x, hq, hx⟩ := hg
    obtain ⟨its, rv, p, hz⟩ := I.tuple hq
    obtain ⟨u, hu, ru⟩ := rv.get hx
    have hel : e < s.heap.objs.size := Heap.lt_size he
    have hil : it < s.heap.objs.size := by
      obtain ⟨_, q, _⟩ := hit
      exact Heap.lt_size q
    have hlt : i < its.toArray.size := by
      have := (List.getElem?_eq_some_iff.mp hu).1
      rw [List.size_toArray]
      exact this
    have D := Draws.tuple (prog := X.prog) (w := X.w) (A := X.A.in1) (I.ok.hd hc) it a hai its.toArray
    refine wpAny_pyNext_enum_itemD D he ⟨hit, p⟩ hlt hne (by simp [hne, hae.symm]) (fun y h' tk py ho hst hT hsz hk => ?_)
    have ey : y = u := by
      have z : its[i]? = some y := by simpa using py
      rw [hu] at z
      exact (Option.some.inj z).symm
    subst ey
    refine ⟨_, rfl, wpAny_letOwnedTupleGo_enum (s := { s with heap := h', toks := tk + 1 }) ho (fun h'' he' sb => ?_)⟩
    have hT2 : h''.get? s.heap.objs.size = some { cls := .type "tuple", data := .seq #[.int i tk, y] } := (sb.2 _ (Nat.ne_of_gt hel)).trans hT
    have new : ObjOk X.prog X.w (upd H s.heap.objs.size (.tup [.int (i : Nat), x])) h'' s.heap.objs.size (.tup [.int (i : Nat), x]) :=
      ⟨sz2, [.int i tk, y], .cons ⟨_, rfl⟩ (.cons ru .nil), ⟨_, hT2, rfl, _, rfl⟩⟩
    have I1 : Inv X pins σ (upd H s.heap.objs.size (.tup [.int (i : Nat), x])) { s with heap := h'', toks := tk + 1 } :=
      I.turnedNew (ch := [e, it]) (fun b ob hb q => (sb.2 b (fun z => hb (by simp [z]))).trans (hk b ob (fun z => hb (by simp [z])) (fun z => hb (by simp [z])) q)) hf (Nat.le_refl _) new
    refine ⟨.ref s.heap.objs.size, _, I1, rfl, ⟨_, x, rfl, I.hok.fresh (Nat.le_refl _), rfl, fun ys hy => by rw [I.tuple_inj hy hq]; exact hx⟩, ⟨⟨y, ?_⟩, hst.1.at (fun o q => (sb.2 it (Ne.symm hne)).trans q), hne⟩, fun b hb => ?_⟩
    · rw [show ((i + 1 : Nat) : Int) = (i : Int) + 1 by omega]
      exact he'
    · have hb' : b < s.heap.objs.size := by
        rcases (by simpa using hb : b = e ∨ b = it) with z | z
        · rw [z]; exact hel
        · rw [z]; exact hil
      rw [upd_ne (Nat.ne_of_lt hb')]
      exact (hf b hb).1
  done := by
    intro X hP hw hK hc i pins s σ H E I hf st hg
    subst hP hw hK
    obtain ⟨⟨old, he⟩, hit, hne⟩ := st
    obtain ⟨xs, hq, hx⟩ := hg
    obtain ⟨its, rv, p, hz⟩ := I.tuple hq
    obtain ⟨f0, f1, f2, f3, f4, f5⟩ := hf it (by simp)
    have hl : its.toArray.size = i := by rw [List.size_toArray, ← rv.length]; exact hx
    have D := Draws.tuple (prog := X.prog) (w := X.w) (A := X.A.in1) (I.ok.hd hc) it a hai its.toArray
    exact wpAny_pyNext_enum_endD D he (by rw [hl]; exact ⟨hit, p⟩) (fun h' eb => ⟨rfl, I.turned (t' := s.toks) (fun b o hb q => eb b o hb q) f0 f1 f3 f4 f5⟩)
  self := fun A i s Q E st h => by
    obtain ⟨⟨_, he⟩, _⟩ := st
    exact wpAny_pyIter_enum he h
def iEnumT (K : PySem.W.Frag) (ta : TA) : TI := fun σ H R => ta σ H fun vs H1 => ∃ a xs, vs = [.ref a] ∧ SqT K H1 a xs ∧ R (IteT K a) H1
theorem pi_enumT_ {X : Cx} {K : PySem.W.Frag} {e : Expr} {ta : TA} {p pos tpos : Pos} {elts : List Expr} {kk : Nat} (hK : X.K = K) (hg : Gl X "enumerate") (hm : X.mg "enumerate" = none) (ha : PA X [e] ta) (hs : starEach [e] X.env = [(false, eval e X.env)] := by rfl) :
    PI X (.Tuple elts kk tpos) (.Call (.Name "enumerate" p) [e] [] pos) (iEnumT K ta) := by
  subst hK
  refine ⟨fun pins s σ H R I h => ?_⟩
  refine Call_ (ld_blt I hg hm boot_enumerate (PyProof.Rows.callWith_type1 (thn (ha.run pos pins s σ H _ I h) (fun us s1 got => ?_)) hs rfl))
  obtain ⟨vs, H1, I1, r1, a, xs, ex, hq, q⟩ := got
  subst ex
  cases r1 with
  | cons r rr =>
    cases rr
    cases r
    obtain ⟨its, rv, p', hz⟩ := I1.tuple hq
    obtain ⟨ob, hob, _⟩ := id p'
    have hal : a < s1.heap.objs.size := Heap.lt_size hob
    refine call_enumT (show s1.heap.IsTuple a its.toArray from p') (fun h' he hit hsz hk => wpAny_pyIter_enum he ?_)
    have I2 : Inv X pins σ H1 { s1 with heap := h' } := I1.kept (t' := s1.toks) hk
    refine ⟨s1.heap.objs.size + 1, [s1.heap.objs.size + 1, s1.heap.objs.size], _, _, H1, rfl, I2, turn_enumT a (s1.heap.objs.size + 1) s1.heap.objs.size (Nat.ne_of_lt (Nat.lt_succ_of_lt hal)) (Nat.ne_of_lt hal), ⟨⟨.none, he⟩, hit, Nat.succ_ne_self _⟩, (fun b hb => ?_), q⟩
    have hle : s1.heap.objs.size ≤ b := by
      rcases (by simpa using hb : b = s1.heap.objs.size + 1 ∨ b = s1.heap.objs.size) with z | z
      · rw [z]; exact Nat.le_add_right _ _
      · rw [z]; exact Nat.le_refl _
    exact I1.fpOk hle (I1.hok.fresh hle)
theorem walk_enumT {K : PySem.W.Frag} {a : Addr} {xs : List V} : Walk (IteT K a) xs.length (fun H => SqT K H a xs) (YPair (fun i => some (.int (i : Nat))) (fun i => xs[i]?)) := by
  refine ⟨fun i _ hi q => ⟨xs, xs[i], q, List.getElem?_eq_getElem hi⟩, fun _ q => ⟨xs, q, rfl⟩, fun i H v H' _ q y => ?_⟩
  obtain ⟨T, x, y1, y2, y3, y4⟩ := y
  exact ⟨T, .int (i : Nat), x, y1, y2, y3, rfl, y4 xs q⟩
/-! ### the deck of a script -/
/-- all that was tracked stays, but for what stands at s and at b -/
def Bt (s b : Addr) (H H' : Hp) : Prop := ∀ x o, x ≠ s → x ≠ b → H x = some o → H' x = some o
theorem Bt.refl (s b : Addr) (H : Hp) : Bt s b H H := fun _ _ _ _ h => h
theorem Bt.trans {s b : Addr} {H H1 H2 : Hp} (a : Bt s b H H1) (c : Bt s b H1 H2) : Bt s b H H2 := fun x o n m h => c x o n m (a x o n m h)
theorem Bt.of {s b : Addr} {H H' : Hp} (a : Same H H') : Bt s b H H' := fun x o _ _ h => a x o h
theorem Bt.new {s b : Addr} {H : Hp} {p : Addr} {o : HO} (h : H p = none) : Bt s b H (upd H p o) := Bt.of (Same.new h)
theorem Bt.own {s b o : Addr} {H H' : Hp} {x : HO} (a : Bt s b H H') (h : H o = none) : Bt s b H (upd H' o x) := fun c z n m e => by
  rw [upd_ne (ne_of_none e h)]
  exact a c z n m e
structure Dk (b c : Addr) (H : Hp) (s : Addr) : Prop where
  ex : ∃ (bs cs : List Int) (n z : Int), H s = some (.lst [.ref b, .ref c, .int n, .int z]) ∧ H b = some (.lst (bs.map V.int)) ∧ H c = some (.lst (cs.map V.int)) ∧ (∀ x ∈ bs, 0 ≤ x) ∧ (∀ x ∈ cs, 0 ≤ x) ∧ cs ≠ [] ∧ cs.length ≤ 64 ∧ bs.length ≤ 64 ∧ 0 ≤ n ∧ 0 ≤ z ∧ z < 2147483647
  nb : b ≠ s
  nc : c ≠ s
  nbc : b ≠ c
theorem Dk.up {H H' : Hp} {b c s : Addr} (h : Dk b c H s) (e : Same H H') : Dk b c H' s := by
  obtain ⟨bs, cs, n, z, h1, h2, h3, h4⟩ := h.ex
  exact ⟨⟨bs, cs, n, z, e _ _ h1, e _ _ h2, e _ _ h3, h4⟩, h.nb, h.nc, h.nbc⟩
theorem Dk.new {H : Hp} {b c s p : Addr} (h : Dk b c H s) (hp : H p = none) : p ≠ s ∧ p ≠ b ∧ p ≠ c := by
  obtain ⟨bs, cs, n, z, h1, h2, h3, _⟩ := h.ex
  exact ⟨(ne_of_none h1 hp).symm, (ne_of_none h2 hp).symm, (ne_of_none h3 hp).symm⟩
theorem Dk.put {H : Hp} {b c s o : Addr} {x : HO} (h : Dk b c H s) (n1 : o ≠ s) (n2 : o ≠ b) (n3 : o ≠ c) : Dk b c (upd H o x) s := by
  obtain ⟨bs, cs, n, z, h1, h2, h3, h4⟩ := h.ex
  refine ⟨⟨bs, cs, n, z, ?_, ?_, ?_, h4⟩, h.nb, h.nc, h.nbc⟩
  · rw [upd_ne n1.symm]; exact h1
  · rw [upd_ne n2.symm]; exact h2
  · rw [upd_ne n3.symm]; exact h3
theorem Bt.tups {b c s : Addr} {H H' : Hp} (h : Dk b c H s) (t : Bt s b H H') : Tups H H' := fun a xs e => by
  obtain ⟨bs, cs, n, z, h1, h2, _⟩ := h.ex
  exact t a _ (ne_of e h1 (by intro y; cases y)) (ne_of e h2 (by intro y; cases y)) e
theorem At.bt {b c s : Addr} {H H' : Hp} {d : D} {v : V} (h : At H d v) (hs : Dk b c H s) (t : Bt s b H H') : At H' d v := At.up (Bt.tups hs t) d v h
theorem AtL.bt {b c s : Addr} {H H' : Hp} {d : List D} {v : List V} (h : AtL H d v) (hs : Dk b c H s) (t : Bt s b H H') : AtL H' d v := AtL.up (Bt.tups hs t) d v h
/-- a list of whole numbers is not [] -/
theorem ne_lst {K : PySem.W.Frag} {H : Hp} {o p : Addr} {ns : List Int} (h : H o = some (.lst (ns.map V.int))) (hp : H p = some (.lst [])) {Q : VK} (q0 : ns = [] → Q (.bl false) H) (q1 : ns ≠ [] → Q (.bl true) H) : rNeD K (.ref o) (.ref p) H Q := by
  have all : ∀ l : List Int, DpAll K H (l.map V.int) (l.map PyData.int) := fun l => by
    induction l with
    | nil => exact .nil
    | cons x r ih => exact .cons (.int x) ih
  have lay : ∀ l : List Int, PyData.canLayAll0 (l.map PyData.int) = true ∧ PyData.depthAll (l.map PyData.int) = 0 := fun l => by
    induction l with
    | nil => exact ⟨by simp [PyData.canLayAll0], by simp [PyData.depthAll]⟩
    | cons x r ih =>
      rw [List.map_cons]
      exact ⟨by simp [PyData.canLayAll0, PyData.canLay0, ih.1], by simp only [PyData.depthAll, PyData.depth, ih.2]; rfl⟩
  have sh : SeqAt.shaped (.list (ns.map PyData.int)) = true := by
    show ((PyData.list (ns.map PyData.int)).canLay0 && decide ((PyData.list (ns.map PyData.int)).depth ≤ 64)) = true
    simp only [PyData.canLay0, PyData.depth, (lay ns).1, (lay ns).2]
    decide
  refine ⟨.list (ns.map .int), .list [], .lst (.inl (.inl h)) (all ns), .lst (.inl (.inl hp)) .nil, sh, rfl, ?_⟩
  cases ns with
  | nil => exact q0 rfl
  | cons x r =>
    have e : PyData.eqv (.list ((x :: r).map PyData.int)) (.list []) = false := by
      simp [PyData.eqv, PyData.eqvAll]
    rw [e]
    exact q1 (List.cons_ne_nil x r)
/-! ### >= of pairs; ups of what is left -/
def lexGe (x1 x2 y1 y2 : Int) : Bool := if x1 = y1 then (if x2 = y2 then true else decide (y2 ≤ x2)) else decide (y1 ≤ x1)
theorem lexGe_iff {x1 x2 y1 y2 : Int} : lexGe x1 x2 y1 y2 = true ↔ y1 < x1 ∨ (x1 = y1 ∧ y2 ≤ x2) := by
  unfold lexGe
  by_cases h1 : x1 = y1
  · rw [if_pos h1]
    by_cases h2 : x2 = y2
    · rw [if_pos h2]
      exact ⟨fun _ => .inr ⟨h1, by omega⟩, fun _ => rfl⟩
    · rw [if_neg h2, decide_eq_true_iff]
      omega
  · rw [if_neg h1, decide_eq_true_iff]
    omega
def rGeP (K : PySem.W.Frag) : R2 := fun x y H Q => ∃ (a b : Addr) (x1 x2 y1 y2 : Int), x = .ref a ∧ y = .ref b ∧ H a = some (.tup [.int x1, .int x2]) ∧ H b = some (.tup [.int y1, .int y2]) ∧ Q (.bl (lexGe x1 x2 y1 y2)) H
theorem geP_ {X : Cx} {K : PySem.W.Frag} (hu : X.A.units < cLine) (hK : X.K = K) : OpR X (compareOp .GtE) (rGeP K) := by
  subst hK
  intro pins s σ H x y v u Q I rx ry h
  obtain ⟨a, b, x1, x2, y1, y2, rfl, rfl, ha, hb, q⟩ := h
  cases rx
  cases ry
  obtain ⟨its, r1, p1, _⟩ := I.tuple (xs := [x1, x2].map V.int) (.inl (.inl ha))
  obtain ⟨its2, r2, p2, _⟩ := I.tuple (xs := [y1, y2].map V.int) (.inl (.inl hb))
  have i1 : IntsAre its [x1, x2] := Vals.ints r1
  have i2 : IntsAre its2 [y1, y2] := Vals.ints r2
  have e1 : its.toArray.size = 2 := by rw [List.size_toArray]; exact i1.length
  have e2 : its2.toArray.size = 2 := by rw [List.size_toArray]; exact i2.length
  have at1 : ∀ j (h1 : j < its.toArray.size), ∃ t, its.toArray[j] = .int ([x1, x2].getD j 0) t := fun j h1 => PyProof.Rows.IntsAre.int_at i1 _ _ (by simp at h1; simp [h1])
  have at2 : ∀ j (h1 : j < its2.toArray.size), ∃ t, its2.toArray[j] = .int ([y1, y2].getD j 0) t := fun j h1 => PyProof.Rows.IntsAre.int_at i2 _ _ (by simp at h1; simp [h1])
  have R := Ob.RcOp.tuples_ge (A := X.A) (s := s) (e := fun j => ([x1, x2].getD j 0 == [y1, y2].getD j 0)) (r := fun j => decide ([y1, y2].getD j 0 ≤ [x1, x2].getD j 0)) p1 p2 hu (fun j h1 h2 => by
    obtain ⟨t1, q1⟩ := at1 j h1
    obtain ⟨t2, q2⟩ := at2 j h2
    rw [q1, q2]
    exact SeqAt.EqAt.int_int _ _ _ _) (fun j h1 h2 _ => by
    obtain ⟨t1, q1⟩ := at1 j h1
    obtain ⟨t2, q2⟩ := at2 j h2
    rw [q1, q2]
    exact Ob.RcOp.ge_int _ _ _ _)
  rw [e1, e2] at R
  have el : Ob.lexAt (fun j => ([x1, x2].getD j 0 == [y1, y2].getD j 0)) (fun j => decide ([y1, y2].getD j 0 ≤ [x1, x2].getD j 0)) (decide (2 ≥ 2)) 0 (min 2 2) = lexGe x1 x2 y1 y2 := by
    show (if (x1 == y1) = true then (if (x2 == y2) = true then true else decide (y2 ≤ x2)) else decide (y1 ≤ x1)) = (if x1 = y1 then (if x2 = y2 then true else decide (y2 ≤ x2)) else decide (y1 ≤ x1))
    simp only [beq_iff_eq]
  rw [el] at R
  have z : wpAny (model X.prog X.w) X.A (compareOp .GtE (.ref a) (.ref b)) (EP X pins σ Q) X.xe s := R X.prog X.w X.xe (EP X pins σ Q) ⟨.bl _, H, I, rfl, q⟩
  exact z
theorem drop_seg {ps : List (Int × Int)} {s : Nat} : seg ps s ps.length = ps.drop s := List.take_of_length_le (by rw [List.length_drop]; exact Nat.le_refl _)
theorem Tl_drop {ps : List (Int × Int)} {s k : Nat} (hk : k ≤ ps.length - s) : Tl (ps.drop s) k = Tl ps (s + k) - Tl ps s := by
  rw [← drop_seg]; exact seg_take hk
theorem dp_drop {ps : List (Int × Int)} {s k : Nat} (hk : k < ps.length - s) : dpA (ps.drop s) k = dpA ps (s + k) - Tl ps s := by
  rw [← drop_seg]; exact seg_dp (Nat.le_refl _) hk
theorem mn_shift {f g : Nat → Int} {s : Nat} {c : Int} : ∀ j : Nat, (∀ i, i ≤ j → g (0 + i) = f (s + i) - c) → mn g 0 j = mn f s j - c
  | 0, h => h 0 (Nat.le_refl _)
  | j + 1, h => by
    have ih := mn_shift j (fun i hi => h i (by omega))
    have hj := h (j + 1) (Nat.le_refl _)
    unfold mn
    rw [ih, hj]
    split <;> split <;> omega
theorem Mk_drop {ps : List (Int × Int)} {s k : Nat} (h0 : 0 < k) (hk : k ≤ ps.length - s) : Mk (ps.drop s) 0 k = Mk ps s (s + k) - Tl ps s := by
  unfold Mk
  rw [show s + k - s - 1 = k - 0 - 1 by omega]
  exact mn_shift _ fun i hi => by
    rw [Nat.zero_add]
    exact dp_drop (by omega)
theorem IsUp.drop {ps : List (Int × Int)} {s e : Nat} (hs : s ≤ ps.length) (h : IsUp (ps.drop s) 0 e) : IsUp ps s (s + e) := by
  have hl : (ps.drop s).length = ps.length - s := List.length_drop
  have t0 : Tl (ps.drop s) 0 = 0 := rfl
  rcases h with ⟨h1, h2⟩ | ⟨h1, h2, h3, h4⟩
  · refine .inl ⟨by omega, fun k hk hkn => ?_⟩
    have := h2 (k - s) (by omega) (by omega)
    rw [Tl_drop (by omega), show s + (k - s) = k by omega] at this
    omega
  · have e3 : Tl (ps.drop s) e = Tl ps (s + e) - Tl ps s := Tl_drop (by omega)
    refine .inr ⟨by omega, by omega, by omega, fun k hk hkn hkT => ?_⟩
    have ek : Tl (ps.drop s) (k - s) = Tl ps k - Tl ps s := by
      rw [Tl_drop (by omega), show s + (k - s) = k by omega]
    have o := h4 (k - s) (by omega) (by omega) (by omega)
    have m1 : Mk (ps.drop s) 0 (k - s) = Mk ps s k - Tl ps s := by
      rw [Mk_drop (by omega) (by omega), show s + (k - s) = k by omega]
    have m2 : Mk (ps.drop s) 0 e = Mk ps s (s + e) - Tl ps s := Mk_drop (by omega) (by omega)
    unfold Ok3 at o ⊢
    rw [m1, m2, ek, e3] at o
    omega
/-- t[-1:] -/
theorem slA_last {σ : L2.St} {K : PySem.W.Frag} {H : Hp} {l : List D} {v : V} {z : Int} {Q : VK} (h : At H (.t l) v) (e : z = -1) (q : ∀ H' u, Same H H' → At H' (.t (l.drop (l.length - 1))) u → Q u H') : tNoPart σ H fun o H3 => rSlA K v (some z) o H3 Q := by
  subst e
  obtain ⟨a, vs, rfl, ha, av⟩ := h.inv
  have ei : HT.sIx vs.length 0 (some (-1)) = vs.length - 1 := by
    show (if (-1 : Int) < 0 then (-1 + (vs.length : Int)).toNat else min (-1 : Int).toNat vs.length) = vs.length - 1
    rw [if_pos (by decide)]
    omega
  refine ⟨a, vs, rfl, .inl (.inl ha), fun hw => ?_, fun hw p np => ?_⟩
  · have h2 := hw.1
    rw [ei] at h2
    refine q H _ (Same.refl _) ?_
    rw [← av.length, h2, List.drop_zero]
    exact h
  · refine q _ _ (Same.new np) (At.tup upd_same ?_)
    have ec : cutV vs (some (-1)) none = vs.drop (vs.length - 1) := by
      unfold cutV
      rw [HT.sIx_none, ei]
      exact List.take_of_length_le (by rw [List.length_drop]; exact Nat.le_refl _)
    rw [ec, ← av.length]
    exact (av.drop _).same (Same.new np)
/-! ### forms -/
def lst2 (up : List (Int × Int)) : List Int := (up.drop (up.length - 1)).map Prod.snd
def fst1 (down : List (Int × Int)) : List Int := (down.take 1).map Prod.fst
def IsMx (l : List Int) (m : Int) : Prop := m ∈ l ∧ ∀ y ∈ l, y ≤ m
theorem IsMx.uniq {l : List Int} {m m' : Int} (h : IsMx l m) (h' : IsMx l m') : m = m' := Int.le_antisymm (h'.2 _ h.1) (h.2 _ h'.1)
theorem IsMx.cons {l : List Int} {a m : Int} (h : IsMx (0 :: l) m) : IsMx (0 :: a :: l) (if m > a then m else a) := by
  obtain ⟨h1, h2⟩ := h
  have h0 := h2 0 (List.mem_cons_self ..)
  split
  · rename_i g
    refine ⟨?_, fun y hy => ?_⟩
    · rcases List.mem_cons.mp h1 with e | e
      · rw [e]; exact List.mem_cons_self ..
      · exact List.mem_cons_of_mem _ (List.mem_cons_of_mem _ e)
    · rcases List.mem_cons.mp hy with e | e
      · rw [e]; exact h0
      · rcases List.mem_cons.mp e with e | e
        · rw [e]; omega
        · exact h2 y (List.mem_cons_of_mem _ e)
  · rename_i g
    refine ⟨List.mem_cons_of_mem _ (List.mem_cons_self ..), fun y hy => ?_⟩
    rcases List.mem_cons.mp hy with e | e
    · rw [e]; omega
    · rcases List.mem_cons.mp e with e | e
      · rw [e]; exact Int.le_refl _
      · have := h2 y (List.mem_cons_of_mem _ e); omega
/-- the wholes of stretches -/
def upV (ps : List (Int × Int)) (L : List (Nat × Nat)) : List (Int × Int) := L.map fun x => wl (seg ps x.1 x.2)
theorem upV_downs {ps : List (Int × Int)} {m : Nat} (h : ∀ x ∈ ps, Nn x) (hm : m ≤ ps.length) {l : List (Nat × Nat)} (hl : ∀ x ∈ l, x.1 < x.2 ∧ x.2 ≤ ps.length - m) : upV ps (dwnN ps.length l) = trn (upV (trn (ps.drop m)) l) := by
  unfold upV dwnN trn
  rw [← List.map_reverse, List.map_map, List.map_map]
  refine List.map_congr_left fun x hx => ?_
  have h0 := hl x (List.mem_reverse.mp hx)
  show wl (seg ps (ps.length - x.2) (ps.length - x.1)) = swp (wl (seg (trn (ps.drop m)) x.1 x.2))
  rw [seg_trn hm (Nat.le_of_lt h0.1) h0.2, wl_trn (seg_nn (trn_nn (nn_drop h m)) _ _)]
theorem AtL.tri {H : Hp} {d1 d2 d3 : D} {vs : List V} (h : AtL H [d1, d2, d3] vs) : ∃ v1 v2 v3, vs = [v1, v2, v3] ∧ At H d1 v1 ∧ At H d2 v2 ∧ At H d3 v3 := by
  have hl := h.length
  match vs, hl with
  | [v1, v2, v3], _ =>
    obtain ⟨w1, e1, a1⟩ := h.get (i := 0) rfl
    obtain ⟨w2, e2, a2⟩ := h.get (i := 1) rfl
    obtain ⟨w3, e3, a3⟩ := h.get (i := 2) rfl
    cases e1
    cases e2
    cases e3
    exact ⟨_, _, _, rfl, a1, a2, a3⟩
/-! ### the text -/
def top (i : Nat) : Stmt := PySem.Challenge.pw_stintpurse_k07_heights_and_dips.main.body.getD i (.Pass ⟨0, 0, 0, 0⟩)
abbrev s_law_take : Stmt := top 7
theorem sc_law_take : FnScope ["_law_stream_here", "_law_below", "_law_cells", "_law_begun", "_law_left", "_law_blend"] ["_law_stream_here", "_law_below"] (defScope s_law_take) := ⟨rfl, rfl, rfl, by decide +kernel, rfl, by decide +kernel, by decide +kernel⟩
abbrev s_law_number : Stmt := top 8
theorem sc_law_number : FnScope ["_law_stream_here", "_law_way"] ["_law_stream_here"] (defScope s_law_number) := ⟨rfl, rfl, rfl, by decide +kernel, rfl, by decide +kernel, by decide +kernel⟩
abbrev s_law_pair : Stmt := top 9
theorem sc_law_pair : FnScope ["_law_stream_here", "_law_need"] ["_law_stream_here"] (defScope s_law_pair) := ⟨rfl, rfl, rfl, by decide +kernel, rfl, by decide +kernel, by decide +kernel⟩
abbrev s_law_row : Stmt := top 10
theorem sc_law_row : FnScope ["_law_stream_here", "_law_most", "_law_found", "_law_k"] ["_law_stream_here", "_law_most"] (defScope s_law_row) := ⟨rfl, rfl, rfl, by decide +kernel, rfl, by decide +kernel, by decide +kernel⟩
abbrev s_law_stream : Stmt := top 6
theorem sc_law_stream : FnScope ["_law_script", "_law_cell"] ["_law_script"] (defScope s_law_stream) := ⟨rfl, rfl, rfl, by decide +kernel, rfl, by decide +kernel, by decide +kernel⟩
abbrev s_law_alike : Stmt := top 11
theorem sc_law_alike : FnScope ["_law_found", "_law_due", "_law_k"] ["_law_found", "_law_due"] (defScope s_law_alike) := ⟨rfl, rfl, rfl, by decide +kernel, rfl, by decide +kernel, by decide +kernel⟩
abbrev s_whole : Stmt := top 1
theorem sc_whole : FnScope ["row", "need", "held", "wanted", "leave"] ["row"] (defScope s_whole) := ⟨rfl, rfl, rfl, by decide +kernel, rfl, by decide +kernel, by decide +kernel⟩
abbrev s_turned_row : Stmt := top 2
theorem sc_turned_row : FnScope ["row", "need", "leave"] ["row"] (defScope s_turned_row) := ⟨rfl, rfl, rfl, by decide +kernel, rfl, by decide +kernel, by decide +kernel⟩
abbrev s_heights : Stmt := top 3
theorem sc_heights : FnScope ["row", "height", "told", "need", "leave"] ["row"] (defScope s_heights) := ⟨rfl, rfl, rfl, by decide +kernel, rfl, by decide +kernel, by decide +kernel⟩
abbrev s_dips : Stmt := top 4
theorem sc_dips : FnScope ["row", "height", "pair"] ["row"] (defScope s_dips) := ⟨rfl, rfl, rfl, by decide +kernel, rfl, by decide +kernel, by decide +kernel⟩
abbrev s_law : Stmt := top 12
theorem sc_law : FnScope ["_law_script", "_law_stream_here", "_law_turn", "_law_row_here", "_law_high", "_law_need", "_law_leave", "_law_k", "_law_deep", "_law_dip", "_law_back"] ["_law_script"] (defScope s_law) := ⟨rfl, rfl, rfl, by decide +kernel, rfl, by decide +kernel, by decide +kernel⟩
section
variable {P : Program} {w : World} {K : PySem.W.Frag} {mg : Str → Option Value} {base : Heap}

def spTake : Sp := fun vs H Q _ => ∃ (s c : Addr) (n : Int), vs = [.ref s, .int n] ∧ Strm c H s ∧ 0 < n ∧ n < 1073741824 ∧
  ∀ H' r, But s H H' → Strm c H' s → 0 ≤ r → r < n → Q (.int r) H'
theorem ok_take {f : Addr} {fd : FuncData} (F : FnP K "_law_take" s_law_take f fd) (B : Bi mg) : FnOk P w K mg base CX0 1 f fd ["_law_stream_here", "_law_below"] spTake := by
  refine F.ok sc_law_take (fun vs H Q E h => ?_) (fun cdv A outer s H vs Q E hr h => ?_)
  · obtain ⟨s, c, n, rfl, _⟩ := h
    rfl
  obtain ⟨s, c, n, rfl, hS, hn0, hn1, q⟩ := h
  obtain ⟨cs, b, l, bl, hs, hc, hcs, hlen, hb, hl, hbl, hbl2⟩ := hS.ex
  have ncs : c ≠ s := strm_ne hs hc
  refine ⟨_, PSs.nox (pss_cons (ps_asg (pv 0) (pg_unl rfl (pgs_cons (pg_name (i := 2) sc_law_take.nd rfl (.inl rfl)) (pgs_cons (pg_name (i := 3) sc_law_take.nd rfl (.inl rfl)) (pgs_cons (pg_name (i := 4) sc_law_take.nd rfl (.inl rfl)) (pgs_cons (pg_name (i := 5) sc_law_take.nd rfl (.inl rfl)) pgs_nil))))))
    (Evl.pss_cut (ps_if (PW.pt (pw_and (pt_cmpR op_eq (pv 4) pe_int (nomark _)) (pw_and1 (pt_cmpR op_lt (pv 3) (pe_callB (len_ (K := K) rfl) (by rfl) B.len PySem.boot_len (pa_cons (pv 2) pa_nil)) (nomark _))))) (pss_cons (ps_asg (pe_op op_add (pv 3) pe_int) (pg_sub (pv 0) pe_int set_list))
    (pss_one (ps_if (pt_cmpR op_ge (pe_ix (ixL_ (K := K) rfl) (pv 2) (pv 3) (fun _ _ => rfl)) (pe_op op_pow pe_int pe_int) (nomark _)) (pss_one (ps_set (i := 4) sc_law_take.nd rfl (.inl rfl) (pe_ix (ixL_ (K := K) rfl) (pv 2) (pv 3) (fun _ _ => rfl)))) (pss_one (ps_set (i := 5) sc_law_take.nd rfl (.inl rfl) (pe_op op_add (pv 5) (pe_op op_mod (pe_ix (ixL_ (K := K) rfl) (pv 2) (pv 3) (fun _ _ => rfl)) pe_int))))))) pss_nil)
    (pss_cons (ps_if (pt_cmpR op_gt (pv 4) pe_int (nomark _)) (pss_cons (ps_asg (pe_op op_fdiv (pv 4) (pv 1)) (pg_sub (pv 0) pe_int set_list))
    (pss_one (ps_ret (pe_op op_mod (pv 4) (pv 1))))) pss_nil)
    (pss_cons (ps_set (i := 5) sc_law_take.nd rfl (.inl rfl) (pe_op op_mod (pe_op op_add (pe_op op_mul (pv 5) pe_int) pe_int) pe_int))
    (pss_cons (ps_asg (pv 5) (pg_sub (pv 0) pe_int set_list))
    (pss_one (ps_ret (pe_op op_mod (pe_op op_fdiv (pe_op op_mod (pe_op op_mul (pv 5) (pv 5)) pe_int) pe_int) (pv 1))))))))), ?_⟩
  refine ⟨.ref s, rfl, s, _, rfl, .inl (.inl hs), rfl, _, _, rfl, _, _, rfl, _, _, rfl, _, _, rfl, rfl, ?_⟩
  refine ⟨fun σ' H' => ∃ (b' l' bl' : Int), σ' = [some (.ref s), some (.int n), some (.ref c), some (.int b), some (.int l'), some (.int bl')] ∧ H' s = some (.lst [.ref c, .int b', .int l, .int bl]) ∧ But s H H' ∧ 0 ≤ b' ∧ 0 ≤ l' ∧ 0 ≤ bl' ∧ bl' < 4294967296 * 2 ∧ (l' = 0 → l = 0), ?_, ?_⟩
  · refine ⟨_, rfl, rfl, _, rfl, ite2 (fun e => ?_) (fun e => ?_)⟩
    · refine ⟨_, rfl, _, rfl, c, _, rfl, .inl (.inl (.inl hc)), _, _, rfl, rfl, _, rfl, ite2 (fun e2 => ?_) (fun e2 => ?_)⟩
      · have l0 : l = 0 := V.int.inj (of_decide_eq_true e)
        have hb2 : b < ((cs.map V.int).length : Int) := of_decide_eq_true e2
        rw [List.length_map] at hb2
        have hbn : b = (b.toNat : Int) := (Int.toNat_of_nonneg hb).symm
        have hbl3 : b.toNat < cs.length := by omega
        have gc : (cs.map V.int)[b.toNat]? = some (.int cs[b.toNat]) := by
          rw [List.getElem?_map, List.getElem?_eq_getElem hbl3]; rfl
        have g0 : 0 ≤ cs[b.toNat] := hcs _ (List.getElem_mem hbl3)
        refine ⟨_, rfl, b, 1, rfl, rfl, _, rfl, s, _, _, 1, rfl, rfl, hs, rfl, ?_⟩
        have hs1 : upd H s (.lst [.ref c, .int (b + 1), .int l, .int bl]) s = some (.lst [.ref c, .int (b + 1), .int l, .int bl]) := upd_same
        have hc1 : upd H s (.lst [.ref c, .int (b + 1), .int l, .int bl]) c = some (.lst (cs.map V.int)) := by
          rw [upd_ne ncs]; exact hc
        have ga : atI (cs.map V.int) b = some (.int cs[b.toNat]) := at_of hbn gc
        refine ⟨_, rfl, _, rfl, c, _, b, _, rfl, rfl, .inl (.inl hc1), ga, 10, 18, rfl, rfl, ⟨by decide, by decide, by decide⟩, _, _, rfl, rfl, _, rfl, ite2 (fun e3 => ?_) (fun e3 => ?_)⟩
        · have h18 : (10 ^ (18 : Int).toNat : Int) ≤ cs[b.toNat] := of_decide_eq_true e3
          refine ⟨_, rfl, _, rfl, c, _, b, _, rfl, rfl, .inl (.inl hc1), ga, ?_⟩
          refine ⟨b + 1, cs[b.toNat], bl, rfl, hs1, But.put, by omega, g0, hbl, by omega, fun z => ?_⟩
          exact l0
        · refine ⟨_, rfl, _, rfl, _, rfl, c, _, b, _, rfl, rfl, .inl (.inl hc1), ga, _, 2147483629, rfl, rfl, (show (0 : Int) < 2147483629 by decide), _, _, rfl, rfl, ?_⟩
          refine ⟨b + 1, l, bl + cs[b.toNat] % 2147483629, rfl, hs1, But.put, by omega, hl, by omega, by omega, fun z => z⟩
      · exact ⟨b, l, bl, rfl, hs, But.refl _ _, hb, hl, hbl, by omega, fun z => z⟩
    · exact ⟨b, l, bl, rfl, hs, But.refl _ _, hb, hl, hbl, by omega, fun z => z⟩
  · rintro σ' H1 ⟨b', l', bl', rfl, hs1, hB, hb', hl', hbl', hbl2', hl0⟩
    have hc1 : H1 c = some (.lst (cs.map V.int)) := hB c _ ncs hc
    refine ⟨_, rfl, l', 0, rfl, rfl, _, rfl, ite2 (fun e => ?_) (fun e => ?_)⟩
    · have l1 : 0 < l' := of_decide_eq_true e
      refine ⟨_, rfl, _, rfl, l', n, rfl, rfl, ⟨hn0, hn1⟩, _, rfl, s, _, _, 2, rfl, rfl, hs1, rfl, ?_⟩
      refine ⟨_, rfl, _, rfl, l', n, rfl, rfl, hn0, ?_⟩
      refine q _ _ (hB.trans But.put) ⟨cs, b', l' / n, bl, upd_same, ?_, hcs, hlen, hb', Int.ediv_nonneg hl' (Int.le_of_lt hn0), hbl, hbl2⟩ (Int.emod_nonneg _ (Int.ne_of_gt hn0)) (Int.emod_lt_of_pos _ hn0)
      rw [upd_ne ncs]; exact hc1
    · refine ⟨_, rfl, bl', 48271, rfl, rfl, .inr ⟨by decide, by decide⟩, _, 30011, rfl, rfl, _, 2147483647, rfl, rfl, (show (0 : Int) < 2147483647 by decide), ?_⟩
      dsimp only
      have z0 : 0 ≤ (bl' * 48271 + 30011) % 2147483647 := Int.emod_nonneg _ (by decide)
      have z1 : (bl' * 48271 + 30011) % 2147483647 < 2147483647 := Int.emod_lt_of_pos _ (by decide)
      generalize (bl' * 48271 + 30011) % 2147483647 = z at z0 z1 ⊢
      refine ⟨_, rfl, _, rfl, s, _, _, 3, rfl, rfl, hs1, rfl, ?_⟩
      refine ⟨_, rfl, _, rfl, z, z, rfl, rfl, .inl ⟨by omega, by omega⟩, _, 2147483629, rfl, rfl, (show (0 : Int) < 2147483629 by decide), _, 16, rfl, rfl, ⟨by decide, by decide⟩, _, rfl, _, n, rfl, rfl, hn0, ?_⟩
      refine q _ _ (hB.trans But.put) ⟨cs, b', l, z, upd_same, ?_, hcs, hlen, hb', hl, z0, by omega⟩ (Int.emod_nonneg _ (Int.ne_of_gt hn0)) (Int.emod_lt_of_pos _ hn0)
      rw [upd_ne ncs]; exact hc1

def spNumber : Sp := fun vs H Q _ => ∃ (s c : Addr), vs = [.ref s] ∧ Strm c H s ∧
  ∀ H' r, But s H H' → Strm c H' s → 0 ≤ r → r < 10000000000000000000000000000000000000000 → Q (.int r) H'
theorem ok_number {f : Addr} {fd : FuncData} (F : FnP K "_law_number" s_law_number f fd) (c_law_take : Cl P w K mg base 1 "_law_take" ["_law_stream_here", "_law_below"] spTake) : FnOk P w K mg base CX0 2 f fd ["_law_stream_here"] spNumber := by
  refine F.ok sc_law_number (fun vs H Q E h => ?_) (fun cdv A outer s H vs Q E hr h => ?_)
  · obtain ⟨s, c, rfl, _⟩ := h
    rfl
  obtain ⟨s, c, rfl, hS, q⟩ := h
  refine ⟨_, PSs.nox (pss_cons (ps_set (i := 1) sc_law_number.nd rfl (.inl rfl) (pe_cl c_law_take hr (by rfl) (pa_cons (pv 0) (pa_cons pe_int pa_nil))))
    (pss_cons (ps_if (pt_cmpR op_eq (pv 1) pe_int (nomark _)) (pss_one (ps_ret pe_int)) pss_nil)
    (pss_cons (ps_if (pt_cmpR op_lt (pv 1) pe_int (nomark _)) (pss_one (ps_ret (pe_cl c_law_take hr (by rfl) (pa_cons (pv 0) (pa_cons pe_int pa_nil))))) pss_nil)
    (pss_cons (ps_if (pt_cmpR op_lt (pv 1) pe_int (nomark _)) (pss_one (ps_ret (pe_cl c_law_take hr (by rfl) (pa_cons (pv 0) (pa_cons pe_int pa_nil))))) pss_nil)
    (pss_one (ps_ret (pe_op op_add (pe_ix (ixL_ (K := K) rfl) (pe_lst (pa_cons (pe_op op_pow pe_int pe_int) (pa_cons (pe_op op_pow pe_int pe_int) (pa_cons (pe_op op_pow pe_int pe_int) (pa_cons (pe_op op_pow pe_int pe_int) pa_nil))))) (pe_cl c_law_take hr (by rfl) (pa_cons (pv 0) (pa_cons pe_int pa_nil))) (fun _ _ => rfl)) (pe_cl c_law_take hr (by rfl) (pa_cons (pv 0) (pa_cons pe_int pa_nil)))))))))), ?_⟩
  refine ⟨_, rfl, s, c, 16, rfl, hS, by decide, by decide, fun H1 r B1 S1 r0 r1 => ?_⟩
  refine ⟨_, rfl, rfl, _, rfl, ite2 (fun e => ?_) (fun e => ?_)⟩
  · exact q _ _ B1 S1 (by decide) (by decide)
  refine ⟨_, rfl, _, _, rfl, rfl, _, rfl, ite2 (fun e => ?_) (fun e => ?_)⟩
  · exact ⟨_, rfl, s, c, 10, rfl, S1, by decide, by decide, fun H2 r B2 S2 r0 r1 => q _ _ (B1.trans B2) S2 r0 (by omega)⟩
  refine ⟨_, rfl, _, _, rfl, rfl, _, rfl, ite2 (fun e => ?_) (fun e => ?_)⟩
  · exact ⟨_, rfl, s, c, 41, rfl, S1, by decide, by decide, fun H2 r B2 S2 r0 r1 => q _ _ (B1.trans B2) S2 r0 (by omega)⟩
  refine ⟨10, 9, rfl, rfl, ⟨by decide, by decide, by decide⟩, 10, 12, rfl, rfl, ⟨by decide, by decide, by decide⟩, 10, 18, rfl, rfl, ⟨by decide, by decide, by decide⟩, 10, 39, rfl, rfl, ⟨by decide, by decide, by decide⟩, by decide, fun p np => ?_⟩
  have S2 : Strm c (upd H1 p _) s := S1.up (Same.new (o := .lst [V.int (10 ^ (9 : Int).toNat), .int (10 ^ (12 : Int).toNat), .int (10 ^ (18 : Int).toNat), .int (10 ^ (39 : Int).toNat)]) np)
  refine ⟨_, rfl, s, c, 4, rfl, S2, by decide, by decide, fun H3 r B3 S3 r0 r1 => ?_⟩
  have np3 : p ≠ s := by
    obtain ⟨xs, hx⟩ := S1.lst
    exact (ne_of_none hx np).symm
  have hx : ∃ x : Int, atI [V.int (10 ^ (9 : Int).toNat), .int (10 ^ (12 : Int).toNat), .int (10 ^ (18 : Int).toNat), .int (10 ^ (39 : Int).toNat)] r = some (.int x) ∧ 0 ≤ x ∧ x ≤ 1000000000000000000000000000000000000000 := by
    obtain rfl | rfl | rfl | rfl : r = 0 ∨ r = 1 ∨ r = 2 ∨ r = 3 := by omega
    · exact ⟨_, rfl, by decide, by decide⟩
    · exact ⟨_, rfl, by decide, by decide⟩
    · exact ⟨_, rfl, by decide, by decide⟩
    · exact ⟨_, rfl, by decide, by decide⟩
  obtain ⟨x, hx, x0, x1⟩ := hx
  refine ⟨p, _, r, .int x, rfl, rfl, .inl (.inl (B3 p _ np3 upd_same)), hx, ?_⟩
  refine ⟨_, rfl, s, c, 3, rfl, S3, by decide, by decide, fun H4 r4 B4 S4 r40 r41 => ?_⟩
  exact ⟨x, r4, rfl, rfl, q _ _ (B1.trans ((But.new np).trans (B3.trans B4))) S4 (by omega) (by omega)⟩

def spPair : Sp := fun vs H Q _ => ∃ (s c : Addr), vs = [.ref s] ∧ Strm c H s ∧
  ∀ H' v x, But s H H' → Strm c H' s → At H' (dP x) v → 0 ≤ x.1 → x.1 < 10000000000000000000000000000000000000000 → 0 ≤ x.2 → x.2 < 10000000000000000000000000000000000000000 → Q v H'
theorem ok_pair {f : Addr} {fd : FuncData} (F : FnP K "_law_pair" s_law_pair f fd) (B : Bi mg) (c_law_take : Cl P w K mg base 1 "_law_take" ["_law_stream_here", "_law_below"] spTake) (c_law_number : Cl P w K mg base 2 "_law_number" ["_law_stream_here"] spNumber) : FnOk P w K mg base CX0 3 f fd ["_law_stream_here"] spPair := by
  refine F.ok sc_law_pair (fun vs H Q E h => ?_) (fun cdv A outer s H vs Q E hr h => ?_)
  · obtain ⟨s, c, rfl, _⟩ := h
    rfl
  obtain ⟨s, c, rfl, hS, q⟩ := h
  refine ⟨_, PSs.nox (pss_cons (ps_if (pt_cmpR op_eq (pe_cl c_law_take (hr.mono (by decide)) (by rfl) (pa_cons (pv 0) (pa_cons pe_int pa_nil))) pe_int (nomark _)) (pss_one (ps_ret (pe_tup (pa_cons (pe_cl c_law_number hr (by rfl) (pa_cons (pv 0) pa_nil)) (pa_cons (pe_cl c_law_number hr (by rfl) (pa_cons (pv 0) pa_nil)) pa_nil))))) pss_nil)
    (pss_cons (ps_set (i := 1) sc_law_pair.nd rfl (.inl rfl) (pe_cl c_law_take (hr.mono (by decide)) (by rfl) (pa_cons (pv 0) (pa_cons pe_int pa_nil))))
    (pss_one (ps_ret (pe_tup (pa_cons (pv 1) (pa_cons (pe_callB (call_max2 rfl) (by rfl) B.max (by decide +kernel) (pa_cons pe_int (pa_cons (pe_op op_sub (pe_op op_add (pv 1) (pe_cl c_law_take (hr.mono (by decide)) (by rfl) (pa_cons (pv 0) (pa_cons pe_int pa_nil)))) pe_int) pa_nil))) pa_nil))))))), ?_⟩
  refine ⟨_, rfl, s, c, 4, rfl, hS, by decide, by decide, fun H1 r B1 S1 r0 r1 => ?_⟩
  refine ⟨rfl, _, rfl, ite2 (fun e => ?_) (fun e => ?_)⟩
  · refine ⟨_, rfl, s, c, rfl, S1, fun H2 x B2 S2 x0 x1 => ?_⟩
    refine ⟨_, rfl, s, c, rfl, S2, fun H3 y B3 S3 y0 y1 => ?_⟩
    refine ⟨sz2, fun p np => ?_⟩
    exact q _ _ (x, y) (B1.trans (B2.trans (B3.trans (But.new np)))) (S3.up (Same.new np)) (At.mkPair upd_same) x0 x1 y0 y1
  · refine ⟨_, rfl, s, c, 12, rfl, S1, by decide, by decide, fun H2 x B2 S2 x0 x1 => ?_⟩
    refine ⟨_, rfl, _, rfl, _, rfl, s, c, 9, rfl, S2, by decide, by decide, fun H3 y B3 S3 y0 y1 => ?_⟩
    refine ⟨x, y, rfl, rfl, _, 4, rfl, rfl, 0, _, rfl, sz2, fun p np => ?_⟩
    refine q _ _ (x, _) (B1.trans (B2.trans (B3.trans (But.new np)))) (S3.up (Same.new np)) (At.mkPair upd_same) x0 (by omega) ?_ ?_
    · show (0 : Int) ≤ if x + y - 4 > 0 then x + y - 4 else 0
      split <;> omega
    · show (if x + y - 4 > 0 then x + y - 4 else 0) < 10000000000000000000000000000000000000000
      split <;> omega

def spRow : Sp := fun vs H Q _ => ∃ (s c : Addr) (n : Int), vs = [.ref s, .int n] ∧ Strm c H s ∧ 0 ≤ n ∧ n ≤ 1000 ∧
  ∀ H' v ps, But s H H' → Strm c H' s → At H' (dR ps) v → (∀ x ∈ ps, Bd x) → (ps.length : Int) ≤ n → Q v H'
theorem ok_row {f : Addr} {fd : FuncData} (F : FnP K "_law_row" s_law_row f fd) (B : Bi mg) (c_law_take : Cl P w K mg base 1 "_law_take" ["_law_stream_here", "_law_below"] spTake) (c_law_pair : Cl P w K mg base 3 "_law_pair" ["_law_stream_here"] spPair) : FnOk P w K mg base CX0 4 f fd ["_law_stream_here", "_law_most"] spRow := by
  refine F.ok sc_law_row (fun vs H Q E h => ?_) (fun cdv A outer s H vs Q E hr h => ?_)
  · obtain ⟨s, c, n, rfl, _⟩ := h
    rfl
  obtain ⟨s, c, n, rfl, hS, hn0, hn1, q⟩ := h
  refine ⟨_, PSs.nox (pss_cons (ps_set (i := 2) sc_law_row.nd rfl (.inl rfl) (pe_lst pa_nil))
    (pss_cons (ps_for PassesOwn.never rfl (pi_range1 (by rfl) B.range (pa_cons (pe_cl c_law_take (hr.mono (by decide)) (by rfl) (pa_cons (pv 0) (pa_cons (pe_op op_add (pv 1) pe_int) pa_nil))) pa_nil)) (pg_name (i := 3) sc_law_row.nd rfl (.inl rfl))
      (pss_cons (ps_expr (pe_bm PySem.F.plainAttrs_list PySem.F.slot_list_append PySem.F.type_list_append mt_append (pv 2) (pa_cons (pe_cl c_law_pair hr (by rfl) (pa_cons (pv 0) pa_nil)) pa_nil)))
    (pss_one (ps_if (pt_cmpR op_eq (pe_cl c_law_take (hr.mono (by decide)) (by rfl) (pa_cons (pv 0) (pa_cons pe_int pa_nil))) pe_int (nomark _)) (pss_one (ps_asg (pe_ix (ixL_ (K := K) rfl) (pv 2) (pe_cl c_law_take (hr.mono (by decide)) (by rfl) (pa_cons (pv 0) (pa_cons (pe_op op_add (pv 3) pe_int) pa_nil))) (fun _ _ => rfl)) (pg_sub (pv 2) (pv 3) set_list))) pss_nil))))
    (pss_one (ps_ret (pe_callTy (tuple_ (K := K) rfl) (by rfl) B.tuple (by decide +kernel) (pa_cons (pv 2) pa_nil)))))), ?_⟩
  refine ⟨Nat.zero_le _, fun o no => ?_⟩
  obtain ⟨nos, noc⟩ := hS.new no
  refine ⟨_, rfl, _, rfl, n, 1, rfl, rfl, s, c, _, rfl, hS.up (Same.new no), by omega, by omega, fun H1 r B1 S1 r0 r1 => ?_⟩
  refine ⟨r, rfl, by omega, by omega, ?_⟩
  have eo1 : H1 o = some (.lst []) := B1 o _ nos upd_same
  refine for_range (lo := 0) (n := r.toNat) (fun i σ H3 => ∃ (ps : List (Int × Int)) (us : List V) (y : Option V), σ = [some (.ref s), some (.int n), some (.ref o), y] ∧ But s H H3 ∧ Strm c H3 s ∧ H3 o = some (.lst us) ∧ AtL H3 (ps.map dP) us ∧ ps.length = i ∧ ∀ x ∈ ps, Bd x) ?_ ?_ ?_
  · exact ⟨[], [], none, rfl, (But.new no).trans B1, S1, eo1, AtL.nil, rfl, fun x h => by cases h⟩
  · rintro i σ H3 hi ⟨ps, us, y, rfl, B3, S3, eo3, a3, rfl, b3⟩
    have hul : us.length = ps.length := by rw [a3.length, List.length_map]
    have hbig : us.length < sizeLine := szM (by omega)
    refine ⟨_, rfl, .inl ⟨rfl, _, .inl (.inl eo3)⟩, _, rfl, s, c, rfl, S3, fun H4 v x B4 S4 a4 x1 x2 x3 x4 => ?_⟩
    have eo4 : H4 o = some (.lst us) := B4 o _ nos eo3
    refine ⟨o, us, v, rfl, rfl, eo4, hbig, ?_⟩
    have S5 : Strm c (upd H4 o (.lst (us ++ [v]))) s := S4.put nos noc
    have T5 : Tups H4 (upd H4 o (.lst (us ++ [v]))) := fun b xs e => by
      rw [upd_ne (ne_of e eo4 (by intro z; cases z))]; exact e
    have a5 : AtL (upd H4 o (.lst (us ++ [v]))) ((ps ++ [x]).map dP) (us ++ [v]) := by
      rw [List.map_append]
      exact AtL.append (AtL.up T5 _ _ (a3.but S3 B4)) (AtL.cons (At.up T5 _ _ a4) AtL.nil)
    have b5 : ∀ z ∈ ps ++ [x], Bd z := fun z hz => by
      rcases List.mem_append.mp hz with h | h
      · exact b3 z h
      · rw [List.mem_singleton.mp h]; exact ⟨x1, x2, x3, x4⟩
    refine ⟨_, rfl, s, c, 5, rfl, S5, by decide, by decide, fun H6 r6 B6 S6 r60 r61 => ?_⟩
    have eo6 : H6 o = some (.lst (us ++ [v])) := B6 o _ nos upd_same
    have B36 : But s H H6 := ((B3.trans B4).own no).trans B6
    have a6 := a5.but S5 B6
    refine ⟨rfl, _, rfl, ite2 (fun e => ?_) (fun e => ?_)⟩
    · refine ⟨_, rfl, _, rfl, _, rfl, _, 1, rfl, rfl, s, c, _, rfl, S6, by omega, by omega, fun H7 r7 B7 S7 r70 r71 => ?_⟩
      have eo7 : H7 o = some (.lst (us ++ [v])) := B7 o _ nos eo6
      have hr7 : r7 = (r7.toNat : Int) := (Int.toNat_of_nonneg r70).symm
      have hr8 : r7.toNat < (ps ++ [x]).length := by rw [List.length_append, List.length_singleton]; omega
      obtain ⟨u, gu, au⟩ := (a6.but S6 B7).get (i := r7.toNat) (d := dP (ps ++ [x])[r7.toNat]) (by rw [List.getElem?_map, List.getElem?_eq_getElem hr8]; rfl)
      refine ⟨o, _, r7, u, rfl, rfl, .inl (.inl eo7), at_of hr7 gu, _, rfl, _, rfl, o, _, _, ps.length, rfl, rfl, eo7, ixN_of (by omega) (by rw [List.length_append, List.length_singleton]; omega), ?_⟩
      refine ⟨(ps ++ [x]).set ps.length (ps ++ [x])[r7.toNat], _, some (.int (0 + (ps.length : Nat))), rfl, (B36.trans B7).own no, S7.put nos noc, upd_same, ?_, by rw [List.length_set, List.length_append, List.length_singleton], fun z hz => ?_⟩
      · rw [List.map_set]
        exact AtL.up (fun b xs e => by rw [upd_ne (ne_of e eo7 (by intro z; cases z))]; exact e) _ _ ((a6.but S6 B7).set au _)
      · rcases List.mem_or_eq_of_mem_set hz with h | h
        · exact b5 z h
        · rw [h]; exact b5 _ (List.getElem_mem hr8)
    · exact ⟨ps ++ [x], _, some (.int (0 + (ps.length : Nat))), rfl, B36, S6, eo6, a6, by rw [List.length_append, List.length_singleton], b5⟩
  · rintro σ H3 ⟨ps, us, y, rfl, B3, S3, eo3, a3, hl3, b3⟩
    refine ⟨_, rfl, o, us, rfl, .inl ⟨.inl (.inl eo3), fun p np => ?_⟩⟩
    exact q _ _ ps (B3.trans (But.new np)) (S3.up (Same.new np)) (At.tup upd_same (a3.same (Same.new np))) b3 (by omega)

def spStream (K : PySem.W.Frag) : Sp := fun vs H Q _ => ∃ (a : Addr) (ns : List Int), vs = [.ref a] ∧ SqL K H a (ns.map V.int) ∧ ns.length ≤ 63 ∧
  ∀ H' s c, Same H H' → Strm c H' s → Q (.ref s) H'
theorem ok_stream {f : Addr} {fd : FuncData} (F : FnP K "_law_stream" s_law_stream f fd) (B : Bi mg) : FnOk P w K mg base CX0 1 f fd ["_law_script"] (spStream K) := by
  refine F.ok sc_law_stream (fun vs H Q E h => ?_) (fun cdv A outer s H vs Q E hr h => ?_)
  · obtain ⟨a, ns, rfl, _⟩ := h
    rfl
  obtain ⟨a, ns, rfl, hS, hn, q⟩ := h
  refine ⟨_, PSs.nox (pss_one (ps_ret (pe_lst (pa_cons (pe_lc (own := [("_law_cell", 1)]) rfl sc_law_stream.nd (piL_ (K := K) rfl (pe_slice (slL_ (K := K) rfl) (pv 0) po_none (po_some pe_int))) (blkOk_by (N := ["_law_script", "_law_cell"]) (sc := defScope s_law_stream) (by decide +kernel)) (fun _ _ _ _ _ => (pg_name (i := 1) sc_law_stream.nd rfl (.inl rfl))) (fun _ _ _ _ _ => pts_nil) (fun _ _ _ _ _ => (pe_callB call_abs (by rfl) B.abs (by decide +kernel) (pa_cons (pv 1) pa_nil)))) (pa_cons pe_int (pa_cons pe_int (pa_cons (pe_op op_add pe_int (pe_callB (len_ (K := K) rfl) (by rfl) B.len PySem.boot_len (pa_cons (pv 0) pa_nil))) pa_nil))))))), ?_⟩
  refine ⟨_, rfl, 63, rfl, a, ns.map V.int, rfl, hS, fun p np => ?_⟩
  have ecut : cutV (ns.map V.int) none (some 63) = ns.map V.int := by
    unfold cutV
    rw [HT.sIx_none, show HT.sIx (ns.map V.int).length (ns.map V.int).length (some 63) = min 63 (ns.map V.int).length from HT.sIx_nat _ _ 63, List.length_map]
    rw [show min 63 ns.length = ns.length by omega]
    rw [List.drop_zero]
    exact List.take_of_length_le (by rw [List.length_map]; omega)
  rw [ecut]
  have s1 : Same H (upd H p (.lst (ns.map V.int))) := Same.new np
  refine ⟨p, rfl, ⟨_, .inl (.inl upd_same)⟩, fun D hD => ?_⟩
  have npD : p ≠ D := ne_of_none upd_same hD
  refine lc_list (xs := ns.map V.int) (fun i H3 => ∃ ms : List Int, ms.length = i ∧ H3 D = some (.lst (ms.map V.int)) ∧ (∀ x ∈ ms, 0 ≤ x) ∧ Same (upd H p (.lst (ns.map V.int))) H3) ?_ ?_ ?_ ?_
  · exact ⟨[], rfl, upd_same, fun x h => by (cases h), Same.new hD⟩
  · rintro i H3 hi ⟨ms, _, _, _, sm⟩
    exact .inl (.inl (sm p _ upd_same))
  · rintro i x H3 hx ⟨ms, rfl, hm, h0, sm⟩
    rw [List.getElem?_map] at hx
    cases hg : ns[ms.length]? with
    | none => rw [hg] at hx; cases hx
    | some z =>
      rw [hg] at hx
      cases hx
      have hlt : ms.length < ns.length := (List.getElem?_eq_some_iff.mp hg).1
      refine ⟨rfl, ?_⟩
      refine lcYes ?_
      refine ⟨_, rfl, z, rfl, ms.map V.int, hm, ?_, ms ++ [if z < 0 then -z else z], by rw [List.length_append, List.length_singleton], ?_, ?_, ?_⟩
      · rw [List.length_map]; exact szM (by omega)
      · rw [upd_same, List.map_append]; rfl
      · intro y hy
        rcases List.mem_append.mp hy with h | h
        · exact h0 y h
        · rw [List.mem_singleton.mp h]; split <;> omega
      · exact Same.own sm hD
  · rintro H3 ⟨ms, hl, hm, h0, sm⟩
    rw [List.length_map] at hl
    refine ⟨_, rfl, a, _, rfl, .inl (sm.seq (s1.seq hS)), _, _, rfl, rfl, sz4, fun s ns2 => ?_⟩
    refine q _ s D (s1.trans (sm.trans (Same.new ns2))) ⟨ms, 0, 0, 7917 + ((ns.map V.int).length : Int), upd_same, ?_, h0, by omega, by decide, by decide, by omega, by rw [List.length_map]; omega⟩
    rw [upd_ne (ne_of_none hm ns2)]; exact hm

def spAlike (k : Nat) : Sp := fun vs H Q _ => ∃ (d : D) (u v : V), vs = [u, v] ∧ Dep k d ∧ At H d u ∧ At H d v ∧ ∀ H', Same H H' → Q (.bl true) H'
theorem alike_step {f : Addr} {fd : FuncData} {k : Nat} {spR : Sp} (F : FnP K "_law_alike" s_law_alike f fd) (B : Bi mg) (c_law_alike : Cl P w K mg base k "_law_alike" ["_law_found", "_law_due"] spR)
    (hR : ∀ (d : D) (u v : V) (H : Hp) (Q : VK) (E : XK) (l : List D), Dep k (.t l) → d ∈ l → At H d u → At H d v → (∀ H', Same H H' → Q (.bl true) H') → spR [u, v] H Q E) : FnOk P w K mg base CX0 (k + 1) f fd ["_law_found", "_law_due"] (spAlike k) := by
  refine F.ok sc_law_alike (fun vs H Q E h => ?_) (fun cdv A outer s H vs Q E hr h => ?_)
  · obtain ⟨d, u, v, rfl, _⟩ := h
    rfl
  obtain ⟨d, u, v, rfl, hd, hu, hv, q⟩ := h
  refine ⟨_, PSs.nox (pss_cons (ps_if (pt_val (pe_callB (isi_ (K := K) rfl) (by rfl) B.isinstance (by decide +kernel) (pa_cons (pv 1) (pa_cons (pe_bltn (by rfl) B.tuple (by decide +kernel) (rel_ty "tuple")) pa_nil)))) (pss_cons (ps_if (PW.pt (pw_or (pt_not (pt_val (pe_callB (isi_ (K := K) rfl) (by rfl) B.isinstance (by decide +kernel) (pa_cons (pv 0) (pa_cons (pe_bltn (by rfl) B.tuple (by decide +kernel) (rel_ty "tuple")) pa_nil))))) (pw_or1 (pt_cmpR op_ne (pe_callB (len_ (K := K) rfl) (by rfl) B.len PySem.boot_len (pa_cons (pv 0) pa_nil)) (pe_callB (len_ (K := K) rfl) (by rfl) B.len PySem.boot_len (pa_cons (pv 1) pa_nil)) (nomark _))))) (pss_one (ps_ret pe_bl)) pss_nil)
    (pss_one (ps_ret (pe_cmpR (eqD_ (K := K) hr.units rfl) (pe_lc (own := [("_law_k", 2)]) rfl sc_law_alike.nd (pi_range1 (by rfl) B.range (pa_cons (pe_callB (len_ (K := K) rfl) (by rfl) B.len PySem.boot_len (pa_cons (pv 1) pa_nil)) pa_nil)) (blkOk_by (N := ["_law_found", "_law_due", "_law_k"]) (sc := defScope s_law_alike) (by decide +kernel)) (fun _ _ _ _ _ => (pg_name (i := 2) sc_law_alike.nd rfl (.inl rfl))) (fun _ _ _ _ _ => (pts_one (pt_not (pt_val (pe_cl c_law_alike hr (by rfl) (pa_cons (pe_ix (ixT_ (K := K) rfl) (pv 0) (pv 2) (fun _ _ => rfl)) (pa_cons (pe_ix (ixT_ (K := K) rfl) (pv 1) (pv 2) (fun _ _ => rfl)) pa_nil))))))) (fun _ _ _ _ _ => (pv 2))) (pe_lst pa_nil) (nomark _))))) pss_nil)
    (pss_cons (ps_if (pt_cmpR op_isN (pv 1) pe_non (nomark _)) (pss_one (ps_ret (pe_cmpR op_isN (pv 0) pe_non (nomark _)))) pss_nil)
    (pss_cons (ps_if (pt_val (pe_callB (isi_ (K := K) rfl) (by rfl) B.isinstance (by decide +kernel) (pa_cons (pv 1) (pa_cons (pe_bltn (by rfl) B.bool (by decide +kernel) (rel_ty "bool")) pa_nil)))) (pss_one (ps_ret (pe_and (pe_callB (isi_ (K := K) rfl) (by rfl) B.isinstance (by decide +kernel) (pa_cons (pv 0) (pa_cons (pe_bltn (by rfl) B.bool (by decide +kernel) (rel_ty "bool")) pa_nil))) (pe_one (pe_cmpR op_eq (pv 0) (pv 1) (nomark _)))))) pss_nil)
    (pss_cons (ps_if (pt_val (pe_callB (isi_ (K := K) rfl) (by rfl) B.isinstance (by decide +kernel) (pa_cons (pv 1) (pa_cons (pe_bltn (by rfl) B.str (by decide +kernel) (rel_ty "str")) pa_nil)))) (pss_one (ps_ret (pe_and (pe_callB (isi_ (K := K) rfl) (by rfl) B.isinstance (by decide +kernel) (pa_cons (pv 0) (pa_cons (pe_bltn (by rfl) B.str (by decide +kernel) (rel_ty "str")) pa_nil))) (pe_one (pe_cmpR op_eq (pv 0) (pv 1) (nomark _)))))) pss_nil)
    (pss_one (ps_ret (pe_and (pe_callB (isi_ (K := K) rfl) (by rfl) B.isinstance (by decide +kernel) (pa_cons (pv 0) (pa_cons (pe_bltn (by rfl) B.int (by decide +kernel) (rel_ty "int")) pa_nil))) (pe_and (pe_not (pe_callB (isi_ (K := K) rfl) (by rfl) B.isinstance (by decide +kernel) (pa_cons (pv 0) (pa_cons (pe_bltn (by rfl) B.bool (by decide +kernel) (rel_ty "bool")) pa_nil)))) (pe_one (pe_cmpR op_eq (pv 0) (pv 1) (nomark _))))))))))), ?_⟩
  cases d with
  | t l =>
    obtain ⟨a, us, rfl, ha, au⟩ := hu.inv
    obtain ⟨b, vs, rfl, hb, bv⟩ := hv.inv
    have hk : ∃ j, k = j + 1 := by
      cases k with
      | zero => exact hd.elim
      | succ j => exact ⟨j, rfl⟩
    obtain ⟨j, rfl⟩ := hk
    have hll : l.length ≤ 1000000 := hd.1
    refine ⟨_, rfl, _, _, _, _, _, rfl, ClsV.ty _, TyX.base (TyOf.tup hb), kit_ty (b := "tuple") (r := true) (by decide +kernel), _, rfl, iteT ?_⟩
    refine ⟨_, rfl, _, _, _, _, _, rfl, ClsV.ty _, TyX.base (TyOf.tup ha), kit_ty (b := "tuple") (r := true) (by decide +kernel), _, rfl, iteF ?_⟩
    refine ⟨_, rfl, a, us, rfl, .inr (.inl (.inl ha)), _, rfl, b, vs, rfl, .inr (.inl (.inl hb)), rfl, _, rfl, ?_⟩
    refine iteNS (by rw [au.length, bv.length]) ?_
    refine ⟨_, rfl, b, vs, rfl, .inr (.inl (.inl hb)), _, rfl, by omega, by rw [bv.length]; omega, fun D hD => ?_⟩
    refine lc_range (lo := 0) (n := vs.length) (fun i H3 => Same H H3 ∧ H3 D = some (.lst [])) ⟨Same.new hD, upd_same⟩ ?_ ?_
    · rintro i H3 hi ⟨sm, eD⟩
      have hil : i < l.length := by rw [← bv.length]; exact hi
      have gl : l[i]? = some l[i] := List.getElem?_eq_getElem hil
      obtain ⟨x, gx, ax⟩ := au.get gl
      obtain ⟨y, gy, ay⟩ := bv.get gl
      refine ⟨rfl, ?_⟩
      refine ⟨_, rfl, _, rfl, a, us, _, x, rfl, rfl, .inl (.inl (sm _ _ ha)), at_of (by omega) gx, _, rfl, _, rfl, b, vs, _, y, rfl, rfl, .inl (.inl (sm _ _ hb)), at_of (by omega) gy, ?_⟩
      refine hR l[i] x y H3 _ _ l hd (List.getElem_mem hil) (ax.same sm) (ay.same sm) fun H4 sm4 => ?_
      exact ⟨_, rfl, iteF ⟨sm.trans sm4, sm4 _ _ eD⟩⟩
    · rintro H3 ⟨sm, eD⟩
      refine ⟨Nat.zero_le _, fun p np => ?_⟩
      refine ⟨.list [], .list [], .lst (.inl (.inl (Same.new np _ _ eD))) .nil, .lst (.inl (.inl upd_same)) .nil, rfl, rfl, ?_⟩
      exact q _ (sm.trans (Same.new np))
  | n =>
    unfold At at hu hv
    subst hu hv
    refine ⟨_, rfl, _, _, _, _, _, rfl, ClsV.ty _, TyX.base .non, kit_ty (b := "tuple") (r := false) (by decide +kernel), _, rfl, iteF ?_⟩
    refine ⟨_, rfl, rfl, _, rfl, iteT ?_⟩
    exact ⟨_, rfl, rfl, q _ (Same.refl _)⟩
  | b x =>
    unfold At at hu hv
    subst hu hv
    refine ⟨_, rfl, _, _, _, _, _, rfl, ClsV.ty _, TyX.base (.bl x), kit_ty (b := "tuple") (r := false) (by decide +kernel), _, rfl, iteF ?_⟩
    refine ⟨_, rfl, rfl, _, rfl, iteF ?_⟩
    refine ⟨_, rfl, _, _, _, _, _, rfl, ClsV.ty _, TyX.base (.bl x), kit_ty (b := "bool") (r := true) (by decide +kernel), _, rfl, iteT ?_⟩
    refine ⟨_, rfl, _, _, _, _, _, rfl, ClsV.ty _, TyX.base (.bl x), kit_ty (b := "bool") (r := true) (by decide +kernel), _, rfl, iteT ?_⟩
    refine ⟨_, rfl, _, rfl, rfl, ?_⟩
    rw [decide_eq_true rfl]
    exact q _ (Same.refl _)
  | s x =>
    unfold At at hu hv
    subst hu hv
    refine ⟨_, rfl, _, _, _, _, _, rfl, ClsV.ty _, TyX.base (.str x), kit_ty (b := "tuple") (r := false) (by decide +kernel), _, rfl, iteF ?_⟩
    refine ⟨_, rfl, rfl, _, rfl, iteF ?_⟩
    refine ⟨_, rfl, _, _, _, _, _, rfl, ClsV.ty _, TyX.base (.str x), kit_ty (b := "bool") (r := false) (by decide +kernel), _, rfl, iteF ?_⟩
    refine ⟨_, rfl, _, _, _, _, _, rfl, ClsV.ty _, TyX.base (.str x), kit_ty (b := "str") (r := true) (by decide +kernel), _, rfl, iteT ?_⟩
    refine ⟨_, rfl, _, _, _, _, _, rfl, ClsV.ty _, TyX.base (.str x), kit_ty (b := "str") (r := true) (by decide +kernel), _, rfl, iteT ?_⟩
    refine ⟨_, rfl, _, rfl, rfl, ?_⟩
    rw [decide_eq_true rfl]
    exact q _ (Same.refl _)
  | i x =>
    unfold At at hu hv
    subst hu hv
    refine ⟨_, rfl, _, _, _, _, _, rfl, ClsV.ty _, TyX.base (.int x), kit_ty (b := "tuple") (r := false) (by decide +kernel), _, rfl, iteF ?_⟩
    refine ⟨_, rfl, rfl, _, rfl, iteF ?_⟩
    refine ⟨_, rfl, _, _, _, _, _, rfl, ClsV.ty _, TyX.base (.int x), kit_ty (b := "bool") (r := false) (by decide +kernel), _, rfl, iteF ?_⟩
    refine ⟨_, rfl, _, _, _, _, _, rfl, ClsV.ty _, TyX.base (.int x), kit_ty (b := "str") (r := false) (by decide +kernel), _, rfl, iteF ?_⟩
    refine ⟨_, rfl, _, _, _, _, _, rfl, ClsV.ty _, TyX.base (.int x), kit_ty (b := "int") (r := true) (by decide +kernel), _, rfl, iteT ?_⟩
    refine ⟨_, rfl, _, _, _, _, _, rfl, ClsV.ty _, TyX.base (.int x), kit_ty (b := "bool") (r := false) (by decide +kernel), _, rfl, _, rfl, iteT ?_⟩
    refine ⟨_, rfl, _, rfl, rfl, ?_⟩
    rw [decide_eq_true rfl]
    exact q _ (Same.refl _)
theorem ok_alike {f : Addr} {fd : FuncData} (F : FnP K "_law_alike" s_law_alike f fd) (B : Bi mg) (hm : mg "_law_alike" = some (.ref f)) : ∀ k, FnOk P w K mg base CX0 (k + 1) f fd ["_law_found", "_law_due"] (spAlike k)
  | 0 => by
    have b : Binds K fd ["_law_found", "_law_due"] [] := FunD.bindsN F fun _ _ _ _ _ _ us hl => match us, hl with | [_, _], _ => rfl
    exact alike_step (spR := fun _ _ _ _ => False) F B ⟨f, fd, hm, F.kp, b, ⟨fun _ _ _ _ h => h.elim, fun _ _ _ _ _ _ _ _ _ _ _ _ _ h => h.elim⟩⟩ fun d u v H Q E l h => h.elim
  | k + 1 => by
    have b : Binds K fd ["_law_found", "_law_due"] [] := FunD.bindsN F fun _ _ _ _ _ _ us hl => match us, hl with | [_, _], _ => rfl
    exact alike_step (spR := spAlike k) F B ⟨f, fd, hm, F.kp, b, ok_alike F B hm k⟩ fun d u v H Q E l h hd a1 a2 q => ⟨d, u, v, rfl, h.2 d hd, a1, a2, q⟩

theorem jn_gt {x y : Int × Int} (h : y.1 > x.2) : (x.1 + (y.1 - x.2), y.2) = jn x y := by
  unfold jn
  rw [if_pos (by omega), if_neg (by omega), Int.add_zero]
theorem jn_le {x y : Int × Int} (h : ¬ y.1 > x.2) : (x.1, x.2 + (y.2 - y.1)) = jn x y := by
  unfold jn
  rw [if_neg (by omega), Int.add_zero]
  refine congrArg (fun z => (x.1, z)) ?_
  split <;> omega
def spWhole : Sp := fun vs H Q _ => ∃ (v : V) (ps : List (Int × Int)), vs = [v] ∧ At H (dR ps) v ∧ ∀ H' u, Same H H' → At H' (dP (ps.foldl jn (0, 0))) u → Q u H'
theorem ok_whole {f : Addr} {fd : FuncData} {k : Nat} (F : FnP K "whole" s_whole f fd) (B : Bi mg) : FnOk P w K mg base CX0 (k + 2) f fd ["row"] spWhole := by
  refine F.ok sc_whole (fun vs H Q E h => ?_) (fun cdv A outer s H vs Q E hr h => ?_)
  · obtain ⟨v, ps, rfl, _⟩ := h
    rfl
  obtain ⟨v, ps, rfl, hv, q⟩ := h
  obtain ⟨a, us, rfl, ha, au⟩ := hv.inv
  have hul : us.length = ps.length := by rw [au.length, List.length_map]
  refine ⟨_, PSs.nox (pss_cons (ps_set (i := 1) sc_whole.nd rfl (.inl rfl) pe_int)
    (pss_cons (ps_set (i := 2) sc_whole.nd rfl (.inl rfl) pe_int)
    (pss_cons (ps_for PassesOwn.never rfl (piT_ (K := K) rfl (pv 0)) (pgT_ (K := K) (n := 2) rfl rfl (pgs_cons (pg_name (i := 3) sc_whole.nd rfl (.inl rfl)) (pgs_cons (pg_name (i := 4) sc_whole.nd rfl (.inl rfl)) pgs_nil)))
      (pss_one (ps_if (pt_cmpR op_gt (pv 3) (pv 2) (nomark _)) (pss_cons (ps_aug (i := 1) sc_whole.nd rfl (.inl rfl) (pe_op op_sub (pv 3) (pv 2)) ip_add)
    (pss_one (ps_set (i := 2) sc_whole.nd rfl (.inl rfl) (pv 4)))) (pss_one (ps_aug (i := 2) sc_whole.nd rfl (.inl rfl) (pe_op op_sub (pv 4) (pv 3)) ip_add)))))
    (pss_one (ps_ret (pe_tup (pa_cons (pv 1) (pa_cons (pv 2) pa_nil)))))))), ?_⟩
  refine ⟨_, rfl, a, rfl, ⟨us, .inl (.inl ha)⟩, ?_⟩
  refine for_tup (xs := us) (fun i σ H3 => Same H H3 ∧ ∃ m y z, m = (ps.take i).foldl jn (0, 0) ∧ σ = [some (.ref a), some (.int m.1), some (.int m.2), y, z]) ⟨fun _ _ h => h, _, none, none, rfl, rfl⟩ ?_ ?_ ?_
  · rintro i σ H3 hi ⟨sm, _⟩
    exact .inl (.inl (sm _ _ ha))
  · rintro i x σ H3 hx ⟨sm, m, y, z, em, rfl⟩
    obtain ⟨d, hd, ad⟩ := au.get' hx
    rw [List.getElem?_map] at hd
    cases hp : ps[i]? with
    | none => rw [hp] at hd; cases hd
    | some r =>
      rw [hp] at hd
      cases hd
      obtain ⟨t, rfl, ht⟩ := (ad.same sm).pair
      refine ⟨t, _, rfl, .inl (.inl ht), rfl, _, _, rfl, _, _, rfl, rfl, ?_⟩
      refine ⟨_, rfl, _, rfl, _, _, rfl, rfl, _, rfl, ite2 (fun e => ?_) (fun e => ?_)⟩
      · have e1 : r.1 > m.2 := of_decide_eq_true e
        refine ⟨_, rfl, _, rfl, _, rfl, _, _, rfl, rfl, _, _, rfl, rfl, _, rfl, sm, jn m r, some (.int r.1), some (.int r.2), ?_, ?_⟩
        · rw [em, foldl_take hp]
        · rw [← jn_gt e1]
          rfl
      · have e1 : ¬ r.1 > m.2 := fun z => e (decide_eq_true z)
        refine ⟨_, rfl, _, rfl, _, rfl, _, _, rfl, rfl, _, _, rfl, rfl, sm, jn m r, some (.int r.1), some (.int r.2), ?_, ?_⟩
        · rw [em, foldl_take hp]
        · rw [← jn_le e1]
          rfl
  · rintro σ H3 ⟨sm, m, y, z, em, rfl⟩
    rw [List.take_of_length_le (by omega)] at em
    refine ⟨_, rfl, _, rfl, sz2, fun p np => ?_⟩
    exact q _ _ (sm.trans (Same.new np)) (by rw [← em]; exact At.mkPair upd_same)

def spTurnedRow : Sp := fun vs H Q _ => ∃ (v : V) (ps : List (Int × Int)), vs = [v] ∧ At H (dR ps) v ∧ ps.length ≤ 100000 ∧ ∀ H' u, Same H H' → At H' (dR (trn ps)) u → Q u H'
theorem ok_turned_row {f : Addr} {fd : FuncData} {k : Nat} (F : FnP K "turned_row" s_turned_row f fd) (B : Bi mg) : FnOk P w K mg base CX0 (k + 1) f fd ["row"] spTurnedRow := by
  refine F.ok sc_turned_row (fun vs H Q E h => ?_) (fun cdv A outer s H vs Q E hr h => ?_)
  · obtain ⟨v, ps, rfl, _⟩ := h
    rfl
  obtain ⟨v, ps, rfl, hv, hl, q⟩ := h
  obtain ⟨a, us, rfl, ha, au⟩ := hv.inv
  have hul : us.length = ps.length := by rw [au.length, List.length_map]
  refine ⟨_, PSs.nox (pss_one (ps_ret (pe_callTy (tuple_ (K := K) rfl) (by rfl) B.tuple (by decide +kernel) (pa_cons (pe_lc (own := [("need", 1), ("leave", 2)]) rfl sc_turned_row.nd (piT_ (K := K) rfl (pe_revT_ (K := K) rfl (pv 0))) (blkOk_by (N := ["row", "need", "leave"]) (sc := defScope s_turned_row) (by decide +kernel)) (fun _ _ _ _ _ => (pgT_ (K := K) (n := 2) rfl rfl (pgs_cons (pg_name (i := 1) sc_turned_row.nd rfl (.inl rfl)) (pgs_cons (pg_name (i := 2) sc_turned_row.nd rfl (.inl rfl)) pgs_nil)))) (fun _ _ _ _ _ => pts_nil) (fun _ _ _ _ _ => (pe_tup (pa_cons (pv 2) (pa_cons (pv 1) pa_nil))))) pa_nil)))), ?_⟩
  refine ⟨_, rfl, a, us, rfl, .inl (.inl ha), fun p np => ?_⟩
  have s1 := Same.new (o := .tup us.reverse) np
  refine ⟨p, rfl, ⟨_, .inl (.inl upd_same)⟩, fun D hD => ?_⟩
  have npD : p ≠ D := ne_of_none upd_same hD
  refine lc_tup (xs := us.reverse) (fun i H3 => ∃ vs, Same (upd H p (.tup us.reverse)) H3 ∧ H3 D = some (.lst vs) ∧ AtL H3 ((trn ps).take i |>.map dP) vs) ⟨[], Same.new hD, upd_same, AtL.nil⟩ ?_ ?_ ?_
  · rintro i H3 hi ⟨vs, sm, _⟩
    exact .inl (.inl (sm _ _ upd_same))
  · rintro i x H3 hx ⟨vs, sm, eD, av⟩
    have hi : i < us.length := by
      have := (List.getElem?_eq_some_iff.mp hx).1
      rw [List.length_reverse] at this
      exact this
    rw [List.getElem?_reverse hi] at hx
    obtain ⟨d, hd, ad⟩ := au.get' hx
    rw [hul, List.getElem?_map, getD_get (by omega)] at hd
    cases hd
    generalize hr0 : ps.getD (ps.length - 1 - i) (0, 0) = r at ad
    obtain ⟨t, rfl, ht⟩ := ((ad.same s1).same sm).pair
    refine ⟨t, _, rfl, .inl (.inl ht), rfl, _, _, rfl, _, _, rfl, rfl, ?_⟩
    refine ⟨rfl, lcYes ?_⟩
    refine ⟨_, rfl, _, rfl, sz2, fun p2 np2 => ?_⟩
    have nD : D ≠ p2 := ne_of_none eD np2
    have s2 := Same.new (o := .tup [V.int r.2, V.int r.1]) np2
    refine ⟨vs, s2 _ _ eD, szM (by rw [av.length, List.length_map, List.length_take, trn_len]; omega), vs ++ [.ref p2], ?_, upd_same, ?_⟩
    · exact Same.own (sm.trans s2) hD
    · have T : Tups (upd H3 p2 (.tup [V.int r.2, V.int r.1])) (upd (upd H3 p2 (.tup [V.int r.2, V.int r.1])) D (.lst (vs ++ [.ref p2]))) := fun b xs e => by
        rw [upd_ne (ne_of e (s2 _ _ eD) (by intro z; cases z))]; exact e
      rw [List.take_add_one, trn_get (by omega), hr0, List.map_append]
      exact AtL.append (AtL.up T _ _ (av.same s2)) (AtL.cons (At.up T _ _ (At.mkPair upd_same)) AtL.nil)
  · rintro H3 ⟨vs, sm, eD, av⟩
    rw [List.take_of_length_le (by rw [trn_len, List.length_reverse]; omega)] at av
    refine ⟨D, vs, rfl, .inl ⟨.inl (.inl eD), fun l nl => ?_⟩⟩
    exact q _ _ (s1.trans (sm.trans (Same.new nl))) (At.tup upd_same (av.same (Same.new nl)))

def spHeights : Sp := fun vs H Q _ => ∃ (v : V) (ps : List (Int × Int)), vs = [v] ∧ At H (dR ps) v ∧ ps.length ≤ 100000 ∧ ∀ H' u, Same H H' → At H' (.t ((hts ps).map D.i)) u → Q u H'
theorem ok_heights {f : Addr} {fd : FuncData} {k : Nat} (F : FnP K "heights" s_heights f fd) (B : Bi mg) : FnOk P w K mg base CX0 (k + 1) f fd ["row"] spHeights := by
  refine F.ok sc_heights (fun vs H Q E h => ?_) (fun cdv A outer s H vs Q E hr h => ?_)
  · obtain ⟨v, ps, rfl, _⟩ := h
    rfl
  obtain ⟨v, ps, rfl, hv, hl, q⟩ := h
  obtain ⟨a, us, rfl, ha, au⟩ := hv.inv
  have hul : us.length = ps.length := by rw [au.length, List.length_map]
  refine ⟨_, PSs.nox (pss_cons (ps_set (i := 1) sc_heights.nd rfl (.inl rfl) pe_int)
    (pss_cons (ps_set (i := 2) sc_heights.nd rfl (.inl rfl) (pe_lst (pa_cons (pv 1) pa_nil)))
    (pss_cons (ps_for PassesOwn.never rfl (piT_ (K := K) rfl (pv 0)) (pgT_ (K := K) (n := 2) rfl rfl (pgs_cons (pg_name (i := 3) sc_heights.nd rfl (.inl rfl)) (pgs_cons (pg_name (i := 4) sc_heights.nd rfl (.inl rfl)) pgs_nil)))
      (pss_cons (ps_aug (i := 1) sc_heights.nd rfl (.inl rfl) (pe_op op_sub (pv 4) (pv 3)) ip_add)
    (pss_one (ps_expr (pe_bm PySem.F.plainAttrs_list PySem.F.slot_list_append PySem.F.type_list_append mt_append (pv 2) (pa_cons (pv 1) pa_nil))))))
    (pss_one (ps_ret (pe_callTy (tuple_ (K := K) rfl) (by rfl) B.tuple (by decide +kernel) (pa_cons (pv 2) pa_nil))))))), ?_⟩
  refine ⟨_, rfl, sz1, fun o no => ?_⟩
  have s1 := Same.new (o := .lst [V.int 0]) no
  refine ⟨_, rfl, a, rfl, ⟨us, .inl (.inl (s1 _ _ ha))⟩, ?_⟩
  refine for_tup (xs := us) (fun i σ H3 => Same H H3 ∧ H3 o = some (.lst (((List.range (i + 1)).map fun k => gn (ps.take k)).map V.int)) ∧ ∃ y z, σ = [some (.ref a), some (.int (gn (ps.take i))), some (.ref o), y, z]) ⟨s1, upd_same, none, none, rfl⟩ ?_ ?_ ?_
  · rintro i σ H3 hi ⟨sm, _⟩
    exact .inl (.inl (sm _ _ ha))
  · rintro i x σ H3 hx ⟨sm, eo, y, z, rfl⟩
    obtain ⟨d, hd, ad⟩ := au.get' hx
    rw [List.getElem?_map] at hd
    cases hp : ps[i]? with
    | none => rw [hp] at hd; cases hd
    | some r =>
      rw [hp] at hd
      cases hd
      have hil : i < ps.length := (List.getElem?_eq_some_iff.mp hp).1
      obtain ⟨t, rfl, ht⟩ := (ad.same sm).pair
      refine ⟨t, _, rfl, .inl (.inl ht), rfl, _, _, rfl, _, _, rfl, rfl, ?_⟩
      refine ⟨_, rfl, _, rfl, _, rfl, _, _, rfl, rfl, _, _, rfl, rfl, ?_⟩
      refine ⟨_, rfl, .inl ⟨rfl, _, .inl (.inl eo)⟩, _, rfl, o, _, _, rfl, rfl, eo, ?_, ?_⟩
      · rw [List.length_map, List.length_map, List.length_range]
        exact szM (by omega)
      · refine ⟨Same.own sm no, ?_, some (.int r.1), some (.int r.2), ?_⟩
        · rw [upd_same, map_range_succ _ (i + 1), List.map_append]
          congr 3
          show [V.int (gn (ps.take i) + (r.2 - r.1))] = [V.int (gn (ps.take (i + 1)))]
          rw [gn_take hp]
        · rw [gn_take hp]
          rfl
  · rintro σ H3 ⟨sm, eo, y, z, rfl⟩
    refine ⟨_, rfl, o, _, rfl, .inl ⟨.inl (.inl eo), fun l nl => ?_⟩⟩
    rw [hul]
    exact q _ _ (sm.trans (Same.new nl)) (At.tup upd_same (at_ints _))

def spDips : Sp := fun vs H Q _ => ∃ (v : V) (ps : List (Int × Int)), vs = [v] ∧ At H (dR ps) v ∧ ps.length ≤ 100000 ∧ ∀ H' u, Same H H' → At H' (.t ((dps ps).map D.i)) u → Q u H'
theorem ok_dips {f : Addr} {fd : FuncData} {k : Nat} (F : FnP K "dips" s_dips f fd) (B : Bi mg) (cheights : Cl P w K mg base (k + 1) "heights" ["row"] spHeights) : FnOk P w K mg base CX0 (k + 2) f fd ["row"] spDips := by
  refine F.ok sc_dips (fun vs H Q E h => ?_) (fun cdv A outer s H vs Q E hr h => ?_)
  · obtain ⟨v, ps, rfl, _⟩ := h
    rfl
  obtain ⟨v, ps, rfl, hv, hl, q⟩ := h
  refine ⟨_, PSs.nox (pss_one (ps_ret (pe_callTy (tuple_ (K := K) rfl) (by rfl) B.tuple (by decide +kernel) (pa_cons (pe_lc (own := [("height", 1), ("pair", 2)]) rfl sc_dips.nd (RZ.pi_zipA (by rfl) B.zip (pa_cons (pe_cl cheights hr (by rfl) (pa_cons (pv 0) pa_nil)) (pa_cons (pv 0) pa_nil))) (blkOk_by (N := ["row", "height", "pair"]) (sc := defScope s_dips) (by decide +kernel)) (fun _ _ _ _ _ => (pgT_ (K := K) (n := 2) rfl rfl (pgs_cons (pg_name (i := 1) sc_dips.nd rfl (.inl rfl)) (pgs_cons (pg_name (i := 2) sc_dips.nd rfl (.inl rfl)) pgs_nil)))) (fun _ _ _ _ _ => pts_nil) (fun _ _ _ _ _ => (pe_op op_sub (pv 1) (pe_ix (ixT_ (K := K) rfl) (pv 2) pe_int (fun _ _ => rfl))))) pa_nil)))), ?_⟩
  refine ⟨_, rfl, v, ps, rfl, hv, hl, fun H1 u sm1 a1 => ?_⟩
  obtain ⟨a, us, rfl, ha, au⟩ := (hv.same sm1).inv
  obtain ⟨b, hs, rfl, hb, bu⟩ := a1.inv
  have hul : us.length = ps.length := by rw [au.length, List.length_map]
  have hhl : hs.length = ps.length + 1 := by rw [bu.length, List.length_map, hts_len]
  refine ⟨_, rfl, b, a, hs, us, rfl, .inr ⟨.inl (.inl hb), .inl (.inl ha), fun D hD => ?_⟩⟩
  refine lc_it (walk_zipT (xs := hs) (ys := us) (n := ps.length) (by omega)) (fun i H3 => Same H1 H3 ∧ H3 D = some (.lst (((List.range i).map (dpA ps)).map V.int))) ⟨Same.new hD, upd_same⟩ ?_ ?_ ?_
  · rintro i H3 hi ⟨sm, _⟩
    exact ⟨.inl (.inl (sm _ _ hb)), .inl (.inl (sm _ _ ha))⟩
  · rintro i x H3 H4 hi ⟨sm, eD⟩ ⟨T, x1, x2, rfl, nT, rfl, g1, g2⟩
    obtain ⟨d1, hd1, ad1⟩ := bu.get' g1
    obtain ⟨d2, hd2, ad2⟩ := au.get' g2
    rw [List.getElem?_map, hts_get (by omega)] at hd1
    cases hd1
    rw [List.getElem?_map, getD_get hi] at hd2
    cases hd2
    have e1 := ad1.iv
    subst e1
    have s2 := Same.new (o := .tup [V.int (gn (ps.take i)), x2]) nT
    obtain ⟨t, rfl, ht⟩ := ((ad2.same sm).same s2).pair
    refine ⟨T, _, rfl, .inl (.inl upd_same), rfl, _, _, rfl, _, _, rfl, rfl, ?_⟩
    refine ⟨rfl, lcYes ?_⟩
    refine ⟨_, rfl, _, rfl, t, _, 0, _, rfl, rfl, .inl (.inl ht), rfl, _, _, rfl, rfl, _, s2 _ _ eD, ?_, ?_, ?_⟩
    · rw [List.length_map, List.length_map, List.length_range]
      exact szM (by omega)
    · exact Same.own (sm.trans s2) hD
    · rw [upd_same, map_range_succ, List.map_append]
      rfl
  · rintro H3 ⟨sm, eD⟩
    refine ⟨D, _, rfl, .inl ⟨.inl (.inl eD), fun l nl => ?_⟩⟩
    exact q _ _ (sm1.trans (sm.trans (Same.new nl))) (At.tup upd_same (at_ints _))

theorem ok_law {f : Addr} {fd : FuncData} (F : FnP K "law" s_law f fd) (B : Bi mg)
    (c_law_stream : Cl P w K mg base 1 "_law_stream" ["_law_script"] (spStream K)) (c_law_row : Cl P w K mg base 4 "_law_row" ["_law_stream_here", "_law_most"] spRow)
    (c_law_alike : Cl P w K mg base 2 "_law_alike" ["_law_found", "_law_due"] (spAlike 1)) (cwhole : Cl P w K mg base 2 "whole" ["row"] spWhole) (cturned_row : Cl P w K mg base 1 "turned_row" ["row"] spTurnedRow)
    (cheights : Cl P w K mg base 1 "heights" ["row"] spHeights) (cdips : Cl P w K mg base 2 "dips" ["row"] spDips) :
    FnOk P w K mg base CX0 5 f fd ["_law_script"] (spLaw K) := by
  refine F.ok sc_law (fun vs H Q E h => ?_) (fun cdv A outer s H vs Q E hr h => ?_)
  · obtain ⟨a, ns, rfl, _⟩ := h
    rfl
  obtain ⟨a, ns, rfl, hS, hn, q⟩ := h
  refine ⟨_, PSs.nox (pss_cons (ps_set (i := 1) sc_law.nd rfl (.inl rfl) (pe_cl c_law_stream (hr.mono (by decide)) (by rfl) (pa_cons (pv 0) pa_nil)))
    (pss_cons (ps_for PassesOwn.never rfl (pi_range1 (by rfl) B.range (pa_cons pe_int pa_nil)) (pg_name (i := 2) sc_law.nd rfl (.inl rfl))
      (pss_cons (ps_set (i := 3) sc_law.nd rfl (.inr rfl) (pe_cl c_law_row (hr.mono (by decide)) (by rfl) (pa_cons (pv 1) (pa_cons pe_int pa_nil))))
    (pss_cons (ps_set (i := 4) sc_law.nd rfl (.inr rfl) (pe_lc (own := [("_law_k", 7)]) rfl sc_law.nd (pi_range1 (by rfl) B.range (pa_cons (pe_op op_add (pe_callB (len_ (K := K) rfl) (by rfl) B.len PySem.boot_len (pa_cons (pv 3) pa_nil)) pe_int) pa_nil)) (blkOk_by (N := ["_law_script", "_law_stream_here", "_law_turn", "_law_row_here", "_law_high", "_law_need", "_law_leave", "_law_k", "_law_deep", "_law_dip", "_law_back"]) (sc := defScope s_law) (by decide +kernel)) (fun _ _ _ _ _ => (pg_name (i := 7) sc_law.nd rfl (.inl rfl))) (fun _ _ _ _ _ => pts_nil) (fun _ _ _ _ _ => (pe_callB (sum_ (K := K) rfl rfl) (by rfl) B.sum (by decide +kernel) (pa_cons (pe_lc (own := [("_law_need", 5), ("_law_leave", 6)]) rfl sc_law.nd (piT_ (K := K) rfl (pe_slice (slT_ (K := K) rfl) (pv 3) po_none (po_some (pv 7)))) (blkOk_by (by kernel_rfl)) (fun _ _ _ _ _ => (pgT_ (K := K) (n := 2) rfl rfl (pgs_cons (pg_name (i := 5) sc_law.nd rfl (.inl rfl)) (pgs_cons (pg_name (i := 6) sc_law.nd rfl (.inl rfl)) pgs_nil)))) (fun _ _ _ _ _ => pts_nil) (fun _ _ _ _ _ => (pe_op op_sub (pv 6) (pv 5)))) pa_nil)))))
    (pss_cons (ps_setLc (i := 8) (own := [("_law_k", 7)]) rfl sc_law.nd rfl rfl (sw_true rfl rfl rfl (by decide +kernel)) (pi_range1 (by rfl) B.range (pa_cons (pe_callB (len_ (K := K) rfl) (by rfl) B.len PySem.boot_len (pa_cons (pv 3) pa_nil)) pa_nil)) (blkOk_by (N := ["_law_script", "_law_stream_here", "_law_turn", "_law_row_here", "_law_high", "_law_need", "_law_leave", "_law_k", "_law_deep", "_law_dip", "_law_back"]) (sc := defScope s_law) (by decide +kernel)) (fun _ _ _ _ _ => (pg_name (i := 7) sc_law.nd rfl (.inl rfl))) (fun _ _ _ _ _ => pts_nil) (fun _ _ _ _ _ => (pe_op op_sub (pe_ix (ixL_ (K := K) rfl) (pv 4) (pv 7) (fun _ _ => rfl)) (pe_ix (ixT_ (K := K) rfl) (pe_ix (ixT_ (K := K) rfl) (pv 3) (pv 7) (fun _ _ => rfl)) pe_int (fun _ _ => rfl)))))
    (pss_cons (ps_if (PW.pt (pw_or (pt_not (pt_val (pe_cl c_law_alike (hr.mono (by decide)) (by rfl) (pa_cons (pe_cl cheights (hr.mono (by decide)) (by rfl) (pa_cons (pv 3) pa_nil)) (pa_cons (pe_callTy (tuple_ (K := K) rfl) (by rfl) B.tuple (by decide +kernel) (pa_cons (pv 4) pa_nil)) pa_nil))))) (pw_or1 (pt_not (pt_val (pe_cl c_law_alike (hr.mono (by decide)) (by rfl) (pa_cons (pe_cl cdips (hr.mono (by decide)) (by rfl) (pa_cons (pv 3) pa_nil)) (pa_cons (pe_callTy (tuple_ (K := K) rfl) (by rfl) B.tuple (by decide +kernel) (pa_cons (pv 8) pa_nil)) pa_nil)))))))) (pss_one (ps_ret pe_bl)) pss_nil)
    (pss_cons (ps_if (pt_cmpR op_ne (pe_ix (ixT_ (K := K) rfl) (pe_cl cwhole (hr.mono (by decide)) (by rfl) (pa_cons (pv 3) pa_nil)) pe_int (fun _ _ => rfl)) (pe_callB (max_ (K := K) rfl rfl) (by rfl) B.max (by decide +kernel) (pa_cons (pe_op op_cat (pe_lst (pa_cons pe_int pa_nil)) (pe_lc (own := [("_law_dip", 9)]) rfl sc_law.nd (piL_ (K := K) rfl (pv 8)) (blkOk_by (N := ["_law_script", "_law_stream_here", "_law_turn", "_law_row_here", "_law_high", "_law_need", "_law_leave", "_law_k", "_law_deep", "_law_dip", "_law_back"]) (sc := defScope s_law) (by decide +kernel)) (fun _ _ _ _ _ => (pg_name (i := 9) sc_law.nd rfl (.inl rfl))) (fun _ _ _ _ _ => pts_nil) (fun _ _ _ _ _ => (pe_op op_sub pe_int (pv 9))))) pa_nil)) (nomark _)) (pss_one (ps_ret pe_bl)) pss_nil)
    (pss_cons (ps_set (i := 10) sc_law.nd rfl (.inl rfl) (pe_callTy (tuple_ (K := K) rfl) (by rfl) B.tuple (by decide +kernel) (pa_cons (pe_lc (own := [("_law_dip", 9)]) rfl sc_law.nd (piL_ (K := K) rfl (pe_revL_ (K := K) rfl (pv 8))) (blkOk_by (N := ["_law_script", "_law_stream_here", "_law_turn", "_law_row_here", "_law_high", "_law_need", "_law_leave", "_law_k", "_law_deep", "_law_dip", "_law_back"]) (sc := defScope s_law) (by decide +kernel)) (fun _ _ _ _ _ => (pg_name (i := 9) sc_law.nd rfl (.inl rfl))) (fun _ _ _ _ _ => pts_nil) (fun _ _ _ _ _ => (pe_op op_sub (pv 9) (pe_ix (ixL_ (K := K) rfl) (pv 4) (pe_un un_neg pe_int) (fun _ _ => rfl))))) pa_nil)))
    (pss_one (ps_if (pt_not (pt_val (pe_cl c_law_alike (hr.mono (by decide)) (by rfl) (pa_cons (pe_cl cdips (hr.mono (by decide)) (by rfl) (pa_cons (pe_cl cturned_row (hr.mono (by decide)) (by rfl) (pa_cons (pv 3) pa_nil)) pa_nil)) (pa_cons (pv 10) pa_nil))))) (pss_one (ps_ret pe_bl)) pss_nil)))))))))
    (pss_one (ps_ret pe_bl)))), ?_⟩
  refine ⟨_, rfl, a, ns, rfl, hS, hn, fun H1 s c sm1 S1 => ?_⟩
  refine ⟨8, rfl, by decide, by decide, ?_⟩
  refine for_range (lo := 0) (n := 8) (fun i σ H3 => Strm c H3 s ∧ ∃ y2 y3 y4 y5 y6 y7 y8 y9 y10, σ = [some (.ref a), some (.ref s), y2, y3, y4, y5, y6, y7, y8, y9, y10]) ⟨S1, none, none, none, none, none, none, none, none, none, rfl⟩ ?_ ?_
  · rintro i σ H3 hi ⟨S3, y2, y3, y4, y5, y6, y7, y8, y9, y10, rfl⟩
    refine ⟨_, rfl, s, c, 40, rfl, S3, by decide, by decide, fun H4 r ps B4 S4 a4 b4 l4 => ?_⟩
    have hN : ∀ x ∈ ps, Nn x := fun x hx => (b4 x hx).nn
    obtain ⟨ra, us, rfl, ra4, ru4⟩ := id a4.inv
    have hul : us.length = ps.length := by rw [ru4.length, List.length_map]
    have hpl : ps.length ≤ 40 := by omega
    -- the law's own heights
    refine ⟨_, rfl, ra, us, rfl, .inr (.inl (.inl ra4)), _, 1, rfl, rfl, _, rfl, by omega, by omega, fun D hD => ?_⟩
    refine lc_range (lo := 0) (n := ((us.length : Int) + 1).toNat) (fun k H5 => Same H4 H5 ∧ H5 D = some (.lst (((List.range k).map fun j => gn (ps.take j)).map V.int))) ⟨Same.new hD, upd_same⟩ ?_ ?_
    · rintro k H5 hk ⟨sm5, eD5⟩
      refine ⟨rfl, lcYes ?_⟩
      refine ⟨_, rfl, _, rfl, _, rfl, slA_take (k := k) (a4.same sm5) (by omega) fun H6 u6 sm6 a6 => ?_⟩
      rw [← List.map_take] at a6
      obtain ⟨b, ws, rfl, hb, bw⟩ := a6.inv
      have hwl : ws.length = (ps.take k).length := by rw [bw.length, List.length_map]
      refine ⟨b, rfl, ⟨ws, .inl (.inl hb)⟩, fun D2 hD2 => ?_⟩
      refine lc_tup (xs := ws) (fun j H7 => Same H6 H7 ∧ H7 D2 = some (.lst ((((ps.take k).take j).map fun x => x.2 - x.1).map V.int))) ⟨Same.new hD2, upd_same⟩ ?_ ?_ ?_
      · rintro j H7 hj ⟨sm7, _⟩
        exact .inl (.inl (sm7 _ _ hb))
      · rintro j x H7 hx ⟨sm7, eD7⟩
        obtain ⟨d, hd, ad⟩ := bw.get' hx
        rw [List.getElem?_map] at hd
        cases hp : (ps.take k)[j]? with
        | none => rw [hp] at hd; cases hd
        | some z =>
          rw [hp] at hd
          cases hd
          obtain ⟨t, rfl, ht⟩ := (ad.same sm7).pair
          refine ⟨t, _, rfl, .inl (.inl ht), rfl, _, _, rfl, _, _, rfl, rfl, ?_⟩
          refine ⟨rfl, lcYes ?_⟩
          refine ⟨_, rfl, _, rfl, _, _, rfl, rfl, _, eD7, ?_, Same.own sm7 hD2, ?_⟩
          · rw [List.length_map, List.length_map, List.length_take, List.length_take]
            exact szM (by omega)
          · rw [upd_same, List.take_add_one, hp, List.map_append, List.map_append]
            rfl
      · rintro H7 ⟨sm7, eD7⟩
        rw [List.take_of_length_le (by omega)] at eD7
        have sm := sm5.trans (sm6.trans sm7)
        refine ⟨D2, _, rfl, .inl (.inl eD7), _, sm7 _ _ (sm6 _ _ eD5), ?_, Same.own sm hD, ?_⟩
        · rw [List.length_map, List.length_map, List.length_range]
          exact szM (by omega)
        · rw [upd_same, map_range_succ, List.map_append]
          rfl
    rintro H5 ⟨sm5, eD5⟩
    have eD5 : H5 D = some (.lst ((hts ps).map V.int)) := by
      rw [eD5]
      unfold hts
      rw [show ((us.length : Int) + 1).toNat = ps.length + 1 by omega]
    clear hD
    -- the law's own dips
    refine ⟨_, rfl, ra, us, rfl, .inr (.inl (.inl (sm5 _ _ ra4))), _, rfl, by omega, by omega, fun D2 hD2 => ?_⟩
    refine lc_range (lo := 0) (n := us.length) (fun k H6 => Same H5 H6 ∧ H6 D2 = some (.lst (((List.range k).map (dpA ps)).map V.int))) ⟨Same.new hD2, upd_same⟩ ?_ ?_
    · rintro k H6 hk ⟨sm6, eD6⟩
      refine ⟨rfl, lcYes ?_⟩
      obtain ⟨v, gv, av⟩ := ru4.get (i := k) (d := dP (ps.getD k (0, 0))) (by rw [List.getElem?_map, getD_get (by omega)]; rfl)
      obtain ⟨t, rfl, ht⟩ := ((av.same sm5).same sm6).pair
      refine ⟨_, rfl, _, rfl, D, _, _, .int (gn (ps.take k)), rfl, rfl, .inl (.inl (sm6 _ _ eD5)), at_of (j := k) (by omega) (by rw [List.getElem?_map, hts_get (by omega)]; rfl), ?_⟩
      refine ⟨_, rfl, _, rfl, ra, _, _, .ref t, rfl, rfl, .inl (.inl (sm6 _ _ (sm5 _ _ ra4))), at_of (j := k) (by omega) gv, ?_⟩
      refine ⟨t, _, 0, _, rfl, rfl, .inl (.inl ht), rfl, _, _, rfl, rfl, _, eD6, ?_, Same.own sm6 hD2, ?_⟩
      · rw [List.length_map, List.length_map, List.length_range]
        exact szM (by omega)
      · rw [upd_same, map_range_succ, List.map_append]
        rfl
    rintro H6 ⟨sm6, eD6⟩
    have eD6 : H6 D2 = some (.lst ((dps ps).map V.int)) := by
      rw [eD6, hul]
      rfl
    replace eD5 := sm6 _ _ eD5
    replace a4 := (a4.same sm5).same sm6
    replace S4 := (S4.up sm5).up sm6
    clear hD2 ru4 ra4
    -- heights, dips
    refine ⟨_, rfl, _, ps, rfl, a4, by omega, fun H7 u7 sm7 a7 => ?_⟩
    refine ⟨_, rfl, D, _, rfl, .inl ⟨.inl (.inl (sm7 _ _ eD5)), fun l nl => ?_⟩⟩
    have n7 := Same.new (o := .tup ((hts ps).map V.int)) nl
    refine ⟨_, u7, .ref l, rfl, Dep.ints (by rw [hts_len]; omega), a7.same n7, At.tup upd_same (at_ints _), fun H8 sm8 => ?_⟩
    refine ⟨_, rfl, iteF ?_⟩
    have sm := sm7.trans (n7.trans sm8)
    replace eD5 := sm _ _ eD5
    replace eD6 := sm _ _ eD6
    replace a4 := a4.same sm
    replace S4 := S4.up sm
    clear sm sm7 n7 sm8 a7 nl
    refine ⟨_, rfl, _, ps, rfl, a4, by omega, fun H7 u7 sm7 a7 => ?_⟩
    refine ⟨_, rfl, D2, _, rfl, .inl ⟨.inl (.inl (sm7 _ _ eD6)), fun l nl => ?_⟩⟩
    have n7 := Same.new (o := .tup ((dps ps).map V.int)) nl
    refine ⟨_, u7, .ref l, rfl, Dep.ints (by rw [dps_len]; omega), a7.same n7, At.tup upd_same (at_ints _), fun H8 sm8 => ?_⟩
    refine ⟨_, rfl, iteF ?_⟩
    have sm := sm7.trans (n7.trans sm8)
    replace eD5 := sm _ _ eD5
    replace eD6 := sm _ _ eD6
    replace a4 := a4.same sm
    replace S4 := S4.up sm
    clear sm sm7 n7 sm8 a7 nl
    -- the least purse
    refine ⟨_, rfl, _, ps, rfl, a4, fun H7 u7 sm7 a7 => ?_⟩
    rw [whole_wl hN] at a7
    obtain ⟨t7, rfl, ht7⟩ := a7.pair
    refine ⟨t7, _, 0, _, rfl, rfl, .inl (.inl ht7), rfl, ?_⟩
    replace eD5 := sm7 _ _ eD5
    replace eD6 := sm7 _ _ eD6
    replace a4 := a4.same sm7
    replace S4 := S4.up sm7
    refine ⟨sz1, fun l nl => ?_⟩
    have n7 := Same.new (o := .lst [V.int 0]) nl
    refine ⟨_, rfl, D2, rfl, ⟨_, .inl (.inl (n7 _ _ eD6))⟩, fun D3 hD3 => ?_⟩
    refine lc_list (xs := (dps ps).map V.int) (fun k H8 => Same (upd H7 l (.lst [V.int 0])) H8 ∧ H8 D3 = some (.lst ((((dps ps).take k).map fun d => 0 - d).map V.int))) ⟨Same.new hD3, upd_same⟩ ?_ ?_ ?_
    · rintro k H8 hk ⟨sm8, _⟩
      exact .inl (.inl (sm8 _ _ (n7 _ _ eD6)))
    · rintro k x H8 hx ⟨sm8, e8⟩
      rw [List.getElem?_map] at hx
      cases hp : (dps ps)[k]? with
      | none => rw [hp] at hx; cases hx
      | some z =>
        rw [hp] at hx
        cases hx
        refine ⟨rfl, lcYes ?_⟩
        refine ⟨_, rfl, 0, z, rfl, rfl, _, e8, ?_, Same.own sm8 hD3, ?_⟩
        · rw [List.length_map, List.length_map, List.length_take, dps_len]
          exact szM (by omega)
        · rw [upd_same, List.take_add_one, hp, List.map_append, List.map_append]
          rfl
    rintro H8 ⟨sm8, e8⟩
    rw [List.take_of_length_le (by rw [List.length_map]; exact Nat.le_refl _)] at e8
    refine ⟨l, D3, _, _, rfl, rfl, sm8 _ _ upd_same, e8, ?_, fun l2 nl2 => ?_⟩
    · rw [List.length_map, List.length_map, dps_len]
      exact Nat.le_of_lt (szM (by show 1 + ps.length ≤ 1000000; omega))
    have n8 := Same.new (o := .lst ([V.int 0] ++ ((dps ps).map fun d => 0 - d).map V.int)) nl2
    refine ⟨l2, 0 :: (dps ps).map (fun d => 0 - d), rfl, .inl (.inl upd_same), by rw [List.length_cons]; omega, fun m hm ub => ?_⟩
    have em := wl_max hN hm ub
    subst em
    refine ⟨rfl, _, rfl, iteNS rfl ?_⟩
    have sm := n7.trans (sm8.trans n8)
    replace eD5 := sm _ _ eD5
    replace eD6 := sm _ _ eD6
    replace a4 := a4.same sm
    replace S4 := S4.up sm
    clear sm sm7 n7 sm8 n8 a7 e8 hD3 ht7 ub hm
    -- turned about
    refine ⟨_, rfl, D2, _, rfl, .inl (.inl eD6), fun l nl => ?_⟩
    have n7 := Same.new (o := .lst ((dps ps).map V.int).reverse) nl
    refine ⟨l, rfl, ⟨_, .inl (.inl upd_same)⟩, fun D3 hD3 => ?_⟩
    refine lc_list (xs := ((dps ps).map V.int).reverse) (fun k H8 => Same (upd _ l (.lst ((dps ps).map V.int).reverse)) H8 ∧ H8 D3 = some (.lst ((((dps ps).reverse.take k).map fun d => d - gn ps).map V.int))) ⟨Same.new hD3, upd_same⟩ ?_ ?_ ?_
    · rintro k H8 hk ⟨sm8, _⟩
      exact .inl (.inl (sm8 _ _ upd_same))
    · rintro k x H8 hx ⟨sm8, e8⟩
      rw [← List.map_reverse, List.getElem?_map] at hx
      cases hp : (dps ps).reverse[k]? with
      | none => rw [hp] at hx; cases hx
      | some z =>
        rw [hp] at hx
        cases hx
        refine ⟨rfl, lcYes ?_⟩
        have hz : (hts ps).map V.int = ((hts ps).dropLast.map V.int) ++ [V.int (gn ps)] := by
          have e1 : hts ps = (hts ps).dropLast ++ [gn ps] := by
            have ne : hts ps ≠ [] := fun e => by
              have := hts_len ps
              rw [e] at this
              cases this
            have e2 := List.dropLast_concat_getLast ne
            have e3 : (hts ps).getLast ne = gn ps := by
              have e4 : (hts ps).getLast? = some (gn ps) := by
                rw [List.getLast?_eq_getElem?, hts_len]
                exact hts_last ps
              rw [List.getLast?_eq_getLast ne] at e4
              exact Option.some.inj e4
            rw [e3] at e2
            exact e2.symm
          rw [← List.map_singleton, ← List.map_append, ← e1]
        refine ⟨_, rfl, _, rfl, 1, rfl, D, _, -1, .int (gn ps), rfl, rfl, .inl (.inl (sm8 _ _ (n7 _ _ eD5))), by rw [hz]; exact atI_last _ _, z, gn ps, rfl, rfl, _, e8, ?_, Same.own sm8 hD3, ?_⟩
        · rw [List.length_map, List.length_map, List.length_take, List.length_reverse, dps_len]
          exact szM (by omega)
        · rw [upd_same, List.take_add_one, hp, List.map_append, List.map_append]
          rfl
    rintro H8 ⟨sm8, e8⟩
    rw [List.take_of_length_le (by rw [List.length_reverse, List.length_reverse, List.length_map]; exact Nat.le_refl _), ← dps_trn] at e8
    refine ⟨D3, _, rfl, .inl ⟨.inl (.inl e8), fun l2 nl2 => ?_⟩⟩
    have n8 := Same.new (o := .tup ((dps (trn ps)).map V.int)) nl2
    have sm := n7.trans (sm8.trans n8)
    replace a4 := a4.same sm
    replace S4 := S4.up sm
    clear sm sm8 n7 e8 hD3 n8
    refine ⟨_, rfl, _, ps, rfl, a4, by omega, fun H9 u9 sm9 a9 => ?_⟩
    refine ⟨u9, _, rfl, a9, by rw [trn_len]; omega, fun H10 u10 sm10 a10 => ?_⟩
    refine ⟨_, rfl, _, u10, .ref l2, rfl, Dep.ints (by rw [dps_len, trn_len]; omega), a10, ((At.tup upd_same (at_ints _)).same sm9).same sm10, fun H11 sm11 => ?_⟩
    refine ⟨_, rfl, iteF ?_⟩
    exact ⟨((S4.up sm9).up sm10).up sm11, _, _, _, _, _, _, _, _, _, rfl⟩
  · rintro σ H3 ⟨S3, y2, y3, y4, y5, y6, y7, y8, y9, y10, rfl⟩
    exact q _
end
/-! ### the head -/
def d_law_take : He.DefD := ⟨("_law_take", none), "_law_take", "_law_take", defArgs s_law_take, defBody s_law_take, defScope s_law_take, [], []⟩
def d_law_number : He.DefD := ⟨("_law_number", none), "_law_number", "_law_number", defArgs s_law_number, defBody s_law_number, defScope s_law_number, [], []⟩
def d_law_pair : He.DefD := ⟨("_law_pair", none), "_law_pair", "_law_pair", defArgs s_law_pair, defBody s_law_pair, defScope s_law_pair, [], []⟩
def d_law_row : He.DefD := ⟨("_law_row", none), "_law_row", "_law_row", defArgs s_law_row, defBody s_law_row, defScope s_law_row, [], []⟩
def d_law_stream : He.DefD := ⟨("_law_stream", none), "_law_stream", "_law_stream", defArgs s_law_stream, defBody s_law_stream, defScope s_law_stream, [], []⟩
def d_law_alike : He.DefD := ⟨("_law_alike", none), "_law_alike", "_law_alike", defArgs s_law_alike, defBody s_law_alike, defScope s_law_alike, [], []⟩
def d_whole : He.DefD := ⟨("whole", none), "whole", "whole", defArgs s_whole, defBody s_whole, defScope s_whole, [], []⟩
def d_turned_row : He.DefD := ⟨("turned_row", none), "turned_row", "turned_row", defArgs s_turned_row, defBody s_turned_row, defScope s_turned_row, [], []⟩
def d_heights : He.DefD := ⟨("heights", none), "heights", "heights", defArgs s_heights, defBody s_heights, defScope s_heights, [], []⟩
def d_dips : He.DefD := ⟨("dips", none), "dips", "dips", defArgs s_dips, defBody s_dips, defScope s_dips, [], []⟩
def d_law : He.DefD := ⟨("law", none), "law", "law", defArgs s_law, defBody s_law, defScope s_law, [], []⟩
def fn : List He.DefD := [d_law_take, d_law_number, d_law_pair, d_law_row, d_law_stream, d_law_alike, d_whole, d_turned_row, d_heights, d_dips, d_law]
def fa : List He.Fa := [.glo "_law_take", .glo "_law_number", .glo "_law_pair", .glo "_law_row", .glo "_law_stream", .glo "_law_alike", .glo "whole", .glo "turned_row", .glo "heights", .glo "dips", .glo "law", .free "len", .free "max", .free "min", .free "range", .free "tuple", .free "abs", .free "isinstance", .free "bool", .free "str", .free "int", .free "sum", .free "zip", .free "enumerate", .free "all", .free "any", .free "sorted", .free "repr", .free "list", .free "reversed"]
abbrev R : PySem.W.OpenRow := PySem.W.OpenLaw.row PySem.Challenge.rw_stintpurse_k07_heights_and_dips
abbrev hk : PySem.W.Hook := He.hookD 4 fa fn
def ob (s : PySem.W.SharedT) : He.AlD := He.obsDG 4 fa fn (HandSHeadRun.getT s)
theorem ob_eq (s : PySem.W.SharedT) : ob s = hk.obs s.abs := He.obsDG_eq (HandSHeadRun.getT_eq s)
theorem run (w : World) : HandSHeadRun.RunEq R (PySem.W.view R.prog [12]) hk ob 4000 ["whole", "turned_row", "heights", "dips", "_law_stream", "_law_take", "_law_number", "_law_pair", "_law_row", "_law_alike"] w := by
  intro os
  kernel_rfl
theorem facts {P : Program} {w : World} {K : PySem.W.Frag} {h : Heap} {mg : Str → Option Value} {f : Addr} (X : K.In h) (G : h.Ns mainGlobals mg) (hfa : mg ("law" : Str) = some (.ref f)) (c : He.SaysD fa fn K) :
    ∃ fd : FuncData, (∀ (s : Shared) (v : Value), BindsTo s fd ⟨[v], []⟩ [("_law_script", v)]) ∧ ∀ base : Heap, K.In base → base.Ns mainGlobals mg → FnOk P w K mg base CX0 5 f fd ["_law_script"] (spLaw K) := by
  obtain ⟨fd_law_take, F_law_take⟩ := c.def_ 0 (d := d_law_take) rfl
  have g_law_take := He.glo_ok X G (c.fact 0 (f := .glo "_law_take") rfl)
  have b_law_take : Binds K fd_law_take ["_law_stream_here", "_law_below"] [] := FunD.bindsN F_law_take fun _ _ _ _ _ _ us hl => match us, hl with | [_, _], _ => rfl
  obtain ⟨fd_law_number, F_law_number⟩ := c.def_ 1 (d := d_law_number) rfl
  have g_law_number := He.glo_ok X G (c.fact 1 (f := .glo "_law_number") rfl)
  have b_law_number : Binds K fd_law_number ["_law_stream_here"] [] := FunD.bindsN F_law_number fun _ _ _ _ _ _ us hl => match us, hl with | [_], _ => rfl
  obtain ⟨fd_law_pair, F_law_pair⟩ := c.def_ 2 (d := d_law_pair) rfl
  have g_law_pair := He.glo_ok X G (c.fact 2 (f := .glo "_law_pair") rfl)
  have b_law_pair : Binds K fd_law_pair ["_law_stream_here"] [] := FunD.bindsN F_law_pair fun _ _ _ _ _ _ us hl => match us, hl with | [_], _ => rfl
  obtain ⟨fd_law_row, F_law_row⟩ := c.def_ 3 (d := d_law_row) rfl
  have g_law_row := He.glo_ok X G (c.fact 3 (f := .glo "_law_row") rfl)
  have b_law_row : Binds K fd_law_row ["_law_stream_here", "_law_most"] [] := FunD.bindsN F_law_row fun _ _ _ _ _ _ us hl => match us, hl with | [_, _], _ => rfl
  obtain ⟨fd_law_stream, F_law_stream⟩ := c.def_ 4 (d := d_law_stream) rfl
  have g_law_stream := He.glo_ok X G (c.fact 4 (f := .glo "_law_stream") rfl)
  have b_law_stream : Binds K fd_law_stream ["_law_script"] [] := FunD.bindsN F_law_stream fun _ _ _ _ _ _ us hl => match us, hl with | [_], _ => rfl
  obtain ⟨fd_law_alike, F_law_alike⟩ := c.def_ 5 (d := d_law_alike) rfl
  have g_law_alike := He.glo_ok X G (c.fact 5 (f := .glo "_law_alike") rfl)
  have b_law_alike : Binds K fd_law_alike ["_law_found", "_law_due"] [] := FunD.bindsN F_law_alike fun _ _ _ _ _ _ us hl => match us, hl with | [_, _], _ => rfl
  obtain ⟨fdwhole, Fwhole⟩ := c.def_ 6 (d := d_whole) rfl
  have gwhole := He.glo_ok X G (c.fact 6 (f := .glo "whole") rfl)
  have bwhole : Binds K fdwhole ["row"] [] := FunD.bindsN Fwhole fun _ _ _ _ _ _ us hl => match us, hl with | [_], _ => rfl
  obtain ⟨fdturned_row, Fturned_row⟩ := c.def_ 7 (d := d_turned_row) rfl
  have gturned_row := He.glo_ok X G (c.fact 7 (f := .glo "turned_row") rfl)
  have bturned_row : Binds K fdturned_row ["row"] [] := FunD.bindsN Fturned_row fun _ _ _ _ _ _ us hl => match us, hl with | [_], _ => rfl
  obtain ⟨fdheights, Fheights⟩ := c.def_ 8 (d := d_heights) rfl
  have gheights := He.glo_ok X G (c.fact 8 (f := .glo "heights") rfl)
  have bheights : Binds K fdheights ["row"] [] := FunD.bindsN Fheights fun _ _ _ _ _ _ us hl => match us, hl with | [_], _ => rfl
  obtain ⟨fddips, Fdips⟩ := c.def_ 9 (d := d_dips) rfl
  have gdips := He.glo_ok X G (c.fact 9 (f := .glo "dips") rfl)
  have bdips : Binds K fddips ["row"] [] := FunD.bindsN Fdips fun _ _ _ _ _ _ us hl => match us, hl with | [_], _ => rfl
  obtain ⟨fd, F⟩ := c.def_ 10 (d := d_law) rfl
  have e := hfa.symm.trans (He.glo_ok X G (c.fact 10 (f := .glo "law") rfl))
  cases e
  have b := FunD.bindsA (ps := ["_law_script"]) F fun _ _ _ _ _ _ us hl => match us, hl with | [_], _ => rfl
  have B : Bi mg := ⟨He.free_ok X G (c.fact 11 (f := .free "len") rfl), He.free_ok X G (c.fact 12 (f := .free "max") rfl), He.free_ok X G (c.fact 13 (f := .free "min") rfl), He.free_ok X G (c.fact 14 (f := .free "range") rfl), He.free_ok X G (c.fact 15 (f := .free "tuple") rfl), He.free_ok X G (c.fact 16 (f := .free "abs") rfl), He.free_ok X G (c.fact 17 (f := .free "isinstance") rfl), He.free_ok X G (c.fact 18 (f := .free "bool") rfl), He.free_ok X G (c.fact 19 (f := .free "str") rfl), He.free_ok X G (c.fact 20 (f := .free "int") rfl), He.free_ok X G (c.fact 21 (f := .free "sum") rfl), He.free_ok X G (c.fact 22 (f := .free "zip") rfl), He.free_ok X G (c.fact 23 (f := .free "enumerate") rfl), He.free_ok X G (c.fact 24 (f := .free "all") rfl), He.free_ok X G (c.fact 25 (f := .free "any") rfl), He.free_ok X G (c.fact 26 (f := .free "sorted") rfl), He.free_ok X G (c.fact 27 (f := .free "repr") rfl), He.free_ok X G (c.fact 28 (f := .free "list") rfl), He.free_ok X G (c.fact 29 (f := .free "reversed") rfl)⟩
  refine ⟨fd, fun s v => b s [v] rfl, fun base _ _ => ?_⟩
  have c_law_take := Cl.mk (P := P) (w := w) (base := base) (mg := mg) ⟨_, _, g_law_take, F_law_take.kp, b_law_take, ok_take F_law_take B⟩
  have c_law_number := Cl.mk (P := P) (w := w) (base := base) (mg := mg) ⟨_, _, g_law_number, F_law_number.kp, b_law_number, ok_number F_law_number c_law_take⟩
  have c_law_pair := Cl.mk (P := P) (w := w) (base := base) (mg := mg) ⟨_, _, g_law_pair, F_law_pair.kp, b_law_pair, ok_pair F_law_pair B c_law_take c_law_number⟩
  have c_law_stream := Cl.mk (P := P) (w := w) (base := base) (mg := mg) ⟨_, _, g_law_stream, F_law_stream.kp, b_law_stream, ok_stream F_law_stream B⟩
  have c_law_row := Cl.mk (P := P) (w := w) (base := base) (mg := mg) ⟨_, _, g_law_row, F_law_row.kp, b_law_row, ok_row F_law_row B c_law_take c_law_pair⟩
  have c_law_alike := Cl.mk (P := P) (w := w) (base := base) (mg := mg) ⟨_, _, g_law_alike, F_law_alike.kp, b_law_alike, ok_alike F_law_alike B g_law_alike 1⟩
  have cwhole := Cl.mk (P := P) (w := w) (base := base) (mg := mg) ⟨_, _, gwhole, Fwhole.kp, bwhole, ok_whole (k := 0) Fwhole B⟩
  have cturned_row := Cl.mk (P := P) (w := w) (base := base) (mg := mg) ⟨_, _, gturned_row, Fturned_row.kp, bturned_row, ok_turned_row (k := 0) Fturned_row B⟩
  have cheights := Cl.mk (P := P) (w := w) (base := base) (mg := mg) ⟨_, _, gheights, Fheights.kp, bheights, ok_heights (k := 0) Fheights B⟩
  have cdips := Cl.mk (P := P) (w := w) (base := base) (mg := mg) ⟨_, _, gdips, Fdips.kp, bdips, ok_dips (k := 0) Fdips B cheights⟩
  exact ok_law F B c_law_stream c_law_row c_law_alike cwhole cturned_row cheights cdips
end Lw
open PySem PySem.W PySem.Calls PyProof.Rows
set_option maxHeartbeats 0 in
theorem PySem.Challenge.cw_stintpurse_k07_heights_and_dips_holds : PySem.Challenge.rw_stintpurse_k07_heights_and_dips.Holds := by
  w_on; o_law
  refine HandSHeadRun.head_any (r := OpenLaw.row PySem.Challenge.rw_stintpurse_k07_heights_and_dips) (q := view (OpenLaw.row PySem.Challenge.rw_stintpurse_k07_heights_and_dips).prog [12]) (H := Lw.hk) (ob := Lw.ob) (M := 4000) (loose := ["whole", "turned_row", "heights", "dips", "_law_stream", "_law_take", "_law_number", "_law_pair", "_law_row", "_law_alike"]) (d := HandSHeadRun.topDef (OpenLaw.row PySem.Challenge.rw_stintpurse_k07_heights_and_dips).prog 12) (kwd := []) Lw.ob_eq
    (by kernel_rfl) (fun s => by kernel_rfl) Lw.run (by kernel_rfl) (by kernel_rfl) (by kernel_rfl) (by rfl) (by first | assumption | decide +kernel) (by decide +kernel) ⟨rfl, rfl, rfl, rfl, rfl, by decide +kernel⟩ ?hw ?hc
  case hw => w_witness2
  case hc =>
    refine L2.walk_ofE (l := PySem.Challenge.rw_stintpurse_k07_heights_and_dips) (n := 63) (k := 5) (x := "_law_script") (CX := L2.CX0) rfl (by decide) (by kernel_rfl) ⟨rfl, by decide, by decide⟩ ?F (fun _ _ _ _ z => z)
    intro w mg fa h Y G hmg0
    obtain ⟨K, KX, c⟩ := Y
    have hmg : mg ("law" : PySem.Str) = some (.ref fa) := by
      have e : (HandSHeadRun.topDef (OpenLaw.row PySem.Challenge.rw_stintpurse_k07_heights_and_dips).prog 12).name = ("law" : PySem.Str) := by kernel_rfl
      rw [← e]
      exact hmg0
    obtain ⟨fd, hb, hF⟩ := Lw.facts (P := (PySem.Challenge.rw_stintpurse_k07_heights_and_dips).prog) (w := w) KX G hmg c
    exact ⟨K, fd, Lw.spLaw K, KX, hb, fun H a ns hl _ hS => ⟨a, ns, rfl, hS, hl, fun _ => rfl⟩, hF⟩
