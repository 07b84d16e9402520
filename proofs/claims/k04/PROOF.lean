import PyProof.Rows.All
import Wide.All
import OpenK.AllK
import Wide.FinOn
import KE.KStateDown
import Lean
import HandS.ForMost
import HandS.IsInst
import HandS.TupAny
import HandS.TupMul
import HandS.Walk
import HandS.NoneIn
import HandS.Wide
import HandS.Style
import HandS.Evl
import HandS.Defaults
import HandS.Head0
import HandS.Head1
import HandS.Head2
import HandS.HeadEnd
import HandS.HeadHook1
import HandS.HeadHook2
import PySem.Challenge.RW_stintpurse_k04_pairs_put_together
set_option Elab.async false
set_option linter.all false
set_option maxRecDepth 100000
set_option maxHeartbeats 4000000
namespace Lw
open PySem PySem.Spec PyProof.Rows L2

/-! ### heaps -/
/-- all that was tracked stays, but for what stands at s -/
def But (s : Addr) (H H' : Hp) : Prop := ∀ b o, b ≠ s → H b = some o → H' b = some o
theorem But.refl (s : Addr) (H : Hp) : But s H H := fun _ _ _ h => h
theorem But.trans {s : Addr} {H H1 H2 : Hp} (a : But s H H1) (b : But s H1 H2) : But s H H2 := fun c o n h => b c o n (a c o n h)
theorem But.of {s : Addr} {H H' : Hp} (a : Same H H') : But s H H' := fun b o _ h => a b o h
theorem But.put {s : Addr} {H : Hp} {o : HO} : But s H (upd H s o) := fun b x n h => by rw [upd_ne n]; exact h
theorem Same.new {H : Hp} {p : Addr} {o : HO} (h : H p = none) : Same H (upd H p o) := fun b x e => by
  rw [upd_ne (ne_of_none e h)]; exact e
theorem But.new {s : Addr} {H : Hp} {p : Addr} {o : HO} (h : H p = none) : But s H (upd H p o) := But.of (Same.new h)
/-- what holds of tuples stays -/
def Tups (H H' : Hp) : Prop := ∀ b xs, H b = some (.tup xs) → H' b = some (.tup xs)
theorem Tups.refl (H : Hp) : Tups H H := fun _ _ h => h
theorem Tups.trans {H H1 H2 : Hp} (a : Tups H H1) (b : Tups H1 H2) : Tups H H2 := fun c o h => b c o (a c o h)
theorem Same.tups {H H' : Hp} (a : Same H H') : Tups H H' := fun b xs h => a b _ h

/-! ### data: whole numbers, texts, truths, None, tuples of such -/
inductive D where
  | n | b (x : Bool) | i (x : Int) | s (x : Str) | t (l : List D)
mutual
def At (H : Hp) : D → V → Prop
  | .n, v => v = .non
  | .b x, v => v = .bl x
  | .i x, v => v = .int x
  | .s x, v => v = .str x
  | .t l, v => ∃ a vs, v = .ref a ∧ H a = some (.tup vs) ∧ AtL H l vs
def AtL (H : Hp) : List D → List V → Prop
  | [], vs => vs = []
  | d :: l, vs => ∃ v r, vs = v :: r ∧ At H d v ∧ AtL H l r
end
mutual
theorem At.up {H H' : Hp} (T : Tups H H') : ∀ (d : D) (v : V), At H d v → At H' d v
  | .n, v, h => by unfold At at h ⊢; exact h
  | .b x, v, h => by unfold At at h ⊢; exact h
  | .i x, v, h => by unfold At at h ⊢; exact h
  | .s x, v, h => by unfold At at h ⊢; exact h
  | .t l, v, h => by
    unfold At at h ⊢
    obtain ⟨a, vs, e, ha, r⟩ := h
    exact ⟨a, vs, e, T _ _ ha, AtL.up T l vs r⟩
theorem AtL.up {H H' : Hp} (T : Tups H H') : ∀ (l : List D) (vs : List V), AtL H l vs → AtL H' l vs
  | [], vs, h => by unfold AtL at h ⊢; exact h
  | d :: l, vs, h => by
    unfold AtL at h ⊢
    obtain ⟨v, r, e, h1, h2⟩ := h
    exact ⟨v, r, e, At.up T d v h1, AtL.up T l r h2⟩
end
theorem AtL.length {H : Hp} : ∀ {l : List D} {vs : List V}, AtL H l vs → vs.length = l.length
  | [], vs, h => by unfold AtL at h; rw [h]; rfl
  | d :: l, vs, h => by
    unfold AtL at h
    obtain ⟨v, r, e, _, h2⟩ := h
    rw [e, List.length_cons, List.length_cons, AtL.length h2]
theorem AtL.get {H : Hp} : ∀ {l : List D} {vs : List V} {i : Nat} {d : D}, AtL H l vs → l[i]? = some d → ∃ v, vs[i]? = some v ∧ At H d v
  | [], vs, i, d, h, e => by simp at e
  | d :: l, vs, 0, d', h, e => by
    unfold AtL at h
    obtain ⟨v, r, e1, h1, h2⟩ := h
    have e2 : d = d' := Option.some.inj e
    subst e2
    exact ⟨v, by rw [e1]; rfl, h1⟩
  | d :: l, vs, i + 1, d', h, e => by
    unfold AtL at h
    obtain ⟨v, r, e1, h1, h2⟩ := h
    obtain ⟨u, g, z⟩ := AtL.get h2 (i := i) (d := d') e
    exact ⟨u, by rw [e1]; exact g, z⟩
theorem AtL.get' {H : Hp} {l : List D} {vs : List V} {i : Nat} {v : V} (h : AtL H l vs) (e : vs[i]? = some v) : ∃ d, l[i]? = some d ∧ At H d v := by
  have hl := h.length
  have hi : i < l.length := by
    rw [← hl]
    exact (List.getElem?_eq_some_iff.mp e).1
  obtain ⟨u, g, z⟩ := h.get (i := i) (d := l[i]) (List.getElem?_eq_getElem hi)
  rw [e] at g
  cases g
  exact ⟨l[i], List.getElem?_eq_getElem hi, z⟩
theorem AtL.of {H : Hp} : ∀ {l : List D} {vs : List V}, vs.length = l.length → (∀ (i : Nat) (d : D) (v : V), l[i]? = some d → vs[i]? = some v → At H d v) → AtL H l vs
  | [], vs, hl, h => by
    unfold AtL
    exact List.eq_nil_of_length_eq_zero hl
  | d :: l, [], hl, h => by simp at hl
  | d :: l, v :: r, hl, h => by
    unfold AtL
    exact ⟨v, r, rfl, h 0 d v rfl rfl, AtL.of (by simpa using hl) fun i d' v' e1 e2 => h (i + 1) d' v' e1 e2⟩
theorem AtL.drop {H : Hp} {l : List D} {vs : List V} (h : AtL H l vs) (k : Nat) : AtL H (l.drop k) (vs.drop k) :=
  AtL.of (by rw [List.length_drop, List.length_drop, h.length]) fun i d v e1 e2 => by
    rw [List.getElem?_drop] at e1 e2
    obtain ⟨u, g, z⟩ := h.get e1
    rw [e2] at g
    cases g
    exact z
theorem AtL.take {H : Hp} {l : List D} {vs : List V} (h : AtL H l vs) (k : Nat) : AtL H (l.take k) (vs.take k) :=
  AtL.of (by rw [List.length_take, List.length_take, h.length]) fun i d v e1 e2 => by
    by_cases hi : i < k
    · rw [List.getElem?_take_of_lt hi] at e1 e2
      obtain ⟨u, g, z⟩ := h.get e1
      rw [e2] at g
      cases g
      exact z
    · rw [List.getElem?_take_eq_none (by omega)] at e1
      cases e1
theorem AtL.append {H : Hp} : ∀ {l l' : List D} {vs vs' : List V}, AtL H l vs → AtL H l' vs' → AtL H (l ++ l') (vs ++ vs')
  | [], l', vs, vs', h, h' => by
    unfold AtL at h
    rw [h]
    exact h'
  | d :: l, l', vs, vs', h, h' => by
    unfold AtL at h
    obtain ⟨v, r, e, h1, h2⟩ := h
    rw [e, List.cons_append, List.cons_append]
    unfold AtL
    exact ⟨v, _, rfl, h1, AtL.append h2 h'⟩
theorem AtL.nil {H : Hp} : AtL H [] [] := by unfold AtL; rfl
theorem AtL.cons {H : Hp} {d : D} {l : List D} {v : V} {vs : List V} (h : At H d v) (r : AtL H l vs) : AtL H (d :: l) (v :: vs) := by
  unfold AtL
  exact ⟨v, vs, rfl, h, r⟩
theorem At.int {H : Hp} (n : Int) : At H (.i n) (.int n) := by unfold At; rfl
theorem At.tup {H : Hp} {a : Addr} {vs : List V} {l : List D} (h : H a = some (.tup vs)) (r : AtL H l vs) : At H (.t l) (.ref a) := by
  unfold At
  exact ⟨a, vs, rfl, h, r⟩
theorem At.inv {H : Hp} {l : List D} {v : V} (h : At H (.t l) v) : ∃ a vs, v = .ref a ∧ H a = some (.tup vs) ∧ AtL H l vs := by unfold At at h; exact h
theorem At.iv {H : Hp} {x : Int} {v : V} (h : At H (.i x) v) : v = .int x := by unfold At at h; exact h
theorem At.same {H H' : Hp} {d : D} {v : V} (h : At H d v) (e : Same H H') : At H' d v := At.up (Same.tups e) d v h
theorem AtL.same {H H' : Hp} {d : List D} {v : List V} (h : AtL H d v) (e : Same H H') : AtL H' d v := AtL.up (Same.tups e) d v h
/-- a pair, a row -/
abbrev dP (x : Int × Int) : D := .t [.i x.1, .i x.2]
abbrev dR (r : List (Int × Int)) : D := .t (r.map dP)
theorem At.pair {H : Hp} {x : Int × Int} {v : V} (h : At H (dP x) v) : ∃ a, v = .ref a ∧ H a = some (.tup [.int x.1, .int x.2]) := by
  obtain ⟨a, vs, e, ha, r⟩ := h.inv
  unfold AtL at r
  obtain ⟨v1, r1, e1, h1, r⟩ := r
  unfold AtL at r
  obtain ⟨v2, r2, e2, h2, r⟩ := r
  unfold AtL at r
  refine ⟨a, e, ?_⟩
  rw [ha, e1, e2, r, h1.iv, h2.iv]
theorem At.mkPair {H : Hp} {a : Addr} {x y : Int} (h : H a = some (.tup [.int x, .int y])) : At H (dP (x, y)) (.ref a) :=
  At.tup h (AtL.cons (At.int x) (AtL.cons (At.int y) AtL.nil))

/-! ### the stream of a script -/
structure Strm (c : Addr) (H : Hp) (s : Addr) : Prop where
  ex : ∃ (cs : List Int) (b l bl : Int), H s = some (.lst [.ref c, .int b, .int l, .int bl]) ∧ H c = some (.lst (cs.map V.int)) ∧ (∀ x ∈ cs, 0 ≤ x) ∧ cs.length ≤ 63 ∧ 0 ≤ b ∧ 0 ≤ l ∧ 0 ≤ bl ∧ bl < 4294967296
theorem strm_ne {H : Hp} {s c : Addr} {cs : List Int} {b l bl : Int} (h : H s = some (.lst [.ref c, .int b, .int l, .int bl])) (h' : H c = some (.lst (cs.map V.int))) : c ≠ s := by
  intro e
  subst e
  rw [h] at h'
  cases cs with
  | nil => cases h'
  | cons x r => cases h'
theorem Strm.up {H H' : Hp} {c s : Addr} (h : Strm c H s) (e : Same H H') : Strm c H' s := by
  obtain ⟨cs, b, l, bl, h1, h2, h3⟩ := h.ex
  exact ⟨cs, b, l, bl, e _ _ h1, e _ _ h2, h3⟩
theorem Strm.lst {H : Hp} {c s : Addr} (h : Strm c H s) : ∃ xs, H s = some (.lst xs) := by
  obtain ⟨cs, b, l, bl, h1, _⟩ := h.ex
  exact ⟨_, h1⟩
theorem Strm.new {H : Hp} {c s p : Addr} (h : Strm c H s) (hp : H p = none) : p ≠ s ∧ p ≠ c := by
  obtain ⟨cs, b, l, bl, h1, h2, _⟩ := h.ex
  exact ⟨(ne_of_none h1 hp).symm, (ne_of_none h2 hp).symm⟩
theorem Strm.put {H : Hp} {c s o : Addr} {x : HO} (h : Strm c H s) (ns : o ≠ s) (nc : o ≠ c) : Strm c (upd H o x) s := by
  obtain ⟨cs, b, l, bl, h1, h2, h3⟩ := h.ex
  refine ⟨cs, b, l, bl, ?_, ?_, h3⟩
  · rw [upd_ne (fun e => ns e.symm)]
    exact h1
  · rw [upd_ne (fun e => nc e.symm)]
    exact h2
theorem But.tups {c s : Addr} {H H' : Hp} (h : Strm c H s) (b : But s H H') : Tups H H' := fun a xs e => by
  obtain ⟨ys, hs⟩ := h.lst
  exact b a _ (ne_of e hs (by intro z; cases z)) e
theorem At.but {c s : Addr} {H H' : Hp} {d : D} {v : V} (h : At H d v) (hs : Strm c H s) (b : But s H H') : At H' d v := At.up (But.tups hs b) d v h
theorem AtL.but {c s : Addr} {H H' : Hp} {d : List D} {v : List V} (h : AtL H d v) (hs : Strm c H s) (b : But s H H') : AtL H' d v := AtL.up (But.tups hs b) d v h

/-! ### sizes, places -/
theorem sz1 : 1 ≤ sizeLine := by decide
theorem sz2 : 2 ≤ sizeLine := by decide
theorem sz3 : 3 ≤ sizeLine := by decide
theorem sz4 : 4 ≤ sizeLine := by decide
theorem szM {n : Nat} (h : n ≤ 1000000) : n < sizeLine := Nat.lt_of_le_of_lt h (by decide)
theorem ixN_of {n : Nat} {z : Int} {i : Nat} (e : z = (i : Int)) (h : i < n) : ixN n z = some i := by
  subst e
  unfold ixN
  rw [if_pos (by omega), if_pos (by omega)]
  simp
theorem AtL.set {H : Hp} {l : List D} {vs : List V} {d : D} {v : V} (h : AtL H l vs) (a : At H d v) (k : Nat) : AtL H (l.set k d) (vs.set k v) :=
  AtL.of (by rw [List.length_set, List.length_set, h.length]) fun i d' v' e1 e2 => by
    rw [List.getElem?_set] at e1 e2
    have hl := h.length
    split at e1
    · rename_i hk
      rw [if_pos hk] at e2
      split at e1
      · rw [if_pos (by omega)] at e2
        cases e1
        cases e2
        exact a
      · cases e1
    · rename_i hk
      rw [if_neg hk] at e2
      obtain ⟨u, g, z⟩ := h.get e1
      rw [e2] at g
      cases g
      exact z
theorem But.own {s o : Addr} {H H' : Hp} {x : HO} (b : But s H H') (h : H o = none) : But s H (upd H' o x) := fun c z n e => by
  rw [upd_ne (ne_of_none e h)]
  exact b c z n e
theorem Same.own {o : Addr} {H H' : Hp} {x : HO} (b : Same H H') (h : H o = none) : Same H (upd H' o x) := fun c z e => by
  rw [upd_ne (ne_of_none e h)]
  exact b c z e
/-! ### built-in names that the top leaves alone -/
structure Bi (mg : Str → Option Value) : Prop where
  len : mg "len" = none
  max : mg "max" = none
  min : mg "min" = none
  range : mg "range" = none
  tuple : mg "tuple" = none
  abs : mg "abs" = none
  isinstance : mg "isinstance" = none
  bool : mg "bool" = none
  str : mg "str" = none
  int : mg "int" = none
  sum : mg "sum" = none
  zip : mg "zip" = none
  enumerate : mg "enumerate" = none
  all : mg "all" = none
  any : mg "any" = none
  sorted : mg "sorted" = none
  repr : mg "repr" = none
  list : mg "list" = none
  reversed : mg "reversed" = none
theorem rel_ty (n : String) : RelV (.ty n) (.type n) := rfl
theorem lcYes {σ : L2.St} {H : Hp} {A B : Hp → Prop} (h : A H) : tYes σ H (fun b H3 => if b = true then A H3 else B H3) := by
  show if true = true then A H else B H
  exact iteT h
/-! ### rules that speak of the written part by its own name -/
section
variable {X : Cx} {K : PySem.W.Frag}
theorem ixT_ (h : X.K = K) : IxR X (rIxT K) := by subst h; exact ix_tup
theorem ixL_ (h : X.K = K) : IxR X (rIxL K) := by subst h; exact ix_list
theorem slL_ (h : X.K = K) : SlR X (rSlL K) := by subst h; exact sl_list
theorem slT_ (h : X.K = K) : SlR X (rSlA K) := by subst h; exact sl_tupA
theorem len_ (h : X.K = K) : CallR X (.builtin "len") (fun xs H Q => ∃ p ys, xs = [.ref p] ∧ (SqL K H p ys ∨ SqT K H p ys) ∧ Q (.int ys.length) H) := by subst h; exact call_len_seq
theorem tuple_ (h : X.K = K) : CallR X (.type "tuple") (fun xs H Q => ∃ p ys, xs = [.ref p] ∧ ((SqL K H p ys ∧ ∀ l, H l = none → Q (.ref l) (upd H l (.tup ys))) ∨ (SqT K H p ys ∧ Q (.ref p) H))) := by subst h; exact call_tuple_of
theorem isi_ (h : X.K = K) : CallR X (.builtin "isinstance") (rIsi K) := by subst h; exact call_isi
theorem isiT_ (h : X.K = K) : CallR X (.builtin "isinstance") (rIsiT K) := by subst h; exact call_isiT
theorem sum_ (hc : X.calm = true) (h : X.K = K) : CallR X (.builtin "sum") (rSum K) := by subst h; exact cr_sum hc
theorem max_ (hc : X.calm = true) (h : X.K = K) : CallR X (.builtin "max") (rMax K) := by subst h; exact cr_max hc
theorem min_ (hc : X.calm = true) (h : X.K = K) : CallR X (.builtin "min") (rMin K) := by subst h; exact cr_min hc
theorem all_ (hc : X.calm = true) (h : X.K = K) : CallR X (.builtin "all") (rAll K) := by subst h; exact cr_all hc
theorem eqD_ (hu : X.A.units + 64 < cLine) (h : X.K = K) : OpR X (compareOp .Eq) (rEqD K) := by subst h; exact op_eqD hu
theorem neD_ (hu : X.A.units + 64 < cLine) (h : X.K = K) : OpR X (compareOp .NotEq) (rNeD K) := by subst h; exact op_neD hu
end
/-! ### slices of tuples -/
theorem slA_take {K : PySem.W.Frag} {H : Hp} {l : List D} {v : V} {z : Int} {k : Nat} {Q : VK} (h : At H (.t l) v) (e : z = (k : Int)) (q : ∀ H' u, Same H H' → At H' (.t (l.take k)) u → Q u H') : rSlA K v none (some z) H Q := by
  subst e
  obtain ⟨a, vs, rfl, ha, av⟩ := h.inv
  refine ⟨a, vs, rfl, .inl (.inl ha), fun hw => ?_, fun hw p np => ?_⟩
  · have h2 := hw.2
    rw [HT.sIx_nat] at h2
    have hk : l.length ≤ k := by rw [← av.length]; omega
    refine q H _ (Same.refl _) ?_
    rw [List.take_of_length_le hk]
    exact h
  · refine q _ _ (Same.new np) (At.tup upd_same ?_)
    have ec : cutV vs none (some (k : Int)) = vs.take k := by
      unfold cutV
      rw [HT.sIx_none, HT.sIx_nat, List.drop_zero, Nat.sub_zero]
      by_cases hk : k ≤ vs.length
      · rw [Nat.min_eq_left hk]
      · rw [Nat.min_eq_right (by omega), List.take_of_length_le (Nat.le_refl _), List.take_of_length_le (by omega)]
    rw [ec]
    exact (av.take k).same (Same.new np)
theorem slA_drop {K : PySem.W.Frag} {H : Hp} {l : List D} {v : V} {z : Int} {k : Nat} {Q : VK} (h : At H (.t l) v) (e : z = (k : Int)) (q : ∀ H' u, Same H H' → At H' (.t (l.drop k)) u → Q u H') : rSlA K v (some z) none H Q := by
  subst e
  obtain ⟨a, vs, rfl, ha, av⟩ := h.inv
  refine ⟨a, vs, rfl, .inl (.inl ha), fun hw => ?_, fun hw p np => ?_⟩
  · have h2 := hw.1
    rw [HT.sIx_nat] at h2
    have hk : k = 0 ∨ l.length = 0 := by rw [← av.length]; omega
    refine q H _ (Same.refl _) ?_
    have el : l.drop k = l := by
      rcases hk with hk | hk
      · rw [hk]; rfl
      · rw [List.eq_nil_of_length_eq_zero hk]; exact List.drop_nil
    rw [el]
    exact h
  · refine q _ _ (Same.new np) (At.tup upd_same ?_)
    have ec : cutV vs (some (k : Int)) none = vs.drop k := by
      unfold cutV
      rw [HT.sIx_none, HT.sIx_nat]
      by_cases hk : k ≤ vs.length
      · rw [Nat.min_eq_left hk]
        exact List.take_of_length_le (by rw [List.length_drop]; omega)
      · rw [Nat.min_eq_right (by omega), List.drop_eq_nil_of_le (Nat.le_refl _), List.drop_eq_nil_of_le (show vs.length ≤ k by omega)]
        exact List.take_nil
    rw [ec]
    exact (av.drop k).same (Same.new np)
theorem slA_dropN {σ : L2.St} {K : PySem.W.Frag} {H : Hp} {l : List D} {v : V} {z : Int} {k : Nat} {Q : VK} (h : At H (.t l) v) (e : z = (k : Int)) (q : ∀ H' u, Same H H' → At H' (.t (l.drop k)) u → Q u H') : tNoPart σ H fun o H3 => rSlA K v (some z) o H3 Q :=
  slA_drop h e q
def spLaw (K : PySem.W.Frag) : Sp := fun vs H Q _ => ∃ (a : Addr) (ns : List Int), vs = [.ref a] ∧ SqL K H a (ns.map V.int) ∧ ns.length ≤ 63 ∧ ∀ H', Q (.bl true) H'
/-! ### depth -/
def Dep : Nat → D → Prop
  | 0, .t _ => False
  | k + 1, .t l => l.length ≤ 1000000 ∧ ∀ d ∈ l, Dep k d
  | _, _ => True
theorem Dep.row {ps : List (Int × Int)} (h : ps.length ≤ 1000000) : Dep 2 (dR ps) := by
  refine ⟨by rw [List.length_map]; exact h, fun d hd => ?_⟩
  obtain ⟨x, _, rfl⟩ := List.mem_map.mp hd
  refine ⟨(show 2 ≤ 1000000 by decide), fun e he => ?_⟩
  rcases List.mem_cons.mp he with h | h
  · rw [h]; trivial
  · rw [List.mem_singleton.mp h]; trivial
theorem Dep.pair (x : Int × Int) : Dep 1 (dP x) := by
  refine ⟨(show 2 ≤ 1000000 by decide), fun e he => ?_⟩
  rcases List.mem_cons.mp he with h | h
  · rw [h]; trivial
  · rw [List.mem_singleton.mp h]; trivial
/-! ### calls in short -/
abbrev FnP (K : PySem.W.Frag) (x : Str) (st : Stmt) (f : Addr) (fd : FuncData) : Prop := FunD K x x (defArgs st) (defBody st) (defScope st) [] [] f fd
/-- the module's name x is a def that keeps sp at level k -/
structure Cl (P : Program) (w : World) (K : PySem.W.Frag) (mg : Str → Option Value) (base : Heap) (k : Nat) (x : Str) (ps : List Str) (sp : Sp) : Prop where
  ex : ∃ (f : Addr) (fd : FuncData), mg x = some (.ref f) ∧ PySem.W.keepIn K (.ref f) = true ∧ Binds K fd ps [] ∧ FnOk P w K mg base CX0 k f fd ps sp
theorem Cl.mono {P : Program} {w : World} {K : PySem.W.Frag} {mg : Str → Option Value} {base : Heap} {j k : Nat} {x : Str} {ps : List Str} {sp : Sp} (c : Cl P w K mg base j x ps sp) (h : j ≤ k) : Cl P w K mg base k x ps sp := by
  obtain ⟨f, fd, a, b, d, e⟩ := c.ex
  exact ⟨f, fd, a, b, d, e.mono h⟩
theorem pe_cl {X : Cx} {k : Nat} {x : Str} {ps : List Str} {sp : Sp} {e : Expr} {es : List Expr} {t : TA} {p pos : Pos} (c : Cl X.prog X.w X.K X.mg X.base k x ps sp) (hr : Room k X.A) (hg : Gl X x) (ha : PA X (e :: es) t)
    (hdb : (x == ("__debug__" : Str)) = false := by decide) (he : starEach (e :: es) X.env = (false, eval e X.env) :: starEach es X.env := by rfl) (hpl : (backTo pos (starEach es X.env)).any (·.1) = false := by rfl) :
    PE X (.Call (.Name x p) (e :: es) [] pos) (tCall sp [] E0 t) := by
  obtain ⟨f, fd, a, b, d, F⟩ := c.ex
  exact pe_call F hr hg a b d .nil pass0 ha hdb he hpl
/-! ### the mathematics of pairs and rows -/
/-- what is gained and the deepest dip, from t and d on -/
def dipf : List (Int × Int) → Int → Int → Int × Int
  | [], t, d => (t, d)
  | x :: r, t, d => dipf r (t - x.1 + x.2) (if t - x.1 < d then t - x.1 else d)
def inOne (ps : List (Int × Int)) : Int × Int := (0 - (dipf ps 0 0).2, (dipf ps 0 0).1 - (dipf ps 0 0).2)
def jn (x y : Int × Int) : Int × Int := (x.1 + (if y.1 - x.2 > 0 then y.1 - x.2 else 0), y.2 + (if x.2 - y.1 > 0 then x.2 - y.1 else 0))
theorem dipf_append : ∀ (a b : List (Int × Int)) (t d : Int), dipf (a ++ b) t d = dipf b (dipf a t d).1 (dipf a t d).2
  | [], b, t, d => rfl
  | x :: a, b, t, d => by
    rw [List.cons_append]
    exact dipf_append a b _ _
theorem dipf_take {ps : List (Int × Int)} {i : Nat} {r : Int × Int} (h : ps[i]? = some r) (t d : Int) :
    dipf (ps.take (i + 1)) t d = ((dipf (ps.take i) t d).1 - r.1 + r.2, if (dipf (ps.take i) t d).1 - r.1 < (dipf (ps.take i) t d).2 then (dipf (ps.take i) t d).1 - r.1 else (dipf (ps.take i) t d).2) := by
  rw [List.take_add_one, h, dipf_append]
  rfl
theorem foldl_take {α β : Type} {f : β → α → β} {x : β} {ps : List α} {i : Nat} {r : α} (h : ps[i]? = some r) : (ps.take (i + 1)).foldl f x = f ((ps.take i).foldl f x) r := by
  rw [List.take_add_one, h, List.foldl_append]
  rfl
theorem jn_assoc (x y z : Int × Int) : jn (jn x y) z = jn x (jn y z) := by
  unfold jn
  refine Prod.ext ?_ ?_
  · dsimp only
    repeat' split
    all_goals omega
  · dsimp only
    repeat' split
    all_goals omega
theorem jn_zero {x : Int × Int} (h : 0 ≤ x.1) : jn (0, 0) x = x := by
  unfold jn
  refine Prod.ext ?_ ?_
  · dsimp only
    split <;> omega
  · dsimp only
    split <;> omega
theorem jn_zero' {x : Int × Int} (h : 0 ≤ x.2) : jn x (0, 0) = x := by
  unfold jn
  refine Prod.ext ?_ ?_
  · dsimp only
    split <;> omega
  · dsimp only
    split <;> omega
def Nn (x : Int × Int) : Prop := 0 ≤ x.1 ∧ 0 ≤ x.2
theorem jn_nn {x y : Int × Int} (hx : Nn x) (hy : Nn y) : Nn (jn x y) := by
  obtain ⟨h1, h2⟩ := hx
  obtain ⟨h3, h4⟩ := hy
  unfold jn Nn
  dsimp only
  constructor <;> split <;> omega
def wl : List (Int × Int) → Int × Int
  | [] => (0, 0)
  | x :: r => jn x (wl r)
theorem wl_nn : ∀ {ps : List (Int × Int)}, (∀ x ∈ ps, Nn x) → Nn (wl ps)
  | [], _ => ⟨by decide, by decide⟩
  | x :: r, h => jn_nn (h x (List.mem_cons_self ..)) (wl_nn fun y hy => h y (List.mem_cons_of_mem _ hy))
theorem dipf_wl : ∀ (ps : List (Int × Int)) (t d : Int), (∀ x ∈ ps, Nn x) → dipf ps t d = (t + (wl ps).2 - (wl ps).1, if ps = [] then d else if t - (wl ps).1 < d then t - (wl ps).1 else d)
  | [], t, d, _ => by
    unfold dipf wl
    refine Prod.ext ?_ ?_
    · dsimp only
      omega
    · rfl
  | x :: r, t, d, h => by
    have hx := h x (List.mem_cons_self ..)
    have hr := wl_nn (ps := r) fun y hy => h y (List.mem_cons_of_mem _ hy)
    have ih := dipf_wl r (t - x.1 + x.2) (if t - x.1 < d then t - x.1 else d) fun y hy => h y (List.mem_cons_of_mem _ hy)
    show dipf r _ _ = _
    have hz : r = [] → wl r = (0, 0) := fun e => by rw [e]; rfl
    rw [ih, if_neg (List.cons_ne_nil x r), show wl (x :: r) = jn x (wl r) from rfl]
    obtain ⟨h1, h2⟩ := hx
    obtain ⟨h3, h4⟩ := hr
    generalize wl r = m at *
    unfold jn
    refine Prod.ext ?_ ?_
    · dsimp only
      repeat' split
      all_goals omega
    · dsimp only
      by_cases e : r = []
      · have hm := hz e
        subst hm
        rw [if_pos e]
        dsimp only
        repeat' split
        all_goals omega
      · rw [if_neg e]
        repeat' split
        all_goals omega
theorem inOne_wl {ps : List (Int × Int)} (h : ∀ x ∈ ps, Nn x) : inOne ps = wl ps := by
  have hn := wl_nn h
  unfold inOne
  rw [dipf_wl ps 0 0 h]
  obtain ⟨h3, h4⟩ := hn
  by_cases e : ps = []
  · subst e
    rfl
  · refine Prod.ext ?_ ?_
    · dsimp only
      rw [if_neg e]
      split <;> omega
    · dsimp only
      rw [if_neg e]
      split <;> omega
theorem foldl_wl : ∀ (ps : List (Int × Int)) (x : Int × Int), 0 ≤ x.2 → (∀ y ∈ ps, Nn y) → ps.foldl jn x = jn x (wl ps)
  | [], x, h, _ => (jn_zero' h).symm
  | y :: r, x, h, hn => by
    show r.foldl jn (jn x y) = jn x (jn y (wl r))
    rw [← jn_assoc]
    refine foldl_wl r (jn x y) ?_ fun z hz => hn z (List.mem_cons_of_mem _ hz)
    obtain ⟨h3, h4⟩ := hn y (List.mem_cons_self ..)
    unfold jn
    dsimp only
    split <;> omega
theorem whole_wl {ps : List (Int × Int)} (h : ∀ x ∈ ps, Nn x) : ps.foldl jn (0, 0) = wl ps := by
  rw [foldl_wl ps (0, 0) (by decide) h]
  exact jn_zero (wl_nn h).1
theorem wl_append : ∀ (a b : List (Int × Int)), (∀ x ∈ b, Nn x) → wl (a ++ b) = jn (wl a) (wl b)
  | [], b, h => (jn_zero (wl_nn h).1).symm
  | x :: a, b, h => by
    show jn x (wl (a ++ b)) = jn (jn x (wl a)) (wl b)
    rw [wl_append a b h, jn_assoc]
theorem nn_take {ps : List (Int × Int)} (h : ∀ x ∈ ps, Nn x) (k : Nat) : ∀ x ∈ ps.take k, Nn x := fun x hx => h x (List.mem_of_mem_take hx)
theorem nn_drop {ps : List (Int × Int)} (h : ∀ x ∈ ps, Nn x) (k : Nat) : ∀ x ∈ ps.drop k, Nn x := fun x hx => h x (List.mem_of_mem_drop hx)
theorem wl_cut {ps : List (Int × Int)} (h : ∀ x ∈ ps, Nn x) (k : Nat) : jn (wl (ps.take k)) (wl (ps.drop k)) = wl ps := by
  rw [← wl_append _ _ (nn_drop h k), List.take_append_drop]
theorem one_cut {ps : List (Int × Int)} (h : ∀ x ∈ ps, Nn x) (k : Nat) : jn (inOne (ps.take k)) (inOne (ps.drop k)) = inOne ps := by
  rw [inOne_wl h, inOne_wl (nn_take h k), inOne_wl (nn_drop h k), wl_cut h]
theorem whole_cut {ps : List (Int × Int)} (h : ∀ x ∈ ps, Nn x) (k : Nat) : jn ((ps.take k).foldl jn (0, 0)) ((ps.drop k).foldl jn (0, 0)) = inOne ps := by
  rw [inOne_wl h, whole_wl (nn_take h k), whole_wl (nn_drop h k), wl_cut h]
theorem nn_three {x y z : Int × Int} (hx : Nn x) (hy : Nn y) (hz : Nn z) : ∀ u ∈ [x, y, z], Nn u := fun u hu => by
  rcases List.mem_cons.mp hu with h | h
  · rw [h]; exact hx
  rcases List.mem_cons.mp h with h | h
  · rw [h]; exact hy
  · rw [List.mem_singleton.mp h]; exact hz
theorem three_b {x y z : Int × Int} (hx : Nn x) (hy : Nn y) (hz : Nn z) : jn x (jn y z) = inOne [x, y, z] := by
  rw [inOne_wl (nn_three hx hy hz)]
  show _ = jn x (jn y (jn z (0, 0)))
  rw [jn_zero' hz.2]
theorem three_a {x y z : Int × Int} (hx : Nn x) (hy : Nn y) (hz : Nn z) : jn (jn x y) z = inOne [x, y, z] := by
  rw [jn_assoc, three_b hx hy hz]
/-! ### the text -/
def top (i : Nat) : Stmt := PySem.Challenge.pw_stintpurse_k04_pairs_put_together.main.body.getD i (.Pass ⟨0, 0, 0, 0⟩)
abbrev s_law_take : Stmt := top 5
theorem sc_law_take : FnScope ["_law_stream_here", "_law_below", "_law_cells", "_law_begun", "_law_left", "_law_blend"] ["_law_stream_here", "_law_below"] (defScope s_law_take) := ⟨rfl, rfl, rfl, by decide +kernel, rfl, by decide +kernel, by decide +kernel⟩
abbrev s_law_number : Stmt := top 6
theorem sc_law_number : FnScope ["_law_stream_here", "_law_way"] ["_law_stream_here"] (defScope s_law_number) := ⟨rfl, rfl, rfl, by decide +kernel, rfl, by decide +kernel, by decide +kernel⟩
abbrev s_law_pair : Stmt := top 7
theorem sc_law_pair : FnScope ["_law_stream_here", "_law_need"] ["_law_stream_here"] (defScope s_law_pair) := ⟨rfl, rfl, rfl, by decide +kernel, rfl, by decide +kernel, by decide +kernel⟩
abbrev s_law_row : Stmt := top 8
theorem sc_law_row : FnScope ["_law_stream_here", "_law_most", "_law_found", "_law_k"] ["_law_stream_here", "_law_most"] (defScope s_law_row) := ⟨rfl, rfl, rfl, by decide +kernel, rfl, by decide +kernel, by decide +kernel⟩
abbrev s_law_stream : Stmt := top 4
theorem sc_law_stream : FnScope ["_law_script", "_law_cell"] ["_law_script"] (defScope s_law_stream) := ⟨rfl, rfl, rfl, by decide +kernel, rfl, by decide +kernel, by decide +kernel⟩
abbrev s_law_alike : Stmt := top 9
theorem sc_law_alike : FnScope ["_law_found", "_law_due", "_law_k"] ["_law_found", "_law_due"] (defScope s_law_alike) := ⟨rfl, rfl, rfl, by decide +kernel, rfl, by decide +kernel, by decide +kernel⟩
abbrev s_law_in_one : Stmt := top 10
theorem sc_law_in_one : FnScope ["_law_row_here", "_law_tall", "_law_deepest", "_law_need", "_law_leave"] ["_law_row_here"] (defScope s_law_in_one) := ⟨rfl, rfl, rfl, by decide +kernel, rfl, by decide +kernel, by decide +kernel⟩
abbrev s_joined : Stmt := top 1
theorem sc_joined : FnScope ["one", "other", "need", "left", "wanted", "leave"] ["one", "other"] (defScope s_joined) := ⟨rfl, rfl, rfl, by decide +kernel, rfl, by decide +kernel, by decide +kernel⟩
abbrev s_whole : Stmt := top 2
theorem sc_whole : FnScope ["row", "made", "pair"] ["row"] (defScope s_whole) := ⟨rfl, rfl, rfl, by decide +kernel, rfl, by decide +kernel, by decide +kernel⟩
abbrev s_law : Stmt := top 11
theorem sc_law : FnScope ["_law_script", "_law_stream_here", "_law_turn", "_law_row_here", "_law_due", "_law_at", "_law_one", "_law_two", "_law_three", "_law_told"] ["_law_script"] (defScope s_law) := ⟨rfl, rfl, rfl, by decide +kernel, rfl, by decide +kernel, by decide +kernel⟩
section
variable {P : Program} {w : World} {K : PySem.W.Frag} {mg : Str → Option Value} {base : Heap}

def spTake : Sp := fun vs H Q _ => ∃ (s c : Addr) (n : Int), vs = [.ref s, .int n] ∧ Strm c H s ∧ 0 < n ∧ n < 1073741824 ∧
  ∀ H' r, But s H H' → Strm c H' s → 0 ≤ r → r < n → Q (.int r) H'
theorem ok_take {f : Addr} {fd : FuncData} (F : FnP K "_law_take" s_law_take f fd) (B : Bi mg) : FnOk P w K mg base CX0 1 f fd ["_law_stream_here", "_law_below"] spTake := by
  refine F.ok sc_law_take (fun vs H Q E h => ?_) (fun cdv A outer s H vs Q E hr h => ?_)
  · obtain ⟨s, c, n, rfl, _⟩ := h
    rfl
  obtain ⟨s, c, n, rfl, hS, hn0, hn1, q⟩ := h
  obtain ⟨cs, b, l, bl, hs, hc, hcs, hlen, hb, hl, hbl, hbl2⟩ := hS.ex
  have ncs : c ≠ s := strm_ne hs hc
  refine ⟨_, PSs.nox (pss_cons (ps_asg (pv 0) (pg_unl rfl (pgs_cons (pg_name (i := 2) sc_law_take.nd rfl (.inl rfl)) (pgs_cons (pg_name (i := 3) sc_law_take.nd rfl (.inl rfl)) (pgs_cons (pg_name (i := 4) sc_law_take.nd rfl (.inl rfl)) (pgs_cons (pg_name (i := 5) sc_law_take.nd rfl (.inl rfl)) pgs_nil))))))
    (Evl.pss_cut (ps_if (PW.pt (pw_and (pt_cmpR op_eq (pv 4) pe_int (nomark _)) (pw_and1 (pt_cmpR op_lt (pv 3) (pe_callB (len_ (K := K) rfl) (by rfl) B.len PySem.boot_len (pa_cons (pv 2) pa_nil)) (nomark _))))) (pss_cons (ps_asg (pe_op op_add (pv 3) pe_int) (pg_sub (pv 0) pe_int set_list))
    (pss_one (ps_if (pt_cmpR op_ge (pe_ix (ixL_ (K := K) rfl) (pv 2) (pv 3) (fun _ _ => rfl)) (pe_op op_pow pe_int pe_int) (nomark _)) (pss_one (ps_set (i := 4) sc_law_take.nd rfl (.inl rfl) (pe_ix (ixL_ (K := K) rfl) (pv 2) (pv 3) (fun _ _ => rfl)))) (pss_one (ps_set (i := 5) sc_law_take.nd rfl (.inl rfl) (pe_op op_add (pv 5) (pe_op op_mod (pe_ix (ixL_ (K := K) rfl) (pv 2) (pv 3) (fun _ _ => rfl)) pe_int))))))) pss_nil)
    (pss_cons (ps_if (pt_cmpR op_gt (pv 4) pe_int (nomark _)) (pss_cons (ps_asg (pe_op op_fdiv (pv 4) (pv 1)) (pg_sub (pv 0) pe_int set_list))
    (pss_one (ps_ret (pe_op op_mod (pv 4) (pv 1))))) pss_nil)
    (pss_cons (ps_set (i := 5) sc_law_take.nd rfl (.inl rfl) (pe_op op_mod (pe_op op_add (pe_op op_mul (pv 5) pe_int) pe_int) pe_int))
    (pss_cons (ps_asg (pv 5) (pg_sub (pv 0) pe_int set_list))
    (pss_one (ps_ret (pe_op op_mod (pe_op op_fdiv (pe_op op_mod (pe_op op_mul (pv 5) (pv 5)) pe_int) pe_int) (pv 1))))))))), ?_⟩
  refine ⟨.ref s, rfl, s, _, rfl, .inl (.inl hs), rfl, _, _, rfl, _, _, rfl, _, _, rfl, _, _, rfl, rfl, ?_⟩
  refine ⟨fun σ' H' => ∃ (b' l' bl' : Int), σ' = [some (.ref s), some (.int n), some (.ref c), some (.int b), some (.int l'), some (.int bl')] ∧ H' s = some (.lst [.ref c, .int b', .int l, .int bl]) ∧ But s H H' ∧ 0 ≤ b' ∧ 0 ≤ l' ∧ 0 ≤ bl' ∧ bl' < 4294967296 * 2 ∧ (l' = 0 → l = 0), ?_, ?_⟩
  · refine ⟨_, rfl, rfl, _, rfl, ite2 (fun e => ?_) (fun e => ?_)⟩
    · refine ⟨_, rfl, _, rfl, c, _, rfl, .inl (.inl (.inl hc)), _, _, rfl, rfl, _, rfl, ite2 (fun e2 => ?_) (fun e2 => ?_)⟩
      · have l0 : l = 0 := V.int.inj (of_decide_eq_true e)
        have hb2 : b < ((cs.map V.int).length : Int) := of_decide_eq_true e2
        rw [List.length_map] at hb2
        have hbn : b = (b.toNat : Int) := (Int.toNat_of_nonneg hb).symm
        have hbl3 : b.toNat < cs.length := by omega
        have gc : (cs.map V.int)[b.toNat]? = some (.int cs[b.toNat]) := by
          rw [List.getElem?_map, List.getElem?_eq_getElem hbl3]; rfl
        have g0 : 0 ≤ cs[b.toNat] := hcs _ (List.getElem_mem hbl3)
        refine ⟨_, rfl, b, 1, rfl, rfl, _, rfl, s, _, _, 1, rfl, rfl, hs, rfl, ?_⟩
        have hs1 : upd H s (.lst [.ref c, .int (b + 1), .int l, .int bl]) s = some (.lst [.ref c, .int (b + 1), .int l, .int bl]) := upd_same
        have hc1 : upd H s (.lst [.ref c, .int (b + 1), .int l, .int bl]) c = some (.lst (cs.map V.int)) := by
          rw [upd_ne ncs]; exact hc
        have ga : atI (cs.map V.int) b = some (.int cs[b.toNat]) := at_of hbn gc
        refine ⟨_, rfl, _, rfl, c, _, b, _, rfl, rfl, .inl (.inl hc1), ga, 10, 18, rfl, rfl, ⟨by decide, by decide, by decide⟩, _, _, rfl, rfl, _, rfl, ite2 (fun e3 => ?_) (fun e3 => ?_)⟩
        · have h18 : (10 ^ (18 : Int).toNat : Int) ≤ cs[b.toNat] := of_decide_eq_true e3
          refine ⟨_, rfl, _, rfl, c, _, b, _, rfl, rfl, .inl (.inl hc1), ga, ?_⟩
          refine ⟨b + 1, cs[b.toNat], bl, rfl, hs1, But.put, by omega, g0, hbl, by omega, fun z => ?_⟩
          exact l0
        · refine ⟨_, rfl, _, rfl, _, rfl, c, _, b, _, rfl, rfl, .inl (.inl hc1), ga, _, 2147483629, rfl, rfl, (show (0 : Int) < 2147483629 by decide), _, _, rfl, rfl, ?_⟩
          refine ⟨b + 1, l, bl + cs[b.toNat] % 2147483629, rfl, hs1, But.put, by omega, hl, by omega, by omega, fun z => z⟩
      · exact ⟨b, l, bl, rfl, hs, But.refl _ _, hb, hl, hbl, by omega, fun z => z⟩
    · exact ⟨b, l, bl, rfl, hs, But.refl _ _, hb, hl, hbl, by omega, fun z => z⟩
  · rintro σ' H1 ⟨b', l', bl', rfl, hs1, hB, hb', hl', hbl', hbl2', hl0⟩
    have hc1 : H1 c = some (.lst (cs.map V.int)) := hB c _ ncs hc
    refine ⟨_, rfl, l', 0, rfl, rfl, _, rfl, ite2 (fun e => ?_) (fun e => ?_)⟩
    · have l1 : 0 < l' := of_decide_eq_true e
      refine ⟨_, rfl, _, rfl, l', n, rfl, rfl, ⟨hn0, hn1⟩, _, rfl, s, _, _, 2, rfl, rfl, hs1, rfl, ?_⟩
      refine ⟨_, rfl, _, rfl, l', n, rfl, rfl, hn0, ?_⟩
      refine q _ _ (hB.trans But.put) ⟨cs, b', l' / n, bl, upd_same, ?_, hcs, hlen, hb', Int.ediv_nonneg hl' (Int.le_of_lt hn0), hbl, hbl2⟩ (Int.emod_nonneg _ (Int.ne_of_gt hn0)) (Int.emod_lt_of_pos _ hn0)
      rw [upd_ne ncs]; exact hc1
    · refine ⟨_, rfl, bl', 48271, rfl, rfl, .inr ⟨by decide, by decide⟩, _, 30011, rfl, rfl, _, 2147483647, rfl, rfl, (show (0 : Int) < 2147483647 by decide), ?_⟩
      dsimp only
      have z0 : 0 ≤ (bl' * 48271 + 30011) % 2147483647 := Int.emod_nonneg _ (by decide)
      have z1 : (bl' * 48271 + 30011) % 2147483647 < 2147483647 := Int.emod_lt_of_pos _ (by decide)
      generalize (bl' * 48271 + 30011) % 2147483647 = z at z0 z1 ⊢
      refine ⟨_, rfl, _, rfl, s, _, _, 3, rfl, rfl, hs1, rfl, ?_⟩
      refine ⟨_, rfl, _, rfl, z, z, rfl, rfl, .inl ⟨by omega, by omega⟩, _, 2147483629, rfl, rfl, (show (0 : Int) < 2147483629 by decide), _, 16, rfl, rfl, ⟨by decide, by decide⟩, _, rfl, _, n, rfl, rfl, hn0, ?_⟩
      refine q _ _ (hB.trans But.put) ⟨cs, b', l, z, upd_same, ?_, hcs, hlen, hb', hl, z0, by omega⟩ (Int.emod_nonneg _ (Int.ne_of_gt hn0)) (Int.emod_lt_of_pos _ hn0)
      rw [upd_ne ncs]; exact hc1

def spNumber : Sp := fun vs H Q _ => ∃ (s c : Addr), vs = [.ref s] ∧ Strm c H s ∧
  ∀ H' r, But s H H' → Strm c H' s → 0 ≤ r → r < 10000000000000000000000000000000000000000 → Q (.int r) H'
theorem ok_number {f : Addr} {fd : FuncData} (F : FnP K "_law_number" s_law_number f fd) (c_law_take : Cl P w K mg base 1 "_law_take" ["_law_stream_here", "_law_below"] spTake) : FnOk P w K mg base CX0 2 f fd ["_law_stream_here"] spNumber := by
  refine F.ok sc_law_number (fun vs H Q E h => ?_) (fun cdv A outer s H vs Q E hr h => ?_)
  · obtain ⟨s, c, rfl, _⟩ := h
    rfl
  obtain ⟨s, c, rfl, hS, q⟩ := h
  refine ⟨_, PSs.nox (pss_cons (ps_set (i := 1) sc_law_number.nd rfl (.inl rfl) (pe_cl c_law_take hr (by rfl) (pa_cons (pv 0) (pa_cons pe_int pa_nil))))
    (pss_cons (ps_if (pt_cmpR op_eq (pv 1) pe_int (nomark _)) (pss_one (ps_ret pe_int)) pss_nil)
    (pss_cons (ps_if (pt_cmpR op_lt (pv 1) pe_int (nomark _)) (pss_one (ps_ret (pe_cl c_law_take hr (by rfl) (pa_cons (pv 0) (pa_cons pe_int pa_nil))))) pss_nil)
    (pss_cons (ps_if (pt_cmpR op_lt (pv 1) pe_int (nomark _)) (pss_one (ps_ret (pe_cl c_law_take hr (by rfl) (pa_cons (pv 0) (pa_cons pe_int pa_nil))))) pss_nil)
    (pss_one (ps_ret (pe_op op_add (pe_ix (ixL_ (K := K) rfl) (pe_lst (pa_cons (pe_op op_pow pe_int pe_int) (pa_cons (pe_op op_pow pe_int pe_int) (pa_cons (pe_op op_pow pe_int pe_int) (pa_cons (pe_op op_pow pe_int pe_int) pa_nil))))) (pe_cl c_law_take hr (by rfl) (pa_cons (pv 0) (pa_cons pe_int pa_nil))) (fun _ _ => rfl)) (pe_cl c_law_take hr (by rfl) (pa_cons (pv 0) (pa_cons pe_int pa_nil)))))))))), ?_⟩
  refine ⟨_, rfl, s, c, 16, rfl, hS, by decide, by decide, fun H1 r B1 S1 r0 r1 => ?_⟩
  refine ⟨_, rfl, rfl, _, rfl, ite2 (fun e => ?_) (fun e => ?_)⟩
  · exact q _ _ B1 S1 (by decide) (by decide)
  refine ⟨_, rfl, _, _, rfl, rfl, _, rfl, ite2 (fun e => ?_) (fun e => ?_)⟩
  · exact ⟨_, rfl, s, c, 10, rfl, S1, by decide, by decide, fun H2 r B2 S2 r0 r1 => q _ _ (B1.trans B2) S2 r0 (by omega)⟩
  refine ⟨_, rfl, _, _, rfl, rfl, _, rfl, ite2 (fun e => ?_) (fun e => ?_)⟩
  · exact ⟨_, rfl, s, c, 41, rfl, S1, by decide, by decide, fun H2 r B2 S2 r0 r1 => q _ _ (B1.trans B2) S2 r0 (by omega)⟩
  refine ⟨10, 9, rfl, rfl, ⟨by decide, by decide, by decide⟩, 10, 12, rfl, rfl, ⟨by decide, by decide, by decide⟩, 10, 18, rfl, rfl, ⟨by decide, by decide, by decide⟩, 10, 39, rfl, rfl, ⟨by decide, by decide, by decide⟩, by decide, fun p np => ?_⟩
  have S2 : Strm c (upd H1 p _) s := S1.up (Same.new (o := .lst [V.int (10 ^ (9 : Int).toNat), .int (10 ^ (12 : Int).toNat), .int (10 ^ (18 : Int).toNat), .int (10 ^ (39 : Int).toNat)]) np)
  refine ⟨_, rfl, s, c, 4, rfl, S2, by decide, by decide, fun H3 r B3 S3 r0 r1 => ?_⟩
  have np3 : p ≠ s := by
    obtain ⟨xs, hx⟩ := S1.lst
    exact (ne_of_none hx np).symm
  have hx : ∃ x : Int, atI [V.int (10 ^ (9 : Int).toNat), .int (10 ^ (12 : Int).toNat), .int (10 ^ (18 : Int).toNat), .int (10 ^ (39 : Int).toNat)] r = some (.int x) ∧ 0 ≤ x ∧ x ≤ 1000000000000000000000000000000000000000 := by
    obtain rfl | rfl | rfl | rfl : r = 0 ∨ r = 1 ∨ r = 2 ∨ r = 3 := by omega
    · exact ⟨_, rfl, by decide, by decide⟩
    · exact ⟨_, rfl, by decide, by decide⟩
    · exact ⟨_, rfl, by decide, by decide⟩
    · exact ⟨_, rfl, by decide, by decide⟩
  obtain ⟨x, hx, x0, x1⟩ := hx
  refine ⟨p, _, r, .int x, rfl, rfl, .inl (.inl (B3 p _ np3 upd_same)), hx, ?_⟩
  refine ⟨_, rfl, s, c, 3, rfl, S3, by decide, by decide, fun H4 r4 B4 S4 r40 r41 => ?_⟩
  exact ⟨x, r4, rfl, rfl, q _ _ (B1.trans ((But.new np).trans (B3.trans B4))) S4 (by omega) (by omega)⟩

def spPair : Sp := fun vs H Q _ => ∃ (s c : Addr), vs = [.ref s] ∧ Strm c H s ∧
  ∀ H' v x, But s H H' → Strm c H' s → At H' (dP x) v → 0 ≤ x.1 → x.1 < 10000000000000000000000000000000000000000 → 0 ≤ x.2 → x.2 < 10000000000000000000000000000000000000000 → Q v H'
theorem ok_pair {f : Addr} {fd : FuncData} (F : FnP K "_law_pair" s_law_pair f fd) (B : Bi mg) (c_law_take : Cl P w K mg base 1 "_law_take" ["_law_stream_here", "_law_below"] spTake) (c_law_number : Cl P w K mg base 2 "_law_number" ["_law_stream_here"] spNumber) : FnOk P w K mg base CX0 3 f fd ["_law_stream_here"] spPair := by
  refine F.ok sc_law_pair (fun vs H Q E h => ?_) (fun cdv A outer s H vs Q E hr h => ?_)
  · obtain ⟨s, c, rfl, _⟩ := h
    rfl
  obtain ⟨s, c, rfl, hS, q⟩ := h
  refine ⟨_, PSs.nox (pss_cons (ps_if (pt_cmpR op_eq (pe_cl c_law_take (hr.mono (by decide)) (by rfl) (pa_cons (pv 0) (pa_cons pe_int pa_nil))) pe_int (nomark _)) (pss_one (ps_ret (pe_tup (pa_cons (pe_cl c_law_number hr (by rfl) (pa_cons (pv 0) pa_nil)) (pa_cons (pe_cl c_law_number hr (by rfl) (pa_cons (pv 0) pa_nil)) pa_nil))))) pss_nil)
    (pss_cons (ps_set (i := 1) sc_law_pair.nd rfl (.inl rfl) (pe_cl c_law_take (hr.mono (by decide)) (by rfl) (pa_cons (pv 0) (pa_cons pe_int pa_nil))))
    (pss_one (ps_ret (pe_tup (pa_cons (pv 1) (pa_cons (pe_callB (call_max2 rfl) (by rfl) B.max (by decide +kernel) (pa_cons pe_int (pa_cons (pe_op op_sub (pe_op op_add (pv 1) (pe_cl c_law_take (hr.mono (by decide)) (by rfl) (pa_cons (pv 0) (pa_cons pe_int pa_nil)))) pe_int) pa_nil))) pa_nil))))))), ?_⟩
  refine ⟨_, rfl, s, c, 4, rfl, hS, by decide, by decide, fun H1 r B1 S1 r0 r1 => ?_⟩
  refine ⟨rfl, _, rfl, ite2 (fun e => ?_) (fun e => ?_)⟩
  · refine ⟨_, rfl, s, c, rfl, S1, fun H2 x B2 S2 x0 x1 => ?_⟩
    refine ⟨_, rfl, s, c, rfl, S2, fun H3 y B3 S3 y0 y1 => ?_⟩
    refine ⟨sz2, fun p np => ?_⟩
    exact q _ _ (x, y) (B1.trans (B2.trans (B3.trans (But.new np)))) (S3.up (Same.new np)) (At.mkPair upd_same) x0 x1 y0 y1
  · refine ⟨_, rfl, s, c, 12, rfl, S1, by decide, by decide, fun H2 x B2 S2 x0 x1 => ?_⟩
    refine ⟨_, rfl, _, rfl, _, rfl, s, c, 9, rfl, S2, by decide, by decide, fun H3 y B3 S3 y0 y1 => ?_⟩
    refine ⟨x, y, rfl, rfl, _, 4, rfl, rfl, 0, _, rfl, sz2, fun p np => ?_⟩
    refine q _ _ (x, _) (B1.trans (B2.trans (B3.trans (But.new np)))) (S3.up (Same.new np)) (At.mkPair upd_same) x0 (by omega) ?_ ?_
    · show (0 : Int) ≤ if x + y - 4 > 0 then x + y - 4 else 0
      split <;> omega
    · show (if x + y - 4 > 0 then x + y - 4 else 0) < 10000000000000000000000000000000000000000
      split <;> omega

def Bd (x : Int × Int) : Prop := 0 ≤ x.1 ∧ x.1 < 10000000000000000000000000000000000000000 ∧ 0 ≤ x.2 ∧ x.2 < 10000000000000000000000000000000000000000
def spRow : Sp := fun vs H Q _ => ∃ (s c : Addr) (n : Int), vs = [.ref s, .int n] ∧ Strm c H s ∧ 0 ≤ n ∧ n ≤ 1000 ∧
  ∀ H' v ps, But s H H' → Strm c H' s → At H' (dR ps) v → (∀ x ∈ ps, Bd x) → (ps.length : Int) ≤ n → Q v H'
theorem ok_row {f : Addr} {fd : FuncData} (F : FnP K "_law_row" s_law_row f fd) (B : Bi mg) (c_law_take : Cl P w K mg base 1 "_law_take" ["_law_stream_here", "_law_below"] spTake) (c_law_pair : Cl P w K mg base 3 "_law_pair" ["_law_stream_here"] spPair) : FnOk P w K mg base CX0 4 f fd ["_law_stream_here", "_law_most"] spRow := by
  refine F.ok sc_law_row (fun vs H Q E h => ?_) (fun cdv A outer s H vs Q E hr h => ?_)
  · obtain ⟨s, c, n, rfl, _⟩ := h
    rfl
  obtain ⟨s, c, n, rfl, hS, hn0, hn1, q⟩ := h
  refine ⟨_, PSs.nox (pss_cons (ps_set (i := 2) sc_law_row.nd rfl (.inl rfl) (pe_lst pa_nil))
    (pss_cons (ps_for PassesOwn.never rfl (pi_range1 (by rfl) B.range (pa_cons (pe_cl c_law_take (hr.mono (by decide)) (by rfl) (pa_cons (pv 0) (pa_cons (pe_op op_add (pv 1) pe_int) pa_nil))) pa_nil)) (pg_name (i := 3) sc_law_row.nd rfl (.inl rfl))
      (pss_cons (ps_expr (pe_bm PySem.F.plainAttrs_list PySem.F.slot_list_append PySem.F.type_list_append mt_append (pv 2) (pa_cons (pe_cl c_law_pair hr (by rfl) (pa_cons (pv 0) pa_nil)) pa_nil)))
    (pss_one (ps_if (pt_cmpR op_eq (pe_cl c_law_take (hr.mono (by decide)) (by rfl) (pa_cons (pv 0) (pa_cons pe_int pa_nil))) pe_int (nomark _)) (pss_one (ps_asg (pe_ix (ixL_ (K := K) rfl) (pv 2) (pe_cl c_law_take (hr.mono (by decide)) (by rfl) (pa_cons (pv 0) (pa_cons (pe_op op_add (pv 3) pe_int) pa_nil))) (fun _ _ => rfl)) (pg_sub (pv 2) (pv 3) set_list))) pss_nil))))
    (pss_one (ps_ret (pe_callTy (tuple_ (K := K) rfl) (by rfl) B.tuple (by decide +kernel) (pa_cons (pv 2) pa_nil)))))), ?_⟩
  refine ⟨Nat.zero_le _, fun o no => ?_⟩
  obtain ⟨nos, noc⟩ := hS.new no
  refine ⟨_, rfl, _, rfl, n, 1, rfl, rfl, s, c, _, rfl, hS.up (Same.new no), by omega, by omega, fun H1 r B1 S1 r0 r1 => ?_⟩
  refine ⟨r, rfl, by omega, by omega, ?_⟩
  have eo1 : H1 o = some (.lst []) := B1 o _ nos upd_same
  refine for_range (lo := 0) (n := r.toNat) (fun i σ H3 => ∃ (ps : List (Int × Int)) (us : List V) (y : Option V), σ = [some (.ref s), some (.int n), some (.ref o), y] ∧ But s H H3 ∧ Strm c H3 s ∧ H3 o = some (.lst us) ∧ AtL H3 (ps.map dP) us ∧ ps.length = i ∧ ∀ x ∈ ps, Bd x) ?_ ?_ ?_
  · exact ⟨[], [], none, rfl, (But.new no).trans B1, S1, eo1, AtL.nil, rfl, fun x h => by cases h⟩
  · rintro i σ H3 hi ⟨ps, us, y, rfl, B3, S3, eo3, a3, rfl, b3⟩
    have hul : us.length = ps.length := by rw [a3.length, List.length_map]
    have hbig : us.length < sizeLine := szM (by omega)
    refine ⟨_, rfl, .inl ⟨rfl, _, .inl (.inl eo3)⟩, _, rfl, s, c, rfl, S3, fun H4 v x B4 S4 a4 x1 x2 x3 x4 => ?_⟩
    have eo4 : H4 o = some (.lst us) := B4 o _ nos eo3
    refine ⟨o, us, v, rfl, rfl, eo4, hbig, ?_⟩
    have S5 : Strm c (upd H4 o (.lst (us ++ [v]))) s := S4.put nos noc
    have T5 : Tups H4 (upd H4 o (.lst (us ++ [v]))) := fun b xs e => by
      rw [upd_ne (ne_of e eo4 (by intro z; cases z))]; exact e
    have a5 : AtL (upd H4 o (.lst (us ++ [v]))) ((ps ++ [x]).map dP) (us ++ [v]) := by
      rw [List.map_append]
      exact AtL.append (AtL.up T5 _ _ (a3.but S3 B4)) (AtL.cons (At.up T5 _ _ a4) AtL.nil)
    have b5 : ∀ z ∈ ps ++ [x], Bd z := fun z hz => by
      rcases List.mem_append.mp hz with h | h
      · exact b3 z h
      · rw [List.mem_singleton.mp h]; exact ⟨x1, x2, x3, x4⟩
    refine ⟨_, rfl, s, c, 5, rfl, S5, by decide, by decide, fun H6 r6 B6 S6 r60 r61 => ?_⟩
    have eo6 : H6 o = some (.lst (us ++ [v])) := B6 o _ nos upd_same
    have B36 : But s H H6 := ((B3.trans B4).own no).trans B6
    have a6 := a5.but S5 B6
    refine ⟨rfl, _, rfl, ite2 (fun e => ?_) (fun e => ?_)⟩
    · refine ⟨_, rfl, _, rfl, _, rfl, _, 1, rfl, rfl, s, c, _, rfl, S6, by omega, by omega, fun H7 r7 B7 S7 r70 r71 => ?_⟩
      have eo7 : H7 o = some (.lst (us ++ [v])) := B7 o _ nos eo6
      have hr7 : r7 = (r7.toNat : Int) := (Int.toNat_of_nonneg r70).symm
      have hr8 : r7.toNat < (ps ++ [x]).length := by rw [List.length_append, List.length_singleton]; omega
      obtain ⟨u, gu, au⟩ := (a6.but S6 B7).get (i := r7.toNat) (d := dP (ps ++ [x])[r7.toNat]) (by rw [List.getElem?_map, List.getElem?_eq_getElem hr8]; rfl)
      refine ⟨o, _, r7, u, rfl, rfl, .inl (.inl eo7), at_of hr7 gu, _, rfl, _, rfl, o, _, _, ps.length, rfl, rfl, eo7, ixN_of (by omega) (by rw [List.length_append, List.length_singleton]; omega), ?_⟩
      refine ⟨(ps ++ [x]).set ps.length (ps ++ [x])[r7.toNat], _, some (.int (0 + (ps.length : Nat))), rfl, (B36.trans B7).own no, S7.put nos noc, upd_same, ?_, by rw [List.length_set, List.length_append, List.length_singleton], fun z hz => ?_⟩
      · rw [List.map_set]
        exact AtL.up (fun b xs e => by rw [upd_ne (ne_of e eo7 (by intro z; cases z))]; exact e) _ _ ((a6.but S6 B7).set au _)
      · rcases List.mem_or_eq_of_mem_set hz with h | h
        · exact b5 z h
        · rw [h]; exact b5 _ (List.getElem_mem hr8)
    · exact ⟨ps ++ [x], _, some (.int (0 + (ps.length : Nat))), rfl, B36, S6, eo6, a6, by rw [List.length_append, List.length_singleton], b5⟩
  · rintro σ H3 ⟨ps, us, y, rfl, B3, S3, eo3, a3, hl3, b3⟩
    refine ⟨_, rfl, o, us, rfl, .inl ⟨.inl (.inl eo3), fun p np => ?_⟩⟩
    exact q _ _ ps (B3.trans (But.new np)) (S3.up (Same.new np)) (At.tup upd_same (a3.same (Same.new np))) b3 (by omega)

def spStream (K : PySem.W.Frag) : Sp := fun vs H Q _ => ∃ (a : Addr) (ns : List Int), vs = [.ref a] ∧ SqL K H a (ns.map V.int) ∧ ns.length ≤ 63 ∧
  ∀ H' s c, Same H H' → Strm c H' s → Q (.ref s) H'
theorem ok_stream {f : Addr} {fd : FuncData} (F : FnP K "_law_stream" s_law_stream f fd) (B : Bi mg) : FnOk P w K mg base CX0 1 f fd ["_law_script"] (spStream K) := by
  refine F.ok sc_law_stream (fun vs H Q E h => ?_) (fun cdv A outer s H vs Q E hr h => ?_)
  · obtain ⟨a, ns, rfl, _⟩ := h
    rfl
  obtain ⟨a, ns, rfl, hS, hn, q⟩ := h
  refine ⟨_, PSs.nox (pss_one (ps_ret (pe_lst (pa_cons (pe_lc (own := [("_law_cell", 1)]) rfl sc_law_stream.nd (pi_list (pe_slice (slL_ (K := K) rfl) (pv 0) po_none (po_some pe_int))) (blkOk_by (N := ["_law_script", "_law_cell"]) (sc := defScope s_law_stream) (by decide +kernel)) (fun _ _ _ _ _ => (pg_name (i := 1) sc_law_stream.nd rfl (.inl rfl))) (fun _ _ _ _ _ => pts_nil) (fun _ _ _ _ _ => (pe_callB call_abs (by rfl) B.abs (by decide +kernel) (pa_cons (pv 1) pa_nil)))) (pa_cons pe_int (pa_cons pe_int (pa_cons (pe_op op_add pe_int (pe_callB (len_ (K := K) rfl) (by rfl) B.len PySem.boot_len (pa_cons (pv 0) pa_nil))) pa_nil))))))), ?_⟩
  refine ⟨_, rfl, 63, rfl, a, ns.map V.int, rfl, hS, fun p np => ?_⟩
  have ecut : cutV (ns.map V.int) none (some 63) = ns.map V.int := by
    unfold cutV
    rw [HT.sIx_none, show HT.sIx (ns.map V.int).length (ns.map V.int).length (some 63) = min 63 (ns.map V.int).length from HT.sIx_nat _ _ 63, List.length_map]
    rw [show min 63 ns.length = ns.length by omega]
    rw [List.drop_zero]
    exact List.take_of_length_le (by rw [List.length_map]; omega)
  rw [ecut]
  have s1 : Same H (upd H p (.lst (ns.map V.int))) := Same.new np
  refine ⟨p, rfl, ⟨_, .inl (.inl upd_same)⟩, fun D hD => ?_⟩
  have npD : p ≠ D := ne_of_none upd_same hD
  refine lc_list (xs := ns.map V.int) (fun i H3 => ∃ ms : List Int, ms.length = i ∧ H3 D = some (.lst (ms.map V.int)) ∧ (∀ x ∈ ms, 0 ≤ x) ∧ Same (upd H p (.lst (ns.map V.int))) H3) ?_ ?_ ?_ ?_
  · exact ⟨[], rfl, upd_same, fun x h => by (cases h), Same.new hD⟩
  · rintro i H3 hi ⟨ms, _, _, _, sm⟩
    exact .inl (.inl (sm p _ upd_same))
  · rintro i x H3 hx ⟨ms, rfl, hm, h0, sm⟩
    rw [List.getElem?_map] at hx
    cases hg : ns[ms.length]? with
    | none => rw [hg] at hx; cases hx
    | some z =>
      rw [hg] at hx
      cases hx
      have hlt : ms.length < ns.length := (List.getElem?_eq_some_iff.mp hg).1
      refine ⟨rfl, ?_⟩
      refine lcYes ?_
      refine ⟨_, rfl, z, rfl, ms.map V.int, hm, ?_, ms ++ [if z < 0 then -z else z], by rw [List.length_append, List.length_singleton], ?_, ?_, ?_⟩
      · rw [List.length_map]; exact szM (by omega)
      · rw [upd_same, List.map_append]; rfl
      · intro y hy
        rcases List.mem_append.mp hy with h | h
        · exact h0 y h
        · rw [List.mem_singleton.mp h]; split <;> omega
      · exact Same.own sm hD
  · rintro H3 ⟨ms, hl, hm, h0, sm⟩
    rw [List.length_map] at hl
    refine ⟨_, rfl, a, _, rfl, .inl (sm.seq (s1.seq hS)), _, _, rfl, rfl, sz4, fun s ns2 => ?_⟩
    refine q _ s D (s1.trans (sm.trans (Same.new ns2))) ⟨ms, 0, 0, 7524 + ((ns.map V.int).length : Int), upd_same, ?_, h0, by omega, by decide, by decide, by omega, by rw [List.length_map]; omega⟩
    rw [upd_ne (ne_of_none hm ns2)]; exact hm

def spAlike (k : Nat) : Sp := fun vs H Q _ => ∃ (d : D) (u v : V), vs = [u, v] ∧ Dep k d ∧ At H d u ∧ At H d v ∧ ∀ H', Same H H' → Q (.bl true) H'
theorem alike_step {f : Addr} {fd : FuncData} {k : Nat} {spR : Sp} (F : FnP K "_law_alike" s_law_alike f fd) (B : Bi mg) (c_law_alike : Cl P w K mg base k "_law_alike" ["_law_found", "_law_due"] spR)
    (hR : ∀ (d : D) (u v : V) (H : Hp) (Q : VK) (E : XK) (l : List D), Dep k (.t l) → d ∈ l → At H d u → At H d v → (∀ H', Same H H' → Q (.bl true) H') → spR [u, v] H Q E) : FnOk P w K mg base CX0 (k + 1) f fd ["_law_found", "_law_due"] (spAlike k) := by
  refine F.ok sc_law_alike (fun vs H Q E h => ?_) (fun cdv A outer s H vs Q E hr h => ?_)
  · obtain ⟨d, u, v, rfl, _⟩ := h
    rfl
  obtain ⟨d, u, v, rfl, hd, hu, hv, q⟩ := h
  refine ⟨_, PSs.nox (pss_cons (ps_if (pt_val (pe_callB (isi_ (K := K) rfl) (by rfl) B.isinstance (by decide +kernel) (pa_cons (pv 1) (pa_cons (pe_bltn (by rfl) B.tuple (by decide +kernel) (rel_ty "tuple")) pa_nil)))) (pss_cons (ps_if (PW.pt (pw_or (pt_not (pt_val (pe_callB (isi_ (K := K) rfl) (by rfl) B.isinstance (by decide +kernel) (pa_cons (pv 0) (pa_cons (pe_bltn (by rfl) B.tuple (by decide +kernel) (rel_ty "tuple")) pa_nil))))) (pw_or1 (pt_cmpR op_ne (pe_callB (len_ (K := K) rfl) (by rfl) B.len PySem.boot_len (pa_cons (pv 0) pa_nil)) (pe_callB (len_ (K := K) rfl) (by rfl) B.len PySem.boot_len (pa_cons (pv 1) pa_nil)) (nomark _))))) (pss_one (ps_ret pe_bl)) pss_nil)
    (pss_one (ps_ret (pe_cmpR (eqD_ (K := K) hr.units rfl) (pe_lc (own := [("_law_k", 2)]) rfl sc_law_alike.nd (pi_range1 (by rfl) B.range (pa_cons (pe_callB (len_ (K := K) rfl) (by rfl) B.len PySem.boot_len (pa_cons (pv 1) pa_nil)) pa_nil)) (blkOk_by (N := ["_law_found", "_law_due", "_law_k"]) (sc := defScope s_law_alike) (by decide +kernel)) (fun _ _ _ _ _ => (pg_name (i := 2) sc_law_alike.nd rfl (.inl rfl))) (fun _ _ _ _ _ => (pts_one (pt_not (pt_val (pe_cl c_law_alike hr (by rfl) (pa_cons (pe_ix (ixT_ (K := K) rfl) (pv 0) (pv 2) (fun _ _ => rfl)) (pa_cons (pe_ix (ixT_ (K := K) rfl) (pv 1) (pv 2) (fun _ _ => rfl)) pa_nil))))))) (fun _ _ _ _ _ => (pv 2))) (pe_lst pa_nil) (nomark _))))) pss_nil)
    (pss_cons (ps_if (pt_cmpR op_isN (pv 1) pe_non (nomark _)) (pss_one (ps_ret (pe_cmpR op_isN (pv 0) pe_non (nomark _)))) pss_nil)
    (pss_cons (ps_if (pt_val (pe_callB (isi_ (K := K) rfl) (by rfl) B.isinstance (by decide +kernel) (pa_cons (pv 1) (pa_cons (pe_bltn (by rfl) B.bool (by decide +kernel) (rel_ty "bool")) pa_nil)))) (pss_one (ps_ret (pe_and (pe_callB (isi_ (K := K) rfl) (by rfl) B.isinstance (by decide +kernel) (pa_cons (pv 0) (pa_cons (pe_bltn (by rfl) B.bool (by decide +kernel) (rel_ty "bool")) pa_nil))) (pe_one (pe_cmpR op_eq (pv 0) (pv 1) (nomark _)))))) pss_nil)
    (pss_cons (ps_if (pt_val (pe_callB (isi_ (K := K) rfl) (by rfl) B.isinstance (by decide +kernel) (pa_cons (pv 1) (pa_cons (pe_bltn (by rfl) B.str (by decide +kernel) (rel_ty "str")) pa_nil)))) (pss_one (ps_ret (pe_and (pe_callB (isi_ (K := K) rfl) (by rfl) B.isinstance (by decide +kernel) (pa_cons (pv 0) (pa_cons (pe_bltn (by rfl) B.str (by decide +kernel) (rel_ty "str")) pa_nil))) (pe_one (pe_cmpR op_eq (pv 0) (pv 1) (nomark _)))))) pss_nil)
    (pss_one (ps_ret (pe_and (pe_callB (isi_ (K := K) rfl) (by rfl) B.isinstance (by decide +kernel) (pa_cons (pv 0) (pa_cons (pe_bltn (by rfl) B.int (by decide +kernel) (rel_ty "int")) pa_nil))) (pe_and (pe_not (pe_callB (isi_ (K := K) rfl) (by rfl) B.isinstance (by decide +kernel) (pa_cons (pv 0) (pa_cons (pe_bltn (by rfl) B.bool (by decide +kernel) (rel_ty "bool")) pa_nil)))) (pe_one (pe_cmpR op_eq (pv 0) (pv 1) (nomark _))))))))))), ?_⟩
  cases d with
  | t l =>
    obtain ⟨a, us, rfl, ha, au⟩ := hu.inv
    obtain ⟨b, vs, rfl, hb, bv⟩ := hv.inv
    have hk : ∃ j, k = j + 1 := by
      cases k with
      | zero => exact hd.elim
      | succ j => exact ⟨j, rfl⟩
    obtain ⟨j, rfl⟩ := hk
    have hll : l.length ≤ 1000000 := hd.1
    refine ⟨_, rfl, _, _, _, _, _, rfl, ClsV.ty _, TyX.base (TyOf.tup hb), kit_ty (b := "tuple") (r := true) (by decide +kernel), _, rfl, iteT ?_⟩
    refine ⟨_, rfl, _, _, _, _, _, rfl, ClsV.ty _, TyX.base (TyOf.tup ha), kit_ty (b := "tuple") (r := true) (by decide +kernel), _, rfl, iteF ?_⟩
    refine ⟨_, rfl, a, us, rfl, .inr (.inl (.inl ha)), _, rfl, b, vs, rfl, .inr (.inl (.inl hb)), rfl, _, rfl, ?_⟩
    refine iteNS (by rw [au.length, bv.length]) ?_
    refine ⟨_, rfl, b, vs, rfl, .inr (.inl (.inl hb)), _, rfl, by omega, by rw [bv.length]; omega, fun D hD => ?_⟩
    refine lc_range (lo := 0) (n := vs.length) (fun i H3 => Same H H3 ∧ H3 D = some (.lst [])) ⟨Same.new hD, upd_same⟩ ?_ ?_
    · rintro i H3 hi ⟨sm, eD⟩
      have hil : i < l.length := by rw [← bv.length]; exact hi
      have gl : l[i]? = some l[i] := List.getElem?_eq_getElem hil
      obtain ⟨x, gx, ax⟩ := au.get gl
      obtain ⟨y, gy, ay⟩ := bv.get gl
      refine ⟨rfl, ?_⟩
      refine ⟨_, rfl, _, rfl, a, us, _, x, rfl, rfl, .inl (.inl (sm _ _ ha)), at_of (by omega) gx, _, rfl, _, rfl, b, vs, _, y, rfl, rfl, .inl (.inl (sm _ _ hb)), at_of (by omega) gy, ?_⟩
      refine hR l[i] x y H3 _ _ l hd (List.getElem_mem hil) (ax.same sm) (ay.same sm) fun H4 sm4 => ?_
      exact ⟨_, rfl, iteF ⟨sm.trans sm4, sm4 _ _ eD⟩⟩
    · rintro H3 ⟨sm, eD⟩
      refine ⟨Nat.zero_le _, fun p np => ?_⟩
      refine ⟨.list [], .list [], .lst (.inl (.inl (Same.new np _ _ eD))) .nil, .lst (.inl (.inl upd_same)) .nil, rfl, rfl, ?_⟩
      exact q _ (sm.trans (Same.new np))
  | n =>
    unfold At at hu hv
    subst hu hv
    refine ⟨_, rfl, _, _, _, _, _, rfl, ClsV.ty _, TyX.base .non, kit_ty (b := "tuple") (r := false) (by decide +kernel), _, rfl, iteF ?_⟩
    refine ⟨_, rfl, rfl, _, rfl, iteT ?_⟩
    exact ⟨_, rfl, rfl, q _ (Same.refl _)⟩
  | b x =>
    unfold At at hu hv
    subst hu hv
    refine ⟨_, rfl, _, _, _, _, _, rfl, ClsV.ty _, TyX.base (.bl x), kit_ty (b := "tuple") (r := false) (by decide +kernel), _, rfl, iteF ?_⟩
    refine ⟨_, rfl, rfl, _, rfl, iteF ?_⟩
    refine ⟨_, rfl, _, _, _, _, _, rfl, ClsV.ty _, TyX.base (.bl x), kit_ty (b := "bool") (r := true) (by decide +kernel), _, rfl, iteT ?_⟩
    refine ⟨_, rfl, _, _, _, _, _, rfl, ClsV.ty _, TyX.base (.bl x), kit_ty (b := "bool") (r := true) (by decide +kernel), _, rfl, iteT ?_⟩
    refine ⟨_, rfl, _, rfl, rfl, ?_⟩
    rw [decide_eq_true rfl]
    exact q _ (Same.refl _)
  | s x =>
    unfold At at hu hv
    subst hu hv
    refine ⟨_, rfl, _, _, _, _, _, rfl, ClsV.ty _, TyX.base (.str x), kit_ty (b := "tuple") (r := false) (by decide +kernel), _, rfl, iteF ?_⟩
    refine ⟨_, rfl, rfl, _, rfl, iteF ?_⟩
    refine ⟨_, rfl, _, _, _, _, _, rfl, ClsV.ty _, TyX.base (.str x), kit_ty (b := "bool") (r := false) (by decide +kernel), _, rfl, iteF ?_⟩
    refine ⟨_, rfl, _, _, _, _, _, rfl, ClsV.ty _, TyX.base (.str x), kit_ty (b := "str") (r := true) (by decide +kernel), _, rfl, iteT ?_⟩
    refine ⟨_, rfl, _, _, _, _, _, rfl, ClsV.ty _, TyX.base (.str x), kit_ty (b := "str") (r := true) (by decide +kernel), _, rfl, iteT ?_⟩
    refine ⟨_, rfl, _, rfl, rfl, ?_⟩
    rw [decide_eq_true rfl]
    exact q _ (Same.refl _)
  | i x =>
    unfold At at hu hv
    subst hu hv
    refine ⟨_, rfl, _, _, _, _, _, rfl, ClsV.ty _, TyX.base (.int x), kit_ty (b := "tuple") (r := false) (by decide +kernel), _, rfl, iteF ?_⟩
    refine ⟨_, rfl, rfl, _, rfl, iteF ?_⟩
    refine ⟨_, rfl, _, _, _, _, _, rfl, ClsV.ty _, TyX.base (.int x), kit_ty (b := "bool") (r := false) (by decide +kernel), _, rfl, iteF ?_⟩
    refine ⟨_, rfl, _, _, _, _, _, rfl, ClsV.ty _, TyX.base (.int x), kit_ty (b := "str") (r := false) (by decide +kernel), _, rfl, iteF ?_⟩
    refine ⟨_, rfl, _, _, _, _, _, rfl, ClsV.ty _, TyX.base (.int x), kit_ty (b := "int") (r := true) (by decide +kernel), _, rfl, iteT ?_⟩
    refine ⟨_, rfl, _, _, _, _, _, rfl, ClsV.ty _, TyX.base (.int x), kit_ty (b := "bool") (r := false) (by decide +kernel), _, rfl, _, rfl, iteT ?_⟩
    refine ⟨_, rfl, _, rfl, rfl, ?_⟩
    rw [decide_eq_true rfl]
    exact q _ (Same.refl _)
theorem ok_alike {f : Addr} {fd : FuncData} (F : FnP K "_law_alike" s_law_alike f fd) (B : Bi mg) (hm : mg "_law_alike" = some (.ref f)) : ∀ k, FnOk P w K mg base CX0 (k + 1) f fd ["_law_found", "_law_due"] (spAlike k)
  | 0 => by
    have b : Binds K fd ["_law_found", "_law_due"] [] := FunD.bindsN F fun _ _ _ _ _ _ us hl => match us, hl with | [_, _], _ => rfl
    exact alike_step (spR := fun _ _ _ _ => False) F B ⟨f, fd, hm, F.kp, b, ⟨fun _ _ _ _ h => h.elim, fun _ _ _ _ _ _ _ _ _ _ _ _ _ h => h.elim⟩⟩ fun d u v H Q E l h => h.elim
  | k + 1 => by
    have b : Binds K fd ["_law_found", "_law_due"] [] := FunD.bindsN F fun _ _ _ _ _ _ us hl => match us, hl with | [_, _], _ => rfl
    exact alike_step (spR := spAlike k) F B ⟨f, fd, hm, F.kp, b, ok_alike F B hm k⟩ fun d u v H Q E l h hd a1 a2 q => ⟨d, u, v, rfl, h.2 d hd, a1, a2, q⟩

def spInOne : Sp := fun vs H Q _ => ∃ (v : V) (ps : List (Int × Int)), vs = [v] ∧ At H (dR ps) v ∧ ∀ H' u, Same H H' → At H' (dP (inOne ps)) u → Q u H'
theorem ok_in_one {f : Addr} {fd : FuncData} {k : Nat} (F : FnP K "_law_in_one" s_law_in_one f fd) (B : Bi mg) : FnOk P w K mg base CX0 (k + 1) f fd ["_law_row_here"] spInOne := by
  refine F.ok sc_law_in_one (fun vs H Q E h => ?_) (fun cdv A outer s H vs Q E hr h => ?_)
  · obtain ⟨v, ps, rfl, _⟩ := h
    rfl
  obtain ⟨v, ps, rfl, hv, q⟩ := h
  obtain ⟨a, us, rfl, ha, au⟩ := hv.inv
  have hul : us.length = ps.length := by rw [au.length, List.length_map]
  refine ⟨_, PSs.nox (pss_cons (ps_asg (pe_tup (pa_cons pe_int (pa_cons pe_int pa_nil))) (pg_tup rfl (pgs_cons (pg_name (i := 1) sc_law_in_one.nd rfl (.inl rfl)) (pgs_cons (pg_name (i := 2) sc_law_in_one.nd rfl (.inl rfl)) pgs_nil))))
    (pss_cons (ps_for PassesOwn.never rfl (pi_tup (pv 0)) (pg_tup rfl (pgs_cons (pg_name (i := 3) sc_law_in_one.nd rfl (.inl rfl)) (pgs_cons (pg_name (i := 4) sc_law_in_one.nd rfl (.inl rfl)) pgs_nil)))
      (pss_cons (ps_set (i := 2) sc_law_in_one.nd rfl (.inl rfl) (pe_callB (call_min2 rfl) (by rfl) B.min (by decide +kernel) (pa_cons (pv 2) (pa_cons (pe_op op_sub (pv 1) (pv 3)) pa_nil))))
    (pss_one (ps_set (i := 1) sc_law_in_one.nd rfl (.inl rfl) (pe_op op_add (pe_op op_sub (pv 1) (pv 3)) (pv 4))))))
    (pss_one (ps_ret (pe_tup (pa_cons (pe_op op_sub pe_int (pv 2)) (pa_cons (pe_op op_sub (pv 1) (pv 2)) pa_nil))))))), ?_⟩
  refine ⟨sz2, fun p0 np0 => ?_⟩
  refine ⟨p0, _, rfl, .inl (.inl upd_same), rfl, _, _, rfl, _, _, rfl, rfl, ?_⟩
  replace ha := Same.new (o := .tup [.int 0, .int 0]) np0 _ _ ha
  replace au := au.same (Same.new (o := .tup [.int 0, .int 0]) np0)
  have q := fun H' u sm => q H' u ((Same.new (o := .tup [.int 0, .int 0]) np0).trans sm)
  generalize upd H p0 (.tup [.int 0, .int 0]) = H at *
  refine ⟨_, rfl, a, rfl, ⟨us, .inl (.inl ha)⟩, ?_⟩
  refine for_tup (xs := us) (fun i σ H3 => H3 = H ∧ ∃ y z, σ = [some (.ref a), some (.int (dipf (ps.take i) 0 0).1), some (.int (dipf (ps.take i) 0 0).2), y, z]) ⟨rfl, none, none, rfl⟩ ?_ ?_ ?_
  · rintro i σ H3 hi ⟨rfl, _⟩
    exact .inl (.inl ha)
  · rintro i x σ H3 hx ⟨rfl, y, z, rfl⟩
    obtain ⟨d, hd, ad⟩ := au.get' hx
    rw [List.getElem?_map] at hd
    cases hp : ps[i]? with
    | none => rw [hp] at hd; cases hd
    | some r =>
      rw [hp] at hd
      cases hd
      obtain ⟨t, rfl, ht⟩ := ad.pair
      have e := dipf_take hp 0 0
      refine ⟨t, _, rfl, .inl (.inl ht), rfl, _, _, rfl, _, _, rfl, rfl, ?_⟩
      refine ⟨_, rfl, _, rfl, _, rfl, _, _, rfl, rfl, _, _, rfl, ?_⟩
      refine ⟨_, rfl, _, rfl, _, _, rfl, rfl, _, rfl, _, _, rfl, rfl, ?_⟩
      refine ⟨rfl, some (.int r.1), some (.int r.2), ?_⟩
      rw [e]
      rfl
  · rintro σ H3 ⟨rfl, y, z, rfl⟩
    rw [List.take_of_length_le (by omega)]
    refine ⟨_, rfl, 0, _, rfl, rfl, _, rfl, _, rfl, _, _, rfl, rfl, sz2, fun p np => ?_⟩
    exact q _ _ (Same.new np) (At.mkPair upd_same)

def spJoined : Sp := fun vs H Q _ => ∃ (u v : V) (x y : Int × Int), vs = [u, v] ∧ At H (dP x) u ∧ At H (dP y) v ∧ ∀ H' u, Same H H' → At H' (dP (jn x y)) u → Q u H'
theorem ok_joined {f : Addr} {fd : FuncData} {k : Nat} (F : FnP K "joined" s_joined f fd) (B : Bi mg) : FnOk P w K mg base CX0 (k + 1) f fd ["one", "other"] spJoined := by
  refine F.ok sc_joined (fun vs H Q E h => ?_) (fun cdv A outer s H vs Q E hr h => ?_)
  · obtain ⟨u, v, x, y, rfl, _⟩ := h
    rfl
  obtain ⟨u, v, x, y, rfl, hu, hv, q⟩ := h
  obtain ⟨a, rfl, ha⟩ := hu.pair
  obtain ⟨b, rfl, hb⟩ := hv.pair
  refine ⟨_, PSs.nox (pss_cons (ps_asg (pv 0) (pg_tup rfl (pgs_cons (pg_name (i := 2) sc_joined.nd rfl (.inl rfl)) (pgs_cons (pg_name (i := 3) sc_joined.nd rfl (.inl rfl)) pgs_nil))))
    (pss_cons (ps_asg (pv 1) (pg_tup rfl (pgs_cons (pg_name (i := 4) sc_joined.nd rfl (.inl rfl)) (pgs_cons (pg_name (i := 5) sc_joined.nd rfl (.inl rfl)) pgs_nil))))
    (pss_one (ps_ret (pe_tup (pa_cons (pe_op op_add (pv 2) (pe_callB (call_max2 rfl) (by rfl) B.max (by decide +kernel) (pa_cons pe_int (pa_cons (pe_op op_sub (pv 4) (pv 3)) pa_nil)))) (pa_cons (pe_op op_add (pv 5) (pe_callB (call_max2 rfl) (by rfl) B.max (by decide +kernel) (pa_cons pe_int (pa_cons (pe_op op_sub (pv 3) (pv 4)) pa_nil)))) pa_nil))))))), ?_⟩
  refine ⟨_, rfl, a, _, rfl, .inl (.inl ha), rfl, _, _, rfl, _, _, rfl, rfl, ?_⟩
  refine ⟨_, rfl, b, _, rfl, .inl (.inl hb), rfl, _, _, rfl, _, _, rfl, rfl, ?_⟩
  refine ⟨_, rfl, _, rfl, _, rfl, _, _, rfl, rfl, _, _, rfl, _, _, rfl, rfl, _, rfl, _, rfl, _, rfl, _, _, rfl, rfl, _, _, rfl, _, _, rfl, rfl, sz2, fun p np => ?_⟩
  exact q _ _ (Same.new np) (At.mkPair upd_same)

def spWhole : Sp := fun vs H Q _ => ∃ (v : V) (ps : List (Int × Int)), vs = [v] ∧ At H (dR ps) v ∧ ∀ H' u, Same H H' → At H' (dP (ps.foldl jn (0, 0))) u → Q u H'
theorem ok_whole {f : Addr} {fd : FuncData} {k : Nat} (F : FnP K "whole" s_whole f fd) (B : Bi mg) (cjoined : Cl P w K mg base (k + 1) "joined" ["one", "other"] spJoined) : FnOk P w K mg base CX0 (k + 2) f fd ["row"] spWhole := by
  refine F.ok sc_whole (fun vs H Q E h => ?_) (fun cdv A outer s H vs Q E hr h => ?_)
  · obtain ⟨v, ps, rfl, _⟩ := h
    rfl
  obtain ⟨v, ps, rfl, hv, q⟩ := h
  obtain ⟨a, us, rfl, ha, au⟩ := hv.inv
  have hul : us.length = ps.length := by rw [au.length, List.length_map]
  refine ⟨_, PSs.nox (pss_cons (ps_set (i := 1) sc_whole.nd rfl (.inl rfl) (pe_tup (pa_cons pe_int (pa_cons pe_int pa_nil))))
    (pss_cons (ps_for PassesOwn.never rfl (pi_tup (pv 0)) (pg_name (i := 2) sc_whole.nd rfl (.inl rfl))
      (pss_one (ps_set (i := 1) sc_whole.nd rfl (.inl rfl) (pe_cl cjoined hr (by rfl) (pa_cons (pv 1) (pa_cons (pv 2) pa_nil))))))
    (pss_one (ps_ret (pv 1))))), ?_⟩
  refine ⟨sz2, fun p np => ?_⟩
  refine ⟨_, rfl, a, rfl, ⟨us, .inl (.inl (Same.new np _ _ ha))⟩, ?_⟩
  refine for_tup (xs := us) (fun i σ H3 => Same H H3 ∧ ∃ m y, At H3 (dP ((ps.take i).foldl jn (0, 0))) m ∧ σ = [some (.ref a), some m, y]) ⟨Same.new np, _, none, At.mkPair upd_same, rfl⟩ ?_ ?_ ?_
  · rintro i σ H3 hi ⟨sm, _⟩
    exact .inl (.inl (sm _ _ ha))
  · rintro i x σ H3 hx ⟨sm, m, y, hm, rfl⟩
    obtain ⟨d, hd, ad⟩ := au.get' hx
    rw [List.getElem?_map] at hd
    cases hp : ps[i]? with
    | none => rw [hp] at hd; cases hd
    | some r =>
      rw [hp] at hd
      cases hd
      refine ⟨_, rfl, _, rfl, m, x, _, r, rfl, hm, ad.same sm, fun H4 u sm4 au4 => ?_⟩
      refine ⟨sm.trans sm4, u, some x, ?_, rfl⟩
      rw [foldl_take hp]
      exact au4
  · rintro σ H3 ⟨sm, m, y, hm, rfl⟩
    rw [List.take_of_length_le (by omega)] at hm
    exact ⟨_, rfl, q _ _ sm hm⟩

theorem ok_law {f : Addr} {fd : FuncData} (F : FnP K "law" s_law f fd) (B : Bi mg)
    (c_law_stream : Cl P w K mg base 1 "_law_stream" ["_law_script"] (spStream K)) (c_law_row : Cl P w K mg base 4 "_law_row" ["_law_stream_here", "_law_most"] spRow) (c_law_in_one : Cl P w K mg base 1 "_law_in_one" ["_law_row_here"] spInOne)
    (c_law_alike : Cl P w K mg base 2 "_law_alike" ["_law_found", "_law_due"] (spAlike 1)) (cjoined : Cl P w K mg base 1 "joined" ["one", "other"] spJoined) (cwhole : Cl P w K mg base 2 "whole" ["row"] spWhole) (c_law_pair : Cl P w K mg base 3 "_law_pair" ["_law_stream_here"] spPair) :
    FnOk P w K mg base CX0 5 f fd ["_law_script"] (spLaw K) := by
  refine F.ok sc_law (fun vs H Q E h => ?_) (fun cdv A outer s H vs Q E hr h => ?_)
  · obtain ⟨a, ns, rfl, _⟩ := h
    rfl
  obtain ⟨a, ns, rfl, hS, hn, q⟩ := h
  refine ⟨_, PSs.nox (pss_cons (ps_set (i := 1) sc_law.nd rfl (.inl rfl) (pe_cl c_law_stream (hr.mono (by decide)) (by rfl) (pa_cons (pv 0) pa_nil)))
    (pss_cons (ps_for PassesOwn.never rfl (pi_range1 (by rfl) B.range (pa_cons pe_int pa_nil)) (pg_name (i := 2) sc_law.nd rfl (.inl rfl))
      (pss_cons (ps_set (i := 3) sc_law.nd rfl (.inl rfl) (pe_cl c_law_row (hr.mono (by decide)) (by rfl) (pa_cons (pv 1) (pa_cons pe_int pa_nil))))
    (pss_cons (ps_set (i := 4) sc_law.nd rfl (.inl rfl) (pe_cl c_law_in_one (hr.mono (by decide)) (by rfl) (pa_cons (pv 3) pa_nil)))
    (pss_cons (ps_for PassesOwn.never rfl (pi_range1 (by rfl) B.range (pa_cons (pe_op op_add (pe_callB (len_ (K := K) rfl) (by rfl) B.len PySem.boot_len (pa_cons (pv 3) pa_nil)) pe_int) pa_nil)) (pg_name (i := 5) sc_law.nd rfl (.inl rfl))
      (pss_cons (ps_if (pt_not (pt_val (pe_cl c_law_alike (hr.mono (by decide)) (by rfl) (pa_cons (pe_cl cjoined (hr.mono (by decide)) (by rfl) (pa_cons (pe_cl c_law_in_one (hr.mono (by decide)) (by rfl) (pa_cons (pe_slice (slT_ (K := K) rfl) (pv 3) po_none (po_some (pv 5))) pa_nil)) (pa_cons (pe_cl c_law_in_one (hr.mono (by decide)) (by rfl) (pa_cons (pe_slice (slT_ (K := K) rfl) (pv 3) (po_some (pv 5)) po_none) pa_nil)) pa_nil))) (pa_cons (pv 4) pa_nil))))) (pss_one (ps_ret pe_bl)) pss_nil)
    (pss_one (ps_if (pt_not (pt_val (pe_cl c_law_alike (hr.mono (by decide)) (by rfl) (pa_cons (pe_cl cjoined (hr.mono (by decide)) (by rfl) (pa_cons (pe_cl cwhole (hr.mono (by decide)) (by rfl) (pa_cons (pe_slice (slT_ (K := K) rfl) (pv 3) po_none (po_some (pv 5))) pa_nil)) (pa_cons (pe_cl cwhole (hr.mono (by decide)) (by rfl) (pa_cons (pe_slice (slT_ (K := K) rfl) (pv 3) (po_some (pv 5)) po_none) pa_nil)) pa_nil))) (pa_cons (pv 4) pa_nil))))) (pss_one (ps_ret pe_bl)) pss_nil))))
    (pss_cons (ps_set (i := 6) sc_law.nd rfl (.inl rfl) (pe_cl c_law_pair (hr.mono (by decide)) (by rfl) (pa_cons (pv 1) pa_nil)))
    (pss_cons (ps_set (i := 7) sc_law.nd rfl (.inl rfl) (pe_cl c_law_pair (hr.mono (by decide)) (by rfl) (pa_cons (pv 1) pa_nil)))
    (pss_cons (ps_set (i := 8) sc_law.nd rfl (.inl rfl) (pe_cl c_law_pair (hr.mono (by decide)) (by rfl) (pa_cons (pv 1) pa_nil)))
    (pss_cons (ps_set (i := 4) sc_law.nd rfl (.inl rfl) (pe_cl c_law_in_one (hr.mono (by decide)) (by rfl) (pa_cons (pe_tup (pa_cons (pv 6) (pa_cons (pv 7) (pa_cons (pv 8) pa_nil)))) pa_nil)))
    (pss_cons (ps_if (pt_not (pt_val (pe_cl c_law_alike (hr.mono (by decide)) (by rfl) (pa_cons (pe_cl cjoined (hr.mono (by decide)) (by rfl) (pa_cons (pe_cl cjoined (hr.mono (by decide)) (by rfl) (pa_cons (pv 6) (pa_cons (pv 7) pa_nil))) (pa_cons (pv 8) pa_nil))) (pa_cons (pv 4) pa_nil))))) (pss_one (ps_ret pe_bl)) pss_nil)
    (pss_cons (ps_if (pt_not (pt_val (pe_cl c_law_alike (hr.mono (by decide)) (by rfl) (pa_cons (pe_cl cjoined (hr.mono (by decide)) (by rfl) (pa_cons (pv 6) (pa_cons (pe_cl cjoined (hr.mono (by decide)) (by rfl) (pa_cons (pv 7) (pa_cons (pv 8) pa_nil))) pa_nil))) (pa_cons (pv 4) pa_nil))))) (pss_one (ps_ret pe_bl)) pss_nil)
    (pss_one (ps_for PassesOwn.never rfl (pi_list (pe_lst (pa_cons (pe_cl cjoined (hr.mono (by decide)) (by rfl) (pa_cons (pe_tup (pa_cons pe_int (pa_cons pe_int pa_nil))) (pa_cons (pv 6) pa_nil))) (pa_cons (pe_cl cjoined (hr.mono (by decide)) (by rfl) (pa_cons (pv 6) (pa_cons (pe_tup (pa_cons pe_int (pa_cons pe_int pa_nil))) pa_nil))) pa_nil)))) (pg_name (i := 9) sc_law.nd rfl (.inl rfl))
      (pss_one (ps_if (pt_not (pt_val (pe_cl c_law_alike (hr.mono (by decide)) (by rfl) (pa_cons (pv 9) (pa_cons (pv 6) pa_nil))))) (pss_one (ps_ret pe_bl)) pss_nil))))))))))))))
    (pss_one (ps_ret pe_bl)))), ?_⟩
  refine ⟨_, rfl, a, ns, rfl, hS, hn, fun H1 s c sm1 S1 => ?_⟩
  refine ⟨6, rfl, by decide, by decide, ?_⟩
  refine for_range (lo := 0) (n := 6) (fun i σ H3 => Strm c H3 s ∧ ∃ y2 y3 y4 y5 y6 y7 y8 y9, σ = [some (.ref a), some (.ref s), y2, y3, y4, y5, y6, y7, y8, y9]) ⟨S1, none, none, none, none, none, none, none, none, rfl⟩ ?_ ?_
  · rintro i σ H3 hi ⟨S3, y2, y3, y4, y5, y6, y7, y8, y9, rfl⟩
    refine ⟨_, rfl, s, c, 12, rfl, S3, by decide, by decide, fun H4 r ps B4 S4 a4 b4 l4 => ?_⟩
    have hN : ∀ x ∈ ps, Nn x := fun x hx => ⟨(b4 x hx).1, (b4 x hx).2.2.1⟩
    refine ⟨_, rfl, r, ps, rfl, a4, fun H5 u sm5 a5 => ?_⟩
    obtain ⟨ra, rvs, re, rh, rl⟩ := id (a4.same sm5).inv
    have hrl : rvs.length = ps.length := by rw [rl.length, List.length_map]
    refine ⟨_, rfl, ra, rvs, re ▸ rfl, .inr (.inl (.inl rh)), _, 1, rfl, rfl, _, rfl, by omega, by omega, ?_⟩
    refine for_range (lo := 0) (n := ((rvs.length : Int) + 1).toNat) (fun j σ H6 => Strm c H6 s ∧ At H6 (dR ps) r ∧ At H6 (dP (inOne ps)) u ∧ ∃ y5, σ = [some (.ref a), some (.ref s), some (.int (0 + (i : Nat))), some r, some u, y5, y6, y7, y8, y9]) ⟨S4.up sm5, a4.same sm5, a5, y5, rfl⟩ ?_ ?_
    · rintro j σ H6 hj ⟨S6, r6, u6, y5, rfl⟩
      refine ⟨r, rfl, _, rfl, _, rfl, slA_take (k := j) r6 (by omega) fun H7 v7 sm7 a7 => ?_⟩
      rw [← List.map_take] at a7
      refine ⟨v7, ps.take j, rfl, a7, fun H8 v8 sm8 a8 => ?_⟩
      refine ⟨r, rfl, _, rfl, _, rfl, slA_dropN (k := j) ((r6.same sm7).same sm8) (by omega) fun H9 v9 sm9 a9 => ?_⟩
      rw [← List.map_drop] at a9
      refine ⟨v9, ps.drop j, rfl, a9, fun H10 v10 sm10 a10 => ?_⟩
      have sm := sm7.trans (sm8.trans (sm9.trans sm10))
      refine ⟨v8, v10, _, _, rfl, (a8.same sm9).same sm10, a10, fun H11 v11 sm11 a11 => ?_⟩
      rw [one_cut hN] at a11
      refine ⟨u, rfl, _, v11, u, rfl, Dep.pair _, a11, (u6.same sm).same sm11, fun H12 sm12 => ?_⟩
      refine ⟨_, rfl, iteF ?_⟩
      replace sm := sm.trans (sm11.trans sm12)
      replace S6 := S6.up sm
      replace r6 := r6.same sm
      replace u6 := u6.same sm
      clear a7 a8 a9 a10 a11 sm7 sm8 sm9 sm10 sm11 sm12
      refine ⟨r, rfl, _, rfl, _, rfl, slA_take (k := j) r6 (by omega) fun H7 v7 sm7 a7 => ?_⟩
      rw [← List.map_take] at a7
      refine ⟨v7, ps.take j, rfl, a7, fun H8 v8 sm8 a8 => ?_⟩
      refine ⟨r, rfl, _, rfl, _, rfl, slA_dropN (k := j) ((r6.same sm7).same sm8) (by omega) fun H9 v9 sm9 a9 => ?_⟩
      rw [← List.map_drop] at a9
      refine ⟨v9, ps.drop j, rfl, a9, fun H10 v10 sm10 a10 => ?_⟩
      have sm := sm7.trans (sm8.trans (sm9.trans sm10))
      refine ⟨v8, v10, _, _, rfl, (a8.same sm9).same sm10, a10, fun H11 v11 sm11 a11 => ?_⟩
      rw [whole_cut hN] at a11
      refine ⟨u, rfl, _, v11, u, rfl, Dep.pair _, a11, (u6.same sm).same sm11, fun H12 sm12 => ?_⟩
      refine ⟨_, rfl, iteF ?_⟩
      replace sm := sm.trans (sm11.trans sm12)
      exact ⟨S6.up sm, r6.same sm, u6.same sm, _, rfl⟩
    · rintro σ H6 ⟨S6, r6, u6, y5, rfl⟩
      refine ⟨_, rfl, s, c, rfl, S6, fun H7 v7 x7 B7 S7 a7 p7 _ p7' _ => ?_⟩
      refine ⟨_, rfl, s, c, rfl, S7, fun H8 v8 x8 B8 S8 a8 p8 _ p8' _ => ?_⟩
      refine ⟨_, rfl, s, c, rfl, S8, fun H9 v9 x9 B9 S9 a9 p9 _ p9' _ => ?_⟩
      replace a7 := (a7.but S7 B8).but S8 B9
      replace a8 := a8.but S8 B9
      refine ⟨_, rfl, _, rfl, _, rfl, sz3, fun p np => ?_⟩
      have smp : Same H9 (upd H9 p (.tup [v7, v8, v9])) := Same.new np
      refine ⟨_, [x7, x8, x9], rfl, At.tup upd_same (AtL.cons (a7.same smp) (AtL.cons (a8.same smp) (AtL.cons (a9.same smp) AtL.nil))), fun H10 u10 sm10 a10 => ?_⟩
      have sm := smp.trans sm10
      replace a7 := a7.same sm
      replace a8 := a8.same sm
      replace a9 := a9.same sm
      replace S9 := S9.up sm
      clear sm smp sm10
      refine ⟨_, rfl, _, rfl, v7, v8, _, _, rfl, a7, a8, fun H11 v11 sm11 a11 => ?_⟩
      refine ⟨_, rfl, v11, v9, _, _, rfl, a11, a9.same sm11, fun H12 v12 sm12 a12 => ?_⟩
      rw [three_a ⟨p7, p7'⟩ ⟨p8, p8'⟩ ⟨p9, p9'⟩] at a12
      refine ⟨_, rfl, _, v12, u10, rfl, Dep.pair _, a12, (a10.same sm11).same sm12, fun H13 sm13 => ?_⟩
      refine ⟨_, rfl, iteF ?_⟩
      have sm := sm11.trans (sm12.trans sm13)
      replace a7 := a7.same sm
      replace a8 := a8.same sm
      replace a9 := a9.same sm
      replace a10 := a10.same sm
      replace S9 := S9.up sm
      clear sm sm11 sm12 sm13 a11 a12
      refine ⟨_, rfl, _, rfl, _, rfl, v8, v9, _, _, rfl, a8, a9, fun H11 v11 sm11 a11 => ?_⟩
      refine ⟨v7, v11, _, _, rfl, a7.same sm11, a11, fun H12 v12 sm12 a12 => ?_⟩
      rw [three_b ⟨p7, p7'⟩ ⟨p8, p8'⟩ ⟨p9, p9'⟩] at a12
      refine ⟨_, rfl, _, v12, u10, rfl, Dep.pair _, a12, (a10.same sm11).same sm12, fun H13 sm13 => ?_⟩
      refine ⟨_, rfl, iteF ?_⟩
      have sm := sm11.trans (sm12.trans sm13)
      replace a7 := a7.same sm
      replace S9 := S9.up sm
      clear sm sm11 sm12 sm13 a11 a12
      refine ⟨sz2, fun p1 np1 => ?_⟩
      refine ⟨_, rfl, .ref p1, v7, (0, 0), x7, rfl, At.mkPair upd_same, a7.same (Same.new np1), fun H14 v14 sm14 a14 => ?_⟩
      replace a7 := (a7.same (Same.new np1)).same sm14
      replace S9 := (S9.up (Same.new np1)).up sm14
      rw [jn_zero p7] at a14
      refine ⟨_, rfl, sz2, fun p2 np2 => ?_⟩
      refine ⟨v7, .ref p2, x7, (0, 0), rfl, a7.same (Same.new np2), At.mkPair upd_same, fun H15 v15 sm15 a15 => ?_⟩
      replace a7 := (a7.same (Same.new np2)).same sm15
      replace S9 := (S9.up (Same.new np2)).up sm15
      replace a14 := (a14.same (Same.new np2)).same sm15
      rw [jn_zero' p7'] at a15
      refine ⟨sz2, fun p3 np3 => ?_⟩
      have sm3 := Same.new (o := .lst [v14, v15]) np3
      refine ⟨p3, rfl, ⟨_, .inl (.inl upd_same)⟩, ?_⟩
      refine for_list (xs := [v14, v15]) (fun j σ H16 => Strm c H16 s ∧ H16 p3 = some (.lst [v14, v15]) ∧ At H16 (dP x7) v14 ∧ At H16 (dP x7) v15 ∧ At H16 (dP x7) v7 ∧ ∃ z, σ = [some (.ref a), some (.ref s), some (.int (0 + (i : Nat))), some r, some u10, y5, some v7, some v8, some v9, z]) ⟨S9.up sm3, upd_same, a14.same sm3, a15.same sm3, a7.same sm3, y9, rfl⟩ ?_ ?_ ?_
      · rintro j σ H16 hj ⟨S16, e16, _⟩
        exact .inl (.inl e16)
      · rintro j x σ H16 hx ⟨S16, e16, b14, b15, b7, z, rfl⟩
        have bx : At H16 (dP x7) x := by
          match j, hx with
          | 0, hx => cases hx; exact b14
          | 1, hx => cases hx; exact b15
        refine ⟨_, rfl, _, rfl, _, x, v7, rfl, Dep.pair _, bx, b7, fun H17 sm17 => ?_⟩
        exact ⟨_, rfl, iteF ⟨S16.up sm17, sm17 _ _ e16, b14.same sm17, b15.same sm17, b7.same sm17, _, rfl⟩⟩
      · rintro σ H16 ⟨S16, e16, b14, b15, b7, z, rfl⟩
        exact ⟨S16, _, _, _, _, _, _, _, _, rfl⟩
  · rintro σ H3 ⟨S3, y2, y3, y4, y5, y6, y7, y8, y9, rfl⟩
    exact q _
end
/-! ### the head -/
def d_law_take : He.DefD := ⟨("_law_take", none), "_law_take", "_law_take", defArgs s_law_take, defBody s_law_take, defScope s_law_take, [], []⟩
def d_law_number : He.DefD := ⟨("_law_number", none), "_law_number", "_law_number", defArgs s_law_number, defBody s_law_number, defScope s_law_number, [], []⟩
def d_law_pair : He.DefD := ⟨("_law_pair", none), "_law_pair", "_law_pair", defArgs s_law_pair, defBody s_law_pair, defScope s_law_pair, [], []⟩
def d_law_row : He.DefD := ⟨("_law_row", none), "_law_row", "_law_row", defArgs s_law_row, defBody s_law_row, defScope s_law_row, [], []⟩
def d_law_stream : He.DefD := ⟨("_law_stream", none), "_law_stream", "_law_stream", defArgs s_law_stream, defBody s_law_stream, defScope s_law_stream, [], []⟩
def d_law_alike : He.DefD := ⟨("_law_alike", none), "_law_alike", "_law_alike", defArgs s_law_alike, defBody s_law_alike, defScope s_law_alike, [], []⟩
def d_law_in_one : He.DefD := ⟨("_law_in_one", none), "_law_in_one", "_law_in_one", defArgs s_law_in_one, defBody s_law_in_one, defScope s_law_in_one, [], []⟩
def d_joined : He.DefD := ⟨("joined", none), "joined", "joined", defArgs s_joined, defBody s_joined, defScope s_joined, [], []⟩
def d_whole : He.DefD := ⟨("whole", none), "whole", "whole", defArgs s_whole, defBody s_whole, defScope s_whole, [], []⟩
def d_law : He.DefD := ⟨("law", none), "law", "law", defArgs s_law, defBody s_law, defScope s_law, [], []⟩
def fn : List He.DefD := [d_law_take, d_law_number, d_law_pair, d_law_row, d_law_stream, d_law_alike, d_law_in_one, d_joined, d_whole, d_law]
def fa : List He.Fa := [.glo "_law_take", .glo "_law_number", .glo "_law_pair", .glo "_law_row", .glo "_law_stream", .glo "_law_alike", .glo "_law_in_one", .glo "joined", .glo "whole", .glo "law", .free "len", .free "max", .free "min", .free "range", .free "tuple", .free "abs", .free "isinstance", .free "bool", .free "str", .free "int", .free "sum", .free "zip", .free "enumerate", .free "all", .free "any", .free "sorted", .free "repr", .free "list", .free "reversed"]
abbrev R : PySem.W.OpenRow := PySem.W.OpenLaw.row PySem.Challenge.rw_stintpurse_k04_pairs_put_together
abbrev hk : PySem.W.Hook := He.hookD 4 fa fn
def ob (s : PySem.W.SharedT) : He.AlD := He.obsDG 4 fa fn (HandSHeadRun.getT s)
theorem ob_eq (s : PySem.W.SharedT) : ob s = hk.obs s.abs := He.obsDG_eq (HandSHeadRun.getT_eq s)
theorem run (w : World) : HandSHeadRun.RunEq R (PySem.W.view R.prog [11]) hk ob 4000 ["joined", "whole", "_law_stream", "_law_take", "_law_number", "_law_pair", "_law_row", "_law_alike", "_law_in_one"] w := by
  intro os
  kernel_rfl
theorem facts {P : Program} {w : World} {K : PySem.W.Frag} {h : Heap} {mg : Str → Option Value} {f : Addr} (X : K.In h) (G : h.Ns mainGlobals mg) (hfa : mg ("law" : Str) = some (.ref f)) (c : He.SaysD fa fn K) :
    ∃ fd : FuncData, (∀ (s : Shared) (v : Value), BindsTo s fd ⟨[v], []⟩ [("_law_script", v)]) ∧ ∀ base : Heap, K.In base → base.Ns mainGlobals mg → FnOk P w K mg base CX0 5 f fd ["_law_script"] (spLaw K) := by
  obtain ⟨fd_law_take, F_law_take⟩ := c.def_ 0 (d := d_law_take) rfl
  have g_law_take := He.glo_ok X G (c.fact 0 (f := .glo "_law_take") rfl)
  have b_law_take : Binds K fd_law_take ["_law_stream_here", "_law_below"] [] := FunD.bindsN F_law_take fun _ _ _ _ _ _ us hl => match us, hl with | [_, _], _ => rfl
  obtain ⟨fd_law_number, F_law_number⟩ := c.def_ 1 (d := d_law_number) rfl
  have g_law_number := He.glo_ok X G (c.fact 1 (f := .glo "_law_number") rfl)
  have b_law_number : Binds K fd_law_number ["_law_stream_here"] [] := FunD.bindsN F_law_number fun _ _ _ _ _ _ us hl => match us, hl with | [_], _ => rfl
  obtain ⟨fd_law_pair, F_law_pair⟩ := c.def_ 2 (d := d_law_pair) rfl
  have g_law_pair := He.glo_ok X G (c.fact 2 (f := .glo "_law_pair") rfl)
  have b_law_pair : Binds K fd_law_pair ["_law_stream_here"] [] := FunD.bindsN F_law_pair fun _ _ _ _ _ _ us hl => match us, hl with | [_], _ => rfl
  obtain ⟨fd_law_row, F_law_row⟩ := c.def_ 3 (d := d_law_row) rfl
  have g_law_row := He.glo_ok X G (c.fact 3 (f := .glo "_law_row") rfl)
  have b_law_row : Binds K fd_law_row ["_law_stream_here", "_law_most"] [] := FunD.bindsN F_law_row fun _ _ _ _ _ _ us hl => match us, hl with | [_, _], _ => rfl
  obtain ⟨fd_law_stream, F_law_stream⟩ := c.def_ 4 (d := d_law_stream) rfl
  have g_law_stream := He.glo_ok X G (c.fact 4 (f := .glo "_law_stream") rfl)
  have b_law_stream : Binds K fd_law_stream ["_law_script"] [] := FunD.bindsN F_law_stream fun _ _ _ _ _ _ us hl => match us, hl with | [_], _ => rfl
  obtain ⟨fd_law_alike, F_law_alike⟩ := c.def_ 5 (d := d_law_alike) rfl
  have g_law_alike := He.glo_ok X G (c.fact 5 (f := .glo "_law_alike") rfl)
  have b_law_alike : Binds K fd_law_alike ["_law_found", "_law_due"] [] := FunD.bindsN F_law_alike fun _ _ _ _ _ _ us hl => match us, hl with | [_, _], _ => rfl
  obtain ⟨fd_law_in_one, F_law_in_one⟩ := c.def_ 6 (d := d_law_in_one) rfl
  have g_law_in_one := He.glo_ok X G (c.fact 6 (f := .glo "_law_in_one") rfl)
  have b_law_in_one : Binds K fd_law_in_one ["_law_row_here"] [] := FunD.bindsN F_law_in_one fun _ _ _ _ _ _ us hl => match us, hl with | [_], _ => rfl
  obtain ⟨fdjoined, Fjoined⟩ := c.def_ 7 (d := d_joined) rfl
  have gjoined := He.glo_ok X G (c.fact 7 (f := .glo "joined") rfl)
  have bjoined : Binds K fdjoined ["one", "other"] [] := FunD.bindsN Fjoined fun _ _ _ _ _ _ us hl => match us, hl with | [_, _], _ => rfl
  obtain ⟨fdwhole, Fwhole⟩ := c.def_ 8 (d := d_whole) rfl
  have gwhole := He.glo_ok X G (c.fact 8 (f := .glo "whole") rfl)
  have bwhole : Binds K fdwhole ["row"] [] := FunD.bindsN Fwhole fun _ _ _ _ _ _ us hl => match us, hl with | [_], _ => rfl
  obtain ⟨fd, F⟩ := c.def_ 9 (d := d_law) rfl
  have e := hfa.symm.trans (He.glo_ok X G (c.fact 9 (f := .glo "law") rfl))
  cases e
  have b := FunD.bindsA (ps := ["_law_script"]) F fun _ _ _ _ _ _ us hl => match us, hl with | [_], _ => rfl
  have B : Bi mg := ⟨He.free_ok X G (c.fact 10 (f := .free "len") rfl), He.free_ok X G (c.fact 11 (f := .free "max") rfl), He.free_ok X G (c.fact 12 (f := .free "min") rfl), He.free_ok X G (c.fact 13 (f := .free "range") rfl), He.free_ok X G (c.fact 14 (f := .free "tuple") rfl), He.free_ok X G (c.fact 15 (f := .free "abs") rfl), He.free_ok X G (c.fact 16 (f := .free "isinstance") rfl), He.free_ok X G (c.fact 17 (f := .free "bool") rfl), He.free_ok X G (c.fact 18 (f := .free "str") rfl), He.free_ok X G (c.fact 19 (f := .free "int") rfl), He.free_ok X G (c.fact 20 (f := .free "sum") rfl), He.free_ok X G (c.fact 21 (f := .free "zip") rfl), He.free_ok X G (c.fact 22 (f := .free "enumerate") rfl), He.free_ok X G (c.fact 23 (f := .free "all") rfl), He.free_ok X G (c.fact 24 (f := .free "any") rfl), He.free_ok X G (c.fact 25 (f := .free "sorted") rfl), He.free_ok X G (c.fact 26 (f := .free "repr") rfl), He.free_ok X G (c.fact 27 (f := .free "list") rfl), He.free_ok X G (c.fact 28 (f := .free "reversed") rfl)⟩
  refine ⟨fd, fun s v => b s [v] rfl, fun base _ _ => ?_⟩
  have c_law_take := Cl.mk (P := P) (w := w) (base := base) (mg := mg) ⟨_, _, g_law_take, F_law_take.kp, b_law_take, ok_take F_law_take B⟩
  have c_law_number := Cl.mk (P := P) (w := w) (base := base) (mg := mg) ⟨_, _, g_law_number, F_law_number.kp, b_law_number, ok_number F_law_number c_law_take⟩
  have c_law_pair := Cl.mk (P := P) (w := w) (base := base) (mg := mg) ⟨_, _, g_law_pair, F_law_pair.kp, b_law_pair, ok_pair F_law_pair B c_law_take c_law_number⟩
  have c_law_stream := Cl.mk (P := P) (w := w) (base := base) (mg := mg) ⟨_, _, g_law_stream, F_law_stream.kp, b_law_stream, ok_stream F_law_stream B⟩
  have c_law_row := Cl.mk (P := P) (w := w) (base := base) (mg := mg) ⟨_, _, g_law_row, F_law_row.kp, b_law_row, ok_row F_law_row B c_law_take c_law_pair⟩
  have c_law_alike := Cl.mk (P := P) (w := w) (base := base) (mg := mg) ⟨_, _, g_law_alike, F_law_alike.kp, b_law_alike, ok_alike F_law_alike B g_law_alike 1⟩
  have c_law_in_one := Cl.mk (P := P) (w := w) (base := base) (mg := mg) ⟨_, _, g_law_in_one, F_law_in_one.kp, b_law_in_one, ok_in_one (k := 0) F_law_in_one B⟩
  have cjoined := Cl.mk (P := P) (w := w) (base := base) (mg := mg) ⟨_, _, gjoined, Fjoined.kp, bjoined, ok_joined (k := 0) Fjoined B⟩
  have cwhole := Cl.mk (P := P) (w := w) (base := base) (mg := mg) ⟨_, _, gwhole, Fwhole.kp, bwhole, ok_whole (k := 0) Fwhole B cjoined⟩
  exact ok_law F B c_law_stream c_law_row c_law_in_one c_law_alike cjoined cwhole c_law_pair
end Lw
open PySem PySem.W PySem.Calls PyProof.Rows
set_option maxHeartbeats 0 in
theorem PySem.Challenge.cw_stintpurse_k04_pairs_put_together_holds : PySem.Challenge.rw_stintpurse_k04_pairs_put_together.Holds := by
  w_on; o_law
  refine HandSHeadRun.head_any (r := OpenLaw.row PySem.Challenge.rw_stintpurse_k04_pairs_put_together) (q := view (OpenLaw.row PySem.Challenge.rw_stintpurse_k04_pairs_put_together).prog [11]) (H := Lw.hk) (ob := Lw.ob) (M := 4000) (loose := ["joined", "whole", "_law_stream", "_law_take", "_law_number", "_law_pair", "_law_row", "_law_alike", "_law_in_one"]) (d := HandSHeadRun.topDef (OpenLaw.row PySem.Challenge.rw_stintpurse_k04_pairs_put_together).prog 11) (kwd := []) Lw.ob_eq
    (by kernel_rfl) (fun s => by kernel_rfl) Lw.run (by kernel_rfl) (by kernel_rfl) (by kernel_rfl) (by rfl) (by first | assumption | decide +kernel) (by decide +kernel) ⟨rfl, rfl, rfl, rfl, rfl, by decide +kernel⟩ ?hw ?hc
  case hw => w_witness2
  case hc =>
    refine L2.walk_ofE (l := PySem.Challenge.rw_stintpurse_k04_pairs_put_together) (n := 63) (k := 5) (x := "_law_script") (CX := L2.CX0) rfl (by decide) (by kernel_rfl) ⟨rfl, by decide, by decide⟩ ?F (fun _ _ _ _ z => z)
    intro w mg fa h Y G hmg0
    obtain ⟨K, KX, c⟩ := Y
    have hmg : mg ("law" : PySem.Str) = some (.ref fa) := by
      have e : (HandSHeadRun.topDef (OpenLaw.row PySem.Challenge.rw_stintpurse_k04_pairs_put_together).prog 11).name = ("law" : PySem.Str) := by kernel_rfl
      rw [← e]
      exact hmg0
    obtain ⟨fd, hb, hF⟩ := Lw.facts (P := (PySem.Challenge.rw_stintpurse_k04_pairs_put_together).prog) (w := w) KX G hmg c
    exact ⟨K, fd, Lw.spLaw K, KX, hb, fun H a ns hl _ hS => ⟨a, ns, rfl, hS, hl, fun _ => rfl⟩, hF⟩
