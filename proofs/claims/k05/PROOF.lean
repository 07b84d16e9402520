import PyProof.Rows.All
import Wide.All
import OpenK.AllK
import Wide.FinOn
import KE.KStateDown
import Lean
import HandS.ForMost
import HandS.IsInst
import HandS.TupAny
import HandS.TupMul
import HandS.Walk
import HandS.NoneIn
import HandS.Wide
import HandS.Style
import HandS.Evl
import HandS.Defaults
import HandS.Head0
import HandS.Head1
import HandS.Head2
import HandS.HeadEnd
import HandS.HeadHook1
import HandS.HeadHook2
import PySem.Challenge.RW_stintpurse_k05_pairs_many_times
set_option Elab.async false
set_option linter.all false
set_option maxRecDepth 100000
set_option maxHeartbeats 4000000
namespace Lw
open PySem PySem.Spec PyProof.Rows L2

/-! ### heaps -/
/-- all that was tracked stays, but for what stands at s -/
def But (s : Addr) (H H' : Hp) : Prop := ∀ b o, b ≠ s → H b = some o → H' b = some o
theorem But.refl (s : Addr) (H : Hp) : But s H H := fun _ _ _ h => h
theorem But.trans {s : Addr} {H H1 H2 : Hp} (a : But s H H1) (b : But s H1 H2) : But s H H2 := fun c o n h => b c o n (a c o n h)
theorem But.of {s : Addr} {H H' : Hp} (a : Same H H') : But s H H' := fun b o _ h => a b o h
theorem But.put {s : Addr} {H : Hp} {o : HO} : But s H (upd H s o) := fun b x n h => by rw [upd_ne n]; exact h
theorem Same.new {H : Hp} {p : Addr} {o : HO} (h : H p = none) : Same H (upd H p o) := fun b x e => by
  rw [upd_ne (ne_of_none e h)]; exact e
theorem But.new {s : Addr} {H : Hp} {p : Addr} {o : HO} (h : H p = none) : But s H (upd H p o) := But.of (Same.new h)
/-- what holds of tuples stays -/
def Tups (H H' : Hp) : Prop := ∀ b xs, H b = some (.tup xs) → H' b = some (.tup xs)
theorem Tups.refl (H : Hp) : Tups H H := fun _ _ h => h
theorem Tups.trans {H H1 H2 : Hp} (a : Tups H H1) (b : Tups H1 H2) : Tups H H2 := fun c o h => b c o (a c o h)
theorem Same.tups {H H' : Hp} (a : Same H H') : Tups H H' := fun b xs h => a b _ h

/-! ### data: whole numbers, texts, truths, None, tuples of such -/
inductive D where
  | n | b (x : Bool) | i (x : Int) | s (x : Str) | t (l : List D)
mutual
def At (H : Hp) : D → V → Prop
  | .n, v => v = .non
  | .b x, v => v = .bl x
  | .i x, v => v = .int x
  | .s x, v => v = .str x
  | .t l, v => ∃ a vs, v = .ref a ∧ H a = some (.tup vs) ∧ AtL H l vs
def AtL (H : Hp) : List D → List V → Prop
  | [], vs => vs = []
  | d :: l, vs => ∃ v r, vs = v :: r ∧ At H d v ∧ AtL H l r
end
mutual
theorem At.up {H H' : Hp} (T : Tups H H') : ∀ (d : D) (v : V), At H d v → At H' d v
  | .n, v, h => by unfold At at h ⊢; exact h
  | .b x, v, h => by unfold At at h ⊢; exact h
  | .i x, v, h => by unfold At at h ⊢; exact h
  | .s x, v, h => by unfold At at h ⊢; exact h
  | .t l, v, h => by
    unfold At at h ⊢
    obtain ⟨a, vs, e, ha, r⟩ := h
    exact ⟨a, vs, e, T _ _ ha, AtL.up T l vs r⟩
theorem AtL.up {H H' : Hp} (T : Tups H H') : ∀ (l : List D) (vs : List V), AtL H l vs → AtL H' l vs
  | [], vs, h => by unfold AtL at h ⊢; exact h
  | d :: l, vs, h => by
    unfold AtL at h ⊢
    obtain ⟨v, r, e, h1, h2⟩ := h
    exact ⟨v, r, e, At.up T d v h1, AtL.up T l r h2⟩
end
theorem AtL.length {H : Hp} : ∀ {l : List D} {vs : List V}, AtL H l vs → vs.length = l.length
  | [], vs, h => by unfold AtL at h; rw [h]; rfl
  | d :: l, vs, h => by
    unfold AtL at h
    obtain ⟨v, r, e, _, h2⟩ := h
    rw [e, List.length_cons, List.length_cons, AtL.length h2]
theorem AtL.get {H : Hp} : ∀ {l : List D} {vs : List V} {i : Nat} {d : D}, AtL H l vs → l[i]? = some d → ∃ v, vs[i]? = some v ∧ At H d v
  | [], vs, i, d, h, e => by simp at e
  | d :: l, vs, 0, d', h, e => by
    unfold AtL at h
    obtain ⟨v, r, e1, h1, h2⟩ := h
    have e2 : d = d' := Option.some.inj e
    subst e2
    exact ⟨v, by rw [e1]; rfl, h1⟩
  | d :: l, vs, i + 1, d', h, e => by
    unfold AtL at h
    obtain ⟨v, r, e1, h1, h2⟩ := h
    obtain ⟨u, g, z⟩ := AtL.get h2 (i := i) (d := d') e
    exact ⟨u, by rw [e1]; exact g, z⟩
theorem AtL.get' {H : Hp} {l : List D} {vs : List V} {i : Nat} {v : V} (h : AtL H l vs) (e : vs[i]? = some v) : ∃ d, l[i]? = some d ∧ At H d v := by
  have hl := h.length
  have hi : i < l.length := by
    rw [← hl]
    exact (List.getElem?_eq_some_iff.mp e).1
  obtain ⟨u, g, z⟩ := h.get (i := i) (d := l[i]) (List.getElem?_eq_getElem hi)
  rw [e] at g
  cases g
  exact ⟨l[i], List.getElem?_eq_getElem hi, z⟩
theorem AtL.of {H : Hp} : ∀ {l : List D} {vs : List V}, vs.length = l.length → (∀ (i : Nat) (d : D) (v : V), l[i]? = some d → vs[i]? = some v → At H d v) → AtL H l vs
  | [], vs, hl, h => by
    unfold AtL
    exact List.eq_nil_of_length_eq_zero hl
  | d :: l, [], hl, h => by simp at hl
  | d :: l, v :: r, hl, h => by
    unfold AtL
    exact ⟨v, r, rfl, h 0 d v rfl rfl, AtL.of (by simpa using hl) fun i d' v' e1 e2 => h (i + 1) d' v' e1 e2⟩
theorem AtL.drop {H : Hp} {l : List D} {vs : List V} (h : AtL H l vs) (k : Nat) : AtL H (l.drop k) (vs.drop k) :=
  AtL.of (by rw [List.length_drop, List.length_drop, h.length]) fun i d v e1 e2 => by
    rw [List.getElem?_drop] at e1 e2
    obtain ⟨u, g, z⟩ := h.get e1
    rw [e2] at g
    cases g
    exact z
theorem AtL.take {H : Hp} {l : List D} {vs : List V} (h : AtL H l vs) (k : Nat) : AtL H (l.take k) (vs.take k) :=
  AtL.of (by rw [List.length_take, List.length_take, h.length]) fun i d v e1 e2 => by
    by_cases hi : i < k
    · rw [List.getElem?_take_of_lt hi] at e1 e2
      obtain ⟨u, g, z⟩ := h.get e1
      rw [e2] at g
      cases g
      exact z
    · rw [List.getElem?_take_eq_none (by omega)] at e1
      cases e1
theorem AtL.append {H : Hp} : ∀ {l l' : List D} {vs vs' : List V}, AtL H l vs → AtL H l' vs' → AtL H (l ++ l') (vs ++ vs')
  | [], l', vs, vs', h, h' => by
    unfold AtL at h
    rw [h]
    exact h'
  | d :: l, l', vs, vs', h, h' => by
    unfold AtL at h
    obtain ⟨v, r, e, h1, h2⟩ := h
    rw [e, List.cons_append, List.cons_append]
    unfold AtL
    exact ⟨v, _, rfl, h1, AtL.append h2 h'⟩
theorem AtL.nil {H : Hp} : AtL H [] [] := by unfold AtL; rfl
theorem AtL.cons {H : Hp} {d : D} {l : List D} {v : V} {vs : List V} (h : At H d v) (r : AtL H l vs) : AtL H (d :: l) (v :: vs) := by
  unfold AtL
  exact ⟨v, vs, rfl, h, r⟩
theorem At.int {H : Hp} (n : Int) : At H (.i n) (.int n) := by unfold At; rfl
theorem At.tup {H : Hp} {a : Addr} {vs : List V} {l : List D} (h : H a = some (.tup vs)) (r : AtL H l vs) : At H (.t l) (.ref a) := by
  unfold At
  exact ⟨a, vs, rfl, h, r⟩
theorem At.inv {H : Hp} {l : List D} {v : V} (h : At H (.t l) v) : ∃ a vs, v = .ref a ∧ H a = some (.tup vs) ∧ AtL H l vs := by unfold At at h; exact h
theorem At.iv {H : Hp} {x : Int} {v : V} (h : At H (.i x) v) : v = .int x := by unfold At at h; exact h
theorem At.same {H H' : Hp} {d : D} {v : V} (h : At H d v) (e : Same H H') : At H' d v := At.up (Same.tups e) d v h
theorem AtL.same {H H' : Hp} {d : List D} {v : List V} (h : AtL H d v) (e : Same H H') : AtL H' d v := AtL.up (Same.tups e) d v h
/-- a pair, a row -/
abbrev dP (x : Int × Int) : D := .t [.i x.1, .i x.2]
abbrev dR (r : List (Int × Int)) : D := .t (r.map dP)
theorem At.pair {H : Hp} {x : Int × Int} {v : V} (h : At H (dP x) v) : ∃ a, v = .ref a ∧ H a = some (.tup [.int x.1, .int x.2]) := by
  obtain ⟨a, vs, e, ha, r⟩ := h.inv
  unfold AtL at r
  obtain ⟨v1, r1, e1, h1, r⟩ := r
  unfold AtL at r
  obtain ⟨v2, r2, e2, h2, r⟩ := r
  unfold AtL at r
  refine ⟨a, e, ?_⟩
  rw [ha, e1, e2, r, h1.iv, h2.iv]
theorem At.mkPair {H : Hp} {a : Addr} {x y : Int} (h : H a = some (.tup [.int x, .int y])) : At H (dP (x, y)) (.ref a) :=
  At.tup h (AtL.cons (At.int x) (AtL.cons (At.int y) AtL.nil))

/-! ### the stream of a script -/
structure Strm (c : Addr) (H : Hp) (s : Addr) : Prop where
  ex : ∃ (cs : List Int) (b l bl : Int), H s = some (.lst [.ref c, .int b, .int l, .int bl]) ∧ H c = some (.lst (cs.map V.int)) ∧ (∀ x ∈ cs, 0 ≤ x) ∧ cs.length ≤ 63 ∧ 0 ≤ b ∧ 0 ≤ l ∧ 0 ≤ bl ∧ bl < 4294967296
theorem strm_ne {H : Hp} {s c : Addr} {cs : List Int} {b l bl : Int} (h : H s = some (.lst [.ref c, .int b, .int l, .int bl])) (h' : H c = some (.lst (cs.map V.int))) : c ≠ s := by
  intro e
  subst e
  rw [h] at h'
  cases cs with
  | nil => cases h'
  | cons x r => cases h'
theorem Strm.up {H H' : Hp} {c s : Addr} (h : Strm c H s) (e : Same H H') : Strm c H' s := by
  obtain ⟨cs, b, l, bl, h1, h2, h3⟩ := h.ex
  exact ⟨cs, b, l, bl, e _ _ h1, e _ _ h2, h3⟩
theorem Strm.lst {H : Hp} {c s : Addr} (h : Strm c H s) : ∃ xs, H s = some (.lst xs) := by
  obtain ⟨cs, b, l, bl, h1, _⟩ := h.ex
  exact ⟨_, h1⟩
theorem Strm.new {H : Hp} {c s p : Addr} (h : Strm c H s) (hp : H p = none) : p ≠ s ∧ p ≠ c := by
  obtain ⟨cs, b, l, bl, h1, h2, _⟩ := h.ex
  exact ⟨(ne_of_none h1 hp).symm, (ne_of_none h2 hp).symm⟩
theorem Strm.put {H : Hp} {c s o : Addr} {x : HO} (h : Strm c H s) (ns : o ≠ s) (nc : o ≠ c) : Strm c (upd H o x) s := by
  obtain ⟨cs, b, l, bl, h1, h2, h3⟩ := h.ex
  refine ⟨cs, b, l, bl, ?_, ?_, h3⟩
  · rw [upd_ne (fun e => ns e.symm)]
    exact h1
  · rw [upd_ne (fun e => nc e.symm)]
    exact h2
theorem But.tups {c s : Addr} {H H' : Hp} (h : Strm c H s) (b : But s H H') : Tups H H' := fun a xs e => by
  obtain ⟨ys, hs⟩ := h.lst
  exact b a _ (ne_of e hs (by intro z; cases z)) e
theorem At.but {c s : Addr} {H H' : Hp} {d : D} {v : V} (h : At H d v) (hs : Strm c H s) (b : But s H H') : At H' d v := At.up (But.tups hs b) d v h
theorem AtL.but {c s : Addr} {H H' : Hp} {d : List D} {v : List V} (h : AtL H d v) (hs : Strm c H s) (b : But s H H') : AtL H' d v := AtL.up (But.tups hs b) d v h

/-! ### sizes, places -/
theorem sz1 : 1 ≤ sizeLine := by decide
theorem sz2 : 2 ≤ sizeLine := by decide
theorem sz3 : 3 ≤ sizeLine := by decide
theorem sz4 : 4 ≤ sizeLine := by decide
theorem szM {n : Nat} (h : n ≤ 1000000) : n < sizeLine := Nat.lt_of_le_of_lt h (by decide)
theorem ixN_of {n : Nat} {z : Int} {i : Nat} (e : z = (i : Int)) (h : i < n) : ixN n z = some i := by
  subst e
  unfold ixN
  rw [if_pos (by omega), if_pos (by omega)]
  simp
theorem AtL.set {H : Hp} {l : List D} {vs : List V} {d : D} {v : V} (h : AtL H l vs) (a : At H d v) (k : Nat) : AtL H (l.set k d) (vs.set k v) :=
  AtL.of (by rw [List.length_set, List.length_set, h.length]) fun i d' v' e1 e2 => by
    rw [List.getElem?_set] at e1 e2
    have hl := h.length
    split at e1
    · rename_i hk
      rw [if_pos hk] at e2
      split at e1
      · rw [if_pos (by omega)] at e2
        cases e1
        cases e2
        exact a
      · cases e1
    · rename_i hk
      rw [if_neg hk] at e2
      obtain ⟨u, g, z⟩ := h.get e1
      rw [e2] at g
      cases g
      exact z
theorem But.own {s o : Addr} {H H' : Hp} {x : HO} (b : But s H H') (h : H o = none) : But s H (upd H' o x) := fun c z n e => by
  rw [upd_ne (ne_of_none e h)]
  exact b c z n e
theorem Same.own {o : Addr} {H H' : Hp} {x : HO} (b : Same H H') (h : H o = none) : Same H (upd H' o x) := fun c z e => by
  rw [upd_ne (ne_of_none e h)]
  exact b c z e
/-! ### built-in names that the top leaves alone -/
structure Bi (mg : Str → Option Value) : Prop where
  len : mg "len" = none
  max : mg "max" = none
  min : mg "min" = none
  range : mg "range" = none
  tuple : mg "tuple" = none
  abs : mg "abs" = none
  isinstance : mg "isinstance" = none
  bool : mg "bool" = none
  str : mg "str" = none
  int : mg "int" = none
  sum : mg "sum" = none
  zip : mg "zip" = none
  enumerate : mg "enumerate" = none
  all : mg "all" = none
  any : mg "any" = none
  sorted : mg "sorted" = none
  repr : mg "repr" = none
  list : mg "list" = none
  reversed : mg "reversed" = none
theorem rel_ty (n : String) : RelV (.ty n) (.type n) := rfl
theorem lcYes {σ : L2.St} {H : Hp} {A B : Hp → Prop} (h : A H) : tYes σ H (fun b H3 => if b = true then A H3 else B H3) := by
  show if true = true then A H else B H
  exact iteT h
/-! ### rules that speak of the written part by its own name -/
section
variable {X : Cx} {K : PySem.W.Frag}
theorem ixT_ (h : X.K = K) : IxR X (rIxT K) := by subst h; exact ix_tup
theorem ixL_ (h : X.K = K) : IxR X (rIxL K) := by subst h; exact ix_list
theorem slL_ (h : X.K = K) : SlR X (rSlL K) := by subst h; exact sl_list
theorem slT_ (h : X.K = K) : SlR X (rSlA K) := by subst h; exact sl_tupA
theorem len_ (h : X.K = K) : CallR X (.builtin "len") (fun xs H Q => ∃ p ys, xs = [.ref p] ∧ (SqL K H p ys ∨ SqT K H p ys) ∧ Q (.int ys.length) H) := by subst h; exact call_len_seq
theorem tuple_ (h : X.K = K) : CallR X (.type "tuple") (fun xs H Q => ∃ p ys, xs = [.ref p] ∧ ((SqL K H p ys ∧ ∀ l, H l = none → Q (.ref l) (upd H l (.tup ys))) ∨ (SqT K H p ys ∧ Q (.ref p) H))) := by subst h; exact call_tuple_of
theorem isi_ (h : X.K = K) : CallR X (.builtin "isinstance") (rIsi K) := by subst h; exact call_isi
theorem isiT_ (h : X.K = K) : CallR X (.builtin "isinstance") (rIsiT K) := by subst h; exact call_isiT
theorem sum_ (hc : X.calm = true) (h : X.K = K) : CallR X (.builtin "sum") (rSum K) := by subst h; exact cr_sum hc
theorem max_ (hc : X.calm = true) (h : X.K = K) : CallR X (.builtin "max") (rMax K) := by subst h; exact cr_max hc
theorem min_ (hc : X.calm = true) (h : X.K = K) : CallR X (.builtin "min") (rMin K) := by subst h; exact cr_min hc
theorem all_ (hc : X.calm = true) (h : X.K = K) : CallR X (.builtin "all") (rAll K) := by subst h; exact cr_all hc
theorem eqD_ (hu : X.A.units + 64 < cLine) (h : X.K = K) : OpR X (compareOp .Eq) (rEqD K) := by subst h; exact op_eqD hu
theorem neD_ (hu : X.A.units + 64 < cLine) (h : X.K = K) : OpR X (compareOp .NotEq) (rNeD K) := by subst h; exact op_neD hu
end
/-! ### slices of tuples -/
theorem slA_take {K : PySem.W.Frag} {H : Hp} {l : List D} {v : V} {z : Int} {k : Nat} {Q : VK} (h : At H (.t l) v) (e : z = (k : Int)) (q : ∀ H' u, Same H H' → At H' (.t (l.take k)) u → Q u H') : rSlA K v none (some z) H Q := by
  subst e
  obtain ⟨a, vs, rfl, ha, av⟩ := h.inv
  refine ⟨a, vs, rfl, .inl (.inl ha), fun hw => ?_, fun hw p np => ?_⟩
  · have h2 := hw.2
    rw [HT.sIx_nat] at h2
    have hk : l.length ≤ k := by rw [← av.length]; omega
    refine q H _ (Same.refl _) ?_
    rw [List.take_of_length_le hk]
    exact h
  · refine q _ _ (Same.new np) (At.tup upd_same ?_)
    have ec : cutV vs none (some (k : Int)) = vs.take k := by
      unfold cutV
      rw [HT.sIx_none, HT.sIx_nat, List.drop_zero, Nat.sub_zero]
      by_cases hk : k ≤ vs.length
      · rw [Nat.min_eq_left hk]
      · rw [Nat.min_eq_right (by omega), List.take_of_length_le (Nat.le_refl _), List.take_of_length_le (by omega)]
    rw [ec]
    exact (av.take k).same (Same.new np)
theorem slA_drop {K : PySem.W.Frag} {H : Hp} {l : List D} {v : V} {z : Int} {k : Nat} {Q : VK} (h : At H (.t l) v) (e : z = (k : Int)) (q : ∀ H' u, Same H H' → At H' (.t (l.drop k)) u → Q u H') : rSlA K v (some z) none H Q := by
  subst e
  obtain ⟨a, vs, rfl, ha, av⟩ := h.inv
  refine ⟨a, vs, rfl, .inl (.inl ha), fun hw => ?_, fun hw p np => ?_⟩
  · have h2 := hw.1
    rw [HT.sIx_nat] at h2
    have hk : k = 0 ∨ l.length = 0 := by rw [← av.length]; omega
    refine q H _ (Same.refl _) ?_
    have el : l.drop k = l := by
      rcases hk with hk | hk
      · rw [hk]; rfl
      · rw [List.eq_nil_of_length_eq_zero hk]; exact List.drop_nil
    rw [el]
    exact h
  · refine q _ _ (Same.new np) (At.tup upd_same ?_)
    have ec : cutV vs (some (k : Int)) none = vs.drop k := by
      unfold cutV
      rw [HT.sIx_none, HT.sIx_nat]
      by_cases hk : k ≤ vs.length
      · rw [Nat.min_eq_left hk]
        exact List.take_of_length_le (by rw [List.length_drop]; omega)
      · rw [Nat.min_eq_right (by omega), List.drop_eq_nil_of_le (Nat.le_refl _), List.drop_eq_nil_of_le (show vs.length ≤ k by omega)]
        exact List.take_nil
    rw [ec]
    exact (av.drop k).same (Same.new np)
theorem slA_dropN {σ : L2.St} {K : PySem.W.Frag} {H : Hp} {l : List D} {v : V} {z : Int} {k : Nat} {Q : VK} (h : At H (.t l) v) (e : z = (k : Int)) (q : ∀ H' u, Same H H' → At H' (.t (l.drop k)) u → Q u H') : tNoPart σ H fun o H3 => rSlA K v (some z) o H3 Q :=
  slA_drop h e q
def spLaw (K : PySem.W.Frag) : Sp := fun vs H Q _ => ∃ (a : Addr) (ns : List Int), vs = [.ref a] ∧ SqL K H a (ns.map V.int) ∧ ns.length ≤ 63 ∧ ∀ H', Q (.bl true) H'
/-! ### depth -/
def Dep : Nat → D → Prop
  | 0, .t _ => False
  | k + 1, .t l => l.length ≤ 1000000 ∧ ∀ d ∈ l, Dep k d
  | _, _ => True
theorem Dep.mono : ∀ {k : Nat} {d : D}, Dep k d → Dep (k + 1) d
  | 0, .t _, h => h.elim
  | k + 1, .t l, h => ⟨h.1, fun d hd => Dep.mono (h.2 d hd)⟩
  | 0, .n, _ => trivial
  | 0, .b _, _ => trivial
  | 0, .i _, _ => trivial
  | 0, .s _, _ => trivial
  | k + 1, .n, _ => trivial
  | k + 1, .b _, _ => trivial
  | k + 1, .i _, _ => trivial
  | k + 1, .s _, _ => trivial
theorem Dep.row {ps : List (Int × Int)} (h : ps.length ≤ 1000000) : Dep 2 (dR ps) := by
  refine ⟨by rw [List.length_map]; exact h, fun d hd => ?_⟩
  obtain ⟨x, _, rfl⟩ := List.mem_map.mp hd
  refine ⟨(show 2 ≤ 1000000 by decide), fun e he => ?_⟩
  rcases List.mem_cons.mp he with h | h
  · rw [h]; trivial
  · rw [List.mem_singleton.mp h]; trivial
theorem Dep.pair (x : Int × Int) : Dep 1 (dP x) := by
  refine ⟨(show 2 ≤ 1000000 by decide), fun e he => ?_⟩
  rcases List.mem_cons.mp he with h | h
  · rw [h]; trivial
  · rw [List.mem_singleton.mp h]; trivial
/-! ### calls in short -/
abbrev FnP (K : PySem.W.Frag) (x : Str) (st : Stmt) (f : Addr) (fd : FuncData) : Prop := FunD K x x (defArgs st) (defBody st) (defScope st) [] [] f fd
/-- the module's name x is a def that keeps sp at level k -/
structure Cl (P : Program) (w : World) (K : PySem.W.Frag) (mg : Str → Option Value) (base : Heap) (k : Nat) (x : Str) (ps : List Str) (sp : Sp) : Prop where
  ex : ∃ (f : Addr) (fd : FuncData), mg x = some (.ref f) ∧ PySem.W.keepIn K (.ref f) = true ∧ Binds K fd ps [] ∧ FnOk P w K mg base CX0 k f fd ps sp
theorem Cl.mono {P : Program} {w : World} {K : PySem.W.Frag} {mg : Str → Option Value} {base : Heap} {j k : Nat} {x : Str} {ps : List Str} {sp : Sp} (c : Cl P w K mg base j x ps sp) (h : j ≤ k) : Cl P w K mg base k x ps sp := by
  obtain ⟨f, fd, a, b, d, e⟩ := c.ex
  exact ⟨f, fd, a, b, d, e.mono h⟩
theorem pe_cl {X : Cx} {k : Nat} {x : Str} {ps : List Str} {sp : Sp} {e : Expr} {es : List Expr} {t : TA} {p pos : Pos} (c : Cl X.prog X.w X.K X.mg X.base k x ps sp) (hr : Room k X.A) (hg : Gl X x) (ha : PA X (e :: es) t)
    (hdb : (x == ("__debug__" : Str)) = false := by decide) (he : starEach (e :: es) X.env = (false, eval e X.env) :: starEach es X.env := by rfl) (hpl : (backTo pos (starEach es X.env)).any (·.1) = false := by rfl) :
    PE X (.Call (.Name x p) (e :: es) [] pos) (tCall sp [] E0 t) := by
  obtain ⟨f, fd, a, b, d, F⟩ := c.ex
  exact pe_call F hr hg a b d .nil pass0 ha hdb he hpl
/-! ### the mathematics of pairs and rows -/
/-- what is gained and the deepest dip, from t and d on -/
def dipf : List (Int × Int) → Int → Int → Int × Int
  | [], t, d => (t, d)
  | x :: r, t, d => dipf r (t - x.1 + x.2) (if t - x.1 < d then t - x.1 else d)
def inOne (ps : List (Int × Int)) : Int × Int := (0 - (dipf ps 0 0).2, (dipf ps 0 0).1 - (dipf ps 0 0).2)
def jn (x y : Int × Int) : Int × Int := (x.1 + (if y.1 - x.2 > 0 then y.1 - x.2 else 0), y.2 + (if x.2 - y.1 > 0 then x.2 - y.1 else 0))
theorem dipf_append : ∀ (a b : List (Int × Int)) (t d : Int), dipf (a ++ b) t d = dipf b (dipf a t d).1 (dipf a t d).2
  | [], b, t, d => rfl
  | x :: a, b, t, d => by
    rw [List.cons_append]
    exact dipf_append a b _ _
theorem dipf_take {ps : List (Int × Int)} {i : Nat} {r : Int × Int} (h : ps[i]? = some r) (t d : Int) :
    dipf (ps.take (i + 1)) t d = ((dipf (ps.take i) t d).1 - r.1 + r.2, if (dipf (ps.take i) t d).1 - r.1 < (dipf (ps.take i) t d).2 then (dipf (ps.take i) t d).1 - r.1 else (dipf (ps.take i) t d).2) := by
  rw [List.take_add_one, h, dipf_append]
  rfl
theorem foldl_take {α β : Type} {f : β → α → β} {x : β} {ps : List α} {i : Nat} {r : α} (h : ps[i]? = some r) : (ps.take (i + 1)).foldl f x = f ((ps.take i).foldl f x) r := by
  rw [List.take_add_one, h, List.foldl_append]
  rfl
theorem jn_assoc (x y z : Int × Int) : jn (jn x y) z = jn x (jn y z) := by
  unfold jn
  refine Prod.ext ?_ ?_
  · dsimp only
    repeat' split
    all_goals omega
  · dsimp only
    repeat' split
    all_goals omega
theorem jn_zero {x : Int × Int} (h : 0 ≤ x.1) : jn (0, 0) x = x := by
  unfold jn
  refine Prod.ext ?_ ?_
  · dsimp only
    split <;> omega
  · dsimp only
    split <;> omega
theorem jn_zero' {x : Int × Int} (h : 0 ≤ x.2) : jn x (0, 0) = x := by
  unfold jn
  refine Prod.ext ?_ ?_
  · dsimp only
    split <;> omega
  · dsimp only
    split <;> omega
def Nn (x : Int × Int) : Prop := 0 ≤ x.1 ∧ 0 ≤ x.2
theorem jn_nn {x y : Int × Int} (hx : Nn x) (hy : Nn y) : Nn (jn x y) := by
  obtain ⟨h1, h2⟩ := hx
  obtain ⟨h3, h4⟩ := hy
  unfold jn Nn
  dsimp only
  constructor <;> split <;> omega
def wl : List (Int × Int) → Int × Int
  | [] => (0, 0)
  | x :: r => jn x (wl r)
theorem wl_nn : ∀ {ps : List (Int × Int)}, (∀ x ∈ ps, Nn x) → Nn (wl ps)
  | [], _ => ⟨by decide, by decide⟩
  | x :: r, h => jn_nn (h x (List.mem_cons_self ..)) (wl_nn fun y hy => h y (List.mem_cons_of_mem _ hy))
theorem dipf_wl : ∀ (ps : List (Int × Int)) (t d : Int), (∀ x ∈ ps, Nn x) → dipf ps t d = (t + (wl ps).2 - (wl ps).1, if ps = [] then d else if t - (wl ps).1 < d then t - (wl ps).1 else d)
  | [], t, d, _ => by
    unfold dipf wl
    refine Prod.ext ?_ ?_
    · dsimp only
      omega
    · rfl
  | x :: r, t, d, h => by
    have hx := h x (List.mem_cons_self ..)
    have hr := wl_nn (ps := r) fun y hy => h y (List.mem_cons_of_mem _ hy)
    have ih := dipf_wl r (t - x.1 + x.2) (if t - x.1 < d then t - x.1 else d) fun y hy => h y (List.mem_cons_of_mem _ hy)
    show dipf r _ _ = _
    have hz : r = [] → wl r = (0, 0) := fun e => by rw [e]; rfl
    rw [ih, if_neg (List.cons_ne_nil x r), show wl (x :: r) = jn x (wl r) from rfl]
    obtain ⟨h1, h2⟩ := hx
    obtain ⟨h3, h4⟩ := hr
    generalize wl r = m at *
    unfold jn
    refine Prod.ext ?_ ?_
    · dsimp only
      repeat' split
      all_goals omega
    · dsimp only
      by_cases e : r = []
      · have hm := hz e
        subst hm
        rw [if_pos e]
        dsimp only
        repeat' split
        all_goals omega
      · rw [if_neg e]
        repeat' split
        all_goals omega
theorem inOne_wl {ps : List (Int × Int)} (h : ∀ x ∈ ps, Nn x) : inOne ps = wl ps := by
  have hn := wl_nn h
  unfold inOne
  rw [dipf_wl ps 0 0 h]
  obtain ⟨h3, h4⟩ := hn
  by_cases e : ps = []
  · subst e
    rfl
  · refine Prod.ext ?_ ?_
    · dsimp only
      rw [if_neg e]
      split <;> omega
    · dsimp only
      rw [if_neg e]
      split <;> omega
theorem foldl_wl : ∀ (ps : List (Int × Int)) (x : Int × Int), 0 ≤ x.2 → (∀ y ∈ ps, Nn y) → ps.foldl jn x = jn x (wl ps)
  | [], x, h, _ => (jn_zero' h).symm
  | y :: r, x, h, hn => by
    show r.foldl jn (jn x y) = jn x (jn y (wl r))
    rw [← jn_assoc]
    refine foldl_wl r (jn x y) ?_ fun z hz => hn z (List.mem_cons_of_mem _ hz)
    obtain ⟨h3, h4⟩ := hn y (List.mem_cons_self ..)
    unfold jn
    dsimp only
    split <;> omega
theorem whole_wl {ps : List (Int × Int)} (h : ∀ x ∈ ps, Nn x) : ps.foldl jn (0, 0) = wl ps := by
  rw [foldl_wl ps (0, 0) (by decide) h]
  exact jn_zero (wl_nn h).1
theorem wl_append : ∀ (a b : List (Int × Int)), (∀ x ∈ b, Nn x) → wl (a ++ b) = jn (wl a) (wl b)
  | [], b, h => (jn_zero (wl_nn h).1).symm
  | x :: a, b, h => by
    show jn x (wl (a ++ b)) = jn (jn x (wl a)) (wl b)
    rw [wl_append a b h, jn_assoc]
theorem nn_take {ps : List (Int × Int)} (h : ∀ x ∈ ps, Nn x) (k : Nat) : ∀ x ∈ ps.take k, Nn x := fun x hx => h x (List.mem_of_mem_take hx)
theorem nn_drop {ps : List (Int × Int)} (h : ∀ x ∈ ps, Nn x) (k : Nat) : ∀ x ∈ ps.drop k, Nn x := fun x hx => h x (List.mem_of_mem_drop hx)
theorem wl_cut {ps : List (Int × Int)} (h : ∀ x ∈ ps, Nn x) (k : Nat) : jn (wl (ps.take k)) (wl (ps.drop k)) = wl ps := by
  rw [← wl_append _ _ (nn_drop h k), List.take_append_drop]
theorem one_cut {ps : List (Int × Int)} (h : ∀ x ∈ ps, Nn x) (k : Nat) : jn (inOne (ps.take k)) (inOne (ps.drop k)) = inOne ps := by
  rw [inOne_wl h, inOne_wl (nn_take h k), inOne_wl (nn_drop h k), wl_cut h]
theorem whole_cut {ps : List (Int × Int)} (h : ∀ x ∈ ps, Nn x) (k : Nat) : jn ((ps.take k).foldl jn (0, 0)) ((ps.drop k).foldl jn (0, 0)) = inOne ps := by
  rw [inOne_wl h, whole_wl (nn_take h k), whole_wl (nn_drop h k), wl_cut h]
theorem nn_three {x y z : Int × Int} (hx : Nn x) (hy : Nn y) (hz : Nn z) : ∀ u ∈ [x, y, z], Nn u := fun u hu => by
  rcases List.mem_cons.mp hu with h | h
  · rw [h]; exact hx
  rcases List.mem_cons.mp h with h | h
  · rw [h]; exact hy
  · rw [List.mem_singleton.mp h]; exact hz
theorem three_b {x y z : Int × Int} (hx : Nn x) (hy : Nn y) (hz : Nn z) : jn x (jn y z) = inOne [x, y, z] := by
  rw [inOne_wl (nn_three hx hy hz)]
  show _ = jn x (jn y (jn z (0, 0)))
  rw [jn_zero' hz.2]
theorem three_a {x y z : Int × Int} (hx : Nn x) (hy : Nn y) (hz : Nn z) : jn (jn x y) z = inOne [x, y, z] := by
  rw [jn_assoc, three_b hx hy hz]
/-! ### tuple * int, all ways -/
theorem tup_mul_same (l : Addr) (items : Array Value) (n : Nat) (dd : Option Addr) (sl : Array (Option Value)) (x : Int) (u : Tok) (c0 : (decide (x < -(2 ^ 63)) || decide (x ≥ 2 ^ 63)) = false) (c1 : (items.isEmpty || x == 1) = true) :
    Meets (Builtin.«tuple.__mul__» ⟨[.ref l, .int x u], []⟩) (fun _ R s => s.heap.get? l = some { cls := .type "tuple", dict := dd, data := .seq items n, slots := sl } ∧ R (.ok (.ret (Value.ref l))) { s with heap := s.heap, toks := s.toks }) :=
  .of_wp fun prog w A R s h => by
    obtain ⟨hp, g, d, tk, os⟩ := s
    obtain ⟨hl, h⟩ := h
    have f1 := AutoSeq1.idx_int
    wp_walk using wpAny_loadPart' hl
    repeat (first
      | (refine wpAny_ite_false (decide_eq_false (by rw [c0]; exact Bool.false_ne_true)) ?_; wp_walk using wpAny_loadPart' hl)
      | (refine wpAny_ite_true (decide_eq_true c1) ?_; wp_walk using wpAny_loadPart' hl))
    exact ⟨_, rfl, h⟩
theorem tup_mul_none (l : Addr) (items : Array Value) (n : Nat) (dd : Option Addr) (sl : Array (Option Value)) (x : Int) (u : Tok) (c0 : (decide (x < -(2 ^ 63)) || decide (x ≥ 2 ^ 63)) = false) (c1 : (items.isEmpty || x == 1) = false) (c2 : (decide (x ≤ 0) || items.isEmpty) = true) :
    Meets (Builtin.«tuple.__mul__» ⟨[.ref l, .int x u], []⟩) (fun _ R s => s.heap.get? l = some { cls := .type "tuple", dict := dd, data := .seq items n, slots := sl } ∧
      R (.ok (.ret (Value.ref s.heap.objs.size))) { s with heap := s.heap.push { cls := Value.type "tuple", data := Data.seq #[] }, toks := s.toks }) :=
  .of_wp fun prog w A R s h => by
    obtain ⟨hp, g, d, tk, os⟩ := s
    obtain ⟨hl, h⟩ := h
    have f1 := AutoSeq1.idx_int
    wp_walk using wpAny_loadPart' hl
    repeat (first
      | (refine wpAny_ite_false (decide_eq_false (by rw [c0]; exact Bool.false_ne_true)) ?_; wp_walk using wpAny_loadPart' hl)
      | (refine wpAny_ite_false (decide_eq_false (by rw [c1]; exact Bool.false_ne_true)) ?_; wp_walk using wpAny_loadPart' hl)
      | (refine wpAny_ite_true (decide_eq_true c2) ?_; wp_walk using wpAny_loadPart' hl))
    exact ⟨_, rfl, h⟩
def rRepA (K : PySem.W.Frag) : R2 := fun x y H Q => ∃ l k xs, x = .ref l ∧ y = .int k ∧ SqT K H l xs ∧ 0 ≤ k ∧ k ≤ 1000 ∧ xs.length ≤ 1000 ∧ ((xs = [] ∨ k = 1) → Q (.ref l) H) ∧ (¬ (xs = [] ∨ k = 1) → ∀ p, H p = none → Q (.ref p) (upd H p (.tup (List.replicate k.toNat xs).flatten)))
theorem op_repA {X : Cx} : OpR X (binaryOp .Mult) (rRepA X.K) := by
  intro pins s σ H x y v u Q I rx ry h
  obtain ⟨l, k, xs, rfl, rfl, hT, h0, h2, hz, q1, q2⟩ := h
  by_cases hk : xs ≠ [] ∧ 2 ≤ k
  · exact op_repT pins s σ H _ _ v u Q I rx ry ⟨l, k, xs, rfl, rfl, hT, hk.1, hk.2, h2, hz, q2 (by intro z; rcases z with z | z; exact hk.1 z; omega)⟩
  cases rx
  obtain ⟨t, rfl⟩ := ry
  obtain ⟨its, r, ⟨⟨cls, dd, data, sl⟩, ho, hc, n, hd⟩, hs⟩ := I.tuple hT
  simp only at hc hd
  subst hc hd
  have hle : its.length = xs.length := r.length.symm
  have c0 : (decide (k < -(2 ^ 63)) || decide (k ≥ 2 ^ 63)) = false := by
    rw [decide_eq_false (by omega), decide_eq_false (by omega)] <;> rfl
  by_cases hs1 : xs = [] ∨ k = 1
  · have c1 : (its.toArray.isEmpty || k == 1) = true := by
      rcases hs1 with e | e
      · rw [e] at hle
        rw [List.eq_nil_of_length_eq_zero hle]
        rfl
      · subst e
        rw [Bool.or_eq_true]
        exact .inr rfl
    refine wpAny_binaryOp_repeat_ref (T := "tuple") (U := "int") (by decide) ⟨_, ho, rfl⟩ (fun s' => typeIs_int s' k t) noFill_tuple_mul F.fills_int_mul F.slot_int_rmul repeat_tuple F.slot_int_index.lookup
      (call_meets F.slot_int_rmul (typeIs_int s k t) F.entry_int_rmul (F.args_int_rmul_2 _ _) (int_rmul_tuple k t l its.toArray n dd sl)
        ⟨ho, rfl, ⟨_, ho, rfl⟩, call_meets F.slot_tuple_mul ⟨_, ho, rfl⟩ F.entry_tuple_mul (F.args_tuple_mul_2 _ _) (tup_mul_same l its.toArray n dd sl k t c0 c1) ⟨ho, ?_⟩⟩)
    exact ⟨.ref l, H, I, rfl, q1 hs1⟩
  · have hk0 : k = 0 := by
      rcases Classical.em (xs = []) with e | e
      · exact absurd (.inl e) hs1
      · rcases Classical.em (2 ≤ k) with e2 | e2
        · exact absurd ⟨e, e2⟩ hk
        · have := fun z => hs1 (.inr z)
          omega
    subst hk0
    have hne : xs ≠ [] := fun e => hs1 (.inl e)
    have hi : its.toArray.isEmpty = false := by
      cases its with
      | nil => exact absurd (List.eq_nil_of_length_eq_zero hle.symm) hne
      | cons a b => rfl
    have c1 : (its.toArray.isEmpty || (0 : Int) == 1) = false := by rw [hi]; rfl
    refine wpAny_binaryOp_repeat_ref (T := "tuple") (U := "int") (by decide) ⟨_, ho, rfl⟩ (fun s' => typeIs_int s' 0 t) noFill_tuple_mul F.fills_int_mul F.slot_int_rmul repeat_tuple F.slot_int_index.lookup
      (call_meets F.slot_int_rmul (typeIs_int s 0 t) F.entry_int_rmul (F.args_int_rmul_2 _ _) (int_rmul_tuple 0 t l its.toArray n dd sl)
        ⟨ho, rfl, ⟨_, ho, rfl⟩, call_meets F.slot_tuple_mul ⟨_, ho, rfl⟩ F.entry_tuple_mul (F.args_tuple_mul_2 _ _) (tup_mul_none l its.toArray n dd sl 0 t c0 c1 rfl) ⟨ho, ?_⟩⟩)
    refine ⟨.ref s.heap.objs.size, _, I.laid (t' := s.toks) (o := .tup []) (fun b ob q => Heap.get?_push_of_some _ q) (Nat.le_refl _) ?_, rfl, q2 hs1 _ (I.hok.fresh (Nat.le_refl _))⟩
    exact ⟨Nat.zero_le _, [], .nil, IsTup.new _ _⟩
theorem repA_ {X : Cx} {K : PySem.W.Frag} (h : X.K = K) : OpR X (binaryOp .Mult) (rRepA K) := by subst h; exact op_repA
theorem AtL.rep {H : Hp} {l : List D} {vs : List V} (h : AtL H l vs) : ∀ k : Nat, AtL H (List.replicate k l).flatten (List.replicate k vs).flatten
  | 0 => AtL.nil
  | k + 1 => by
    rw [List.replicate_succ, List.replicate_succ, List.flatten_cons, List.flatten_cons]
    exact AtL.append h (AtL.rep h k)
theorem repA_at {K : PySem.W.Frag} {H : Hp} {l : List D} {v : V} {k : Int} {Q : VK} (h : At H (.t l) v) (h0 : 0 ≤ k) (h1 : k ≤ 1000) (hl : l.length ≤ 1000) (q : ∀ H' u, Same H H' → At H' (.t (List.replicate k.toNat l).flatten) u → Q u H') : rRepA K v (.int k) H Q := by
  obtain ⟨a, vs, rfl, ha, av⟩ := h.inv
  refine ⟨a, k, vs, rfl, rfl, .inl (.inl ha), h0, h1, by rw [av.length]; exact hl, fun hw => ?_, fun hw p np => ?_⟩
  · refine q H _ (Same.refl _) ?_
    have el : (List.replicate k.toNat l).flatten = l := by
      rcases hw with e | e
      · rw [e] at av
        have hl0 : l = [] := List.eq_nil_of_length_eq_zero av.length.symm
        subst hl0
        exact List.eq_nil_iff_forall_not_mem.mpr fun x hx => by
          obtain ⟨y, hy, hxy⟩ := List.mem_flatten.mp hx
          rw [(List.mem_replicate.mp hy).2] at hxy
          cases hxy
      · subst e
        show (List.replicate 1 l).flatten = l
        rw [List.replicate_one, List.flatten_singleton]
    rw [el]
    exact h
  · exact q _ _ (Same.new np) (At.tup upd_same ((av.rep k.toNat).same (Same.new np)))
/-! ### so many times one pair -/
def pw (x : Int × Int) (k : Int) : Int × Int := if k = 0 then (0, 0) else if 0 ≤ k * (x.2 - x.1) then (x.1, x.1 + k * (x.2 - x.1)) else (x.2 - k * (x.2 - x.1), x.2)
theorem pw_zero (x : Int × Int) : pw x 0 = (0, 0) := by unfold pw; rw [if_pos rfl]
theorem pw_up {x : Int × Int} {k : Int} (hk : 0 < k) (h : x.1 ≤ x.2) : pw x k = (x.1, x.1 + k * (x.2 - x.1)) := by
  unfold pw
  rw [if_neg (by omega), if_pos (Int.mul_nonneg (by omega) (by omega))]
theorem pw_down {x : Int × Int} {k : Int} (hk : 0 < k) (h : x.2 < x.1) : pw x k = (x.2 - k * (x.2 - x.1), x.2) := by
  unfold pw
  have e : k * (x.2 - x.1) < 0 := Int.mul_neg_of_pos_of_neg hk (by omega)
  rw [if_neg (by omega), if_neg (by omega)]
theorem pw_one (x : Int × Int) : pw x 1 = x := by
  by_cases h : x.1 ≤ x.2
  · rw [pw_up (by decide) h, Int.one_mul]
    exact Prod.ext rfl (by dsimp only; omega)
  · rw [pw_down (by decide) (by omega), Int.one_mul]
    exact Prod.ext (by dsimp only; omega) rfl
theorem pw_nn {x : Int × Int} {k : Int} (hx : Nn x) (hk : 0 ≤ k) : Nn (pw x k) := by
  by_cases h0 : k = 0
  · subst h0; rw [pw_zero]; exact ⟨by decide, by decide⟩
  obtain ⟨h1, h2⟩ := hx
  by_cases h : x.1 ≤ x.2
  · rw [pw_up (by omega) h]
    have := Int.mul_nonneg hk (show 0 ≤ x.2 - x.1 by omega)
    exact ⟨h1, by dsimp only; omega⟩
  · rw [pw_down (by omega) (by omega)]
    have := Int.mul_neg_of_pos_of_neg (show 0 < k by omega) (show x.2 - x.1 < 0 by omega)
    exact ⟨by dsimp only; omega, h2⟩
theorem pw_add {x : Int × Int} {a b : Int} (hx : Nn x) (ha : 0 ≤ a) (hb : 0 ≤ b) : pw x (a + b) = jn (pw x a) (pw x b) := by
  by_cases ha0 : a = 0
  · subst ha0
    rw [Int.zero_add, pw_zero, jn_zero (pw_nn hx hb).1]
  by_cases hb0 : b = 0
  · subst hb0
    rw [Int.add_zero, pw_zero, jn_zero' (pw_nn hx ha).2]
  obtain ⟨h1, h2⟩ := hx
  by_cases h : x.1 ≤ x.2
  · rw [pw_up (by omega) h, pw_up (by omega) h, pw_up (by omega) h, Int.add_mul]
    have e1 := Int.mul_nonneg ha (show 0 ≤ x.2 - x.1 by omega)
    have e2 := Int.mul_nonneg hb (show 0 ≤ x.2 - x.1 by omega)
    generalize a * (x.2 - x.1) = p at *
    generalize b * (x.2 - x.1) = r at *
    unfold jn
    refine Prod.ext ?_ ?_
    · dsimp only
      split <;> omega
    · dsimp only
      split <;> omega
  · rw [pw_down (by omega) (by omega), pw_down (by omega) (by omega), pw_down (by omega) (by omega), Int.add_mul]
    have e1 := Int.mul_neg_of_pos_of_neg (show 0 < a by omega) (show x.2 - x.1 < 0 by omega)
    have e2 := Int.mul_neg_of_pos_of_neg (show 0 < b by omega) (show x.2 - x.1 < 0 by omega)
    generalize a * (x.2 - x.1) = p at *
    generalize b * (x.2 - x.1) = r at *
    unfold jn
    refine Prod.ext ?_ ?_
    · dsimp only
      split <;> omega
    · dsimp only
      split <;> omega
theorem pw_succ {x : Int × Int} {a : Int} (hx : Nn x) (ha : 0 ≤ a) : pw x (a + 1) = jn x (pw x a) := by
  rw [Int.add_comm, pw_add hx (by decide) ha, pw_one]
theorem pw_mul {x : Int × Int} {a b : Int} (hx : Nn x) (ha : 0 ≤ a) (hb : 0 ≤ b) : pw (pw x a) b = pw x (a * b) := by
  by_cases ha0 : a = 0
  · subst ha0
    rw [Int.zero_mul, pw_zero]
    by_cases hb0 : b = 0
    · subst hb0; rw [pw_zero]
    · rw [pw_up (by omega) (Int.le_refl _)]
      exact Prod.ext rfl (by dsimp only; omega)
  by_cases hb0 : b = 0
  · subst hb0
    rw [Int.mul_zero, pw_zero, pw_zero]
  have hab : 0 < a * b := Int.mul_pos (by omega) (by omega)
  have ec : b * (a * (x.2 - x.1)) = a * b * (x.2 - x.1) := by rw [← Int.mul_assoc, Int.mul_comm b a]
  by_cases h : x.1 ≤ x.2
  · have e1 := Int.mul_nonneg ha (show 0 ≤ x.2 - x.1 by omega)
    rw [pw_up (x := x) (by omega) h, pw_up (x := x) hab h, pw_up (by omega) (by dsimp only; omega)]
    refine Prod.ext rfl ?_
    dsimp only
    rw [show x.1 + a * (x.2 - x.1) - x.1 = a * (x.2 - x.1) by omega, ec]
  · have e1 := Int.mul_neg_of_pos_of_neg (show 0 < a by omega) (show x.2 - x.1 < 0 by omega)
    rw [pw_down (x := x) (by omega) (by omega), pw_down (x := x) hab (by omega), pw_down (by omega) (by dsimp only; omega)]
    refine Prod.ext ?_ rfl
    dsimp only
    rw [show x.2 - (x.2 - a * (x.2 - x.1)) = a * (x.2 - x.1) by omega, ec]
theorem pw_wl {x : Int × Int} (hx : Nn x) : ∀ n : Nat, wl (List.replicate n x) = pw x n
  | 0 => (pw_zero x).symm
  | n + 1 => by
    rw [List.replicate_succ]
    show jn x (wl (List.replicate n x)) = _
    rw [pw_wl hx n, Int.natCast_add, Int.natCast_one, pw_succ hx (Int.natCast_nonneg n)]
theorem pw_one_row {x : Int × Int} (hx : Nn x) (k : Int) (hk : 0 ≤ k) : inOne (List.replicate k.toNat x) = pw x k := by
  rw [inOne_wl fun y hy => by rw [(List.mem_replicate.mp hy).2]; exact hx, pw_wl hx, Int.toNat_of_nonneg hk]
theorem rep_flat {α : Type} (x : α) : ∀ n : Nat, (List.replicate n [x]).flatten = List.replicate n x
  | 0 => rfl
  | n + 1 => by
    rw [List.replicate_succ, List.flatten_cons, rep_flat x n, List.replicate_succ]
    rfl
theorem lt_pow {n a b : Nat} (h : n < 2 ^ a) (hab : a ≤ b) : n < 2 ^ b := Nat.lt_of_lt_of_le h (Nat.pow_le_pow_right (by decide) hab)
/-- sizes -/
theorem mul_lt {i j : Int} {a b : Nat} (hi : i.natAbs < 2 ^ a) (hj : j.natAbs < 2 ^ b) : (i * j).natAbs < 2 ^ (a + b) := by
  rw [Int.natAbs_mul, Nat.pow_add]
  exact Nat.mul_lt_mul'' hi hj
theorem pw_sz {x : Int × Int} {k : Int} {a b : Nat} (h1 : x.1.natAbs < 2 ^ a) (h2 : x.2.natAbs < 2 ^ a) (hk : k.natAbs < 2 ^ b) : (pw x k).1.natAbs < 2 ^ (a + b + 2) ∧ (pw x k).2.natAbs < 2 ^ (a + b + 2) := by
  have hd : (x.2 - x.1).natAbs < 2 ^ (a + 1) := by
    rw [Nat.pow_succ]
    omega
  have hm := mul_lt hk hd
  have ha : 2 ^ a ≤ 2 ^ (a + b) := Nat.pow_le_pow_right (by decide) (by omega)
  have e : b + (a + 1) = a + b + 1 := by omega
  rw [e] at hm
  have e1 : 2 ^ (a + b + 1) = 2 ^ (a + b) * 2 := Nat.pow_succ ..
  have e2 : 2 ^ (a + b + 2) = 2 ^ (a + b) * 4 := by rw [Nat.pow_add]
  have e3 : 0 < 2 ^ (a + b) := Nat.pow_pos (by decide)
  unfold pw
  split
  · exact ⟨by show 0 < _; omega, by show 0 < _; omega⟩
  split
  · exact ⟨by dsimp only; omega, by dsimp only; omega⟩
  · exact ⟨by dsimp only; omega, by dsimp only; omega⟩
/-! ### the text -/
def top (i : Nat) : Stmt := PySem.Challenge.pw_stintpurse_k05_pairs_many_times.main.body.getD i (.Pass ⟨0, 0, 0, 0⟩)
abbrev s_law_take : Stmt := top 5
theorem sc_law_take : FnScope ["_law_stream_here", "_law_below", "_law_cells", "_law_begun", "_law_left", "_law_blend"] ["_law_stream_here", "_law_below"] (defScope s_law_take) := ⟨rfl, rfl, rfl, by decide +kernel, rfl, by decide +kernel, by decide +kernel⟩
abbrev s_law_number : Stmt := top 6
theorem sc_law_number : FnScope ["_law_stream_here", "_law_way"] ["_law_stream_here"] (defScope s_law_number) := ⟨rfl, rfl, rfl, by decide +kernel, rfl, by decide +kernel, by decide +kernel⟩
abbrev s_law_pair : Stmt := top 7
theorem sc_law_pair : FnScope ["_law_stream_here", "_law_need"] ["_law_stream_here"] (defScope s_law_pair) := ⟨rfl, rfl, rfl, by decide +kernel, rfl, by decide +kernel, by decide +kernel⟩
abbrev s_law_stream : Stmt := top 4
theorem sc_law_stream : FnScope ["_law_script", "_law_cell"] ["_law_script"] (defScope s_law_stream) := ⟨rfl, rfl, rfl, by decide +kernel, rfl, by decide +kernel, by decide +kernel⟩
abbrev s_law_alike : Stmt := top 8
theorem sc_law_alike : FnScope ["_law_found", "_law_due", "_law_k"] ["_law_found", "_law_due"] (defScope s_law_alike) := ⟨rfl, rfl, rfl, by decide +kernel, rfl, by decide +kernel, by decide +kernel⟩
abbrev s_law_in_one : Stmt := top 9
theorem sc_law_in_one : FnScope ["_law_row", "_law_tall", "_law_deepest", "_law_need", "_law_leave"] ["_law_row"] (defScope s_law_in_one) := ⟨rfl, rfl, rfl, by decide +kernel, rfl, by decide +kernel, by decide +kernel⟩
abbrev s_joined : Stmt := top 1
theorem sc_joined : FnScope ["one", "other", "need", "left", "wanted", "leave"] ["one", "other"] (defScope s_joined) := ⟨rfl, rfl, rfl, by decide +kernel, rfl, by decide +kernel, by decide +kernel⟩
abbrev s_power : Stmt := top 2
theorem sc_power : FnScope ["pair", "k", "need", "leave", "gained"] ["pair", "k"] (defScope s_power) := ⟨rfl, rfl, rfl, by decide +kernel, rfl, by decide +kernel, by decide +kernel⟩
abbrev s_law_far : Stmt := top 10
theorem sc_law_far : FnScope ["_law_stream_here", "_law_most"] ["_law_stream_here"] (defScope s_law_far) := ⟨rfl, rfl, rfl, by decide +kernel, rfl, by decide +kernel, by decide +kernel⟩
abbrev s_law : Stmt := top 11
theorem sc_law : FnScope ["_law_script", "_law_stream_here", "_law_turn", "_law_pair_here", "_law_few", "_law_one", "_law_other"] ["_law_script"] (defScope s_law) := ⟨rfl, rfl, rfl, by decide +kernel, rfl, by decide +kernel, by decide +kernel⟩
section
variable {P : Program} {w : World} {K : PySem.W.Frag} {mg : Str → Option Value} {base : Heap}

def spTake : Sp := fun vs H Q _ => ∃ (s c : Addr) (n : Int), vs = [.ref s, .int n] ∧ Strm c H s ∧ 0 < n ∧ n < 1073741824 ∧
  ∀ H' r, But s H H' → Strm c H' s → 0 ≤ r → r < n → Q (.int r) H'
theorem ok_take {f : Addr} {fd : FuncData} (F : FnP K "_law_take" s_law_take f fd) (B : Bi mg) : FnOk P w K mg base CX0 1 f fd ["_law_stream_here", "_law_below"] spTake := by
  refine F.ok sc_law_take (fun vs H Q E h => ?_) (fun cdv A outer s H vs Q E hr h => ?_)
  · obtain ⟨s, c, n, rfl, _⟩ := h
    rfl
  obtain ⟨s, c, n, rfl, hS, hn0, hn1, q⟩ := h
  obtain ⟨cs, b, l, bl, hs, hc, hcs, hlen, hb, hl, hbl, hbl2⟩ := hS.ex
  have ncs : c ≠ s := strm_ne hs hc
  refine ⟨_, PSs.nox (pss_cons (ps_asg (pv 0) (pg_unl rfl (pgs_cons (pg_name (i := 2) sc_law_take.nd rfl (.inl rfl)) (pgs_cons (pg_name (i := 3) sc_law_take.nd rfl (.inl rfl)) (pgs_cons (pg_name (i := 4) sc_law_take.nd rfl (.inl rfl)) (pgs_cons (pg_name (i := 5) sc_law_take.nd rfl (.inl rfl)) pgs_nil))))))
    (Evl.pss_cut (ps_if (PW.pt (pw_and (pt_cmpR op_eq (pv 4) pe_int (nomark _)) (pw_and1 (pt_cmpR op_lt (pv 3) (pe_callB (len_ (K := K) rfl) (by rfl) B.len PySem.boot_len (pa_cons (pv 2) pa_nil)) (nomark _))))) (pss_cons (ps_asg (pe_op op_add (pv 3) pe_int) (pg_sub (pv 0) pe_int set_list))
    (pss_one (ps_if (pt_cmpR op_ge (pe_ix (ixL_ (K := K) rfl) (pv 2) (pv 3) (fun _ _ => rfl)) (pe_op op_pow pe_int pe_int) (nomark _)) (pss_one (ps_set (i := 4) sc_law_take.nd rfl (.inl rfl) (pe_ix (ixL_ (K := K) rfl) (pv 2) (pv 3) (fun _ _ => rfl)))) (pss_one (ps_set (i := 5) sc_law_take.nd rfl (.inl rfl) (pe_op op_add (pv 5) (pe_op op_mod (pe_ix (ixL_ (K := K) rfl) (pv 2) (pv 3) (fun _ _ => rfl)) pe_int))))))) pss_nil)
    (pss_cons (ps_if (pt_cmpR op_gt (pv 4) pe_int (nomark _)) (pss_cons (ps_asg (pe_op op_fdiv (pv 4) (pv 1)) (pg_sub (pv 0) pe_int set_list))
    (pss_one (ps_ret (pe_op op_mod (pv 4) (pv 1))))) pss_nil)
    (pss_cons (ps_set (i := 5) sc_law_take.nd rfl (.inl rfl) (pe_op op_mod (pe_op op_add (pe_op op_mul (pv 5) pe_int) pe_int) pe_int))
    (pss_cons (ps_asg (pv 5) (pg_sub (pv 0) pe_int set_list))
    (pss_one (ps_ret (pe_op op_mod (pe_op op_fdiv (pe_op op_mod (pe_op op_mul (pv 5) (pv 5)) pe_int) pe_int) (pv 1))))))))), ?_⟩
  refine ⟨.ref s, rfl, s, _, rfl, .inl (.inl hs), rfl, _, _, rfl, _, _, rfl, _, _, rfl, _, _, rfl, rfl, ?_⟩
  refine ⟨fun σ' H' => ∃ (b' l' bl' : Int), σ' = [some (.ref s), some (.int n), some (.ref c), some (.int b), some (.int l'), some (.int bl')] ∧ H' s = some (.lst [.ref c, .int b', .int l, .int bl]) ∧ But s H H' ∧ 0 ≤ b' ∧ 0 ≤ l' ∧ 0 ≤ bl' ∧ bl' < 4294967296 * 2 ∧ (l' = 0 → l = 0), ?_, ?_⟩
  · refine ⟨_, rfl, rfl, _, rfl, ite2 (fun e => ?_) (fun e => ?_)⟩
    · refine ⟨_, rfl, _, rfl, c, _, rfl, .inl (.inl (.inl hc)), _, _, rfl, rfl, _, rfl, ite2 (fun e2 => ?_) (fun e2 => ?_)⟩
      · have l0 : l = 0 := V.int.inj (of_decide_eq_true e)
        have hb2 : b < ((cs.map V.int).length : Int) := of_decide_eq_true e2
        rw [List.length_map] at hb2
        have hbn : b = (b.toNat : Int) := (Int.toNat_of_nonneg hb).symm
        have hbl3 : b.toNat < cs.length := by omega
        have gc : (cs.map V.int)[b.toNat]? = some (.int cs[b.toNat]) := by
          rw [List.getElem?_map, List.getElem?_eq_getElem hbl3]; rfl
        have g0 : 0 ≤ cs[b.toNat] := hcs _ (List.getElem_mem hbl3)
        refine ⟨_, rfl, b, 1, rfl, rfl, _, rfl, s, _, _, 1, rfl, rfl, hs, rfl, ?_⟩
        have hs1 : upd H s (.lst [.ref c, .int (b + 1), .int l, .int bl]) s = some (.lst [.ref c, .int (b + 1), .int l, .int bl]) := upd_same
        have hc1 : upd H s (.lst [.ref c, .int (b + 1), .int l, .int bl]) c = some (.lst (cs.map V.int)) := by
          rw [upd_ne ncs]; exact hc
        have ga : atI (cs.map V.int) b = some (.int cs[b.toNat]) := at_of hbn gc
        refine ⟨_, rfl, _, rfl, c, _, b, _, rfl, rfl, .inl (.inl hc1), ga, 10, 18, rfl, rfl, ⟨by decide, by decide, by decide⟩, _, _, rfl, rfl, _, rfl, ite2 (fun e3 => ?_) (fun e3 => ?_)⟩
        · have h18 : (10 ^ (18 : Int).toNat : Int) ≤ cs[b.toNat] := of_decide_eq_true e3
          refine ⟨_, rfl, _, rfl, c, _, b, _, rfl, rfl, .inl (.inl hc1), ga, ?_⟩
          refine ⟨b + 1, cs[b.toNat], bl, rfl, hs1, But.put, by omega, g0, hbl, by omega, fun z => ?_⟩
          exact l0
        · refine ⟨_, rfl, _, rfl, _, rfl, c, _, b, _, rfl, rfl, .inl (.inl hc1), ga, _, 2147483629, rfl, rfl, (show (0 : Int) < 2147483629 by decide), _, _, rfl, rfl, ?_⟩
          refine ⟨b + 1, l, bl + cs[b.toNat] % 2147483629, rfl, hs1, But.put, by omega, hl, by omega, by omega, fun z => z⟩
      · exact ⟨b, l, bl, rfl, hs, But.refl _ _, hb, hl, hbl, by omega, fun z => z⟩
    · exact ⟨b, l, bl, rfl, hs, But.refl _ _, hb, hl, hbl, by omega, fun z => z⟩
  · rintro σ' H1 ⟨b', l', bl', rfl, hs1, hB, hb', hl', hbl', hbl2', hl0⟩
    have hc1 : H1 c = some (.lst (cs.map V.int)) := hB c _ ncs hc
    refine ⟨_, rfl, l', 0, rfl, rfl, _, rfl, ite2 (fun e => ?_) (fun e => ?_)⟩
    · have l1 : 0 < l' := of_decide_eq_true e
      refine ⟨_, rfl, _, rfl, l', n, rfl, rfl, ⟨hn0, hn1⟩, _, rfl, s, _, _, 2, rfl, rfl, hs1, rfl, ?_⟩
      refine ⟨_, rfl, _, rfl, l', n, rfl, rfl, hn0, ?_⟩
      refine q _ _ (hB.trans But.put) ⟨cs, b', l' / n, bl, upd_same, ?_, hcs, hlen, hb', Int.ediv_nonneg hl' (Int.le_of_lt hn0), hbl, hbl2⟩ (Int.emod_nonneg _ (Int.ne_of_gt hn0)) (Int.emod_lt_of_pos _ hn0)
      rw [upd_ne ncs]; exact hc1
    · refine ⟨_, rfl, bl', 48271, rfl, rfl, .inr ⟨by decide, by decide⟩, _, 30011, rfl, rfl, _, 2147483647, rfl, rfl, (show (0 : Int) < 2147483647 by decide), ?_⟩
      dsimp only
      have z0 : 0 ≤ (bl' * 48271 + 30011) % 2147483647 := Int.emod_nonneg _ (by decide)
      have z1 : (bl' * 48271 + 30011) % 2147483647 < 2147483647 := Int.emod_lt_of_pos _ (by decide)
      generalize (bl' * 48271 + 30011) % 2147483647 = z at z0 z1 ⊢
      refine ⟨_, rfl, _, rfl, s, _, _, 3, rfl, rfl, hs1, rfl, ?_⟩
      refine ⟨_, rfl, _, rfl, z, z, rfl, rfl, .inl ⟨by omega, by omega⟩, _, 2147483629, rfl, rfl, (show (0 : Int) < 2147483629 by decide), _, 16, rfl, rfl, ⟨by decide, by decide⟩, _, rfl, _, n, rfl, rfl, hn0, ?_⟩
      refine q _ _ (hB.trans But.put) ⟨cs, b', l, z, upd_same, ?_, hcs, hlen, hb', hl, z0, by omega⟩ (Int.emod_nonneg _ (Int.ne_of_gt hn0)) (Int.emod_lt_of_pos _ hn0)
      rw [upd_ne ncs]; exact hc1

def spNumber : Sp := fun vs H Q _ => ∃ (s c : Addr), vs = [.ref s] ∧ Strm c H s ∧
  ∀ H' r, But s H H' → Strm c H' s → 0 ≤ r → r < 10000000000000000000000000000000000000000 → Q (.int r) H'
theorem ok_number {f : Addr} {fd : FuncData} (F : FnP K "_law_number" s_law_number f fd) (c_law_take : Cl P w K mg base 1 "_law_take" ["_law_stream_here", "_law_below"] spTake) : FnOk P w K mg base CX0 2 f fd ["_law_stream_here"] spNumber := by
  refine F.ok sc_law_number (fun vs H Q E h => ?_) (fun cdv A outer s H vs Q E hr h => ?_)
  · obtain ⟨s, c, rfl, _⟩ := h
    rfl
  obtain ⟨s, c, rfl, hS, q⟩ := h
  refine ⟨_, PSs.nox (pss_cons (ps_set (i := 1) sc_law_number.nd rfl (.inl rfl) (pe_cl c_law_take hr (by rfl) (pa_cons (pv 0) (pa_cons pe_int pa_nil))))
    (pss_cons (ps_if (pt_cmpR op_eq (pv 1) pe_int (nomark _)) (pss_one (ps_ret pe_int)) pss_nil)
    (pss_cons (ps_if (pt_cmpR op_lt (pv 1) pe_int (nomark _)) (pss_one (ps_ret (pe_cl c_law_take hr (by rfl) (pa_cons (pv 0) (pa_cons pe_int pa_nil))))) pss_nil)
    (pss_cons (ps_if (pt_cmpR op_lt (pv 1) pe_int (nomark _)) (pss_one (ps_ret (pe_cl c_law_take hr (by rfl) (pa_cons (pv 0) (pa_cons pe_int pa_nil))))) pss_nil)
    (pss_one (ps_ret (pe_op op_add (pe_ix (ixL_ (K := K) rfl) (pe_lst (pa_cons (pe_op op_pow pe_int pe_int) (pa_cons (pe_op op_pow pe_int pe_int) (pa_cons (pe_op op_pow pe_int pe_int) (pa_cons (pe_op op_pow pe_int pe_int) pa_nil))))) (pe_cl c_law_take hr (by rfl) (pa_cons (pv 0) (pa_cons pe_int pa_nil))) (fun _ _ => rfl)) (pe_cl c_law_take hr (by rfl) (pa_cons (pv 0) (pa_cons pe_int pa_nil)))))))))), ?_⟩
  refine ⟨_, rfl, s, c, 16, rfl, hS, by decide, by decide, fun H1 r B1 S1 r0 r1 => ?_⟩
  refine ⟨_, rfl, rfl, _, rfl, ite2 (fun e => ?_) (fun e => ?_)⟩
  · exact q _ _ B1 S1 (by decide) (by decide)
  refine ⟨_, rfl, _, _, rfl, rfl, _, rfl, ite2 (fun e => ?_) (fun e => ?_)⟩
  · exact ⟨_, rfl, s, c, 10, rfl, S1, by decide, by decide, fun H2 r B2 S2 r0 r1 => q _ _ (B1.trans B2) S2 r0 (by omega)⟩
  refine ⟨_, rfl, _, _, rfl, rfl, _, rfl, ite2 (fun e => ?_) (fun e => ?_)⟩
  · exact ⟨_, rfl, s, c, 41, rfl, S1, by decide, by decide, fun H2 r B2 S2 r0 r1 => q _ _ (B1.trans B2) S2 r0 (by omega)⟩
  refine ⟨10, 9, rfl, rfl, ⟨by decide, by decide, by decide⟩, 10, 12, rfl, rfl, ⟨by decide, by decide, by decide⟩, 10, 18, rfl, rfl, ⟨by decide, by decide, by decide⟩, 10, 39, rfl, rfl, ⟨by decide, by decide, by decide⟩, by decide, fun p np => ?_⟩
  have S2 : Strm c (upd H1 p _) s := S1.up (Same.new (o := .lst [V.int (10 ^ (9 : Int).toNat), .int (10 ^ (12 : Int).toNat), .int (10 ^ (18 : Int).toNat), .int (10 ^ (39 : Int).toNat)]) np)
  refine ⟨_, rfl, s, c, 4, rfl, S2, by decide, by decide, fun H3 r B3 S3 r0 r1 => ?_⟩
  have np3 : p ≠ s := by
    obtain ⟨xs, hx⟩ := S1.lst
    exact (ne_of_none hx np).symm
  have hx : ∃ x : Int, atI [V.int (10 ^ (9 : Int).toNat), .int (10 ^ (12 : Int).toNat), .int (10 ^ (18 : Int).toNat), .int (10 ^ (39 : Int).toNat)] r = some (.int x) ∧ 0 ≤ x ∧ x ≤ 1000000000000000000000000000000000000000 := by
    obtain rfl | rfl | rfl | rfl : r = 0 ∨ r = 1 ∨ r = 2 ∨ r = 3 := by omega
    · exact ⟨_, rfl, by decide, by decide⟩
    · exact ⟨_, rfl, by decide, by decide⟩
    · exact ⟨_, rfl, by decide, by decide⟩
    · exact ⟨_, rfl, by decide, by decide⟩
  obtain ⟨x, hx, x0, x1⟩ := hx
  refine ⟨p, _, r, .int x, rfl, rfl, .inl (.inl (B3 p _ np3 upd_same)), hx, ?_⟩
  refine ⟨_, rfl, s, c, 3, rfl, S3, by decide, by decide, fun H4 r4 B4 S4 r40 r41 => ?_⟩
  exact ⟨x, r4, rfl, rfl, q _ _ (B1.trans ((But.new np).trans (B3.trans B4))) S4 (by omega) (by omega)⟩

def spPair : Sp := fun vs H Q _ => ∃ (s c : Addr), vs = [.ref s] ∧ Strm c H s ∧
  ∀ H' v x, But s H H' → Strm c H' s → At H' (dP x) v → 0 ≤ x.1 → x.1 < 10000000000000000000000000000000000000000 → 0 ≤ x.2 → x.2 < 10000000000000000000000000000000000000000 → Q v H'
theorem ok_pair {f : Addr} {fd : FuncData} (F : FnP K "_law_pair" s_law_pair f fd) (B : Bi mg) (c_law_take : Cl P w K mg base 1 "_law_take" ["_law_stream_here", "_law_below"] spTake) (c_law_number : Cl P w K mg base 2 "_law_number" ["_law_stream_here"] spNumber) : FnOk P w K mg base CX0 3 f fd ["_law_stream_here"] spPair := by
  refine F.ok sc_law_pair (fun vs H Q E h => ?_) (fun cdv A outer s H vs Q E hr h => ?_)
  · obtain ⟨s, c, rfl, _⟩ := h
    rfl
  obtain ⟨s, c, rfl, hS, q⟩ := h
  refine ⟨_, PSs.nox (pss_cons (ps_if (pt_cmpR op_eq (pe_cl c_law_take (hr.mono (by decide)) (by rfl) (pa_cons (pv 0) (pa_cons pe_int pa_nil))) pe_int (nomark _)) (pss_one (ps_ret (pe_tup (pa_cons (pe_cl c_law_number hr (by rfl) (pa_cons (pv 0) pa_nil)) (pa_cons (pe_cl c_law_number hr (by rfl) (pa_cons (pv 0) pa_nil)) pa_nil))))) pss_nil)
    (pss_cons (ps_set (i := 1) sc_law_pair.nd rfl (.inl rfl) (pe_cl c_law_take (hr.mono (by decide)) (by rfl) (pa_cons (pv 0) (pa_cons pe_int pa_nil))))
    (pss_one (ps_ret (pe_tup (pa_cons (pv 1) (pa_cons (pe_callB (call_max2 rfl) (by rfl) B.max (by decide +kernel) (pa_cons pe_int (pa_cons (pe_op op_sub (pe_op op_add (pv 1) (pe_cl c_law_take (hr.mono (by decide)) (by rfl) (pa_cons (pv 0) (pa_cons pe_int pa_nil)))) pe_int) pa_nil))) pa_nil))))))), ?_⟩
  refine ⟨_, rfl, s, c, 4, rfl, hS, by decide, by decide, fun H1 r B1 S1 r0 r1 => ?_⟩
  refine ⟨rfl, _, rfl, ite2 (fun e => ?_) (fun e => ?_)⟩
  · refine ⟨_, rfl, s, c, rfl, S1, fun H2 x B2 S2 x0 x1 => ?_⟩
    refine ⟨_, rfl, s, c, rfl, S2, fun H3 y B3 S3 y0 y1 => ?_⟩
    refine ⟨sz2, fun p np => ?_⟩
    exact q _ _ (x, y) (B1.trans (B2.trans (B3.trans (But.new np)))) (S3.up (Same.new np)) (At.mkPair upd_same) x0 x1 y0 y1
  · refine ⟨_, rfl, s, c, 12, rfl, S1, by decide, by decide, fun H2 x B2 S2 x0 x1 => ?_⟩
    refine ⟨_, rfl, _, rfl, _, rfl, s, c, 9, rfl, S2, by decide, by decide, fun H3 y B3 S3 y0 y1 => ?_⟩
    refine ⟨x, y, rfl, rfl, _, 4, rfl, rfl, 0, _, rfl, sz2, fun p np => ?_⟩
    refine q _ _ (x, _) (B1.trans (B2.trans (B3.trans (But.new np)))) (S3.up (Same.new np)) (At.mkPair upd_same) x0 (by omega) ?_ ?_
    · show (0 : Int) ≤ if x + y - 4 > 0 then x + y - 4 else 0
      split <;> omega
    · show (if x + y - 4 > 0 then x + y - 4 else 0) < 10000000000000000000000000000000000000000
      split <;> omega

def spStream (K : PySem.W.Frag) : Sp := fun vs H Q _ => ∃ (a : Addr) (ns : List Int), vs = [.ref a] ∧ SqL K H a (ns.map V.int) ∧ ns.length ≤ 63 ∧
  ∀ H' s c, Same H H' → Strm c H' s → Q (.ref s) H'
theorem ok_stream {f : Addr} {fd : FuncData} (F : FnP K "_law_stream" s_law_stream f fd) (B : Bi mg) : FnOk P w K mg base CX0 1 f fd ["_law_script"] (spStream K) := by
  refine F.ok sc_law_stream (fun vs H Q E h => ?_) (fun cdv A outer s H vs Q E hr h => ?_)
  · obtain ⟨a, ns, rfl, _⟩ := h
    rfl
  obtain ⟨a, ns, rfl, hS, hn, q⟩ := h
  refine ⟨_, PSs.nox (pss_one (ps_ret (pe_lst (pa_cons (pe_lc (own := [("_law_cell", 1)]) rfl sc_law_stream.nd (pi_list (pe_slice (slL_ (K := K) rfl) (pv 0) po_none (po_some pe_int))) (blkOk_by (N := ["_law_script", "_law_cell"]) (sc := defScope s_law_stream) (by decide +kernel)) (fun _ _ _ _ _ => (pg_name (i := 1) sc_law_stream.nd rfl (.inl rfl))) (fun _ _ _ _ _ => pts_nil) (fun _ _ _ _ _ => (pe_callB call_abs (by rfl) B.abs (by decide +kernel) (pa_cons (pv 1) pa_nil)))) (pa_cons pe_int (pa_cons pe_int (pa_cons (pe_op op_add pe_int (pe_callB (len_ (K := K) rfl) (by rfl) B.len PySem.boot_len (pa_cons (pv 0) pa_nil))) pa_nil))))))), ?_⟩
  refine ⟨_, rfl, 63, rfl, a, ns.map V.int, rfl, hS, fun p np => ?_⟩
  have ecut : cutV (ns.map V.int) none (some 63) = ns.map V.int := by
    unfold cutV
    rw [HT.sIx_none, show HT.sIx (ns.map V.int).length (ns.map V.int).length (some 63) = min 63 (ns.map V.int).length from HT.sIx_nat _ _ 63, List.length_map]
    rw [show min 63 ns.length = ns.length by omega]
    rw [List.drop_zero]
    exact List.take_of_length_le (by rw [List.length_map]; omega)
  rw [ecut]
  have s1 : Same H (upd H p (.lst (ns.map V.int))) := Same.new np
  refine ⟨p, rfl, ⟨_, .inl (.inl upd_same)⟩, fun D hD => ?_⟩
  have npD : p ≠ D := ne_of_none upd_same hD
  refine lc_list (xs := ns.map V.int) (fun i H3 => ∃ ms : List Int, ms.length = i ∧ H3 D = some (.lst (ms.map V.int)) ∧ (∀ x ∈ ms, 0 ≤ x) ∧ Same (upd H p (.lst (ns.map V.int))) H3) ?_ ?_ ?_ ?_
  · exact ⟨[], rfl, upd_same, fun x h => by (cases h), Same.new hD⟩
  · rintro i H3 hi ⟨ms, _, _, _, sm⟩
    exact .inl (.inl (sm p _ upd_same))
  · rintro i x H3 hx ⟨ms, rfl, hm, h0, sm⟩
    rw [List.getElem?_map] at hx
    cases hg : ns[ms.length]? with
    | none => rw [hg] at hx; cases hx
    | some z =>
      rw [hg] at hx
      cases hx
      have hlt : ms.length < ns.length := (List.getElem?_eq_some_iff.mp hg).1
      refine ⟨rfl, ?_⟩
      refine lcYes ?_
      refine ⟨_, rfl, z, rfl, ms.map V.int, hm, ?_, ms ++ [if z < 0 then -z else z], by rw [List.length_append, List.length_singleton], ?_, ?_, ?_⟩
      · rw [List.length_map]; exact szM (by omega)
      · rw [upd_same, List.map_append]; rfl
      · intro y hy
        rcases List.mem_append.mp hy with h | h
        · exact h0 y h
        · rw [List.mem_singleton.mp h]; split <;> omega
      · exact Same.own sm hD
  · rintro H3 ⟨ms, hl, hm, h0, sm⟩
    rw [List.length_map] at hl
    refine ⟨_, rfl, a, _, rfl, .inl (sm.seq (s1.seq hS)), _, _, rfl, rfl, sz4, fun s ns2 => ?_⟩
    refine q _ s D (s1.trans (sm.trans (Same.new ns2))) ⟨ms, 0, 0, 7655 + ((ns.map V.int).length : Int), upd_same, ?_, h0, by omega, by decide, by decide, by omega, by rw [List.length_map]; omega⟩
    rw [upd_ne (ne_of_none hm ns2)]; exact hm

def spAlike (k : Nat) : Sp := fun vs H Q _ => ∃ (d : D) (u v : V), vs = [u, v] ∧ Dep k d ∧ At H d u ∧ At H d v ∧ ∀ H', Same H H' → Q (.bl true) H'
theorem alike_step {f : Addr} {fd : FuncData} {k : Nat} {spR : Sp} (F : FnP K "_law_alike" s_law_alike f fd) (B : Bi mg) (c_law_alike : Cl P w K mg base k "_law_alike" ["_law_found", "_law_due"] spR)
    (hR : ∀ (d : D) (u v : V) (H : Hp) (Q : VK) (E : XK) (l : List D), Dep k (.t l) → d ∈ l → At H d u → At H d v → (∀ H', Same H H' → Q (.bl true) H') → spR [u, v] H Q E) : FnOk P w K mg base CX0 (k + 1) f fd ["_law_found", "_law_due"] (spAlike k) := by
  refine F.ok sc_law_alike (fun vs H Q E h => ?_) (fun cdv A outer s H vs Q E hr h => ?_)
  · obtain ⟨d, u, v, rfl, _⟩ := h
    rfl
  obtain ⟨d, u, v, rfl, hd, hu, hv, q⟩ := h
  refine ⟨_, PSs.nox (pss_cons (ps_if (pt_val (pe_callB (isi_ (K := K) rfl) (by rfl) B.isinstance (by decide +kernel) (pa_cons (pv 1) (pa_cons (pe_bltn (by rfl) B.tuple (by decide +kernel) (rel_ty "tuple")) pa_nil)))) (pss_cons (ps_if (PW.pt (pw_or (pt_not (pt_val (pe_callB (isi_ (K := K) rfl) (by rfl) B.isinstance (by decide +kernel) (pa_cons (pv 0) (pa_cons (pe_bltn (by rfl) B.tuple (by decide +kernel) (rel_ty "tuple")) pa_nil))))) (pw_or1 (pt_cmpR op_ne (pe_callB (len_ (K := K) rfl) (by rfl) B.len PySem.boot_len (pa_cons (pv 0) pa_nil)) (pe_callB (len_ (K := K) rfl) (by rfl) B.len PySem.boot_len (pa_cons (pv 1) pa_nil)) (nomark _))))) (pss_one (ps_ret pe_bl)) pss_nil)
    (pss_one (ps_ret (pe_cmpR (eqD_ (K := K) hr.units rfl) (pe_lc (own := [("_law_k", 2)]) rfl sc_law_alike.nd (pi_range1 (by rfl) B.range (pa_cons (pe_callB (len_ (K := K) rfl) (by rfl) B.len PySem.boot_len (pa_cons (pv 1) pa_nil)) pa_nil)) (blkOk_by (N := ["_law_found", "_law_due", "_law_k"]) (sc := defScope s_law_alike) (by decide +kernel)) (fun _ _ _ _ _ => (pg_name (i := 2) sc_law_alike.nd rfl (.inl rfl))) (fun _ _ _ _ _ => (pts_one (pt_not (pt_val (pe_cl c_law_alike hr (by rfl) (pa_cons (pe_ix (ixT_ (K := K) rfl) (pv 0) (pv 2) (fun _ _ => rfl)) (pa_cons (pe_ix (ixT_ (K := K) rfl) (pv 1) (pv 2) (fun _ _ => rfl)) pa_nil))))))) (fun _ _ _ _ _ => (pv 2))) (pe_lst pa_nil) (nomark _))))) pss_nil)
    (pss_cons (ps_if (pt_cmpR op_isN (pv 1) pe_non (nomark _)) (pss_one (ps_ret (pe_cmpR op_isN (pv 0) pe_non (nomark _)))) pss_nil)
    (pss_cons (ps_if (pt_val (pe_callB (isi_ (K := K) rfl) (by rfl) B.isinstance (by decide +kernel) (pa_cons (pv 1) (pa_cons (pe_bltn (by rfl) B.bool (by decide +kernel) (rel_ty "bool")) pa_nil)))) (pss_one (ps_ret (pe_and (pe_callB (isi_ (K := K) rfl) (by rfl) B.isinstance (by decide +kernel) (pa_cons (pv 0) (pa_cons (pe_bltn (by rfl) B.bool (by decide +kernel) (rel_ty "bool")) pa_nil))) (pe_one (pe_cmpR op_eq (pv 0) (pv 1) (nomark _)))))) pss_nil)
    (pss_cons (ps_if (pt_val (pe_callB (isi_ (K := K) rfl) (by rfl) B.isinstance (by decide +kernel) (pa_cons (pv 1) (pa_cons (pe_bltn (by rfl) B.str (by decide +kernel) (rel_ty "str")) pa_nil)))) (pss_one (ps_ret (pe_and (pe_callB (isi_ (K := K) rfl) (by rfl) B.isinstance (by decide +kernel) (pa_cons (pv 0) (pa_cons (pe_bltn (by rfl) B.str (by decide +kernel) (rel_ty "str")) pa_nil))) (pe_one (pe_cmpR op_eq (pv 0) (pv 1) (nomark _)))))) pss_nil)
    (pss_one (ps_ret (pe_and (pe_callB (isi_ (K := K) rfl) (by rfl) B.isinstance (by decide +kernel) (pa_cons (pv 0) (pa_cons (pe_bltn (by rfl) B.int (by decide +kernel) (rel_ty "int")) pa_nil))) (pe_and (pe_not (pe_callB (isi_ (K := K) rfl) (by rfl) B.isinstance (by decide +kernel) (pa_cons (pv 0) (pa_cons (pe_bltn (by rfl) B.bool (by decide +kernel) (rel_ty "bool")) pa_nil)))) (pe_one (pe_cmpR op_eq (pv 0) (pv 1) (nomark _))))))))))), ?_⟩
  cases d with
  | t l =>
    obtain ⟨a, us, rfl, ha, au⟩ := hu.inv
    obtain ⟨b, vs, rfl, hb, bv⟩ := hv.inv
    have hk : ∃ j, k = j + 1 := by
      cases k with
      | zero => exact hd.elim
      | succ j => exact ⟨j, rfl⟩
    obtain ⟨j, rfl⟩ := hk
    have hll : l.length ≤ 1000000 := hd.1
    refine ⟨_, rfl, _, _, _, _, _, rfl, ClsV.ty _, TyX.base (TyOf.tup hb), kit_ty (b := "tuple") (r := true) (by decide +kernel), _, rfl, iteT ?_⟩
    refine ⟨_, rfl, _, _, _, _, _, rfl, ClsV.ty _, TyX.base (TyOf.tup ha), kit_ty (b := "tuple") (r := true) (by decide +kernel), _, rfl, iteF ?_⟩
    refine ⟨_, rfl, a, us, rfl, .inr (.inl (.inl ha)), _, rfl, b, vs, rfl, .inr (.inl (.inl hb)), rfl, _, rfl, ?_⟩
    refine iteNS (by rw [au.length, bv.length]) ?_
    refine ⟨_, rfl, b, vs, rfl, .inr (.inl (.inl hb)), _, rfl, by omega, by rw [bv.length]; omega, fun D hD => ?_⟩
    refine lc_range (lo := 0) (n := vs.length) (fun i H3 => Same H H3 ∧ H3 D = some (.lst [])) ⟨Same.new hD, upd_same⟩ ?_ ?_
    · rintro i H3 hi ⟨sm, eD⟩
      have hil : i < l.length := by rw [← bv.length]; exact hi
      have gl : l[i]? = some l[i] := List.getElem?_eq_getElem hil
      obtain ⟨x, gx, ax⟩ := au.get gl
      obtain ⟨y, gy, ay⟩ := bv.get gl
      refine ⟨rfl, ?_⟩
      refine ⟨_, rfl, _, rfl, a, us, _, x, rfl, rfl, .inl (.inl (sm _ _ ha)), at_of (by omega) gx, _, rfl, _, rfl, b, vs, _, y, rfl, rfl, .inl (.inl (sm _ _ hb)), at_of (by omega) gy, ?_⟩
      refine hR l[i] x y H3 _ _ l hd (List.getElem_mem hil) (ax.same sm) (ay.same sm) fun H4 sm4 => ?_
      exact ⟨_, rfl, iteF ⟨sm.trans sm4, sm4 _ _ eD⟩⟩
    · rintro H3 ⟨sm, eD⟩
      refine ⟨Nat.zero_le _, fun p np => ?_⟩
      refine ⟨.list [], .list [], .lst (.inl (.inl (Same.new np _ _ eD))) .nil, .lst (.inl (.inl upd_same)) .nil, rfl, rfl, ?_⟩
      exact q _ (sm.trans (Same.new np))
  | n =>
    unfold At at hu hv
    subst hu hv
    refine ⟨_, rfl, _, _, _, _, _, rfl, ClsV.ty _, TyX.base .non, kit_ty (b := "tuple") (r := false) (by decide +kernel), _, rfl, iteF ?_⟩
    refine ⟨_, rfl, rfl, _, rfl, iteT ?_⟩
    exact ⟨_, rfl, rfl, q _ (Same.refl _)⟩
  | b x =>
    unfold At at hu hv
    subst hu hv
    refine ⟨_, rfl, _, _, _, _, _, rfl, ClsV.ty _, TyX.base (.bl x), kit_ty (b := "tuple") (r := false) (by decide +kernel), _, rfl, iteF ?_⟩
    refine ⟨_, rfl, rfl, _, rfl, iteF ?_⟩
    refine ⟨_, rfl, _, _, _, _, _, rfl, ClsV.ty _, TyX.base (.bl x), kit_ty (b := "bool") (r := true) (by decide +kernel), _, rfl, iteT ?_⟩
    refine ⟨_, rfl, _, _, _, _, _, rfl, ClsV.ty _, TyX.base (.bl x), kit_ty (b := "bool") (r := true) (by decide +kernel), _, rfl, iteT ?_⟩
    refine ⟨_, rfl, _, rfl, rfl, ?_⟩
    rw [decide_eq_true rfl]
    exact q _ (Same.refl _)
  | s x =>
    unfold At at hu hv
    subst hu hv
    refine ⟨_, rfl, _, _, _, _, _, rfl, ClsV.ty _, TyX.base (.str x), kit_ty (b := "tuple") (r := false) (by decide +kernel), _, rfl, iteF ?_⟩
    refine ⟨_, rfl, rfl, _, rfl, iteF ?_⟩
    refine ⟨_, rfl, _, _, _, _, _, rfl, ClsV.ty _, TyX.base (.str x), kit_ty (b := "bool") (r := false) (by decide +kernel), _, rfl, iteF ?_⟩
    refine ⟨_, rfl, _, _, _, _, _, rfl, ClsV.ty _, TyX.base (.str x), kit_ty (b := "str") (r := true) (by decide +kernel), _, rfl, iteT ?_⟩
    refine ⟨_, rfl, _, _, _, _, _, rfl, ClsV.ty _, TyX.base (.str x), kit_ty (b := "str") (r := true) (by decide +kernel), _, rfl, iteT ?_⟩
    refine ⟨_, rfl, _, rfl, rfl, ?_⟩
    rw [decide_eq_true rfl]
    exact q _ (Same.refl _)
  | i x =>
    unfold At at hu hv
    subst hu hv
    refine ⟨_, rfl, _, _, _, _, _, rfl, ClsV.ty _, TyX.base (.int x), kit_ty (b := "tuple") (r := false) (by decide +kernel), _, rfl, iteF ?_⟩
    refine ⟨_, rfl, rfl, _, rfl, iteF ?_⟩
    refine ⟨_, rfl, _, _, _, _, _, rfl, ClsV.ty _, TyX.base (.int x), kit_ty (b := "bool") (r := false) (by decide +kernel), _, rfl, iteF ?_⟩
    refine ⟨_, rfl, _, _, _, _, _, rfl, ClsV.ty _, TyX.base (.int x), kit_ty (b := "str") (r := false) (by decide +kernel), _, rfl, iteF ?_⟩
    refine ⟨_, rfl, _, _, _, _, _, rfl, ClsV.ty _, TyX.base (.int x), kit_ty (b := "int") (r := true) (by decide +kernel), _, rfl, iteT ?_⟩
    refine ⟨_, rfl, _, _, _, _, _, rfl, ClsV.ty _, TyX.base (.int x), kit_ty (b := "bool") (r := false) (by decide +kernel), _, rfl, _, rfl, iteT ?_⟩
    refine ⟨_, rfl, _, rfl, rfl, ?_⟩
    rw [decide_eq_true rfl]
    exact q _ (Same.refl _)
theorem ok_alike {f : Addr} {fd : FuncData} (F : FnP K "_law_alike" s_law_alike f fd) (B : Bi mg) (hm : mg "_law_alike" = some (.ref f)) : ∀ k, FnOk P w K mg base CX0 (k + 1) f fd ["_law_found", "_law_due"] (spAlike k)
  | 0 => by
    have b : Binds K fd ["_law_found", "_law_due"] [] := FunD.bindsN F fun _ _ _ _ _ _ us hl => match us, hl with | [_, _], _ => rfl
    exact alike_step (spR := fun _ _ _ _ => False) F B ⟨f, fd, hm, F.kp, b, ⟨fun _ _ _ _ h => h.elim, fun _ _ _ _ _ _ _ _ _ _ _ _ _ h => h.elim⟩⟩ fun d u v H Q E l h => h.elim
  | k + 1 => by
    have b : Binds K fd ["_law_found", "_law_due"] [] := FunD.bindsN F fun _ _ _ _ _ _ us hl => match us, hl with | [_, _], _ => rfl
    exact alike_step (spR := spAlike k) F B ⟨f, fd, hm, F.kp, b, ok_alike F B hm k⟩ fun d u v H Q E l h hd a1 a2 q => ⟨d, u, v, rfl, h.2 d hd, a1, a2, q⟩

def spInOne : Sp := fun vs H Q _ => ∃ (v : V) (ps : List (Int × Int)), vs = [v] ∧ At H (dR ps) v ∧ ∀ H' u, Same H H' → At H' (dP (inOne ps)) u → Q u H'
theorem ok_in_one {f : Addr} {fd : FuncData} {k : Nat} (F : FnP K "_law_in_one" s_law_in_one f fd) (B : Bi mg) : FnOk P w K mg base CX0 (k + 1) f fd ["_law_row"] spInOne := by
  refine F.ok sc_law_in_one (fun vs H Q E h => ?_) (fun cdv A outer s H vs Q E hr h => ?_)
  · obtain ⟨v, ps, rfl, _⟩ := h
    rfl
  obtain ⟨v, ps, rfl, hv, q⟩ := h
  obtain ⟨a, us, rfl, ha, au⟩ := hv.inv
  have hul : us.length = ps.length := by rw [au.length, List.length_map]
  refine ⟨_, PSs.nox (pss_cons (ps_asg (pe_tup (pa_cons pe_int (pa_cons pe_int pa_nil))) (pg_tup rfl (pgs_cons (pg_name (i := 1) sc_law_in_one.nd rfl (.inl rfl)) (pgs_cons (pg_name (i := 2) sc_law_in_one.nd rfl (.inl rfl)) pgs_nil))))
    (pss_cons (ps_for PassesOwn.never rfl (pi_tup (pv 0)) (pg_tup rfl (pgs_cons (pg_name (i := 3) sc_law_in_one.nd rfl (.inl rfl)) (pgs_cons (pg_name (i := 4) sc_law_in_one.nd rfl (.inl rfl)) pgs_nil)))
      (pss_cons (ps_set (i := 2) sc_law_in_one.nd rfl (.inl rfl) (pe_callB (call_min2 rfl) (by rfl) B.min (by decide +kernel) (pa_cons (pv 2) (pa_cons (pe_op op_sub (pv 1) (pv 3)) pa_nil))))
    (pss_one (ps_set (i := 1) sc_law_in_one.nd rfl (.inl rfl) (pe_op op_add (pe_op op_sub (pv 1) (pv 3)) (pv 4))))))
    (pss_one (ps_ret (pe_tup (pa_cons (pe_op op_sub pe_int (pv 2)) (pa_cons (pe_op op_sub (pv 1) (pv 2)) pa_nil))))))), ?_⟩
  refine ⟨sz2, fun p0 np0 => ?_⟩
  refine ⟨p0, _, rfl, .inl (.inl upd_same), rfl, _, _, rfl, _, _, rfl, rfl, ?_⟩
  replace ha := Same.new (o := .tup [.int 0, .int 0]) np0 _ _ ha
  replace au := au.same (Same.new (o := .tup [.int 0, .int 0]) np0)
  have q := fun H' u sm => q H' u ((Same.new (o := .tup [.int 0, .int 0]) np0).trans sm)
  generalize upd H p0 (.tup [.int 0, .int 0]) = H at *
  refine ⟨_, rfl, a, rfl, ⟨us, .inl (.inl ha)⟩, ?_⟩
  refine for_tup (xs := us) (fun i σ H3 => H3 = H ∧ ∃ y z, σ = [some (.ref a), some (.int (dipf (ps.take i) 0 0).1), some (.int (dipf (ps.take i) 0 0).2), y, z]) ⟨rfl, none, none, rfl⟩ ?_ ?_ ?_
  · rintro i σ H3 hi ⟨rfl, _⟩
    exact .inl (.inl ha)
  · rintro i x σ H3 hx ⟨rfl, y, z, rfl⟩
    obtain ⟨d, hd, ad⟩ := au.get' hx
    rw [List.getElem?_map] at hd
    cases hp : ps[i]? with
    | none => rw [hp] at hd; cases hd
    | some r =>
      rw [hp] at hd
      cases hd
      obtain ⟨t, rfl, ht⟩ := ad.pair
      have e := dipf_take hp 0 0
      refine ⟨t, _, rfl, .inl (.inl ht), rfl, _, _, rfl, _, _, rfl, rfl, ?_⟩
      refine ⟨_, rfl, _, rfl, _, rfl, _, _, rfl, rfl, _, _, rfl, ?_⟩
      refine ⟨_, rfl, _, rfl, _, _, rfl, rfl, _, rfl, _, _, rfl, rfl, ?_⟩
      refine ⟨rfl, some (.int r.1), some (.int r.2), ?_⟩
      rw [e]
      rfl
  · rintro σ H3 ⟨rfl, y, z, rfl⟩
    rw [List.take_of_length_le (by omega)]
    refine ⟨_, rfl, 0, _, rfl, rfl, _, rfl, _, rfl, _, _, rfl, rfl, sz2, fun p np => ?_⟩
    exact q _ _ (Same.new np) (At.mkPair upd_same)

def spJoined : Sp := fun vs H Q _ => ∃ (u v : V) (x y : Int × Int), vs = [u, v] ∧ At H (dP x) u ∧ At H (dP y) v ∧ ∀ H' u, Same H H' → At H' (dP (jn x y)) u → Q u H'
theorem ok_joined {f : Addr} {fd : FuncData} {k : Nat} (F : FnP K "joined" s_joined f fd) (B : Bi mg) : FnOk P w K mg base CX0 (k + 1) f fd ["one", "other"] spJoined := by
  refine F.ok sc_joined (fun vs H Q E h => ?_) (fun cdv A outer s H vs Q E hr h => ?_)
  · obtain ⟨u, v, x, y, rfl, _⟩ := h
    rfl
  obtain ⟨u, v, x, y, rfl, hu, hv, q⟩ := h
  obtain ⟨a, rfl, ha⟩ := hu.pair
  obtain ⟨b, rfl, hb⟩ := hv.pair
  refine ⟨_, PSs.nox (pss_cons (ps_asg (pv 0) (pg_tup rfl (pgs_cons (pg_name (i := 2) sc_joined.nd rfl (.inl rfl)) (pgs_cons (pg_name (i := 3) sc_joined.nd rfl (.inl rfl)) pgs_nil))))
    (pss_cons (ps_asg (pv 1) (pg_tup rfl (pgs_cons (pg_name (i := 4) sc_joined.nd rfl (.inl rfl)) (pgs_cons (pg_name (i := 5) sc_joined.nd rfl (.inl rfl)) pgs_nil))))
    (pss_one (ps_ret (pe_tup (pa_cons (pe_op op_add (pv 2) (pe_callB (call_max2 rfl) (by rfl) B.max (by decide +kernel) (pa_cons pe_int (pa_cons (pe_op op_sub (pv 4) (pv 3)) pa_nil)))) (pa_cons (pe_op op_add (pv 5) (pe_callB (call_max2 rfl) (by rfl) B.max (by decide +kernel) (pa_cons pe_int (pa_cons (pe_op op_sub (pv 3) (pv 4)) pa_nil)))) pa_nil))))))), ?_⟩
  refine ⟨_, rfl, a, _, rfl, .inl (.inl ha), rfl, _, _, rfl, _, _, rfl, rfl, ?_⟩
  refine ⟨_, rfl, b, _, rfl, .inl (.inl hb), rfl, _, _, rfl, _, _, rfl, rfl, ?_⟩
  refine ⟨_, rfl, _, rfl, _, rfl, _, _, rfl, rfl, _, _, rfl, _, _, rfl, rfl, _, rfl, _, rfl, _, rfl, _, _, rfl, rfl, _, _, rfl, _, _, rfl, rfl, sz2, fun p np => ?_⟩
  exact q _ _ (Same.new np) (At.mkPair upd_same)

def spPower : Sp := fun vs H Q _ => ∃ (v : V) (x : Int × Int) (k : Int), vs = [v, .int k] ∧ At H (dP x) v ∧ x.1.natAbs < 2 ^ 500 ∧ x.2.natAbs < 2 ^ 500 ∧ k.natAbs < 2 ^ 250 ∧ ∀ H' u, Same H H' → At H' (dP (pw x k)) u → Q u H'
theorem ok_power {f : Addr} {fd : FuncData} {k : Nat} (F : FnP K "power" s_power f fd) : FnOk P w K mg base CX0 (k + 1) f fd ["pair", "k"] spPower := by
  refine F.ok sc_power (fun vs H Q E h => ?_) (fun cdv A outer s H vs Q E hr h => ?_)
  · obtain ⟨v, x, k, rfl, _⟩ := h
    rfl
  obtain ⟨v, x, k, rfl, hv, h1, h2, hk, q⟩ := h
  obtain ⟨a, rfl, ha⟩ := hv.pair
  refine ⟨_, PSs.nox (pss_cons (ps_if (pt_cmpR op_eq (pv 1) pe_int (nomark _)) (pss_one (ps_ret (pe_tup (pa_cons pe_int (pa_cons pe_int pa_nil))))) pss_nil)
    (pss_cons (ps_asg (pv 0) (pg_tup rfl (pgs_cons (pg_name (i := 2) sc_power.nd rfl (.inl rfl)) (pgs_cons (pg_name (i := 3) sc_power.nd rfl (.inl rfl)) pgs_nil))))
    (pss_cons (ps_set (i := 4) sc_power.nd rfl (.inl rfl) (pe_op op_mulW (pv 1) (pe_op op_sub (pv 3) (pv 2))))
    (pss_cons (ps_if (pt_cmpR op_ge (pv 4) pe_int (nomark _)) (pss_one (ps_ret (pe_tup (pa_cons (pv 2) (pa_cons (pe_op op_add (pv 2) (pv 4)) pa_nil))))) pss_nil)
    (pss_one (ps_ret (pe_tup (pa_cons (pe_op op_sub (pv 3) (pv 4)) (pa_cons (pv 3) pa_nil))))))))), ?_⟩
  unfold pw at q
  refine ⟨_, rfl, rfl, _, rfl, ite2 (fun e => ?_) (fun e => ?_)⟩
  · have k0 : k = 0 := V.int.inj (of_decide_eq_true e)
    rw [if_pos k0] at q
    refine ⟨sz2, fun p np => ?_⟩
    exact q _ _ (Same.new np) (At.mkPair upd_same)
  · have k0 : ¬ k = 0 := fun z => e (decide_eq_true (congrArg V.int z))
    rw [if_neg k0] at q
    refine ⟨_, rfl, a, _, rfl, .inl (.inl ha), rfl, _, _, rfl, _, _, rfl, rfl, ?_⟩
    have hd : (x.2 - x.1).natAbs < 2 ^ 501 := by
      rw [Nat.pow_succ]
      omega
    refine ⟨_, rfl, _, rfl, _, rfl, _, _, rfl, rfl, k, x.2 - x.1, rfl, rfl, wide_mul hk hd (by decide) (by decide) (by decide), ?_⟩
    refine ⟨_, rfl, _, _, rfl, rfl, _, rfl, ite2 (fun e => ?_) (fun e => ?_)⟩
    · have g0 : 0 ≤ k * (x.2 - x.1) := of_decide_eq_true e
      rw [if_pos g0] at q
      refine ⟨_, rfl, _, rfl, _, rfl, _, _, rfl, rfl, sz2, fun p np => ?_⟩
      exact q _ _ (Same.new np) (At.mkPair upd_same)
    · have g0 : ¬ 0 ≤ k * (x.2 - x.1) := fun z => e (decide_eq_true z)
      rw [if_neg g0] at q
      refine ⟨_, rfl, _, rfl, _, _, rfl, rfl, _, rfl, sz2, fun p np => ?_⟩
      exact q _ _ (Same.new np) (At.mkPair upd_same)

def spFar : Sp := fun vs H Q _ => ∃ (s c : Addr), vs = [.ref s] ∧ Strm c H s ∧
  ∀ H' r, But s H H' → Strm c H' s → 0 ≤ r → r ≤ 1000000000000000000000000000000 → Q (.int r) H'
theorem ok_far {f : Addr} {fd : FuncData} (F : FnP K "_law_far" s_law_far f fd) (c_law_take : Cl P w K mg base 1 "_law_take" ["_law_stream_here", "_law_below"] spTake) : FnOk P w K mg base CX0 2 f fd ["_law_stream_here"] spFar := by
  refine F.ok sc_law_far (fun vs H Q E h => ?_) (fun cdv A outer s H vs Q E hr h => ?_)
  · obtain ⟨s, c, rfl, _⟩ := h
    rfl
  obtain ⟨s, c, rfl, hS, q⟩ := h
  refine ⟨_, PSs.nox (pss_cons (ps_set (i := 1) sc_law_far.nd rfl (.inl rfl) (pe_ix (ixL_ (K := K) rfl) (pe_lst (pa_cons pe_int (pa_cons (pe_op op_pow pe_int pe_int) (pa_cons (pe_op op_pow pe_int pe_int) (pa_cons (pe_op op_pow pe_int pe_int) pa_nil))))) (pe_cl c_law_take hr (by rfl) (pa_cons (pv 0) (pa_cons pe_int pa_nil))) (fun _ _ => rfl)))
    (pss_one (ps_ret (pe_op op_mul (pe_cl c_law_take hr (by rfl) (pa_cons (pv 0) (pa_cons (pv 1) pa_nil))) (pe_ix (ixL_ (K := K) rfl) (pe_lst (pa_cons pe_int (pa_cons pe_int (pa_cons (pe_op op_pow pe_int pe_int) (pa_cons (pe_op op_pow pe_int pe_int) pa_nil))))) (pe_cl c_law_take hr (by rfl) (pa_cons (pv 0) (pa_cons pe_int pa_nil))) (fun _ _ => rfl)))))), ?_⟩
  refine ⟨10, 6, rfl, rfl, ⟨by decide, by decide, by decide⟩, 10, 9, rfl, rfl, ⟨by decide, by decide, by decide⟩, 10, 8, rfl, rfl, ⟨by decide, by decide, by decide⟩, sz4, fun p np => ?_⟩
  obtain ⟨nps, npc⟩ := hS.new np
  have S1 : Strm c (upd H p _) s := hS.up (Same.new (o := .lst [V.int 20, .int (10 ^ (6 : Int).toNat), .int (10 ^ (9 : Int).toNat), .int (10 ^ (8 : Int).toNat)]) np)
  refine ⟨_, rfl, s, c, 4, rfl, S1, by decide, by decide, fun H2 r B2 S2 r0 r1 => ?_⟩
  have hx : ∃ x : Int, atI [V.int 20, .int (10 ^ (6 : Int).toNat), .int (10 ^ (9 : Int).toNat), .int (10 ^ (8 : Int).toNat)] r = some (.int x) ∧ 0 < x ∧ x ≤ 1000000000 := by
    obtain rfl | rfl | rfl | rfl : r = 0 ∨ r = 1 ∨ r = 2 ∨ r = 3 := by omega
    · exact ⟨_, rfl, by decide, by decide⟩
    · exact ⟨_, rfl, by decide, by decide⟩
    · exact ⟨_, rfl, by decide, by decide⟩
    · exact ⟨_, rfl, by decide, by decide⟩
  obtain ⟨x, hx, x0, x1⟩ := hx
  refine ⟨p, _, r, .int x, rfl, rfl, .inl (.inl (B2 p _ nps upd_same)), hx, ?_⟩
  refine ⟨_, rfl, _, rfl, s, c, x, rfl, S2, x0, by omega, fun H3 y B3 S3 y0 y1 => ?_⟩
  refine ⟨10, 6, rfl, rfl, ⟨by decide, by decide, by decide⟩, 10, 21, rfl, rfl, ⟨by decide, by decide, by decide⟩, sz4, fun p2 np2 => ?_⟩
  obtain ⟨nps2, npc2⟩ := S3.new np2
  have S4 : Strm c (upd H3 p2 _) s := S3.up (Same.new (o := .lst [V.int 1, .int 1, .int (10 ^ (6 : Int).toNat), .int (10 ^ (21 : Int).toNat)]) np2)
  refine ⟨_, rfl, s, c, 4, rfl, S4, by decide, by decide, fun H5 r B5 S5 r0 r1 => ?_⟩
  have hz : ∃ x : Int, atI [V.int 1, .int 1, .int (10 ^ (6 : Int).toNat), .int (10 ^ (21 : Int).toNat)] r = some (.int x) ∧ 0 ≤ x ∧ x ≤ 1000000000000000000000 := by
    obtain rfl | rfl | rfl | rfl : r = 0 ∨ r = 1 ∨ r = 2 ∨ r = 3 := by omega
    · exact ⟨_, rfl, by decide, by decide⟩
    · exact ⟨_, rfl, by decide, by decide⟩
    · exact ⟨_, rfl, by decide, by decide⟩
    · exact ⟨_, rfl, by decide, by decide⟩
  obtain ⟨z, hz, z0, z1⟩ := hz
  refine ⟨p2, _, r, .int z, rfl, rfl, .inl (.inl (B5 p2 _ nps2 upd_same)), hz, y, z, rfl, rfl, .inl ⟨by omega, by omega⟩, ?_⟩
  refine q _ _ ((But.new np).trans (B2.trans (B3.trans ((But.new np2).trans B5)))) S5 (Int.mul_nonneg y0 z0) ?_
  have e1 : y * z ≤ 1000000000 * z := Int.mul_le_mul_of_nonneg_right (by omega) z0
  omega

theorem ok_law {f : Addr} {fd : FuncData} (F : FnP K "law" s_law f fd) (B : Bi mg)
    (c_law_stream : Cl P w K mg base 1 "_law_stream" ["_law_script"] (spStream K)) (c_law_take : Cl P w K mg base 1 "_law_take" ["_law_stream_here", "_law_below"] spTake) (c_law_in_one : Cl P w K mg base 1 "_law_in_one" ["_law_row"] spInOne)
    (c_law_alike : Cl P w K mg base 3 "_law_alike" ["_law_found", "_law_due"] (spAlike 2)) (cjoined : Cl P w K mg base 1 "joined" ["one", "other"] spJoined) (cpower : Cl P w K mg base 1 "power" ["pair", "k"] spPower) (c_law_pair : Cl P w K mg base 3 "_law_pair" ["_law_stream_here"] spPair) (c_law_far : Cl P w K mg base 2 "_law_far" ["_law_stream_here"] spFar) :
    FnOk P w K mg base CX0 4 f fd ["_law_script"] (spLaw K) := by
  refine F.ok sc_law (fun vs H Q E h => ?_) (fun cdv A outer s H vs Q E hr h => ?_)
  · obtain ⟨a, ns, rfl, _⟩ := h
    rfl
  obtain ⟨a, ns, rfl, hS, hn, q⟩ := h
  refine ⟨_, PSs.nox (pss_cons (ps_set (i := 1) sc_law.nd rfl (.inl rfl) (pe_cl c_law_stream (hr.mono (by decide)) (by rfl) (pa_cons (pv 0) pa_nil)))
    (pss_cons (ps_for PassesOwn.never rfl (pi_range1 (by rfl) B.range (pa_cons pe_int pa_nil)) (pg_name (i := 2) sc_law.nd rfl (.inl rfl))
      (pss_cons (ps_set (i := 3) sc_law.nd rfl (.inl rfl) (pe_cl c_law_pair (hr.mono (by decide)) (by rfl) (pa_cons (pv 1) pa_nil)))
    (pss_cons (ps_set (i := 4) sc_law.nd rfl (.inl rfl) (pe_cl c_law_take (hr.mono (by decide)) (by rfl) (pa_cons (pv 1) (pa_cons pe_int pa_nil))))
    (pss_cons (ps_if (pt_not (pt_val (pe_cl c_law_alike (hr.mono (by decide)) (by rfl) (pa_cons (pe_cl cpower (hr.mono (by decide)) (by rfl) (pa_cons (pv 3) (pa_cons (pv 4) pa_nil))) (pa_cons (pe_cl c_law_in_one (hr.mono (by decide)) (by rfl) (pa_cons (pe_op (repA_ (K := K) rfl) (pe_tup (pa_cons (pv 3) pa_nil)) (pv 4)) pa_nil)) pa_nil))))) (pss_one (ps_ret pe_bl)) pss_nil)
    (pss_cons (ps_par (i := 5) (j := 6) (by rfl) sc_law.nd rfl rfl (by decide) rfl rfl (pa_cons (pe_cl c_law_far (hr.mono (by decide)) (by rfl) (pa_cons (pv 1) pa_nil)) (pa_cons (pe_cl c_law_far (hr.mono (by decide)) (by rfl) (pa_cons (pv 1) pa_nil)) pa_nil)) (by rfl))
    (pss_cons (ps_if (pt_not (pt_val (pe_cl c_law_alike (hr.mono (by decide)) (by rfl) (pa_cons (pe_cl cpower (hr.mono (by decide)) (by rfl) (pa_cons (pv 3) (pa_cons (pe_op op_add (pv 5) (pv 6)) pa_nil))) (pa_cons (pe_cl cjoined (hr.mono (by decide)) (by rfl) (pa_cons (pe_cl cpower (hr.mono (by decide)) (by rfl) (pa_cons (pv 3) (pa_cons (pv 5) pa_nil))) (pa_cons (pe_cl cpower (hr.mono (by decide)) (by rfl) (pa_cons (pv 3) (pa_cons (pv 6) pa_nil))) pa_nil))) pa_nil))))) (pss_one (ps_ret pe_bl)) pss_nil)
    (pss_cons (ps_if (pt_not (pt_val (pe_cl c_law_alike (hr.mono (by decide)) (by rfl) (pa_cons (pe_cl cpower (hr.mono (by decide)) (by rfl) (pa_cons (pe_cl cpower (hr.mono (by decide)) (by rfl) (pa_cons (pv 3) (pa_cons (pv 5) pa_nil))) (pa_cons (pv 6) pa_nil))) (pa_cons (pe_cl cpower (hr.mono (by decide)) (by rfl) (pa_cons (pv 3) (pa_cons (pe_op op_mulW (pv 5) (pv 6)) pa_nil))) pa_nil))))) (pss_one (ps_ret pe_bl)) pss_nil)
    (pss_cons (ps_if (pt_not (pt_val (pe_cl c_law_alike (hr.mono (by decide)) (by rfl) (pa_cons (pe_cl cpower (hr.mono (by decide)) (by rfl) (pa_cons (pv 3) (pa_cons (pe_op op_add (pv 5) pe_int) pa_nil))) (pa_cons (pe_cl cjoined (hr.mono (by decide)) (by rfl) (pa_cons (pv 3) (pa_cons (pe_cl cpower (hr.mono (by decide)) (by rfl) (pa_cons (pv 3) (pa_cons (pv 5) pa_nil))) pa_nil))) pa_nil))))) (pss_one (ps_ret pe_bl)) pss_nil)
    (pss_one (ps_if (pt_not (pt_val (pe_cl c_law_alike (hr.mono (by decide)) (by rfl) (pa_cons (pe_tup (pa_cons (pe_cl cpower (hr.mono (by decide)) (by rfl) (pa_cons (pv 3) (pa_cons pe_int pa_nil))) (pa_cons (pe_cl cpower (hr.mono (by decide)) (by rfl) (pa_cons (pv 3) (pa_cons pe_int pa_nil))) pa_nil))) (pa_cons (pe_tup (pa_cons (pe_tup (pa_cons pe_int (pa_cons pe_int pa_nil))) (pa_cons (pv 3) pa_nil))) pa_nil))))) (pss_one (ps_ret pe_bl)) pss_nil))))))))))
    (pss_one (ps_ret pe_bl)))), ?_⟩
  refine ⟨_, rfl, a, ns, rfl, hS, hn, fun H1 s c sm1 S1 => ?_⟩
  refine ⟨8, rfl, by decide, by decide, ?_⟩
  refine for_range (lo := 0) (n := 8) (fun i σ H3 => Strm c H3 s ∧ ∃ y2 y3 y4 y5 y6, σ = [some (.ref a), some (.ref s), y2, y3, y4, y5, y6]) ⟨S1, none, none, none, none, none, rfl⟩ ?_ ?_
  · rintro i σ H3 hi ⟨S3, y2, y3, y4, y5, y6, rfl⟩
    refine ⟨_, rfl, s, c, rfl, S3, fun H4 v x B4 S4 a4 p1 p2 p3 p4 => ?_⟩
    have hx : Nn x := ⟨p1, p3⟩
    have z1 : x.1.natAbs < 2 ^ 140 := Nat.lt_trans (show x.1.natAbs < 10000000000000000000000000000000000000000 by omega) (by decide)
    have z2 : x.2.natAbs < 2 ^ 140 := Nat.lt_trans (show x.2.natAbs < 10000000000000000000000000000000000000000 by omega) (by decide)
    have w1 := lt_pow z1 (show 140 ≤ 500 by decide)
    have w2 := lt_pow z2 (show 140 ≤ 500 by decide)
    refine ⟨_, rfl, s, c, 21, rfl, S4, by decide, by decide, fun H5 few B5 S5 f0 f1 => ?_⟩
    replace a4 := a4.but S4 B5
    -- power(pair, few)
    refine ⟨_, rfl, _, rfl, v, x, few, rfl, a4, w1, w2, Nat.lt_trans (show few.natAbs < 32 by omega) (by decide), fun H6 u6 sm6 a6 => ?_⟩
    replace a4 := a4.same sm6
    replace S5 := S5.up sm6
    refine ⟨_, rfl, sz1, fun p np => ?_⟩
    replace a6 := a6.same (Same.new (o := .tup [v]) np)
    replace a4 := a4.same (Same.new (o := .tup [v]) np)
    replace S5 := S5.up (Same.new (o := .tup [v]) np)
    refine ⟨_, rfl, repA_at (l := [dP x]) (At.tup upd_same (AtL.cons a4 AtL.nil)) f0 (by omega) (by show 1 ≤ 1000; decide) fun H7 u7 sm7 a7 => ?_⟩
    rw [rep_flat] at a7
    replace a7 : At H7 (dR (List.replicate few.toNat x)) u7 := by
      show At H7 (.t ((List.replicate few.toNat x).map dP)) u7
      rw [List.map_replicate]
      exact a7
    refine ⟨u7, _, rfl, a7, fun H8 u8 sm8 a8 => ?_⟩
    rw [pw_one_row hx few f0] at a8
    refine ⟨_, u6, u8, rfl, (Dep.pair _).mono, (a6.same sm7).same sm8, a8, fun H9 sm9 => ?_⟩
    refine ⟨_, rfl, iteF ?_⟩
    have sm := sm7.trans (sm8.trans sm9)
    replace a4 := a4.same sm
    replace S5 := S5.up sm
    clear sm sm7 sm8 sm9 a6 a7 a8
    -- one, other
    refine ⟨_, rfl, s, c, rfl, S5, fun H10 o1 B10 S10 o10 o11 => ?_⟩
    refine ⟨_, rfl, s, c, rfl, S10, fun H11 o2 B11 S11 o20 o21 => ?_⟩
    refine ⟨_, _, rfl, ?_⟩
    replace a4 := (a4.but S5 B10).but S10 B11
    have k1 : o1.natAbs < 2 ^ 100 := Nat.lt_trans (show o1.natAbs < 1000000000000000000000000000001 by omega) (by decide)
    have k2 : o2.natAbs < 2 ^ 100 := Nat.lt_trans (show o2.natAbs < 1000000000000000000000000000001 by omega) (by decide)
    have k3 : (o1 + o2).natAbs < 2 ^ 101 := by rw [Nat.pow_succ]; omega
    have k4 : (o1 + 1).natAbs < 2 ^ 101 := by rw [Nat.pow_succ]; omega
    have k5 : (o1 * o2).natAbs < 2 ^ 200 := mul_lt k1 k2
    -- power(pair, one + other) against joined
    refine ⟨_, rfl, _, rfl, _, rfl, _, _, rfl, rfl, v, x, _, rfl, a4, w1, w2, lt_pow k3 (by decide), fun H12 u12 sm12 a12 => ?_⟩
    replace a4 := a4.same sm12
    refine ⟨_, rfl, _, rfl, v, x, _, rfl, a4, w1, w2, lt_pow k1 (by decide), fun H13 u13 sm13 a13 => ?_⟩
    replace a4 := a4.same sm13
    refine ⟨_, rfl, _, rfl, v, x, _, rfl, a4, w1, w2, lt_pow k2 (by decide), fun H14 u14 sm14 a14 => ?_⟩
    replace a4 := a4.same sm14
    refine ⟨u13, u14, _, _, rfl, a13.same sm14, a14, fun H15 u15 sm15 a15 => ?_⟩
    replace a4 := a4.same sm15
    rw [← pw_add hx o10 o20] at a15
    refine ⟨_, u12, u15, rfl, (Dep.pair _).mono, ((a12.same sm13).same sm14).same sm15, a15, fun H16 sm16 => ?_⟩
    refine ⟨_, rfl, iteF ?_⟩
    replace a4 := a4.same sm16
    replace S11 := S11.up (sm12.trans (sm13.trans (sm14.trans (sm15.trans sm16))))
    clear sm12 sm13 sm14 sm15 sm16 a12 a13 a14 a15
    -- power(power(pair, one), other) against power(pair, one * other)
    refine ⟨_, rfl, _, rfl, v, x, _, rfl, a4, w1, w2, lt_pow k1 (by decide), fun H12 u12 sm12 a12 => ?_⟩
    replace a4 := a4.same sm12
    have y12 := pw_sz z1 z2 k1
    refine ⟨_, rfl, u12, _, _, rfl, a12, lt_pow y12.1 (by decide), lt_pow y12.2 (by decide), lt_pow k2 (by decide), fun H13 u13 sm13 a13 => ?_⟩
    replace a4 := a4.same sm13
    rw [pw_mul hx o10 o20] at a13
    refine ⟨_, rfl, _, rfl, _, rfl, _, _, rfl, rfl, wide_mul k1 k2 (by decide) (by decide) (by decide), v, x, _, rfl, a4, w1, w2, lt_pow k5 (by decide), fun H14 u14 sm14 a14 => ?_⟩
    replace a4 := a4.same sm14
    refine ⟨_, u13, u14, rfl, (Dep.pair _).mono, a13.same sm14, a14, fun H16 sm16 => ?_⟩
    refine ⟨_, rfl, iteF ?_⟩
    replace a4 := a4.same sm16
    replace S11 := S11.up (sm12.trans (sm13.trans (sm14.trans sm16)))
    clear sm12 sm13 sm14 sm16 a12 a13 a14
    -- power(pair, one + 1) against joined(pair, power(pair, one))
    refine ⟨_, rfl, _, rfl, _, _, rfl, rfl, v, x, _, rfl, a4, w1, w2, lt_pow k4 (by decide), fun H12 u12 sm12 a12 => ?_⟩
    replace a4 := a4.same sm12
    refine ⟨_, rfl, _, rfl, _, rfl, v, x, _, rfl, a4, w1, w2, lt_pow k1 (by decide), fun H13 u13 sm13 a13 => ?_⟩
    replace a4 := a4.same sm13
    refine ⟨v, u13, _, _, rfl, a4, a13, fun H15 u15 sm15 a15 => ?_⟩
    replace a4 := a4.same sm15
    rw [← pw_succ hx o10] at a15
    refine ⟨_, u12, u15, rfl, (Dep.pair _).mono, (a12.same sm13).same sm15, a15, fun H16 sm16 => ?_⟩
    refine ⟨_, rfl, iteF ?_⟩
    replace a4 := a4.same sm16
    replace S11 := S11.up (sm12.trans (sm13.trans (sm15.trans sm16)))
    clear sm12 sm13 sm15 sm16 a12 a13 a15
    -- none and one
    refine ⟨_, rfl, v, x, 0, rfl, a4, w1, w2, by decide, fun H12 u12 sm12 a12 => ?_⟩
    replace a4 := a4.same sm12
    refine ⟨_, rfl, v, x, 1, rfl, a4, w1, w2, by decide, fun H13 u13 sm13 a13 => ?_⟩
    replace a4 := a4.same sm13
    replace a12 := a12.same sm13
    rw [pw_zero] at a12
    rw [pw_one] at a13
    refine ⟨sz2, fun p1 np1 => ?_⟩
    refine ⟨sz2, fun p2 np2 => ?_⟩
    refine ⟨_, rfl, sz2, fun p3 np3 => ?_⟩
    have n1 := Same.new (o := .tup [u12, u13]) np1
    have n2 := Same.new (o := .tup [V.int 0, V.int 0]) np2
    have n3 := Same.new (o := .tup [V.ref p2, v]) np3
    refine ⟨.t [dP (0, 0), dP x], .ref p1, .ref p3, rfl, ⟨(show 2 ≤ 1000000 by decide), fun d hd => ?_⟩, ?_, ?_, fun H16 sm16 => ?_⟩
    · rcases List.mem_cons.mp hd with h | h
      · rw [h]; exact Dep.pair _
      · rw [List.mem_singleton.mp h]; exact Dep.pair _
    · exact At.tup (n3 _ _ (n2 _ _ upd_same)) (AtL.cons (((a12.same n1).same n2).same n3) (AtL.cons (((a13.same n1).same n2).same n3) AtL.nil))
    · exact At.tup upd_same (AtL.cons ((At.mkPair upd_same).same n3) (AtL.cons (((a4.same n1).same n2).same n3) AtL.nil))
    refine ⟨_, rfl, iteF ?_⟩
    exact ⟨S11.up (sm12.trans (sm13.trans (n1.trans (n2.trans (n3.trans sm16))))), _, _, _, _, _, rfl⟩
  · rintro σ H3 ⟨S3, y2, y3, y4, y5, y6, rfl⟩
    exact q _
end
/-! ### the head -/
def d_law_take : He.DefD := ⟨("_law_take", none), "_law_take", "_law_take", defArgs s_law_take, defBody s_law_take, defScope s_law_take, [], []⟩
def d_law_number : He.DefD := ⟨("_law_number", none), "_law_number", "_law_number", defArgs s_law_number, defBody s_law_number, defScope s_law_number, [], []⟩
def d_law_pair : He.DefD := ⟨("_law_pair", none), "_law_pair", "_law_pair", defArgs s_law_pair, defBody s_law_pair, defScope s_law_pair, [], []⟩
def d_law_stream : He.DefD := ⟨("_law_stream", none), "_law_stream", "_law_stream", defArgs s_law_stream, defBody s_law_stream, defScope s_law_stream, [], []⟩
def d_law_alike : He.DefD := ⟨("_law_alike", none), "_law_alike", "_law_alike", defArgs s_law_alike, defBody s_law_alike, defScope s_law_alike, [], []⟩
def d_law_in_one : He.DefD := ⟨("_law_in_one", none), "_law_in_one", "_law_in_one", defArgs s_law_in_one, defBody s_law_in_one, defScope s_law_in_one, [], []⟩
def d_joined : He.DefD := ⟨("joined", none), "joined", "joined", defArgs s_joined, defBody s_joined, defScope s_joined, [], []⟩
def d_power : He.DefD := ⟨("power", none), "power", "power", defArgs s_power, defBody s_power, defScope s_power, [], []⟩
def d_law_far : He.DefD := ⟨("_law_far", none), "_law_far", "_law_far", defArgs s_law_far, defBody s_law_far, defScope s_law_far, [], []⟩
def d_law : He.DefD := ⟨("law", none), "law", "law", defArgs s_law, defBody s_law, defScope s_law, [], []⟩
def fn : List He.DefD := [d_law_take, d_law_number, d_law_pair, d_law_stream, d_law_alike, d_law_in_one, d_joined, d_power, d_law_far, d_law]
def fa : List He.Fa := [.glo "_law_take", .glo "_law_number", .glo "_law_pair", .glo "_law_stream", .glo "_law_alike", .glo "_law_in_one", .glo "joined", .glo "power", .glo "_law_far", .glo "law", .free "len", .free "max", .free "min", .free "range", .free "tuple", .free "abs", .free "isinstance", .free "bool", .free "str", .free "int", .free "sum", .free "zip", .free "enumerate", .free "all", .free "any", .free "sorted", .free "repr", .free "list", .free "reversed"]
abbrev R : PySem.W.OpenRow := PySem.W.OpenLaw.row PySem.Challenge.rw_stintpurse_k05_pairs_many_times
abbrev hk : PySem.W.Hook := He.hookD 4 fa fn
def ob (s : PySem.W.SharedT) : He.AlD := He.obsDG 4 fa fn (HandSHeadRun.getT s)
theorem ob_eq (s : PySem.W.SharedT) : ob s = hk.obs s.abs := He.obsDG_eq (HandSHeadRun.getT_eq s)
theorem run (w : World) : HandSHeadRun.RunEq R (PySem.W.view R.prog [11]) hk ob 4000 ["joined", "power", "_law_stream", "_law_take", "_law_number", "_law_pair", "_law_alike", "_law_in_one", "_law_far"] w := by
  intro os
  kernel_rfl
theorem facts {P : Program} {w : World} {K : PySem.W.Frag} {h : Heap} {mg : Str → Option Value} {f : Addr} (X : K.In h) (G : h.Ns mainGlobals mg) (hfa : mg ("law" : Str) = some (.ref f)) (c : He.SaysD fa fn K) :
    ∃ fd : FuncData, (∀ (s : Shared) (v : Value), BindsTo s fd ⟨[v], []⟩ [("_law_script", v)]) ∧ ∀ base : Heap, K.In base → base.Ns mainGlobals mg → FnOk P w K mg base CX0 4 f fd ["_law_script"] (spLaw K) := by
  obtain ⟨fd_law_take, F_law_take⟩ := c.def_ 0 (d := d_law_take) rfl
  have g_law_take := He.glo_ok X G (c.fact 0 (f := .glo "_law_take") rfl)
  have b_law_take : Binds K fd_law_take ["_law_stream_here", "_law_below"] [] := FunD.bindsN F_law_take fun _ _ _ _ _ _ us hl => match us, hl with | [_, _], _ => rfl
  obtain ⟨fd_law_number, F_law_number⟩ := c.def_ 1 (d := d_law_number) rfl
  have g_law_number := He.glo_ok X G (c.fact 1 (f := .glo "_law_number") rfl)
  have b_law_number : Binds K fd_law_number ["_law_stream_here"] [] := FunD.bindsN F_law_number fun _ _ _ _ _ _ us hl => match us, hl with | [_], _ => rfl
  obtain ⟨fd_law_pair, F_law_pair⟩ := c.def_ 2 (d := d_law_pair) rfl
  have g_law_pair := He.glo_ok X G (c.fact 2 (f := .glo "_law_pair") rfl)
  have b_law_pair : Binds K fd_law_pair ["_law_stream_here"] [] := FunD.bindsN F_law_pair fun _ _ _ _ _ _ us hl => match us, hl with | [_], _ => rfl
  obtain ⟨fd_law_stream, F_law_stream⟩ := c.def_ 3 (d := d_law_stream) rfl
  have g_law_stream := He.glo_ok X G (c.fact 3 (f := .glo "_law_stream") rfl)
  have b_law_stream : Binds K fd_law_stream ["_law_script"] [] := FunD.bindsN F_law_stream fun _ _ _ _ _ _ us hl => match us, hl with | [_], _ => rfl
  obtain ⟨fd_law_alike, F_law_alike⟩ := c.def_ 4 (d := d_law_alike) rfl
  have g_law_alike := He.glo_ok X G (c.fact 4 (f := .glo "_law_alike") rfl)
  have b_law_alike : Binds K fd_law_alike ["_law_found", "_law_due"] [] := FunD.bindsN F_law_alike fun _ _ _ _ _ _ us hl => match us, hl with | [_, _], _ => rfl
  obtain ⟨fd_law_in_one, F_law_in_one⟩ := c.def_ 5 (d := d_law_in_one) rfl
  have g_law_in_one := He.glo_ok X G (c.fact 5 (f := .glo "_law_in_one") rfl)
  have b_law_in_one : Binds K fd_law_in_one ["_law_row"] [] := FunD.bindsN F_law_in_one fun _ _ _ _ _ _ us hl => match us, hl with | [_], _ => rfl
  obtain ⟨fdjoined, Fjoined⟩ := c.def_ 6 (d := d_joined) rfl
  have gjoined := He.glo_ok X G (c.fact 6 (f := .glo "joined") rfl)
  have bjoined : Binds K fdjoined ["one", "other"] [] := FunD.bindsN Fjoined fun _ _ _ _ _ _ us hl => match us, hl with | [_, _], _ => rfl
  obtain ⟨fdpower, Fpower⟩ := c.def_ 7 (d := d_power) rfl
  have gpower := He.glo_ok X G (c.fact 7 (f := .glo "power") rfl)
  have bpower : Binds K fdpower ["pair", "k"] [] := FunD.bindsN Fpower fun _ _ _ _ _ _ us hl => match us, hl with | [_, _], _ => rfl
  obtain ⟨fd_law_far, F_law_far⟩ := c.def_ 8 (d := d_law_far) rfl
  have g_law_far := He.glo_ok X G (c.fact 8 (f := .glo "_law_far") rfl)
  have b_law_far : Binds K fd_law_far ["_law_stream_here"] [] := FunD.bindsN F_law_far fun _ _ _ _ _ _ us hl => match us, hl with | [_], _ => rfl
  obtain ⟨fd, F⟩ := c.def_ 9 (d := d_law) rfl
  have e := hfa.symm.trans (He.glo_ok X G (c.fact 9 (f := .glo "law") rfl))
  cases e
  have b := FunD.bindsA (ps := ["_law_script"]) F fun _ _ _ _ _ _ us hl => match us, hl with | [_], _ => rfl
  have B : Bi mg := ⟨He.free_ok X G (c.fact 10 (f := .free "len") rfl), He.free_ok X G (c.fact 11 (f := .free "max") rfl), He.free_ok X G (c.fact 12 (f := .free "min") rfl), He.free_ok X G (c.fact 13 (f := .free "range") rfl), He.free_ok X G (c.fact 14 (f := .free "tuple") rfl), He.free_ok X G (c.fact 15 (f := .free "abs") rfl), He.free_ok X G (c.fact 16 (f := .free "isinstance") rfl), He.free_ok X G (c.fact 17 (f := .free "bool") rfl), He.free_ok X G (c.fact 18 (f := .free "str") rfl), He.free_ok X G (c.fact 19 (f := .free "int") rfl), He.free_ok X G (c.fact 20 (f := .free "sum") rfl), He.free_ok X G (c.fact 21 (f := .free "zip") rfl), He.free_ok X G (c.fact 22 (f := .free "enumerate") rfl), He.free_ok X G (c.fact 23 (f := .free "all") rfl), He.free_ok X G (c.fact 24 (f := .free "any") rfl), He.free_ok X G (c.fact 25 (f := .free "sorted") rfl), He.free_ok X G (c.fact 26 (f := .free "repr") rfl), He.free_ok X G (c.fact 27 (f := .free "list") rfl), He.free_ok X G (c.fact 28 (f := .free "reversed") rfl)⟩
  refine ⟨fd, fun s v => b s [v] rfl, fun base _ _ => ?_⟩
  have c_law_take := Cl.mk (P := P) (w := w) (base := base) (mg := mg) ⟨_, _, g_law_take, F_law_take.kp, b_law_take, ok_take F_law_take B⟩
  have c_law_number := Cl.mk (P := P) (w := w) (base := base) (mg := mg) ⟨_, _, g_law_number, F_law_number.kp, b_law_number, ok_number F_law_number c_law_take⟩
  have c_law_pair := Cl.mk (P := P) (w := w) (base := base) (mg := mg) ⟨_, _, g_law_pair, F_law_pair.kp, b_law_pair, ok_pair F_law_pair B c_law_take c_law_number⟩
  have c_law_stream := Cl.mk (P := P) (w := w) (base := base) (mg := mg) ⟨_, _, g_law_stream, F_law_stream.kp, b_law_stream, ok_stream F_law_stream B⟩
  have c_law_alike := Cl.mk (P := P) (w := w) (base := base) (mg := mg) ⟨_, _, g_law_alike, F_law_alike.kp, b_law_alike, ok_alike F_law_alike B g_law_alike 2⟩
  have c_law_in_one := Cl.mk (P := P) (w := w) (base := base) (mg := mg) ⟨_, _, g_law_in_one, F_law_in_one.kp, b_law_in_one, ok_in_one (k := 0) F_law_in_one B⟩
  have cjoined := Cl.mk (P := P) (w := w) (base := base) (mg := mg) ⟨_, _, gjoined, Fjoined.kp, bjoined, ok_joined (k := 0) Fjoined B⟩
  have cpower := Cl.mk (P := P) (w := w) (base := base) (mg := mg) ⟨_, _, gpower, Fpower.kp, bpower, ok_power (k := 0) Fpower⟩
  have c_law_far := Cl.mk (P := P) (w := w) (base := base) (mg := mg) ⟨_, _, g_law_far, F_law_far.kp, b_law_far, ok_far F_law_far c_law_take⟩
  exact ok_law F B c_law_stream c_law_take c_law_in_one c_law_alike cjoined cpower c_law_pair c_law_far
end Lw
open PySem PySem.W PySem.Calls PyProof.Rows
set_option maxHeartbeats 0 in
theorem PySem.Challenge.cw_stintpurse_k05_pairs_many_times_holds : PySem.Challenge.rw_stintpurse_k05_pairs_many_times.Holds := by
  w_on; o_law
  refine HandSHeadRun.head_any (r := OpenLaw.row PySem.Challenge.rw_stintpurse_k05_pairs_many_times) (q := view (OpenLaw.row PySem.Challenge.rw_stintpurse_k05_pairs_many_times).prog [11]) (H := Lw.hk) (ob := Lw.ob) (M := 4000) (loose := ["joined", "power", "_law_stream", "_law_take", "_law_number", "_law_pair", "_law_alike", "_law_in_one", "_law_far"]) (d := HandSHeadRun.topDef (OpenLaw.row PySem.Challenge.rw_stintpurse_k05_pairs_many_times).prog 11) (kwd := []) Lw.ob_eq
    (by kernel_rfl) (fun s => by kernel_rfl) Lw.run (by kernel_rfl) (by kernel_rfl) (by kernel_rfl) (by rfl) (by first | assumption | decide +kernel) (by decide +kernel) ⟨rfl, rfl, rfl, rfl, rfl, by decide +kernel⟩ ?hw ?hc
  case hw => w_witness2
  case hc =>
    refine L2.walk_ofE (l := PySem.Challenge.rw_stintpurse_k05_pairs_many_times) (n := 63) (k := 4) (x := "_law_script") (CX := L2.CX0) rfl (by decide) (by kernel_rfl) ⟨rfl, by decide, by decide⟩ ?F (fun _ _ _ _ z => z)
    intro w mg fa h Y G hmg0
    obtain ⟨K, KX, c⟩ := Y
    have hmg : mg ("law" : PySem.Str) = some (.ref fa) := by
      have e : (HandSHeadRun.topDef (OpenLaw.row PySem.Challenge.rw_stintpurse_k05_pairs_many_times).prog 11).name = ("law" : PySem.Str) := by kernel_rfl
      rw [← e]
      exact hmg0
    obtain ⟨fd, hb, hF⟩ := Lw.facts (P := (PySem.Challenge.rw_stintpurse_k05_pairs_many_times).prog) (w := w) KX G hmg c
    exact ⟨K, fd, Lw.spLaw K, KX, hb, fun H a ns hl _ hS => ⟨a, ns, rfl, hS, hl, fun _ => rfl⟩, hF⟩
