import PyProof.Rows.All
import Wide.All
import OpenK.AllK
import Wide.FinOn
import HandS.ForMost
import HandS.IsInst
import HandS.Flow
import HandS.WideBits
import HandS.Defaults
import HandS.Exc
import HandS.ExcOwn
import HandS.TryOnly
import HandS.TryMany
import HandS.WordsExc
import HandS.ExcIs
import HandS.Walk
import HandS.Small
import HandS.Wide
import HandS.Style
import HandS.Strs
import HandS.SetFor
import HandS.Dict
import HandS.Codes
import HandS.OwnEq
import HandS.MakeKwOnly
import HandS.TupAny
import HandS.Zip
import HandS.Deep
import PySem.Challenge.RW_discwright_k20_whole_sectors_through_flu
set_option Elab.async false
set_option linter.all false
set_option maxRecDepth 100000
set_option maxHeartbeats 4000000
namespace Dw
open PySem PySem.Spec PyProof.Rows L2
/-! ### sizes -/
theorem line_le {n : Nat} (h : n ≤ 16777216) : n ≤ sizeLine := by rw [sizeLine_eq]; exact h
theorem line_lt {n : Nat} (h : n < 16777216) : n < sizeLine := by rw [sizeLine_eq]; exact h
/-! ### heaps -/
theorem same_new {H : Hp} {p : Addr} (h : H p = none) (o : HO) : Same H (upd H p o) := fun b u q => by rw [upd_ne (ne_of_none q h)]; exact q
/-- all but P stands as it was -/
def SameB (P : Addr) (H H' : Hp) : Prop := ∀ b o, b ≠ P → H b = some o → H' b = some o
theorem SameB.refl (P : Addr) (H : Hp) : SameB P H H := fun _ _ _ h => h
theorem SameB.trans {P : Addr} {H H1 H2 : Hp} (a : SameB P H H1) (b : SameB P H1 H2) : SameB P H H2 := fun x o n h => b x o n (a x o n h)
theorem Same.b {P : Addr} {H H' : Hp} (a : Same H H') : SameB P H H' := fun x o _ h => a x o h
theorem sameB_upd {P : Addr} {H : Hp} (o : HO) : SameB P H (upd H P o) := fun b u n q => by rw [upd_ne n]; exact q
/-- a ghost heap without P stands in what was changed at P alone -/
theorem Same.but {P : Addr} {G H H' : Hp} (g : Same G H) (n : G P = none) (s : SameB P H H') : Same G H' := fun b o q => s b o (ne_of_none q n) (g b o q)
theorem same_upd {G H : Hp} {p : Addr} {o : HO} (g : Same G H) : Same (upd G p o) (upd H p o) := fun b u q => by
  by_cases e : b = p
  · subst e
    rw [upd_same] at q ⊢
    exact q
  · rw [upd_ne e] at q ⊢
    exact g b u q
theorem same_none {G H : Hp} {p : Addr} (g : Same G H) (h : H p = none) : G p = none := by
  cases e : G p with
  | none => rfl
  | some o => rw [g p o e] at h; cases h
theorem upd_none {G : Hp} {p P : Addr} {o : HO} (n : G P = none) (ne : P ≠ p) : upd G p o P = none := by rw [upd_ne ne]; exact n
/-! ### the script -/
/-- the pool at p: the script's numbers at q, and four numbers -/
def PoolL (q : Addr) (a b c d : Int) : HO := .lst [.ref q, .int a, .int b, .int c, .int d]
def Pool (H : Hp) (p q : Addr) : Prop := ∃ (ns : List Int) (a b c d : Int), H p = some (PoolL q a b c d) ∧ H q = some (.lst (ns.map V.int)) ∧ 0 ≤ a ∧ ns.length ≤ 63
theorem Pool.same {H H' : Hp} {p q : Addr} (h : Pool H p q) (s : Same H H') : Pool H' p q := by
  obtain ⟨ns, a, b, c, d, h1, h2, h3⟩ := h
  exact ⟨ns, a, b, c, d, s _ _ h1, s _ _ h2, h3⟩
theorem Pool.there {H : Hp} {p q : Addr} (h : Pool H p q) : ∃ o, H p = some o := by
  obtain ⟨ns, a, b, c, d, h1, _⟩ := h
  exact ⟨_, h1⟩
theorem Pool.ne {H : Hp} {p q r : Addr} (h : Pool H p q) (n : H r = none) : p ≠ r := by
  obtain ⟨o, e⟩ := h.there
  exact ne_of_none e n
theorem Pool.ne2 {H : Hp} {p q r : Addr} (h : Pool H p q) (n : H r = none) : q ≠ r := by
  obtain ⟨ns, a, b, c, d, h1, h2, _⟩ := h
  exact ne_of_none h2 n
theorem pool_ne {H : Hp} {p q : Addr} {a b c d : Int} {ns : List Int} (h1 : H p = some (PoolL q a b c d)) (h2 : H q = some (.lst (ns.map V.int))) : q ≠ p := by
  refine ne_of h2 h1 fun e => ?_
  unfold PoolL at e
  injection e with e
  cases ns with
  | nil => cases e
  | cons x r => rw [List.map_cons] at e; injection e with e _; cases e
/-- a pool's numbers written anew -/
theorem Pool.put {H : Hp} {p q : Addr} {a b c d a' b' c' d' : Int} {ns : List Int} (h1 : H p = some (PoolL q a b c d)) (h2 : H q = some (.lst (ns.map V.int))) (h3 : 0 ≤ a') (h4 : ns.length ≤ 63) : Pool (upd H p (PoolL q a' b' c' d')) p q :=
  ⟨ns, a', b', c', d', upd_same, by rw [upd_ne (pool_ne h1 h2)]; exact h2, h3, h4⟩
/-! ### what the shared defs promise -/
def spPool (K : PySem.W.Frag) : Sp := fun vs H Q _ => ∃ (a : Addr) (ns : List Int), vs = [.ref a] ∧ SqL K H a (ns.map V.int) ∧ ns.length ≤ 63 ∧ ∀ p q H', Same H H' → H p = none → H q = none → Pool H' p q → Q (.ref p) H'
def spSpread : Sp := fun vs H Q _ => ∃ n : Int, vs = [.int n] ∧ ∀ m : Int, Q (.int m) H
def spDraw : Sp := fun vs H Q _ => ∃ (p q : Addr) (m : Int), vs = [.ref p, .int m] ∧ Pool H p q ∧ 0 < m ∧ m < 1073741824 ∧ ∀ r H', 0 ≤ r → r < m → Pool H' p q → SameB p H H' → Q (.int r) H'
/-- a def of whole numbers -/
def spI1 (C : Int → Prop) (g : Int → Int) : Sp := fun vs H Q _ => ∃ n : Int, vs = [.int n] ∧ C n ∧ Q (.int (g n)) H
def spI2 (C : Int → Int → Prop) (g : Int → Int → Int) : Sp := fun vs H Q _ => ∃ n m : Int, vs = [.int n, .int m] ∧ C n m ∧ Q (.int (g n m)) H

/-! ### rules by a stronger reading -/
section
variable {X : Cx}
theorem OpR.imp {f : Value → Value → Sem Value} {r r' : R2} (h : OpR X f r) (i : ∀ x y H Q, r' x y H Q → r x y H Q) : OpR X f r' := fun pins s σ H x y v u Q I rx ry q => h pins s σ H x y v u Q I rx ry (i _ _ _ _ q)
theorem CallR.imp {f : Value} {r r' : List V → Hp → VK → Prop} (h : CallR X f r) (i : ∀ xs H Q, r' xs H Q → r xs H Q) : CallR X f r' := fun pins s σ H xs us Q I r q => h pins s σ H xs us Q I r (i _ _ _ q)
theorem IxR.imp {r r' : R2} (h : IxR X r) (i : ∀ x y H Q, r' x y H Q → r x y H Q) : IxR X r' := fun a b pins s σ H x y v u Q I rx ry q => h a b pins s σ H x y v u Q I rx ry (i _ _ _ _ q)
theorem MtR.imp {id : String} {r r' : V → List V → Hp → VK → Prop} (h : MtR X id r) (i : ∀ x xs H Q, r' x xs H Q → r x xs H Q) : MtR X id r' := fun pins s σ H x xs v us Q I rx ry q => h pins s σ H x xs v us Q I rx ry (i _ _ _ _ q)
theorem SlR.imp {r r' : V → Option Int → Option Int → Hp → VK → Prop} (h : SlR X r) (i : ∀ x lo hi H Q, r' x lo hi H Q → r x lo hi H Q) : SlR X r' := fun pins s σ H x v vl vu lo hi sl Q I rx hs pl pu q => h pins s σ H x v vl vu lo hi sl Q I rx hs pl pu (i _ _ _ _ _ q)
theorem PE.imp {e : Expr} {t t' : TE} (h : PE X e t) (i : ∀ σ H Q, t' σ H Q → t σ H Q) : PE X e t' := ⟨fun pins s σ H Q I q => h.run pins s σ H Q I (i _ _ _ q)⟩
theorem PT.imp {e : Expr} {t t' : TT} (h : PT X e t) (i : ∀ σ H Q, t' σ H Q → t σ H Q) : PT X e t' := ⟨fun pins s σ H Q I q => h.run pins s σ H Q I (i _ _ _ q)⟩
theorem PS.imp {e : Stmt} {t t' : TS} (h : PS X e t) (i : ∀ D σ H, t' D σ H → t D σ H) : PS X e t' := ⟨fun pins s σ H D I q => h.run pins s σ H D I (i _ _ _ q)⟩
theorem PSet.imp {r r' : TSet} (h : PSet X r) (i : ∀ o k v H Q, r' o k v H Q → r o k v H Q) : PSet X r' := fun pins s σ H o k v ov iv u Q I ro ri rv q => h pins s σ H o k v ov iv u Q I ro ri rv (i _ _ _ _ _ q)
/-! ### lists of ints -/
def IL (ns : List Int) : HO := .lst (ns.map V.int)
theorem IL_inj {a b : List Int} : (IL a = IL b) = (a = b) := by
  apply propext
  constructor
  · intro h
    unfold IL at h
    injection h with h
    exact List.map_inj_right (fun x y e => V.int.inj e) |>.mp h
  · intro h
    rw [h]
def toInts : List V → Option (List Int)
  | [] => some []
  | .int i :: r => (toInts r).map (i :: ·)
  | _ => none
theorem toInts_eq : ∀ {xs : List V} {ns : List Int}, toInts xs = some ns → xs = ns.map V.int
  | [], ns, h => by
    unfold toInts at h
    cases h
    rfl
  | .int i :: r, ns, h => by
    unfold toInts at h
    cases e : toInts r with
    | none => rw [e] at h; cases h
    | some ms =>
      rw [e] at h
      cases h
      rw [List.map_cons, toInts_eq e]
  | .non :: _, _, h => by unfold toInts at h; cases h
  | .bl _ :: _, _, h => by unfold toInts at h; cases h
  | .str _ :: _, _, h => by unfold toInts at h; cases h
  | .byt _ :: _, _, h => by unfold toInts at h; cases h
  | .flt _ :: _, _, h => by unfold toInts at h; cases h
  | .ref _ :: _, _, h => by unfold toInts at h; cases h
  | .ty _ :: _, _, h => by unfold toInts at h; cases h
theorem toInts_cons {i : Int} {r : List V} : toInts (.int i :: r) = (toInts r).map (i :: ·) := rfl
theorem toInts_nil : toInts [] = some [] := rfl
def isL : Option HO → Bool
  | some (.lst _) => true
  | _ => false
theorem isL_IL {ns : List Int} : isL (some (IL ns)) = true := rfl
theorem isL_lst {xs : List V} : isL (some (.lst xs)) = true := rfl
theorem isL_of {o : Option HO} (h : isL o = true) : ∃ xs, o = some (.lst xs) := by
  cases o with
  | none => cases h
  | some u =>
    cases u with
    | lst xs => exact ⟨xs, rfl⟩
    | _ => cases h
def rCatI : R2 := fun x y H Q => ∃ l b xs zs, x = .ref l ∧ y = .ref b ∧ H l = some (IL xs) ∧ H b = some (IL zs) ∧ xs.length + zs.length ≤ sizeLine ∧ ∀ p, H p = none → Q (.ref p) (upd H p (IL (xs ++ zs)))
theorem op_catI : OpR X (binaryOp .Add) rCatI := OpR.imp op_cat fun x y H Q h => by
  obtain ⟨l, b, xs, zs, e1, e2, h1, h2, h3, q⟩ := h
  exact ⟨l, b, _, _, e1, e2, h1, h2, by rw [List.length_map, List.length_map]; exact h3, fun p hp => by rw [← List.map_append]; exact q p hp⟩
def rep (k : Int) (xs : List Int) : List Int := (List.replicate k.toNat xs).flatten
theorem rep_one (k : Int) (x : Int) : rep k [x] = List.replicate k.toNat x := by
  unfold rep
  generalize k.toNat = n
  induction n with
  | zero => rfl
  | succ n ih => rw [List.replicate_succ, List.flatten_cons, ih, List.replicate_succ]; rfl
def rRepI : R2 := fun x y H Q => ∃ l k xs, x = .ref l ∧ y = .int k ∧ H l = some (IL xs) ∧ (-(2 ^ 63) ≤ k ∧ k < 2 ^ 63 ∧ xs.length * k.toNat ≤ sizeLine) ∧ ∀ p, H p = none → Q (.ref p) (upd H p (IL (rep k xs)))
theorem map_rep (k : Nat) (xs : List Int) : (List.replicate k (xs.map V.int)).flatten = (List.replicate k xs).flatten.map V.int := by
  induction k with
  | zero => rfl
  | succ n ih => rw [List.replicate_succ, List.flatten_cons, ih, List.replicate_succ, List.flatten_cons, List.map_append]
theorem op_repI : OpR X (binaryOp .Mult) rRepI := OpR.imp op_rep fun x y H Q h => by
  obtain ⟨l, k, xs, e1, e2, h1, ⟨h2, h3, h4⟩, q⟩ := h
  exact ⟨l, k, _, e1, e2, h1, h2, h3, by rw [List.length_map]; exact h4, fun p hp => by rw [map_rep]; exact q p hp⟩
def rIxI : R2 := fun x y H Q => ∃ p ns i, x = .ref p ∧ y = .int i ∧ H p = some (IL ns) ∧ (0 ≤ i ∧ i < (ns.length : Int)) ∧ Q (.int (ns.getD i.toNat 0)) H
theorem atI_int {ns : List Int} {i : Int} (h0 : 0 ≤ i) (h1 : i < (ns.length : Int)) : atI (ns.map V.int) i = some (.int (ns.getD i.toNat 0)) := by
  have hk : i.toNat < ns.length := by omega
  have e : i = ((i.toNat : Nat) : Int) := by omega
  have q : atI (ns.map V.int) ((i.toNat : Nat) : Int) = some (.int (ns.getD i.toNat 0)) := atI_nat (by
    rw [List.getElem?_map, List.getElem?_eq_getElem hk, List.getD_eq_getElem?_getD, List.getElem?_eq_getElem hk]
    rfl)
  rw [← e] at q
  exact q
theorem ix_listI : IxR X rIxI := IxR.imp ix_list fun x y H Q h => by
  obtain ⟨p, ns, i, e1, e2, h1, ⟨h2, h3⟩, q⟩ := h
  exact ⟨p, _, i, _, e1, e2, .of h1, atI_int h2 h3, q⟩
def rIxH : R2 := fun x y H Q => ∃ p xs i v, x = .ref p ∧ y = .int i ∧ H p = some (.lst xs) ∧ atI xs i = some v ∧ Q v H
theorem ix_listH : IxR X rIxH := IxR.imp ix_list fun x y H Q h => by
  obtain ⟨p, xs, i, v, e1, e2, h1, h2, q⟩ := h
  exact ⟨p, _, i, _, e1, e2, .of h1, h2, q⟩
def rIxTH : R2 := fun x y H Q => ∃ p xs i v, x = .ref p ∧ y = .int i ∧ H p = some (.tup xs) ∧ atI xs i = some v ∧ Q v H
theorem ix_tupH : IxR X rIxTH := IxR.imp ix_tup fun x y H Q h => by
  obtain ⟨p, xs, i, v, e1, e2, h1, h2, q⟩ := h
  exact ⟨p, _, i, _, e1, e2, .of h1, h2, q⟩
def cutI (xs : List Int) (lo hi : Option Int) : List Int := (xs.drop (HT.sIx xs.length 0 lo)).take (HT.sIx xs.length xs.length hi - HT.sIx xs.length 0 lo)
theorem cutV_int (ns : List Int) (lo hi : Option Int) : cutV (ns.map V.int) lo hi = (cutI ns lo hi).map V.int := by
  unfold cutV cutI
  rw [List.length_map, List.map_take, List.map_drop]
def rSlI : V → Option Int → Option Int → Hp → VK → Prop := fun x lo hi H Q => ∃ a ns, x = .ref a ∧ H a = some (IL ns) ∧ ∀ p, H p = none → Q (.ref p) (upd H p (IL (cutI ns lo hi)))
theorem sl_listI : SlR X rSlI := SlR.imp sl_list fun x lo hi H Q h => by
  obtain ⟨a, ns, e1, h1, q⟩ := h
  exact ⟨a, _, e1, .of h1, fun p hp => by rw [cutV_int]; exact q p hp⟩
def rSlS (K : PySem.W.Frag) : V → Option Int → Option Int → Hp → VK → Prop := fun x lo hi H Q => ∃ a ns, x = .ref a ∧ SqL K H a (ns.map V.int) ∧ ∀ p, H p = none → Q (.ref p) (upd H p (IL (cutI ns lo hi)))
theorem sl_listS : SlR X (rSlS X.K) := SlR.imp sl_list fun x lo hi H Q h => by
  obtain ⟨a, ns, e1, h1, q⟩ := h
  exact ⟨a, _, e1, h1, fun p hp => by rw [cutV_int]; exact q p hp⟩
def rLenI : List V → Hp → VK → Prop := fun xs H Q => ∃ p ns, xs = [.ref p] ∧ H p = some (IL ns) ∧ Q (.int (ns.length : Int)) H
theorem call_lenI : CallR X (.builtin "len") rLenI := CallR.imp call_len_seq fun xs H Q h => by
  obtain ⟨p, ns, e, h1, q⟩ := h
  exact ⟨p, _, e, .inl (.of h1), by rw [List.length_map]; exact q⟩
def rLenH : List V → Hp → VK → Prop := fun xs H Q => ∃ p ys, xs = [.ref p] ∧ H p = some (.lst ys) ∧ Q (.int (ys.length : Int)) H
theorem call_lenH : CallR X (.builtin "len") rLenH := CallR.imp call_len_seq fun xs H Q h => by
  obtain ⟨p, ns, e, h1, q⟩ := h
  exact ⟨p, _, e, .inl (.of h1), q⟩
def rLenTH : List V → Hp → VK → Prop := fun xs H Q => ∃ p ys, xs = [.ref p] ∧ H p = some (.tup ys) ∧ Q (.int (ys.length : Int)) H
theorem call_lenTH : CallR X (.builtin "len") rLenTH := CallR.imp call_len_seq fun xs H Q h => by
  obtain ⟨p, ns, e, h1, q⟩ := h
  exact ⟨p, _, e, .inr (.of h1), q⟩
def rListI : List V → Hp → VK → Prop := fun xs H Q => ∃ p ns, xs = [.ref p] ∧ H p = some (IL ns) ∧ ∀ l, H l = none → Q (.ref l) (upd H l (IL ns))
theorem call_listI : CallR X (.type "list") rListI := CallR.imp call_list_of fun xs H Q h => by
  obtain ⟨p, ns, e, h1, q⟩ := h
  exact ⟨p, _, e, .inl (.of h1), q⟩
def rListS (K : PySem.W.Frag) : List V → Hp → VK → Prop := fun xs H Q => ∃ p ns, xs = [.ref p] ∧ SqL K H p (ns.map V.int) ∧ ∀ l, H l = none → Q (.ref l) (upd H l (IL ns))
theorem call_listS : CallR X (.type "list") (rListS X.K) := CallR.imp call_list_of fun xs H Q h => by
  obtain ⟨p, ns, e, h1, q⟩ := h
  exact ⟨p, _, e, .inl h1, q⟩
def rIntI : List V → Hp → VK → Prop := fun xs H Q => ∃ i, xs = [.int i] ∧ Q (.int i) H
theorem call_intI : CallR X (.type "int") rIntI := CallR.imp call_int1 fun xs H Q h => .inl h
def rIntB : List V → Hp → VK → Prop := fun xs H Q => ∃ k, xs = [.bl k] ∧ Q (.int (if k = true then 1 else 0)) H
theorem call_intB : CallR X (.type "int") rIntB := CallR.imp call_int1 fun xs H Q h => .inr h
def rSumI : List V → Hp → VK → Prop := fun xs H Q => ∃ p ns, xs = [.ref p] ∧ H p = some (IL ns) ∧ Q (.int ns.sum) H
theorem cr_sumI (hc : X.calm = true) : CallR X (.builtin "sum") rSumI := CallR.imp (cr_sum hc) fun xs H Q h => by
  obtain ⟨p, ns, e, h1, q⟩ := h
  exact ⟨p, _, e, .of h1, q⟩
def rAppendI : V → List V → Hp → VK → Prop := fun x vs H Q => ∃ l xs y, x = .ref l ∧ vs = [.int y] ∧ H l = some (IL xs) ∧ xs.length < sizeLine ∧ Q .non (upd H l (IL (xs ++ [y])))
theorem mt_appendI : MtR X "list.append" rAppendI := MtR.imp mt_append fun x vs H Q h => by
  obtain ⟨l, xs, y, e1, e2, h1, h2, q⟩ := h
  refine ⟨l, _, _, e1, e2, h1, by rw [List.length_map]; exact h2, ?_⟩
  have e : xs.map V.int ++ [V.int y] = (xs ++ [y]).map V.int := by rw [List.map_append]; rfl
  rw [e]
  exact q
def rExtendI : V → List V → Hp → VK → Prop := fun x vs H Q => ∃ l b xs zs, x = .ref l ∧ vs = [.ref b] ∧ H l = some (IL xs) ∧ H b = some (IL zs) ∧ xs.length + zs.length ≤ sizeLine ∧ Q .non (upd H l (IL (xs ++ zs)))
theorem mt_extendI : MtR X "list.extend" rExtendI := MtR.imp mt_extend fun x vs H Q h => by
  obtain ⟨l, b, xs, zs, e1, e2, h1, h2, h3, q⟩ := h
  exact ⟨l, b, _, _, e1, e2, h1, h2, by rw [List.length_map, List.length_map]; exact h3, by rw [← List.map_append]; exact q⟩
def rSetI : TSet := fun o i v H Q => ∃ p ns k y, o = .ref p ∧ i = .int k ∧ v = .int y ∧ H p = some (IL ns) ∧ (0 ≤ k ∧ k < (ns.length : Int)) ∧ Q (upd H p (IL (ns.set k.toNat y)))
theorem ixN_nn {n : Nat} {k : Int} (h0 : 0 ≤ k) (h1 : k < (n : Int)) : ixN n k = some k.toNat := by
  unfold ixN
  rw [if_pos h0, if_pos h1]
theorem set_listI : PSet X rSetI := PSet.imp set_list fun o i v H Q h => by
  obtain ⟨p, ns, k, y, e1, e2, e3, h1, ⟨h2, h3⟩, q⟩ := h
  refine ⟨p, _, k, k.toNat, e1, e2, h1, ixN_nn h2 (by rw [List.length_map]; exact h3), ?_⟩
  rw [e3, ← List.map_set]
  exact q
/-- xs[k] = v of any list at a written place -/
def rSetH : TSet := fun o i v H Q => ∃ p xs k, o = .ref p ∧ i = .int k ∧ H p = some (.lst xs) ∧ (0 ≤ k ∧ k < (xs.length : Int)) ∧ Q (upd H p (.lst (xs.set k.toNat v)))
theorem set_listH : PSet X rSetH := PSet.imp set_list fun o i v H Q h => by
  obtain ⟨p, xs, k, e1, e2, h1, ⟨h2, h3⟩, q⟩ := h
  exact ⟨p, _, k, k.toNat, e1, e2, h1, ixN_nn h2 h3, q⟩
/-! ### == of lists of ints -/
theorem dp_ints {K : PySem.W.Frag} {H : Hp} : ∀ ns : List Int, DpAll K H (ns.map V.int) (ns.map PyData.int)
  | [] => .nil
  | n :: r => .cons (.int n) (dp_ints r)
theorem dp_IL {K : PySem.W.Frag} {H : Hp} {p : Addr} {ns : List Int} (h : H p = some (IL ns)) : Dp K H (.ref p) (.list (ns.map PyData.int)) := .lst (.of h) (dp_ints ns)
theorem eqvAll_ints : ∀ ns ms : List Int, PyData.eqvAll (ns.map PyData.int) (ms.map PyData.int) = decide (ns = ms)
  | [], [] => by
    show PyData.eqvAll [] [] = _
    rw [PyData.eqvAll]
    rfl
  | [], _ :: _ => by
    show PyData.eqvAll [] (_ :: _) = _
    rw [PyData.eqvAll, decide_eq_false (fun e => by cases e)]
  | _ :: _, [] => by
    show PyData.eqvAll (_ :: _) [] = _
    rw [PyData.eqvAll, decide_eq_false (fun e => by cases e)]
  | n :: ns, m :: ms => by
    show PyData.eqvAll (.int n :: ns.map PyData.int) (.int m :: ms.map PyData.int) = _
    rw [PyData.eqvAll, eqvAll_ints ns ms, PyData.eqv]
    by_cases h : n = m
    · subst h
      by_cases h2 : ns = ms
      · subst h2; simp
      · rw [decide_eq_false h2, decide_eq_false (fun e => h2 (List.cons.inj e).2)]; simp
    · rw [decide_eq_false (fun e => h (List.cons.inj e).1)]
      have : (n == m) = false := by simp [h]
      rw [this]; rfl
theorem canLay_ints : ∀ ns : List Int, PyData.canLayAll0 (ns.map PyData.int) = true
  | [] => rfl
  | n :: ns => by
    show PyData.canLayAll0 (.int n :: ns.map PyData.int) = true
    rw [PyData.canLayAll0, canLay_ints ns]; rfl
theorem depthAll_ints : ∀ ns : List Int, PyData.depthAll (ns.map PyData.int) ≤ 1
  | [] => by decide
  | n :: ns => by
    show PyData.depthAll (.int n :: ns.map PyData.int) ≤ 1
    have := depthAll_ints ns
    simp only [PyData.depthAll, PyData.depth]
    omega
theorem shaped_ints (ns : List Int) : SeqAt.shaped (.list (ns.map PyData.int)) = true := by
  have h1 := canLay_ints ns
  have h2 := depthAll_ints ns
  unfold SeqAt.shaped
  rw [Bool.and_eq_true]
  refine ⟨by rw [PyData.canLay0]; exact h1, decide_eq_true ?_⟩
  simp only [PyData.depth]
  omega
def rEqI : R2 := fun x y H Q => ∃ p q ns ms, x = .ref p ∧ y = .ref q ∧ H p = some (IL ns) ∧ H q = some (IL ms) ∧ Q (.bl (decide (ns = ms))) H
theorem op_eqI (hu : X.A.units + 64 < cLine) : OpR X (compareOp .Eq) rEqI := OpR.imp (op_eqD hu) fun x y H Q h => by
  obtain ⟨p, q, ns, ms, rfl, rfl, h1, h2, k⟩ := h
  refine ⟨_, _, dp_IL h1, dp_IL h2, shaped_ints ns, shaped_ints ms, ?_⟩
  rw [PyData.eqv, eqvAll_ints]
  exact k
def rNeI : R2 := fun x y H Q => ∃ p q ns ms, x = .ref p ∧ y = .ref q ∧ H p = some (IL ns) ∧ H q = some (IL ms) ∧ Q (.bl (!decide (ns = ms))) H
theorem op_neI (hu : X.A.units + 64 < cLine) : OpR X (compareOp .NotEq) rNeI := OpR.imp (op_neD hu) fun x y H Q h => by
  obtain ⟨p, q, ns, ms, rfl, rfl, h1, h2, k⟩ := h
  refine ⟨_, _, dp_IL h1, dp_IL h2, shaped_ints ns, shaped_ints ms, ?_⟩
  rw [PyData.eqv, eqvAll_ints]
  exact k
/-! ### displays of ints, methods of lists -/
def rMax2 : List V → Hp → VK → Prop := fun xs H Q => ∃ i j, xs = [.int i, .int j] ∧ Q (.int (max i j)) H
def rMin2 : List V → Hp → VK → Prop := fun xs H Q => ∃ i j, xs = [.int i, .int j] ∧ Q (.int (min i j)) H
theorem max_if (i j : Int) : (if j > i then j else i) = max i j := by
  split <;> omega
theorem min_if (i j : Int) : (if j < i then j else i) = min i j := by
  split <;> omega
theorem call_maxI (hc : X.calm = true) : CallR X (.builtin "max") rMax2 := CallR.imp (call_max2 hc) fun xs H Q h => by
  obtain ⟨i, j, e, q⟩ := h
  exact ⟨i, j, e, by rw [max_if]; exact q⟩
theorem call_minI (hc : X.calm = true) : CallR X (.builtin "min") rMin2 := CallR.imp (call_min2 hc) fun xs H Q h => by
  obtain ⟨i, j, e, q⟩ := h
  exact ⟨i, j, e, by rw [min_if]; exact q⟩
def rIsN : R2 := fun x y H Q => y = V.non ∧ Q (.bl (decide (x = V.non))) H
def rIsNotN : R2 := fun x y H Q => y = V.non ∧ Q (.bl (!decide (x = V.non))) H
theorem op_isNone : OpR X (compareOp .Is) rIsN := op_isN
theorem op_notNone : OpR X (compareOp .IsNot) rIsNotN := op_notN
def rStrIn : R2 := fun x y H Q => ∃ i j, x = .str i ∧ y = .str j ∧ Q (.bl (!(Builtin.Str.occurrences j i 0 j.length 1).isEmpty)) H
theorem op_strIn : OpR X (compareOp .In) rStrIn := op_in_str
def rStrNotIn : R2 := fun x y H Q => ∃ i j, x = .str i ∧ y = .str j ∧ Q (.bl (!(!(Builtin.Str.occurrences j i 0 j.length 1).isEmpty))) H
theorem op_strNotIn : OpR X (compareOp .NotIn) rStrNotIn := op_notin_str
def tLstI (t : TA) : TE := fun σ H Q => t σ H fun xs H1 => ∃ ns, toInts xs = some ns ∧ ns.length ≤ sizeLine ∧ ∀ p, H1 p = none → Q (.ref p) (upd H1 p (IL ns))
theorem pe_lstI {es : List Expr} {t : TA} {pos : Pos} (h : PA X es t) : PE X (.List es pos) (tLstI t) := by
  refine ⟨fun pins s σ H Q I hq => ?_⟩
  refine wpAny_List_spliced (thn (h.run pos pins s σ H _ I hq) fun us s1 ⟨xs, H1, I1, r, ns, e, z, q⟩ => ?_)
  have e2 := toInts_eq e
  have z2 : xs.length ≤ sizeLine := by rw [e2, List.length_map]; exact z
  refine ⟨by rw [← r.length]; exact z2, ?_⟩
  have hf : H1 s1.heap.objs.size = none := I1.hok.fresh (Nat.le_refl _)
  have q' := q _ hf
  have e3 : IL ns = .lst xs := by unfold IL; rw [e2]
  rw [e3] at q'
  refine ⟨.ref s1.heap.objs.size, upd H1 s1.heap.objs.size (.lst xs), I1.laid (t' := s1.toks) (fun b u e => Heap.get?_push_of_some _ e) (Nat.le_refl _) ?_, rfl, q'⟩
  exact ⟨z2, us, 0, r, Heap.get?_push_size _ rfl⟩
/-- a method of a list that stands in a name: the slot i -/
def tBML (i : Nat) (r : V → List V → Hp → VK → Prop) (t : TA) : TE := fun σ H Q => ∃ p, σ[i]? = some (some (.ref p)) ∧ isL (H p) = true ∧ t σ H fun xs H2 => r (.ref p) xs H2 Q
theorem bml_imp {K : PySem.W.Frag} {i : Nat} {r : V → List V → Hp → VK → Prop} {t : TA} : ∀ σ H Q, tBML i r t σ H Q → tBM K "list" r (tVar i) t σ H Q := by
  intro σ H Q ⟨p, e, h, q⟩
  obtain ⟨xs, hx⟩ := isL_of h
  exact ⟨_, e, .inl ⟨rfl, _, .of hx⟩, q⟩
def tBML0 (i : Nat) (r : V → List V → Hp → VK → Prop) : TE := fun σ H Q => ∃ p, σ[i]? = some (some (.ref p)) ∧ isL (H p) = true ∧ r (.ref p) [] H Q
theorem bml0_imp {K : PySem.W.Frag} {i : Nat} {r : V → List V → Hp → VK → Prop} : ∀ σ H Q, tBML0 i r σ H Q → tBM0 K "list" r (tVar i) σ H Q := by
  intro σ H Q ⟨p, e, h, q⟩
  obtain ⟨xs, hx⟩ := isL_of h
  exact ⟨_, e, .inl ⟨rfl, _, .of hx⟩, q⟩
end
/-! ### written places and bounds -/
theorem atI_k {α : Type} (xs : List α) (k : Nat) : atI xs (k : Int) = xs[k]? := by
  unfold atI ixN
  rw [if_pos (Int.natCast_nonneg k)]
  by_cases h : k < xs.length
  · rw [if_pos (by omega), Int.toNat_natCast]; rfl
  · rw [if_neg (by omega), List.getElem?_eq_none (by omega)]; rfl
theorem atI_0 {α : Type} (xs : List α) : atI xs 0 = xs[0]? := atI_k xs 0
theorem atI_1 {α : Type} (xs : List α) : atI xs 1 = xs[1]? := atI_k xs 1
theorem atI_2 {α : Type} (xs : List α) : atI xs 2 = xs[2]? := atI_k xs 2
theorem atI_3 {α : Type} (xs : List α) : atI xs 3 = xs[3]? := atI_k xs 3
theorem atI_4 {α : Type} (xs : List α) : atI xs 4 = xs[4]? := atI_k xs 4
theorem cmul_r {i j : Int} (h1 : -18446744073709551616 < j) (h2 : j < 18446744073709551616) : CMul i j = True := eq_true (.inr ⟨h1, h2⟩)
theorem cmul_l {i j : Int} (h1 : -18446744073709551616 < i) (h2 : i < 18446744073709551616) : CMul i j = True := eq_true (.inl ⟨h1, h2⟩)
theorem cdiv_r {i j : Int} (h1 : 0 < j) (h2 : j < 1073741824) : CDiv i j = True := eq_true ⟨h1, h2⟩
theorem cast_lit (n : Nat) : ((no_index (OfNat.ofNat n) : Nat) : Int) = OfNat.ofNat n := rfl
/-! ### data that is tracked -/
mutual
inductive Dt (H : Hp) : V → PyData → Prop
  | non : Dt H .non .none
  | bl (b : Bool) : Dt H (.bl b) (.bool b)
  | int (i : Int) : Dt H (.int i) (.int i)
  | str (x : Str) : Dt H (.str x) (.str x)
  | lst {a : Addr} {xs : List V} {ds : List PyData} : H a = some (.lst xs) → DtAll H xs ds → Dt H (.ref a) (.list ds)
  | tup {a : Addr} {xs : List V} {ds : List PyData} : H a = some (.tup xs) → DtAll H xs ds → Dt H (.ref a) (.tuple ds)
inductive DtAll (H : Hp) : List V → List PyData → Prop
  | nil : DtAll H [] []
  | cons {v : V} {vs : List V} {d : PyData} {ds : List PyData} : Dt H v d → DtAll H vs ds → DtAll H (v :: vs) (d :: ds)
end
mutual
theorem Dt.same {H H' : Hp} (s : Same H H') : ∀ (d : PyData) (v : V), Dt H v d → Dt H' v d
  | .none, _, h => by cases h; exact .non
  | .bool b, _, h => by cases h; exact .bl b
  | .int i, _, h => by cases h; exact .int i
  | .str z, _, h => by cases h; exact .str z
  | .list ds, _, h => by cases h with | lst h1 h2 => exact .lst (s _ _ h1) (DtAll.same s ds _ h2)
  | .tuple ds, _, h => by cases h with | tup h1 h2 => exact .tup (s _ _ h1) (DtAll.same s ds _ h2)
  | .dict _, _, h => by cases h
theorem DtAll.same {H H' : Hp} (s : Same H H') : ∀ (ds : List PyData) (vs : List V), DtAll H vs ds → DtAll H' vs ds
  | [], _, h => by cases h; exact .nil
  | d :: ds, _, h => by cases h with | cons h1 h2 => exact .cons (Dt.same s d _ h1) (DtAll.same s ds _ h2)
end
mutual
theorem Dt.dp {K : PySem.W.Frag} {H : Hp} : ∀ (d : PyData) (v : V), Dt H v d → Dp K H v d
  | .none, _, h => by cases h; exact .non
  | .bool b, _, h => by cases h; exact .bl b
  | .int i, _, h => by cases h; exact .int i
  | .str z, _, h => by cases h; exact .str z
  | .list ds, _, h => by cases h with | lst h1 h2 => exact .lst (.of h1) (DtAll.dp ds _ h2)
  | .tuple ds, _, h => by cases h with | tup h1 h2 => exact .tup (.of h1) (DtAll.dp ds _ h2)
  | .dict _, _, h => by cases h
theorem DtAll.dp {K : PySem.W.Frag} {H : Hp} : ∀ (ds : List PyData) (vs : List V), DtAll H vs ds → DpAll K H vs ds
  | [], _, h => by cases h; exact .nil
  | d :: ds, _, h => by cases h with | cons h1 h2 => exact .cons (Dt.dp d _ h1) (DtAll.dp ds _ h2)
end
theorem dtAll_len {H : Hp} : ∀ {xs : List V} {ds : List PyData}, DtAll H xs ds → xs.length = ds.length
  | _, _, .nil => rfl
  | _, _, .cons _ t => by rw [List.length_cons, List.length_cons, dtAll_len t]
theorem dtAll_get {H : Hp} : ∀ {xs : List V} {ds : List PyData} {i : Nat}, DtAll H xs ds → i < ds.length → ∃ x d, xs[i]? = some x ∧ ds[i]? = some d ∧ Dt H x d
  | _, _, _, .nil, h => absurd h (Nat.not_lt_zero _)
  | _, _, 0, .cons a _, _ => ⟨_, _, rfl, rfl, a⟩
  | _, _, i + 1, .cons _ t, h => by
    obtain ⟨x, d, e1, e2, q⟩ := dtAll_get (i := i) t (Nat.lt_of_succ_lt_succ h)
    exact ⟨x, d, e1, e2, q⟩
theorem dt_ints {H : Hp} : ∀ ns : List Int, DtAll H (ns.map V.int) (ns.map PyData.int)
  | [] => .nil
  | n :: r => .cons (.int n) (dt_ints r)
theorem dt_IL {H : Hp} {p : Addr} {ns : List Int} (h : H p = some (IL ns)) : Dt H (.ref p) (.list (ns.map PyData.int)) := .lst h (dt_ints ns)
/-! ### isinstance of data -/
def tn : PyData → String
  | .none => "NoneType"
  | .bool _ => "bool"
  | .int _ => "int"
  | .str _ => "str"
  | .list _ => "list"
  | .tuple _ => "tuple"
  | .dict _ => "dict"
def tyO : Option HO → Option String
  | some (.lst _) => some "list"
  | some (.tup _) => some "tuple"
  | _ => none
def tyH (H : Hp) : V → Option String
  | .non => some "NoneType"
  | .bl _ => some "bool"
  | .int _ => some "int"
  | .str _ => some "str"
  | .ref a => tyO (H a)
  | _ => none
theorem tyH_non {H : Hp} : tyH H .non = some "NoneType" := rfl
theorem tyH_bl {H : Hp} {b : Bool} : tyH H (.bl b) = some "bool" := rfl
theorem tyH_int {H : Hp} {i : Int} : tyH H (.int i) = some "int" := rfl
theorem tyH_str {H : Hp} {x : Str} : tyH H (.str x) = some "str" := rfl
theorem tyH_ref {H : Hp} {a : Addr} : tyH H (.ref a) = tyO (H a) := rfl
theorem tyO_lst {xs : List V} : tyO (some (.lst xs)) = some "list" := rfl
theorem tyO_IL {xs : List Int} : tyO (some (IL xs)) = some "list" := rfl
theorem tyO_tup {xs : List V} : tyO (some (.tup xs)) = some "tuple" := rfl
theorem Dt.ty {H : Hp} {x : V} {d : PyData} (h : Dt H x d) : tyH H x = some (tn d) := by
  cases h with
  | non => rfl
  | bl b => rfl
  | int i => rfl
  | str z => rfl
  | lst h _ => rw [tyH_ref, h]; rfl
  | tup h _ => rw [tyH_ref, h]; rfl
theorem tyO_cases {o : Option HO} {t : String} (h : tyO o = some t) : (t = "list" ∧ ∃ xs, o = some (.lst xs)) ∨ (t = "tuple" ∧ ∃ xs, o = some (.tup xs)) := by
  cases o with
  | none => cases h
  | some u =>
    cases u with
    | lst xs => cases h; exact .inl ⟨rfl, xs, rfl⟩
    | tup xs => cases h; exact .inr ⟨rfl, xs, rfl⟩
    | _ => cases h
/-- isinstance(x, T), both built-in, by the name of x's type -/
def isB (a T : String) : Bool := a == T || (a == "bool" && T == "int")
def tyNames : List String := ["NoneType", "bool", "int", "str", "list", "tuple"]
def clNames : List String := ["bool", "int", "str", "list", "tuple"]
def isCl (T : String) : Bool := clNames.contains T
theorem isB_all : (tyNames.all fun a => clNames.all fun b => decide (kitB a b = some (isB a b))) = true := by decide +kernel
theorem isB_kit {a b : String} (h1 : a ∈ tyNames) (h2 : isCl b = true) : kitB a b = some (isB a b) := by
  have h := isB_all
  rw [List.all_eq_true] at h
  have h' := h a h1
  rw [List.all_eq_true] at h'
  exact of_decide_eq_true (h' b (List.contains_iff_mem.mp h2))
theorem tyH_x {K : PySem.W.Frag} {H : Hp} {x : V} {t : String} (h : tyH H x = some t) : TyX K H x (.type t) ∧ t ∈ tyNames := by
  cases x with
  | non => cases h; exact ⟨.base .non, by decide⟩
  | bl b => cases h; exact ⟨.base (.bl b), by decide⟩
  | int i => cases h; exact ⟨.base (.int i), by decide⟩
  | str z => cases h; exact ⟨.base (.str z), by decide⟩
  | ref a =>
    rcases tyO_cases h with ⟨rfl, xs, e⟩ | ⟨rfl, xs, e⟩
    · exact ⟨.base (.lst e), by decide⟩
    · exact ⟨.base (.tup e), by decide⟩
  | _ => cases h
def rIsiD : List V → Hp → VK → Prop := fun xs H Q => ∃ x T, xs = [x, .ty T] ∧ ∃ t, tyH H x = some t ∧ isCl T = true ∧ Q (.bl (isB t T)) H
theorem call_isiD {X : Cx} : CallR X (.builtin "isinstance") rIsiD := CallR.imp call_isi fun xs H Q h => by
  obtain ⟨x, T, rfl, t, ty, h2, q⟩ := h
  obtain ⟨h0, h1⟩ := tyH_x (K := X.K) ty
  exact ⟨x, .ty T, .type t, .type T, isB t T, rfl, .ty T, h0, kit_ty (isB_kit h1 h2), q⟩
theorem cl_bool : isCl "bool" = true := by decide
theorem cl_int : isCl "int" = true := by decide
theorem cl_str : isCl "str" = true := by decide
theorem cl_list : isCl "list" = true := by decide
theorem cl_tuple : isCl "tuple" = true := by decide
theorem isB_NoneType_bool : isB "NoneType" "bool" = false := by decide
theorem isB_NoneType_int : isB "NoneType" "int" = false := by decide
theorem isB_NoneType_str : isB "NoneType" "str" = false := by decide
theorem isB_NoneType_list : isB "NoneType" "list" = false := by decide
theorem isB_NoneType_tuple : isB "NoneType" "tuple" = false := by decide
theorem isB_bool_bool : isB "bool" "bool" = true := by decide
theorem isB_bool_int : isB "bool" "int" = true := by decide
theorem isB_bool_str : isB "bool" "str" = false := by decide
theorem isB_bool_list : isB "bool" "list" = false := by decide
theorem isB_bool_tuple : isB "bool" "tuple" = false := by decide
theorem isB_int_bool : isB "int" "bool" = false := by decide
theorem isB_int_int : isB "int" "int" = true := by decide
theorem isB_int_str : isB "int" "str" = false := by decide
theorem isB_int_list : isB "int" "list" = false := by decide
theorem isB_int_tuple : isB "int" "tuple" = false := by decide
theorem isB_str_bool : isB "str" "bool" = false := by decide
theorem isB_str_int : isB "str" "int" = false := by decide
theorem isB_str_str : isB "str" "str" = true := by decide
theorem isB_str_list : isB "str" "list" = false := by decide
theorem isB_str_tuple : isB "str" "tuple" = false := by decide
theorem isB_list_bool : isB "list" "bool" = false := by decide
theorem isB_list_int : isB "list" "int" = false := by decide
theorem isB_list_str : isB "list" "str" = false := by decide
theorem isB_list_list : isB "list" "list" = true := by decide
theorem isB_list_tuple : isB "list" "tuple" = false := by decide
theorem isB_tuple_bool : isB "tuple" "bool" = false := by decide
theorem isB_tuple_int : isB "tuple" "int" = false := by decide
theorem isB_tuple_str : isB "tuple" "str" = false := by decide
theorem isB_tuple_list : isB "tuple" "list" = false := by decide
theorem isB_tuple_tuple : isB "tuple" "tuple" = true := by decide
theorem scal_nn : scal .non .non = true := rfl
theorem scal_ii {a b : Int} : scal (.int a) (.int b) = true := rfl
theorem scal_bb {a b : Bool} : scal (.bl a) (.bl b) = true := rfl
theorem scal_ss {a b : Str} : scal (.str a) (.str b) = true := rfl
theorem scal_is {a : Int} {b : Str} : scal (.int a) (.str b) = true := rfl
theorem scal_si {a : Int} {b : Str} : scal (.str b) (.int a) = true := rfl
/-! ### lists and tuples that are tracked: their items -/
def itO : Option HO → Option (List V)
  | some (.lst xs) => some xs
  | some (.tup xs) => some xs
  | _ => none
theorem itO_lst {xs : List V} : itO (some (.lst xs)) = some xs := rfl
theorem itO_tup {xs : List V} : itO (some (.tup xs)) = some xs := rfl
theorem itO_IL {ns : List Int} : itO (some (IL ns)) = some (ns.map V.int) := rfl
theorem itO_cases {o : Option HO} {xs : List V} (h : itO o = some xs) : o = some (.lst xs) ∨ o = some (.tup xs) := by
  cases o with
  | none => cases h
  | some u =>
    cases u with
    | lst xs => cases h; exact .inl rfl
    | tup xs => cases h; exact .inr rfl
    | _ => cases h
def rLenQ : List V → Hp → VK → Prop := fun xs H Q => ∃ p ys, xs = [.ref p] ∧ itO (H p) = some ys ∧ Q (.int (ys.length : Int)) H
theorem call_lenQ {X : Cx} : CallR X (.builtin "len") rLenQ := CallR.imp call_len_seq fun xs H Q h => by
  obtain ⟨p, ys, e, h1, q⟩ := h
  rcases itO_cases h1 with h1 | h1
  · exact ⟨p, _, e, .inl (.of h1), q⟩
  · exact ⟨p, _, e, .inr (.of h1), q⟩
def rLenB : List V → Hp → VK → Prop := fun xs H Q => ∃ p ys, xs = [.ref p] ∧ itO (H p) = some ys ∧ (ys.length ≤ 16777216 → Q (.int (ys.length : Int)) H)
theorem call_lenB {X : Cx} : CallR X (.builtin "len") rLenB := fun pins s σ H xs us Q I r h => by
  obtain ⟨p, ys, e, h1, q⟩ := h
  refine call_lenQ pins s σ H xs us Q I r ⟨p, ys, e, h1, q ?_⟩
  rcases itO_cases h1 with h1 | h1
  · obtain ⟨_, _, _, z⟩ := I.list (.of h1)
    rw [sizeLine_eq] at z
    exact z
  · obtain ⟨_, _, _, z⟩ := I.tuple (.of h1)
    rw [sizeLine_eq] at z
    exact z
def rIxD : R2 := fun x y H Q => ∃ p xs i v, x = .ref p ∧ y = .int i ∧ itO (H p) = some xs ∧ atI xs i = some v ∧ Q v H
theorem ix_seqD {X : Cx} : IxR X rIxD := IxR.imp (ix_list.or ix_tup) fun x y H Q h => by
  obtain ⟨p, xs, i, v, e1, e2, h1, h2, q⟩ := h
  rcases itO_cases h1 with h1 | h1
  · exact .inl ⟨p, _, i, _, e1, e2, .of h1, h2, q⟩
  · exact .inr ⟨p, _, i, _, e1, e2, .of h1, h2, q⟩
/-- data that is told the same twice -/
def spSame (n : Nat) : Sp := fun vs H Q _ => ∃ (x y : V) (d : PyData), vs = [x, y] ∧ Dt H x d ∧ Dt H y d ∧ d.depth < n ∧ SeqAt.shaped d = true ∧ Q (.bl true) H
theorem depthAll_get : ∀ {ds : List PyData} {i : Nat} {d : PyData}, ds[i]? = some d → d.depth ≤ PyData.depthAll ds
  | [], _, _, h => by simp at h
  | a :: r, 0, d, h => by
    have e : a = d := Option.some.inj h
    subst e
    simp only [PyData.depthAll]
    omega
  | a :: r, i + 1, d, h => by
    have q := depthAll_get (ds := r) (i := i) (d := d) h
    simp only [PyData.depthAll]
    omega
theorem canLayAll_get : ∀ {ds : List PyData} {i : Nat} {d : PyData}, ds[i]? = some d → PyData.canLayAll0 ds = true → d.canLay0 = true
  | [], _, _, h, _ => by simp at h
  | a :: r, 0, d, h, c => by
    have e : a = d := Option.some.inj h
    subst e
    rw [PyData.canLayAll0, Bool.and_eq_true] at c
    exact c.1
  | a :: r, i + 1, d, h, c => by
    rw [PyData.canLayAll0, Bool.and_eq_true] at c
    exact canLayAll_get (ds := r) (i := i) (d := d) h c.2
theorem shaped_item {ds : List PyData} {i : Nat} {d : PyData} (h : ds[i]? = some d) (c : PyData.canLayAll0 ds = true) (k : PyData.depthAll ds + 1 ≤ 64) : SeqAt.shaped d = true := by
  unfold SeqAt.shaped
  rw [Bool.and_eq_true]
  refine ⟨canLayAll_get h c, decide_eq_true ?_⟩
  have := depthAll_get h
  omega
theorem none_fn {P : Program} {w : World} {K : PySem.W.Frag} {mg : Str → Option Value} {base : Heap} {CX : CXT} {f : Addr} {fd : FuncData} {ps : List Str} {sp : Sp} {k : Nat} (no : ∀ vs H Q E, ¬ sp vs H Q E) : FnOk P w K mg base CX k f fd ps sp :=
  ⟨fun vs H Q E h => absurd h (no vs H Q E), fun A outer s H args us vs Q E _ _ _ _ h => absurd h (no vs H Q E)⟩
end Dw

namespace Dw
open PySem PySem.Spec PyProof.Rows L2
/-! ### the CRC, on natural numbers -/
/-- one bit -/
def stepB (n b : Nat) : Nat := (2 * n % 65536) ^^^ (if n / 32768 % 2 = b then 0 else 4129)
/-- one byte, bit by bit from the highest on -/
def byteB (n v : Nat) : Nat := (List.range 8).foldl (fun m k => stepB m (v / 2 ^ (7 - k) % 2)) n
/-- one byte, at once -/
def byteP (n v : Nat) : Nat :=
  let t := (n / 256) ^^^ v
  let u := t ^^^ (t / 16)
  ((((n * 256) ^^^ (u * 4096)) ^^^ (u * 32)) ^^^ u) % 65536
def crcN (vs : List Nat) : Nat := vs.foldl byteP 65535
theorem xor_lt {a b k : Nat} (h1 : a < 2 ^ k) (h2 : b < 2 ^ k) : a ^^^ b < 2 ^ k := Nat.xor_lt_two_pow h1 h2
theorem stepB_lt (n b : Nat) : stepB n b < 65536 := by
  unfold stepB
  refine xor_lt (k := 16) ?_ ?_
  · exact Nat.mod_lt _ (by decide)
  · split <;> decide
theorem byteP_lt (n v : Nat) : byteP n v < 65536 := Nat.mod_lt _ (by decide)
theorem mul2 (a b : Nat) : 2 * (a ^^^ b) = (2 * a) ^^^ (2 * b) := by
  have h := @Nat.shiftLeft_xor_distrib 1 a b
  simp only [Nat.shiftLeft_eq, Nat.pow_one] at h
  rw [Nat.mul_comm 2, Nat.mul_comm 2, Nat.mul_comm 2]
  exact h
theorem mulp (k a b : Nat) : (a ^^^ b) * 2 ^ k = (a * 2 ^ k) ^^^ (b * 2 ^ k) := by
  have h := @Nat.shiftLeft_xor_distrib k a b
  simp only [Nat.shiftLeft_eq] at h
  exact h
theorem divp (k a b : Nat) : (a ^^^ b) / 2 ^ k = (a / 2 ^ k) ^^^ (b / 2 ^ k) := by
  have h := @Nat.shiftRight_xor_distrib k a b
  simp only [Nat.shiftRight_eq_div_pow] at h
  exact h
theorem modp (k a b : Nat) : (a ^^^ b) % 2 ^ k = (a % 2 ^ k) ^^^ (b % 2 ^ k) := Nat.xor_mod_two_pow
theorem xor4 (a b c d : Nat) : (a ^^^ b) ^^^ (c ^^^ d) = (a ^^^ c) ^^^ (b ^^^ d) := by
  rw [Nat.xor_assoc, ← Nat.xor_assoc b c d, Nat.xor_comm b c, Nat.xor_assoc c b d, ← Nat.xor_assoc]
theorem bit_cases (n : Nat) : n % 2 = 0 ∨ n % 2 = 1 := by omega
theorem stepB_xor (n m b c : Nat) (hb : b < 2) (hc : c < 2) : stepB (n ^^^ m) (b ^^^ c) = stepB n b ^^^ stepB m c := by
  unfold stepB
  have e1 : 2 * (n ^^^ m) % 65536 = (2 * n % 65536) ^^^ (2 * m % 65536) := by rw [mul2]; exact modp 16 _ _
  have e2 : (n ^^^ m) / 32768 % 2 = (n / 32768 % 2) ^^^ (m / 32768 % 2) := by
    have q := divp 15 n m
    have q2 := modp 1 (n / 32768) (m / 32768)
    simp only [Nat.pow_one] at q2
    have : (n ^^^ m) / 32768 = (n / 32768) ^^^ (m / 32768) := q
    rw [this, q2]
  rw [e1, e2, xor4]
  congr 1
  have k1 : b = 0 ∨ b = 1 := by omega
  have k2 : c = 0 ∨ c = 1 := by omega
  rcases bit_cases (n / 32768) with h1 | h1 <;> rcases bit_cases (m / 32768) with h2 | h2 <;> rcases k1 with rfl | rfl <;> rcases k2 with rfl | rfl <;> rw [h1, h2] <;> decide
theorem bit_xor (v u k : Nat) : (v ^^^ u) / 2 ^ k % 2 = (v / 2 ^ k % 2) ^^^ (u / 2 ^ k % 2) := by
  rw [divp]
  have q2 := modp 1 (v / 2 ^ k) (u / 2 ^ k)
  simp only [Nat.pow_one] at q2
  exact q2
theorem fold_xor (v u : Nat) : ∀ (l : List Nat) (n m : Nat), l.foldl (fun m k => stepB m ((v ^^^ u) / 2 ^ (7 - k) % 2)) (n ^^^ m) = l.foldl (fun m k => stepB m (v / 2 ^ (7 - k) % 2)) n ^^^ l.foldl (fun m k => stepB m (u / 2 ^ (7 - k) % 2)) m
  | [], _, _ => rfl
  | k :: r, n, m => by
    rw [List.foldl_cons, List.foldl_cons, List.foldl_cons, bit_xor, stepB_xor _ _ _ _ (Nat.mod_lt _ (by decide)) (Nat.mod_lt _ (by decide))]
    exact fold_xor v u r _ _
theorem byteB_xor (n m v u : Nat) : byteB (n ^^^ m) (v ^^^ u) = byteB n v ^^^ byteB m u := fold_xor v u _ n m
theorem byteP_xor (n m v u : Nat) : byteP (n ^^^ m) (v ^^^ u) = byteP n v ^^^ byteP m u := by
  have d8 := divp 8 n m
  have e0 : (n ^^^ m) / 256 ^^^ (v ^^^ u) = (n / 256 ^^^ v) ^^^ (m / 256 ^^^ u) := by
    have : (n ^^^ m) / 256 = (n / 256) ^^^ (m / 256) := d8
    rw [this, xor4]
  unfold byteP
  simp only
  rw [e0]
  generalize n / 256 ^^^ v = t
  generalize m / 256 ^^^ u = s
  have d4 : (t ^^^ s) / 16 = (t / 16) ^^^ (s / 16) := divp 4 t s
  rw [d4, xor4 t s]
  generalize t ^^^ t / 16 = a
  generalize s ^^^ s / 16 = b
  have m8 : (n ^^^ m) * 256 = (n * 256) ^^^ (m * 256) := mulp 8 n m
  have m12 : (a ^^^ b) * 4096 = (a * 4096) ^^^ (b * 4096) := mulp 12 a b
  have m5 : (a ^^^ b) * 32 = (a * 32) ^^^ (b * 32) := mulp 5 a b
  have md : ∀ x y : Nat, (x ^^^ y) % 65536 = (x % 65536) ^^^ (y % 65536) := modp 16
  rw [m8, m12, m5, ← md, xor4 (n * 256), xor4 (n * 256 ^^^ a * 4096), xor4 ((n * 256 ^^^ a * 4096) ^^^ a * 32)]
theorem tab_hi : ((List.range 256).all fun h => byteB (h * 256) 0 == byteP (h * 256) 0) = true := by decide +kernel
theorem tab_lo : ((List.range 256).all fun h => byteB h 0 == byteP h 0) = true := by decide +kernel
theorem tab_v : ((List.range 256).all fun h => byteB 0 h == byteP 0 h) = true := by decide +kernel
theorem of_tab {f g : Nat → Nat} {n k : Nat} (h : ((List.range n).all fun h => f h == g h) = true) (hk : k < n) : f k = g k := by
  rw [List.all_eq_true] at h
  have := h k (List.mem_range.mpr hk)
  exact eq_of_beq this
theorem hi_lo {n : Nat} : n = (n / 256 * 256) ^^^ (n % 256) := by
  apply Nat.eq_of_testBit_eq
  intro i
  have e1 : n / 256 * 256 = (n >>> 8) <<< 8 := by rw [Nat.shiftLeft_eq, Nat.shiftRight_eq_div_pow]
  have e2 : n % 256 = n % 2 ^ 8 := rfl
  rw [Nat.testBit_xor, e1, e2, Nat.testBit_mod_two_pow, Nat.testBit_shiftLeft, Nat.testBit_shiftRight]
  by_cases h : i < 8
  · have : ¬ i ≥ 8 := by omega
    simp [h, this]
  · have : i ≥ 8 := by omega
    have e : 8 + (i - 8) = i := by omega
    simp [h, this, e]
theorem byte_eq {n v : Nat} (hn : n < 65536) (hv : v < 256) : byteB n v = byteP n v := by
  have e := @hi_lo n
  have z : v = 0 ^^^ v := by rw [Nat.zero_xor]
  have z0 : n = n ^^^ 0 := by rw [Nat.xor_zero]
  have a1 : byteB n v = byteB n 0 ^^^ byteB 0 v := by
    have := byteB_xor n 0 0 v
    rw [Nat.xor_zero, Nat.zero_xor] at this
    exact this
  have a2 : byteP n v = byteP n 0 ^^^ byteP 0 v := by
    have := byteP_xor n 0 0 v
    rw [Nat.xor_zero, Nat.zero_xor] at this
    exact this
  have b1 : byteB n 0 = byteB (n / 256 * 256) 0 ^^^ byteB (n % 256) 0 := by
    have := byteB_xor (n / 256 * 256) (n % 256) 0 0
    rw [← e] at this
    exact this
  have b2 : byteP n 0 = byteP (n / 256 * 256) 0 ^^^ byteP (n % 256) 0 := by
    have := byteP_xor (n / 256 * 256) (n % 256) 0 0
    rw [← e] at this
    exact this
  rw [a1, a2, b1, b2, of_tab (f := fun h => byteB (h * 256) 0) (g := fun h => byteP (h * 256) 0) tab_hi (show n / 256 < 256 by omega), of_tab (f := fun h => byteB h 0) (g := fun h => byteP h 0) tab_lo (show n % 256 < 256 by omega), of_tab (f := fun h => byteB 0 h) (g := fun h => byteP 0 h) tab_v hv]
/-! ### whole numbers as natural ones -/
theorem xorN (a b : Nat) : Builtin.bitXor (a : Int) (b : Int) = ((a ^^^ b : Nat) : Int) := by
  rw [Bits.bitXor_pp (Int.natCast_nonneg a) (Int.natCast_nonneg b), Int.toNat_natCast, Int.toNat_natCast]
theorem orN (a b : Nat) : Builtin.bitOr (a : Int) (b : Int) = ((a ||| b : Nat) : Int) := by
  rw [Bits.bitOr_pp (Int.natCast_nonneg a) (Int.natCast_nonneg b), Int.toNat_natCast, Int.toNat_natCast]
theorem andN (a b : Nat) : Builtin.bitAnd (a : Int) (b : Int) = ((a &&& b : Nat) : Int) := by
  rw [bitAnd_pp (Int.natCast_nonneg a) (Int.natCast_nonneg b), Int.toNat_natCast, Int.toNat_natCast]
theorem and65535 (a : Nat) : Builtin.bitAnd (a : Int) 65535 = ((a % 65536 : Nat) : Int) := by
  have h := Bits.bitAnd_mask 16 (Int.natCast_nonneg a)
  have e : (2 : Int) ^ 16 - 1 = 65535 := by decide
  rw [e] at h
  rw [h]
  have e2 : (2 : Int) ^ 16 = 65536 := by decide
  rw [e2]
  omega
theorem and1 (a : Nat) : Builtin.bitAnd (a : Int) 1 = ((a % 2 : Nat) : Int) := by
  have h := Bits.bitAnd_mask 1 (Int.natCast_nonneg a)
  have e : (2 : Int) ^ 1 - 1 = 1 := by decide
  rw [e] at h
  rw [h]
  have e2 : (2 : Int) ^ 1 = 2 := by decide
  rw [e2]
  omega
theorem and255 (a : Nat) : Builtin.bitAnd (a : Int) 255 = ((a % 256 : Nat) : Int) := by
  have h := Bits.bitAnd_mask 8 (Int.natCast_nonneg a)
  have e : (2 : Int) ^ 8 - 1 = 255 := by decide
  rw [e] at h
  rw [h]
  have e2 : (2 : Int) ^ 8 = 256 := by decide
  rw [e2]
  omega
/-- (a | b) - (a & b) -/
theorem or_sub_and (a b : Nat) : Builtin.bitOr (a : Int) (b : Int) - Builtin.bitAnd (a : Int) (b : Int) = ((a ^^^ b : Nat) : Int) := by
  rw [orN, andN]
  have h1 := Bits.nat_xor_add_and a b
  have h2 := nat_or_add_and a b
  omega
/-- a list of bytes -/
def Bytes (ns : List Int) : Prop := ∀ n ∈ ns, 0 ≤ n ∧ n < 256
def crcZ (ns : List Int) : Int := (crcN (ns.map Int.toNat) : Nat)
theorem crcN_lt : ∀ vs : List Nat, crcN vs < 65536 := by
  intro vs
  unfold crcN
  have : ∀ (l : List Nat) (n : Nat), n < 65536 → l.foldl byteP n < 65536 := by
    intro l
    induction l with
    | nil => intro n h; exact h
    | cons a r ih => intro n _; exact ih _ (byteP_lt _ _)
  exact this vs 65535 (by decide)
theorem crcZ_nn (ns : List Int) : 0 ≤ crcZ ns ∧ crcZ ns < 65536 := by
  have := crcN_lt (ns.map Int.toNat)
  unfold crcZ
  omega
theorem take_more {α : Type} : ∀ {l : List α} {i : Nat} {x : α}, l[i]? = some x → l.take (i + 1) = l.take i ++ [x]
  | [], i, x, h => by simp at h
  | a :: l, 0, x, h => by
    have e : a = x := Option.some.inj h
    subst e
    rfl
  | a :: l, i + 1, x, h => by
    have ih := take_more (l := l) (i := i) (x := x) h
    show a :: l.take (i + 1) = a :: l.take i ++ [x]
    rw [ih]
    rfl
theorem crcN_more {ns : List Int} {i : Nat} {v : Nat} (h : ns[i]? = some (v : Int)) : crcN ((ns.take (i + 1)).map Int.toNat) = byteP (crcN ((ns.take i).map Int.toNat)) v := by
  unfold crcN
  rw [take_more h, List.map_append, List.foldl_append]
  simp
theorem ints_at {ns : List Int} {i : Nat} {v : V} (h : (ns.map V.int)[i]? = some v) : ∃ z : Int, v = V.int z ∧ ns[i]? = some z := by
  rw [List.getElem?_map] at h
  cases e : ns[i]? with
  | none => rw [e] at h; cases h
  | some z => rw [e] at h; exact ⟨z, (Option.some.inj h).symm, rfl⟩
theorem bytes_at {ns : List Int} {i : Nat} {z : Int} (hb : Bytes ns) (h : ns[i]? = some z) : ∃ v : Nat, z = (v : Int) ∧ v < 256 := by
  have := hb z (List.mem_of_getElem? h)
  exact ⟨z.toNat, by omega, by omega⟩
def spCrc : Sp := fun vs H Q _ => ∃ (a : Addr) (ns : List Int), vs = [.ref a] ∧ H a = some (IL ns) ∧ Bytes ns ∧ Q (.int (crcZ ns)) H
end Dw
namespace Dw
open PySem PySem.Spec PyProof.Rows L2
theorem zdiv (a k : Nat) : (a : Int) / 2 ^ k = ((a / 2 ^ k : Nat) : Int) := by
  rw [two_pow_cast]
  exact (Int.natCast_ediv _ _).symm
theorem zmul (a k : Nat) : (a : Int) * 2 ^ k = ((a * 2 ^ k : Nat) : Int) := by
  rw [two_pow_cast]
  exact (Int.natCast_mul _ _).symm
def takenN (n v : Nat) : Nat := ((n / 256) ^^^ v) ^^^ (((n / 256) ^^^ v) / 16)
theorem takenZ (n v : Nat) : Builtin.bitXor (Builtin.bitXor ((n : Int) / 256) (v : Int)) (Builtin.bitXor ((n : Int) / 256) (v : Int) / 16) = ((takenN n v : Nat) : Int) := by
  have e1 : (n : Int) / 256 = ((n / 256 : Nat) : Int) := zdiv n 8
  rw [e1, xorN]
  have e2 : ((n / 256 ^^^ v : Nat) : Int) / 16 = (((n / 256 ^^^ v) / 16 : Nat) : Int) := zdiv _ 4
  rw [e2, xorN]
  rfl
theorem takenN_lt {n v : Nat} (hn : n < 65536) (hv : v < 256) : takenN n v < 256 := by
  unfold takenN
  have h1 : n / 256 ^^^ v < 2 ^ 8 := xor_lt (by omega) hv
  exact xor_lt (k := 8) h1 (by omega)
/-- the program's step on whole numbers -/
theorem stepZ (n v : Nat) : Builtin.bitAnd (Builtin.bitXor (Builtin.bitXor (Builtin.bitXor ((n : Int) * 256) ((takenN n v : Int) * 4096)) ((takenN n v : Int) * 32)) (takenN n v : Int)) 65535 = ((byteP n v : Nat) : Int) := by
  have e1 : (n : Int) * 256 = ((n * 256 : Nat) : Int) := zmul n 8
  have e2 : (takenN n v : Int) * 4096 = ((takenN n v * 4096 : Nat) : Int) := zmul _ 12
  have e3 : (takenN n v : Int) * 32 = ((takenN n v * 32 : Nat) : Int) := zmul _ 5
  rw [e1, e2, e3, xorN, xorN, xorN, and65535]
  rfl
end Dw
namespace Dw
open PySem PySem.Spec PyProof.Rows L2
theorem SameB.none {p q r : Addr} {H H' : Hp} (s : SameB p H H') (hP : Pool H' p q) (h : H' r = none) : H r = none := by
  cases e : H r with
  | none => rfl
  | some o =>
    by_cases q : r = p
    · subst q
      obtain ⟨u, hu⟩ := hP.there
      rw [hu] at h; cases h
    · rw [s r o q e] at h; cases h
theorem Pool.upd {H : Hp} {p q r : Addr} {o : HO} (h : Pool H p q) (n : H r = none) : Pool (upd H r o) p q := h.same (same_new n o)
theorem Pool.ups {H : Hp} {p q r : Addr} {o : HO} (h : Pool H p q) (n : p ≠ r) (n2 : q ≠ r) : Pool (L2.upd H r o) p q := by
  obtain ⟨ns, a, b, c, d, h1, h2, h3⟩ := h
  exact ⟨ns, a, b, c, d, by rw [upd_ne n]; exact h1, by rw [upd_ne n2]; exact h2, h3⟩
/-- [e for k in range(..)] of numbers that are drawn -/
theorem lc_pool {p q : Addr} {R : Int → Prop} {lo : Int} {n j : Nat} {te : TE} {vs : List Nat} {σ : L2.St} {H1 : Hp} {D : Addr} {Qd : Hp → Prop} (hn : n ≤ 16777215) (hP : Pool H1 p q) (hD : H1 D = none) (hw : ∀ v, wipe ((wipe σ vs).set j v) vs = wipe σ vs)
    (hte : ∀ i H3 (Q' : VK), i < n → Pool H3 p q → SameB p H1 H3 → (∀ v H4, R v → Pool H4 p q → SameB p H3 H4 → Q' (.int v) H4) → te ((wipe σ vs).set j (some (.int (lo + (i : Nat))))) H3 Q')
    (hd : ∀ ns H', ns.length = n → (∀ v ∈ ns, R v) → Pool H' p q → SameB p H1 H' → H' D = some (IL ns) → Qd H') :
    ∃ W : Nat → Nat → Hp → Prop, (∃ m, W 0 m (L2.upd H1 D (.lst []))) ∧ ∀ i m H, W i m H →
      ((Itr lo n).stop i H ∧ Qd H) ∨ ((Itr lo n).go i H ∧ ∃ Nx : Hp → Prop, (∀ H', Nx H' → ∃ m', m' < m ∧ W (i + 1) m' H') ∧ ∀ x H', (Itr lo n).yld i H x H' → gName j x (wipe σ vs) H' fun σ2 H2 => wipe σ2 vs = wipe σ vs ∧ tYes σ2 H2 fun b H3 =>
        if b = true then te σ2 H3 fun y H4 => ∃ acc, H4 D = some (.lst acc) ∧ acc.length < sizeLine ∧ Nx (L2.upd H4 D (.lst (acc ++ [y]))) else Nx H3) := by
  have hDp : p ≠ D := hP.ne hD
  have hDq : q ≠ D := hP.ne2 hD
  refine lc_range (lo := lo) (n := n) (fun i H' => Pool H' p q ∧ SameB p H1 H' ∧ ∃ ns : List Int, H' D = some (IL ns) ∧ ns.length = i ∧ ∀ v ∈ ns, R v) ⟨hP.upd hD, Same.b (same_new hD _), [], upd_same, rfl, fun v h => by cases h⟩ ?_ ?_
  · intro i H hi h
    obtain ⟨h1, h2, ns, h3, h4, h5⟩ := h
    refine ⟨hw _, ?_⟩
    simp only [tYes, if_true]
    refine hte i H _ hi h1 h2 fun v H4 hR hP4 hs => ?_
    have e : H4 D = some (IL ns) := hs D _ hDp.symm h3
    have ez : ns.map V.int ++ [V.int v] = (ns ++ [v]).map V.int := by rw [List.map_append]; rfl
    refine ⟨ns.map V.int, e, by rw [List.length_map, h4]; exact line_lt (by omega), hP4.ups hDp hDq, ?_, ns ++ [v], ?_, by rw [List.length_append, h4]; rfl, ?_⟩
    · intro b o nb hb
      rw [upd_ne (ne_of_none hb hD)]
      exact hs b o nb (h2 b o nb hb)
    · rw [upd_same, ez]
      rfl
    · intro x hx
      rcases List.mem_append.mp hx with hx | hx
      · exact h5 x hx
      · rw [List.mem_singleton.mp hx]; exact hR
  · intro H h
    obtain ⟨h1, h2, ns, h3, h4, h5⟩ := h
    exact hd ns H h4 h5 h1 h2 h3
/-- drawn bytes: a new list -/
def spSomeBytes : Sp := fun vs H Q _ => ∃ (p q : Addr) (m : Int), vs = [.ref p, .int m] ∧ Pool H p q ∧ 0 ≤ m ∧ m < 100000 ∧ ∀ r ns H', Pool H' p q → SameB p H H' → H r = none → H' r = some (IL ns) → Bytes ns → (ns.length : Int) ≤ m → Q (.ref r) H'
def spOr : Sp := fun vs H Q _ => ∃ a b : Nat, vs = [.int a, .int b] ∧ Q (.int ((a ^^^ b : Nat) : Int)) H
end Dw
namespace Dw
open PySem PySem.Spec PyProof.Rows L2
/-- the first k bits of a byte -/
def byteK (n v k : Nat) : Nat := (List.range k).foldl (fun m k => stepB m (v / 2 ^ (7 - k) % 2)) n
theorem byteK_succ (n v k : Nat) : byteK n v (k + 1) = stepB (byteK n v k) (v / 2 ^ (7 - k) % 2) := by
  unfold byteK
  rw [List.range_succ, List.foldl_append]
  rfl
theorem byteK_lt {n v : Nat} (hn : n < 65536) : ∀ k, byteK n v k < 65536
  | 0 => hn
  | k + 1 => by rw [byteK_succ]; exact stepB_lt _ _
theorem stepB_ne {n b : Nat} (h : n / 32768 % 2 ≠ b) : (2 * n % 65536) ^^^ 4129 = stepB n b := by
  unfold stepB
  rw [if_neg h]
theorem stepB_eq {n b : Nat} (h : n / 32768 % 2 = b) : 2 * n % 65536 = stepB n b := by
  unfold stepB
  rw [if_pos h, Nat.xor_zero]
end Dw
namespace Dw
open PySem PySem.Spec PyProof.Rows L2
theorem dep_int (i : Int) : (PyData.int i).depth < 8 := by simp only [PyData.depth]; decide
theorem sh_int (i : Int) : SeqAt.shaped (PyData.int i) = true := by
  unfold SeqAt.shaped
  simp only [PyData.depth, PyData.canLay0]
  rfl
theorem same_int {i : Int} {H : Hp} {Q : VK} {E : XK} (q : Q (.bl true) H) : spSame 8 [.int i, .int i] H Q E := ⟨_, _, .int i, rfl, .int i, .int i, dep_int i, sh_int i, q⟩
theorem dep_ints (ns : List Int) : (PyData.list (ns.map PyData.int)).depth < 8 := by
  have := depthAll_ints ns
  simp only [PyData.depth]
  omega
theorem same_IL {ns : List Int} {r u : Addr} {H : Hp} {Q : VK} {E : XK} (h1 : H r = some (IL ns)) (h2 : H u = some (IL ns)) (q : Q (.bl true) H) : spSame 8 [.ref r, .ref u] H Q E :=
  ⟨_, _, _, rfl, dt_IL h1, dt_IL h2, dep_ints ns, shaped_ints ns, q⟩
end Dw
namespace Dw
open PySem PySem.Spec PyProof.Rows L2
/-! ### bits -/
/-- the eight bits of a byte, the highest first -/
def bits8 (v : Nat) : List Int := [((v / 128 % 2 : Nat) : Int), ((v / 64 % 2 : Nat) : Int), ((v / 32 % 2 : Nat) : Int), ((v / 16 % 2 : Nat) : Int), ((v / 8 % 2 : Nat) : Int), ((v / 4 % 2 : Nat) : Int), ((v / 2 % 2 : Nat) : Int), ((v % 2 : Nat) : Int)]
def spByteBits : Sp := fun vs H Q _ => ∃ v : Nat, vs = [.int (v : Int)] ∧ v < 256 ∧ ∀ r H', Same H H' → H r = none → H' r = some (IL (bits8 v)) → Q (.ref r) H'
end Dw


namespace Dw
open PySem PySem.Spec PyProof.Rows L2
theorem Same.seqT {K : PySem.W.Frag} {H H' : Hp} {a : Addr} {xs : List V} (e : Same H H') (h : SqT K H a xs) : SqT K H' a xs := by
  rcases h with (h | ⟨o, h⟩) | h
  · exact .inl (.inl (e _ _ h))
  · exact .inl (.inr ⟨o, e _ _ h⟩)
  · exact .inr h
/-! ### comprehensions whose items are ints that hang on the place alone (with a test: F) -/
theorem lc_rangeI {lo : Int} {n : Nat} {f : Nat → Int} {j : Nat} {te : TE} {vs : List Nat} {σ : L2.St} {H1 : Hp} {D : Addr} {Qd : Hp → Prop} (hn : n ≤ 16777215) (hD : H1 D = none) (hw : ∀ v, wipe ((wipe σ vs).set j v) vs = wipe σ vs)
    (hte : ∀ i H3 (Q' : VK), i < n → Same H1 H3 → (∀ H4, Same H3 H4 → Q' (.int (f i)) H4) → te ((wipe σ vs).set j (some (.int (lo + (i : Nat))))) H3 Q')
    (hd : ∀ H', Same H1 H' → H' D = some (IL ((List.range n).map f)) → Qd H') :
    ∃ W : Nat → Nat → Hp → Prop, (∃ m, W 0 m (L2.upd H1 D (.lst []))) ∧ ∀ i m H, W i m H →
      ((Itr lo n).stop i H ∧ Qd H) ∨ ((Itr lo n).go i H ∧ ∃ Nx : Hp → Prop, (∀ H', Nx H' → ∃ m', m' < m ∧ W (i + 1) m' H') ∧ ∀ x H', (Itr lo n).yld i H x H' → gName j x (wipe σ vs) H' fun σ2 H2 => wipe σ2 vs = wipe σ vs ∧ tYes σ2 H2 fun b H3 =>
        if b = true then te σ2 H3 fun y H4 => ∃ acc, H4 D = some (.lst acc) ∧ acc.length < sizeLine ∧ Nx (L2.upd H4 D (.lst (acc ++ [y]))) else Nx H3) := by
  refine lc_range (lo := lo) (n := n) (fun i H' => Same H1 H' ∧ H' D = some (IL ((List.range i).map f))) ⟨same_new hD _, upd_same⟩ ?_ ?_
  · intro i H hi h
    obtain ⟨h1, h2⟩ := h
    refine ⟨hw _, ?_⟩
    simp only [tYes, if_true]
    refine hte i H _ hi h1 fun H4 hs => ?_
    have hlt : i < n := hi
    have e : H4 D = some (IL ((List.range i).map f)) := hs D _ h2
    have ez : ((List.range i).map f).map V.int ++ [V.int (f i)] = ((List.range (i + 1)).map f).map V.int := by rw [List.range_succ, List.map_append, List.map_append]; rfl
    refine ⟨_, e, by rw [List.length_map, List.length_map, List.length_range]; exact line_lt (by omega), fun b o hb => ?_, ?_⟩
    · rw [upd_ne (ne_of_none hb hD)]
      exact hs _ _ (h1 b o hb)
    · rw [upd_same, ez]
      rfl
  · intro H h
    exact hd H h.1 h.2
theorem lc_rangeF {lo : Int} {n : Nat} {f : Nat → Int} {kp : Nat → Bool} {tt : TT} {j : Nat} {te : TE} {vs : List Nat} {σ : L2.St} {H1 : Hp} {D : Addr} {Qd : Hp → Prop} (hn : n ≤ 16777215) (hD : H1 D = none) (hw : ∀ v, wipe ((wipe σ vs).set j v) vs = wipe σ vs)
    (htt : ∀ i H3 (Q' : Bool → Hp → Prop), i < n → Same H1 H3 → (∀ H4, Same H3 H4 → Q' (kp i) H4) → tt ((wipe σ vs).set j (some (.int (lo + (i : Nat))))) H3 Q')
    (hte : ∀ i H3 (Q' : VK), i < n → kp i = true → Same H1 H3 → (∀ H4, Same H3 H4 → Q' (.int (f i)) H4) → te ((wipe σ vs).set j (some (.int (lo + (i : Nat))))) H3 Q')
    (hd : ∀ H', Same H1 H' → H' D = some (IL (((List.range n).filter kp).map f)) → Qd H') :
    ∃ W : Nat → Nat → Hp → Prop, (∃ m, W 0 m (L2.upd H1 D (.lst []))) ∧ ∀ i m H, W i m H →
      ((Itr lo n).stop i H ∧ Qd H) ∨ ((Itr lo n).go i H ∧ ∃ Nx : Hp → Prop, (∀ H', Nx H' → ∃ m', m' < m ∧ W (i + 1) m' H') ∧ ∀ x H', (Itr lo n).yld i H x H' → gName j x (wipe σ vs) H' fun σ2 H2 => wipe σ2 vs = wipe σ vs ∧ tt σ2 H2 fun b H3 =>
        if b = true then te σ2 H3 fun y H4 => ∃ acc, H4 D = some (.lst acc) ∧ acc.length < sizeLine ∧ Nx (L2.upd H4 D (.lst (acc ++ [y]))) else Nx H3) := by
  refine lc_range (lo := lo) (n := n) (fun i H' => Same H1 H' ∧ H' D = some (IL (((List.range i).filter kp).map f))) ⟨same_new hD _, upd_same⟩ ?_ ?_
  · intro i H hi h
    obtain ⟨h1, h2⟩ := h
    refine ⟨hw _, ?_⟩
    refine htt i H _ hi h1 fun H4 hs => ?_
    have hlt : i < n := hi
    by_cases c : kp i = true
    · rw [if_pos c]
      refine hte i H4 _ hi c (h1.trans hs) fun H5 hs5 => ?_
      have e : H5 D = some (IL (((List.range i).filter kp).map f)) := hs5 D _ (hs D _ h2)
      have ez : (((List.range i).filter kp).map f).map V.int ++ [V.int (f i)] = (((List.range (i + 1)).filter kp).map f).map V.int := by
        rw [List.range_succ, List.filter_append, List.map_append, List.map_append]
        simp [c]
      refine ⟨_, e, ?_, fun b o hb => ?_, ?_⟩
      · rw [List.length_map, List.length_map]
        have := List.length_filter_le kp (List.range i)
        rw [List.length_range] at this
        exact line_lt (by omega)
      · rw [upd_ne (ne_of_none hb hD)]
        exact hs5 _ _ (hs _ _ (h1 b o hb))
      · rw [upd_same, ez]
        rfl
    · rw [if_neg c]
      refine ⟨h1.trans hs, ?_⟩
      rw [hs D _ h2, List.range_succ, List.filter_append]
      simp [c]
  · intro H h
    exact hd H h.1 h.2
theorem lc_listI {K : PySem.W.Frag} {a : Addr} {xs : List V} {f : Nat → Int} {j : Nat} {te : TE} {vs : List Nat} {σ : L2.St} {H1 : Hp} {D : Addr} {Qd : Hp → Prop} (hn : xs.length ≤ 16777215) (hS : SqL K H1 a xs) (hD : H1 D = none) (hw : ∀ v, wipe ((wipe σ vs).set j v) vs = wipe σ vs)
    (hte : ∀ i x H3 (Q' : VK), xs[i]? = some x → Same H1 H3 → (∀ H4, Same H3 H4 → Q' (.int (f i)) H4) → te ((wipe σ vs).set j (some (x))) H3 Q')
    (hd : ∀ H', Same H1 H' → H' D = some (IL ((List.range xs.length).map f)) → Qd H') :
    ∃ W : Nat → Nat → Hp → Prop, (∃ m, W 0 m (L2.upd H1 D (.lst []))) ∧ ∀ i m H, W i m H →
      ((Itl K a).stop i H ∧ Qd H) ∨ ((Itl K a).go i H ∧ ∃ Nx : Hp → Prop, (∀ H', Nx H' → ∃ m', m' < m ∧ W (i + 1) m' H') ∧ ∀ x H', (Itl K a).yld i H x H' → gName j x (wipe σ vs) H' fun σ2 H2 => wipe σ2 vs = wipe σ vs ∧ tYes σ2 H2 fun b H3 =>
        if b = true then te σ2 H3 fun y H4 => ∃ acc, H4 D = some (.lst acc) ∧ acc.length < sizeLine ∧ Nx (L2.upd H4 D (.lst (acc ++ [y]))) else Nx H3) := by
  refine lc_list (K := K) (a := a) (xs := xs) (fun i H' => Same H1 H' ∧ H' D = some (IL ((List.range i).map f))) ⟨same_new hD _, upd_same⟩ (fun i H' _ h => ?_) ?_ ?_
  · exact Same.seq h.1 hS
  · intro i x H hi h
    obtain ⟨h1, h2⟩ := h
    refine ⟨hw _, ?_⟩
    simp only [tYes, if_true]
    refine hte i _ H _ hi h1 fun H4 hs => ?_
    have hlt : i < xs.length := (List.getElem?_eq_some_iff.mp hi).1
    have e : H4 D = some (IL ((List.range i).map f)) := hs D _ h2
    have ez : ((List.range i).map f).map V.int ++ [V.int (f i)] = ((List.range (i + 1)).map f).map V.int := by rw [List.range_succ, List.map_append, List.map_append]; rfl
    refine ⟨_, e, by rw [List.length_map, List.length_map, List.length_range]; exact line_lt (by omega), fun b o hb => ?_, ?_⟩
    · rw [upd_ne (ne_of_none hb hD)]
      exact hs _ _ (h1 b o hb)
    · rw [upd_same, ez]
      rfl
  · intro H h
    exact hd H h.1 h.2
theorem lc_listF {K : PySem.W.Frag} {a : Addr} {xs : List V} {f : Nat → Int} {kp : Nat → Bool} {tt : TT} {j : Nat} {te : TE} {vs : List Nat} {σ : L2.St} {H1 : Hp} {D : Addr} {Qd : Hp → Prop} (hn : xs.length ≤ 16777215) (hS : SqL K H1 a xs) (hD : H1 D = none) (hw : ∀ v, wipe ((wipe σ vs).set j v) vs = wipe σ vs)
    (htt : ∀ i x H3 (Q' : Bool → Hp → Prop), xs[i]? = some x → Same H1 H3 → (∀ H4, Same H3 H4 → Q' (kp i) H4) → tt ((wipe σ vs).set j (some (x))) H3 Q')
    (hte : ∀ i x H3 (Q' : VK), xs[i]? = some x → kp i = true → Same H1 H3 → (∀ H4, Same H3 H4 → Q' (.int (f i)) H4) → te ((wipe σ vs).set j (some (x))) H3 Q')
    (hd : ∀ H', Same H1 H' → H' D = some (IL (((List.range xs.length).filter kp).map f)) → Qd H') :
    ∃ W : Nat → Nat → Hp → Prop, (∃ m, W 0 m (L2.upd H1 D (.lst []))) ∧ ∀ i m H, W i m H →
      ((Itl K a).stop i H ∧ Qd H) ∨ ((Itl K a).go i H ∧ ∃ Nx : Hp → Prop, (∀ H', Nx H' → ∃ m', m' < m ∧ W (i + 1) m' H') ∧ ∀ x H', (Itl K a).yld i H x H' → gName j x (wipe σ vs) H' fun σ2 H2 => wipe σ2 vs = wipe σ vs ∧ tt σ2 H2 fun b H3 =>
        if b = true then te σ2 H3 fun y H4 => ∃ acc, H4 D = some (.lst acc) ∧ acc.length < sizeLine ∧ Nx (L2.upd H4 D (.lst (acc ++ [y]))) else Nx H3) := by
  refine lc_list (K := K) (a := a) (xs := xs) (fun i H' => Same H1 H' ∧ H' D = some (IL (((List.range i).filter kp).map f))) ⟨same_new hD _, upd_same⟩ (fun i H' _ h => ?_) ?_ ?_
  · exact Same.seq h.1 hS
  · intro i x H hi h
    obtain ⟨h1, h2⟩ := h
    refine ⟨hw _, ?_⟩
    refine htt i _ H _ hi h1 fun H4 hs => ?_
    have hlt : i < xs.length := (List.getElem?_eq_some_iff.mp hi).1
    by_cases c : kp i = true
    · rw [if_pos c]
      refine hte i _ H4 _ hi c (h1.trans hs) fun H5 hs5 => ?_
      have e : H5 D = some (IL (((List.range i).filter kp).map f)) := hs5 D _ (hs D _ h2)
      have ez : (((List.range i).filter kp).map f).map V.int ++ [V.int (f i)] = (((List.range (i + 1)).filter kp).map f).map V.int := by
        rw [List.range_succ, List.filter_append, List.map_append, List.map_append]
        simp [c]
      refine ⟨_, e, ?_, fun b o hb => ?_, ?_⟩
      · rw [List.length_map, List.length_map]
        have := List.length_filter_le kp (List.range i)
        rw [List.length_range] at this
        exact line_lt (by omega)
      · rw [upd_ne (ne_of_none hb hD)]
        exact hs5 _ _ (hs _ _ (h1 b o hb))
      · rw [upd_same, ez]
        rfl
    · rw [if_neg c]
      refine ⟨h1.trans hs, ?_⟩
      rw [hs D _ h2, List.range_succ, List.filter_append]
      simp [c]
  · intro H h
    exact hd H h.1 h.2
theorem lc_tupI {K : PySem.W.Frag} {a : Addr} {xs : List V} {f : Nat → Int} {j : Nat} {te : TE} {vs : List Nat} {σ : L2.St} {H1 : Hp} {D : Addr} {Qd : Hp → Prop} (hn : xs.length ≤ 16777215) (hS : SqT K H1 a xs) (hD : H1 D = none) (hw : ∀ v, wipe ((wipe σ vs).set j v) vs = wipe σ vs)
    (hte : ∀ i x H3 (Q' : VK), xs[i]? = some x → Same H1 H3 → (∀ H4, Same H3 H4 → Q' (.int (f i)) H4) → te ((wipe σ vs).set j (some (x))) H3 Q')
    (hd : ∀ H', Same H1 H' → H' D = some (IL ((List.range xs.length).map f)) → Qd H') :
    ∃ W : Nat → Nat → Hp → Prop, (∃ m, W 0 m (L2.upd H1 D (.lst []))) ∧ ∀ i m H, W i m H →
      ((Itt K a).stop i H ∧ Qd H) ∨ ((Itt K a).go i H ∧ ∃ Nx : Hp → Prop, (∀ H', Nx H' → ∃ m', m' < m ∧ W (i + 1) m' H') ∧ ∀ x H', (Itt K a).yld i H x H' → gName j x (wipe σ vs) H' fun σ2 H2 => wipe σ2 vs = wipe σ vs ∧ tYes σ2 H2 fun b H3 =>
        if b = true then te σ2 H3 fun y H4 => ∃ acc, H4 D = some (.lst acc) ∧ acc.length < sizeLine ∧ Nx (L2.upd H4 D (.lst (acc ++ [y]))) else Nx H3) := by
  refine lc_tup (K := K) (a := a) (xs := xs) (fun i H' => Same H1 H' ∧ H' D = some (IL ((List.range i).map f))) ⟨same_new hD _, upd_same⟩ (fun i H' _ h => ?_) ?_ ?_
  · exact Same.seqT h.1 hS
  · intro i x H hi h
    obtain ⟨h1, h2⟩ := h
    refine ⟨hw _, ?_⟩
    simp only [tYes, if_true]
    refine hte i _ H _ hi h1 fun H4 hs => ?_
    have hlt : i < xs.length := (List.getElem?_eq_some_iff.mp hi).1
    have e : H4 D = some (IL ((List.range i).map f)) := hs D _ h2
    have ez : ((List.range i).map f).map V.int ++ [V.int (f i)] = ((List.range (i + 1)).map f).map V.int := by rw [List.range_succ, List.map_append, List.map_append]; rfl
    refine ⟨_, e, by rw [List.length_map, List.length_map, List.length_range]; exact line_lt (by omega), fun b o hb => ?_, ?_⟩
    · rw [upd_ne (ne_of_none hb hD)]
      exact hs _ _ (h1 b o hb)
    · rw [upd_same, ez]
      rfl
  · intro H h
    exact hd H h.1 h.2
theorem lc_tupF {K : PySem.W.Frag} {a : Addr} {xs : List V} {f : Nat → Int} {kp : Nat → Bool} {tt : TT} {j : Nat} {te : TE} {vs : List Nat} {σ : L2.St} {H1 : Hp} {D : Addr} {Qd : Hp → Prop} (hn : xs.length ≤ 16777215) (hS : SqT K H1 a xs) (hD : H1 D = none) (hw : ∀ v, wipe ((wipe σ vs).set j v) vs = wipe σ vs)
    (htt : ∀ i x H3 (Q' : Bool → Hp → Prop), xs[i]? = some x → Same H1 H3 → (∀ H4, Same H3 H4 → Q' (kp i) H4) → tt ((wipe σ vs).set j (some (x))) H3 Q')
    (hte : ∀ i x H3 (Q' : VK), xs[i]? = some x → kp i = true → Same H1 H3 → (∀ H4, Same H3 H4 → Q' (.int (f i)) H4) → te ((wipe σ vs).set j (some (x))) H3 Q')
    (hd : ∀ H', Same H1 H' → H' D = some (IL (((List.range xs.length).filter kp).map f)) → Qd H') :
    ∃ W : Nat → Nat → Hp → Prop, (∃ m, W 0 m (L2.upd H1 D (.lst []))) ∧ ∀ i m H, W i m H →
      ((Itt K a).stop i H ∧ Qd H) ∨ ((Itt K a).go i H ∧ ∃ Nx : Hp → Prop, (∀ H', Nx H' → ∃ m', m' < m ∧ W (i + 1) m' H') ∧ ∀ x H', (Itt K a).yld i H x H' → gName j x (wipe σ vs) H' fun σ2 H2 => wipe σ2 vs = wipe σ vs ∧ tt σ2 H2 fun b H3 =>
        if b = true then te σ2 H3 fun y H4 => ∃ acc, H4 D = some (.lst acc) ∧ acc.length < sizeLine ∧ Nx (L2.upd H4 D (.lst (acc ++ [y]))) else Nx H3) := by
  refine lc_tup (K := K) (a := a) (xs := xs) (fun i H' => Same H1 H' ∧ H' D = some (IL (((List.range i).filter kp).map f))) ⟨same_new hD _, upd_same⟩ (fun i H' _ h => ?_) ?_ ?_
  · exact Same.seqT h.1 hS
  · intro i x H hi h
    obtain ⟨h1, h2⟩ := h
    refine ⟨hw _, ?_⟩
    refine htt i _ H _ hi h1 fun H4 hs => ?_
    have hlt : i < xs.length := (List.getElem?_eq_some_iff.mp hi).1
    by_cases c : kp i = true
    · rw [if_pos c]
      refine hte i _ H4 _ hi c (h1.trans hs) fun H5 hs5 => ?_
      have e : H5 D = some (IL (((List.range i).filter kp).map f)) := hs5 D _ (hs D _ h2)
      have ez : (((List.range i).filter kp).map f).map V.int ++ [V.int (f i)] = (((List.range (i + 1)).filter kp).map f).map V.int := by
        rw [List.range_succ, List.filter_append, List.map_append, List.map_append]
        simp [c]
      refine ⟨_, e, ?_, fun b o hb => ?_, ?_⟩
      · rw [List.length_map, List.length_map]
        have := List.length_filter_le kp (List.range i)
        rw [List.length_range] at this
        exact line_lt (by omega)
      · rw [upd_ne (ne_of_none hb hD)]
        exact hs5 _ _ (hs _ _ (h1 b o hb))
      · rw [upd_same, ez]
        rfl
    · rw [if_neg c]
      refine ⟨h1.trans hs, ?_⟩
      rw [hs D _ h2, List.range_succ, List.filter_append]
      simp [c]
  · intro H h
    exact hd H h.1 h.2
/-! ### .. any values -/
theorem lc_rangeV {lo : Int} {n : Nat} {f : Nat → V} {j : Nat} {te : TE} {vs : List Nat} {σ : L2.St} {H1 : Hp} {D : Addr} {Qd : Hp → Prop} (hn : n ≤ 16777215) (hD : H1 D = none) (hw : ∀ v, wipe ((wipe σ vs).set j v) vs = wipe σ vs)
    (hte : ∀ i H3 (Q' : VK), i < n → Same H1 H3 → (∀ H4, Same H3 H4 → Q' (f i) H4) → te ((wipe σ vs).set j (some (.int (lo + (i : Nat))))) H3 Q')
    (hd : ∀ H', Same H1 H' → H' D = some (.lst ((List.range n).map f)) → Qd H') :
    ∃ W : Nat → Nat → Hp → Prop, (∃ m, W 0 m (L2.upd H1 D (.lst []))) ∧ ∀ i m H, W i m H →
      ((Itr lo n).stop i H ∧ Qd H) ∨ ((Itr lo n).go i H ∧ ∃ Nx : Hp → Prop, (∀ H', Nx H' → ∃ m', m' < m ∧ W (i + 1) m' H') ∧ ∀ x H', (Itr lo n).yld i H x H' → gName j x (wipe σ vs) H' fun σ2 H2 => wipe σ2 vs = wipe σ vs ∧ tYes σ2 H2 fun b H3 =>
        if b = true then te σ2 H3 fun y H4 => ∃ acc, H4 D = some (.lst acc) ∧ acc.length < sizeLine ∧ Nx (L2.upd H4 D (.lst (acc ++ [y]))) else Nx H3) := by
  refine lc_range (lo := lo) (n := n) (fun i H' => Same H1 H' ∧ H' D = some (.lst ((List.range i).map f))) ⟨same_new hD _, upd_same⟩ ?_ ?_
  · intro i H hi h
    obtain ⟨h1, h2⟩ := h
    refine ⟨hw _, ?_⟩
    simp only [tYes, if_true]
    refine hte i H _ hi h1 fun H4 hs => ?_
    have hlt : i < n := hi
    have e : H4 D = some (.lst ((List.range i).map f)) := hs D _ h2
    have ez : ((List.range i).map f) ++ [f i] = ((List.range (i + 1)).map f) := by rw [List.range_succ, List.map_append]; rfl
    refine ⟨_, e, by rw [List.length_map, List.length_range]; exact line_lt (by omega), fun b o hb => ?_, ?_⟩
    · rw [upd_ne (ne_of_none hb hD)]
      exact hs _ _ (h1 b o hb)
    · rw [upd_same, ez]
  · intro H h
    exact hd H h.1 h.2
theorem lc_rangeVF {lo : Int} {n : Nat} {f : Nat → V} {kp : Nat → Bool} {tt : TT} {j : Nat} {te : TE} {vs : List Nat} {σ : L2.St} {H1 : Hp} {D : Addr} {Qd : Hp → Prop} (hn : n ≤ 16777215) (hD : H1 D = none) (hw : ∀ v, wipe ((wipe σ vs).set j v) vs = wipe σ vs)
    (htt : ∀ i H3 (Q' : Bool → Hp → Prop), i < n → Same H1 H3 → (∀ H4, Same H3 H4 → Q' (kp i) H4) → tt ((wipe σ vs).set j (some (.int (lo + (i : Nat))))) H3 Q')
    (hte : ∀ i H3 (Q' : VK), i < n → kp i = true → Same H1 H3 → (∀ H4, Same H3 H4 → Q' (f i) H4) → te ((wipe σ vs).set j (some (.int (lo + (i : Nat))))) H3 Q')
    (hd : ∀ H', Same H1 H' → H' D = some (.lst (((List.range n).filter kp).map f)) → Qd H') :
    ∃ W : Nat → Nat → Hp → Prop, (∃ m, W 0 m (L2.upd H1 D (.lst []))) ∧ ∀ i m H, W i m H →
      ((Itr lo n).stop i H ∧ Qd H) ∨ ((Itr lo n).go i H ∧ ∃ Nx : Hp → Prop, (∀ H', Nx H' → ∃ m', m' < m ∧ W (i + 1) m' H') ∧ ∀ x H', (Itr lo n).yld i H x H' → gName j x (wipe σ vs) H' fun σ2 H2 => wipe σ2 vs = wipe σ vs ∧ tt σ2 H2 fun b H3 =>
        if b = true then te σ2 H3 fun y H4 => ∃ acc, H4 D = some (.lst acc) ∧ acc.length < sizeLine ∧ Nx (L2.upd H4 D (.lst (acc ++ [y]))) else Nx H3) := by
  refine lc_range (lo := lo) (n := n) (fun i H' => Same H1 H' ∧ H' D = some (.lst (((List.range i).filter kp).map f))) ⟨same_new hD _, upd_same⟩ ?_ ?_
  · intro i H hi h
    obtain ⟨h1, h2⟩ := h
    refine ⟨hw _, ?_⟩
    refine htt i H _ hi h1 fun H4 hs => ?_
    have hlt : i < n := hi
    by_cases c : kp i = true
    · rw [if_pos c]
      refine hte i H4 _ hi c (h1.trans hs) fun H5 hs5 => ?_
      have e : H5 D = some (.lst (((List.range i).filter kp).map f)) := hs5 D _ (hs D _ h2)
      have ez : (((List.range i).filter kp).map f) ++ [f i] = (((List.range (i + 1)).filter kp).map f) := by
        rw [List.range_succ, List.filter_append, List.map_append]
        simp [c]
      refine ⟨_, e, ?_, fun b o hb => ?_, ?_⟩
      · rw [List.length_map]
        have := List.length_filter_le kp (List.range i)
        rw [List.length_range] at this
        exact line_lt (by omega)
      · rw [upd_ne (ne_of_none hb hD)]
        exact hs5 _ _ (hs _ _ (h1 b o hb))
      · rw [upd_same, ez]
    · rw [if_neg c]
      refine ⟨h1.trans hs, ?_⟩
      rw [hs D _ h2, List.range_succ, List.filter_append]
      simp [c]
  · intro H h
    exact hd H h.1 h.2
theorem lc_listV {K : PySem.W.Frag} {a : Addr} {xs : List V} {f : Nat → V} {j : Nat} {te : TE} {vs : List Nat} {σ : L2.St} {H1 : Hp} {D : Addr} {Qd : Hp → Prop} (hn : xs.length ≤ 16777215) (hS : SqL K H1 a xs) (hD : H1 D = none) (hw : ∀ v, wipe ((wipe σ vs).set j v) vs = wipe σ vs)
    (hte : ∀ i x H3 (Q' : VK), xs[i]? = some x → Same H1 H3 → (∀ H4, Same H3 H4 → Q' (f i) H4) → te ((wipe σ vs).set j (some (x))) H3 Q')
    (hd : ∀ H', Same H1 H' → H' D = some (.lst ((List.range xs.length).map f)) → Qd H') :
    ∃ W : Nat → Nat → Hp → Prop, (∃ m, W 0 m (L2.upd H1 D (.lst []))) ∧ ∀ i m H, W i m H →
      ((Itl K a).stop i H ∧ Qd H) ∨ ((Itl K a).go i H ∧ ∃ Nx : Hp → Prop, (∀ H', Nx H' → ∃ m', m' < m ∧ W (i + 1) m' H') ∧ ∀ x H', (Itl K a).yld i H x H' → gName j x (wipe σ vs) H' fun σ2 H2 => wipe σ2 vs = wipe σ vs ∧ tYes σ2 H2 fun b H3 =>
        if b = true then te σ2 H3 fun y H4 => ∃ acc, H4 D = some (.lst acc) ∧ acc.length < sizeLine ∧ Nx (L2.upd H4 D (.lst (acc ++ [y]))) else Nx H3) := by
  refine lc_list (K := K) (a := a) (xs := xs) (fun i H' => Same H1 H' ∧ H' D = some (.lst ((List.range i).map f))) ⟨same_new hD _, upd_same⟩ (fun i H' _ h => ?_) ?_ ?_
  · exact Same.seq h.1 hS
  · intro i x H hi h
    obtain ⟨h1, h2⟩ := h
    refine ⟨hw _, ?_⟩
    simp only [tYes, if_true]
    refine hte i _ H _ hi h1 fun H4 hs => ?_
    have hlt : i < xs.length := (List.getElem?_eq_some_iff.mp hi).1
    have e : H4 D = some (.lst ((List.range i).map f)) := hs D _ h2
    have ez : ((List.range i).map f) ++ [f i] = ((List.range (i + 1)).map f) := by rw [List.range_succ, List.map_append]; rfl
    refine ⟨_, e, by rw [List.length_map, List.length_range]; exact line_lt (by omega), fun b o hb => ?_, ?_⟩
    · rw [upd_ne (ne_of_none hb hD)]
      exact hs _ _ (h1 b o hb)
    · rw [upd_same, ez]
  · intro H h
    exact hd H h.1 h.2
theorem lc_listVF {K : PySem.W.Frag} {a : Addr} {xs : List V} {f : Nat → V} {kp : Nat → Bool} {tt : TT} {j : Nat} {te : TE} {vs : List Nat} {σ : L2.St} {H1 : Hp} {D : Addr} {Qd : Hp → Prop} (hn : xs.length ≤ 16777215) (hS : SqL K H1 a xs) (hD : H1 D = none) (hw : ∀ v, wipe ((wipe σ vs).set j v) vs = wipe σ vs)
    (htt : ∀ i x H3 (Q' : Bool → Hp → Prop), xs[i]? = some x → Same H1 H3 → (∀ H4, Same H3 H4 → Q' (kp i) H4) → tt ((wipe σ vs).set j (some (x))) H3 Q')
    (hte : ∀ i x H3 (Q' : VK), xs[i]? = some x → kp i = true → Same H1 H3 → (∀ H4, Same H3 H4 → Q' (f i) H4) → te ((wipe σ vs).set j (some (x))) H3 Q')
    (hd : ∀ H', Same H1 H' → H' D = some (.lst (((List.range xs.length).filter kp).map f)) → Qd H') :
    ∃ W : Nat → Nat → Hp → Prop, (∃ m, W 0 m (L2.upd H1 D (.lst []))) ∧ ∀ i m H, W i m H →
      ((Itl K a).stop i H ∧ Qd H) ∨ ((Itl K a).go i H ∧ ∃ Nx : Hp → Prop, (∀ H', Nx H' → ∃ m', m' < m ∧ W (i + 1) m' H') ∧ ∀ x H', (Itl K a).yld i H x H' → gName j x (wipe σ vs) H' fun σ2 H2 => wipe σ2 vs = wipe σ vs ∧ tt σ2 H2 fun b H3 =>
        if b = true then te σ2 H3 fun y H4 => ∃ acc, H4 D = some (.lst acc) ∧ acc.length < sizeLine ∧ Nx (L2.upd H4 D (.lst (acc ++ [y]))) else Nx H3) := by
  refine lc_list (K := K) (a := a) (xs := xs) (fun i H' => Same H1 H' ∧ H' D = some (.lst (((List.range i).filter kp).map f))) ⟨same_new hD _, upd_same⟩ (fun i H' _ h => ?_) ?_ ?_
  · exact Same.seq h.1 hS
  · intro i x H hi h
    obtain ⟨h1, h2⟩ := h
    refine ⟨hw _, ?_⟩
    refine htt i _ H _ hi h1 fun H4 hs => ?_
    have hlt : i < xs.length := (List.getElem?_eq_some_iff.mp hi).1
    by_cases c : kp i = true
    · rw [if_pos c]
      refine hte i _ H4 _ hi c (h1.trans hs) fun H5 hs5 => ?_
      have e : H5 D = some (.lst (((List.range i).filter kp).map f)) := hs5 D _ (hs D _ h2)
      have ez : (((List.range i).filter kp).map f) ++ [f i] = (((List.range (i + 1)).filter kp).map f) := by
        rw [List.range_succ, List.filter_append, List.map_append]
        simp [c]
      refine ⟨_, e, ?_, fun b o hb => ?_, ?_⟩
      · rw [List.length_map]
        have := List.length_filter_le kp (List.range i)
        rw [List.length_range] at this
        exact line_lt (by omega)
      · rw [upd_ne (ne_of_none hb hD)]
        exact hs5 _ _ (hs _ _ (h1 b o hb))
      · rw [upd_same, ez]
    · rw [if_neg c]
      refine ⟨h1.trans hs, ?_⟩
      rw [hs D _ h2, List.range_succ, List.filter_append]
      simp [c]
  · intro H h
    exact hd H h.1 h.2
theorem lc_tupV {K : PySem.W.Frag} {a : Addr} {xs : List V} {f : Nat → V} {j : Nat} {te : TE} {vs : List Nat} {σ : L2.St} {H1 : Hp} {D : Addr} {Qd : Hp → Prop} (hn : xs.length ≤ 16777215) (hS : SqT K H1 a xs) (hD : H1 D = none) (hw : ∀ v, wipe ((wipe σ vs).set j v) vs = wipe σ vs)
    (hte : ∀ i x H3 (Q' : VK), xs[i]? = some x → Same H1 H3 → (∀ H4, Same H3 H4 → Q' (f i) H4) → te ((wipe σ vs).set j (some (x))) H3 Q')
    (hd : ∀ H', Same H1 H' → H' D = some (.lst ((List.range xs.length).map f)) → Qd H') :
    ∃ W : Nat → Nat → Hp → Prop, (∃ m, W 0 m (L2.upd H1 D (.lst []))) ∧ ∀ i m H, W i m H →
      ((Itt K a).stop i H ∧ Qd H) ∨ ((Itt K a).go i H ∧ ∃ Nx : Hp → Prop, (∀ H', Nx H' → ∃ m', m' < m ∧ W (i + 1) m' H') ∧ ∀ x H', (Itt K a).yld i H x H' → gName j x (wipe σ vs) H' fun σ2 H2 => wipe σ2 vs = wipe σ vs ∧ tYes σ2 H2 fun b H3 =>
        if b = true then te σ2 H3 fun y H4 => ∃ acc, H4 D = some (.lst acc) ∧ acc.length < sizeLine ∧ Nx (L2.upd H4 D (.lst (acc ++ [y]))) else Nx H3) := by
  refine lc_tup (K := K) (a := a) (xs := xs) (fun i H' => Same H1 H' ∧ H' D = some (.lst ((List.range i).map f))) ⟨same_new hD _, upd_same⟩ (fun i H' _ h => ?_) ?_ ?_
  · exact Same.seqT h.1 hS
  · intro i x H hi h
    obtain ⟨h1, h2⟩ := h
    refine ⟨hw _, ?_⟩
    simp only [tYes, if_true]
    refine hte i _ H _ hi h1 fun H4 hs => ?_
    have hlt : i < xs.length := (List.getElem?_eq_some_iff.mp hi).1
    have e : H4 D = some (.lst ((List.range i).map f)) := hs D _ h2
    have ez : ((List.range i).map f) ++ [f i] = ((List.range (i + 1)).map f) := by rw [List.range_succ, List.map_append]; rfl
    refine ⟨_, e, by rw [List.length_map, List.length_range]; exact line_lt (by omega), fun b o hb => ?_, ?_⟩
    · rw [upd_ne (ne_of_none hb hD)]
      exact hs _ _ (h1 b o hb)
    · rw [upd_same, ez]
  · intro H h
    exact hd H h.1 h.2
theorem lc_tupVF {K : PySem.W.Frag} {a : Addr} {xs : List V} {f : Nat → V} {kp : Nat → Bool} {tt : TT} {j : Nat} {te : TE} {vs : List Nat} {σ : L2.St} {H1 : Hp} {D : Addr} {Qd : Hp → Prop} (hn : xs.length ≤ 16777215) (hS : SqT K H1 a xs) (hD : H1 D = none) (hw : ∀ v, wipe ((wipe σ vs).set j v) vs = wipe σ vs)
    (htt : ∀ i x H3 (Q' : Bool → Hp → Prop), xs[i]? = some x → Same H1 H3 → (∀ H4, Same H3 H4 → Q' (kp i) H4) → tt ((wipe σ vs).set j (some (x))) H3 Q')
    (hte : ∀ i x H3 (Q' : VK), xs[i]? = some x → kp i = true → Same H1 H3 → (∀ H4, Same H3 H4 → Q' (f i) H4) → te ((wipe σ vs).set j (some (x))) H3 Q')
    (hd : ∀ H', Same H1 H' → H' D = some (.lst (((List.range xs.length).filter kp).map f)) → Qd H') :
    ∃ W : Nat → Nat → Hp → Prop, (∃ m, W 0 m (L2.upd H1 D (.lst []))) ∧ ∀ i m H, W i m H →
      ((Itt K a).stop i H ∧ Qd H) ∨ ((Itt K a).go i H ∧ ∃ Nx : Hp → Prop, (∀ H', Nx H' → ∃ m', m' < m ∧ W (i + 1) m' H') ∧ ∀ x H', (Itt K a).yld i H x H' → gName j x (wipe σ vs) H' fun σ2 H2 => wipe σ2 vs = wipe σ vs ∧ tt σ2 H2 fun b H3 =>
        if b = true then te σ2 H3 fun y H4 => ∃ acc, H4 D = some (.lst acc) ∧ acc.length < sizeLine ∧ Nx (L2.upd H4 D (.lst (acc ++ [y]))) else Nx H3) := by
  refine lc_tup (K := K) (a := a) (xs := xs) (fun i H' => Same H1 H' ∧ H' D = some (.lst (((List.range i).filter kp).map f))) ⟨same_new hD _, upd_same⟩ (fun i H' _ h => ?_) ?_ ?_
  · exact Same.seqT h.1 hS
  · intro i x H hi h
    obtain ⟨h1, h2⟩ := h
    refine ⟨hw _, ?_⟩
    refine htt i _ H _ hi h1 fun H4 hs => ?_
    have hlt : i < xs.length := (List.getElem?_eq_some_iff.mp hi).1
    by_cases c : kp i = true
    · rw [if_pos c]
      refine hte i _ H4 _ hi c (h1.trans hs) fun H5 hs5 => ?_
      have e : H5 D = some (.lst (((List.range i).filter kp).map f)) := hs5 D _ (hs D _ h2)
      have ez : (((List.range i).filter kp).map f) ++ [f i] = (((List.range (i + 1)).filter kp).map f) := by
        rw [List.range_succ, List.filter_append, List.map_append]
        simp [c]
      refine ⟨_, e, ?_, fun b o hb => ?_, ?_⟩
      · rw [List.length_map]
        have := List.length_filter_le kp (List.range i)
        rw [List.length_range] at this
        exact line_lt (by omega)
      · rw [upd_ne (ne_of_none hb hD)]
        exact hs5 _ _ (hs _ _ (h1 b o hb))
      · rw [upd_same, ez]
    · rw [if_neg c]
      refine ⟨h1.trans hs, ?_⟩
      rw [hs D _ h2, List.range_succ, List.filter_append]
      simp [c]
  · intro H h
    exact hd H h.1 h.2
def BL (bs : List Bool) : HO := .lst (bs.map V.bl)
def rAllB : List V → Hp → VK → Prop := fun vs H Q => ∃ (a : Addr) (bs : List Bool), vs = [V.ref a] ∧ H a = some (BL bs) ∧ Q (.bl (bs.all id)) H
def rAnyB : List V → Hp → VK → Prop := fun vs H Q => ∃ (a : Addr) (bs : List Bool), vs = [V.ref a] ∧ H a = some (BL bs) ∧ Q (.bl (bs.any id)) H
theorem cr_allB {X : Cx} (hc : X.calm = true) : CallR X (.builtin "all") rAllB := CallR.imp (cr_all hc) fun xs H Q h => by
  obtain ⟨a, bs, e, h1, q⟩ := h
  exact ⟨a, bs, e, .of h1, q⟩
theorem cr_anyB {X : Cx} (hc : X.calm = true) : CallR X (.builtin "any") rAnyB := CallR.imp (cr_any hc) fun xs H Q h => by
  obtain ⟨a, bs, e, h1, q⟩ := h
  exact ⟨a, bs, e, .of h1, q⟩
theorem BL_inj {a b : List Bool} : (BL a = BL b) = (a = b) := by
  apply propext
  constructor
  · intro h
    unfold BL at h
    injection h with h
    exact List.map_inj_right (fun x y e => V.bl.inj e) |>.mp h
  · intro h
    rw [h]
theorem BL_of {H : Hp} {D : Addr} {n : Nat} {f : Nat → Bool} (h : H D = some (.lst ((List.range n).map fun i => V.bl (f i)))) : H D = some (BL ((List.range n).map f)) := by
  rw [h]
  unfold BL
  rw [List.map_map]
  rfl
/-- all of the items of a list, by their places -/
theorem all_items {ns : List Int} {p : Int → Bool} : (((List.range ns.length).map fun i => p (ns.getD i 0)).all id) = ns.all p := by
  induction ns with
  | nil => rfl
  | cons n r ih =>
    rw [List.length_cons, List.range_succ_eq_map, List.map_cons, List.map_map, List.all_cons, List.all_cons, ← ih]
    rfl
end Dw

namespace Dw
open PySem PySem.Spec PyProof.Rows L2
/-- what the top says of an own error class over ValueError, without an __init__ of its own -/
structure ExcF (K : PySem.W.Frag) (mg : Str → Option Value) (x : Str) (C : Addr) : Prop where
  g : mg x = some (.ref C)
  x : PySem.W.excIn K C [.type "ValueError", .type "Exception", .type "BaseException", .type "object"] "ValueError.__new__" = true
  k : PySem.W.keepIn K (.ref C) = true
  b : PySem.W.subIn K (.ref C) (.type "BaseException") = some true
  t : PySem.W.typeIn K (.ref C) = some (.type "type")
  e : PySem.W.exmOne K (.ref C) (.ref C) = some true
theorem exm_selfD {K : PySem.W.Frag} {S : Addr} (h1 : PySem.W.subIn K (.ref S) (.type "BaseException") = some true) (h2 : PySem.W.isClsIn K S = true) (h3 : PySem.W.typeIn K (.ref S) = some (.type "type")) (h4 : PySem.W.subIn K (.ref S) (.ref S) = some true) :
    PySem.W.exmOne K (.ref S) (.ref S) = some true := by
  have e1 : (PySem.W.subIn K (.ref S) (.type "BaseException") == some true) = true := by rw [h1] <;> rfl
  have e2 : ((PySem.W.clsIn K S).isSome && PySem.W.typeIn K (.ref S) == some (.type "type")) = true := by
    have h2' : (PySem.W.clsIn K S).isSome = true := h2
    rw [h2', h3] <;> rfl
  show (if (PySem.W.subIn K (.ref S) (.type "BaseException") == some true) = true then (if ((PySem.W.clsIn K S).isSome && PySem.W.typeIn K (.ref S) == some (.type "type")) = true then PySem.W.subIn K (.ref S) (.ref S) else none) else none) = some true
  rw [if_pos e1, if_pos e2]
  exact h4
/-- an error of another class C, asked for the class S -/
theorem exm_otherD {K : PySem.W.Frag} {C S : Addr} {b : Bool} (h1 : PySem.W.subIn K (.ref S) (.type "BaseException") = some true) (h2 : PySem.W.isClsIn K S = true) (h3 : PySem.W.typeIn K (.ref S) = some (.type "type")) (h4 : PySem.W.subIn K (.ref C) (.ref S) = some b) :
    PySem.W.exmOne K (.ref C) (.ref S) = some b := by
  have e1 : (PySem.W.subIn K (.ref S) (.type "BaseException") == some true) = true := by rw [h1] <;> rfl
  have e2 : ((PySem.W.clsIn K S).isSome && PySem.W.typeIn K (.ref S) == some (.type "type")) = true := by
    have h2' : (PySem.W.clsIn K S).isSome = true := h2
    rw [h2', h3] <;> rfl
  show (if (PySem.W.subIn K (.ref S) (.type "BaseException") == some true) = true then (if ((PySem.W.clsIn K S).isSome && PySem.W.typeIn K (.ref S) == some (.type "type")) = true then PySem.W.subIn K (.ref C) (.ref S) else none) else none) = some b
  rw [if_pos e1, if_pos e2]
  exact h4
/-- isinstance(e, c) of a caught error: its class is told by the reading -/
def rIsX (K : PySem.W.Frag) (D a : Addr) (cls : Value) (d : Option Addr) : List V → Hp → VK → Prop := fun xs H Q => cls = .ref D ∧ d = none ∧ ∃ (c : Addr) (b : Bool), xs = [.ref a, .ref c] ∧ PySem.W.kitOne K (.ref D) (.ref c) = some b ∧ Q (.bl b) H
theorem call_isX {X : Cx} {a D : Addr} {oe : Obj} {pn : List (Addr × Obj)} {cls : Value} {d : Option Addr} (C : ExcC X.K D) (hz : Zc cls d oe) (hf : ∃ vs, oe.data = .fields vs) : CallR (X.suite a ((a, oe) :: pn)) (.builtin "isinstance") (rIsX X.K D a cls d) := by
  intro pins s σ H xs us Q I r h
  obtain ⟨rfl, rfl, c, b, e, k, q⟩ := h
  exact call_isE C hz hf pins s σ H xs us Q I r ⟨.ref c, .ref c, b, e, fun u hu => hu, k, q⟩
/-! ### C(..) within a try -/
section
variable {X : Cx} {CX : CXT} {k : Nat} {f C : Addr} {fd : FuncData} {ps : List Str} {sp : Sp} {E : L2.St → XK} {x : Str} {p pos : Pos} {e : Expr} {es : List Expr} {t : TA}
theorem run_makeS {pins : List (Addr × Obj)} {σ : L2.St} {H : Hp} {s : Shared} {Q : VK} {us : List Value} {vs : List V} (M : Mk X.K C f) (F : FnOk X.prog X.w X.K X.mg X.base CX k f fd ps sp) (hr : Room (k + 1) X.A) (hb : Binds X.K fd ps [])
    (hx : PassesAt CX X σ (E σ)) (I : Inv X pins σ H s) (r : Vals vs us)
    (h : ∀ x dx, H x = none → H dx = none → dx ≠ x → sp (.ref x :: vs) (upd (upd H dx (.own x)) x (.ins C dx [])) (fun v H2 => v = .non ∧ Q (.ref x) H2) (E σ)) :
    wpAny (model X.prog X.w) X.A (call (.ref C) us) (EP X pins σ Q) X.xe s := by
  have hq := h (s.heap.objs.size + 1) s.heap.objs.size (I.hok.fresh (Nat.le_succ _)) (I.hok.fresh (Nat.le_refl _)) (Nat.ne_of_lt (Nat.lt_succ_self _))
  have I2 := Inv.made (C := C) I
  have r2 : Vals (V.ref (s.heap.objs.size + 1) :: vs) (Value.ref (s.heap.objs.size + 1) :: us) := .cons rfl r
  have hl : ((Value.ref (s.heap.objs.size + 1) :: us) ++ []).length = ps.length := by
    have e := r2.length
    rw [F.len _ _ _ _ hq] at e
    rw [List.append_nil]
    exact e.symm
  have bt : BindsTo _ fd ⟨Value.ref (s.heap.objs.size + 1) :: us, []⟩ (ps.zip ((Value.ref (s.heap.objs.size + 1) :: us) ++ [])) := hb _ (Value.ref (s.heap.objs.size + 1) :: us) I2.kIn hl
  rw [List.append_nil] at bt
  refine wpAny_call (make_map (f := f) I.kIn M.makes M.init (beq_iff_eq.mp M.fn) (codeAny_mono (F.run _ X.stack _ _ ⟨Value.ref (s.heap.objs.size + 1) :: us, []⟩ (Value.ref (s.heap.objs.size + 1) :: us) _ _ (E σ) (hr.make C us [])
    (I2.env0.make C us []) bt r2 hq) fun r s' hq' => ?_))
  cases r with
  | error e => exact hx pins _ _ e s' I2 hq'
  | ok fl =>
    cases fl with
    | ret u =>
      obtain ⟨v, H', I3, rv, ev, q3⟩ := I2.after hq'
      subst ev
      exact ⟨rv, ⟨V.ref (s.heap.objs.size + 1), H', I3, rfl, q3⟩⟩
    | next => exact False.elim hq'
    | brk => exact False.elim hq'
    | cont => exact False.elim hq'
def tMakeS (C : Addr) (sp : Sp) (E : L2.St → XK) (t : TA) : TE := fun σ H Q => t σ H fun vs H1 => ∀ x dx, H1 x = none → H1 dx = none → dx ≠ x →
  sp (.ref x :: vs) (upd (upd H1 dx (.own x)) x (.ins C dx [])) (fun v H2 => v = .non ∧ Q (.ref x) H2) (E σ)
theorem pe_makeS (M : Mk X.K C f) (F : FnOk X.prog X.w X.K X.mg X.base CX k f fd ps sp) (hr : Room (k + 1) X.A) (hg : Gl X x) (hm : X.mg x = some (.ref C)) (hb : Binds X.K fd ps []) (hx : ∀ σ, PassesAt CX X σ (E σ))
    (ha : PA X (e :: es) t) (hdb : (x == ("__debug__" : Str)) = false := by decide) (he : starEach (e :: es) X.env = (false, eval e X.env) :: starEach es X.env := by rfl) (hpl : (backTo pos (starEach es X.env)).any (·.1) = false := by rfl) :
    PE X (.Call (.Name x p) (e :: es) [] pos) (tMakeS C sp E t) := by
  refine ⟨fun pins s σ H Q I h => ?_⟩
  refine wpAny_Call_Name_kw (ld_glob I hg hm ?_ hdb)
  refine PySem.W.callWith_K (h₀ := X.base) I.ok.mod.kin M.kp (thn (ha.run pos pins s σ H _ I h) fun us s1 ⟨vs, H1, I1, r, q⟩ => ⟨I1.kIn, ?_⟩) he hpl
  exact run_makeS M F hr hb (hx σ) I1 r q
/-! ### C(..) by a promise of the whole: conv turns it into that of __init__ at the new instance -/
def Conv (C : Addr) (sp rd : Sp) : Prop := ∀ vs H Q E, rd vs H Q E → ∀ x dx, H x = none → H dx = none → dx ≠ x → sp (.ref x :: vs) (upd (upd H dx (.own x)) x (.ins C dx [])) (fun v H2 => v = .non ∧ Q (.ref x) H2) E
def tMakeC (rd : Sp) (E : XK) (t : TA) : TE := fun σ H Q => t σ H fun vs H1 => rd vs H1 Q E
theorem pe_makeC {rd : Sp} {E : XK} (cv : Conv C sp rd) (M : Mk X.K C f) (F : FnOk X.prog X.w X.K X.mg X.base CX k f fd ps sp) (hr : Room (k + 1) X.A) (hg : Gl X x) (hm : X.mg x = some (.ref C)) (hb : Binds X.K fd ps []) (hx : Passes CX X E)
    (ha : PA X (e :: es) t) (hdb : (x == ("__debug__" : Str)) = false := by decide) (he : starEach (e :: es) X.env = (false, eval e X.env) :: starEach es X.env := by rfl) (hpl : (backTo pos (starEach es X.env)).any (·.1) = false := by rfl) :
    PE X (.Call (.Name x p) (e :: es) [] pos) (tMakeC rd E t) := by
  refine ⟨fun pins s σ H Q I h => ?_⟩
  refine wpAny_Call_Name_kw (ld_glob I hg hm ?_ hdb)
  refine PySem.W.callWith_K (h₀ := X.base) I.ok.mod.kin M.kp (thn (ha.run pos pins s σ H _ I h) fun us s1 ⟨vs, H1, I1, r, q⟩ => ⟨I1.kIn, ?_⟩) he hpl
  refine run_make (dvs := []) (ds := []) M F hr hb .nil hx I1 r ?_
  rw [List.append_nil]
  exact cv vs H1 Q E q
def tMakeSC (rd : Sp) (E : L2.St → XK) (t : TA) : TE := fun σ H Q => t σ H fun vs H1 => rd vs H1 Q (E σ)
theorem pe_makeSC {rd : Sp} (cv : Conv C sp rd) (M : Mk X.K C f) (F : FnOk X.prog X.w X.K X.mg X.base CX k f fd ps sp) (hr : Room (k + 1) X.A) (hg : Gl X x) (hm : X.mg x = some (.ref C)) (hb : Binds X.K fd ps []) (hx : ∀ σ, PassesAt CX X σ (E σ))
    (ha : PA X (e :: es) t) (hdb : (x == ("__debug__" : Str)) = false := by decide) (he : starEach (e :: es) X.env = (false, eval e X.env) :: starEach es X.env := by rfl) (hpl : (backTo pos (starEach es X.env)).any (·.1) = false := by rfl) :
    PE X (.Call (.Name x p) (e :: es) [] pos) (tMakeSC rd E t) := by
  refine ⟨fun pins s σ H Q I h => ?_⟩
  refine wpAny_Call_Name_kw (ld_glob I hg hm ?_ hdb)
  refine PySem.W.callWith_K (h₀ := X.base) I.ok.mod.kin M.kp (thn (ha.run pos pins s σ H _ I h) fun us s1 ⟨vs, H1, I1, r, q⟩ => ⟨I1.kIn, ?_⟩) he hpl
  exact run_makeS M F hr hb (hx σ) I1 r (cv vs H1 Q (E σ) q)
/-- what a caller's own wish takes of a callee that may raise -/
theorem passW {X : Cx} {W : WX} (tk : Takes X W) {E : XK} (hW : ∀ cls d σ H, E cls d H → W cls d σ H) : Passes (L2.CX X.prog X.w) X E := passes_call tk hW
end
theorem cxOf_K {CX : CXT} {P : Program} {w : World} {K : PySem.W.Frag} {mg : Str → Option Value} {base : Heap} {N : List Str} {qual : Str} {scope : Scope} {f : Addr} {cd : Value} {A : Around} {outer : List Env} {s : Shared} {H : Hp} {E : XK} :
    (cxOf CX P w K mg base N qual scope f cd A outer s H E).K = K := rfl
theorem nox_K {X : Cx} : X.nox.K = X.K := rfl
theorem tr_K {X : Cx} {pn : List (Addr × Obj)} {xe : Value → Shared → Prop} : (X.tr pn xe).K = X.K := rfl
theorem suite_K {X : Cx} {a : Addr} {pn : List (Addr × Obj)} : (X.suite a pn).K = X.K := rfl
end Dw

namespace Dw
open PySem PySem.Spec PyProof.Rows L2
/-! ### the laws' own small defs -/
def rTupleI : List V → Hp → VK → Prop := fun xs H Q => ∃ p ns, xs = [.ref p] ∧ H p = some (IL ns) ∧ ∀ l, H l = none → Q (.ref l) (upd H l (.tup (ns.map V.int)))
theorem call_tupleI {X : Cx} : CallR X (.type "tuple") rTupleI := CallR.imp call_tuple_of fun xs H Q h => by
  obtain ⟨p, ns, e, h1, q⟩ := h
  exact ⟨p, _, e, .inl ⟨.of h1, q⟩⟩
/-- an item of the script, or 0 -/
def spCell (K : PySem.W.Frag) : Sp := fun vs H Q _ => ∃ (a : Addr) (ns : List Int) (k : Int), vs = [.ref a, .int k] ∧ SqL K H a (ns.map V.int) ∧ 0 ≤ k ∧ ∀ z, Q (.int z) H
def D12 (ns : List Int) : Prop := ∀ z ∈ ns, 0 ≤ z ∧ z < 4096
def spDraws : Sp := fun vs H Q _ => ∃ (c n : Int), vs = [.int c, .int n] ∧ 0 ≤ n ∧ n ≤ 1000 ∧ ∀ r ns H', Same H H' → H r = none → H' r = some (IL ns) → (ns.length : Int) = n → D12 ns → Q (.ref r) H'
def spIsInt : Sp := fun vs H Q _ => ∃ i : Int, vs = [.int i] ∧ Q (.bl true) H
def spInts : Sp := fun vs H Q _ => ∃ (p : Addr) (ns : List Int), ((vs = [.ref p, .str "list"] ∧ H p = some (IL ns)) ∨ (vs = [.ref p, .str "tuple"] ∧ H p = some (.tup (ns.map V.int)))) ∧ Q (.bl true) H
def spIsList : Sp := fun vs H Q _ => ∃ (p u : Addr) (ns : List Int), vs = [.ref p, .ref u] ∧ H p = some (IL ns) ∧ H u = some (IL ns) ∧ Q (.bl true) H
def spIsTuple : Sp := fun vs H Q _ => ∃ (p u : Addr) (ns : List Int), vs = [.ref p, .ref u] ∧ H p = some (.tup (ns.map V.int)) ∧ H u = some (.tup (ns.map V.int)) ∧ Q (.bl true) H
def spIsNumber : Sp := fun vs H Q _ => ∃ i : Int, vs = [.int i, .int i] ∧ Q (.bl true) H
theorem getD_mem {ns : List Int} {k : Nat} (h : k < ns.length) : ns.getD k 0 ∈ ns := by
  rw [List.getD_eq_getElem?_getD, List.getElem?_eq_getElem h]
  exact List.getElem_mem h
theorem D12.get {ns : List Int} (h : D12 ns) {k : Nat} (hk : k < ns.length) : 0 ≤ ns.getD k 0 ∧ ns.getD k 0 < 4096 := h _ (getD_mem hk)
/-! ### reads -/
def readF (t : Addr) (r : Int) : List (Str × V) := [("intervals", .ref t), ("rest", .int r)]
theorem rf_int (t : Addr) (r : Int) : List.lookup ("intervals" : Str) (readF t r) = some (.ref t) := by
  unfold readF
  simp [List.lookup]
theorem rf_rest (t : Addr) (r : Int) : List.lookup ("rest" : Str) (readF t r) = some (.int r) := by
  have e : (("rest" : Str) == ("intervals" : Str)) = false := by decide +kernel
  unfold readF
  simp [List.lookup, e]
theorem rf_put (t : Addr) (r : Int) : putF "rest" (.int r) (putF "intervals" (.ref t) []) = readF t r := by
  have e : ¬ ("intervals" : Str) = "rest" := by decide +kernel
  show putF "rest" (.int r) [("intervals", .ref t)] = _
  unfold putF
  rw [if_neg e]
  rfl
def OkRead (ns : List Int) (rest : Int) : Prop := ns.length ≤ 60000 ∧ (∀ t ∈ ns, 1 ≤ t ∧ t ≤ 1000000) ∧ 0 ≤ rest ∧ rest ≤ 1000000
/-- a read at r -/
def RdAt (C : Addr) (H : Hp) (r : Addr) (ns : List Int) (rest : Int) : Prop := ∃ dx t, H r = some (.ins C dx (readF t rest)) ∧ H t = some (.tup (ns.map V.int))
theorem RdAt.same {C : Addr} {H H' : Hp} {r : Addr} {ns : List Int} {rest : Int} (h : RdAt C H r ns rest) (s : Same H H') : RdAt C H' r ns rest := by
  obtain ⟨dx, t, h1, h2⟩ := h
  exact ⟨dx, t, s _ _ h1, s _ _ h2⟩
def spReadInit (C CE : Addr) : Sp := fun vs H Q E => ∃ (x dx a : Addr) (ns : List Int) (rest : Int), vs = [.ref x, .ref a, .int rest] ∧ H x = some (.ins C dx []) ∧ H a = some (IL ns) ∧
  (OkRead ns rest → ∀ t H', H x ≠ none → SameB x H H' → H t = none → H' x = some (.ins C dx (readF t rest)) → H' t = some (.tup (ns.map V.int)) → Q .non H') ∧
  (¬ OkRead ns rest → ∀ H', Same H H' → E (.ref CE) none H')
/-- Read(intervals, rest) -/
def spRead (C CE : Addr) : Sp := fun vs H Q E => ∃ (a : Addr) (ns : List Int) (rest : Int), vs = [.ref a, .int rest] ∧ H a = some (IL ns) ∧
  (OkRead ns rest → ∀ r H', Same H H' → H r = none → RdAt C H' r ns rest → Q (.ref r) H') ∧ (¬ OkRead ns rest → ∀ H', Same H H' → E (.ref CE) none H')
theorem conv_read {C CE : Addr} : Conv C (spReadInit C CE) (spRead C CE) := by
  intro vs H Q E ⟨a, ns, rest, e, hA, h1, h2⟩ x dx nx nd ne
  subst e
  have s0 : Same H (upd H dx (.own x)) := same_new nd _
  have nx' : upd H dx (.own x) x = none := by rw [upd_ne ne.symm]; exact nx
  have s1 : Same (upd H dx (.own x)) (upd (upd H dx (.own x)) x (.ins C dx [])) := same_new nx' _
  have s := s0.trans s1
  refine ⟨x, dx, a, ns, rest, rfl, upd_same, s _ _ hA, fun ok t H' _ sb nt e1 e2 => ⟨rfl, h1 ok x H' (fun b o hb => sb b o (ne_of_none hb nx) (s b o hb)) nx ⟨dx, t, e1, e2⟩⟩, fun no H' sH => h2 no H' (s.trans sH)⟩
def okCell (c : Int) : Prop := 10 ≤ c ∧ c ≤ 1000
def spIsCell : Sp := fun vs H Q _ => ∃ c : Int, vs = [.int c] ∧ Q (.bl (decide (10 ≤ c) && decide (c ≤ 1000))) H
def spCheckCell (CE : Addr) : Sp := fun vs H Q E => ∃ c : Int, vs = [.int c] ∧ (okCell c → Q .non H) ∧ (¬ okCell c → E (.ref CE) none H)
/-! ### the fixed clock -/
/-- how many cells t ticks stand for -/
def nCells (t c : Int) : Int := (2 * t + c) / (2 * c)
def oneCells (n : Int) : List Int := List.replicate (n - 1).toNat 0 ++ [1]
def fixedZ (ns : List Int) (rest c : Int) : List Int := (ns.map fun t => oneCells (max 1 (nCells t c))).flatten ++ List.replicate (nCells rest c).toNat 0
def fixedP (ns : List Int) (c : Int) : List Int := (ns.map fun t => oneCells (max 1 (nCells t c))).flatten
theorem fixedP_more {ns : List Int} {i : Nat} {t c : Int} (h : ns[i]? = some t) : fixedP (ns.take (i + 1)) c = fixedP (ns.take i) c ++ oneCells (max 1 (nCells t c)) := by
  unfold fixedP
  rw [take_more h, List.map_append, List.flatten_append]
  simp
theorem oneCells_len {n : Int} (h : 1 ≤ n) : ((oneCells n).length : Int) = n := by
  unfold oneCells
  rw [List.length_append, List.length_replicate]
  show (((n - 1).toNat + 1 : Nat) : Int) = n
  omega
/-- the sum of the counts stays small -/
def Few (ns : List Int) (rest c : Int) : Prop := ((fixedP ns c).length : Int) + nCells rest c ≤ 16000000
def spFixed (C CE : Addr) : Sp := fun vs H Q E => ∃ (r : Addr) (c : Int) (ns : List Int) (rest : Int), vs = [.ref r, .int c] ∧ RdAt C H r ns rest ∧ OkRead ns rest ∧
  (okCell c → Few ns rest c ∧ ∀ u H', Same H H' → H u = none → H' u = some (IL (fixedZ ns rest c)) → Q (.ref u) H') ∧ (¬ okCell c → E (.ref CE) none H)
theorem take_len_le {α : Type} (l : List α) (i : Nat) : (l.take i).length ≤ l.length := by rw [List.length_take]; exact Nat.min_le_right _ _
theorem fixedP_take_len (ns : List Int) (c : Int) (i : Nat) : (fixedP (ns.take i) c).length ≤ (fixedP ns c).length := by
  have e : fixedP ns c = fixedP (ns.take i) c ++ fixedP (ns.drop i) c := by
    unfold fixedP
    rw [← List.flatten_append, ← List.map_append, List.take_append_drop]
  rw [e, List.length_append]
  omega
end Dw
namespace Dw
theorem ite_t {c : Bool} {A B : Prop} (hc : c = true) (h : A) : if c = true then A else B := by
  rw [if_pos hc]
  exact h
theorem ite_f {c : Bool} {A B : Prop} (hc : c = false) (h : B) : if c = true then A else B := by
  rw [hc, if_neg Bool.false_ne_true]
  exact h
end Dw
namespace Dw
open PySem PySem.Spec PyProof.Rows L2
theorem fld_of {K : PySem.W.Frag} {C dx r t : Addr} {rest : Int} {H : Hp} {i : Nat} {σ : L2.St} {Q : VK} (hσ : σ[i]? = some (some (.ref r))) (hR : H r = some (.ins C dx (readF t rest))) (cl : Cls K C) (na : NoAttr K C "intervals") (q : Q (.ref t) H) : tFld K (tVar i) "intervals" σ H Q :=
  ⟨_, hσ, r, C, dx, _, _, rfl, hR, cl, na, rf_int t rest, q⟩
theorem fld_rest {K : PySem.W.Frag} {C dx r t : Addr} {rest : Int} {H : Hp} {i : Nat} {σ : L2.St} {Q : VK} (hσ : σ[i]? = some (some (.ref r))) (hR : H r = some (.ins C dx (readF t rest))) (cl : Cls K C) (na : NoAttr K C "rest") (q : Q (.int rest) H) : tFld K (tVar i) "rest" σ H Q :=
  ⟨_, hσ, r, C, dx, _, _, rfl, hR, cl, na, rf_rest t rest, q⟩
theorem upd_self {H : Hp} {a : Addr} {o u : HO} : upd (upd H a o) a u a = some u := upd_same
theorem rep_zero (n : Int) : rep n [0] = List.replicate n.toNat 0 := rep_one n 0
theorem nCells_nn {t c : Int} (ht : 0 ≤ t) (hc : 0 < c) : 0 ≤ nCells t c := Int.ediv_nonneg (by omega) (by omega)
end Dw
namespace Dw
open PySem PySem.Spec PyProof.Rows L2
theorem oneCells_nat {n : Int} (h : 1 ≤ n) : (oneCells n).length = (n - 1).toNat + 1 := by
  unfold oneCells
  rw [List.length_append, List.length_replicate]
  rfl
end Dw
namespace Dw
theorem pick2 {P : Int → Prop} {a b : Int} (ha : P a) (hb : P b) {i : Nat} (h : i < 2) : P ([a, b].getD i 0) := by
  match i, h with
  | 0, _ => exact ha
  | 1, _ => exact hb
theorem pick3 {P : Int → Prop} {a b c : Int} (ha : P a) (hb : P b) (hc : P c) {i : Nat} (h : i < 3) : P ([a, b, c].getD i 0) := by
  match i, h with
  | 0, _ => exact ha
  | 1, _ => exact hb
  | 2, _ => exact hc
theorem pick4 {P : Int → Prop} {a b c d : Int} (ha : P a) (hb : P b) (hc : P c) (hd : P d) {i : Nat} (h : i < 4) : P ([a, b, c, d].getD i 0) := by
  match i, h with
  | 0, _ => exact ha
  | 1, _ => exact hb
  | 2, _ => exact hc
  | 3, _ => exact hd
end Dw
namespace Dw
open PySem PySem.Spec PyProof.Rows L2
theorem fixedP_len_le {c : Int} {M : Nat} (hM : 1 ≤ M) : ∀ {ns : List Int}, (∀ t ∈ ns, nCells t c ≤ (M : Int)) → (fixedP ns c).length ≤ ns.length * M
  | [], _ => Nat.zero_le _
  | t :: r, h => by
    have ih := fixedP_len_le (c := c) hM (ns := r) fun x hx => h x (List.mem_cons_of_mem _ hx)
    have ht := h t List.mem_cons_self
    have e : fixedP (t :: r) c = oneCells (max 1 (nCells t c)) ++ fixedP r c := by
      unfold fixedP
      rw [List.map_cons, List.flatten_cons]
    rw [e, List.length_append, oneCells_nat (by omega), List.length_cons, Nat.succ_mul]
    omega
theorem nCells_le {t c m : Int} (hc : 0 < c) (h : t ≤ m * c) : nCells t c ≤ m := by
  unfold nCells
  have : (2 * t + c) / (2 * c) < m + 1 := Int.ediv_lt_of_lt_mul (by omega) (by
    have e1 : (m + 1) * (2 * c) = 2 * (m * c) + 2 * c := by rw [Int.add_mul, Int.one_mul, Int.mul_left_comm]
    rw [e1]
    omega)
  omega
theorem oneCells_split (n : Int) : List.replicate (n - 1).toNat 0 ++ [1] = oneCells n := rfl
end Dw
namespace Dw
open PySem PySem.Spec PyProof.Rows L2
/-! ### cells as flux -/
def fluxT (c : Int) (s : List Int × Int) (b : Int) : List Int × Int := if b = 1 then (s.1 ++ [c * (s.2 + 1)], 0) else (s.1, s.2 + 1)
def fluxS (c : Int) (cells : List Int) : List Int × Int := cells.foldl (fluxT c) ([], 0)
theorem fluxS_more {c : Int} {cells : List Int} {i : Nat} {b : Int} (h : cells[i]? = some b) : fluxS c (cells.take (i + 1)) = fluxT c (fluxS c (cells.take i)) b := by
  unfold fluxS
  rw [take_more h, List.foldl_append]
  rfl
theorem fluxT_len {c : Int} (s : List Int × Int) (b : Int) : (fluxT c s b).1.length ≤ s.1.length + 1 ∧ 0 ≤ (fluxT c s b).2 ∨ s.2 < 0 := by
  unfold fluxT
  by_cases h : b = 1
  · rw [if_pos h]
    exact .inl ⟨by rw [List.length_append]; exact Nat.le_refl _, Int.le_refl 0⟩
  · rw [if_neg h]
    by_cases h2 : s.2 < 0
    · exact .inr h2
    · exact .inl ⟨Nat.le_succ _, by show 0 ≤ s.2 + 1; omega⟩
theorem fluxS_bound (c : Int) (cells : List Int) : ∀ i, i ≤ cells.length → (fluxS c (cells.take i)).1.length ≤ i ∧ 0 ≤ (fluxS c (cells.take i)).2 ∧ (fluxS c (cells.take i)).2 ≤ i
  | 0, _ => ⟨Nat.le_refl _, Int.le_refl _, Int.le_refl _⟩
  | i + 1, h => by
    obtain ⟨h1, h2, h3⟩ := fluxS_bound c cells i (by omega)
    have e : cells[i]? = some (cells[i]'(by omega)) := List.getElem?_eq_getElem (by omega)
    rw [fluxS_more e]
    unfold fluxT
    split
    · refine ⟨by rw [List.length_append]; show _ + 1 ≤ _; omega, Int.le_refl _, by show (0 : Int) ≤ _; omega⟩
    · exact ⟨by show (fluxS c (List.take i cells)).1.length ≤ i + 1; omega, by show 0 ≤ (fluxS c (List.take i cells)).2 + 1; omega, by show (fluxS c (List.take i cells)).2 + 1 ≤ ((i + 1 : Nat) : Int); omega⟩
def spFlux (C CE CR : Addr) : Sp := fun vs H Q E => ∃ (a : Addr) (c : Int) (cells : List Int), vs = [.ref a, .int c] ∧ H a = some (IL cells) ∧ cells.length ≤ 1000000 ∧
  (okCell c → OkRead (fluxS c cells).1 (c * (fluxS c cells).2) → ∀ r H', Same H H' → H r = none → RdAt C H' r (fluxS c cells).1 (c * (fluxS c cells).2) → Q (.ref r) H') ∧
  (okCell c → ¬ OkRead (fluxS c cells).1 (c * (fluxS c cells).2) → ∀ H', Same H H' → E (.ref CR) none H') ∧ (¬ okCell c → E (.ref CE) none H)
/-! ### ints that are only known to be of a kind -/
theorem lc_rangeP {R : Int → Prop} {lo : Int} {n : Nat} {j : Nat} {te : TE} {vs : List Nat} {σ : L2.St} {H1 : Hp} {D : Addr} {Qd : Hp → Prop} (hn : n ≤ 16777215) (hD : H1 D = none) (hw : ∀ v, wipe ((wipe σ vs).set j v) vs = wipe σ vs)
    (hte : ∀ i H3 (Q' : VK), i < n → Same H1 H3 → (∀ v H4, R v → Same H3 H4 → Q' (.int v) H4) → te ((wipe σ vs).set j (some (.int (lo + (i : Nat))))) H3 Q')
    (hd : ∀ ns H', ns.length = n → (∀ v ∈ ns, R v) → Same H1 H' → H' D = some (IL ns) → Qd H') :
    ∃ W : Nat → Nat → Hp → Prop, (∃ m, W 0 m (L2.upd H1 D (.lst []))) ∧ ∀ i m H, W i m H →
      ((Itr lo n).stop i H ∧ Qd H) ∨ ((Itr lo n).go i H ∧ ∃ Nx : Hp → Prop, (∀ H', Nx H' → ∃ m', m' < m ∧ W (i + 1) m' H') ∧ ∀ x H', (Itr lo n).yld i H x H' → gName j x (wipe σ vs) H' fun σ2 H2 => wipe σ2 vs = wipe σ vs ∧ tYes σ2 H2 fun b H3 =>
        if b = true then te σ2 H3 fun y H4 => ∃ acc, H4 D = some (.lst acc) ∧ acc.length < sizeLine ∧ Nx (L2.upd H4 D (.lst (acc ++ [y]))) else Nx H3) := by
  refine lc_range (lo := lo) (n := n) (fun i H' => Same H1 H' ∧ ∃ ns : List Int, H' D = some (IL ns) ∧ ns.length = i ∧ ∀ v ∈ ns, R v) ⟨same_new hD _, [], upd_same, rfl, fun v h => by cases h⟩ ?_ ?_
  · intro i H hi h
    obtain ⟨h1, ns, h3, h4, h5⟩ := h
    refine ⟨hw _, ?_⟩
    simp only [tYes, if_true]
    refine hte i H _ hi h1 fun v H4 hR hs => ?_
    have e : H4 D = some (IL ns) := hs D _ h3
    have ez : ns.map V.int ++ [V.int v] = (ns ++ [v]).map V.int := by rw [List.map_append]; rfl
    refine ⟨ns.map V.int, e, by rw [List.length_map, h4]; exact line_lt (by omega), fun b o hb => ?_, ns ++ [v], ?_, by rw [List.length_append, h4]; rfl, ?_⟩
    · rw [upd_ne (ne_of_none hb hD)]
      exact hs _ _ (h1 b o hb)
    · rw [upd_same, ez]
      rfl
    · intro x hx
      rcases List.mem_append.mp hx with hx | hx
      · exact h5 x hx
      · rw [List.mem_singleton.mp hx]; exact hR
  · intro H h
    obtain ⟨h1, ns, h3, h4, h5⟩ := h
    exact hd ns H h4 h5 h1 h3
end Dw

namespace Dw
open PySem PySem.Spec PyProof.Rows L2
/-! ### bits, FM, MFM -/
/-- a def of one list of ints that hands back a new one -/
def spL1 (C : List Int → Prop) (f : List Int → List Int) : Sp := fun vs H Q _ => ∃ (a : Addr) (ns : List Int), vs = [.ref a] ∧ H a = some (IL ns) ∧ C ns ∧ ∀ r H', Same H H' → H r = none → H' r = some (IL (f ns)) → Q (.ref r) H'
def CB (ns : List Int) : Prop := Bytes ns ∧ ns.length ≤ 100000
def bitsOf (ns : List Int) : List Int := (ns.map fun n => bits8 n.toNat).flatten
theorem bits8_len (v : Nat) : (bits8 v).length = 8 := rfl
theorem bitsOf_len : ∀ ns : List Int, (bitsOf ns).length = 8 * ns.length
  | [] => rfl
  | n :: r => by
    unfold bitsOf
    rw [List.map_cons, List.flatten_cons, List.length_append, bits8_len]
    have := bitsOf_len r
    unfold bitsOf at this
    rw [this, List.length_cons]
    omega
theorem bitsOf_more {ns : List Int} {i v : Nat} (h : ns[i]? = some (v : Int)) : bitsOf (ns.take (i + 1)) = bitsOf (ns.take i) ++ bits8 v := by
  unfold bitsOf
  rw [take_more h, List.map_append, List.flatten_append]
  simp
/-- each bit behind a 1 -/
def fmZ (bs : List Int) : List Int := (bs.map fun b => [1, b]).flatten
theorem fmZ_len : ∀ bs : List Int, (fmZ bs).length = 2 * bs.length
  | [] => rfl
  | n :: r => by
    unfold fmZ
    rw [List.map_cons, List.flatten_cons, List.length_append]
    have := fmZ_len r
    unfold fmZ at this
    rw [this, List.length_cons]
    show 2 + 2 * r.length = 2 * (r.length + 1)
    omega
theorem fmZ_more {bs : List Int} {i : Nat} {b : Int} (h : bs[i]? = some b) : fmZ (bs.take (i + 1)) = fmZ (bs.take i) ++ [1, b] := by
  unfold fmZ
  rw [take_more h, List.map_append, List.flatten_append]
  simp
def clk (last b : Int) : Int := if last = 0 ∧ b = 0 then 1 else 0
/-- the bit behind a beginning of a list -/
def lastOf (before : Int) (bs : List Int) : Int := bs.getLastD before
def mfmZ (before : Int) (bs : List Int) : List Int := (List.range bs.length).flatMap fun i => [clk (lastOf before (bs.take i)) (bs.getD i 0), bs.getD i 0]
/-- the loop's way: cells so far -/
def mfmF (before : Int) : List Int → List Int
  | [] => []
  | b :: r => clk before b :: b :: mfmF b r
theorem mfmF_len : ∀ (before : Int) (bs : List Int), (mfmF before bs).length = 2 * bs.length
  | _, [] => rfl
  | _, b :: r => by
    show (mfmF b r).length + 1 + 1 = 2 * (r.length + 1)
    rw [mfmF_len b r]
    omega
theorem mfmF_append : ∀ (before : Int) (bs cs : List Int), mfmF before (bs ++ cs) = mfmF before bs ++ mfmF (lastOf before bs) cs
  | _, [], _ => rfl
  | before, b :: r, cs => by
    show clk before b :: b :: mfmF b (r ++ cs) = clk before b :: b :: (mfmF b r ++ mfmF (lastOf before (b :: r)) cs)
    rw [mfmF_append b r cs]
    have : lastOf before (b :: r) = lastOf b r := by
      unfold lastOf
      cases r with
      | nil => rfl
      | cons x t => simp [List.getLastD]
    rw [this]
theorem mfmF_more {before : Int} {bs : List Int} {i : Nat} {b : Int} (h : bs[i]? = some b) : mfmF before (bs.take (i + 1)) = mfmF before (bs.take i) ++ [clk (lastOf before (bs.take i)) b, b] := by
  rw [take_more h, mfmF_append]
  rfl
theorem lastOf_more {before : Int} {bs : List Int} {i : Nat} {b : Int} (h : bs[i]? = some b) : lastOf before (bs.take (i + 1)) = b := by
  rw [take_more h]
  unfold lastOf
  simp
def spClk : Sp := fun vs H Q _ => ∃ a b : Int, vs = [.int a, .int b] ∧ Q (.int (clk a b)) H
def spMfm : Sp := fun vs H Q _ => ∃ (a : Addr) (ns : List Int) (b : Int), vs = [.ref a, .int b] ∧ H a = some (IL ns) ∧ CB ns ∧ ∀ r H', Same H H' → H r = none → H' r = some (IL (mfmF b (bitsOf ns))) → Q (.ref r) H'
theorem bit_div (v k : Nat) : Builtin.bitAnd ((v : Int) / 2 ^ k) 1 = ((v / 2 ^ k % 2 : Nat) : Int) := by rw [zdiv, and1]
end Dw
namespace Dw
open PySem PySem.Spec PyProof.Rows L2
def Bits (bs : List Int) : Prop := ∀ b ∈ bs, b = 0 ∨ b = 1
theorem bits8_bits (v : Nat) : Bits (bits8 v) := by
  intro b hb
  unfold bits8 at hb
  simp only [List.mem_cons, List.not_mem_nil, or_false] at hb
  rcases hb with h | h | h | h | h | h | h | h <;> (subst h; omega)
theorem bitsOf_bits : ∀ ns : List Int, Bits (bitsOf ns)
  | [] => fun b hb => by cases hb
  | n :: r => fun b hb => by
    unfold bitsOf at hb
    rw [List.map_cons, List.flatten_cons] at hb
    rcases List.mem_append.mp hb with hb | hb
    · exact bits8_bits _ b hb
    · exact bitsOf_bits r b hb
theorem bits_at {bs : List Int} {i : Nat} {z : Int} (h : Bits bs) (hz : bs[i]? = some z) : z = 0 ∨ z = 1 := h z (List.mem_of_getElem? hz)
theorem lastOf_bit {before : Int} {bs : List Int} (h0 : before = 0 ∨ before = 1) (h : Bits bs) : lastOf before bs = 0 ∨ lastOf before bs = 1 := by
  unfold lastOf
  cases bs with
  | nil => exact h0
  | cons b r =>
    have : (b :: r).getLastD before ∈ (b :: r) := by
      rw [List.getLastD_cons]
      cases r with
      | nil => exact List.mem_cons_self
      | cons x t =>
        have e : (x :: t).getLastD b = (x :: t).getLast (List.cons_ne_nil _ _) := by simp [List.getLastD]
        rw [e]
        exact List.mem_cons_of_mem _ (List.getLast_mem _)
    exact h _ this
theorem take_bits {bs : List Int} {k : Nat} (h : Bits bs) : Bits (bs.take k) := fun b hb => h b (List.mem_of_mem_take hb)
/-- int(last + bit == 0) -/
theorem clk_sum {a b : Int} (ha : a = 0 ∨ a = 1) (hb : b = 0 ∨ b = 1) : (if a + b = 0 then (1 : Int) else 0) = clk a b := by
  unfold clk
  rcases ha with rfl | rfl <;> rcases hb with rfl | rfl <;> decide
theorem dtl3 {H : Hp} {x y z : V} {d e f : PyData} (h1 : Dt H x d) (h2 : Dt H y e) (h3 : Dt H z f) : DtAll H [x, y, z] [d, e, f] := .cons h1 (.cons h2 (.cons h3 .nil))
theorem shaped_list3 {d e f : PyData} (h1 : d.canLay0 = true) (h2 : e.canLay0 = true) (h3 : f.canLay0 = true) (k1 : d.depth ≤ 6) (k2 : e.depth ≤ 6) (k3 : f.depth ≤ 6) : SeqAt.shaped (.list [d, e, f]) = true ∧ (PyData.list [d, e, f]).depth < 8 := by
  unfold SeqAt.shaped
  simp only [PyData.canLay0, PyData.canLayAll0, PyData.depth, PyData.depthAll, h1, h2, h3, Bool.and_true, Bool.true_and, decide_eq_true_eq]
  have : max d.depth (max e.depth (max f.depth 0)) ≤ 6 := by
    rw [Nat.max_le, Nat.max_le, Nat.max_le]
    exact ⟨k1, k2, k3, Nat.zero_le _⟩
  exact ⟨decide_eq_true (Nat.le_trans (Nat.succ_le_succ this) (by decide)), Nat.lt_of_le_of_lt (Nat.succ_le_succ this) (by decide)⟩
theorem lay_ints (ns : List Int) : (PyData.list (ns.map PyData.int)).canLay0 = true := by rw [PyData.canLay0]; exact canLay_ints ns
theorem dep6_ints (ns : List Int) : (PyData.list (ns.map PyData.int)).depth ≤ 6 := by
  have := depthAll_ints ns
  simp only [PyData.depth]
  omega
end Dw
namespace Dw
open PySem PySem.Spec PyProof.Rows L2
theorem IL_ne {H : Hp} {a b x : Addr} {ns : List Int} {r : List V} (h1 : H a = some (IL ns)) (h2 : H b = some (.lst (.ref x :: r))) : a ≠ b := by
  refine ne_of h1 h2 fun e => ?_
  unfold IL at e
  injection e with e
  cases ns with
  | nil => cases e
  | cons x t => rw [List.map_cons] at e; injection e with e _; cases e
theorem Pool.ne_len {H : Hp} {p q b : Addr} {xs : List V} (h : Pool H p q) (h2 : H b = some (.lst xs)) (hx : xs.length ≠ 5) : p ≠ b := by
  obtain ⟨ns, a, b', c, d, e, _⟩ := h
  refine ne_of e h2 fun z => hx ?_
  unfold PoolL at z
  injection z with z
  rw [← z]
  rfl
theorem Pool.ne_ref {H : Hp} {p q b x : Addr} {r : List V} (h : Pool H p q) (h2 : H b = some (.lst (.ref x :: r))) : q ≠ b := by
  obtain ⟨ns, a, b', c, d, e, e2, _⟩ := h
  exact IL_ne (ns := ns) e2 h2
end Dw

namespace Dw
open PySem PySem.Spec PyProof.Rows L2
theorem nCells_mul {c m e : Int} (hc : 0 < c) (h1 : -c < 2 * e) (h2 : 2 * e < c) : nCells (c * m + e) c = m := by
  unfold nCells
  have e1 : 2 * (c * m + e) + c = (2 * e + c) + m * (2 * c) := by
    have : m * (2 * c) = 2 * (c * m) := by rw [Int.mul_left_comm, Int.mul_comm m c]
    rw [this]
    omega
  rw [e1, Int.add_mul_ediv_right _ _ (by omega), Int.ediv_eq_zero_of_lt (by omega) (by omega)]
  omega
theorem fixedP_congr {c : Int} {ns ms : List Int} (h : ns.map (fun t => nCells t c) = ms.map (fun t => nCells t c)) : fixedP ns c = fixedP ms c := by
  have e : ∀ l : List Int, fixedP l c = ((l.map fun t => nCells t c).map fun n => oneCells (max 1 n)).flatten := by
    intro l
    unfold fixedP
    rw [List.map_map]
    rfl
  rw [e, e, h]
theorem fixedP_append (ns ms : List Int) (c : Int) : fixedP (ns ++ ms) c = fixedP ns c ++ fixedP ms c := by
  unfold fixedP
  rw [List.map_append, List.flatten_append]
theorem replicate_snoc0 (n : Nat) : List.replicate (n + 1) (0 : Int) = List.replicate n 0 ++ [0] := by
  rw [List.replicate_succ']
/-- the clock gives the cells again, behind any beginning -/
theorem flux_back {c : Int} (hc : 0 < c) {cells : List Int} (hb : Bits cells) : ∀ i, i ≤ cells.length →
    fixedP (fluxS c (cells.take i)).1 c ++ List.replicate (fluxS c (cells.take i)).2.toNat 0 = cells.take i ∧ (∀ t ∈ (fluxS c (cells.take i)).1, ∃ m : Int, 1 ≤ m ∧ m ≤ i ∧ t = c * m)
  | 0, _ => ⟨rfl, fun t h => by cases h⟩
  | i + 1, h => by
    obtain ⟨h1, h2⟩ := flux_back hc hb i (by omega)
    have hbd := fluxS_bound c cells i (by omega)
    have e : cells[i]? = some (cells[i]'(by omega)) := List.getElem?_eq_getElem (by omega)
    have hbit := bits_at hb e
    generalize cells[i]'(by omega) = b at e hbit
    rw [fluxS_more e, take_more e]
    generalize fluxS c (cells.take i) = s at h1 h2 hbd
    obtain ⟨is, n⟩ := s
    simp only at h1 h2 hbd ⊢
    unfold fluxT
    rcases hbit with rfl | rfl
    · rw [if_neg (by decide)]
      refine ⟨?_, fun t ht => ?_⟩
      · have : (n + 1).toNat = n.toNat + 1 := by omega
        show fixedP is c ++ List.replicate (n + 1).toNat 0 = _
        rw [this, replicate_snoc0, ← List.append_assoc, h1]
      · obtain ⟨m, m1, m2, m3⟩ := h2 t ht
        exact ⟨m, m1, by omega, m3⟩
    · rw [if_pos rfl]
      have hn : nCells (c * (n + 1)) c = n + 1 := by
        have := nCells_mul (c := c) (m := n + 1) (e := 0) hc (by omega) (by omega)
        rw [Int.add_zero] at this
        exact this
      refine ⟨?_, fun t ht => ?_⟩
      · show fixedP (is ++ [c * (n + 1)]) c ++ List.replicate (0 : Int).toNat 0 = _
        have e1 : fixedP [c * (n + 1)] c = List.replicate n.toNat 0 ++ [1] := by
          unfold fixedP
          rw [List.map_cons, List.map_nil, List.flatten_cons, List.flatten_nil, List.append_nil, hn]
          have : max 1 (n + 1) = n + 1 := by omega
          rw [this]
          unfold oneCells
          have : (n + 1 - 1).toNat = n.toNat := by omega
          rw [this]
        rw [fixedP_append, e1, ← h1]
        simp
      · rcases List.mem_append.mp ht with ht | ht
        · obtain ⟨m, m1, m2, m3⟩ := h2 t ht
          exact ⟨m, m1, by omega, m3⟩
        · rw [List.mem_singleton.mp ht]
          exact ⟨n + 1, by omega, by omega, rfl⟩
theorem flux_back_all {c : Int} (hc : 0 < c) {cells : List Int} (hb : Bits cells) :
    fixedP (fluxS c cells).1 c ++ List.replicate (fluxS c cells).2.toNat 0 = cells ∧ (∀ t ∈ (fluxS c cells).1, ∃ m : Int, 1 ≤ m ∧ m ≤ cells.length ∧ t = c * m) := by
  have h := flux_back hc hb cells.length (Nat.le_refl _)
  rw [List.take_length] at h
  exact h
theorem flux_bound_all (c : Int) (cells : List Int) : (fluxS c cells).1.length ≤ cells.length ∧ 0 ≤ (fluxS c cells).2 ∧ (fluxS c cells).2 ≤ cells.length := by
  have h := fluxS_bound c cells cells.length (Nat.le_refl _)
  rw [List.take_length] at h
  exact h
theorem fixedP_len_bits {c : Int} (hc : 0 < c) {cells : List Int} (hb : Bits cells) : (fixedP (fluxS c cells).1 c).length ≤ cells.length := by
  have h := (flux_back_all hc hb).1
  have e : (fixedP (fluxS c cells).1 c ++ List.replicate (fluxS c cells).2.toNat 0).length = cells.length := by rw [h]
  rw [List.length_append] at e
  omega
end Dw
namespace Dw
open PySem PySem.Spec PyProof.Rows L2
/-! ### the following clock -/
def folN (t p : Int) : Int := max 1 ((32 * t + p) / (2 * p))
def folP (t p c : Int) : Int := min (max (p + (16 * t - folN t p * p) / (8 * folN t p)) (12 * c)) (20 * c)
def folT (c : Int) (s : Int × List Int) (t : Int) : Int × List Int := (folP t s.1 c, s.2 ++ oneCells (folN t s.1))
def folS (c : Int) (ns : List Int) : Int × List Int := ns.foldl (folT c) (16 * c, [])
def folR (rest p : Int) : Int := (32 * rest + p) / (2 * p)
def followZ (ns : List Int) (rest c : Int) : List Int := (folS c ns).2 ++ List.replicate (folR rest (folS c ns).1).toNat 0
theorem folS_more {c : Int} {ns : List Int} {i : Nat} {t : Int} (h : ns[i]? = some t) : folS c (ns.take (i + 1)) = folT c (folS c (ns.take i)) t := by
  unfold folS
  rw [take_more h, List.foldl_append]
  rfl
theorem folS_period {c : Int} (hc : 0 < c) (ns : List Int) : 12 * c ≤ (folS c ns).1 ∧ (folS c ns).1 ≤ 20 * c := by
  have : ∀ (l : List Int) (s : Int × List Int), 12 * c ≤ s.1 → s.1 ≤ 20 * c → 12 * c ≤ (l.foldl (folT c) s).1 ∧ (l.foldl (folT c) s).1 ≤ 20 * c := by
    intro l
    induction l with
    | nil => intro s h1 h2; exact ⟨h1, h2⟩
    | cons t r ih =>
      intro s _ _
      refine ih _ ?_ ?_
      · show 12 * c ≤ folP t s.1 c
        unfold folP
        omega
      · show folP t s.1 c ≤ 20 * c
        unfold folP
        omega
  exact this ns _ (by show 12 * c ≤ 16 * c; omega) (by show 16 * c ≤ 20 * c; omega)
theorem folS_len {c : Int} (ns : List Int) (i : Nat) : (folS c (ns.take i)).2.length ≤ (folS c ns).2.length := by
  have : ∀ (l : List Int) (s : Int × List Int), s.2.length ≤ (l.foldl (folT c) s).2.length := by
    intro l
    induction l with
    | nil => intro s; exact Nat.le_refl _
    | cons t r ih =>
      intro s
      refine Nat.le_trans ?_ (ih _)
      show s.2.length ≤ (s.2 ++ oneCells _).length
      rw [List.length_append]
      omega
  have e : folS c ns = (ns.drop i).foldl (folT c) (folS c (ns.take i)) := by
    unfold folS
    rw [← List.foldl_append, List.take_append_drop]
  rw [e]
  exact this _ _
theorem folN_le {t p m : Int} (hp : 0 < p) (h1 : 1 ≤ m) (h : 32 * t + p < (m + 1) * (2 * p)) : folN t p ≤ m := by
  unfold folN
  have : (32 * t + p) / (2 * p) < m + 1 := Int.ediv_lt_of_lt_mul (by omega) h
  omega
def FewF (ns : List Int) (rest c : Int) : Prop := ((folS c ns).2.length : Int) + folR rest (folS c ns).1 ≤ 16000000
theorem folR_nn {t p : Int} (ht : 0 ≤ t) (hp : 0 < p) : 0 ≤ folR t p := Int.ediv_nonneg (by omega) (by omega)
def spFollow (C CE : Addr) : Sp := fun vs H Q E => ∃ (r : Addr) (c : Int) (ns : List Int) (rest : Int), vs = [.ref r, .int c] ∧ RdAt C H r ns rest ∧ OkRead ns rest ∧
  (okCell c → FewF ns rest c ∧ ∀ u H', Same H H' → H u = none → H' u = some (IL (followZ ns rest c)) → Q (.ref u) H') ∧ (¬ okCell c → E (.ref CE) none H)
end Dw
namespace Dw
theorem folS_len_le {c : Int} (hc : 0 < c) {ns : List Int} (h : ∀ t ∈ ns, t ≤ 6 * c) : (folS c ns).2.length ≤ 8 * ns.length := by
  have : ∀ (l : List Int) (s : Int × List Int), (∀ t ∈ l, t ≤ 6 * c) → 12 * c ≤ s.1 → s.1 ≤ 20 * c → (l.foldl (folT c) s).2.length ≤ s.2.length + 8 * l.length := by
    intro l
    induction l with
    | nil => intro s _ _ _; exact Nat.le_refl _
    | cons t r ih =>
      intro s hl h1 h2
      have ht := hl t List.mem_cons_self
      have hN : folN t s.1 ≤ 8 := folN_le (by omega) (by decide) (by omega)
      have hN1 : 1 ≤ folN t s.1 := by unfold folN; omega
      have := ih (folT c s t) (fun x hx => hl x (List.mem_cons_of_mem _ hx)) (by show 12 * c ≤ folP t s.1 c; unfold folP; omega) (by show folP t s.1 c ≤ 20 * c; unfold folP; omega)
      refine Nat.le_trans this ?_
      show (s.2 ++ oneCells (folN t s.1)).length + _ ≤ _
      rw [List.length_append, oneCells_nat hN1, List.length_cons]
      omega
  have := this ns (16 * c, []) h (by show 12 * c ≤ 16 * c; omega) (by show 16 * c ≤ 20 * c; omega)
  have e : ([] : List Int).length + 8 * ns.length = 8 * ns.length := by simp
  rw [← e]
  exact this
end Dw

namespace Dw
open PySem PySem.Spec PyProof.Rows L2
/-! ### loops under a name, so that a symbolic run stops in front of them -/
def LcW (J : It) (g : TG) (tt : TT) (te : TE) (vs : List Nat) (σ : L2.St) (H1 : Hp) (D : Addr) (Qd : Hp → Prop) : Prop :=
  ∃ W : Nat → Nat → Hp → Prop, (∃ m, W 0 m (L2.upd H1 D (.lst []))) ∧ ∀ i m H, W i m H →
    (J.stop i H ∧ Qd H) ∨ (J.go i H ∧ ∃ Nx : Hp → Prop, (∀ H', Nx H' → ∃ m', m' < m ∧ W (i + 1) m' H') ∧ ∀ x H', J.yld i H x H' → g x (wipe σ vs) H' fun σ2 H2 => wipe σ2 vs = wipe σ vs ∧ tt σ2 H2 fun b H3 =>
        if b = true then te σ2 H3 fun y H4 => ∃ acc, H4 D = some (.lst acc) ∧ acc.length < sizeLine ∧ Nx (L2.upd H4 D (.lst (acc ++ [y]))) else Nx H3)
theorem tLc_eq {wi : TI} {g : TG} {tt : TT} {te : TE} {vs : List Nat} {σ : L2.St} {H : Hp} {Q : VK} :
    tLc wi g tt te vs σ H Q = wi σ H fun J H1 => ∀ D, H1 D = none → LcW J g tt te vs σ H1 D fun H' => Q (.ref D) H' := rfl
def ForW (J : It) (g : TG) (tb : TS) (D : Ends) (σ : L2.St) (H1 : Hp) : Prop := ∃ W : Nat → Nat → L2.St → Hp → Prop, (∃ m, W 0 m σ H1) ∧ ∀ i m σ H, W i m σ H →
  (J.stop i H ∧ D.nx σ H) ∨ (J.go i H ∧ ∃ N : L2.St → Hp → Prop, (∀ σ' H', N σ' H' → ∃ m', m' < m ∧ W (i + 1) m' σ' H') ∧ ∀ x H', J.yld i H x H' → g x σ H' fun σ2 H2 => tb { D with nx := N, ct := N, bk := D.nx } σ2 H2)
theorem tFor_eq {wi : TI} {g : TG} {tb : TS} {D : Ends} {σ : L2.St} {H : Hp} : tFor wi g tb D σ H = wi σ H fun J H1 => ForW J g tb D σ H1 := rfl
end Dw

namespace Dw
open PySem PySem.Spec PyProof.Rows L2
/-! ### lists of lists of ints -/
def RowsAt (H : Hp) (p : Addr) (rs : List (List Int)) : Prop := ∃ as : List Addr, H p = some (.lst (as.map V.ref)) ∧ as.length = rs.length ∧ ∀ i a, as[i]? = some a → H a = some (IL (rs.getD i []))
theorem RowsAt.same {H H' : Hp} {p : Addr} {rs : List (List Int)} (h : RowsAt H p rs) (s : Same H H') : RowsAt H' p rs := by
  obtain ⟨as, h1, h2, h3⟩ := h
  exact ⟨as, s _ _ h1, h2, fun i a e => s _ _ (h3 i a e)⟩
theorem refs_at {as : List Addr} {i : Nat} {x : V} (h : (as.map V.ref)[i]? = some x) : ∃ a, as[i]? = some a ∧ x = .ref a := by
  rw [List.getElem?_map] at h
  cases hh : as[i]? with
  | none => rw [hh] at h; cases h
  | some a => rw [hh] at h; exact ⟨a, rfl, (Option.some.inj h).symm⟩
/-- the lists of lists as data -/
def LL (rs : List (List Int)) : List PyData := rs.map fun r => .list (r.map PyData.int)
theorem dp_LL {K : PySem.W.Frag} {H : Hp} : ∀ (as : List Addr) (rs : List (List Int)), as.length = rs.length → (∀ i a, as[i]? = some a → H a = some (IL (rs.getD i []))) → DpAll K H (as.map V.ref) (LL rs)
  | [], [], _, _ => .nil
  | a :: as, r :: rs, hl, h => .cons (dp_IL (h 0 a rfl)) (dp_LL as rs (by simpa using hl) fun i a e => h (i + 1) a e)
  | [], _ :: _, hl, _ => by simp at hl
  | _ :: _, [], hl, _ => by simp at hl
theorem RowsAt.dp {K : PySem.W.Frag} {H : Hp} {p : Addr} {rs : List (List Int)} (h : RowsAt H p rs) : Dp K H (.ref p) (.list (LL rs)) := by
  obtain ⟨as, h1, h2, h3⟩ := h
  exact .lst (.of h1) (dp_LL as rs h2 h3)
theorem dt_LL {H : Hp} : ∀ (as : List Addr) (rs : List (List Int)), as.length = rs.length → (∀ i a, as[i]? = some a → H a = some (IL (rs.getD i []))) → DtAll H (as.map V.ref) (LL rs)
  | [], [], _, _ => .nil
  | a :: as, r :: rs, hl, h => .cons (dt_IL (h 0 a rfl)) (dt_LL as rs (by simpa using hl) fun i a e => h (i + 1) a e)
  | [], _ :: _, hl, _ => by simp at hl
  | _ :: _, [], hl, _ => by simp at hl
theorem RowsAt.dt {H : Hp} {p : Addr} {rs : List (List Int)} (h : RowsAt H p rs) : Dt H (.ref p) (.list (LL rs)) := by
  obtain ⟨as, h1, h2, h3⟩ := h
  exact .lst h1 (dt_LL as rs h2 h3)
theorem LL_lay : ∀ rs : List (List Int), PyData.canLayAll0 (LL rs) = true
  | [] => rfl
  | r :: rs => by
    show PyData.canLayAll0 (.list (r.map PyData.int) :: LL rs) = true
    rw [PyData.canLayAll0, LL_lay rs, PyData.canLay0, canLay_ints r]
    rfl
theorem LL_depth : ∀ rs : List (List Int), PyData.depthAll (LL rs) ≤ 3
  | [] => by decide
  | r :: rs => by
    show PyData.depthAll (.list (r.map PyData.int) :: LL rs) ≤ 3
    have h1 := LL_depth rs
    have h2 := Dw.depthAll_ints r
    simp only [PyData.depthAll, PyData.depth]
    omega
theorem shaped_LL (rs : List (List Int)) : SeqAt.shaped (.list (LL rs)) = true := by
  have h1 := LL_lay rs
  have h2 := LL_depth rs
  unfold SeqAt.shaped
  rw [Bool.and_eq_true]
  refine ⟨by rw [PyData.canLay0]; exact h1, decide_eq_true ?_⟩
  simp only [PyData.depth]
  omega
theorem eqvAll_LL : ∀ rs ts : List (List Int), PyData.eqvAll (LL rs) (LL ts) = decide (rs = ts)
  | [], [] => by
    show PyData.eqvAll [] [] = _
    rw [PyData.eqvAll]
    rfl
  | [], _ :: _ => by
    show PyData.eqvAll [] (_ :: _) = _
    rw [PyData.eqvAll, decide_eq_false (fun e => by cases e)]
  | _ :: _, [] => by
    show PyData.eqvAll (_ :: _) [] = _
    rw [PyData.eqvAll, decide_eq_false (fun e => by cases e)]
  | r :: rs, t :: ts => by
    show PyData.eqvAll (.list (r.map PyData.int) :: LL rs) (.list (t.map PyData.int) :: LL ts) = _
    rw [PyData.eqvAll, eqvAll_LL rs ts, PyData.eqv, eqvAll_ints]
    by_cases h : r = t
    · subst h
      by_cases h2 : rs = ts
      · subst h2; simp
      · rw [decide_eq_false h2, decide_eq_false (fun e => h2 (List.cons.inj e).2)]; simp
    · rw [decide_eq_false h, decide_eq_false (fun e => h (List.cons.inj e).1)]
      rfl
theorem RowsAt.push {H : Hp} {p u : Addr} {as : List Addr} {rs : List (List Int)} {r : List Int} (h1 : H p = some (.lst (as.map V.ref))) (h2 : as.length = rs.length) (h3 : ∀ i a, as[i]? = some a → H a = some (IL (rs.getD i []))) (hu : H u = some (IL r)) (n : u ≠ p) :
    RowsAt (upd H p (.lst (as.map V.ref ++ [.ref u]))) p (rs ++ [r]) := by
  refine ⟨as ++ [u], by rw [upd_same, List.map_append]; rfl, by rw [List.length_append, List.length_append, h2]; rfl, fun i a e => ?_⟩
  by_cases hi : i < as.length
  · rw [List.getElem?_append_left hi] at e
    have e3 := h3 i a e
    have na : a ≠ p := fun q => by
      subst q
      rw [h1] at e3
      unfold IL at e3
      injection e3 with e3
      injection e3 with e3
      cases as with
      | nil => simp at hi
      | cons b bs =>
        cases hr : rs.getD i [] with
        | nil => rw [hr] at e3; cases e3
        | cons c cs => rw [hr] at e3; cases e3
    rw [upd_ne na, e3]
    rw [List.getD_eq_getElem?_getD, List.getD_eq_getElem?_getD, List.getElem?_append_left (by omega)]
  · have hi' : i = as.length := by
      have := (List.getElem?_eq_some_iff.mp e).1
      rw [List.length_append] at this
      simp at this
      omega
    subst hi'
    rw [List.getElem?_append_right (Nat.le_refl _), Nat.sub_self] at e
    cases e
    rw [upd_ne n, hu, List.getD_eq_getElem?_getD, List.getElem?_append_right (by omega), h2, Nat.sub_self]
    rfl
/-- all but P stands: rows that are not at P -/
theorem RowsAt.sameB {P : Addr} {H H' : Hp} {p : Addr} {rs : List (List Int)} (h : RowsAt H p rs) (s : SameB P H H') (n : p ≠ P) (hn : ∀ ns, H P ≠ some (IL ns)) : RowsAt H' p rs := by
  obtain ⟨as, h1, h2, h3⟩ := h
  exact ⟨as, s _ _ n h1, h2, fun i a e => s _ _ (fun q => by subst q; exact hn _ (h3 i _ e)) (h3 i a e)⟩
theorem Pool.nIL {H : Hp} {p q : Addr} (h : Pool H p q) (ns : List Int) : H p ≠ some (IL ns) := by
  obtain ⟨ss, a, b, c, d, h1, _⟩ := h
  rw [h1]
  intro e
  unfold PoolL IL at e
  injection e with e
  injection e with e
  cases ns with
  | nil => cases e
  | cons n r => rw [List.map_cons] at e; injection e with e _; cases e
theorem RowsAt.pool {H H' : Hp} {P q p : Addr} {rs : List (List Int)} (h : RowsAt H p rs) (hP : Pool H P q) (s : SameB P H H') (n : p ≠ P) : RowsAt H' p rs := h.sameB s n hP.nIL
theorem RowsAt.len {H : Hp} {p : Addr} {rs : List (List Int)} (h : RowsAt H p rs) : ∃ xs, H p = some (.lst xs) ∧ xs.length = rs.length := by
  obtain ⟨as, h1, h2, _⟩ := h
  exact ⟨_, h1, by rw [List.length_map, h2]⟩
/-- [[..] for j in range(n)] of drawn lists -/
theorem lc_rowsP {p q : Addr} {R : List Int → Prop} {lo : Int} {n j : Nat} {te : TE} {vs : List Nat} {σ : L2.St} {H1 : Hp} {D : Addr} {Qd : Hp → Prop} (hn : n ≤ 16777215) (hP : Pool H1 p q) (hD : H1 D = none) (hw : ∀ v, wipe ((wipe σ vs).set j v) vs = wipe σ vs)
    (hte : ∀ i H3 (Q' : VK), i < n → Pool H3 p q → SameB p H1 H3 → (∀ u r H4, R r → Pool H4 p q → SameB p H3 H4 → H3 u = none → H4 u = some (IL r) → Q' (.ref u) H4) → te ((wipe σ vs).set j (some (.int (lo + (i : Nat))))) H3 Q')
    (hd : ∀ rs H', rs.length = n → (∀ r ∈ rs, R r) → Pool H' p q → SameB p H1 H' → RowsAt H' D rs → Qd H') :
    LcW (Itr lo n) (gName j) tYes te vs σ H1 D Qd := by
  have hDp : p ≠ D := hP.ne hD
  have hDq : q ≠ D := hP.ne2 hD
  refine lc_range (lo := lo) (n := n) (fun i H' => Pool H' p q ∧ SameB p H1 H' ∧ ∃ rs : List (List Int), RowsAt H' D rs ∧ rs.length = i ∧ ∀ r ∈ rs, R r) ⟨hP.upd hD, Same.b (same_new hD _), [], ⟨[], upd_same, rfl, fun i a h => by simp at h⟩, rfl, fun v h => by cases h⟩ ?_ ?_
  · intro i H hi h
    obtain ⟨h1, h2, rs, h3, h4, h5⟩ := h
    refine ⟨hw _, ?_⟩
    simp only [tYes, if_true]
    refine hte i H _ hi h1 h2 fun u r H4 hR hP4 hs hu eu => ?_
    have h6 := h3.pool h1 hs hDp.symm
    obtain ⟨as, k1, k2, k3⟩ := h6
    obtain ⟨xs, m1, _⟩ := h3.len
    have nu : u ≠ D := fun e => by subst e; rw [m1] at hu; cases hu
    refine ⟨as.map V.ref, k1, by rw [List.length_map, k2, h4]; exact line_lt (by omega), hP4.ups hDp hDq, ?_, rs ++ [r], RowsAt.push k1 k2 k3 eu nu, by rw [List.length_append, h4]; rfl, ?_⟩
    · intro b o nb hb
      rw [upd_ne (ne_of_none hb hD)]
      exact hs b o nb (h2 b o nb hb)
    · intro x hx
      rcases List.mem_append.mp hx with hx | hx
      · exact h5 x hx
      · rw [List.mem_singleton.mp hx]; exact hR
  · intro H h
    obtain ⟨h1, h2, rs, h3, h4, h5⟩ := h
    exact hd rs H h4 h5 h1 h2 h3
/-- [f(x, y) for x, y in zip(xs, ys)] -/
theorem lc_zipI {K : PySem.W.Frag} {a b : Addr} {xs ys : List Int} {f : Int → Int → Int} {i1 i2 : Nat} {te : TE} {vs : List Nat} {σ : L2.St} {H1 : Hp} {D : Addr} {Qd : Hp → Prop} (hn : xs.length ≤ 16777215) (hx : H1 a = some (IL xs)) (hy : H1 b = some (IL ys)) (hD : H1 D = none)
    (hw : ∀ v w, wipe (((wipe σ vs).set i1 v).set i2 w) vs = wipe σ vs)
    (hte : ∀ (i : Nat) x y H3 (Q' : VK), xs[i]? = some x → ys[i]? = some y → Same H1 H3 → (∀ H4, Same H3 H4 → Q' (.int (f x y)) H4) → te (((wipe σ vs).set i1 (some (.int x))).set i2 (some (.int y))) H3 Q')
    (hd : ∀ H', Same H1 H' → H' D = some (IL (List.zipWith f xs ys)) → Qd H') :
    LcW (Itz K a b) (gTup K 2 (gCons (gName i1) (gCons (gName i2) gNil))) tYes te vs σ H1 D Qd := by
  have hl : (List.zipWith f xs ys).length = min (xs.map V.int).length (ys.map V.int).length := by rw [List.length_zipWith, List.length_map, List.length_map]
  refine lc_it (walk_zip (K := K) (a := a) (b := b) (xs := xs.map V.int) (ys := ys.map V.int) hl) (fun i H' => Same H1 H' ∧ H' D = some (IL ((List.zipWith f xs ys).take i))) ⟨same_new hD _, upd_same⟩ (fun i H _ h => ⟨.of (h.1 _ _ hx), .of (h.1 _ _ hy)⟩) ?_ ?_
  · intro i x H H' hi h hy'
    obtain ⟨h1, h2⟩ := h
    obtain ⟨t, x, y, rfl, nt, rfl, ex, ey⟩ := hy'
    obtain ⟨x, rfl, fx⟩ := ints_at ex
    obtain ⟨y, rfl, fy⟩ := ints_at ey
    refine ⟨t, _, rfl, .of upd_same, rfl, V.int x, [V.int y], rfl, V.int y, [], rfl, rfl, hw _ _, ?_⟩
    simp only [tYes, if_true]
    refine hte i x y _ _ fx fy (h1.trans (same_new nt _)) fun H4 hs => ?_
    have e4 : H4 D = some (IL ((List.zipWith f xs ys).take i)) := hs _ _ (same_new nt _ _ _ h2)
    have em : (List.zipWith f xs ys)[i]? = some (f x y) := by rw [List.getElem?_zipWith, fx, fy]
    refine ⟨_, e4, ?_, fun c o hc => ?_, ?_⟩
    · rw [List.length_map]
      have := List.length_take_le i (List.zipWith f xs ys)
      have h3 : (List.zipWith f xs ys).length ≤ xs.length := by rw [List.length_zipWith]; omega
      have := List.length_take_le' i (List.zipWith f xs ys)
      exact line_lt (by omega)
    · rw [upd_ne (ne_of_none hc hD)]
      exact hs _ _ (same_new nt _ _ _ (h1 _ _ hc))
    · rw [upd_same, take_more em]
      unfold IL
      rw [List.map_append]
      rfl
  · intro H h
    rw [List.take_length] at h
    exact hd H h.1 h.2
theorem any_rng {n : Nat} {f : Nat → Bool} : (((List.range n).map f).any id = true) ↔ ∃ i, i < n ∧ f i = true := by
  rw [List.any_map, List.any_eq_true]
  constructor
  · rintro ⟨i, hi, e⟩
    exact ⟨i, List.mem_range.mp hi, e⟩
  · rintro ⟨i, hi, e⟩
    exact ⟨i, List.mem_range.mpr hi, e⟩
/-! ### data of a small depth -/
def Shal (d : PyData) (k : Nat) : Prop := PyData.canLay0 d = true ∧ d.depth ≤ k
def ShalAll (ds : List PyData) (k : Nat) : Prop := PyData.canLayAll0 ds = true ∧ PyData.depthAll ds ≤ k
theorem Shal.int {i : Int} {k : Nat} : Shal (.int i) (k + 1) := ⟨by simp only [PyData.canLay0], by simp only [PyData.depth]; omega⟩
theorem Shal.bl {i : Bool} {k : Nat} : Shal (.bool i) (k + 1) := ⟨by simp only [PyData.canLay0], by simp only [PyData.depth]; omega⟩
theorem Shal.non {k : Nat} : Shal .none (k + 1) := ⟨by simp only [PyData.canLay0], by simp only [PyData.depth]; omega⟩
theorem ShalAll.ints {ns : List Int} {k : Nat} : ShalAll (ns.map PyData.int) (k + 1) := ⟨canLay_ints ns, by have := Dw.depthAll_ints ns; omega⟩
theorem ShalAll.nil {k : Nat} : ShalAll [] (k + 1) := ⟨by simp only [PyData.canLayAll0], by simp only [PyData.depthAll]; omega⟩
theorem ShalAll.cons {d : PyData} {ds : List PyData} {k : Nat} (a : Shal d k) (b : ShalAll ds k) : ShalAll (d :: ds) k := ⟨by rw [PyData.canLayAll0, a.1, b.1]; rfl, by
  have h1 := a.2
  have h2 := b.2
  simp only [PyData.depthAll]
  omega⟩
theorem Shal.list {ds : List PyData} {k : Nat} (a : ShalAll ds k) : Shal (.list ds) (k + 1) := ⟨by rw [PyData.canLay0]; exact a.1, by have := a.2; simp only [PyData.depth]; omega⟩
theorem Shal.tup {ds : List PyData} {k : Nat} (a : ShalAll ds k) : Shal (.tuple ds) (k + 1) := ⟨by rw [PyData.canLay0]; exact a.1, by have := a.2; simp only [PyData.depth]; omega⟩
theorem same_of {d : PyData} {x y : V} {H : Hp} {Q : VK} {E : XK} (hs : Shal d 7) (hx : Dt H x d) (hy : Dt H y d) (q : Q (.bl true) H) : spSame 8 [x, y] H Q E :=
  ⟨x, y, d, rfl, hx, hy, by have := hs.2; omega, by
    unfold SeqAt.shaped
    rw [Bool.and_eq_true]
    exact ⟨hs.1, decide_eq_true (by have := hs.2; omega)⟩, q⟩
theorem nat_of {z : Int} (h : 0 ≤ z) : ∃ n : Nat, z = (n : Int) := ⟨z.toNat, by omega⟩
theorem ins_at {α : Type} {l : List α} {i j : Nat} {x : α} (hi : i ≤ l.length) : (l.take i ++ [x] ++ l.drop i)[j]? = if j < i then l[j]? else if j = i then some x else l[j - 1]? := by
  have e1 : (l.take i).length = i := by rw [List.length_take]; omega
  by_cases h : j < i
  · rw [if_pos h, List.append_assoc, List.getElem?_append_left (by omega), List.getElem?_take_of_lt h]
  · rw [if_neg h]
    by_cases h2 : j = i
    · rw [if_pos h2, List.append_assoc, List.getElem?_append_right (by omega), e1, h2, Nat.sub_self]
      rfl
    · rw [if_neg h2, List.getElem?_append_right (by rw [List.length_append, e1]; simp; omega), List.length_append, e1, List.getElem?_drop]
      simp only [List.length_cons, List.length_nil]
      congr 1
      omega
theorem RowsAt.ins {H : Hp} {p u : Addr} {as : List Addr} {rs : List (List Int)} {r : List Int} {i : Nat} (hi : i ≤ as.length) (h1 : H p = some (.lst (as.map V.ref))) (h2 : as.length = rs.length) (h3 : ∀ i a, as[i]? = some a → H a = some (IL (rs.getD i []))) (hu : H u = some (IL r)) (n : u ≠ p) :
    RowsAt (upd H p (.lst ((as.map V.ref).take i ++ [.ref u] ++ (as.map V.ref).drop i))) p (rs.take i ++ [r] ++ rs.drop i) := by
  have nas : ∀ i a, as[i]? = some a → a ≠ p := fun i a e q => by
    subst q
    have e3 := h3 i _ e
    rw [h1] at e3
    unfold IL at e3
    injection e3 with e3
    injection e3 with e3
    cases as with
    | nil => simp at e
    | cons b bs =>
      cases hr : rs.getD i [] with
      | nil => rw [hr] at e3; cases e3
      | cons c cs => rw [hr] at e3; cases e3
  refine ⟨as.take i ++ [u] ++ as.drop i, by rw [upd_same, List.map_append, List.map_append, List.map_take, List.map_drop]; rfl, by simp only [List.length_append, List.length_take, List.length_drop, List.length_cons, List.length_nil, h2], fun j a e => ?_⟩
  rw [ins_at hi] at e
  rw [List.getD_eq_getElem?_getD, ins_at (by omega)]
  by_cases c : j < i
  · rw [if_pos c] at e ⊢
    rw [upd_ne (nas _ _ e), h3 _ _ e, List.getD_eq_getElem?_getD]
  · rw [if_neg c] at e ⊢
    by_cases c2 : j = i
    · rw [if_pos c2] at e ⊢
      cases e
      rw [upd_ne n, hu]
      rfl
    · rw [if_neg c2] at e ⊢
      rw [upd_ne (nas _ _ e), h3 _ _ e, List.getD_eq_getElem?_getD]
/-- [list(row) for row in rows] -/
theorem lc_copyRows {K : PySem.W.Frag} {p : Addr} {rs : List (List Int)} {j : Nat} {te : TE} {vs : List Nat} {σ : L2.St} {H1 : Hp} {D : Addr} {Qd : Hp → Prop} (hn : rs.length ≤ 16777215) (hR : RowsAt H1 p rs) (hD : H1 D = none) (hw : ∀ v, wipe ((wipe σ vs).set j v) vs = wipe σ vs)
    (hte : ∀ i a H3 (Q' : VK), i < rs.length → Same H1 H3 → H3 a = some (IL (rs.getD i [])) → (∀ u, H3 u = none → Q' (.ref u) (L2.upd H3 u (IL (rs.getD i [])))) → te ((wipe σ vs).set j (some (.ref a))) H3 Q')
    (hd : ∀ H', Same H1 H' → RowsAt H' D rs → Qd H') :
    LcW (Itl K p) (gName j) tYes te vs σ H1 D Qd := by
  obtain ⟨as, hp, hl, ha⟩ := hR
  refine lc_list (K := K) (a := p) (xs := as.map V.ref) (fun i H' => Same H1 H' ∧ RowsAt H' D (rs.take i)) ⟨same_new hD _, [], upd_same, by simp, fun j b h => by simp at h⟩ (fun i H' _ h => Same.seq h.1 (.of hp)) ?_ ?_
  · intro i x H' hx h
    obtain ⟨s7, cs, e7, hl7, hcs⟩ := h
    refine ⟨hw _, ?_⟩
    simp only [tYes, if_true]
    obtain ⟨a, hai, rfl⟩ := refs_at hx
    have hlt : i < as.length := (List.getElem?_eq_some_iff.mp hai).1
    have e8 := s7 _ _ (ha i a hai)
    refine hte i a H' _ (by omega) s7 e8 fun u hu => ?_
    have nu : D ≠ u := ne_of_none e7 hu
    have hP := RowsAt.push (H := L2.upd H' u (IL (rs.getD i []))) (p := D) (u := u) (as := cs) (rs := rs.take i) (r := rs.getD i []) (by rw [upd_ne nu]; exact e7) hl7 (fun j b e => same_new hu _ _ _ (hcs j b e)) upd_same nu.symm
    have et : rs.take (i + 1) = rs.take i ++ [rs.getD i []] := by
      rw [List.take_succ, List.getD_eq_getElem?_getD, List.getElem?_eq_getElem (by omega)]
      rfl
    have hcl : cs.length ≤ rs.length := by
      rw [hl7, List.length_take]
      omega
    refine ⟨_, by rw [upd_ne nu]; exact e7, by rw [List.length_map]; exact line_lt (by omega), fun b o hb' => ?_, ?_⟩
    · rw [upd_ne (ne_of_none hb' hD)]
      exact same_new hu _ _ _ (s7 _ _ hb')
    · rw [et]
      exact hP
  · intro H6 h
    obtain ⟨s7, hR6⟩ := h
    rw [List.length_map, hl, List.take_length] at hR6
    exact hd H6 s7 hR6
end Dw

namespace Dw
open PySem PySem.Spec PyProof.Rows L2
/-! ### numbers as digits of the base 128 -/
def digs (n : Nat) : List Int := if h : n > 127 then (128 + ((n % 128 : Nat) : Int)) :: digs (n / 128) else [(n : Int)]
termination_by n
decreasing_by omega
theorem digs_big {n : Nat} (h : n > 127) : digs n = (128 + ((n % 128 : Nat) : Int)) :: digs (n / 128) := by
  rw [digs, dif_pos h]
theorem digs_small {n : Nat} (h : ¬ n > 127) : digs n = [(n : Int)] := by
  rw [digs, dif_neg h]
theorem digs_len : ∀ (k n : Nat), n < 128 ^ (k + 1) → (digs n).length ≤ k + 1
  | 0, n, h => by
    rw [digs_small (by omega)]
    exact Nat.le_refl _
  | k + 1, n, h => by
    by_cases c : n > 127
    · rw [digs_big c, List.length_cons]
      have := digs_len k (n / 128) (by
        rw [Nat.div_lt_iff_lt_mul (by decide)]
        rw [Nat.pow_succ] at h
        exact h)
      omega
    · rw [digs_small c]
      exact Nat.le_add_left _ _
/-- how many digits there are in front of the last one -/
def lead : List Int → Nat
  | [] => 0
  | x :: r => if x > 127 then lead r + 1 else 0
def valD (ds : List Int) : Int := ds.foldr (fun d acc => acc * 128 + d % 128) 0
theorem valD_snoc : ∀ (ds : List Int) (x : Int), valD (ds ++ [x]) = valD ds + 128 ^ ds.length * (x % 128)
  | [], x => by
    show 0 * 128 + x % 128 = 0 + 128 ^ 0 * (x % 128)
    simp
  | d :: r, x => by
    have ih := valD_snoc r x
    show valD (r ++ [x]) * 128 + d % 128 = valD r * 128 + d % 128 + 128 ^ (r.length + 1) * (x % 128)
    rw [ih, Int.add_mul, Int.pow_succ, Int.mul_right_comm]
    omega
theorem lead_le : ∀ ns : List Int, lead ns ≤ ns.length
  | [] => Nat.le_refl _
  | x :: r => by
    have := lead_le r
    show (if x > 127 then lead r + 1 else 0) ≤ r.length + 1
    split <;> omega
theorem lead_at : ∀ {ns : List Int} {i : Nat}, i < lead ns → ∃ x, ns[i]? = some x ∧ x > 127
  | [], _, h => absurd h (Nat.not_lt_zero _)
  | x :: r, i, h => by
    unfold lead at h
    by_cases c : x > 127
    · rw [if_pos c] at h
      cases i with
      | zero => exact ⟨x, rfl, c⟩
      | succ i => exact lead_at (ns := r) (i := i) (by omega)
    · rw [if_neg c] at h
      exact absurd h (Nat.not_lt_zero _)
theorem lead_stop : ∀ {ns : List Int} {x : Int}, ns[lead ns]? = some x → ¬ x > 127
  | [], _, h => by cases h
  | y :: r, x, h => by
    unfold lead at h
    by_cases c : y > 127
    · rw [if_pos c, List.getElem?_cons_succ] at h
      exact lead_stop h
    · rw [if_neg c] at h
      cases h
      exact c
theorem lead_eq {ns : List Int} {i : Nat} {x : Int} (h1 : i ≤ lead ns) (h2 : ns[i]? = some x) (h3 : ¬ x > 127) : lead ns = i := by
  apply Classical.byContradiction
  intro c
  obtain ⟨y, e, hy⟩ := lead_at (ns := ns) (i := i) (by omega)
  rw [h2] at e
  cases e
  exact h3 hy
theorem lead_digs : ∀ (n : Nat) (r : List Int), lead (digs n ++ r) + 1 = (digs n).length := by
  intro n
  induction n using Nat.strongRecOn with
  | ind n ih =>
    intro r
    by_cases c : n > 127
    · rw [digs_big c, List.cons_append, List.length_cons]
      unfold lead
      rw [if_pos (by omega), ih (n / 128) (by omega) r]
    · rw [digs_small c]
      show lead ((n : Int) :: r) + 1 = 1
      unfold lead
      rw [if_neg (by omega)]
theorem val_digs : ∀ n : Nat, valD (digs n) = (n : Int) := by
  intro n
  induction n using Nat.strongRecOn with
  | ind n ih =>
    by_cases c : n > 127
    · rw [digs_big c]
      show valD (digs (n / 128)) * 128 + (128 + ((n % 128 : Nat) : Int)) % 128 = _
      rw [ih (n / 128) (by omega)]
      omega
    · rw [digs_small c]
      show 0 * 128 + (n : Int) % 128 = _
      omega
theorem last_digs : ∀ n : Nat, 1 < (digs n).length → (digs n).getD ((digs n).length - 1) 0 ≠ 0 := by
  intro n
  induction n using Nat.strongRecOn with
  | ind n ih =>
    intro h
    by_cases c : n > 127
    · have hl : 0 < (digs (n / 128)).length := by
        have := lead_digs (n / 128) []
        omega
      rw [digs_big c, List.length_cons]
      have e : (digs (n / 128)).length + 1 - 1 = ((digs (n / 128)).length - 1) + 1 := by omega
      rw [e, List.getD_cons_succ]
      by_cases h2 : 1 < (digs (n / 128)).length
      · exact ih (n / 128) (by omega) h2
      · have c2 : ¬ n / 128 > 127 := fun c2 => by
          rw [digs_big c2, List.length_cons] at h2
          have := lead_digs (n / 128 / 128) []
          omega
        rw [digs_small c2]
        show ((n / 128 : Nat) : Int) ≠ 0
        omega
    · rw [digs_small c] at h
      exact absurd h (Nat.lt_irrefl _)
/-- the number that begins at a place, and the place behind it -/
def rdZ (ns : List Int) (i : Nat) : Option (Int × Nat) :=
  let m := lead (ns.drop i)
  if i + m < ns.length ∧ ¬ (0 < m ∧ ns.getD (i + m) 0 = 0) then some (valD ((ns.drop i).take (m + 1)), i + m + 1) else none
theorem rd_digs (pre : List Int) (n : Nat) (r : List Int) : rdZ (pre ++ digs n ++ r) pre.length = some ((n : Int), pre.length + (digs n).length) := by
  have hd : (pre ++ digs n ++ r).drop pre.length = digs n ++ r := by
    rw [List.append_assoc, List.drop_left]
  have hl := lead_digs n r
  have hg : ∀ i, (pre ++ digs n ++ r).getD (pre.length + i) 0 = (digs n ++ r).getD i 0 := fun i => by
    rw [List.append_assoc, List.getD_eq_getElem?_getD, List.getElem?_append_right (by omega), List.getD_eq_getElem?_getD]
    congr 2
    omega
  unfold rdZ
  simp only [hd, hg]
  rw [if_pos]
  · have e : lead (digs n ++ r) + 1 = (digs n).length := hl
    rw [e, List.take_left, val_digs, ← e]
    rfl
  · refine ⟨by rw [List.length_append, List.length_append]; omega, fun ⟨h1, h2⟩ => ?_⟩
    have e : lead (digs n ++ r) = (digs n).length - 1 := by omega
    rw [e, List.getD_eq_getElem?_getD, List.getElem?_append_left (by omega), ← List.getD_eq_getElem?_getD] at h2
    exact last_digs n (by omega) h2
theorem cdivW_r {i j : Int} (h1 : 0 < j) (h2 : j < 18446744073709551616) : CDivW i j = True := eq_true ⟨h1, by
  have h3 : j.natAbs < 2 ^ 64 := by omega
  have h4 : j.natAbs ≠ 0 := by omega
  have := (Nat.log2_lt h4).mpr h3
  omega⟩
def spDrawW : Sp := fun vs H Q _ => ∃ (p q : Addr) (m : Int), vs = [.ref p, .int m] ∧ Pool H p q ∧ 0 < m ∧ m < 18446744073709551616 ∧ ∀ r H', 0 ≤ r → r < m → Pool H' p q → SameB p H H' → Q (.int r) H'
theorem drawW {vs : List V} {H : Hp} {Q : VK} {E : XK} (h : spDraw vs H Q E) : spDrawW vs H Q E := by
  obtain ⟨p, q, m, e, h1, h2, h3, k⟩ := h
  exact ⟨p, q, m, e, h1, h2, by omega, k⟩
def spWriteNumber : Sp := fun vs H Q _ => ∃ n : Nat, vs = [.int n] ∧ n < 128 ^ 100 ∧ ∀ D H', Same H H' → H D = none → H' D = some (IL (digs n)) → Q (.ref D) H'
def spReadNumber (CE : Addr) : Sp := fun vs H Q E => ∃ (a : Addr) (ns : List Int) (i : Nat), vs = [.ref a, .int i] ∧ H a = some (IL ns) ∧ ns.length ≤ 1000000 ∧
  (∀ v k, rdZ ns i = some (v, k) → ∀ t H', Same H H' → H t = none → H' t = some (.tup [.int v, .int (k : Int)]) → Q (.ref t) H') ∧ (rdZ ns i = none → ∀ H', Same H H' → E (.ref CE) none H')
theorem cutI_nat {ns : List Int} {i j : Nat} (h : i ≤ j) (h2 : j ≤ ns.length) : cutI ns (some (i : Int)) (some (j : Int)) = (ns.drop i).take (j - i) := by
  unfold cutI
  rw [HT.sIx_nat, HT.sIx_nat, Nat.min_eq_left h2, Nat.min_eq_left (Nat.le_trans h h2)]
theorem valD_drop {ds : List Int} {t : Nat} {x : Int} (h : t < ds.length) (hx : ds[ds.length - 1 - t]? = some x) : valD (ds.drop (ds.length - (t + 1))) = valD (ds.drop (ds.length - t)) * 128 + x % 128 := by
  have h1 : ds.length - (t + 1) < ds.length := by omega
  have e : ds.length - (t + 1) + 1 = ds.length - t := by omega
  have e2 : ds.length - 1 - t = ds.length - (t + 1) := by omega
  rw [e2, List.getElem?_eq_getElem h1] at hx
  rw [List.drop_eq_getElem_cons h1, e, Option.some.inj hx]
  rfl
end Dw

namespace Dw
open PySem PySem.Spec PyProof.Rows L2
/-! ### xs[lo:hi:c] of a list, c written and positive -/
def picks {α : Type} (xs : List α) (lo hi : Option Int) (c : Int) : List α :=
  (sliceRange (sliceBounds lo hi (some c) xs.length).1 (sliceBounds lo hi (some c) xs.length).2.1 (sliceBounds lo hi (some c) xs.length).2.2).filterMap (xs[·]?)
theorem vals_pick {xs : List V} {us : List Value} (r : Vals xs us) : ∀ is : List Nat, Vals (is.filterMap (xs[·]?)) (is.filterMap (us[·]?))
  | [] => .nil
  | i :: is => by
    have ih := vals_pick r is
    rw [List.filterMap_cons, List.filterMap_cons]
    cases e : xs[i]? with
    | none =>
      rw [Vals.none_of r e]
      exact ih
    | some x =>
      obtain ⟨u, eu, ru⟩ := Vals.get r e
      rw [eu]
      exact .cons ru ih
theorem picks_map {α β : Type} (f : α → β) (xs : List α) (lo hi : Option Int) (c : Int) : picks (xs.map f) lo hi c = (picks xs lo hi c).map f := by
  unfold picks
  rw [List.length_map, List.map_filterMap]
  congr 1
  funext i
  rw [List.getElem?_map]
/-- what is asked, by values: any reading that gives this -/
def SlcOk (K : PySem.W.Frag) (c : Int) (rd : V → Option Int → Option Int → Hp → VK → Prop) : Prop := ∀ x l u H Q, rd x l u H Q → ∃ a xs, x = .ref a ∧ SqL K H a xs ∧ ∀ p, H p = none → Q (.ref p) (upd H p (.lst (picks xs l u c)))
def rSlCI (c : Int) : V → Option Int → Option Int → Hp → VK → Prop := fun x l u H Q => ∃ a ns, x = .ref a ∧ H a = some (IL ns) ∧ ∀ p, H p = none → Q (.ref p) (upd H p (IL (picks ns l u c)))
theorem slcI {K : PySem.W.Frag} {c : Int} : SlcOk K c (rSlCI c) := fun x l u H Q h => by
  obtain ⟨a, ns, e, h1, q⟩ := h
  refine ⟨a, _, e, .of h1, fun p hp => ?_⟩
  rw [picks_map]
  exact q p hp
section
variable {X : Cx}
theorem pe_sliceC {e : Expr} {lo hi : Option Expr} {te : TE} {tl th : TO} {rd : V → Option Int → Option Int → Hp → VK → Prop} {c : Int} {k : Nat} {p1 p3 pos : Pos} (ok : SlcOk X.K c rd) (hc : (some c : Option Int) ≠ some 0) (he : PE X e te) (hl : PO X lo tl) (hu : PO X hi th) :
    PE X (.Subscript e (.Slice lo hi (some (.Constant (.int c) k p1)) p3) pos) (tSl rd te tl th) := by
  refine ⟨fun pins s σ H Q I h => ?_⟩
  refine Subscript_ (thn (he.run pins s σ H _ I h) fun v s1 ⟨x, H1, I1, r1, q1⟩ => ?_)
  have hst : PO X (some (.Constant (.int c) k p1)) (tPart (tC (.int c))) := po_some pe_int
  refine wpAny_Slice (thn (hl.run pins s1 σ H1 _ I1 q1) fun vl s2 ⟨l, H2, I2, pl, q2⟩ => ?_)
  refine thn (hu.run pins s2 σ H2 _ I2 q2) fun vu s3 ⟨u, H3, I3, pu, q3⟩ => ?_
  obtain ⟨a, xs, ex, hx, q⟩ := ok _ _ _ _ _ q3
  subst ex
  cases r1
  refine thn (hst.run pins s3 σ H3 (fun o H4 => o = some c ∧ H4 = H3) I3 ⟨c, rfl, rfl, rfl⟩) fun vs s4 ⟨o, H4, I4, ps, eo, e4⟩ => ?_
  subst eo e4
  have I5 : Inv X pins σ H4 { s4 with heap := s4.heap.push { cls := .type "slice", data := .fields #[vl, vu, vs] } } := I4.kept (t' := s4.toks) fun b ob q => Heap.get?_push_of_some _ q
  obtain ⟨its, r, ht, hz⟩ := I5.list hx
  have hlen := r.length
  show wpAny (model X.prog X.w) X.A (subscriptTail e (.Slice lo hi (some (.Constant (.int c) k p1)) p3) (.ref a) (.ref s4.heap.objs.size)) (EP X pins σ Q) X.xe { s4 with heap := s4.heap.push { cls := .type "slice", data := .fields #[vl, vu, vs] } }
  refine tail_any (ops := [.ref a, .ref s4.heap.objs.size]) ht.isList.typeIs (PySem.slot_list_getitem.lookup) ?_ (by with_unfolding_all rfl)
  refine wpAny_getItem_list_slice ht.isList (Heap.IsSliceOf.new _ vl vu vs) pl pu ps hc ?_ (by rw [List.size_toArray]; omega)
  have ep : slicePick its.toArray l u (some c) = (picks its l u c).toArray := by
    unfold slicePick picks
    rw [List.size_toArray]
    congr 2
    funext i
    exact List.getElem?_toArray ..
  rw [ep]
  have hle := slicePick_size_le its.toArray l u (some c)
  rw [ep, List.size_toArray, List.size_toArray] at hle
  have hv : Vals (picks xs l u c) (picks its l u c) := by
    unfold picks
    rw [hlen]
    exact vals_pick r _
  refine ⟨.ref _, _, I5.laid (t' := s4.toks) (o := .lst (picks xs l u c)) (fun b ob q => Heap.get?_push_of_some _ q) (Nat.le_refl _) ?_, rfl, q _ (I5.hok.fresh (Nat.le_refl _))⟩
  exact ⟨by rw [hv.length]; omega, _, 0, hv, Heap.get?_push_size _ rfl⟩
end
/-! every c-th one -/
theorem filterMap_some {α β : Type} {g : α → Option β} {h : α → β} : ∀ {l : List α}, (∀ i ∈ l, g i = some (h i)) → l.filterMap g = l.map h
  | [], _ => rfl
  | x :: r, q => by
    rw [List.filterMap_cons, q x List.mem_cons_self, List.map_cons, filterMap_some fun i hi => q i (List.mem_cons_of_mem _ hi)]
theorem range_pick {ns : List Int} {a c n : Nat} (hc : 0 < c) (ha : a ≤ n) (hn : n ≤ ns.length) :
    (sliceRange (a : Int) (n : Int) (c : Int)).filterMap (ns[·]?) = (List.range ((n - a + c - 1) / c)).map fun i => ns.getD (a + c * i) 0 := by
  have hcount : (if (c : Int) > 0 then (if (a : Int) < (n : Int) then ((n : Int) - (a : Int) + (c : Int) - 1) / (c : Int) else 0) else (if (a : Int) > (n : Int) then ((a : Int) - (n : Int) - (c : Int) - 1) / (-(c : Int)) else 0)).toNat = (n - a + c - 1) / c := by
    rw [if_pos (by omega)]
    by_cases h : a < n
    · rw [if_pos (by omega)]
      have e : (n : Int) - (a : Int) + (c : Int) - 1 = ((n - a + c - 1 : Nat) : Int) := by omega
      rw [e, ← Int.natCast_ediv, Int.toNat_natCast]
    · rw [if_neg (by omega)]
      have e : n - a + c - 1 = c - 1 := by omega
      rw [e, Nat.div_eq_of_lt (by omega)]
      rfl
  unfold sliceRange
  simp only
  rw [hcount, List.filterMap_map]
  refine filterMap_some fun i hi => ?_
  rw [List.mem_range] at hi
  have h1 : c * ((n - a + c - 1) / c) ≤ n - a + c - 1 := Nat.mul_div_le _ _
  have h2 : c * (i + 1) ≤ c * ((n - a + c - 1) / c) := Nat.mul_le_mul_left c hi
  rw [Nat.mul_add, Nat.mul_one] at h2
  have h3 : a + c * i < ns.length := by omega
  have e : ((a : Int) + (c : Int) * (i : Int)).toNat = a + c * i := by
    have : (c : Int) * (i : Int) = ((c * i : Nat) : Int) := by rw [Int.natCast_mul]
    omega
  simp only [Function.comp]
  rw [e, List.getElem?_eq_getElem h3, List.getD_eq_getElem?_getD, List.getElem?_eq_getElem h3]
  rfl
theorem range_none {ns : List Int} {a b c : Int} (hc : 0 < c) (h : b ≤ a) : (sliceRange a b c).filterMap (ns[·]?) = [] := by
  unfold sliceRange
  simp only
  rw [if_pos hc, if_neg (by omega)]
  rfl
theorem picks_to {ns : List Int} {a c n : Nat} (hc : 0 < c) (hn : n ≤ ns.length) :
    picks ns (some (a : Int)) (some (n : Int)) (c : Int) = (List.range ((n - a + c - 1) / c)).map fun i => ns.getD (a + c * i) 0 := by
  have hb : sliceBounds (some (a : Int)) (some (n : Int)) (some (c : Int)) ns.length = (((min a ns.length : Nat) : Int), (n : Int), (c : Int)) := by
    have h1 : (c : Int) > 0 := by omega
    have h2 : ¬ (a : Int) < 0 := by omega
    have h3 : ¬ (n : Int) < 0 := by omega
    simp only [sliceBounds, Option.getD_some, h1, h2, h3, if_true, if_false]
    congr 1
    · omega
    · congr 1
      omega
  unfold picks
  rw [hb]
  by_cases ha : a ≤ n
  · have e : min a ns.length = a := by omega
    rw [e]
    exact range_pick hc ha hn
  · simp only
    rw [range_none (by omega) (by omega)]
    have e : n - a + c - 1 = c - 1 := by omega
    rw [e, Nat.div_eq_of_lt (by omega)]
    rfl
theorem picks_from {ns : List Int} {a c : Nat} (hc : 0 < c) :
    picks ns (some (a : Int)) none (c : Int) = (List.range ((ns.length - a + c - 1) / c)).map fun i => ns.getD (a + c * i) 0 := by
  have hb : sliceBounds (some (a : Int)) none (some (c : Int)) ns.length = (((min a ns.length : Nat) : Int), (ns.length : Int), (c : Int)) := by
    have h1 : (c : Int) > 0 := by omega
    have h2 : ¬ (a : Int) < 0 := by omega
    simp only [sliceBounds, Option.getD_some, h1, h2, if_true, if_false]
    congr 1
    omega
  unfold picks
  rw [hb]
  by_cases ha : a ≤ ns.length
  · have e : min a ns.length = a := by omega
    rw [e]
    exact range_pick hc ha (Nat.le_refl _)
  · simp only
    rw [range_none (by omega) (by omega)]
    have e : ns.length - a + c - 1 = c - 1 := by omega
    rw [e, Nat.div_eq_of_lt (by omega)]
    rfl
/-! ### reading cells -/
def evens (cs : List Int) (n : Nat) : List Int := (List.range n).map fun i => cs.getD (2 * i) 0
def odds (cs : List Int) (n : Nat) : List Int := (List.range n).map fun i => cs.getD (2 * i + 1) 0
theorem evens_len (cs : List Int) (n : Nat) : (evens cs n).length = n := by unfold evens; rw [List.length_map, List.length_range]
theorem odds_len (cs : List Int) (n : Nat) : (odds cs n).length = n := by unfold odds; rw [List.length_map, List.length_range]
theorem evens_get {cs : List Int} {n i : Nat} (h : i < n) : (evens cs n).getD i 0 = cs.getD (2 * i) 0 := by
  unfold evens
  rw [List.getD_eq_getElem?_getD, List.getElem?_map, List.getElem?_range h]
  rfl
theorem odds_get {cs : List Int} {n i : Nat} (h : i < n) : (odds cs n).getD i 0 = cs.getD (2 * i + 1) 0 := by
  unfold odds
  rw [List.getD_eq_getElem?_getD, List.getElem?_map, List.getElem?_range h]
  rfl
theorem getD_take {cs : List Int} {n i : Nat} (h : i < n) : (cs.take n).getD i 0 = cs.getD i 0 := by
  rw [List.getD_eq_getElem?_getD, List.getD_eq_getElem?_getD, List.getElem?_take_of_lt h]
theorem whole_even {cs : List Int} {n : Nat} (h : 2 * n ≤ cs.length) : picks (cs.take (2 * n)) (some 0) none 2 = evens cs n := by
  have e := picks_from (ns := cs.take (2 * n)) (a := 0) (c := 2) (by decide)
  have hl : (cs.take (2 * n)).length = 2 * n := by rw [List.length_take]; omega
  rw [hl] at e
  have e2 : (2 * n - 0 + 2 - 1) / 2 = n := by omega
  rw [e2] at e
  refine e.trans ?_
  unfold evens
  refine List.map_congr_left fun i hi => ?_
  rw [List.mem_range] at hi
  rw [Nat.zero_add, getD_take (by omega)]
theorem whole_odd {cs : List Int} {n : Nat} (h : 2 * n ≤ cs.length) : picks (cs.take (2 * n)) (some 1) none 2 = odds cs n := by
  have e := picks_from (ns := cs.take (2 * n)) (a := 1) (c := 2) (by decide)
  have hl : (cs.take (2 * n)).length = 2 * n := by rw [List.length_take]; omega
  rw [hl] at e
  have e2 : (2 * n - 1 + 2 - 1) / 2 = n := by omega
  rw [e2] at e
  refine e.trans ?_
  unfold odds
  refine List.map_congr_left fun i hi => ?_
  rw [List.mem_range] at hi
  rw [getD_take (by omega), Nat.add_comm]
theorem part_even {cs : List Int} {n : Nat} (h : 2 * n ≤ cs.length) : picks cs (some 0) (some ((2 * n : Nat) : Int)) 2 = evens cs n := by
  have e := picks_to (ns := cs) (a := 0) (c := 2) (n := 2 * n) (by decide) h
  have e2 : (2 * n - 0 + 2 - 1) / 2 = n := by omega
  rw [e2] at e
  refine e.trans ?_
  unfold evens
  refine List.map_congr_left fun i hi => ?_
  rw [Nat.zero_add]
theorem part_odd {cs : List Int} {n : Nat} (h : 2 * n ≤ cs.length) : picks cs (some 1) (some ((2 * n : Nat) : Int)) 2 = odds cs n := by
  have e := picks_to (ns := cs) (a := 1) (c := 2) (n := 2 * n) (by decide) h
  have e2 : (2 * n - 1 + 2 - 1) / 2 = n := by omega
  rw [e2] at e
  refine e.trans ?_
  unfold odds
  refine List.map_congr_left fun i hi => ?_
  rw [Nat.add_comm]
def byteZ (ns : List Int) : Int := ns.foldl (fun v b => 2 * v + b) 0
theorem byteZ_more {ns : List Int} {i : Nat} {b : Int} (h : ns[i]? = some b) : byteZ (ns.take (i + 1)) = 2 * byteZ (ns.take i) + b := by
  unfold byteZ
  rw [List.take_succ, h, List.foldl_append]
  rfl
theorem byteZ_bits8 {v : Nat} (hv : v < 256) : byteZ (bits8 v) = (v : Int) := by
  unfold byteZ bits8
  simp only [List.foldl_cons, List.foldl_nil]
  omega
/-- bytes of eight bits each -/
def bytesZ (ns : List Int) : List Int := (List.range (ns.length / 8)).map fun k => byteZ ((ns.drop (8 * k)).take 8)
def fmF (cl : List Int) : List Int := ((List.range cl.length).filter fun i => !decide (cl.getD i 0 = 1)).map fun i : Nat => (i : Int)
def lastB (before : Int) (bs : List Int) (i : Nat) : Int := if i = 0 then before else bs.getD (i - 1) 0
def mfmT (before : Int) (cl bs : List Int) (i : Nat) : Bool := !decide (cl.getD i 0 = clk (lastB before bs i) (bs.getD i 0))
def mfmFa (before : Int) (cl bs : List Int) : List Int := ((List.range cl.length).filter (mfmT before cl bs)).map fun i : Nat => (i : Int)
def spReadFm : Sp := fun vs H Q _ => ∃ (a : Addr) (cs : List Int), vs = [.ref a] ∧ H a = some (IL cs) ∧ cs.length ≤ 1000000 ∧
  ∀ t b f H', Same H H' → H t = none → H' t = some (.tup [.ref b, .ref f]) → H' b = some (IL (bytesZ (odds cs (8 * (cs.length / 16))))) → H' f = some (IL (fmF (evens cs (8 * (cs.length / 16))))) → Q (.ref t) H'
def spReadMfm : Sp := fun vs H Q _ => ∃ (a : Addr) (cs : List Int) (before : Int), vs = [.ref a, .int before] ∧ H a = some (IL cs) ∧ cs.length ≤ 1000000 ∧
  ∀ t b f H', Same H H' → H t = none → H' t = some (.tup [.ref b, .ref f]) → H' b = some (IL (bytesZ (odds cs (8 * (cs.length / 16))))) → H' f = some (IL (mfmFa before (evens cs (8 * (cs.length / 16))) (odds cs (8 * (cs.length / 16))))) → Q (.ref t) H'
def spWhole : Sp := fun vs H Q _ => ∃ (a : Addr) (cs : List Int) (c : Nat), vs = [.ref a, .int (c : Int)] ∧ H a = some (IL cs) ∧ cs.length ≤ 1000000 ∧ 0 < c ∧ c < 1000 ∧ ∀ D H', Same H H' → H D = none → H' D = some (IL (cs.take (cs.length / c * c))) → Q (.ref D) H'
def spBytesOf : Sp := fun vs H Q _ => ∃ (a : Addr) (cs : List Int), vs = [.ref a] ∧ H a = some (IL cs) ∧ cs.length ≤ 1000000 ∧ cs.length % 8 = 0 ∧ ∀ D H', Same H H' → H D = none → H' D = some (IL (bytesZ cs)) → Q (.ref D) H'
def spBitsByte : Sp := fun vs H Q _ => ∃ (a : Addr) (ns : List Int), vs = [.ref a] ∧ H a = some (IL ns) ∧ Q (.int (byteZ ns)) H
def spMfmClock : Sp := fun vs H Q _ => ∃ (l b : Int), vs = [.int l, .int b] ∧ Q (.int (clk l b)) H
/-- [i for i, x in enumerate(xs) if ..] -/
theorem lc_enumF {K : PySem.W.Frag} {a : Addr} {xs : List Int} {kp : Nat → Bool} {i1 i2 : Nat} {tt : TT} {te : TE} {vs : List Nat} {σ : L2.St} {H1 : Hp} {D : Addr} {Qd : Hp → Prop} (hn : xs.length ≤ 16777215) (hx : H1 a = some (IL xs)) (hD : H1 D = none)
    (hw : ∀ v w, wipe (((wipe σ vs).set i1 v).set i2 w) vs = wipe σ vs)
    (htt : ∀ (i : Nat) x H3 (Q' : Bool → Hp → Prop), xs[i]? = some x → Same H1 H3 → (∀ H4, Same H3 H4 → Q' (kp i) H4) → tt (((wipe σ vs).set i1 (some (.int (i : Int)))).set i2 (some (.int x))) H3 Q')
    (hte : ∀ (i : Nat) x H3 (Q' : VK), xs[i]? = some x → Same H1 H3 → (∀ H4, Same H3 H4 → Q' (.int (i : Int)) H4) → te (((wipe σ vs).set i1 (some (.int (i : Int)))).set i2 (some (.int x))) H3 Q')
    (hd : ∀ H', Same H1 H' → H' D = some (IL (((List.range xs.length).filter kp).map fun i : Nat => (i : Int))) → Qd H') :
    LcW (Ite K a) (gTup K 2 (gCons (gName i1) (gCons (gName i2) gNil))) tt te vs σ H1 D Qd := by
  have wk := walk_enum (K := K) (a := a) (xs := xs.map V.int)
  rw [List.length_map] at wk
  refine lc_it wk (fun i H' => Same H1 H' ∧ H' D = some (IL (((List.range i).filter kp).map fun i : Nat => (i : Int)))) ⟨same_new hD _, upd_same⟩ (fun i H _ h => .of (h.1 _ _ hx)) ?_ ?_
  · intro i x H H' hi h hy
    obtain ⟨h1, h2⟩ := h
    obtain ⟨t, x, y, rfl, nt, rfl, ex, ey⟩ := hy
    cases ex
    obtain ⟨y, rfl, fy⟩ := ints_at ey
    have s1 := h1.trans (same_new nt (.tup [V.int (i : Int), V.int y]))
    refine ⟨t, _, rfl, .of upd_same, rfl, V.int (i : Int), [V.int y], rfl, V.int y, [], rfl, rfl, hw _ _, ?_⟩
    refine htt i y _ _ fy s1 fun H4 s4 => ?_
    have e4 : H4 D = some (IL (((List.range i).filter kp).map fun i : Nat => (i : Int))) := s4 _ _ (same_new nt _ _ _ h2)
    have hle := List.length_filter_le kp (List.range i)
    rw [List.length_range] at hle
    by_cases c : kp i = true
    · rw [if_pos c]
      refine hte i y _ _ fy (s1.trans s4) fun H5 s5 => ?_
      refine ⟨_, s5 _ _ e4, by rw [List.length_map, List.length_map]; exact line_lt (by omega), fun b o hb => ?_, ?_⟩
      · rw [upd_ne (ne_of_none hb hD)]
        exact s5 _ _ (s4 _ _ (s1 _ _ hb))
      · rw [upd_same, List.range_succ, List.filter_append, List.map_append]
        unfold IL
        rw [List.map_append]
        simp [c]
    · rw [if_neg c]
      refine ⟨s1.trans s4, ?_⟩
      rw [e4, List.range_succ, List.filter_append]
      simp [c]
  · intro H h
    exact hd H h.1 h.2
/-- [e for k in range(lo, hi, c)], ints by the place alone -/
theorem lc_rangeCI {lo c : Int} {n : Nat} {f : Nat → Int} {j : Nat} {te : TE} {vs : List Nat} {σ : L2.St} {H1 : Hp} {D : Addr} {Qd : Hp → Prop} (hn : n ≤ 16777215) (hD : H1 D = none) (hw : ∀ v, wipe ((wipe σ vs).set j v) vs = wipe σ vs)
    (hte : ∀ i H3 (Q' : VK), i < n → Same H1 H3 → (∀ H4, Same H3 H4 → Q' (.int (f i)) H4) → te ((wipe σ vs).set j (some (.int (lo + (i : Nat) * c)))) H3 Q')
    (hd : ∀ H', Same H1 H' → H' D = some (IL ((List.range n).map f)) → Qd H') : LcW (Itc lo c n) (gName j) tYes te vs σ H1 D Qd := by
  refine lc_it (walk_rangeC (lo := lo) (c := c) (n := n)) (fun i H' => Same H1 H' ∧ H' D = some (IL ((List.range i).map f))) ⟨same_new hD _, upd_same⟩ (fun i H _ h => trivial) ?_ ?_
  · intro i x H H' hi h hy
    obtain ⟨h1, h2⟩ := h
    obtain ⟨rfl, rfl⟩ := hy
    refine ⟨hw _, ?_⟩
    simp only [tYes, if_true]
    refine hte i _ _ hi h1 fun H4 hs => ?_
    have e := hs D _ h2
    refine ⟨_, e, by rw [List.length_map, List.length_map, List.length_range]; exact line_lt (by omega), fun b o hb => ?_, ?_⟩
    · rw [upd_ne (ne_of_none hb hD)]
      exact hs _ _ (h1 b o hb)
    · rw [upd_same, List.range_succ, List.map_append]
      unfold IL
      rw [List.map_append]
      rfl
  · intro H h
    exact hd H h.1 h.2
/-- range(0, a length, c) -/
theorem rgC_len {len c : Nat} (hc : 0 < c) (hc2 : c < 1073741824) (hl : len ≤ 16777216) : RgC 0 (len : Int) (c : Int) ((len + c - 1) / c) := by
  have e : Builtin.Range.rangeSize 0 (len : Int) (c : Int) = (((len + c - 1) / c : Nat) : Int) := by
    rw [PyProof.Rows.rangeSize_pos (by omega) (by omega), Int.natCast_ediv]
    congr 1
    omega
  have hq : (len + c - 1) / c ≤ len := by
    cases len with
    | zero => rw [Nat.div_eq_of_lt (by omega)]; exact Nat.le_refl _
    | succ n =>
      refine Nat.div_le_of_le_mul ?_
      have : c * (n + 1) = c * n + c := Nat.mul_succ c n
      have h2 : n ≤ c * n := Nat.le_mul_of_pos_left n hc
      omega
  refine ⟨by omega, by omega, ?_, e⟩
  unfold Builtin.Range.small
  rw [e]
  have h3 : (((len + c - 1) / c : Nat) : Int) * (c : Int) ≤ (len : Int) + (c : Int) - 1 := by
    have := Nat.div_mul_le_self (len + c - 1) c
    rw [← Int.natCast_mul]
    omega
  generalize (len + c - 1) / c = n at *
  simp only [Builtin.Range.rangeFitsLong, Bool.and_eq_true, Bool.or_eq_true, decide_eq_true_eq, beq_iff_eq]
  rw [if_pos (by omega), Bool.and_eq_true, decide_eq_true_eq, decide_eq_true_eq]
  exact ⟨by omega, .inr (by omega)⟩
/-! for loops, by the name ForW -/
theorem forR {lo : Int} {n : Nat} {g : TG} {tb : TS} {D : Ends} {σ : L2.St} {H : Hp} (Pv : Nat → L2.St → Hp → Prop) (h0 : Pv 0 σ H)
    (hs : ∀ i σ H, i < n → Pv i σ H → g (.int (lo + i)) σ H fun σ2 H2 => tb { D with nx := Pv (i + 1), ct := Pv (i + 1), bk := D.nx } σ2 H2) (hd : ∀ σ H, Pv n σ H → D.nx σ H) : ForW (Itr lo n) g tb D σ H := for_range Pv h0 hs hd
theorem forL {K : PySem.W.Frag} {a : Addr} {xs : List V} {g : TG} {tb : TS} {D : Ends} {σ : L2.St} {H : Hp} (Pv : Nat → L2.St → Hp → Prop) (h0 : Pv 0 σ H) (hl : ∀ i σ H, i ≤ xs.length → Pv i σ H → SqL K H a xs)
    (hs : ∀ i x σ H, xs[i]? = some x → Pv i σ H → g x σ H fun σ2 H2 => tb { D with nx := Pv (i + 1), ct := Pv (i + 1), bk := D.nx } σ2 H2) (hd : ∀ σ H, Pv xs.length σ H → D.nx σ H) : ForW (Itl K a) g tb D σ H := for_list Pv h0 hl hs hd
end Dw

namespace Dw
open PySem PySem.Spec PyProof.Rows L2
/-- the place of a whole number in a tuple of whole numbers, where it first stands -/
def rTupIxI (K : PySem.W.Frag) : V → List V → Hp → VK → Prop := fun x xs H Q => ∃ (p : Addr) (ns : List Int) (k : Int) (j : Nat), x = .ref p ∧ xs = [.int k] ∧ SqT K H p (ns.map V.int) ∧ ns[j]? = some k ∧ (∀ m, m < j → ns[m]? ≠ some k) ∧ Q (.int (j : Int)) H
theorem mt_tupIndexI {X : Cx} : MtR X "tuple.index" (rTupIxI X.K) := by
  intro pins s σ H x args v us Q inv rx rargs want
  obtain ⟨p, ns, k, j, rfl, rfl, isT, at_j, before, goal⟩ := want
  cases rx
  obtain ⟨u, rfl, t, rfl⟩ := rargs.one
  obtain ⟨its, rel, ⟨⟨cl, dd, dat, sl⟩, found, hcl, n, hdat⟩, small⟩ := inv.tuple isT
  simp only at hcl hdat
  subst hcl hdat
  have are := ints_of_vals rel
  have size : its.toArray.size = ns.length := by rw [List.size_toArray, ← rel.length, List.length_map]
  have jlt := (List.getElem?_eq_some_iff.mp at_j).1
  have item : ∀ (m : Nat) (hm : m < its.toArray.size), ∃ tm, its.toArray[m] = Value.int (ns[m]'(by omega)) tm := by
    intro m hm
    obtain ⟨tm, e⟩ := are.get m _ (List.getElem?_eq_getElem (show m < ns.length by omega))
    exact ⟨tm, by simpa using (List.getElem?_eq_some_iff.mp e).2⟩
  refine call_meets PySem.F.slot_tuple_index ⟨_, found, rfl⟩ PySem.F.entry_tuple_index (PySem.F.args_tuple_index_2 _ _)
    (TI.tuple_indexAt p its.toArray n dd sl (.int k t) (eqk k) j (by omega) ?_ ?_) ⟨found, fun y hy => (eqk_gives are y (by simpa using hy)).at _ _, ⟨.int (j : Int), H, inv.tok _, ⟨_, rfl⟩, goal⟩⟩
  · obtain ⟨tm, e⟩ := item j (by omega)
    rw [e]
    have : ns[j] = k := (List.getElem?_eq_some_iff.mp at_j).2
    rw [this]
    exact beq_self_eq_true k
  · intro m hm hmj
    obtain ⟨tm, e⟩ := item m hm
    rw [e]
    refine beq_eq_false_iff_ne.mpr fun same => before m hmj ?_
    rw [List.getElem?_eq_getElem (show m < ns.length by omega), same]
/-! ### the group code -/
def GC : List Int := [9, 10, 11, 13, 14, 15, 18, 19, 21, 22, 23, 25, 26, 27, 29, 30]
def codeZ (n : Nat) : List Int := (bits8 (GC.getD n 0).toNat).drop 3
def gcrZ (ns : List Int) : List Int := (ns.map fun n => codeZ (n.toNat / 16) ++ codeZ (n.toNat % 16)).flatten
theorem codeZ_len {n : Nat} (h : n < 16) : (codeZ n).length = 5 := by
  unfold codeZ
  rw [List.length_drop, bits8_len]
theorem gcrZ_more {ns : List Int} {i v : Nat} (h : ns[i]? = some (v : Int)) : gcrZ (ns.take (i + 1)) = gcrZ (ns.take i) ++ codeZ (v / 16) ++ codeZ (v % 16) := by
  unfold gcrZ
  rw [take_more h, List.map_append, List.flatten_append]
  simp
theorem gcrZ_len : ∀ ns : List Int, Bytes ns → (gcrZ ns).length = 10 * ns.length
  | [], _ => rfl
  | n :: r, h => by
    have ih := gcrZ_len r fun x hx => h x (List.mem_cons_of_mem _ hx)
    have hn := h n List.mem_cons_self
    unfold gcrZ at ih ⊢
    rw [List.map_cons, List.flatten_cons, List.length_append, List.length_append, ih, codeZ_len (by omega), codeZ_len (by omega), List.length_cons]
    omega
def idxG (c : Int) : Int := if c ∈ GC then ((GC.idxOf c : Nat) : Int) else 0
def grp (cs : List Int) (i : Nat) : List Int := (cs.drop (5 * i)).take 5
def numG (cs : List Int) (i : Nat) : Int := idxG (byteZ (grp cs i))
def badG (cs : List Int) (i : Nat) : Bool := !decide (byteZ (grp cs i) ∈ GC)
def numsG (cs : List Int) (n : Nat) : List Int := (List.range n).map (numG cs)
def faultsG (cs : List Int) (n : Nat) : List Int := ((List.range n).filter (badG cs)).map fun i : Nat => (i : Int)
def valsG (cs : List Int) (n : Nat) : List Int := (List.range n).map fun k => 16 * numG cs (2 * k) + numG cs (2 * k + 1)
theorem faultsG_more {cs : List Int} {i : Nat} : faultsG cs (i + 1) = faultsG cs i ++ (if badG cs i = true then [(i : Int)] else []) := by
  unfold faultsG
  rw [List.range_succ, List.filter_append, List.map_append]
  cases h : badG cs i with
  | true => rw [List.filter_cons_of_pos h, if_pos rfl]; rfl
  | false => rw [List.filter_cons_of_neg (by rw [h]; decide), if_neg (by decide)]; rfl
theorem faultsG_len (cs : List Int) (n : Nat) : (faultsG cs n).length ≤ n := by
  unfold faultsG
  rw [List.length_map]
  have := List.length_filter_le (badG cs) (List.range n)
  rw [List.length_range] at this
  exact this
theorem numsG_more {cs : List Int} {i : Nat} : numsG cs (i + 1) = numsG cs i ++ [numG cs i] := by
  unfold numsG
  rw [List.range_succ, List.map_append]
  rfl
theorem numsG_len (cs : List Int) (n : Nat) : (numsG cs n).length = n := by
  unfold numsG
  rw [List.length_map, List.length_range]
theorem numsG_get {cs : List Int} {n i : Nat} (h : i < n) : (numsG cs n).getD i 0 = numG cs i := by
  unfold numsG
  rw [List.getD_eq_getElem?_getD, List.getElem?_map, List.getElem?_range h]
  rfl
theorem all_even {cs : List Int} {n : Nat} (h : cs.length = 2 * n) : picks cs (some 0) none 2 = evens cs n := by
  have e := whole_even (cs := cs) (n := n) (by omega)
  rw [List.take_of_length_le (by omega)] at e
  exact e
theorem all_odd {cs : List Int} {n : Nat} (h : cs.length = 2 * n) : picks cs (some 1) none 2 = odds cs n := by
  have e := whole_odd (cs := cs) (n := n) (by omega)
  rw [List.take_of_length_le (by omega)] at e
  exact e
theorem zip_vals {cs : List Int} {n : Nat} : List.zipWith (fun h l => 16 * h + l) (evens (numsG cs (2 * n)) n) (odds (numsG cs (2 * n)) n) = valsG cs n := by
  unfold evens odds valsG
  rw [List.zipWith_map, List.zipWith_self]
  refine List.map_congr_left fun i hi => ?_
  rw [List.mem_range] at hi
  rw [numsG_get (by omega), numsG_get (by omega)]
theorem idx_first {c : Int} {ns : List Int} (h : c ∈ ns) : ns[ns.idxOf c]? = some c ∧ ∀ m, m < ns.idxOf c → ns[m]? ≠ some c := by
  have hl := List.idxOf_lt_length_of_mem h
  refine ⟨by rw [List.getElem?_eq_getElem hl, List.getElem_idxOf], fun m hm e => ?_⟩
  have hm2 : m < ns.length := by omega
  rw [List.getElem?_eq_getElem hm2] at e
  have := List.not_of_lt_findIdx (p := fun x => x == c) (xs := ns) (i := m) (by exact hm)
  rw [Option.some.inj e] at this
  simp at this
theorem inV_int {c : Int} : ∀ ns : List Int, inV (.int c) (ns.map V.int) = decide (c ∈ ns)
  | [] => rfl
  | y :: r => by
    have ih := inV_int (c := c) r
    unfold inV at ih ⊢
    rw [List.map_cons, List.any_cons, ih]
    have e : eqV (.int y) (.int c) = decide (c = y) := by
      show (y == c) = _
      by_cases h : c = y
      · subst h; simp
      · rw [decide_eq_false h]
        have : ¬ y = c := fun q => h q.symm
        simp [this]
    rw [e, ← Bool.decide_or, decide_eq_decide, List.mem_cons]
theorem flat_int : ∀ l : List Int, (l.map V.int).all flatV = true
  | [] => rfl
  | y :: r => by
    rw [List.map_cons, List.all_cons, flat_int r]
    rfl
def spGcrCode : Sp := fun vs H Q _ => ∃ n : Nat, vs = [.int n] ∧ n < 16 ∧ ∀ D H', Same H H' → H D = none → H' D = some (IL (codeZ n)) → Q (.ref D) H'
def spGcrCells : Sp := fun vs H Q _ => ∃ (a : Addr) (ns : List Int), vs = [.ref a] ∧ H a = some (IL ns) ∧ Bytes ns ∧ ns.length ≤ 100000 ∧ ∀ D H', Same H H' → H D = none → H' D = some (IL (gcrZ ns)) → Q (.ref D) H'
def spReadGcr : Sp := fun vs H Q _ => ∃ (a : Addr) (cs : List Int), vs = [.ref a] ∧ H a = some (IL cs) ∧ cs.length ≤ 1000000 ∧
  ∀ t b f H', Same H H' → H t = none → H' t = some (.tup [.ref b, .ref f]) → H' b = some (IL (valsG cs (cs.length / 10))) → H' f = some (IL (faultsG cs (2 * (cs.length / 10)))) → Q (.ref t) H'
theorem room65 {k : Nat} {A : Around} (hr : Room k A) : A.units + 65 < cLine := by
  have := hr.un
  omega
theorem RowsAt.isL {H : Hp} {p : Addr} {rs : List (List Int)} (h : RowsAt H p rs) : Dw.isL (H p) = true := by
  obtain ⟨as, e, _⟩ := h
  rw [e]
  rfl
end Dw

namespace Dw
open PySem PySem.Spec PyProof.Rows L2
/-! ### no long runs -/
def okR (v : Int) (k : Nat) : Nat → List Int → Bool
  | n, [] => decide (n < k)
  | n, b :: r => decide (n < k) && okR v k (if b = v then n + 1 else 0) r
def endR (v : Int) : Nat → List Int → Nat
  | n, [] => n
  | n, b :: r => endR v (if b = v then n + 1 else 0) r
theorem okR_append (v : Int) (k : Nat) : ∀ (xs ys : List Int) (n : Nat), okR v k n xs = true → okR v k (endR v n xs) ys = true → okR v k n (xs ++ ys) = true
  | [], _, _, _, h => h
  | x :: xs, ys, n, h1, h2 => by
    unfold okR at h1
    rw [Bool.and_eq_true] at h1
    show (decide (n < k) && okR v k (if x = v then n + 1 else 0) (xs ++ ys)) = true
    rw [Bool.and_eq_true]
    exact ⟨h1.1, okR_append v k xs ys _ h1.2 h2⟩
theorem endR_append (v : Int) : ∀ (xs ys : List Int) (n : Nat), endR v n (xs ++ ys) = endR v (endR v n xs) ys
  | [], _, _ => rfl
  | x :: xs, ys, n => endR_append v xs ys _
theorem okR_lt {v : Int} {k n : Nat} : ∀ {xs : List Int}, okR v k n xs = true → n < k
  | [], h => of_decide_eq_true h
  | x :: xs, h => by
    unfold okR at h
    rw [Bool.and_eq_true] at h
    exact of_decide_eq_true h.1
theorem okR_rep {v : Int} {k : Nat} : ∀ (m n : Nat) {ys : List Int}, okR v k n (List.replicate m v ++ ys) = true → n + m < k
  | 0, n, ys, h => okR_lt h
  | m + 1, n, ys, h => by
    rw [List.replicate_succ, List.cons_append] at h
    unfold okR at h
    rw [Bool.and_eq_true, if_pos rfl] at h
    have := okR_rep m (n + 1) h.2
    omega
theorem okR_drop {v : Int} {k : Nat} : ∀ (i n : Nat) {xs : List Int}, okR v k n xs = true → ∃ n', okR v k n' (xs.drop i) = true
  | 0, n, xs, h => ⟨n, h⟩
  | i + 1, n, [], h => ⟨n, h⟩
  | i + 1, n, x :: xs, h => by
    unfold okR at h
    rw [Bool.and_eq_true] at h
    exact okR_drop i _ h.2
theorem no_run {v : Int} {k n : Nat} {xs : List Int} (h : okR v k n xs = true) (i : Nat) : (xs.drop i).take k ≠ List.replicate k v := by
  intro e
  obtain ⟨n', h2⟩ := okR_drop i n h
  rw [← List.take_append_drop k (xs.drop i), e] at h2
  have := okR_rep k n' h2
  omega
/-! ### texts of bits -/
def strB (b : Int) : Str := Str.ofString (toString b)
def txtB (cs : List Int) : Str := Txt.join (Str.ofString "") (cs.map strB)
theorem joinL_nil : ∀ parts : List (List Nat), TL.joinL [] parts = parts.flatten
  | [] => rfl
  | [p] => by
    show p = p ++ []
    rw [List.append_nil]
  | p :: q :: r => by
    show p ++ ([] ++ TL.joinL [] (q :: r)) = _
    rw [List.nil_append, joinL_nil (q :: r)]
    rfl
theorem tl_strB {b : Int} (h : b = 0 ∨ b = 1) : TL.tl (strB b) = [(48 + b).toNat] := by
  rcases h with rfl | rfl <;> decide +kernel
theorem tl_txtB {cs : List Int} (h : ∀ b ∈ cs, b = 0 ∨ b = 1) : TL.tl (txtB cs) = cs.map fun b => (48 + b).toNat := by
  have e : TL.tl (txtB cs) = TL.joinL (TL.tl (Str.ofString "")) ((cs.map strB).map TL.tl) := by rw [show txtB cs = Str.join (Str.ofString "") (cs.map strB) from TL.join_eq _ _]; exact TL.tl_join _ _
  have e0 : TL.tl (Str.ofString "") = [] := rfl
  rw [e, e0, joinL_nil, List.map_map]
  induction cs with
  | nil => rfl
  | cons b r ih =>
    rw [List.map_cons, List.flatten_cons, ih (fun x hx => h x (List.mem_cons_of_mem _ hx)) (by rw [show txtB r = Str.join (Str.ofString "") (r.map strB) from TL.join_eq _ _]; exact TL.tl_join _ _), List.map_cons]
    show TL.tl (strB b) ++ _ = _
    rw [tl_strB (h b List.mem_cons_self)]
    rfl
theorem codes_inj {v : Int} (hv : v = 0 ∨ v = 1) : ∀ {xs : List Int} {k : Nat}, (∀ b ∈ xs, b = 0 ∨ b = 1) → xs.map (fun b => (48 + b).toNat) = List.replicate k (48 + v).toNat → xs = List.replicate k v
  | [], 0, _, _ => rfl
  | [], k + 1, _, h => by rw [List.replicate_succ] at h; cases h
  | x :: xs, 0, _, h => by cases h
  | x :: xs, k + 1, hb, h => by
    rw [List.map_cons, List.replicate_succ] at h
    have h1 := (List.cons.inj h).1
    have h2 := codes_inj hv (fun b hb' => hb b (List.mem_cons_of_mem _ hb')) (List.cons.inj h).2
    have hx := hb x List.mem_cons_self
    have : x = v := by omega
    rw [h2, this, List.replicate_succ]
theorem not_in {v : Int} (hv : v = 0 ∨ v = 1) {k : Nat} {cs : List Int} {sub : Str} (hb : ∀ b ∈ cs, b = 0 ∨ b = 1) (hs : TL.tl sub = List.replicate k (48 + v).toNat) (h : okR v k 0 cs = true) :
    (!(Builtin.Str.occurrences (txtB cs) sub 0 (txtB cs).length 1).isEmpty) = false := by
  cases c : (!(Builtin.Str.occurrences (txtB cs) sub 0 (txtB cs).length 1).isEmpty) with
  | false => rfl
  | true =>
    obtain ⟨i, hi, hsub⟩ := (StrLaws.found_iff _ _).mp c
    rw [StrLaws.subAt_eq] at hsub
    have e := eq_of_beq hsub
    have e1 : (txtB cs).cps.toList = cs.map fun b => (48 + b).toNat := tl_txtB hb
    have e2 : sub.cps.toList = List.replicate k (48 + v).toNat := hs
    have e3 : sub.length = k := by
      have : sub.cps.toList.length = k := by rw [e2, List.length_replicate]
      exact this
    rw [e1, e2, e3, ← List.map_drop, ← List.map_take] at e
    have := codes_inj hv (fun b hb' => hb b (List.mem_of_mem_drop (List.mem_of_mem_take hb'))) e
    exact absurd this (no_run h i)
theorem txtB_len {cs : List Int} (h : ∀ b ∈ cs, b = 0 ∨ b = 1) : (txtB cs).length = cs.length := by
  have e := congrArg List.length (tl_txtB h)
  rw [List.length_map] at e
  exact e
/-! ### the group code: its runs, and back -/
theorem runs0 : ∀ a, a < 16 → ∀ n, n < 2 → okR 0 3 n (codeZ a) = true ∧ endR 0 n (codeZ a) < 2 := by decide +kernel
theorem runs1 : ∀ a, a < 16 → ∀ n, n < 5 → okR 1 9 n (codeZ a) = true ∧ endR 1 n (codeZ a) < 5 := by decide +kernel
theorem gcr_runs {v : Int} {k m : Nat} (hm : m ≤ k) (h : ∀ a, a < 16 → ∀ n, n < m → okR v k n (codeZ a) = true ∧ endR v n (codeZ a) < m) : ∀ (ns : List Int) (n : Nat), Bytes ns → n < m → okR v k n (gcrZ ns) = true
  | [], n, _, hn => by
    show decide (n < k) = true
    exact decide_eq_true (by omega)
  | x :: r, n, hb, hn => by
    have hx := hb x List.mem_cons_self
    have e : gcrZ (x :: r) = codeZ (x.toNat / 16) ++ (codeZ (x.toNat % 16) ++ gcrZ r) := by
      unfold gcrZ
      rw [List.map_cons, List.flatten_cons, List.append_assoc]
    obtain ⟨a1, a2⟩ := h (x.toNat / 16) (by omega) n hn
    obtain ⟨b1, b2⟩ := h (x.toNat % 16) (by omega) _ a2
    rw [e]
    exact okR_append v k _ _ n a1 (okR_append v k _ _ _ b1 (gcr_runs hm h r _ (fun y hy => hb y (List.mem_cons_of_mem _ hy)) b2))
theorem back5 : ∀ a, a < 16 → byteZ (codeZ a) ∈ GC ∧ idxG (byteZ (codeZ a)) = (a : Int) := by decide +kernel
theorem grp_zero {a : Nat} (ha : a < 16) (L : List Int) : grp (codeZ a ++ L) 0 = codeZ a := by
  unfold grp
  rw [Nat.mul_zero, List.drop_zero]
  exact List.take_left' (codeZ_len ha)
theorem grp_succ {a : Nat} (ha : a < 16) (L : List Int) (i : Nat) : grp (codeZ a ++ L) (i + 1) = grp L i := by
  unfold grp
  have e : 5 * (i + 1) = (codeZ a).length + 5 * i := by rw [codeZ_len ha]; omega
  rw [e, List.drop_append, List.drop_eq_nil_of_le (by omega), List.nil_append, Nat.add_sub_cancel_left]
theorem gcr_groups : ∀ (ns : List Int) (rest : List Int), Bytes ns → ∀ k, k < ns.length → ∃ v : Nat, ns[k]? = some (v : Int) ∧ v < 256 ∧ grp (gcrZ ns ++ rest) (2 * k) = codeZ (v / 16) ∧ grp (gcrZ ns ++ rest) (2 * k + 1) = codeZ (v % 16)
  | [], _, _, k, h => absurd h (Nat.not_lt_zero _)
  | x :: r, rest, hb, k, h => by
    have hx := hb x List.mem_cons_self
    have e : gcrZ (x :: r) ++ rest = codeZ (x.toNat / 16) ++ (codeZ (x.toNat % 16) ++ (gcrZ r ++ rest)) := by
      unfold gcrZ
      rw [List.map_cons, List.flatten_cons]
      simp only [List.append_assoc]
    have h1 : x.toNat / 16 < 16 := by omega
    have h2 : x.toNat % 16 < 16 := by omega
    rw [e]
    cases k with
    | zero =>
      refine ⟨x.toNat, by show some x = _; congr 1; omega, by omega, grp_zero h1 _, ?_⟩
      rw [Nat.mul_zero, grp_succ h1, grp_zero h2]
    | succ k =>
      obtain ⟨v, q1, q2, q3, q4⟩ := gcr_groups r rest (fun y hy => hb y (List.mem_cons_of_mem _ hy)) k (by simpa using h)
      have e1 : 2 * (k + 1) = (2 * k + 1) + 1 := by omega
      refine ⟨v, q1, q2, ?_, ?_⟩
      · rw [e1, grp_succ h1, grp_succ h2]
        exact q3
      · rw [e1, grp_succ h1, grp_succ h2]
        exact q4
theorem gcr_vals {ns rest : List Int} (hb : Bytes ns) : valsG (gcrZ ns ++ rest) ns.length = ns := by
  unfold valsG
  apply List.ext_getElem
  · rw [List.length_map, List.length_range]
  · intro k h1 h2
    rw [List.getElem_map, List.getElem_range]
    obtain ⟨v, q1, q2, q3, q4⟩ := gcr_groups ns rest hb k h2
    unfold numG
    rw [q3, q4, (back5 _ (by omega)).2, (back5 _ (by omega)).2]
    rw [List.getElem?_eq_getElem h2] at q1
    rw [Option.some.inj q1]
    omega
theorem gcr_faults {ns rest : List Int} (hb : Bytes ns) : faultsG (gcrZ ns ++ rest) (2 * ns.length) = [] := by
  unfold faultsG
  have : (List.range (2 * ns.length)).filter (badG (gcrZ ns ++ rest)) = [] := by
    refine List.filter_eq_nil_iff.mpr fun i hi => ?_
    rw [List.mem_range] at hi
    obtain ⟨v, q1, q2, q3, q4⟩ := gcr_groups ns rest hb (i / 2) (by omega)
    unfold badG
    have : i = 2 * (i / 2) ∨ i = 2 * (i / 2) + 1 := by omega
    rcases this with e | e
    · rw [e, q3, decide_eq_true (back5 _ (by omega)).1]
      decide
    · rw [e, q4, decide_eq_true (back5 _ (by omega)).1]
      decide
  rw [this]
  rfl
/-! ### FM and MFM, and back -/
theorem evens_cons (x y : Int) (L : List Int) (n : Nat) : evens (x :: y :: L) (n + 1) = x :: evens L n := by
  unfold evens
  rw [List.range_succ_eq_map, List.map_cons, List.map_map]
  congr 1
theorem odds_cons (x y : Int) (L : List Int) (n : Nat) : odds (x :: y :: L) (n + 1) = y :: odds L n := by
  unfold odds
  rw [List.range_succ_eq_map, List.map_cons, List.map_map]
  congr 1
theorem fm_odds : ∀ bs rest : List Int, odds (fmZ bs ++ rest) bs.length = bs
  | [], _ => rfl
  | b :: r, rest => by
    have e : fmZ (b :: r) ++ rest = 1 :: b :: (fmZ r ++ rest) := rfl
    rw [e, List.length_cons, odds_cons, fm_odds r rest]
theorem fm_evens : ∀ bs rest : List Int, evens (fmZ bs ++ rest) bs.length = List.replicate bs.length 1
  | [], _ => rfl
  | b :: r, rest => by
    have e : fmZ (b :: r) ++ rest = 1 :: b :: (fmZ r ++ rest) := rfl
    rw [e, List.length_cons, evens_cons, fm_evens r rest, List.replicate_succ]
theorem mfm_odds : ∀ (l : Int) (bs rest : List Int), odds (mfmF l bs ++ rest) bs.length = bs
  | _, [], _ => rfl
  | l, b :: r, rest => by
    have e : mfmF l (b :: r) ++ rest = clk l b :: b :: (mfmF b r ++ rest) := rfl
    rw [e, List.length_cons, odds_cons, mfm_odds b r rest]
theorem mfm_evens : ∀ (l : Int) (bs rest : List Int) (i : Nat), i < bs.length → (evens (mfmF l bs ++ rest) bs.length).getD i 0 = clk (lastB l bs i) (bs.getD i 0)
  | _, [], _, _, h => absurd h (Nat.not_lt_zero _)
  | l, b :: r, rest, i, h => by
    have e : mfmF l (b :: r) ++ rest = clk l b :: b :: (mfmF b r ++ rest) := rfl
    rw [e, List.length_cons, evens_cons]
    cases i with
    | zero => rfl
    | succ i =>
      rw [List.getD_cons_succ, mfm_evens b r rest i (by simpa using h), List.getD_cons_succ]
      congr 1
      cases i with
      | zero => rfl
      | succ i => rfl
theorem fm_faults (n : Nat) : fmF (List.replicate n 1) = [] := by
  unfold fmF
  have : (List.range (List.replicate n (1 : Int)).length).filter (fun i => !decide ((List.replicate n (1 : Int)).getD i 0 = 1)) = [] := by
    refine List.filter_eq_nil_iff.mpr fun i hi => ?_
    rw [List.mem_range, List.length_replicate] at hi
    have : (List.replicate n (1 : Int)).getD i 0 = 1 := by
      rw [List.getD_eq_getElem?_getD, List.getElem?_replicate, if_pos hi]
      rfl
    rw [this]
    decide
  rw [this]
  rfl
theorem mfm_faults (l : Int) (bs rest : List Int) : mfmFa l (evens (mfmF l bs ++ rest) bs.length) bs = [] := by
  unfold mfmFa
  have : (List.range (evens (mfmF l bs ++ rest) bs.length).length).filter (mfmT l (evens (mfmF l bs ++ rest) bs.length) bs) = [] := by
    refine List.filter_eq_nil_iff.mpr fun i hi => ?_
    rw [List.mem_range, evens_len] at hi
    unfold mfmT
    rw [mfm_evens l bs rest i hi, decide_eq_true rfl]
    decide
  rw [this]
  rfl
theorem bytes_bits : ∀ ns : List Int, Bytes ns → bytesZ (bitsOf ns) = ns
  | [], _ => rfl
  | x :: r, hb => by
    have hx := hb x List.mem_cons_self
    have ih := bytes_bits r fun y hy => hb y (List.mem_cons_of_mem _ hy)
    have e : bitsOf (x :: r) = bits8 x.toNat ++ bitsOf r := rfl
    have hl : (bits8 x.toNat ++ bitsOf r).length / 8 = (bitsOf r).length / 8 + 1 := by rw [List.length_append, bits8_len]; omega
    unfold bytesZ at ih ⊢
    rw [e, hl, List.range_succ_eq_map, List.map_cons, List.map_map]
    have e0 : byteZ (((bits8 x.toNat ++ bitsOf r).drop (8 * 0)).take 8) = x := by
      rw [Nat.mul_zero, List.drop_zero, List.take_left' (bits8_len _), byteZ_bits8 (by omega)]
      omega
    rw [e0]
    refine congrArg (x :: ·) (Eq.trans ?_ ih)
    refine List.map_congr_left fun k _ => ?_
    simp only [Function.comp]
    have e8 : 8 * (k + 1) = (bits8 x.toNat).length + 8 * k := by rw [bits8_len]; omega
    rw [Nat.succ_eq_add_one, e8, List.drop_append, List.drop_eq_nil_of_le (by omega), List.nil_append, Nat.add_sub_cancel_left]
theorem mfm0 : ∀ l : Nat, l < 2 → ∀ b : Nat, b < 2 → ∀ n : Nat, n < 3 → (l = 1 ∧ n ≠ 0) ∨ (okR 0 4 n [clk (l : Nat) (b : Nat), (b : Nat)] = true ∧ (endR 0 n [clk (l : Nat) (b : Nat), (b : Nat)] < 3 ∧ (b ≠ 1 ∨ endR 0 n [clk (l : Nat) (b : Nat), (b : Nat)] = 0))) := by
  have t : ((List.range 2).all fun l => (List.range 2).all fun b => (List.range 3).all fun n => (decide (l = 1) && decide (n ≠ 0)) || (okR 0 4 n [clk (l : Nat) (b : Nat), (b : Nat)] && (decide (endR 0 n [clk (l : Nat) (b : Nat), (b : Nat)] < 3) && (decide (b ≠ 1) || decide (endR 0 n [clk (l : Nat) (b : Nat), (b : Nat)] = 0))))) = true := by decide +kernel
  simp only [List.all_eq_true, List.mem_range, Bool.or_eq_true, Bool.and_eq_true, decide_eq_true_eq] at t
  exact t
theorem mfm1 : ∀ l : Nat, l < 2 → ∀ b : Nat, b < 2 → okR 1 2 l [clk (l : Nat) (b : Nat), (b : Nat)] = true ∧ endR 1 l [clk (l : Nat) (b : Nat), (b : Nat)] = b := by decide +kernel
theorem mfm_run0 : ∀ (bs : List Int) (l n : Nat), (∀ b ∈ bs, b = 0 ∨ b = 1) → l < 2 → n < 3 → (l = 1 → n = 0) → okR 0 4 n (mfmF (l : Int) bs) = true
  | [], l, n, _, _, hn, _ => decide_eq_true (by omega)
  | b :: r, l, n, hb, hl, hn, hln => by
    obtain ⟨m, hm, rfl⟩ : ∃ m : Nat, m < 2 ∧ b = (m : Int) := by
      rcases hb b List.mem_cons_self with rfl | rfl
      · exact ⟨0, by decide, rfl⟩
      · exact ⟨1, by decide, rfl⟩
    obtain ⟨h1, h2, h3⟩ := (mfm0 l hl m hm n hn).resolve_left fun h => h.2 (hln h.1)
    exact okR_append 0 4 [clk (l : Int) (m : Int), (m : Int)] (mfmF (m : Int) r) n h1 (mfm_run0 r m _ (fun x hx => hb x (List.mem_cons_of_mem _ hx)) hm h2 fun e => h3.resolve_left fun q => q e)
theorem mfm_run1 : ∀ (bs : List Int) (l : Nat), (∀ b ∈ bs, b = 0 ∨ b = 1) → l < 2 → okR 1 2 l (mfmF (l : Int) bs) = true
  | [], l, _, hl => decide_eq_true (by omega)
  | b :: r, l, hb, hl => by
    obtain ⟨m, hm, rfl⟩ : ∃ m : Nat, m < 2 ∧ b = (m : Int) := by
      rcases hb b List.mem_cons_self with rfl | rfl
      · exact ⟨0, by decide, rfl⟩
      · exact ⟨1, by decide, rfl⟩
    obtain ⟨h1, h2⟩ := mfm1 l hl m hm
    refine okR_append 1 2 [clk (l : Int) (m : Int), (m : Int)] (mfmF (m : Int) r) l h1 ?_
    rw [h2]
    exact mfm_run1 r m (fun x hx => hb x (List.mem_cons_of_mem _ hx)) hm
def rRepS : R2 := fun x y H Q => ∃ i n, x = .str i ∧ y = .int n ∧ MulOk i n ∧ Q (.str (Txt.mul i n)) H
theorem op_rep_str : OpR X (binaryOp .Mult) rRepS := by
  intro pins s σ H x y v u Q I rx ry h
  obtain ⟨i, j, rfl, rfl, hz, q⟩ := h
  obtain ⟨t, rfl⟩ := rx
  obtain ⟨t', rfl⟩ := ry
  exact SB.mul hz (fun t' tk => ⟨.str (Txt.mul i j), H, I.tok _, ⟨_, rfl⟩, q⟩)
theorem nine_ok : MulOk (Str.ofString "1") 9 := by
  refine ⟨by decide, fun _ _ => by decide, fun _ _ => by decide⟩
theorem nine : TL.tl (Txt.mul (Str.ofString "1") 9) = List.replicate 9 (48 + (1 : Int)).toNat := by decide +kernel
theorem three0 : TL.tl (Str.ofString "000") = List.replicate 3 (48 + (0 : Int)).toNat := by decide +kernel
theorem four0 : TL.tl (Str.ofString "0000") = List.replicate 4 (48 + (0 : Int)).toNat := by decide +kernel
theorem two1 : TL.tl (Str.ofString "11") = List.replicate 2 (48 + (1 : Int)).toNat := by decide +kernel
end Dw

namespace Dw
open PySem PySem.Spec PyProof.Rows L2
/-! ### comprehensions over the int keys of a locked dict -/
theorem key_at {kvs : List (Key × V)} {ks : List Int} (hk : kvs.map (·.1) = ks.map Sum.inl) {i : Nat} {k : Key} {v : V} (h : kvs[i]? = some (k, v)) : ∃ z, ks[i]? = some z ∧ k = .inl z := by
  have e : (kvs.map (·.1))[i]? = some k := by rw [List.getElem?_map, h]; rfl
  rw [hk, List.getElem?_map] at e
  obtain ⟨z, hz, e2⟩ := Option.map_eq_some_iff.mp e
  exact ⟨z, hz, e2.symm⟩
theorem lc_keys {d : Addr} {o : Obj} {kvs : List (Key × V)} {ks : List Int} {p : Int → Bool} {g : Int → V} {tt : TT} {j : Nat} {te : TE} {vs : List Nat} {σ : L2.St} {H1 : Hp} {D : Addr} {Qd : Hp → Prop} (hk : kvs.map (·.1) = ks.map Sum.inl) (hn : ks.length ≤ 16777215) (hF : H1 d = some (.frz o (.dK kvs))) (hD : H1 D = none) (hw : ∀ v, wipe ((wipe σ vs).set j v) vs = wipe σ vs)
    (htt : ∀ k H3 (Q' : Bool → Hp → Prop), k ∈ ks → Same H1 H3 → (∀ H4, Same H3 H4 → Q' (p k) H4) → tt ((wipe σ vs).set j (some (.int k))) H3 Q')
    (hte : ∀ k H3 (Q' : VK), k ∈ ks → Same H1 H3 → (∀ H4, Same H3 H4 → Q' (g k) H4) → te ((wipe σ vs).set j (some (.int k))) H3 Q')
    (hd : ∀ H', Same H1 H' → H' D = some (.lst ((ks.filter p).map g)) → Qd H') : LcW (Itk d o kvs) (gName j) tt te vs σ H1 D Qd := by
  have kl : kvs.length = ks.length := by
    have := congrArg List.length hk
    rwa [List.length_map, List.length_map] at this
  refine lc_it walk_keys (fun i H' => Same H1 H' ∧ H' D = some (.lst (((ks.take i).filter p).map g))) ⟨same_new hD _, upd_same⟩ (fun i H _ h => h.1 _ _ hF) ?_ ?_
  · intro i x H H' hi h hy
    obtain ⟨h1, h2⟩ := h
    obtain ⟨rfl, ky, v, hkv, rfl⟩ := hy
    obtain ⟨z, hz, rfl⟩ := key_at hk hkv
    have hm := List.mem_of_getElem? hz
    refine ⟨hw _, ?_⟩
    refine htt z H' _ hm h1 fun H4 s4 => ?_
    have h4 := s4 _ _ h2
    by_cases c : p z = true
    · rw [if_pos c]
      refine hte z H4 _ hm (h1.trans s4) fun H5 s5 => ?_
      have h5 := s5 _ _ h4
      refine ⟨_, h5, ?_, ?_⟩
      · rw [List.length_map]
        have q1 := List.length_filter_le p (ks.take i)
        rw [List.length_take] at q1
        exact line_lt (by omega)
      · refine ⟨fun b ob hb => ?_, ?_⟩
        · rw [upd_ne (ne_of_none hb hD)]
          exact s5 _ _ (s4 _ _ (h1 _ _ hb))
        · rw [upd_same, take_more hz, List.filter_append, List.map_append, List.filter_cons_of_pos c]
          rfl
    · rw [if_neg c]
      refine ⟨h1.trans s4, ?_⟩
      rw [h4, take_more hz, List.filter_append, List.filter_cons_of_neg c, List.filter_nil, List.append_nil]
  · intro H h
    rw [kl, List.take_length] at h
    exact hd H h.1 h.2
theorem lc_intsF {K : PySem.W.Frag} {a : Addr} {ks : List Int} {p : Int → Bool} {g : Int → V} {tt : TT} {j : Nat} {te : TE} {vs : List Nat} {σ : L2.St} {H1 : Hp} {D : Addr} {Qd : Hp → Prop} (hn : ks.length ≤ 16777215) (hA : H1 a = some (IL ks)) (hD : H1 D = none) (hw : ∀ v, wipe ((wipe σ vs).set j v) vs = wipe σ vs)
    (htt : ∀ k H3 (Q' : Bool → Hp → Prop), k ∈ ks → Same H1 H3 → (∀ H4, Same H3 H4 → Q' (p k) H4) → tt ((wipe σ vs).set j (some (.int k))) H3 Q')
    (hte : ∀ k H3 (Q' : VK), k ∈ ks → Same H1 H3 → (∀ H4, Same H3 H4 → Q' (g k) H4) → te ((wipe σ vs).set j (some (.int k))) H3 Q')
    (hd : ∀ H', Same H1 H' → H' D = some (.lst ((ks.filter p).map g)) → Qd H') : LcW (Itl K a) (gName j) tt te vs σ H1 D Qd := by
  refine lc_list (K := K) (a := a) (xs := ks.map V.int) (fun i H' => Same H1 H' ∧ H' D = some (.lst (((ks.take i).filter p).map g))) ⟨same_new hD _, upd_same⟩ (fun i H _ h => .of (h.1 _ _ hA)) ?_ ?_
  · intro i x H hi h
    obtain ⟨h1, h2⟩ := h
    obtain ⟨z, rfl, hz⟩ := ints_at hi
    have hm := List.mem_of_getElem? hz
    refine ⟨hw _, ?_⟩
    refine htt z H _ hm h1 fun H4 s4 => ?_
    have h4 := s4 _ _ h2
    by_cases c : p z = true
    · rw [if_pos c]
      refine hte z H4 _ hm (h1.trans s4) fun H5 s5 => ?_
      have h5 := s5 _ _ h4
      refine ⟨_, h5, ?_, ?_⟩
      · rw [List.length_map]
        have q1 := List.length_filter_le p (ks.take i)
        rw [List.length_take] at q1
        exact line_lt (by omega)
      · refine ⟨fun b ob hb => ?_, ?_⟩
        · rw [upd_ne (ne_of_none hb hD)]
          exact s5 _ _ (s4 _ _ (h1 _ _ hb))
        · rw [upd_same, take_more hz, List.filter_append, List.map_append, List.filter_cons_of_pos c]
          rfl
    · rw [if_neg c]
      refine ⟨h1.trans s4, ?_⟩
      rw [h4, take_more hz, List.filter_append, List.filter_cons_of_neg c, List.filter_nil, List.append_nil]
  · intro H h
    rw [List.length_map, List.take_length] at h
    exact hd H h.1 h.2
theorem lc_rangeR {lo : Int} {n j : Nat} {R : Nat → V → Prop} {te : TE} {vs : List Nat} {σ : L2.St} {H1 : Hp} {D : Addr} {Qd : Hp → Prop} (hn : n ≤ 16777215) (hD : H1 D = none) (hw : ∀ v, wipe ((wipe σ vs).set j v) vs = wipe σ vs)
    (hte : ∀ i H3 (Q' : VK), i < n → Same H1 H3 → (∀ v H4, R i v → Same H3 H4 → Q' v H4) → te ((wipe σ vs).set j (some (.int (lo + (i : Nat))))) H3 Q')
    (hd : ∀ xs H', Same H1 H' → H' D = some (.lst xs) → xs.length = n → (∀ i v, xs[i]? = some v → R i v) → Qd H') : LcW (Itr lo n) (gName j) tYes te vs σ H1 D Qd := by
  refine lc_range (lo := lo) (n := n) (fun i H' => Same H1 H' ∧ ∃ xs : List V, H' D = some (.lst xs) ∧ xs.length = i ∧ ∀ i v, xs[i]? = some v → R i v) ⟨same_new hD _, [], upd_same, rfl, fun i v h => by simp at h⟩ ?_ ?_
  · intro i H hi h
    obtain ⟨h1, xs, h2, h3, h4⟩ := h
    refine ⟨hw _, ?_⟩
    simp only [tYes, if_true]
    refine hte i H _ hi h1 fun v H4 hR s4 => ?_
    refine ⟨xs, s4 _ _ h2, line_lt (by omega), fun b o hb => ?_, xs ++ [v], upd_same, by rw [List.length_append, h3]; rfl, fun k x hx => ?_⟩
    · rw [upd_ne (ne_of_none hb hD)]
      exact s4 _ _ (h1 _ _ hb)
    · by_cases c : k < xs.length
      · rw [List.getElem?_append_left c] at hx
        exact h4 k x hx
      · rw [List.getElem?_append_right (by omega)] at hx
        have : k - xs.length = 0 := by
          cases q : k - xs.length with
          | zero => rfl
          | succ m => rw [q] at hx; simp at hx
        rw [this] at hx
        have e : k = i := by omega
        rw [e, ← Option.some.inj hx]
        exact hR
  · intro H h
    obtain ⟨h1, xs, h2, h3, h4⟩ := h
    exact hd xs H h1 h2 h3 h4
/-! ### how often each value stands in a list -/
def keysOf (ns : List Int) : List Int := ns.foldl (fun ks v => if v ∈ ks then ks else ks ++ [v]) []
theorem keys_ok : ∀ (ns ks : List Int), ks.Nodup → (ns.foldl (fun ks v => if v ∈ ks then ks else ks ++ [v]) ks).Nodup ∧ ∀ z, z ∈ ns.foldl (fun ks v => if v ∈ ks then ks else ks ++ [v]) ks ↔ z ∈ ks ∨ z ∈ ns
  | [], ks, h => ⟨h, fun z => by simp⟩
  | v :: r, ks, h => by
    rw [List.foldl_cons]
    by_cases c : v ∈ ks
    · rw [if_pos c]
      obtain ⟨h1, h2⟩ := keys_ok r ks h
      refine ⟨h1, fun z => ?_⟩
      rw [h2, List.mem_cons]
      constructor
      · rintro (h | h)
        · exact .inl h
        · exact .inr (.inr h)
      · rintro (h | rfl | h)
        · exact .inl h
        · exact .inl c
        · exact .inr h
    · rw [if_neg c]
      obtain ⟨h1, h2⟩ := keys_ok r (ks ++ [v]) (by
        rw [List.nodup_append]
        refine ⟨h, by simp, fun a ha b hb => ?_⟩
        rw [List.mem_singleton] at hb
        exact fun e => c (hb ▸ e ▸ ha))
      refine ⟨h1, fun z => ?_⟩
      rw [h2, List.mem_append, List.mem_singleton, List.mem_cons]
      constructor
      · rintro ((h | h) | h)
        · exact .inl h
        · exact .inr (.inl h)
        · exact .inr (.inr h)
      · rintro (h | h | h)
        · exact .inl (.inl h)
        · exact .inl (.inr h)
        · exact .inr h
theorem keysOf_nodup (ns : List Int) : (keysOf ns).Nodup := (keys_ok ns [] List.nodup_nil).1
theorem mem_keysOf {ns : List Int} {z : Int} : z ∈ keysOf ns ↔ z ∈ ns := by
  unfold keysOf
  rw [(keys_ok ns [] List.nodup_nil).2]
  simp
theorem keysOf_len (ns : List Int) : (keysOf ns).length ≤ ns.length := by
  have h : ∀ (ns ks : List Int), (ns.foldl (fun ks v => if v ∈ ks then ks else ks ++ [v]) ks).length ≤ ks.length + ns.length := by
    intro ns
    induction ns with
    | nil => intro ks; exact Nat.le_refl _
    | cons v r ih =>
      intro ks
      rw [List.foldl_cons]
      refine Nat.le_trans (ih _) ?_
      rw [List.length_cons]
      split
      · omega
      · rw [List.length_append]; simp; omega
  have h2 := h ns []
  rw [List.length_nil, Nat.zero_add] at h2
  exact h2
theorem keysOf_more {ns : List Int} {i : Nat} {v : Int} (h : ns[i]? = some v) : keysOf (ns.take (i + 1)) = if v ∈ keysOf (ns.take i) then keysOf (ns.take i) else keysOf (ns.take i) ++ [v] := by
  unfold keysOf
  rw [take_more h, List.foldl_append]
  rfl
def kvC (ns : List Int) : List (Key × V) := (keysOf ns).map fun z => (.inl z, .int ((ns.count z : Nat) : Int))
theorem kvC_keys (ns : List Int) : (kvC ns).map (·.1) = (keysOf ns).map Sum.inl := by
  unfold kvC
  rw [List.map_map]
  rfl
theorem kvC_len (ns : List Int) : (kvC ns).length = (keysOf ns).length := List.length_map _
theorem valV_map (f : Int → V) (z : Int) : ∀ ks : List Int, valV (ks.map fun z => ((Sum.inl z : Key), f z)) (.inl z) = if z ∈ ks then some (f z) else none
  | [] => rfl
  | k :: r => by
    rw [List.map_cons]
    by_cases c : k = z
    · subst c
      rw [valV_pos rfl, if_pos List.mem_cons_self]
    · rw [valV_neg (fun e => c (Sum.inl.inj e)), valV_map f z r]
      have : (z ∈ k :: r) ↔ z ∈ r := by
        rw [List.mem_cons]
        exact ⟨fun h => h.resolve_left fun e => c e.symm, .inr⟩
      by_cases c2 : z ∈ r
      · rw [if_pos c2, if_pos (this.mpr c2)]
      · rw [if_neg c2, if_neg fun h => c2 (this.mp h)]
theorem valV_kvC (ns : List Int) (z : Int) : valV (kvC ns) (.inl z) = if z ∈ ns then some (.int ((ns.count z : Nat) : Int)) else none := by
  unfold kvC
  rw [valV_map]
  by_cases c : z ∈ ns
  · rw [if_pos c, if_pos (mem_keysOf.mpr c)]
  · rw [if_neg c, if_neg fun h => c (mem_keysOf.mp h)]
theorem getD_kvC (ns : List Int) (z : Int) : (valV (kvC ns) (.inl z)).getD (.int 0) = .int ((ns.count z : Nat) : Int) := by
  rw [valV_kvC]
  by_cases c : z ∈ ns
  · rw [if_pos c]; rfl
  · rw [if_neg c, List.count_eq_zero_of_not_mem c]; rfl
theorem putK_kvC {ns : List Int} {i : Nat} {v : Int} (h : ns[i]? = some v) : putK (kvC (ns.take i)) (.inl v) (.int (((ns.take i).count v : Nat) + 1 : Int)) = kvC (ns.take (i + 1)) := by
  have hc : ∀ z, (ns.take (i + 1)).count z = (ns.take i).count z + if v = z then 1 else 0 := fun z => by
    rw [take_more h, List.count_append]
    congr 1
    rw [List.count_cons, List.count_nil]
    by_cases e : v = z
    · subst e; simp
    · simp [e]
  by_cases c : v ∈ keysOf (ns.take i)
  · have hany : ((kvC (ns.take i)).any fun kv => decide (kv.1 = Sum.inl v)) = true := by
      rw [List.any_eq_true]
      exact ⟨_, List.mem_map.mpr ⟨v, c, rfl⟩, decide_eq_true rfl⟩
    unfold putK
    rw [if_pos hany]
    unfold kvC
    rw [keysOf_more h, if_pos c, List.map_map]
    refine List.map_congr_left fun z hz => ?_
    simp only [Function.comp]
    rw [hc z]
    by_cases e : z = v
    · subst e
      rw [if_pos rfl, if_pos rfl]
      rfl
    · rw [if_neg fun q => e (Sum.inl.inj q), if_neg fun q => e q.symm]
      rfl
  · rw [putK_new _ (by rw [valV_kvC, if_neg fun m => c (mem_keysOf.mpr m)])]
    unfold kvC
    rw [keysOf_more h, if_neg c, List.map_append]
    congr 1
    · refine List.map_congr_left fun z hz => ?_
      rw [hc z, if_neg fun q => c (by rw [q]; exact hz)]
      rfl
    · show [((Sum.inl v : Key), V.int (((ns.take i).count v : Nat) + 1 : Int))] = [((Sum.inl v : Key), V.int (((ns.take (i + 1)).count v : Nat) : Int))]
      rw [hc v, if_pos rfl]
      rfl
/-! ### the winner -/
def topOf (ns : List Int) (m : Int) : List Int := (keysOf ns).filter fun z => decide (((ns.count z : Nat) : Int) = m)
/-- what one place of a merged dump is -/
def mergedV (ns : List Int) (v : V) : Prop := ∃ m : Int, (∃ z ∈ ns, ((ns.count z : Nat) : Int) = m) ∧ (∀ z ∈ ns, ((ns.count z : Nat) : Int) ≤ m) ∧ v = if (topOf ns m).length = 1 then .int ((topOf ns m).getD 0 0) else .non
theorem merged_of {ns : List Int} {m : Int} (h1 : ∃ z ∈ ns, ((ns.count z : Nat) : Int) = m) (h2 : ∀ z ∈ ns, ((ns.count z : Nat) : Int) ≤ m) {best : List Int} (hp : best.Pairwise (· < ·)) (hb : ∀ z, z ∈ best ↔ z ∈ ns ∧ ((ns.count z : Nat) : Int) = m) {v : V} (hv : mergedV ns v) :
    v = if best.length = 1 then .int (best.getD 0 0) else .non := by
  obtain ⟨m2, ⟨z2, a1, a2⟩, a3, rfl⟩ := hv
  obtain ⟨z1, b1, b2⟩ := h1
  have hm : m2 = m := by
    have q1 := h2 z2 a1
    have q2 := a3 z1 b1
    omega
  subst hm
  have hmem : ∀ z, z ∈ topOf ns m2 ↔ z ∈ best := fun z => by
    unfold topOf
    rw [List.mem_filter, decide_eq_true_eq, mem_keysOf, hb]
  have hnd : (topOf ns m2).Nodup := (keysOf_nodup ns).filter _
  have hnb : best.Nodup := hp.imp fun h => by omega
  have perm : (topOf ns m2).Perm best := (List.perm_ext_iff_of_nodup hnd hnb).mpr hmem
  rw [perm.length_eq]
  by_cases c : best.length = 1
  · rw [if_pos c, if_pos c]
    match best, c with
    | [b], _ =>
      rw [List.perm_singleton.mp perm]
  · rw [if_neg c, if_neg c]
end Dw

/-! sums of tuples, an own __eq__ that may be False, isinstance of an own instance -/
namespace Dw
open PySem PySem.Spec PyProof.Rows L2
section
variable {prog : Program} {w : World} {A : Around} {E : Value → Shared → Prop} {s : Shared} {l : Addr} {xs : Array (Int × Tok)}
theorem sum_tupW {Q : Value → Shared → Prop} (hh : A.handled = none) (hl : s.heap.IsTuple l (intItems xs))
    (h : ∀ h' tk t', (∀ b o, s.heap.get? b = some o → h'.get? b = some o) → Q (.int (preSum (numAt xs) xs.size) t') { s with heap := h', toks := tk }) :
    wpAny (model prog w) A (call (.builtin "sum") [.ref l]) Q E s := by
  have hlt : l < s.heap.objs.size := by
    obtain ⟨_, e, _⟩ := hl
    exact Heap.lt_size e
  refine call_sum_walkG (wpAny_pyIter_tuple hl ?_)
  refine ⟨_, [s.heap.objs.size, l], [s.heap.objs.size], _, _, _, numAt xs, rfl, Walks.tuple (A := A.in1) hh _ l (Nat.ne_of_lt hlt) (intItems xs), ⟨⟨_, Heap.get?_push_size _ rfl, rfl, rfl⟩, hl.push _⟩, fun b hb => ?_, (fun _ _ => intItems_at), fun h' tk t' hk => ?_⟩
  · show b < (s.heap.push _).objs.size
    rw [Heap.size_push]
    simp only [List.mem_cons, List.not_mem_nil, or_false] at hb
    rcases hb with rfl | rfl
    · exact Nat.lt_succ_self _
    · exact Nat.lt_succ_of_lt hlt
  · have := h h' tk t' fun b o e => hk b o (fun hm => by
      have hb := Heap.lt_size e
      rw [List.mem_singleton.mp hm] at hb
      exact Nat.lt_irrefl _ hb) (Heap.get?_push_of_some _ e)
    simpa [intItems] using this
end
def rSumT (K : PySem.W.Frag) : List V → Hp → VK → Prop := fun vs H Q => ∃ (a : Addr) (ns : List Int), vs = [V.ref a] ∧ SqT K H a (ns.map V.int) ∧ Q (.int ns.sum) H
section
variable {X : Cx}
theorem cr_sumT (hc : X.calm = true) : CallR X (.builtin "sum") (rSumT X.K) := by
  intro pins s σ H vs us Q I r h
  obtain ⟨a, ns, rfl, hs, q⟩ := h
  obtain ⟨its, rv, hl, _⟩ := I.tuple hs
  rw [Vals.ref1 r]
  obtain ⟨xs, e⟩ := rv.ints.allInts.items
  have hn : numsOf (intItems xs).toList = ns := by
    rw [← e]
    exact rv.ints.numsOf
  rw [nums_intItems] at hn
  rw [e] at hl
  refine sum_tupW (I.ok.hd hc) hl fun h' tk t' hk => ?_
  rw [preSum_eq, List.take_of_length_le (by simp), hn]
  exact ⟨.int _, H, I.kept hk, ⟨_, rfl⟩, q⟩
def rEqOwn (C : Addr) (sp : Sp) : R2 := fun x y H Q => ∃ a b dx dy fs gs, x = .ref a ∧ y = .ref b ∧ H a = some (.ins C dx fs) ∧ H b = some (.ins C dy gs) ∧ sp [.ref a, .ref b] H (fun v H' => ∃ k, v = .bl k ∧ Q v H') E0
theorem op_eqOwn {n : Nat} {C f : Addr} {fd : FuncData} {ps : List Str} {sp : Sp} (M : Meth X.K C "__eq__" f) (F : FnOk X.prog X.w X.K X.mg X.base CX0 n f fd ps sp) (hb : Binds X.K fd ps []) (hr : Room n X.A) : OpR X (compareOp .Eq) (rEqOwn C sp) := by
  intro pins s σ H x y v u Q I rx ry hq
  obtain ⟨a, b, dx, dy, fs, gs, rfl, rfl, ha, hb', hsp⟩ := hq
  show wpAny (model X.prog X.w) X.A (richCompare .Eq v u) (EP X pins σ Q) X.xe s
  cases rx
  cases ry
  obtain ⟨mA, J, _⟩ := ins_get I.hok ha
  obtain ⟨mB, J', _⟩ := ins_get I.hok hb'
  obtain ⟨od, J, _⟩ := J.look
  obtain ⟨od', J', _⟩ := J'.look
  obtain ⟨m, hF⟩ := I.fr
  refine PySem.W.cmp_K (op := .Eq) (tb := .ref C) hr.units0 hF I.ok.mod.kin J J'.type (by simp [PySem.W.notFirst]) M.at_ M.fn ?_
  refine wpAny_mono (run_fn (us := [.ref a, .ref b]) (vs := [.ref a, .ref b]) (dvs := []) F hr hb .nil pass0 I (.cons rfl (.cons rfl .nil)) hsp) (fun v s' q => ?_) fun _ _ e => e
  obtain ⟨z, H', I', rz, k, ez, q⟩ := q
  subst ez
  cases rz
  exact ⟨.bl k, H', I', rfl, q⟩
def rIsC (C : Addr) : List V → Hp → VK → Prop := fun xs H Q => ∃ a dx fs, xs = [.ref a, .ref C] ∧ H a = some (.ins C dx fs) ∧ Q (.bl true) H
theorem call_isOwn {C : Addr} (c : C8.InsC X.K C) : CallR X (.builtin "isinstance") (rIsC C) := C8.call_isC c
end
end Dw

/-! != by an own __eq__ -/
namespace Dw
open PySem PySem.Spec PyProof.Rows L2
section
variable {X : Cx}
def rNeOwn (C : Addr) (sp : Sp) : R2 := fun x y H Q => ∃ a b dx dy fs gs, x = .ref a ∧ y = .ref b ∧ H a = some (.ins C dx fs) ∧ H b = some (.ins C dy gs) ∧ sp [.ref a, .ref b] H (fun v H' => ∃ k, v = .bl k ∧ Q (.bl (!k)) H') E0
/-- the call of the own __eq__, one builtin further in -/
theorem run_in1 {n : Nat} {f : Addr} {fd : FuncData} {ps : List Str} {sp : Sp} {A : Around} {pins : List (Addr × Obj)} {σ : L2.St} {H : Hp} {s : Shared} {a b : Addr} {R : VK} (Fn : FnOk X.prog X.w X.K X.mg X.base CX0 n f fd ps sp) (hb : Binds X.K fd ps []) (hr : Room n A) (hA : A.frames = X.A.frames) (I : Inv X pins σ H s)
    (hsp : sp [.ref a, .ref b] H R E0) : wpAny (model X.prog X.w) A (call (.ref f) [.ref a, .ref b]) (EP X pins σ R) X.xe s := by
  have e0 : Env0 X.prog X.w X.K X.mg X.base A X.stack s H := by
    have e := I.env0
    exact ⟨by rw [hA]; exact e.frames, e.mod, e.bs, e.bsz, e.funs, e.frf, e.hok, e.bare⟩
  have hl := Fn.len _ _ _ _ hsp
  refine wpAny_call (codeAny_mono (Fn.run A X.stack s H ⟨[.ref a, .ref b], []⟩ [.ref a, .ref b] [.ref a, .ref b] R E0 hr e0 (by
    have := hb s [.ref a, .ref b] I.kIn (by simpa using hl)
    simpa using this) (.cons rfl (.cons rfl .nil)) hsp) fun r s' hq => ?_)
  match r, hq with
  | .error e, hq => exact pass0 pins σ H s e s' I hq
  | .ok (.ret v), hq => exact I.after hq
/-- tuple(t), t a tuple -/
def rTupT (K : PySem.W.Frag) : List V → Hp → VK → Prop := fun xs H Q => ∃ p ys, xs = [V.ref p] ∧ SqT K H p ys ∧ Q (.ref p) H
theorem call_tupTT : CallR X (.type "tuple") (rTupT X.K) := by
  intro pins s σ H xs us Q I r h
  obtain ⟨p, ys, e, h1, q⟩ := h
  exact call_tuple_of pins s σ H xs us Q I r ⟨p, ys, e, .inr ⟨h1, q⟩⟩
theorem op_neOwn {n : Nat} {C f : Addr} {fd : FuncData} {ps : List Str} {sp : Sp} (M : Meth X.K C "__eq__" f) (hne : PySem.W.findIn X.K (.ref C) "__ne__" = some (some (.builtin "object.__ne__"))) (hob : PySem.W.mroIn X.K C (.type "object") = some true)
    (F : FnOk X.prog X.w X.K X.mg X.base CX0 n f fd ps sp) (hb : Binds X.K fd ps []) (hr : Room (n + 4) X.A) : OpR X (compareOp .NotEq) (rNeOwn C sp) := by
  intro pins s σ H x y v u Q I rx ry hq
  obtain ⟨a, b, dx, dy, fs, gs, rfl, rfl, ha, hb', hsp⟩ := hq
  show wpAny (model X.prog X.w) X.A (richCompare .NotEq v u) (EP X pins σ Q) X.xe s
  cases rx
  cases ry
  obtain ⟨mA, J, _⟩ := ins_get I.hok ha
  obtain ⟨mB, J', _⟩ := ins_get I.hok hb'
  obtain ⟨od, J, _⟩ := J.look
  obtain ⟨od', J', _⟩ := J'.look
  have one : wpAny (model X.prog X.w) X.A (tryCompare (.ref a) "__ne__" (.ref b)) (fun r s' => ∃ v, r = some v ∧ EP X pins σ Q v s') X.xe s := by
    have S := PySem.F.cmp_object.ne
    have kin := I.kIn
    have hi : PySem.W.Looks (model X.prog X.w) s.heap (isInstance (.ref a) (.type "object")) true := J.type.andThen (PySem.W.looks_mroIn kin hob)
    have hcall : wpAny (model X.prog X.w) X.A (call (.builtin "object.__ne__") [.ref a, .ref b]) (fun v s' => v ≠ .notImplemented ∧ EP X pins σ Q v s') X.xe s := by
      refine wpAny_call (codeAny_call_builtin S.plain PySem.F.cmpEntry_ne (PySem.W.check_slot PySem.F.cmpKind_ne PySem.F.cmpSplit_ne hi (PySem.F.cmpArgs_ne _ _) ?_))
      unfold Builtin.«object.__ne__»
      refine wpAny_bind (wpAny_of_eq (a := (Value.ref a, [Value.ref b])) (by rfl) ?_)
      dsimp only
      refine wpAny_bind (wpAny_cRoomFor (hr.in1 (k := n + 3)).units0 ?_)
      refine wpAny_bind (PySem.W.ifBound_K kin J M.at_ M.fn (wpAny_mono (run_in1 F hb ((hr.in1 (k := n + 3)).mono (by omega)) rfl I hsp) (fun v s' q => ?_) fun _ _ e => e))
      obtain ⟨z, H', I', rz, k, ez, q⟩ := q
      subst ez
      cases rz
      show wpAny _ _ (truthy (.bool k) >>= fun t => ret (.bool (!t))) _ _ _
      refine wpAny_bind (wpAny_of_eq (a := k) (by rfl) ?_)
      exact wpAny_pure ⟨(fun e => by cases e), .bl (!k), H', I', rfl, q⟩
    unfold tryCompare
    refine wpAny_bind ?_
    simp only [callSpecialIfBound?, bindSpecialIfBound?]
    refine wpAny_holding (wpAny_bind (wpAny_bind (wpAny_bind (J.type.here ((PySem.W.looks_findIn kin hne).here ?_)))))
    simp only [S.bind]
    refine wpAny_bind (wpAny_askSetting (wpAny_ite ?_))
    have fin : wpAny (model X.prog X.w) X.A (call (.builtin "object.__ne__") ([.ref a] ++ [.ref b]) >>= fun v => pure (some v)) (fun r s' => wpAny (model X.prog X.w) X.A
          (match r with
            | some Value.notImplemented => pure none
            | none => pure none
            | some v => pure (some v)) (fun r s' => ∃ v, r = some v ∧ EP X pins σ Q v s') X.xe s') X.xe s := by
      refine wpAny_bind (wpAny_mono hcall (fun v s' hv => wpAny_pure ?_) fun _ _ e => e)
      obtain ⟨h1, h2⟩ := hv
      cases v <;> first | exact absurd rfl h1 | exact wpAny_pure ⟨_, rfl, h2⟩
    split
    · exact wpAny_bind (wpAny_pure (wpAny_pure fin))
    · exact wpAny_tryCatch (wpAny_bind (wpAny_pure (wpAny_pure fin)))
  unfold richCompare
  simp only [oneThing_ref]
  refine wpAny_holding (wpAny_bind (wpAny_cRoomFor hr.units0 ?_))
  refine wpAny_bind (J.type.here (wpAny_bind (J'.type.here ?_)))
  rw [if_neg (by simp)]
  refine wpAny_bind (wpAny_pure ?_)
  simp only [Bool.false_eq_true, if_false]
  refine wpAny_bind (wpAny_mono one (fun r s' z => ?_) fun _ _ e => e)
  obtain ⟨v, rfl, hq⟩ := z
  exact wpAny_pure hq
end
end Dw

/-! changes of patches -/
namespace Dw
open PySem PySem.Spec PyProof.Rows L2
abbrev Ch := Int × List Int × List Int
def ChAt (H : Hp) (x : V) (c : Ch) : Prop := ∃ t o n, x = .ref t ∧ H t = some (.tup [.int c.1, .ref o, .ref n]) ∧ H o = some (.tup (c.2.1.map V.int)) ∧ H n = some (.tup (c.2.2.map V.int))
def ChsAt (H : Hp) (xs : List V) (cs : List Ch) : Prop := xs.length = cs.length ∧ ∀ (i : Nat) x, xs[i]? = some x → ∃ c, cs[i]? = some c ∧ ChAt H x c
theorem ChAt.same {H H' : Hp} {x : V} {c : Ch} (s : Same H H') (h : ChAt H x c) : ChAt H' x c := by
  obtain ⟨t, o, n, e, h1, h2, h3⟩ := h
  exact ⟨t, o, n, e, s _ _ h1, s _ _ h2, s _ _ h3⟩
theorem ChsAt.same {H H' : Hp} {xs : List V} {cs : List Ch} (s : Same H H') (h : ChsAt H xs cs) : ChsAt H' xs cs :=
  ⟨h.1, fun i x e => let ⟨c, h1, h2⟩ := h.2 i x e; ⟨c, h1, h2.same s⟩⟩
theorem ChsAt.nil {H : Hp} : ChsAt H [] [] := ⟨rfl, fun i x e => by simp at e⟩
theorem ChsAt.push {H : Hp} {xs : List V} {cs : List Ch} {x : V} {c : Ch} (h : ChsAt H xs cs) (hx : ChAt H x c) : ChsAt H (xs ++ [x]) (cs ++ [c]) := by
  refine ⟨by rw [List.length_append, List.length_append, h.1]; rfl, fun i y e => ?_⟩
  by_cases hi : i < xs.length
  · rw [List.getElem?_append_left hi] at e
    obtain ⟨d, h1, h2⟩ := h.2 i y e
    exact ⟨d, by rw [List.getElem?_append_left (by rw [← h.1]; exact hi)]; exact h1, h2⟩
  · rw [List.getElem?_append_right (by omega)] at e
    have h0 : i - xs.length = 0 := by
      cases q : i - xs.length with
      | zero => rfl
      | succ m => rw [q] at e; simp at e
    rw [h0] at e
    cases e
    refine ⟨c, ?_, hx⟩
    have hc := h.1
    have e2 : i = cs.length := by omega
    rw [e2, List.getElem?_append_right (Nat.le_refl _), Nat.sub_self]
    rfl
theorem ChAt.ups {H : Hp} {D : Addr} {u o' : HO} {x : V} {c : Ch} (hD : H D = some u) (hn : ∀ xs, u ≠ .tup xs) (h : ChAt H x c) : ChAt (upd H D o') x c := by
  obtain ⟨t, o, n, e, h1, h2, h3⟩ := h
  have ne : ∀ {a : Addr} {xs : List V}, H a = some (.tup xs) → a ≠ D := fun ha e => by
    subst e
    rw [hD] at ha
    exact hn _ (Option.some.inj ha)
  exact ⟨t, o, n, e, by rw [upd_ne (ne h1)]; exact h1, by rw [upd_ne (ne h2)]; exact h2, by rw [upd_ne (ne h3)]; exact h3⟩
theorem ChsAt.ups {H : Hp} {D : Addr} {u o' : HO} {xs : List V} {cs : List Ch} (hD : H D = some u) (hn : ∀ xs, u ≠ .tup xs) (h : ChsAt H xs cs) : ChsAt (upd H D o') xs cs :=
  ⟨h.1, fun i x e => let ⟨c, h1, h2⟩ := h.2 i x e; ⟨c, h1, h2.ups hD hn⟩⟩
def Fit : Int → List Ch → Prop
  | _, [] => True
  | l, c :: r => l ≤ c.1 ∧ Bytes c.2.1 ∧ Bytes c.2.2 ∧ c.2.1.length ≤ 4 ∧ c.2.2.length ≤ 4 ∧ c.2.1 ≠ c.2.2 ∧ Fit (c.1 + c.2.1.length + 1) r
def opp : Int → List Ch → List Ch
  | _, [] => []
  | s, c :: r => (c.1 + s, c.2.2, c.2.1) :: opp (s + c.2.2.length - c.2.1.length) r
theorem opp_len : ∀ (cs : List Ch) (s : Int), (opp s cs).length = cs.length
  | [], _ => rfl
  | c :: r, s => by show (opp _ r).length + 1 = r.length + 1; rw [opp_len r]
theorem opp_opp : ∀ (cs : List Ch) (s : Int), opp (-s) (opp s cs) = cs
  | [], _ => rfl
  | c :: r, s => by
    show (c.1 + s + -s, c.2.1, c.2.2) :: opp (-s + c.2.1.length - c.2.2.length) (opp (s + c.2.2.length - c.2.1.length) r) = c :: r
    have e : -s + (c.2.1.length : Int) - c.2.2.length = -(s + c.2.2.length - c.2.1.length) := by omega
    have e2 : c.1 + s + -s = c.1 := by omega
    rw [e, opp_opp r, e2]
theorem Fit.opp : ∀ (cs : List Ch) (l s : Int), Fit l cs → Fit (l + s) (Dw.opp s cs)
  | [], _, _, _ => trivial
  | c :: r, l, s, h => by
    obtain ⟨h1, h2, h3, h4, h5, h6, h7⟩ := h
    refine ⟨by show l + s ≤ c.1 + s; omega, h3, h2, h5, h4, Ne.symm h6, ?_⟩
    have := Fit.opp r _ (s + c.2.2.length - c.2.1.length) h7
    have e : c.1 + (c.2.1.length : Int) + 1 + (s + c.2.2.length - c.2.1.length) = c.1 + s + c.2.2.length + 1 := by omega
    rw [e] at this
    exact this
def chD (c : Ch) : PyData := .tuple [.int c.1, .tuple (c.2.1.map PyData.int), .tuple (c.2.2.map PyData.int)]
theorem chs_shal : ∀ cs : List Ch, ShalAll (cs.map chD) 6
  | [] => .nil
  | c :: r => .cons (.tup (.cons .int (.cons (.tup .ints) (.cons (.tup .ints) .nil)))) (chs_shal r)
theorem shaped_of {d : PyData} (hs : Shal d 7) : SeqAt.shaped d = true := by
  unfold SeqAt.shaped
  rw [Bool.and_eq_true]
  exact ⟨hs.1, decide_eq_true (by have := hs.2; omega)⟩
theorem eqvAll_chs : ∀ cs ds : List Ch, PyData.eqvAll (cs.map chD) (ds.map chD) = decide (cs = ds)
  | [], [] => by
    show PyData.eqvAll [] [] = _
    rw [PyData.eqvAll]
    rfl
  | [], _ :: _ => by
    show PyData.eqvAll [] (_ :: _) = _
    rw [PyData.eqvAll, decide_eq_false (fun e => by cases e)]
  | _ :: _, [] => by
    show PyData.eqvAll (_ :: _) [] = _
    rw [PyData.eqvAll, decide_eq_false (fun e => by cases e)]
  | (z, o, n) :: r, (z2, o2, n2) :: t => by
    show PyData.eqvAll (.tuple [.int z, .tuple (o.map PyData.int), .tuple (n.map PyData.int)] :: r.map chD) (.tuple [.int z2, .tuple (o2.map PyData.int), .tuple (n2.map PyData.int)] :: t.map chD) = _
    rw [PyData.eqvAll, eqvAll_chs r t, PyData.eqv, PyData.eqvAll, PyData.eqv, PyData.eqvAll, PyData.eqv, eqvAll_ints, PyData.eqvAll, PyData.eqv, eqvAll_ints, PyData.eqvAll, Bool.eq_iff_iff]
    simp only [Bool.and_eq_true, decide_eq_true_eq, beq_iff_eq, List.cons.injEq, Prod.mk.injEq]
    constructor
    · rintro ⟨⟨h1, h2, h3, _⟩, h4⟩
      exact ⟨⟨h1, h2, h3⟩, h4⟩
    · rintro ⟨⟨h1, h2, h3⟩, h4⟩
      exact ⟨⟨h1, h2, h3, trivial⟩, h4⟩
theorem dt_tupI {H : Hp} {p : Addr} {ns : List Int} (h : H p = some (.tup (ns.map V.int))) : Dt H (.ref p) (.tuple (ns.map PyData.int)) := .tup h (dt_ints ns)
theorem ChAt.dt {H : Hp} {x : V} {c : Ch} (h : ChAt H x c) : Dt H x (chD c) := by
  obtain ⟨t, o, n, rfl, h1, h2, h3⟩ := h
  exact .tup h1 (.cons (.int _) (.cons (dt_tupI h2) (.cons (dt_tupI h3) .nil)))
theorem ChsAt.dt {H : Hp} : ∀ {xs : List V} {cs : List Ch}, ChsAt H xs cs → DtAll H xs (cs.map chD)
  | [], [], _ => .nil
  | [], _ :: _, h => by have := h.1; simp at this
  | _ :: _, [], h => by have := h.1; simp at this
  | x :: r, c :: t, h => by
    obtain ⟨d, hd, hx⟩ := h.2 0 x rfl
    cases hd
    exact .cons hx.dt (ChsAt.dt ⟨by have := h.1; simpa using this, fun i y e => h.2 (i + 1) y e⟩)
def PatchAt (C : Addr) (H : Hp) (x : Addr) (cs : List Ch) : Prop := ∃ dx t xs, H x = some (.ins C dx [("changes", .ref t)]) ∧ H t = some (.tup xs) ∧ ChsAt H xs cs
theorem PatchAt.same {C : Addr} {H H' : Hp} {x : Addr} {cs : List Ch} (s : Same H H') (h : PatchAt C H x cs) : PatchAt C H' x cs := by
  obtain ⟨dx, t, xs, h1, h2, h3⟩ := h
  exact ⟨dx, t, xs, s _ _ h1, s _ _ h2, h3.same s⟩
def spPatchInit (C : Addr) : Sp := fun vs H Q _ => ∃ (x dx a : Addr) (xs : List V) (cs : List Ch), vs = [.ref x, .ref a] ∧ H x = some (.ins C dx []) ∧ H a = some (.lst xs) ∧ ChsAt H xs cs ∧ cs.length ≤ 100 ∧ Fit 0 cs ∧
  ∀ H', SameB x H H' → (∃ t ys, H' x = some (.ins C dx [("changes", .ref t)]) ∧ H' t = some (.tup ys) ∧ ChsAt H' ys cs) → Q .non H'
def spPatch (C : Addr) : Sp := fun vs H Q _ => ∃ (a : Addr) (xs : List V) (cs : List Ch), vs = [.ref a] ∧ H a = some (.lst xs) ∧ ChsAt H xs cs ∧ cs.length ≤ 100 ∧ Fit 0 cs ∧
  ∀ r H', Same H H' → H r = none → PatchAt C H' r cs → Q (.ref r) H'
theorem conv_patch {C : Addr} : Conv C (spPatchInit C) (spPatch C) := by
  intro vs H Q E ⟨a, xs, cs, e, hA, hC, hl, hF, h1⟩ x dx nx nd ne
  subst e
  have s0 : Same H (upd H dx (.own x)) := same_new nd _
  have nx' : upd H dx (.own x) x = none := by rw [upd_ne ne.symm]; exact nx
  have s1 : Same (upd H dx (.own x)) (upd (upd H dx (.own x)) x (.ins C dx [])) := same_new nx' _
  have s := s0.trans s1
  refine ⟨x, dx, a, xs, cs, rfl, upd_same, s _ _ hA, hC.same s, hl, hF, fun H' sb h => ⟨rfl, h1 x H' (fun b o hb => sb b o (ne_of_none hb nx) (s b o hb)) nx ?_⟩⟩
  obtain ⟨t, ys, e1, e2, e3⟩ := h
  exact ⟨dx, t, ys, e1, e2, e3⟩
def spEqP (C : Addr) : Sp := fun vs H Q _ => ∃ (x y : Addr) (cs ds : List Ch), vs = [.ref x, .ref y] ∧ PatchAt C H x cs ∧ PatchAt C H y ds ∧ Q (.bl (decide (cs = ds))) H
def spOpp (C : Addr) : Sp := fun vs H Q _ => ∃ (x : Addr) (cs : List Ch), vs = [.ref x] ∧ PatchAt C H x cs ∧ cs.length ≤ 100 ∧ Fit 0 cs ∧ ∀ r H', Same H H' → H r = none → PatchAt C H' r (opp 0 cs) → Q (.ref r) H'
theorem ChsAt.pool {H H' : Hp} {p q : Addr} {xs : List V} {cs : List Ch} (hP : Pool H p q) (s : SameB p H H') (h : ChsAt H xs cs) : ChsAt H' xs cs := by
  obtain ⟨ns, a, b, c, d, hp, _⟩ := hP
  have ne : ∀ {r : Addr} {ys : List V}, H r = some (.tup ys) → r ≠ p := fun hr e => by
    subst e
    rw [hp] at hr
    cases hr
  refine ⟨h.1, fun i x e => ?_⟩
  obtain ⟨c, h1, t, o, n, e1, q1, q2, q3⟩ := h.2 i x e
  exact ⟨c, h1, t, o, n, e1, s _ _ (ne q1) q1, s _ _ (ne q2) q2, s _ _ (ne q3) q3⟩
theorem Fit.more : ∀ (cs : List Ch) (l : Int) (c d : Ch), Fit l (cs ++ [c]) → c.1 + c.2.1.length + 1 ≤ d.1 → Bytes d.2.1 → Bytes d.2.2 → d.2.1.length ≤ 4 → d.2.2.length ≤ 4 → d.2.1 ≠ d.2.2 → Fit l (cs ++ [c] ++ [d])
  | [], l, c, d, h, h1, h2, h3, h4, h5, h6 => by
    obtain ⟨g1, g2, g3, g4, g5, g6, _⟩ := h
    exact ⟨g1, g2, g3, g4, g5, g6, h1, h2, h3, h4, h5, h6, trivial⟩
  | b :: r, l, c, d, h, h1, h2, h3, h4, h5, h6 => by
    obtain ⟨g1, g2, g3, g4, g5, g6, g7⟩ := h
    exact ⟨g1, g2, g3, g4, g5, g6, Fit.more r _ c d g7 h1 h2 h3 h4 h5 h6⟩
end Dw

/-! tracks as they are written: sectors, fields, gaps -/
namespace Dw
open PySem PySem.Spec PyProof.Rows L2
/-! ### small readings -/
/-- xs[-1] of a list of ints -/
def rIxL : R2 := fun x y H Q => ∃ p ns, x = .ref p ∧ y = .int (-1) ∧ H p = some (IL ns) ∧ ns ≠ [] ∧ Q (.int (ns.getLastD 0)) H
theorem ix_listL {X : Cx} : IxR X rIxL := IxR.imp ix_listH fun x y H Q h => by
  obtain ⟨p, ns, e1, e2, h1, h2, q⟩ := h
  refine ⟨p, ns.map V.int, -1, _, e1, e2, h1, ?_, q⟩
  have e : ns = ns.dropLast ++ [ns.getLastD 0] := by
    rw [List.getLastD_eq_getLast?, List.getLast?_eq_some_getLast h2]
    exact (List.dropLast_concat_getLast h2).symm
  rw [e, List.map_append]
  simp only [List.map_cons, List.map_nil]
  rw [atI_last]
  simp
/-- list(t) of a tuple of ints -/
def rListTI (K : PySem.W.Frag) : List V → Hp → VK → Prop := fun xs H Q => ∃ p ns, xs = [.ref p] ∧ SqT K H p (ns.map V.int) ∧ ∀ l, H l = none → Q (.ref l) (upd H l (IL ns))
theorem call_listTI {X : Cx} : CallR X (.type "list") (rListTI X.K) := CallR.imp call_list_of fun xs H Q h => by
  obtain ⟨p, ns, e, h1, q⟩ := h
  exact ⟨p, _, e, .inr h1, q⟩
/-! ### sectors -/
abbrev Sec := List Int × Option (List Int) × Bool × Bool
def dataV (da : Option (List Int)) : PyData := match da with | none => .none | some ns => .tuple (ns.map PyData.int)
/-- a value that is None or a list of ints -/
def DatL (H : Hp) (v : V) (da : Option (List Int)) : Prop := (da = none ∧ v = .non) ∨ ∃ a ns, da = some ns ∧ v = .ref a ∧ H a = some (IL ns)
/-- .. or a tuple of ints -/
def DatT (H : Hp) (v : V) (da : Option (List Int)) : Prop := (da = none ∧ v = .non) ∨ ∃ a ns, da = some ns ∧ v = .ref a ∧ H a = some (.tup (ns.map V.int))
theorem DatL.same {H H' : Hp} {v : V} {da : Option (List Int)} (s : Same H H') (h : DatL H v da) : DatL H' v da := by
  rcases h with h | ⟨a, ns, e1, e2, e3⟩
  · exact .inl h
  · exact .inr ⟨a, ns, e1, e2, s _ _ e3⟩
theorem DatT.same {H H' : Hp} {v : V} {da : Option (List Int)} (s : Same H H') (h : DatT H v da) : DatT H' v da := by
  rcases h with h | ⟨a, ns, e1, e2, e3⟩
  · exact .inl h
  · exact .inr ⟨a, ns, e1, e2, s _ _ e3⟩
theorem DatT.dt {H : Hp} {v : V} {da : Option (List Int)} (h : DatT H v da) : Dt H v (dataV da) := by
  rcases h with ⟨rfl, rfl⟩ | ⟨a, ns, rfl, rfl, h⟩
  · exact .non
  · exact dt_tupI h
theorem shal_data {da : Option (List Int)} {k : Nat} : Shal (dataV da) (k + 2) := by
  cases da with
  | none => exact .non
  | some ns => exact .tup .ints
theorem eqv_data (a b : Option (List Int)) : PyData.eqv (dataV a) (dataV b) = decide (a = b) := by
  cases a with
  | none =>
    cases b with
    | none => rw [decide_eq_true rfl]; rfl
    | some y => rw [decide_eq_false (fun e => by cases e)]; rfl
  | some x =>
    cases b with
    | none => rw [decide_eq_false (fun e => by cases e)]; rfl
    | some y =>
      show PyData.eqv (.tuple (x.map PyData.int)) (.tuple (y.map PyData.int)) = _
      rw [PyData.eqv, eqvAll_ints]
      by_cases c : x = y
      · rw [decide_eq_true c, decide_eq_true (congrArg some c)]
      · rw [decide_eq_false c, decide_eq_false (fun e => c (Option.some.inj e))]
theorem all_bytes {ns : List Int} (h : Bytes ns) : (ns.all fun z => decide (0 ≤ z) && decide (z ≤ 255)) = true := by
  rw [List.all_eq_true]
  intro y hy
  have := h y hy
  rw [decide_eq_true this.1, decide_eq_true (by omega)]
  rfl
theorem putF_le (x : Str) (v : V) : ∀ fs : List (Str × V), (putF x v fs).length ≤ fs.length + 1
  | [] => Nat.le_refl _
  | (y, u) :: r => by
    unfold putF
    split
    · exact Nat.le_succ _
    · have := putF_le x v r
      simp only [List.length_cons]
      omega
/-- the plan of a sector: a tuple of four -/
def RawAt (H : Hp) (x : V) (s : Sec) : Prop := ∃ t ta v, x = .ref t ∧ H t = some (.tup [.ref ta, v, .bl s.2.2.1, .bl s.2.2.2]) ∧ H ta = some (.tup (s.1.map V.int)) ∧ DatL H v s.2.1
theorem RawAt.same {H H' : Hp} {x : V} {s : Sec} (e : Same H H') (h : RawAt H x s) : RawAt H' x s := by
  obtain ⟨t, ta, v, h0, h1, h2, h3⟩ := h
  exact ⟨t, ta, v, h0, e _ _ h1, e _ _ h2, h3.same e⟩
def secF (ta : Addr) (v : V) (aw dw : Bool) : List (Str × V) := [("address", .ref ta), ("data", v), ("address_wrong", .bl aw), ("data_wrong", .bl dw)]
theorem sf_address {ta : Addr} {v : V} {aw dw : Bool} : List.lookup ("address" : Str) (secF ta v aw dw) = some (.ref ta) := by
  unfold secF
  simp [List.lookup]
theorem sf_data {ta : Addr} {v : V} {aw dw : Bool} : List.lookup ("data" : Str) (secF ta v aw dw) = some v := by
  have e1 : (("data" : Str) == ("address" : Str)) = false := by decide +kernel
  unfold secF
  simp [List.lookup, e1]
theorem sf_aw {ta : Addr} {v : V} {aw dw : Bool} : List.lookup ("address_wrong" : Str) (secF ta v aw dw) = some (.bl aw) := by
  have e1 : (("address_wrong" : Str) == ("address" : Str)) = false := by decide +kernel
  have e2 : (("address_wrong" : Str) == ("data" : Str)) = false := by decide +kernel
  unfold secF
  simp [List.lookup, e1, e2]
theorem sf_dw {ta : Addr} {v : V} {aw dw : Bool} : List.lookup ("data_wrong" : Str) (secF ta v aw dw) = some (.bl dw) := by
  have e1 : (("data_wrong" : Str) == ("address" : Str)) = false := by decide +kernel
  have e2 : (("data_wrong" : Str) == ("data" : Str)) = false := by decide +kernel
  have e3 : (("data_wrong" : Str) == ("address_wrong" : Str)) = false := by decide +kernel
  unfold secF
  simp [List.lookup, e1, e2, e3]
theorem sf_put {ta : Addr} {v : V} {aw dw : Bool} : putF "data_wrong" (.bl dw) (putF "address_wrong" (.bl aw) (putF "data" v (putF "address" (.ref ta) []))) = secF ta v aw dw := by
  have e1 : ¬ ("address" : Str) = "data" := by decide +kernel
  have e2 : ¬ ("address" : Str) = "address_wrong" := by decide +kernel
  have e3 : ¬ ("address" : Str) = "data_wrong" := by decide +kernel
  have e4 : ¬ ("data" : Str) = "address_wrong" := by decide +kernel
  have e5 : ¬ ("data" : Str) = "data_wrong" := by decide +kernel
  have e6 : ¬ ("address_wrong" : Str) = "data_wrong" := by decide +kernel
  simp [putF, secF, e1, e2, e3, e4, e5, e6]
/-- a Sector -/
def SecAt (C : Addr) (H : Hp) (x : V) (s : Sec) : Prop := ∃ p dx ta v, x = .ref p ∧ H p = some (.ins C dx (secF ta v s.2.2.1 s.2.2.2)) ∧ H ta = some (.tup (s.1.map V.int)) ∧ DatT H v s.2.1
theorem SecAt.same {C : Addr} {H H' : Hp} {x : V} {s : Sec} (e : Same H H') (h : SecAt C H x s) : SecAt C H' x s := by
  obtain ⟨t, dx, ta, v, h0, h1, h2, h3⟩ := h
  exact ⟨t, dx, ta, v, h0, e _ _ h1, e _ _ h2, h3.same e⟩
/-- things told one by one -/
def AllAt {α : Type} (R : V → α → Prop) (xs : List V) (ss : List α) : Prop := xs.length = ss.length ∧ ∀ (i : Nat) x, xs[i]? = some x → ∃ s, ss[i]? = some s ∧ R x s
theorem AllAt.imp {α : Type} {R R' : V → α → Prop} {xs : List V} {ss : List α} (h : AllAt R xs ss) (i : ∀ x s, R x s → R' x s) : AllAt R' xs ss := ⟨h.1, fun j x e => let ⟨s, h1, h2⟩ := h.2 j x e; ⟨s, h1, i _ _ h2⟩⟩
theorem AllAt.nil {α : Type} {R : V → α → Prop} : AllAt R [] ([] : List α) := ⟨rfl, fun i x e => by simp at e⟩
theorem AllAt.push {α : Type} {R : V → α → Prop} {xs : List V} {ss : List α} {x : V} {s : α} (h : AllAt R xs ss) (hx : R x s) : AllAt R (xs ++ [x]) (ss ++ [s]) := by
  refine ⟨by rw [List.length_append, List.length_append, h.1]; rfl, fun i y e => ?_⟩
  by_cases hi : i < xs.length
  · rw [List.getElem?_append_left hi] at e
    obtain ⟨c, h1, h2⟩ := h.2 i y e
    exact ⟨c, by rw [List.getElem?_append_left (h.1 ▸ hi)]; exact h1, h2⟩
  · have hi' : i = xs.length := by
      have := (List.getElem?_eq_some_iff.mp e).1
      rw [List.length_append] at this
      simp at this
      omega
    subst hi'
    rw [List.getElem?_append_right (Nat.le_refl _), Nat.sub_self] at e
    cases e
    exact ⟨s, by rw [h.1, List.getElem?_append_right (Nat.le_refl _), Nat.sub_self]; rfl, hx⟩
theorem AllAt.at {α : Type} {R : V → α → Prop} {xs : List V} {ss : List α} (h : AllAt R xs ss) {i : Nat} {s : α} (e : ss[i]? = some s) : ∃ x, xs[i]? = some x ∧ R x s := by
  have hl := (List.getElem?_eq_some_iff.mp e).1
  have hx : xs[i]? = some (xs[i]'(by have := h.1; omega)) := List.getElem?_eq_getElem _
  obtain ⟨s', h1, h2⟩ := h.2 i _ hx
  rw [e] at h1
  cases h1
  exact ⟨_, hx, h2⟩
/-- what a sector may be -/
def OkSec (s : Sec) : Prop := ∃ a b c d : Int, s.1 = [a, b, c, d] ∧ Bytes s.1 ∧ d ≤ 5 ∧ ∀ ns, s.2.1 = some ns → ns.length = 16 * 2 ^ d.toNat ∧ Bytes ns
/-! ### cells -/
def markZ : List Int := [0, 1, 0, 0, 0, 1, 0, 0, 1, 0, 0, 0, 1, 0, 0, 1]
def marksZ : List Int := markZ ++ markZ ++ markZ
def gapZ (n : Nat) (b : Int) : List Int := mfmF b (bitsOf (List.replicate n 78))
def pairZ (c : Int) : List Int := [c / 256, c % 256]
def chkZ (ns : List Int) (w : Bool) : Int := if w = true then crcZ ([161, 161, 161] ++ ns) + 1 - 2 * (crcZ ([161, 161, 161] ++ ns) % 2) else crcZ ([161, 161, 161] ++ ns)
theorem chkZ_nn (ns : List Int) (w : Bool) : 0 ≤ chkZ ns w ∧ chkZ ns w < 65536 := by
  have h := crcZ_nn ([161, 161, 161] ++ ns)
  unfold chkZ
  split
  · omega
  · exact h
theorem pairZ_bytes {c : Int} (h : 0 ≤ c ∧ c < 65536) : Bytes (pairZ c) := by
  intro x hx
  unfold pairZ at hx
  simp only [List.mem_cons, List.not_mem_nil, or_false] at hx
  rcases hx with rfl | rfl <;> omega
def fieldZ (ns : List Int) (w : Bool) : List Int := mfmF 0 (bitsOf (List.replicate 6 0)) ++ marksZ ++ mfmF 1 (bitsOf (ns ++ pairZ (chkZ ns w)))
def secStep (cells : List Int) (s : Sec) : List Int :=
  let c1 := cells ++ fieldZ (254 :: s.1) s.2.2.1
  let c2 := c1 ++ gapZ 8 (c1.getLastD 0)
  let c3 := match s.2.1 with | none => c2 | some d => c2 ++ fieldZ (251 :: d) s.2.2.2
  c3 ++ gapZ 8 (c3.getLastD 0)
/-- the data field behind c2, if there is one -/
def datC (c2 : List Int) (da : Option (List Int)) (dw : Bool) : List Int := match da with | none => c2 | some d => c2 ++ fieldZ (251 :: d) dw
theorem secStep_eq (Z ad : List Int) (da : Option (List Int)) (aw dw : Bool) : secStep Z (ad, da, aw, dw) = datC (Z ++ fieldZ (254 :: ad) aw ++ gapZ 8 ((Z ++ fieldZ (254 :: ad) aw).getLastD 0)) da dw ++ gapZ 8 ((datC (Z ++ fieldZ (254 :: ad) aw ++ gapZ 8 ((Z ++ fieldZ (254 :: ad) aw).getLastD 0)) da dw).getLastD 0) := by
  cases da <;> rfl
def trackZ (ss : List Sec) : List Int := ss.foldl secStep (gapZ 10 0)
theorem trackZ_more {ss : List Sec} {i : Nat} {s : Sec} (h : ss[i]? = some s) : trackZ (ss.take (i + 1)) = secStep (trackZ (ss.take i)) s := by
  unfold trackZ
  rw [take_more h, List.foldl_append]
  rfl
theorem gapZ_len (n : Nat) (b : Int) : (gapZ n b).length = 16 * n := by
  unfold gapZ
  rw [mfmF_len, bitsOf_len, List.length_replicate]
  omega
theorem fieldZ_len (ns : List Int) (w : Bool) : (fieldZ ns w).length = 16 * (11 + ns.length) := by
  unfold fieldZ
  rw [List.length_append, List.length_append, mfmF_len, mfmF_len, bitsOf_len, bitsOf_len, List.length_append, List.length_replicate]
  show 2 * (8 * 6) + 48 + 2 * (8 * (ns.length + 2)) = _
  omega
/-- bytes of a sector -/
def secN (s : Sec) : Nat := 32 + match s.2.1 with | none => 0 | some d => 12 + d.length
def trackN (ss : List Sec) : Nat := ss.foldl (fun n s => n + secN s) 10
theorem trackN_more {ss : List Sec} {i : Nat} {s : Sec} (h : ss[i]? = some s) : trackN (ss.take (i + 1)) = trackN (ss.take i) + secN s := by
  unfold trackN
  rw [take_more h, List.foldl_append]
  rfl
theorem secStep_len (cells : List Int) (s : Sec) (h : s.1.length = 4) : (secStep cells s).length = cells.length + 16 * secN s := by
  unfold secStep secN
  simp only
  cases s.2.1 with
  | none =>
    simp only [List.length_append, gapZ_len, fieldZ_len, List.length_cons, h]
    try omega
  | some d =>
    simp only [List.length_append, gapZ_len, fieldZ_len, List.length_cons, h]
    omega
theorem trackZ_len {ss : List Sec} (h : ∀ s ∈ ss, s.1.length = 4) : (trackZ ss).length = 16 * trackN ss := by
  have key : ∀ (ss : List Sec) (c : List Int) (n : Nat), (∀ s ∈ ss, s.1.length = 4) → c.length = 16 * n → (ss.foldl secStep c).length = 16 * ss.foldl (fun n s => n + secN s) n := by
    intro ss
    induction ss with
    | nil => intro c n _ h; exact h
    | cons s r ih =>
      intro c n h h2
      rw [List.foldl_cons, List.foldl_cons]
      refine ih _ _ (fun s hs => h s (List.mem_cons_of_mem _ hs)) ?_
      rw [secStep_len _ _ (h s List.mem_cons_self), h2]
      omega
  exact key ss _ _ h (gapZ_len _ _)
theorem okSec_len {s : Sec} (h : OkSec s) : s.1.length = 4 := by
  obtain ⟨a, b, c, d, e, _⟩ := h
  rw [e]
  rfl
theorem okSec_n {s : Sec} (h : OkSec s) : secN s ≤ 556 := by
  obtain ⟨a, b, c, d, e, hb, hd, h⟩ := h
  unfold secN
  cases h2 : s.2.1 with
  | none => decide
  | some ns =>
    have h3 := (h ns h2).1
    have h4 : 2 ^ d.toNat ≤ 2 ^ 5 := Nat.pow_le_pow_right (by decide) (by omega)
    simp only
    omega
theorem trackN_le {ss : List Sec} (h : ∀ s ∈ ss, OkSec s) : trackN ss ≤ 10 + 556 * ss.length := by
  have key : ∀ (ss : List Sec) (n : Nat), (∀ s ∈ ss, OkSec s) → ss.foldl (fun n s => n + secN s) n ≤ n + 556 * ss.length := by
    intro ss
    induction ss with
    | nil => intro n _; exact Nat.le_refl _
    | cons s r ih =>
      intro n h
      have h1 := ih (n + secN s) fun s hs => h s (List.mem_cons_of_mem _ hs)
      have h2 := okSec_n (h s List.mem_cons_self)
      rw [List.foldl_cons, List.length_cons]
      omega
  exact key ss 10 h
theorem take_all {α : Type} {P : α → Prop} {l : List α} (h : ∀ x ∈ l, P x) (i : Nat) : ∀ x ∈ l.take i, P x := fun x hx => h x (List.mem_of_mem_take hx)
theorem xor1 (n : Nat) : ((n ^^^ 1 : Nat) : Int) = (n : Int) + 1 - 2 * ((n : Int) % 2) := by
  have h := Nat.xor_mod_two_pow (a := n) (b := 1) (n := 1)
  have h2 : (n ^^^ 1) / 2 = n / 2 := by rw [Nat.xor_div_two]; simp
  have h3 : (n ^^^ 1) % 2 = (n % 2) ^^^ 1 := h
  have h4 : n % 2 = 0 ∨ n % 2 = 1 := by omega
  rcases h4 with h4 | h4 <;> rw [h4] at h3
  · have h5 : (n ^^^ 1) % 2 = 1 := h3
    omega
  · have h5 : (n ^^^ 1) % 2 = 0 := h3
    omega
theorem chk_xor (ns : List Int) : ((crcN (161 :: 161 :: 161 :: ns.map Int.toNat) ^^^ 1 : Nat) : Int) = chkZ ns true := by
  rw [xor1]
  rfl
theorem rep3_mark : rep 3 markZ = marksZ := by decide
theorem bytes_rep {n : Nat} {z : Int} (h : 0 ≤ z ∧ z < 256) : Bytes (List.replicate n z) := fun x hx => by
  rw [(List.mem_replicate.mp hx).2]
  exact h
theorem Bytes.app {a b : List Int} (h1 : Bytes a) (h2 : Bytes b) : Bytes (a ++ b) := fun x hx => by
  rcases List.mem_append.mp hx with h | h
  · exact h1 x h
  · exact h2 x h
theorem Bytes.one {z : Int} (h : 0 ≤ z ∧ z < 256) : Bytes [z] := fun x hx => by
  rw [List.mem_singleton.mp hx]
  exact h
/-! ### the law's own CRC -/
theorem flip_bit (n k : Nat) : ((n ^^^ 2 ^ k : Nat) : Int) = (n : Int) + 2 ^ k - 2 * 2 ^ k * ((n : Int) / 2 ^ k % 2) := by
  have e1 : (n ^^^ 2 ^ k) / 2 ^ k = (n / 2 ^ k) ^^^ 1 := by
    rw [divp, Nat.div_self (Nat.two_pow_pos k)]
  have e2 : (n ^^^ 2 ^ k) % 2 ^ k = n % 2 ^ k := by
    rw [modp, Nat.mod_self, Nat.xor_zero]
  have h1 := Nat.div_add_mod (n ^^^ 2 ^ k) (2 ^ k)
  have h2 := Nat.div_add_mod n (2 ^ k)
  rw [e1, e2] at h1
  have h3 := xor1 (n / 2 ^ k)
  have e3 : (n : Int) / 2 ^ k = ((n / 2 ^ k : Nat) : Int) := zdiv n k
  rw [e3]
  have h1' : (2 ^ k : Int) * (((n / 2 ^ k) ^^^ 1 : Nat) : Int) + ((n % 2 ^ k : Nat) : Int) = ((n ^^^ 2 ^ k : Nat) : Int) := by
    rw [← h1]; simp
  have h2' : (2 ^ k : Int) * ((n / 2 ^ k : Nat) : Int) + ((n % 2 ^ k : Nat) : Int) = (n : Int) := by
    conv => rhs; rw [← h2]
    simp
  rw [h3] at h1'
  rw [← h1', ← h2']
  generalize (2 ^ k : Int) = p
  generalize ((n / 2 ^ k : Nat) : Int) = q
  generalize ((n % 2 ^ k : Nat) : Int) = r
  generalize q % 2 = s
  have : p * (q + 1 - 2 * s) = p * q + p - 2 * p * s := by
    rw [Int.mul_sub, Int.mul_add, Int.mul_one, ← Int.mul_assoc, Int.mul_comm p 2]
  omega
def flipsN (m i : Nat) : Nat := ([1, 32, 4096].take i).foldl (· ^^^ ·) m
theorem flips3 (m : Nat) : flipsN m 3 = m ^^^ 4129 := by
  show ((m ^^^ 1) ^^^ 32) ^^^ 4096 = _
  rw [Nat.xor_assoc, Nat.xor_assoc]
  exact congrArg (m ^^^ ·) (by decide)
theorem bits8_get (v k : Nat) (h : k < 8) : (bits8 v)[k]? = some ((v / 2 ^ (7 - k) % 2 : Nat) : Int) := by
  match k, h with
  | 0, _ => rfl
  | 1, _ => rfl
  | 2, _ => rfl
  | 3, _ => rfl
  | 4, _ => rfl
  | 5, _ => rfl
  | 6, _ => rfl
  | 7, _ => simp [bits8]
theorem bits8_int (v : Nat) : [(v : Int) / 128 % 2, (v : Int) / 64 % 2, (v : Int) / 32 % 2, (v : Int) / 16 % 2, (v : Int) / 8 % 2, (v : Int) / 4 % 2, (v : Int) / 2 % 2, (v : Int) % 2] = bits8 v := by
  simp [bits8]
theorem mfmF_snoc (b : Int) (xs : List Int) (y : Int) : mfmF b (xs ++ [y]) = mfmF b xs ++ [clk (lastOf b xs) y, y] := by
  rw [mfmF_append]
  rfl
theorem lastOf_snoc (b : Int) (xs : List Int) (y : Int) : lastOf b (xs ++ [y]) = y := by
  unfold lastOf
  simp
/-! ### the last cell -/
theorem getLastD_append {a b : List Int} {x : Int} (h : b ≠ []) : (a ++ b).getLastD x = b.getLastD x := by
  rw [List.getLastD_eq_getLast?, List.getLastD_eq_getLast?, List.getLast?_append, List.getLast?_eq_some_getLast h]
  rfl
theorem mfmF_last : ∀ (b : Int) (bs : List Int) (x : Int), bs ≠ [] → (mfmF b bs).getLastD x = bs.getLastD x
  | _, [], _, h => absurd rfl h
  | b, [c], x, _ => rfl
  | b, c :: d :: r, x, _ => by
    have ih := mfmF_last c (d :: r) x (by simp)
    show (clk b c :: c :: mfmF c (d :: r)).getLastD x = _
    have e : mfmF c (d :: r) ≠ [] := by
      show clk c d :: d :: mfmF d r ≠ []
      simp
    have e2 : (clk b c :: c :: mfmF c (d :: r)) = [clk b c, c] ++ mfmF c (d :: r) := rfl
    rw [e2, getLastD_append e, ih]
    simp [List.getLastD]
theorem bitsOf_append (a b : List Int) : bitsOf (a ++ b) = bitsOf a ++ bitsOf b := by
  unfold bitsOf
  rw [List.map_append, List.flatten_append]
theorem gapZ_last {n : Nat} {b x : Int} (h : 0 < n) : (gapZ n b).getLastD x = 0 := by
  obtain ⟨m, rfl⟩ : ∃ m, n = m + 1 := ⟨n - 1, by omega⟩
  have e : bitsOf (List.replicate (m + 1) 78) = bitsOf (List.replicate m 78) ++ bits8 78 := by
    rw [List.replicate_succ', bitsOf_append]
    rfl
  unfold gapZ
  rw [mfmF_last _ _ _ (by rw [e]; simp [bits8]), e, getLastD_append (by simp [bits8])]
  rfl
theorem secStep_last (cells : List Int) (s : Sec) (x : Int) : (secStep cells s).getLastD x = 0 := by
  unfold secStep
  simp only
  have g : ∀ b, gapZ 8 b ≠ [] := fun b e => by
    have := gapZ_len 8 b
    rw [e] at this
    cases this
  rw [getLastD_append (g _), gapZ_last (by decide)]
theorem trackZ_last (ss : List Sec) (x : Int) : (trackZ ss).getLastD x = 0 := by
  have key : ∀ (ss : List Sec) (c : List Int), c.getLastD x = 0 → (ss.foldl secStep c).getLastD x = 0 := by
    intro ss
    induction ss with
    | nil => intro c h; exact h
    | cons s r ih => intro c _; rw [List.foldl_cons]; exact ih _ (secStep_last _ _ _)
  exact key ss _ (gapZ_last (by decide))
theorem trackZ_ne (ss : List Sec) : trackZ ss ≠ [] := fun e => by
  have h := trackZ_last ss 1
  rw [e] at h
  cases h
end Dw
namespace Dw
open PySem PySem.Spec PyProof.Rows L2
def lputZ (cs ns : List Int) : List Int := cs ++ mfmF (cs.getLastD 0) (bitsOf ns)
theorem lput_len (cs ns : List Int) : (lputZ cs ns).length = cs.length + 16 * ns.length := by
  unfold lputZ
  rw [List.length_append, mfmF_len, bitsOf_len]
  omega
theorem lfield_eq {cs ns : List Int} {wr : Bool} (h : cs.getLastD 0 = 0) : lputZ (lputZ cs [0, 0, 0, 0, 0, 0] ++ marksZ) (ns ++ pairZ (chkZ ns wr)) = cs ++ fieldZ ns wr := by
  have e1 : (lputZ cs [0, 0, 0, 0, 0, 0] ++ marksZ).getLastD 0 = 1 := by
    rw [getLastD_append (by decide)]
    rfl
  unfold lputZ at e1 ⊢
  rw [e1, h]
  unfold fieldZ
  simp only [List.append_assoc]
  rfl
theorem lput_gap {cs : List Int} {n : Nat} : lputZ cs (List.replicate n 78) = cs ++ gapZ n (cs.getLastD 0) := rfl
theorem flip1 (n : Nat) : ((n ^^^ 1 : Nat) : Int) = (n : Int) + 1 - 2 * ((n : Int) / 1 % 2) := flip_bit n 0
theorem flip32 (n : Nat) : ((n ^^^ 32 : Nat) : Int) = (n : Int) + 32 - 64 * ((n : Int) / 32 % 2) := flip_bit n 5
theorem flip4096 (n : Nat) : ((n ^^^ 4096 : Nat) : Int) = (n : Int) + 4096 - 8192 * ((n : Int) / 4096 % 2) := flip_bit n 12
def spCrcS : Sp := fun vs H Q _ => ∃ (a : Addr) (ns : List Int), vs = [.ref a] ∧ H a = some (IL ns) ∧ Bytes ns ∧ ∀ H', Same H H' → Q (.int (crcZ ns)) H'
end Dw
namespace Dw
open PySem PySem.Spec PyProof.Rows L2
theorem SecAt.ups {C D : Addr} {H : Hp} {xs : List V} {o : HO} {x : V} {s : Sec} (hD : H D = some (.lst xs)) (h : SecAt C H x s) : SecAt C (upd H D o) x s := by
  obtain ⟨p, dx, ta, v, rfl, h1, h2, h3⟩ := h
  have n1 : p ≠ D := fun e => by subst e; rw [h1] at hD; cases hD
  have n2 : ta ≠ D := fun e => by subst e; rw [h2] at hD; cases hD
  refine ⟨p, dx, ta, v, rfl, by rw [upd_ne n1]; exact h1, by rw [upd_ne n2]; exact h2, ?_⟩
  rcases h3 with h3 | ⟨a, ns, e1, e2, e3⟩
  · exact .inl h3
  · have n3 : a ≠ D := fun e => by subst e; rw [e3] at hD; cases hD
    exact .inr ⟨a, ns, e1, e2, by rw [upd_ne n3]; exact e3⟩
theorem RawAt.ups {D : Addr} {H : Hp} {xs : List V} {o : HO} {x : V} {s : Sec} (hD : H D = some (.lst xs)) (hr : ∀ y ∈ xs, ∃ a, y = .ref a) (hn : ∀ ns, s.2.1 = some ns → ns ≠ []) (h : RawAt H x s) : RawAt (upd H D o) x s := by
  obtain ⟨p, ta, v, rfl, h1, h2, h3⟩ := h
  have n1 : p ≠ D := fun e => by subst e; rw [h1] at hD; cases hD
  have n2 : ta ≠ D := fun e => by subst e; rw [h2] at hD; cases hD
  refine ⟨p, ta, v, rfl, by rw [upd_ne n1]; exact h1, by rw [upd_ne n2]; exact h2, ?_⟩
  rcases h3 with h3 | ⟨a, ns, e1, e2, e3⟩
  · exact .inl h3
  · have n3 : a ≠ D := fun e => by
      subst e
      rw [e3] at hD
      unfold IL at hD
      injection hD with hD
      injection hD with hD
      cases ns with
      | nil => exact hn _ e1 rfl
      | cons n r =>
        rw [List.map_cons] at hD
        obtain ⟨b, hb⟩ := hr (V.int n) (by rw [← hD]; exact List.mem_cons_self)
        cases hb
    exact .inr ⟨a, ns, e1, e2, by rw [upd_ne n3]; exact e3⟩
theorem RawAt.refs {H : Hp} {xs : List V} {ss : List Sec} (h : AllAt (RawAt H) xs ss) : ∀ y ∈ xs, ∃ a, y = V.ref a := fun y hy => by
  obtain ⟨i, hi, rfl⟩ := List.getElem_of_mem hy
  obtain ⟨s, _, p, _, _, e, _⟩ := h.2 i _ (List.getElem?_eq_getElem hi)
  exact ⟨p, e⟩
theorem okSec_ne {s : Sec} (h : OkSec s) : ∀ ns, s.2.1 = some ns → ns ≠ [] := fun ns e e2 => by
  obtain ⟨a, b, c, d, _, _, _, h4⟩ := h
  have h5 := (h4 ns e).1
  rw [e2] at h5
  have : 0 < 2 ^ d.toNat := Nat.two_pow_pos _
  simp at h5
  omega
end Dw

/-! discs of blocks -/
namespace Dw
open PySem PySem.Spec PyProof.Rows L2
/-- a walk over a list or a tuple -/
def iSeqA (K : PySem.W.Frag) (tl : TE) : TI := fun σ H R => tl σ H fun x H1 => ∃ a xs, x = .ref a ∧ ((SqL K H1 a xs ∧ R (Itl K a) H1) ∨ (SqT K H1 a xs ∧ R (Itt K a) H1))
theorem pi_seqA {X : Cx} {tg l : Expr} {tl : TE} (hl : PE X l tl) : PI X tg l (iSeqA X.K tl) := by
  refine ⟨fun pins s σ H R I h => ?_⟩
  refine thn (hl.run pins s σ H _ I h) fun v s1 ⟨x, H1, I1, r1, q1⟩ => ?_
  obtain ⟨a, xs, e, q⟩ := q1
  subst e
  cases r1
  have fin : ∀ b ∈ [s1.heap.objs.size], b = s1.heap.objs.size := fun b hb => by simpa using hb
  rcases q with ⟨hq, q⟩ | ⟨hq, q⟩
  · obtain ⟨its, rv, p, hz⟩ := I1.list hq
    refine wpAny_pyIter_list p.isList ?_
    refine ⟨s1.heap.objs.size, [s1.heap.objs.size], _, _, H1, rfl, I1.kept (t' := s1.toks) fun b o e => Heap.get?_push_of_some _ e, turn_list a _, ⟨_, Heap.get?_push_size _ rfl, rfl, rfl⟩, fun b hb => ?_, q⟩
    have e := fin b hb
    subst e
    exact I1.fpOk (Nat.le_refl _) (I1.hok.fresh (Nat.le_refl _))
  · obtain ⟨its, rv, p, hz⟩ := I1.tuple hq
    refine wpAny_pyIter_tuple (show s1.heap.IsTuple a its.toArray from p) ?_
    refine ⟨s1.heap.objs.size, [s1.heap.objs.size], _, _, H1, rfl, I1.kept (t' := s1.toks) fun b o e => Heap.get?_push_of_some _ e, turn_tuple a _, ⟨_, Heap.get?_push_size _ rfl, rfl, rfl⟩, fun b hb => ?_, q⟩
    have e := fin b hb
    subst e
    exact I1.fpOk (Nat.le_refl _) (I1.hok.fresh (Nat.le_refl _))
/-- tuple(x) of a list or a tuple -/
def rTupleA (K : PySem.W.Frag) : List V → Hp → VK → Prop := fun xs H Q => ∃ p ys, xs = [.ref p] ∧ ((SqL K H p ys ∧ ∀ l, H l = none → Q (.ref l) (upd H l (.tup ys))) ∨ (SqT K H p ys ∧ Q (.ref p) H))
theorem call_tupleA {X : Cx} : CallR X (.type "tuple") (rTupleA X.K) := call_tuple_of
/-- an expression that is read in one of two ways, whichever the wish takes -/
def tOrE (t1 t2 : TE) : TE := fun σ H Q => t1 σ H Q ∨ t2 σ H Q
theorem pe_or {X : Cx} {e : Expr} {t1 t2 : TE} (h1 : PE X e t1) (h2 : PE X e t2) : PE X e (tOrE t1 t2) := ⟨fun pins s σ H Q I h => h.elim (fun h => h1.run pins s σ H Q I h) (fun h => h2.run pins s σ H Q I h)⟩
/-! ### blocks -/
abbrev Bk := Option (List Int)
/-- a block: None, a list or a tuple of ints -/
def BkAt (H : Hp) (x : V) (b : Bk) : Prop := (x = .non ∧ b = none) ∨ ∃ p ns, x = .ref p ∧ b = some ns ∧ (H p = some (IL ns) ∨ H p = some (.tup (ns.map V.int)))
/-- a block as a disc keeps it -/
def TkAt (H : Hp) (x : V) (b : Bk) : Prop := (x = .non ∧ b = none) ∨ ∃ p ns, x = .ref p ∧ b = some ns ∧ H p = some (.tup (ns.map V.int))
theorem BkAt.same {H H' : Hp} {x : V} {b : Bk} (s : Same H H') (h : BkAt H x b) : BkAt H' x b := by
  rcases h with h | ⟨p, ns, e1, e2, h⟩
  · exact .inl h
  · exact .inr ⟨p, ns, e1, e2, h.imp (s _ _) (s _ _)⟩
theorem TkAt.same {H H' : Hp} {x : V} {b : Bk} (s : Same H H') (h : TkAt H x b) : TkAt H' x b := by
  rcases h with h | ⟨p, ns, e1, e2, h⟩
  · exact .inl h
  · exact .inr ⟨p, ns, e1, e2, s _ _ h⟩
theorem TkAt.bk {H : Hp} {x : V} {b : Bk} (h : TkAt H x b) : BkAt H x b := by
  rcases h with h | ⟨p, ns, e1, e2, h⟩
  · exact .inl h
  · exact .inr ⟨p, ns, e1, e2, .inr h⟩
/-- a list or a tuple of ints -/
def LsAt (H : Hp) (x : V) (ns : List Int) : Prop := ∃ p, x = .ref p ∧ (H p = some (IL ns) ∨ H p = some (.tup (ns.map V.int)))
theorem LsAt.same {H H' : Hp} {x : V} {b : List Int} (s : Same H H') (h : LsAt H x b) : LsAt H' x b := by
  obtain ⟨p, e1, h⟩ := h
  exact ⟨p, e1, h.imp (s _ _) (s _ _)⟩
/-- the blocks that are there -/
def ths (bs : List Bk) : List (List Int) := bs.filterMap id
theorem ths_mem {bs : List Bk} {ns : List Int} : ns ∈ ths bs ↔ some ns ∈ bs := by
  unfold ths
  rw [List.mem_filterMap]
  exact ⟨fun ⟨b, h, e⟩ => by cases e; exact h, fun h => ⟨_, h, rfl⟩⟩
theorem ths_more {bs : List Bk} {i : Nat} {b : Bk} (h : bs[i]? = some b) : ths (bs.take (i + 1)) = match b with | none => ths (bs.take i) | some ns => ths (bs.take i) ++ [ns] := by
  unfold ths
  rw [take_more h, List.filterMap_append]
  cases b with
  | none => simp
  | some ns => simp
theorem all_g {ts : List (List Int)} {z : Nat} : (ts.map fun ns => decide (ns.length = z) && ns.all fun z => decide (0 ≤ z) && decide (z ≤ 255)).all id = true ↔ ∀ ns ∈ ts, ns.length = z ∧ Bytes ns := by
  rw [List.all_map, List.all_eq_true]
  constructor
  · intro h ns hn
    have h2 := h ns hn
    simp only [Function.comp, id, Bool.and_eq_true, decide_eq_true_eq, List.all_eq_true] at h2
    exact ⟨h2.1, fun x hx => by have := h2.2 x hx; omega⟩
  · intro h ns hn
    have h2 := h ns hn
    simp only [Function.comp, id, Bool.and_eq_true, decide_eq_true_eq, List.all_eq_true]
    exact ⟨h2.1, fun x hx => by have := h2.2 x hx; omega⟩
theorem BkAt.upx {H : Hp} {x : Addr} {C dx : Addr} {fs : List (Str × V)} {o : HO} {v : V} {b : Bk} (hx : H x = some (.ins C dx fs)) (h : BkAt H v b) : BkAt (upd H x o) v b := by
  rcases h with h | ⟨p, ns, e1, e2, h⟩
  · exact .inl h
  · have n : p ≠ x := fun q => by subst q; rw [hx] at h; rcases h with h | h <;> cases h
    exact .inr ⟨p, ns, e1, e2, by rw [upd_ne n]; exact h⟩
theorem BkAt.upn {H : Hp} {D : Addr} {o : HO} {v : V} {b : Bk} (n : v ≠ .ref D) (h : BkAt H v b) : BkAt (upd H D o) v b := by
  rcases h with h | ⟨p, ns, e1, e2, h⟩
  · exact .inl h
  · have n2 : p ≠ D := fun q => n (by rw [e1, q])
    exact .inr ⟨p, ns, e1, e2, by rw [upd_ne n2]; exact h⟩
theorem TkAt.ups {D : Addr} {H : Hp} {xs : List V} {o : HO} {x : V} {b : Bk} (hD : H D = some (.lst xs)) (h : TkAt H x b) : TkAt (upd H D o) x b := by
  rcases h with h | ⟨p, ns, e1, e2, h⟩
  · exact .inl h
  · have n : p ≠ D := fun q => by subst q; rw [h] at hD; cases hD
    exact .inr ⟨p, ns, e1, e2, by rw [upd_ne n]; exact h⟩
theorem TkAt.upx {H : Hp} {x : Addr} {C dx : Addr} {fs : List (Str × V)} {o : HO} {v : V} {b : Bk} (hx : H x = some (.ins C dx fs)) (h : TkAt H v b) : TkAt (upd H x o) v b := by
  rcases h with h | ⟨p, ns, e1, e2, h⟩
  · exact .inl h
  · have n : p ≠ x := fun q => by subst q; rw [hx] at h; cases h
    exact .inr ⟨p, ns, e1, e2, by rw [upd_ne n]; exact h⟩
/-- a disc that is right -/
def okSz (z : Nat) : Bool := z == 16 || z == 32 || z == 64 || z == 128 || z == 256 || z == 512
def OkDisc (z : Nat) (bs : List Bk) : Prop := bs.length ≤ 2000 ∧ okSz z = true ∧ (∃ ns, some ns ∈ bs) ∧ ∀ ns, some ns ∈ bs → ns.length = z ∧ Bytes ns
def DiscAt (C : Addr) (H : Hp) (r : Addr) (z : Nat) (bs : List Bk) : Prop := ∃ dx t xs, H r = some (.ins C dx [("size", .int z), ("_blocks", .ref t)]) ∧ H t = some (.tup xs) ∧ AllAt (TkAt H) xs bs
theorem DiscAt.same {C : Addr} {H H' : Hp} {r : Addr} {z : Nat} {bs : List Bk} (s : Same H H') (h : DiscAt C H r z bs) : DiscAt C H' r z bs := by
  obtain ⟨dx, t, xs, h1, h2, h3⟩ := h
  exact ⟨dx, t, xs, s _ _ h1, s _ _ h2, h3.imp fun _ _ h => h.same s⟩
/-! ### zip of two tuples -/
def YZT (xs ys : List V) : Nat → Hp → V → Hp → Prop := fun i H v H' => ∃ T x y, v = .ref T ∧ H T = none ∧ H' = upd H T (.tup [x, y]) ∧ xs[i]? = some x ∧ ys[i]? = some y
theorem walk_zipT {K : PySem.W.Frag} {a b : Addr} {xs ys : List V} {n : Nat} (hn : n = min xs.length ys.length) : Walk (RZ.ItzT K a b) n (fun H => SqT K H a xs ∧ SqT K H b ys) (YZT xs ys) := by
  subst hn
  refine ⟨fun i _ hi q => ?_, fun _ q => ⟨xs, ys, q.1, q.2, by omega⟩, fun i H v H' _ q y => ?_⟩
  · have h1 : i < xs.length := by omega
    have h2 : i < ys.length := by omega
    exact ⟨xs, ys, xs[i], ys[i], q.1, q.2, List.getElem?_eq_getElem h1, List.getElem?_eq_getElem h2⟩
  · obtain ⟨T, x, y, h1, h2, h5, h6, h7⟩ := y
    exact ⟨T, x, y, h1, h2, h5, h6 xs q.1, h7 ys q.2⟩
theorem atI_lastI {ns : List Int} (h : 0 < ns.length) : atI (ns.map V.int) (-1) = some (.int (ns.getD (ns.length - 1) 0)) := by
  have hk : ns.length - 1 < ns.length := by omega
  unfold atI ixN
  rw [List.length_map, if_neg (by decide), if_pos (by omega)]
  show (ns.map V.int)[(-1 + (ns.length : Int)).toNat]? = _
  rw [show (-1 + (ns.length : Int)).toNat = ns.length - 1 by omega, List.getElem?_map, List.getElem?_eq_getElem hk, List.getD_eq_getElem?_getD, List.getElem?_eq_getElem hk]
  rfl
def ascZ (ns : List Int) : Bool := (List.range (ns.length - 1)).all fun i => decide (ns.getD i 0 < ns.getD (i + 1) 0)
/-- a group of a plan for n blocks -/
def okGr (n : Nat) (ns : List Int) : Bool := decide (2 ≤ ns.length) && (ascZ ns && (decide (0 ≤ ns.getD 0 0) && decide (ns.getD (ns.length - 1) 0 < n)))
/-- a tuple of ints -/
def TupI (H : Hp) (v : V) (ns : List Int) : Prop := ∃ p, v = .ref p ∧ H p = some (.tup (ns.map V.int))
theorem TupI.same {H H' : Hp} {v : V} {ns : List Int} (s : Same H H') (h : TupI H v ns) : TupI H' v ns := by
  obtain ⟨p, e, h⟩ := h
  exact ⟨p, e, s _ _ h⟩
def okPlan (n : Nat) (gs : List (List Int)) : Bool := gs.all (okGr n)
def spDiscInit (C CE : Addr) : Sp := fun vs H Q E => ∃ (x dx a : Addr) (xs : List V) (bs : List Bk), vs = [.ref x, .ref a] ∧ H x = some (.ins C dx []) ∧ H a = some (.lst xs) ∧ AllAt (BkAt H) xs bs ∧ bs.length ≤ 10000 ∧ (∀ ns, some ns ∈ bs → ns.length ≤ 10000) ∧
  (∀ z, OkDisc z bs → ∀ H', SameB x H H' → (∃ t ys, H' x = some (.ins C dx [("size", .int z), ("_blocks", .ref t)]) ∧ H' t = some (.tup ys) ∧ AllAt (TkAt H') ys bs) → Q .non H') ∧ ((∀ z, ¬ OkDisc z bs) → ∀ H', Same H H' → E (.ref CE) none H')
def spDisc (C CE : Addr) : Sp := fun vs H Q E => ∃ (a : Addr) (xs : List V) (bs : List Bk), vs = [.ref a] ∧ H a = some (.lst xs) ∧ AllAt (BkAt H) xs bs ∧ bs.length ≤ 10000 ∧ (∀ ns, some ns ∈ bs → ns.length ≤ 10000) ∧
  (∀ z, OkDisc z bs → ∀ r H', Same H H' → H r = none → DiscAt C H' r z bs → Q (.ref r) H') ∧ ((∀ z, ¬ OkDisc z bs) → ∀ H', Same H H' → E (.ref CE) none H')
theorem conv_disc {C CE : Addr} : Conv C (spDiscInit C CE) (spDisc C CE) := by
  intro vs H Q E ⟨a, xs, bs, e, hA, hB, hl, hl2, h1, h2⟩ x dx nx nd ne
  subst e
  have s0 : Same H (upd H dx (.own x)) := same_new nd _
  have nx' : upd H dx (.own x) x = none := by rw [upd_ne ne.symm]; exact nx
  have s1 : Same (upd H dx (.own x)) (upd (upd H dx (.own x)) x (.ins C dx [])) := same_new nx' _
  have s := s0.trans s1
  refine ⟨x, dx, a, xs, bs, rfl, upd_same, s _ _ hA, hB.imp fun _ _ h => BkAt.same s h, hl, hl2, fun z hz H' sb h => ⟨rfl, h1 z hz x H' (fun b o hb => sb b o (ne_of_none hb nx) (s b o hb)) nx ?_⟩, fun hz H' hs => h2 hz _ (s.trans hs)⟩
  obtain ⟨t, ys, e1, e2, e3⟩ := h
  exact ⟨dx, t, ys, e1, e2, e3⟩
/-! ### discs in work -/
def WorkAt (C : Addr) (H : Hp) (r d m : Addr) (kvs : List (Key × V)) : Prop := ∃ dx, H r = some (.ins C dx [("disc", .ref d), ("_changed", .ref m)]) ∧ H m = some (.dK kvs)
/-- what a disc in work gives for each block: ws -/
def WorkBs (C CB : Addr) (H : Hp) (r d m : Addr) (kvs : List (Key × V)) (z : Nat) (ws : List Bk) : Prop := ∃ bs : List Bk, WorkAt C H r d m kvs ∧ DiscAt CB H d z bs ∧ ws.length = bs.length ∧
  ∀ i < bs.length, (∃ a ns, valV kvs (.inl (i : Int)) = some (.ref a) ∧ H a = some (IL ns) ∧ ws[i]? = some (some ns)) ∨ (valV kvs (.inl (i : Int)) = none ∧ ws[i]? = bs[i]?)
theorem WorkBs.same {C CB : Addr} {H H' : Hp} {r d m : Addr} {kvs : List (Key × V)} {z : Nat} {ws : List Bk} (s : Same H H') (h : WorkBs C CB H r d m kvs z ws) : WorkBs C CB H' r d m kvs z ws := by
  obtain ⟨bs, ⟨dx, h1, h2⟩, h3, h4, h5⟩ := h
  refine ⟨bs, ⟨dx, s _ _ h1, s _ _ h2⟩, h3.same s, h4, fun i hi => ?_⟩
  rcases h5 i hi with ⟨a, ns, e1, e2, e3⟩ | h
  · exact .inl ⟨a, ns, e1, s _ _ e2, e3⟩
  · exact .inr h
def spWorkBlock (C CB : Addr) : Sp := fun vs H Q _ => ∃ (x d m : Addr) (kvs : List (Key × V)) (z : Nat) (ws : List Bk) (i : Nat) (b : Bk), vs = [.ref x, .int i] ∧ WorkBs C CB H x d m kvs z ws ∧ ws[i]? = some b ∧
  (b = none → Q .non H) ∧ (∀ ns, b = some ns → ∀ D, H D = none → Q (.ref D) (upd H D (IL ns)))
theorem DiscAt.sameD {C : Addr} {H H' : Hp} {r m : Addr} {z : Nat} {bs : List Bk} {kvs : List (Key × V)} (hm : H m = some (.dK kvs)) (s : SameB m H H') (h : DiscAt C H r z bs) : DiscAt C H' r z bs := by
  obtain ⟨dx, t, xs, h1, h2, h3⟩ := h
  have n1 : r ≠ m := fun e => by subst e; rw [h1] at hm; cases hm
  have n2 : t ≠ m := fun e => by subst e; rw [h2] at hm; cases hm
  refine ⟨dx, t, xs, s _ _ n1 h1, s _ _ n2 h2, h3.imp fun v b h => ?_⟩
  rcases h with h | ⟨p, ns, e1, e2, h⟩
  · exact .inl h
  · have n3 : p ≠ m := fun e => by subst e; rw [h] at hm; cases hm
    exact .inr ⟨p, ns, e1, e2, s _ _ n3 h⟩
theorem WorkBs.new {C CB : Addr} {H : Hp} {r d m dx : Addr} {z : Nat} {bs : List Bk} (h1 : H r = some (.ins C dx [("disc", .ref d), ("_changed", .ref m)])) (h2 : H m = some (.dK [])) (h3 : DiscAt CB H d z bs) : WorkBs C CB H r d m [] z bs :=
  ⟨bs, ⟨dx, h1, h2⟩, h3, rfl, fun i hi => .inr ⟨rfl, rfl⟩⟩
theorem WorkBs.put {C CB : Addr} {H H' : Hp} {r d m l : Addr} {kvs : List (Key × V)} {z : Nat} {ws : List Bk} {i : Nat} {ns : List Int} (h : WorkBs C CB H r d m kvs z ws) (hi : i < ws.length) (hl : H l = none) (sb : SameB m H H') (e1 : H' l = some (IL ns))
    (e2 : H' m = some (.dK (putK kvs (.inl (i : Int)) (.ref l)))) : WorkBs C CB H' r d m (putK kvs (.inl (i : Int)) (.ref l)) z (ws.set i (some ns)) := by
  obtain ⟨bs, ⟨dx, h1, h2⟩, h3, h4, h5⟩ := h
  have n1 : r ≠ m := fun e => by subst e; rw [h1] at h2; cases h2
  refine ⟨bs, ⟨dx, sb _ _ n1 h1, e2⟩, h3.sameD h2 sb, by rw [List.length_set, h4], fun j hj => ?_⟩
  by_cases c : i = j
  · subst c
    refine .inl ⟨l, ns, by rw [valV_put, if_pos rfl], e1, ?_⟩
    rw [List.getElem?_set_self hi]
  · have c2 : ¬ (Sum.inl (j : Int) : Key) = Sum.inl (i : Int) := fun e => c (by have := Sum.inl.inj e; omega)
    rw [valV_put, if_neg c2, List.getElem?_set_ne c]
    rcases h5 j hj with ⟨a, ms, q1, q2, q3⟩ | q
    · have n2 : a ≠ m := fun e => by subst e; rw [q2] at h2; cases h2
      exact .inl ⟨a, ms, q1, sb _ _ n2 q2, q3⟩
    · exact .inr q
/-- the places of the blocks that are missing -/
def missZ (bs : List Bk) (n : Nat) : List Int := ((List.range n).filter fun i => decide (bs[i]? = some none)).map fun i : Nat => (i : Int)
theorem missZ_more (bs : List Bk) (n : Nat) : missZ bs (n + 1) = if bs[n]? = some none then missZ bs n ++ [(n : Int)] else missZ bs n := by
  unfold missZ
  rw [List.range_succ, List.filter_append, List.map_append]
  split
  · rename_i e
    simp [e]
  · rename_i e
    simp [e]
theorem missZ_len (bs : List Bk) (n : Nat) : (missZ bs n).length ≤ n := by
  unfold missZ
  rw [List.length_map]
  have := List.length_filter_le (fun i => decide (bs[i]? = some none)) (List.range n)
  rw [List.length_range] at this
  exact this
theorem okGr_of {n : Nat} {ns : List Int} (hp : ns.Pairwise (· < ·)) (hb : ∀ v ∈ ns, 0 ≤ v ∧ v < n) (h2 : 2 ≤ ns.length) : okGr n ns = true := by
  have g : ∀ i (h : i < ns.length), ns.getD i 0 = ns[i] := fun i h => by rw [List.getD_eq_getElem?_getD, List.getElem?_eq_getElem h]; rfl
  unfold okGr
  rw [decide_eq_true h2, Bool.true_and]
  have ha : ascZ ns = true := by
    unfold ascZ
    rw [List.all_eq_true]
    intro i hi
    have hi := List.mem_range.mp hi
    rw [decide_eq_true_eq, g i (by omega), g (i + 1) (by omega)]
    exact List.pairwise_iff_getElem.mp hp i (i + 1) (by omega) (by omega) (by omega)
  rw [ha, Bool.true_and, g 0 (by omega), g (ns.length - 1) (by omega), decide_eq_true (hb _ (List.getElem_mem _)).1, Bool.true_and, decide_eq_true (hb _ (List.getElem_mem _)).2]
theorem TupI.ups {D : Addr} {H : Hp} {xs : List V} {o : HO} {v : V} {ns : List Int} (hD : H D = some (.lst xs)) (h : TupI H v ns) : TupI (upd H D o) v ns := by
  obtain ⟨p, e, h⟩ := h
  have n : p ≠ D := fun q => by subst q; rw [h] at hD; cases hD
  exact ⟨p, e, by rw [upd_ne n]; exact h⟩
theorem TupI.pool {H H' : Hp} {p q : Addr} {v : V} {ns : List Int} (hP : Pool H p q) (s : SameB p H H') (h : TupI H v ns) : TupI H' v ns := by
  obtain ⟨t, e, h⟩ := h
  have n : t ≠ p := fun z => by
    subst z
    obtain ⟨a, b, c, d, ns, h1, _⟩ := hP
    rw [h] at h1
    cases h1
  exact ⟨t, e, s _ _ n h⟩
theorem okPlan_app {n : Nat} {gs : List (List Int)} {g : List Int} (h : okPlan n gs = true) (hg : okGr n g = true) : okPlan n (gs ++ [g]) = true := by
  unfold okPlan at *
  rw [List.all_append, h, Bool.true_and]
  simp [hg]
end Dw

/-! comprehensions over any walk: what is made, item by item -/
namespace Dw
open PySem PySem.Spec PyProof.Rows L2
theorem lc_all {α : Type} {J : It} {n : Nat} {G : Hp → Prop} {Y : Nat → Hp → V → Hp → Prop} (w : Walk J n G Y) {g : TG} {te : TE} {vs : List Nat} {σ : L2.St} {H1 : Hp} {D : Addr} {Qd : Hp → Prop} (R : Hp → V → α → Prop) (ss : List α)
    (hn : n ≤ 16777215) (hD : H1 D = none) (hl : ss.length = n) (hG : ∀ H', Same H1 H' → G H')
    (hR : ∀ H H' v s, Same H H' → R H v s → R H' v s)
    (hu : ∀ H ys v s o, H D = some (.lst ys) → v ≠ .ref D → R H v s → R (L2.upd H D o) v s)
    (hte : ∀ i x s H3 H' (Q' : VK) ys, i < n → Y i H3 x H' → ss[i]? = some s → Same H1 H3 → H3 D = some (.lst ys) → (∀ y H4, Same H3 H4 → y ≠ .ref D → R H4 y s → Q' y H4) → g x (wipe σ vs) H' fun σ2 H2 => wipe σ2 vs = wipe σ vs ∧ te σ2 H2 Q')
    (hd : ∀ ys H', Same H1 H' → H' D = some (.lst ys) → AllAt (R H') ys ss → Qd H') : LcW J g tYes te vs σ H1 D Qd := by
  refine lc_it w (fun i H' => Same H1 H' ∧ ∃ ys, H' D = some (.lst ys) ∧ AllAt (fun v s => R H' v s ∧ v ≠ .ref D) ys (ss.take i)) ⟨same_new hD _, [], upd_same, .nil⟩ (fun i H' _ h => hG H' h.1) ?_ ?_
  · intro i x H3 H' hi h hy
    obtain ⟨s1, ys, e1, hys⟩ := h
    have hs : ss[i]? = some (ss[i]'(by omega)) := List.getElem?_eq_getElem (by omega)
    have hyl := hys.1
    rw [List.length_take] at hyl
    simp only [tYes, if_true]
    refine hte i x _ H3 H' _ ys hi hy hs s1 e1 fun y H4 s4 hy4 hr => ?_
    refine ⟨ys, s4 _ _ e1, line_lt (by omega), fun b o hb => by rw [upd_ne (ne_of_none hb hD)]; exact s4 _ _ (s1 b o hb), ys ++ [y], upd_same, ?_⟩
    rw [take_more hs]
    exact (hys.imp fun v s h => ⟨hu _ _ _ _ _ (s4 _ _ e1) h.2 (hR _ _ _ _ s4 h.1), h.2⟩).push ⟨hu _ _ _ _ _ (s4 _ _ e1) hy4 hr, hy4⟩
  · intro H' h
    obtain ⟨s1, ys, e1, hys⟩ := h
    rw [← hl, List.take_length] at hys
    exact hd ys H' s1 e1 (hys.imp fun _ _ h => h.1)
/-- the same where the pool is drawn from -/
theorem lc_allP {α : Type} {J : It} {n : Nat} {G : Hp → Prop} {Y : Nat → Hp → V → Hp → Prop} (w : Walk J n G Y) {p q : Addr} {g : TG} {te : TE} {vs : List Nat} {σ : L2.St} {H1 : Hp} {D : Addr} {Qd : Hp → Prop} (R : Hp → V → α → Prop) (T : Nat → α → Prop)
    (hn : n ≤ 16777215) (hP : Pool H1 p q) (hD : H1 D = none) (hG : ∀ H', SameB p H1 H' → G H')
    (hR : ∀ H H' v s, Pool H p q → SameB p H H' → R H v s → R H' v s)
    (hu : ∀ H ys v s o, H D = some (.lst ys) → v ≠ .ref D → R H v s → R (L2.upd H D o) v s)
    (hte : ∀ i x H3 H' (Q' : VK) ys, i < n → Y i H3 x H' → Pool H3 p q → SameB p H1 H3 → H3 D = some (.lst ys) → p ≠ D → (∀ y s H4, T i s → Pool H4 p q → SameB p H3 H4 → y ≠ .ref D → R H4 y s → Q' y H4) → g x (wipe σ vs) H' fun σ2 H2 => wipe σ2 vs = wipe σ vs ∧ te σ2 H2 Q')
    (hd : ∀ ys ss H', Pool H' p q → SameB p H1 H' → H' D = some (.lst ys) → ss.length = n → (∀ (i : Nat) s, ss[i]? = some s → T i s) → AllAt (R H') ys ss → Qd H') : LcW J g tYes te vs σ H1 D Qd := by
  have hDp : p ≠ D := hP.ne hD
  have hDq : q ≠ D := hP.ne2 hD
  refine lc_it w (fun i H' => Pool H' p q ∧ SameB p H1 H' ∧ ∃ ys ss, H' D = some (.lst ys) ∧ ss.length = i ∧ (∀ (i : Nat) s, ss[i]? = some s → T i s) ∧ AllAt (fun v s => R H' v s ∧ v ≠ .ref D) ys ss) ⟨hP.upd hD, Same.b (same_new hD _), [], [], upd_same, rfl, fun i s h => by simp at h, .nil⟩ (fun i H' _ h => hG H' h.2.1) ?_ ?_
  · intro i x H3 H' hi h hy
    obtain ⟨hP3, s1, ys, ss, e1, hsl, hT, hys⟩ := h
    have hyl := hys.1
    simp only [tYes, if_true]
    refine hte i x H3 H' _ ys hi hy hP3 s1 e1 hDp fun y s H4 hTs hP4 s4 hy4 hr => ?_
    have e4 := s4 _ _ hDp.symm e1
    refine ⟨ys, e4, line_lt (by omega), hP4.ups hDp hDq, fun b o hn hb => by rw [upd_ne (ne_of_none hb hD)]; exact s4 _ _ hn (s1 b o hn hb), ys ++ [y], ss ++ [s], upd_same, by rw [List.length_append, hsl]; rfl, ?_, ?_⟩
    · intro j t hj
      by_cases c : j < ss.length
      · rw [List.getElem?_append_left c] at hj
        exact hT j t hj
      · have hj2 := (List.getElem?_eq_some_iff.mp hj).1
        rw [List.length_append] at hj2
        simp only [List.length_cons, List.length_nil] at hj2
        have e : j = ss.length := by omega
        subst e
        rw [List.getElem?_append_right (Nat.le_refl _), Nat.sub_self] at hj
        cases hj
        rw [hsl]
        exact hTs
    · exact (hys.imp fun v s h => ⟨hu _ _ _ _ _ e4 h.2 (hR _ _ _ _ hP3 s4 h.1), h.2⟩).push ⟨hu _ _ _ _ _ e4 hy4 hr, hy4⟩
  · intro H' h
    obtain ⟨hP3, s1, ys, ss, e1, hsl, hT, hys⟩ := h
    exact hd ys ss H' hP3 s1 e1 hsl hT (hys.imp fun _ _ h => h.1)
theorem AllAt.get {α : Type} {R : V → α → Prop} {xs : List V} {ss : List α} (h : AllAt R xs ss) {i : Nat} (hi : i < ss.length) : ∃ x, xs[i]? = some x ∧ R x ss[i] := by
  obtain ⟨x, e, r⟩ := h.at (List.getElem?_eq_getElem hi)
  exact ⟨x, e, r⟩
theorem AllAt.set {α : Type} {R : V → α → Prop} {xs : List V} {ss : List α} {x : V} {s : α} (h : AllAt R xs ss) (i : Nat) (r : R x s) : AllAt R (xs.set i x) (ss.set i s) := by
  refine ⟨by rw [List.length_set, List.length_set, h.1], fun j y e => ?_⟩
  have hj := (List.getElem?_eq_some_iff.mp e).1
  rw [List.length_set] at hj
  by_cases c : i = j
  · subst c
    rw [List.getElem?_set_self hj] at e
    cases e
    exact ⟨s, by rw [List.getElem?_set_self (by rw [← h.1]; exact hj)], r⟩
  · rw [List.getElem?_set_ne c] at e
    obtain ⟨t, h1, h2⟩ := h.2 j y e
    exact ⟨t, by rw [List.getElem?_set_ne c]; exact h1, h2⟩
theorem AllAt.take {α : Type} {R : V → α → Prop} {xs : List V} {ss : List α} (h : AllAt R xs ss) (n : Nat) : AllAt R (xs.take n) (ss.take n) := by
  refine ⟨by rw [List.length_take, List.length_take, h.1], fun j y e => ?_⟩
  have hj := (List.getElem?_eq_some_iff.mp e).1
  rw [List.length_take] at hj
  rw [List.getElem?_take_of_lt (by omega)] at e
  obtain ⟨t, h1, h2⟩ := h.2 j y e
  exact ⟨t, by rw [List.getElem?_take_of_lt (by omega)]; exact h1, h2⟩
theorem AllAt.app {α : Type} {R : V → α → Prop} {xs ys : List V} {ss ts : List α} (h : AllAt R xs ss) (k : AllAt R ys ts) : AllAt R (xs ++ ys) (ss ++ ts) := by
  refine ⟨by rw [List.length_append, List.length_append, h.1, k.1], fun j y e => ?_⟩
  by_cases c : j < xs.length
  · rw [List.getElem?_append_left c] at e
    rw [List.getElem?_append_left (by rw [← h.1]; exact c)]
    exact h.2 j y e
  · rw [List.getElem?_append_right (by omega)] at e
    rw [List.getElem?_append_right (by rw [← h.1]; omega), ← h.1]
    exact k.2 _ y e
theorem cutV_butlast {xs : List V} : cutV xs none (some (-1)) = xs.dropLast := by
  unfold cutV
  rw [List.dropLast_eq_take]
  show (xs.drop (HT.sIx xs.length 0 none)).take (HT.sIx xs.length xs.length (some (-1)) - HT.sIx xs.length 0 none) = _
  have h0 : HT.sIx xs.length 0 none = 0 := rfl
  have h1 : HT.sIx xs.length xs.length (some (-1)) = xs.length - 1 := by
    unfold HT.sIx
    simp
    omega
  rw [h0, h1]
  rfl
theorem atI_last {xs : List V} {v : V} (h : xs.getLast? = some v) : atI xs (-1) = some v := by
  have hz : xs ≠ [] := fun e => by rw [e] at h; cases h
  have hk : 0 < xs.length := List.length_pos_iff.mpr hz
  unfold atI ixN
  rw [if_neg (by decide), if_pos (by omega)]
  show xs[(-1 + (xs.length : Int)).toNat]? = _
  rw [show (-1 + (xs.length : Int)).toNat = xs.length - 1 by omega, ← h, List.getLast?_eq_getElem?]
/-! ### blocks that are lists -/
def LkAt (H : Hp) (x : V) (b : Bk) : Prop := (x = .non ∧ b = none) ∨ ∃ p ns, x = .ref p ∧ b = some ns ∧ H p = some (IL ns)
theorem LkAt.same {H H' : Hp} {x : V} {b : Bk} (s : Same H H') (h : LkAt H x b) : LkAt H' x b := by
  rcases h with h | ⟨p, ns, e1, e2, h⟩
  · exact .inl h
  · exact .inr ⟨p, ns, e1, e2, s _ _ h⟩
theorem LkAt.bk {H : Hp} {x : V} {b : Bk} (h : LkAt H x b) : BkAt H x b := by
  rcases h with h | ⟨p, ns, e1, e2, h⟩
  · exact .inl h
  · exact .inr ⟨p, ns, e1, e2, .inl h⟩
theorem LkAt.upn {H : Hp} {D : Addr} {o : HO} {v : V} {b : Bk} (n : v ≠ .ref D) (h : LkAt H v b) : LkAt (L2.upd H D o) v b := by
  rcases h with h | ⟨p, ns, e1, e2, h⟩
  · exact .inl h
  · have n2 : p ≠ D := fun q => n (by rw [e1, q])
    exact .inr ⟨p, ns, e1, e2, by rw [upd_ne n2]; exact h⟩
theorem LkAt.pool {H H' : Hp} {p q : Addr} {v : V} {b : Bk} (hP : Pool H p q) (s : SameB p H H') (h : LkAt H v b) : LkAt H' v b := by
  rcases h with h | ⟨t, ns, e1, e2, h⟩
  · exact .inl h
  · have n2 : t ≠ p := fun q => hP.nIL ns (by rw [← q]; exact h)
    exact .inr ⟨t, ns, e1, e2, s _ _ n2 h⟩
/-- no inner list is the outer one -/
theorem LkAt.out {H : Hp} {D : Addr} {xs : List V} {bs : List Bk} {v : V} {b : Bk} (hD : H D = some (.lst xs)) (hx : AllAt (LkAt H) xs bs) (h0 : 0 < bs.length) (h : LkAt H v b) : v ≠ .ref D := by
  intro e
  subst e
  rcases h with ⟨h, _⟩ | ⟨t, ns, e1, e2, h⟩
  · cases h
  · cases e1
    rw [h] at hD
    unfold IL at hD
    injection hD with hD
    injection hD with hD
    obtain ⟨x0, f0, r0⟩ := hx.get h0
    rw [← hD, List.getElem?_map] at f0
    cases hn : ns[0]? with
    | none => rw [hn] at f0; cases f0
    | some z =>
      rw [hn] at f0
      cases f0
      rcases r0 with ⟨c, _⟩ | ⟨_, _, c, _⟩ <;> cases c
def bkD (b : Bk) : PyData := match b with | none => .none | some ns => .list (ns.map PyData.int)
theorem LkAt.dt {H : Hp} {v : V} {b : Bk} (h : LkAt H v b) : Dt H v (bkD b) := by
  rcases h with ⟨rfl, rfl⟩ | ⟨t, ns, rfl, rfl, h⟩
  · exact .non
  · exact dt_IL h
theorem AllAt.dt {α : Type} {H : Hp} {R : V → α → Prop} {f : α → PyData} (hf : ∀ v s, R v s → Dt H v (f s)) : ∀ {xs : List V} {ss : List α}, AllAt R xs ss → DtAll H xs (ss.map f)
  | [], [], _ => .nil
  | x :: xs, s :: ss, h => by
    obtain ⟨t, ht, hr⟩ := h.2 0 x rfl
    cases ht
    exact .cons (hf _ _ hr) (AllAt.dt hf ⟨by have := h.1; simpa using this, fun j y e => h.2 (j + 1) y e⟩)
  | [], _ :: _, h => by have := h.1; simp at this
  | _ :: _, [], h => by have := h.1; simp at this
theorem shal_bk {b : Bk} {k : Nat} : Shal (bkD b) (k + 2) := by
  cases b with
  | none => exact .non
  | some ns => exact .list .ints
theorem shal_map {α : Type} {f : α → PyData} {k : Nat} (hf : ∀ a, Shal (f a) (k + 1)) : ∀ ss : List α, ShalAll (ss.map f) (k + 1)
  | [] => .nil
  | a :: r => .cons (hf a) (shal_map hf r)
theorem shaped_sh {d : PyData} (hs : Shal d 7) : SeqAt.shaped d = true := by
  unfold SeqAt.shaped
  rw [Bool.and_eq_true]
  exact ⟨hs.1, decide_eq_true (by have := hs.2; omega)⟩
theorem any_none (bs : List Bk) : ((bs.map bkD).any fun z => PyData.eqv z .none) = decide (none ∈ bs) := by
  rw [Bool.eq_iff_iff, List.any_map, List.any_eq_true, decide_eq_true_eq]
  constructor
  · rintro ⟨b, hb, e⟩
    cases b with
    | none => exact hb
    | some ns =>
      simp only [Function.comp, bkD] at e
      rw [PyData.eqv] at e <;> first | cases e | (intros; nofun)
  · intro h
    refine ⟨none, h, ?_⟩
    simp only [Function.comp, bkD]
    rw [PyData.eqv]
/-- None (not) in a list of blocks -/
theorem notIn_blocks {K : PySem.W.Frag} {H : Hp} {D : Addr} {xs : List V} {bs : List Bk} {Q : VK} (hD : H D = some (.lst xs)) (hx : AllAt (LkAt H) xs bs) (q : Q (.bl (!decide (none ∈ bs))) H) : rNotInD K .non (.ref D) H Q := by
  have hd : Dt H (.ref D) (.list (bs.map bkD)) := .lst hD (AllAt.dt (fun _ _ h => h.dt) hx)
  exact ⟨.none, bs.map bkD, .non, hd.dp, shaped_sh .non, shaped_sh (.list (shal_map (fun a => shal_bk (k := 4)) bs)), by rw [any_none]; exact q⟩
theorem in_blocks {K : PySem.W.Frag} {H : Hp} {D : Addr} {xs : List V} {bs : List Bk} {Q : VK} (hD : H D = some (.lst xs)) (hx : AllAt (LkAt H) xs bs) (q : Q (.bl (decide (none ∈ bs))) H) : rInD K .non (.ref D) H Q := by
  have hd : Dt H (.ref D) (.list (bs.map bkD)) := .lst hD (AllAt.dt (fun _ _ h => h.dt) hx)
  exact ⟨.none, bs.map bkD, .non, hd.dp, shaped_sh .non, shaped_sh (.list (shal_map (fun a => shal_bk (k := 4)) bs)), by rw [any_none]; exact q⟩
/-- blocks at places -/
def gets (bs : List Bk) (ns : List Int) : List Bk := ns.map fun i => bs.getD i.toNat none
def raw (bs : List Bk) : List (List Int) := bs.map fun b => b.getD []
theorem rows_of {H : Hp} {D : Addr} {xs : List V} {bs : List Bk} (hD : H D = some (.lst xs)) (hx : AllAt (LkAt H) xs bs) (hn : none ∉ bs) : RowsAt H D (raw bs) := by
  have h : ∀ (xs : List V) (bs : List Bk), AllAt (LkAt H) xs bs → none ∉ bs → ∃ as : List Addr, xs = as.map V.ref ∧ as.length = (raw bs).length ∧ ∀ i a, as[i]? = some a → H a = some (IL ((raw bs).getD i [])) := by
    intro xs
    induction xs with
    | nil =>
      intro bs h _
      have : bs = [] := List.eq_nil_of_length_eq_zero h.1.symm
      subst this
      exact ⟨[], rfl, rfl, fun i a e => by simp at e⟩
    | cons x xs ih =>
      intro bs h hn
      rcases bs with _ | ⟨b, bs⟩
      · have := h.1; simp at this
      obtain ⟨t, ht, hr⟩ := h.2 0 x rfl
      cases ht
      obtain ⟨as, e1, e2, e3⟩ := ih bs ⟨by have := h.1; simpa using this, fun j y e => h.2 (j + 1) y e⟩ (fun m => hn (List.mem_cons_of_mem _ m))
      rcases hr with ⟨_, rfl⟩ | ⟨p, ns, rfl, rfl, hp⟩
      · exact absurd List.mem_cons_self hn
      · refine ⟨p :: as, by rw [e1]; rfl, by simp [raw] at e2 ⊢; exact e2, fun i a e => ?_⟩
        cases i with
        | zero => cases e; exact hp
        | succ i => exact e3 i a e
  obtain ⟨as, rfl, e2, e3⟩ := h xs bs hx hn
  exact ⟨as, hD, e2, e3⟩
theorem memDL {α : Type} {l : List α} {x : α} (h : x ∈ l.dropLast) : x ∈ l := (List.dropLast_sublist l).subset h
/-- the indexes below n that k picks -/
def pickZ (k : Nat → Bool) (n : Nat) : List Int := ((List.range n).filter k).map fun i : Nat => (i : Int)
theorem pickZ_more (k : Nat → Bool) (n : Nat) : pickZ k (n + 1) = if k n = true then pickZ k n ++ [(n : Int)] else pickZ k n := by
  unfold pickZ
  rw [List.range_succ, List.filter_append, List.map_append]
  split
  · rename_i e
    rw [List.filter_cons_of_pos e]
    rfl
  · rename_i e
    rw [List.filter_cons_of_neg e]
    simp
theorem pickZ_len (k : Nat → Bool) (n : Nat) : (pickZ k n).length ≤ n := by
  unfold pickZ
  rw [List.length_map]
  have := List.length_filter_le k (List.range n)
  rw [List.length_range] at this
  exact this
theorem room70 {k : Nat} {A : Around} (hr : Room k A) : A.units + 70 < cLine := by
  have := hr.un
  omega
theorem pe_fldK {X : Cx} {K : PySem.W.Frag} {e : Expr} {ta : TE} {f : Str} {pos : Pos} (he : PE X e ta) (hb : attributeBase e f X.env (eval e X.env) = eval e X.env) (hK : X.K = K) : PE X (.Attribute e f pos) (tFld K ta f) := by
  subst hK
  exact pe_fld he hb
end Dw

/-! sectors found on a track -/
namespace Dw
open PySem PySem.Spec PyProof.Rows L2
def cutA (cs : List Int) (a n : Nat) : List Int := (cs.drop a).take n
theorem sIx_nat (n d m : Nat) : HT.sIx n d (some ((m : Nat) : Int)) = min m n := HT.sIx_nat ..
theorem cutI_any (ns : List Int) (a b : Nat) (h : a ≤ b) : cutI ns (some (a : Int)) (some (b : Int)) = cutA ns a (b - a) := by
  unfold cutI cutA
  rw [sIx_nat, sIx_nat]
  by_cases c : a ≤ ns.length
  · rw [Nat.min_eq_left c]
    by_cases d : b ≤ ns.length
    · rw [Nat.min_eq_left d]
    · rw [Nat.min_eq_right (by omega), List.take_of_length_le (by rw [List.length_drop]; omega), List.take_of_length_le (by rw [List.length_drop]; omega)]
  · rw [Nat.min_eq_right (by omega : ns.length ≤ a), List.drop_of_length_le (Nat.le_refl _), List.drop_of_length_le (by omega), List.take_nil, List.take_nil]
theorem cutI_to2 (ns : List Int) : cutI ns none (some (-2)) = ns.take (ns.length - 2) := by
  unfold cutI
  have h1 : HT.sIx ns.length ns.length (some (-2)) = ns.length - 2 := by
    unfold HT.sIx
    simp
    omega
  rw [h1]
  show (ns.drop 0).take (ns.length - 2 - 0) = _
  rw [List.drop_zero, Nat.sub_zero]
theorem cutI_last2 (ns : List Int) : cutI ns (some (-2)) none = ns.drop (ns.length - 2) := by
  unfold cutI
  have h1 : HT.sIx ns.length 0 (some (-2)) = ns.length - 2 := by
    unfold HT.sIx
    simp
    omega
  rw [h1]
  show (ns.drop (ns.length - 2)).take (ns.length - (ns.length - 2)) = _
  rw [List.take_of_length_le (by rw [List.length_drop]; omega)]
theorem cutI_from1 (ns : List Int) (b : Nat) (h : 1 ≤ b) : cutI ns (some 1) (some (b : Int)) = (ns.drop 1).take (b - 1) := cutI_any ns 1 b h
/-- the places of marks, from a place on -/
def mkFrom (cs : List Int) (a : Nat) : List Nat := if h : a + 48 ≤ cs.length then (if cutA cs a 48 = marksZ then a :: mkFrom cs (a + 48) else mkFrom cs (a + 1)) else []
termination_by cs.length + 1 - a
theorem mkFrom_yes {cs : List Int} {a : Nat} (h : a + 48 ≤ cs.length) (m : cutA cs a 48 = marksZ) : mkFrom cs a = a :: mkFrom cs (a + 48) := by
  rw [mkFrom, dif_pos h, if_pos m]
theorem mkFrom_no {cs : List Int} {a : Nat} (h : a + 48 ≤ cs.length) (m : ¬ cutA cs a 48 = marksZ) : mkFrom cs a = mkFrom cs (a + 1) := by
  rw [mkFrom, dif_pos h, if_neg m]
theorem mkFrom_end {cs : List Int} {a : Nat} (h : ¬ a + 48 ≤ cs.length) : mkFrom cs a = [] := by
  rw [mkFrom, dif_neg h]
def NL (ns : List Nat) : List Int := ns.map fun n : Nat => (n : Int)
def mkZ (cs : List Int) : List Nat := mkFrom cs 0
theorem mkFrom_len (cs : List Int) : ∀ (k a : Nat), cs.length + 1 - a ≤ k → (mkFrom cs a).length ≤ cs.length + 1 - a
  | 0, a, h => by rw [mkFrom_end (by omega)]; exact Nat.zero_le _
  | k + 1, a, h => by
    by_cases c : a + 48 ≤ cs.length
    · by_cases m : cutA cs a 48 = marksZ
      · rw [mkFrom_yes c m]
        have := mkFrom_len cs k (a + 48) (by omega)
        rw [List.length_cons]
        omega
      · rw [mkFrom_no c m]
        have := mkFrom_len cs k (a + 1) (by omega)
        omega
    · rw [mkFrom_end c]; exact Nat.zero_le _
theorem mkZ_len (cs : List Int) : (mkZ cs).length ≤ cs.length + 1 := mkFrom_len cs _ 0 (Nat.le_refl _)
theorem mkFrom_in (cs : List Int) : ∀ (k a : Nat), cs.length + 1 - a ≤ k → ∀ p ∈ mkFrom cs a, a ≤ p ∧ p + 48 ≤ cs.length
  | 0, a, h, p, hp => by rw [mkFrom_end (by omega)] at hp; cases hp
  | k + 1, a, h, p, hp => by
    by_cases c : a + 48 ≤ cs.length
    · by_cases m : cutA cs a 48 = marksZ
      · rw [mkFrom_yes c m] at hp
        rcases List.mem_cons.mp hp with e | e
        · subst e; exact ⟨Nat.le_refl _, c⟩
        · have := mkFrom_in cs k (a + 48) (by omega) p e
          omega
      · rw [mkFrom_no c m] at hp
        have := mkFrom_in cs k (a + 1) (by omega) p hp
        omega
    · rw [mkFrom_end c] at hp; cases hp
theorem mkZ_in {cs : List Int} {p : Nat} (h : p ∈ mkZ cs) : p + 48 ≤ cs.length := (mkFrom_in cs _ 0 (Nat.le_refl _) p h).2
/-- what is read behind a mark -/
def behC (cs : List Int) (p n : Nat) : List Int := cutA cs (p + 48) (16 * n)
def valsB (cs : List Int) : List Int := bytesZ (odds cs (8 * (cs.length / 16)))
def faultB (cs : List Int) : List Int := mfmFa 1 (evens cs (8 * (cs.length / 16))) (odds cs (8 * (cs.length / 16)))
theorem bytesZ_len (ns : List Int) : (bytesZ ns).length = ns.length / 8 := by
  unfold bytesZ
  rw [List.length_map, List.length_range]
theorem valsB_len (cs : List Int) : (valsB cs).length = cs.length / 16 := by
  unfold valsB
  rw [bytesZ_len, odds_len]
  omega
theorem behC_len (cs : List Int) (p n : Nat) : (behC cs p n).length ≤ 16 * n := List.length_take_le _ _
theorem byteZ_bound : ∀ ns : List Int, Bits ns → 0 ≤ byteZ ns ∧ byteZ ns < 2 ^ ns.length := by
  have : ∀ (ns : List Int) (acc : Int) (k : Nat), Bits ns → 0 ≤ acc → acc < 2 ^ k → 0 ≤ ns.foldl (fun v b => 2 * v + b) acc ∧ ns.foldl (fun v b => 2 * v + b) acc < 2 ^ (k + ns.length) := by
    intro ns
    induction ns with
    | nil => intro acc k _ h0 h1; exact ⟨h0, h1⟩
    | cons b r ih =>
      intro acc k hb h0 h1
      have hb0 := hb b List.mem_cons_self
      have h2 : (2 : Int) ^ (k + 1) = 2 * 2 ^ k := by rw [Int.pow_succ, Int.mul_comm]
      have := ih (2 * acc + b) (k + 1) (fun x hx => hb x (List.mem_cons_of_mem _ hx)) (by omega) (by rw [h2]; omega)
      rw [show k + (b :: r).length = k + 1 + r.length by rw [List.length_cons]; omega]
      exact this
  intro ns h
  have := this ns 0 0 h (by omega) (by decide)
  rw [Nat.zero_add] at this
  exact this
theorem bytesZ_bytes {ns : List Int} (h : Bits ns) : Bytes (bytesZ ns) := by
  intro x hx
  unfold bytesZ at hx
  obtain ⟨k, hk, rfl⟩ := List.mem_map.mp hx
  have hl : ((ns.drop (8 * k)).take 8).length ≤ 8 := List.length_take_le _ _
  have hb : Bits ((ns.drop (8 * k)).take 8) := fun b hb => h b (List.mem_of_mem_drop (List.mem_of_mem_take hb))
  have := byteZ_bound _ hb
  have h8 : (2 : Int) ^ ((ns.drop (8 * k)).take 8).length ≤ 2 ^ 8 := by
    have := Nat.pow_le_pow_right (n := 2) (by decide) hl
    exact_mod_cast this
  omega
theorem odds_bits {cs : List Int} {n : Nat} (h : Bits cs) (hn : 2 * n ≤ cs.length) : Bits (odds cs n) := by
  intro x hx
  unfold odds at hx
  obtain ⟨k, hk, rfl⟩ := List.mem_map.mp hx
  have := List.mem_range.mp hk
  rw [List.getD_eq_getElem?_getD, List.getElem?_eq_getElem (by omega)]
  exact h _ (List.getElem_mem _)
theorem cutA_bits {cs : List Int} {a n : Nat} (h : Bits cs) : Bits (cutA cs a n) := fun b hb => h b (List.mem_of_mem_drop (List.mem_of_mem_take hb))
theorem valsB_bytes {cs : List Int} (h : Bits cs) : Bytes (valsB cs) := bytesZ_bytes (odds_bits h (by omega))
def fitsZ (vs : List Int) : Bool := decide (pairZ (crcZ ([161, 161, 161] ++ vs.take (vs.length - 2))) = vs.drop (vs.length - 2))
abbrev Dta := Option (List Int) × Bool
def dtaOf (sz : Nat) (part : List Int) : Dta :=
  if (valsB part).length < 16 * 2 ^ sz + 3 ∨ (valsB part).getD 0 0 ≠ 251 then (none, false) else (some (((valsB part).drop 1).take (16 * 2 ^ sz)), (faultB part).isEmpty && fitsZ (valsB part))
def behZ (cs : List Int) (sz : Int) (e p : Nat) : Dta :=
  if 5 < sz ∨ p < e ∨ e + 960 < p then (none, false) else dtaOf sz.toNat (behC cs p (16 * 2 ^ sz.toNat + 3))
abbrev Fnd := Nat × List Int × Bool × Option (List Int) × Bool
def FndAt (H : Hp) (x : V) (f : Fnd) : Prop := ∃ t ta v, x = .ref t ∧ H t = some (.tup [.int f.1, .ref ta, .bl f.2.2.1, v, .bl f.2.2.2.2]) ∧ H ta = some (.tup (f.2.1.map V.int)) ∧ DatT H v f.2.2.2.1
theorem FndAt.same {H H' : Hp} {x : V} {f : Fnd} (s : Same H H') (h : FndAt H x f) : FndAt H' x f := by
  obtain ⟨t, ta, v, e, h1, h2, h3⟩ := h
  exact ⟨t, ta, v, e, s _ _ h1, s _ _ h2, h3.same s⟩
theorem DatT.ups {H : Hp} {D : Addr} {xs : List V} {o : HO} {v : V} {da : Option (List Int)} (hD : H D = some (.lst xs)) (h : DatT H v da) : DatT (L2.upd H D o) v da := by
  rcases h with h | ⟨a, ns, e1, e2, h⟩
  · exact .inl h
  · exact .inr ⟨a, ns, e1, e2, by rw [upd_ne (fun q => by subst q; rw [h] at hD; cases hD)]; exact h⟩
theorem FndAt.ups {H : Hp} {D : Addr} {xs : List V} {o : HO} {x : V} {f : Fnd} (hD : H D = some (.lst xs)) (h : FndAt H x f) : FndAt (L2.upd H D o) x f := by
  obtain ⟨t, ta, v, e, h1, h2, h3⟩ := h
  have n1 : t ≠ D := fun q => by subst q; rw [h1] at hD; cases hD
  have n2 : ta ≠ D := fun q => by subst q; rw [h2] at hD; cases hD
  exact ⟨t, ta, v, e, by rw [upd_ne n1]; exact h1, by rw [upd_ne n2]; exact h2, h3.ups hD⟩
def dataBeh (cs : List Int) (ps : List Nat) (i : Nat) (sz : Int) : Dta := if i + 1 < ps.length then behZ cs sz (ps.getD i 0 + 160) (ps.getD (i + 1) 0) else (none, false)
def fndAt (cs : List Int) (ps : List Nat) (i : Nat) : Option Fnd :=
  let vs := valsB (behC cs (ps.getD i 0) 7)
  if vs.length < 7 ∨ vs.getD 0 0 ≠ 254 then none else
    some (ps.getD i 0, (vs.drop 1).take 4, fitsZ vs, dataBeh cs ps i (vs.getD 4 0))
def fndTo (cs : List Int) (ps : List Nat) (n : Nat) : List Fnd := (List.range n).filterMap (fndAt cs ps)
theorem fndTo_more (cs : List Int) (ps : List Nat) (n : Nat) : fndTo cs ps (n + 1) = match fndAt cs ps n with | none => fndTo cs ps n | some f => fndTo cs ps n ++ [f] := by
  unfold fndTo
  rw [List.range_succ, List.filterMap_append]
  cases h : fndAt cs ps n with
  | none => simp [h]
  | some f => simp [h]
theorem fndTo_len (cs : List Int) (ps : List Nat) (n : Nat) : (fndTo cs ps n).length ≤ n := by
  unfold fndTo
  have := List.length_filterMap_le (fndAt cs ps) (List.range n)
  rw [List.length_range] at this
  exact this
def foundZ (cs : List Int) : List Fnd := fndTo cs (mkZ cs) (mkZ cs).length
end Dw

/-! marks of written tracks -/
namespace Dw
open PySem PySem.Spec PyProof.Rows L2
/-- the pairs where a clock is missing -/
def vio (l : Int) : List Int → Nat → List Nat
  | c :: d :: r, k => (if l = 0 ∧ c = 0 ∧ d = 0 then [k] else []) ++ vio d r (k + 1)
  | [_], _ => []
  | [], _ => []
theorem vio_append : ∀ (xs : List Int) (l : Int) (ys : List Int) (k : Nat), xs.length % 2 = 0 → vio l (xs ++ ys) k = vio l xs k ++ vio (xs.getLastD l) ys (k + xs.length / 2)
  | [], l, ys, k, _ => rfl
  | [x], l, ys, k, h => by simp at h
  | c :: d :: r, l, ys, k, h => by
    have h2 : r.length % 2 = 0 := by
      rw [List.length_cons, List.length_cons] at h
      omega
    show _ ++ vio d (r ++ ys) (k + 1) = (_ ++ vio d r (k + 1)) ++ _
    rw [vio_append r d ys (k + 1) h2, List.append_assoc]
    have e1 : (c :: d :: r).getLastD l = r.getLastD d := by rw [List.getLastD_cons, List.getLastD_cons]
    have e2 : k + (c :: d :: r).length / 2 = k + 1 + r.length / 2 := by
      rw [List.length_cons, List.length_cons]
      omega
    rw [e1, e2]
theorem vio_mfm : ∀ (bs : List Int) (l : Int) (k : Nat), vio l (mfmF l bs) k = []
  | [], _, _ => rfl
  | b :: r, l, k => by
    show (if l = 0 ∧ clk l b = 0 ∧ b = 0 then [k] else []) ++ vio b (mfmF b r) (k + 1) = []
    rw [vio_mfm r b (k + 1), if_neg]
    · rfl
    · rintro ⟨h1, h2, h3⟩
      unfold clk at h2
      rw [if_pos ⟨h1, h3⟩] at h2
      cases h2
theorem vio_marks (l : Int) (k : Nat) : vio l marksZ k = [k + 5, k + 13, k + 21] := by
  simp [marksZ, markZ, vio]
theorem vio_mem : ∀ (i : Nat) (cs : List Int) (l : Int) (k : Nat), (i = 0 → l = 0) → (0 < i → cs[2 * i - 1]? = some 0) → cs[2 * i]? = some 0 → cs[2 * i + 1]? = some 0 → k + i ∈ vio l cs k
  | 0, cs, l, k, h0, _, h2, h3 => by
    match cs, h2, h3 with
    | c :: d :: r, h2, h3 =>
      cases h2
      cases h3
      show k ∈ (if l = 0 ∧ (0 : Int) = 0 ∧ (0 : Int) = 0 then [k] else []) ++ _
      rw [if_pos ⟨h0 rfl, rfl, rfl⟩]
      exact List.mem_append_left _ List.mem_cons_self
    | [c], h2, h3 => cases h3
  | i + 1, cs, l, k, _, h1, h2, h3 => by
    match cs, h1, h2, h3 with
    | c :: d :: r, h1, h2, h3 =>
      have h1 := h1 (Nat.succ_pos i)
      refine List.mem_append_right _ ?_
      rw [show k + (i + 1) = k + 1 + i by omega]
      refine vio_mem i r d (k + 1) (fun e => ?_) (fun e => ?_) ?_ ?_
      · subst e
        exact Option.some.inj h1
      · rw [show 2 * (i + 1) - 1 = (2 * i - 1) + 1 + 1 by omega] at h1
        exact h1
      · rw [show 2 * (i + 1) = 2 * i + 1 + 1 by omega] at h2
        exact h2
      · rw [show 2 * (i + 1) + 1 = 2 * i + 1 + 1 + 1 by omega] at h3
        exact h3
    | [c], h1, h2, h3 => cases h3
    | [], h1, h2, h3 => cases h3
/-- marks with the bytes behind each -/
def partZ (P : List Int) : List Int := marksZ ++ mfmF 1 (bitsOf P)
def partsZ (Ps : List (List Int)) : List Int := Ps.flatMap partZ
def plc (n : Nat) : List (List Int) → List Nat
  | [] => []
  | P :: r => n :: plc (n + 48 + 16 * P.length) r
theorem partZ_len (P : List Int) : (partZ P).length = 48 + 16 * P.length := by
  unfold partZ
  rw [List.length_append, mfmF_len, bitsOf_len]
  show 48 + _ = _
  omega
theorem marksZ_last (l : Int) : marksZ.getLastD l = 1 := rfl
theorem marksZ_len : marksZ.length = 48 := rfl
theorem vio_parts : ∀ (Ps : List (List Int)) (l : Int) (k : Nat), vio l (partsZ Ps) k = (plc (2 * k) Ps).flatMap fun p => [p / 2 + 5, p / 2 + 13, p / 2 + 21]
  | [], _, _ => rfl
  | P :: r, l, k => by
    have e : partsZ (P :: r) = marksZ ++ (mfmF 1 (bitsOf P) ++ partsZ r) := by
      unfold partsZ
      rw [List.flatMap_cons]
      unfold partZ
      rw [List.append_assoc]
    rw [e, vio_append _ _ _ _ (by decide), vio_marks, marksZ_last, vio_append _ _ _ _ (by rw [mfmF_len]; omega), vio_mfm, List.nil_append, vio_parts r, marksZ_len, mfmF_len, bitsOf_len]
    rw [show 2 * (k + 48 / 2 + 2 * (8 * P.length) / 2) = 2 * k + 48 + 16 * P.length by omega]
    show _ = (2 * k :: plc (2 * k + 48 + 16 * P.length) r).flatMap _
    rw [List.flatMap_cons, show 2 * k / 2 = k by omega]
theorem plc_in : ∀ (Ps : List (List Int)) (n : Nat), (∀ P ∈ Ps, 0 < P.length) → ∀ p ∈ plc n Ps, n ≤ p ∧ p + 48 ≤ n + (partsZ Ps).length
  | [], n, _, p, hp => by cases hp
  | P :: r, n, hP, p, hp => by
    have hl : (partsZ (P :: r)).length = 48 + 16 * P.length + (partsZ r).length := by
      unfold partsZ
      rw [List.flatMap_cons, List.length_append, partZ_len]
    rcases List.mem_cons.mp hp with h | h
    · subst h
      omega
    · have := plc_in r _ (fun Q hQ => hP Q (List.mem_cons_of_mem _ hQ)) p h
      omega
theorem plc_gap : ∀ (Ps : List (List Int)) (n : Nat), (∀ P ∈ Ps, 0 < P.length) → (plc n Ps).Pairwise fun a b => a + 64 ≤ b
  | [], _, _ => .nil
  | P :: r, n, hP => by
    refine List.pairwise_cons.mpr ⟨fun p hp => ?_, plc_gap r _ fun Q hQ => hP Q (List.mem_cons_of_mem _ hQ)⟩
    have := plc_in r _ (fun Q hQ => hP Q (List.mem_cons_of_mem _ hQ)) p hp
    have := hP P List.mem_cons_self
    omega
theorem plc_mod : ∀ (Ps : List (List Int)) (n : Nat), n % 16 = 0 → ∀ p ∈ plc n Ps, p % 16 = 0
  | [], _, _, p, hp => by cases hp
  | P :: r, n, hn, p, hp => by
    rcases List.mem_cons.mp hp with h | h
    · subst h; exact hn
    · exact plc_mod r _ (by omega) p h
theorem plc_mark : ∀ (Ps : List (List Int)) (pre : List Int), ∀ p ∈ plc pre.length Ps, cutA (pre ++ partsZ Ps) p 48 = marksZ
  | [], _, p, hp => by cases hp
  | P :: r, pre, p, hp => by
    have e : pre ++ partsZ (P :: r) = pre ++ partZ P ++ partsZ r := by
      unfold partsZ
      rw [List.flatMap_cons, List.append_assoc]
    rcases List.mem_cons.mp hp with h | h
    · subst h
      rw [e]
      unfold cutA
      rw [List.append_assoc, List.drop_left]
      unfold partZ
      rw [List.append_assoc, show (48 : Nat) = marksZ.length from rfl, List.take_left]
    · rw [e]
      have hl : pre.length + 48 + 16 * P.length = (pre ++ partZ P).length := by
        rw [List.length_append, partZ_len]
        omega
      rw [hl] at h
      exact plc_mark r (pre ++ partZ P) p h
theorem cut_cell {cs : List Int} {a i : Nat} (h : cutA cs a 48 = marksZ) (hi : i < 48) : cs[a + i]? = marksZ[i]? := by
  rw [← h]
  unfold cutA
  rw [List.getElem?_take_of_lt hi, List.getElem?_drop]
theorem gap_two {ps : List Nat} (h : ps.Pairwise fun a b => a + 64 ≤ b) {a b : Nat} (ha : a ∈ ps) (hb : b ∈ ps) : a = b ∨ a + 64 ≤ b ∨ b + 64 ≤ a := by
  obtain ⟨i, hi, rfl⟩ := List.mem_iff_getElem.mp ha
  obtain ⟨j, hj, rfl⟩ := List.mem_iff_getElem.mp hb
  rcases Nat.lt_trichotomy i j with c | c | c
  · exact .inr (.inl (List.pairwise_iff_getElem.mp h i j hi hj c))
  · subst c; exact .inl rfl
  · exact .inr (.inr (List.pairwise_iff_getElem.mp h j i hj hi c))
/-- a mark stands nowhere else -/
theorem mark_at {P0 : List Int} {Ps : List (List Int)} (hP : ∀ P ∈ Ps, 0 < P.length) {a : Nat} (h : cutA (mfmF 0 (bitsOf P0) ++ partsZ Ps) a 48 = marksZ) : a ∈ plc (16 * P0.length) Ps := by
  have hv : vio 0 (mfmF 0 (bitsOf P0) ++ partsZ Ps) 0 = (plc (16 * P0.length) Ps).flatMap fun p => [p / 2 + 5, p / 2 + 13, p / 2 + 21] := by
    rw [vio_append _ _ _ _ (by rw [mfmF_len]; omega), vio_mfm, List.nil_append, vio_parts, mfmF_len, bitsOf_len]
    rw [show 2 * (0 + 2 * (8 * P0.length) / 2) = 16 * P0.length by omega]
  have hg := plc_gap Ps (16 * P0.length) hP
  have hm := plc_mod Ps (16 * P0.length) (by omega)
  have hk : ∀ p ∈ plc (16 * P0.length) Ps, cutA (mfmF 0 (bitsOf P0) ++ partsZ Ps) p 48 = marksZ := fun p hp => by
    refine plc_mark Ps (mfmF 0 (bitsOf P0)) p ?_
    rw [mfmF_len, bitsOf_len, show 2 * (8 * P0.length) = 16 * P0.length by omega]
    exact hp
  generalize mfmF 0 (bitsOf P0) ++ partsZ Ps = cs at *
  generalize plc (16 * P0.length) Ps = ps at *
  have hc : ∀ i z, i < 48 → marksZ[i]? = some z → cs[a + i]? = some z := fun i z hi hz => by rw [cut_cell h hi, hz]
  have inV : ∀ i, 0 < i → cs[2 * i - 1]? = some 0 → cs[2 * i]? = some 0 → cs[2 * i + 1]? = some 0 → ∃ p ∈ ps, i = p / 2 + 5 ∨ i = p / 2 + 13 ∨ i = p / 2 + 21 := by
    intro i h0 h1 h2 h3
    have := vio_mem i cs 0 0 (fun e => by omega) (fun _ => h1) h2 h3
    rw [hv, Nat.zero_add] at this
    obtain ⟨p, hp, hq⟩ := List.mem_flatMap.mp this
    refine ⟨p, hp, ?_⟩
    simpa using hq
  by_cases ev : a % 2 = 0
  · obtain ⟨b, rfl⟩ : ∃ b, a = 2 * b := ⟨a / 2, by omega⟩
    have v1 := inV (b + 5) (by omega) (by rw [show 2 * (b + 5) - 1 = 2 * b + 9 by omega]; exact hc 9 0 (by decide) rfl) (by rw [show 2 * (b + 5) = 2 * b + 10 by omega]; exact hc 10 0 (by decide) rfl) (by rw [show 2 * (b + 5) + 1 = 2 * b + 11 by omega]; exact hc 11 0 (by decide) rfl)
    have v2 := inV (b + 13) (by omega) (by rw [show 2 * (b + 13) - 1 = 2 * b + 25 by omega]; exact hc 25 0 (by decide) rfl) (by rw [show 2 * (b + 13) = 2 * b + 26 by omega]; exact hc 26 0 (by decide) rfl) (by rw [show 2 * (b + 13) + 1 = 2 * b + 27 by omega]; exact hc 27 0 (by decide) rfl)
    have v3 := inV (b + 21) (by omega) (by rw [show 2 * (b + 21) - 1 = 2 * b + 41 by omega]; exact hc 41 0 (by decide) rfl) (by rw [show 2 * (b + 21) = 2 * b + 42 by omega]; exact hc 42 0 (by decide) rfl) (by rw [show 2 * (b + 21) + 1 = 2 * b + 43 by omega]; exact hc 43 0 (by decide) rfl)
    obtain ⟨p1, hp1, e1⟩ := v1
    obtain ⟨p2, hp2, e2⟩ := v2
    obtain ⟨p3, hp3, e3⟩ := v3
    have m1 := hm p1 hp1
    have m2 := hm p2 hp2
    have m3 := hm p3 hp3
    have g12 := gap_two hg hp1 hp2
    have g13 := gap_two hg hp1 hp3
    have : 2 * b = p1 := by omega
    rw [this]
    exact hp1
  · exfalso
    obtain ⟨b, rfl⟩ : ∃ b, a = 2 * b + 1 := ⟨a / 2, by omega⟩
    have v1 := inV (b + 2) (by omega) (by rw [show 2 * (b + 2) - 1 = 2 * b + 1 + 2 by omega]; exact hc 2 0 (by decide) rfl) (by rw [show 2 * (b + 2) = 2 * b + 1 + 3 by omega]; exact hc 3 0 (by decide) rfl) (by rw [show 2 * (b + 2) + 1 = 2 * b + 1 + 4 by omega]; exact hc 4 0 (by decide) rfl)
    have v2 := inV (b + 10) (by omega) (by rw [show 2 * (b + 10) - 1 = 2 * b + 1 + 18 by omega]; exact hc 18 0 (by decide) rfl) (by rw [show 2 * (b + 10) = 2 * b + 1 + 19 by omega]; exact hc 19 0 (by decide) rfl) (by rw [show 2 * (b + 10) + 1 = 2 * b + 1 + 20 by omega]; exact hc 20 0 (by decide) rfl)
    have v3 := inV (b + 18) (by omega) (by rw [show 2 * (b + 18) - 1 = 2 * b + 1 + 34 by omega]; exact hc 34 0 (by decide) rfl) (by rw [show 2 * (b + 18) = 2 * b + 1 + 35 by omega]; exact hc 35 0 (by decide) rfl) (by rw [show 2 * (b + 18) + 1 = 2 * b + 1 + 36 by omega]; exact hc 36 0 (by decide) rfl)
    obtain ⟨p1, hp1, e1⟩ := v1
    obtain ⟨p2, hp2, e2⟩ := v2
    obtain ⟨p3, hp3, e3⟩ := v3
    have m1 := hm p1 hp1
    have m2 := hm p2 hp2
    have m3 := hm p3 hp3
    have g12 := gap_two hg hp1 hp2
    have g13 := gap_two hg hp1 hp3
    have e : p1 = 2 * b - 6 ∧ 3 ≤ b := by omega
    have c1 : cs[p1 + 17]? = some 1 := by rw [cut_cell (hk p1 hp1) (by decide)]; rfl
    have c2 : cs[2 * b + 1 + 10]? = some 0 := hc 10 0 (by decide) rfl
    rw [show p1 + 17 = 2 * b + 1 + 10 by omega, c2] at c1
    cases c1
/-- where marks stand at known places only -/
theorem mkFrom_eq {cs : List Int} {ps : List Nat} (hg : ps.Pairwise fun a b => a + 64 ≤ b) (hin : ∀ p ∈ ps, p + 48 ≤ cs.length ∧ cutA cs p 48 = marksZ) (hon : ∀ a, cutA cs a 48 = marksZ → a ∈ ps) :
    ∀ (k a : Nat) (qs rs : List Nat), cs.length + 1 - a ≤ k → ps = qs ++ rs → (∀ q ∈ qs, q + 48 ≤ a) → (∀ r ∈ rs, a ≤ r) → mkFrom cs a = rs
  | 0, a, qs, rs, hk, he, _, hr => by
    rw [mkFrom_end (by omega)]
    cases rs with
    | nil => rfl
    | cons r rs =>
      have h1 := hr r List.mem_cons_self
      have h2 := (hin r (by rw [he]; simp)).1
      omega
  | k + 1, a, qs, rs, hk, he, hq, hr => by
    by_cases c : a + 48 ≤ cs.length
    · by_cases m : cutA cs a 48 = marksZ
      · rw [mkFrom_yes c m]
        have ha := hon a m
        rw [he] at ha
        rcases List.mem_append.mp ha with h | h
        · have := hq a h
          omega
        · cases rs with
          | nil => cases h
          | cons r rs =>
            rw [he] at hg
            have hgr := (List.pairwise_append.mp hg).2.1
            have hr1 := List.pairwise_cons.mp hgr
            have e : r = a := by
              rcases List.mem_cons.mp h with h | h
              · exact h.symm
              · have h1 := hr1.1 a h
                have h2 := hr r List.mem_cons_self
                omega
            subst e
            rw [mkFrom_eq (by rw [he]; exact hg) hin hon k (r + 48) (qs ++ [r]) rs (by omega) (by rw [he]; simp) (fun q h => ?_) (fun s h => ?_)]
            · rcases List.mem_append.mp h with h | h
              · have := hq q h
                omega
              · rw [List.mem_singleton.mp h]
                exact Nat.le_refl _
            · have := hr1.1 s h
              omega
      · rw [mkFrom_no c m]
        refine mkFrom_eq hg hin hon k (a + 1) qs rs (by omega) he (fun q h => by have := hq q h; omega) fun r h => ?_
        have h1 := hr r h
        have h2 : r ≠ a := fun e => m (e ▸ (hin r (by rw [he]; exact List.mem_append_right _ h)).2)
        omega
    · rw [mkFrom_end c]
      cases rs with
      | nil => rfl
      | cons r rs =>
        have h1 := hr r List.mem_cons_self
        have h2 := (hin r (by rw [he]; simp)).1
        omega
theorem mk_stream {P0 : List Int} {Ps : List (List Int)} (hP : ∀ P ∈ Ps, 0 < P.length) : mkZ (mfmF 0 (bitsOf P0) ++ partsZ Ps) = plc (16 * P0.length) Ps := by
  have hl : (mfmF 0 (bitsOf P0)).length = 16 * P0.length := by rw [mfmF_len, bitsOf_len]; omega
  refine mkFrom_eq (plc_gap Ps _ hP) (fun p hp => ⟨?_, ?_⟩) (fun a h => mark_at hP h) _ 0 [] _ (Nat.le_refl _) rfl (fun q h => by cases h) (fun r _ => Nat.zero_le _)
  · have := (plc_in Ps _ hP p hp).2
    rw [List.length_append, hl]
    exact this
  · rw [← hl] at hp
    exact plc_mark Ps _ p hp
end Dw

/-! what is found on written tracks -/
namespace Dw
open PySem PySem.Spec PyProof.Rows L2
theorem mfmB_len (b : Int) (Q : List Int) : (mfmF b (bitsOf Q)).length = 16 * Q.length := by rw [mfmF_len, bitsOf_len]; omega
theorem vals_mfm {Q : List Int} (hb : Bytes Q) : valsB (mfmF 1 (bitsOf Q)) = Q ∧ faultB (mfmF 1 (bitsOf Q)) = [] := by
  have hl : 8 * ((mfmF 1 (bitsOf Q)).length / 16) = (bitsOf Q).length := by rw [mfmB_len, bitsOf_len]; omega
  have h1 := mfm_odds 1 (bitsOf Q) []
  have h2 := mfm_faults 1 (bitsOf Q) []
  rw [List.append_nil] at h1 h2
  unfold valsB faultB
  rw [hl, h1, h2]
  exact ⟨bytes_bits Q hb, rfl⟩
theorem mfm_split (b : Int) (X Y : List Int) : mfmF b (bitsOf (X ++ Y)) = mfmF b (bitsOf X) ++ mfmF (lastOf b (bitsOf X)) (bitsOf Y) := by
  rw [bitsOf_append, mfmF_append]
theorem beh_part {pre P rest : List Int} {n : Nat} (hn : n ≤ P.length) : behC (pre ++ (partZ P ++ rest)) pre.length n = mfmF 1 (bitsOf (P.take n)) := by
  unfold behC cutA
  rw [← List.drop_drop, List.drop_left]
  unfold partZ
  rw [List.append_assoc, show (48 : Nat) = marksZ.length from rfl, List.drop_left]
  have e : mfmF 1 (bitsOf P) = mfmF 1 (bitsOf (P.take n)) ++ mfmF (lastOf 1 (bitsOf (P.take n))) (bitsOf (P.drop n)) := by rw [← mfm_split, List.take_append_drop]
  have hl : 16 * n = (mfmF 1 (bitsOf (P.take n))).length := by rw [mfmB_len, List.length_take]; omega
  rw [e, List.append_assoc, hl, List.take_left]
theorem vals_first {b : Int} {R : List Int} (hb : 0 ≤ b ∧ b < 256) : (valsB (mfmF 1 (bitsOf [b]) ++ R)).getD 0 0 = b := by
  have hl : (mfmF 1 (bitsOf [b]) ++ R).length = 16 + R.length := by rw [List.length_append, mfmB_len]; rfl
  have h1 := mfm_odds 1 (bitsOf [b]) R
  have h8 : (bitsOf [b]).length = 8 := by rw [bitsOf_len]; rfl
  rw [h8] at h1
  obtain ⟨v, rfl⟩ := nat_of hb.1
  have hbits : bitsOf [(v : Int)] = bits8 v := by unfold bitsOf; simp
  unfold valsB bytesZ
  rw [odds_len, hl]
  have hm : 8 * ((16 + R.length) / 16) / 8 = (R.length / 16) + 1 := by omega
  rw [hm, List.range_succ_eq_map, List.map_cons]
  show byteZ (((odds (mfmF 1 (bitsOf [(v : Int)]) ++ R) (8 * ((16 + R.length) / 16))).drop (8 * 0)).take 8) = (v : Int)
  have ho : (odds (mfmF 1 (bitsOf [(v : Int)]) ++ R) (8 * ((16 + R.length) / 16))).take 8 = odds (mfmF 1 (bitsOf [(v : Int)]) ++ R) 8 := by
    unfold odds
    rw [← List.map_take, List.take_range]
    rw [Nat.min_eq_left (by omega)]
  show byteZ ((odds (mfmF 1 (bitsOf [(v : Int)]) ++ R) (8 * ((16 + R.length) / 16))).take 8) = (v : Int)
  rw [ho, h1, hbits]
  exact byteZ_bits8 (by omega)
theorem beh_first {pre P rest : List Int} {n : Nat} {b : Int} (h0 : P[0]? = some b) (hn : 0 < n) (hb : 0 ≤ b ∧ b < 256) : (valsB (behC (pre ++ (partZ P ++ rest)) pre.length n)).getD 0 0 = b := by
  have hP : 0 < P.length := (List.getElem?_eq_some_iff.mp h0).1
  obtain ⟨R, hR⟩ : ∃ R, behC (pre ++ (partZ P ++ rest)) pre.length n = mfmF 1 (bitsOf [b]) ++ R := by
    have h1 := beh_part (pre := pre) (rest := rest) (P := P) (n := 1) hP
    have e1 : P.take 1 = [b] := by
      cases P with
      | nil => cases h0
      | cons x r => cases h0; rfl
    rw [e1] at h1
    refine ⟨(behC (pre ++ (partZ P ++ rest)) pre.length n).drop 16, ?_⟩
    rw [← h1]
    have e2 : behC (pre ++ (partZ P ++ rest)) pre.length 1 = (behC (pre ++ (partZ P ++ rest)) pre.length n).take 16 := by
      unfold behC cutA
      rw [List.take_take, Nat.min_eq_left (by omega)]
    rw [e2, List.take_append_drop]
  rw [hR]
  exact vals_first hb
theorem pairZ_inj {a b : Int} (h : pairZ a = pairZ b) : a = b := by
  unfold pairZ at h
  injection h with h1 h2
  injection h2 with h2 _
  omega
theorem fits_eq (ns : List Int) (w : Bool) : fitsZ (ns ++ pairZ (chkZ ns w)) = !w := by
  unfold fitsZ
  have hl : (ns ++ pairZ (chkZ ns w)).length - 2 = ns.length := by rw [List.length_append]; show ns.length + 2 - 2 = _; omega
  rw [hl, List.take_left, List.drop_left]
  cases w with
  | false => exact decide_eq_true rfl
  | true =>
    refine decide_eq_false fun h => ?_
    have := pairZ_inj h
    unfold chkZ at this
    rw [if_pos rfl] at this
    omega
/-- list of marks, each with the next one -/
def fnd1 (cs : List Int) (p : Nat) (nx : Option Nat) : Option Fnd :=
  let vs := valsB (behC cs p 7)
  if vs.length < 7 ∨ vs.getD 0 0 ≠ 254 then none else
    some (p, (vs.drop 1).take 4, fitsZ vs, match nx with | some q => behZ cs (vs.getD 4 0) (p + 160) q | none => (none, false))
def fndL (cs : List Int) : List Nat → List Fnd
  | [] => []
  | p :: r => (match fnd1 cs p r.head? with | none => [] | some f => [f]) ++ fndL cs r
theorem fnd1_at (cs : List Int) (ps : List Nat) (i : Nat) (h : i < ps.length) : fndAt cs ps i = fnd1 cs (ps.getD i 0) (ps[i + 1]?) := by
  have hd : ∀ z, dataBeh cs ps i z = (match ps[i + 1]? with | some q => behZ cs z (ps.getD i 0 + 160) q | none => (none, false)) := fun z => by
    unfold dataBeh
    by_cases c : i + 1 < ps.length
    · rw [if_pos c, List.getElem?_eq_getElem c, List.getD_eq_getElem?_getD (i := i + 1), List.getElem?_eq_getElem c]
      rfl
    · rw [if_neg c, List.getElem?_eq_none (by omega)]
  unfold fndAt fnd1
  simp only [hd]
theorem fm_congr {β : Type} {f g : Nat → Option β} : ∀ l : List Nat, (∀ a ∈ l, f a = g a) → l.filterMap f = l.filterMap g
  | [], _ => rfl
  | a :: r, h => by rw [List.filterMap_cons, List.filterMap_cons, h a List.mem_cons_self, fm_congr r fun b hb => h b (List.mem_cons_of_mem _ hb)]
theorem fndL_eq (cs : List Int) : ∀ ps : List Nat, fndTo cs ps ps.length = fndL cs ps
  | [] => rfl
  | p :: r => by
    have ih := fndL_eq cs r
    unfold fndTo at ih ⊢
    rw [List.length_cons, List.range_succ_eq_map, List.filterMap_cons, List.filterMap_map]
    have e0 : fndAt cs (p :: r) 0 = fnd1 cs p r.head? := by
      rw [fnd1_at cs (p :: r) 0 (by simp)]
      cases r <;> rfl
    have es : (List.range r.length).filterMap (fndAt cs (p :: r) ∘ Nat.succ) = (List.range r.length).filterMap (fndAt cs r) := by
      refine fm_congr _ fun i hi => ?_
      have hi := List.mem_range.mp hi
      show fndAt cs (p :: r) (i + 1) = fndAt cs r i
      rw [fnd1_at cs (p :: r) (i + 1) (by rw [List.length_cons]; omega), fnd1_at cs r i hi]
      rfl
    rw [e0, es, ih]
    rw [fndL]
    cases fnd1 cs p r.head? <;> rfl
/-- bytes up to the next mark -/
def tb (r : List Sec) (g : Nat) : List Int := match r with | [] => List.replicate g 78 | _ :: _ => List.replicate 6 0
def adP (s : Sec) : List Int := 254 :: s.1 ++ pairZ (chkZ (254 :: s.1) s.2.2.1)
def daP (d : List Int) (w : Bool) : List Int := 251 :: d ++ pairZ (chkZ (251 :: d) w)
def pays : List Sec → Nat → List (List Int)
  | [], _ => []
  | s :: r, g => match s.2.1 with
    | none => (adP s ++ (List.replicate 8 78 ++ (List.replicate 8 78 ++ tb r g))) :: pays r g
    | some d => (adP s ++ (List.replicate 8 78 ++ List.replicate 6 0)) :: (daP d s.2.2.2 ++ (List.replicate 8 78 ++ tb r g)) :: pays r g
def dueM (n : Nat) : List Sec → List Fnd
  | [] => []
  | s :: r => (n, s.1, !s.2.2.1, s.2.1, s.2.1.isSome && !s.2.2.2) :: dueM (n + 160 + 128 + 128 + (match s.2.1 with | none => 0 | some d => 96 + 16 * (6 + d.length)) + 96) r
theorem pays_pos : ∀ (ss : List Sec) (g : Nat), ∀ P ∈ pays ss g, 0 < P.length
  | [], _, P, h => by cases h
  | (ad, da, aw, dw) :: r, g, P, h => by
    cases da with
    | none =>
      rcases List.mem_cons.mp h with h | h
      · subst h; simp [adP]
      · exact pays_pos r g P h
    | some d =>
      rcases List.mem_cons.mp h with h | h
      · subst h; simp [adP]
      · rcases List.mem_cons.mp h with h | h
        · subst h; simp [daP]
        · exact pays_pos r g P h
theorem lastOf_gap (b : Int) (X : List Int) : lastOf b (bitsOf (X ++ List.replicate 8 78)) = 0 := by
  rw [bitsOf_append]
  unfold lastOf
  rw [getLastD_append (by decide)]
  rfl
theorem mfmB_last (b x : Int) (Q : List Int) (h : Q ≠ []) : (mfmF b (bitsOf Q)).getLastD x = lastOf b (bitsOf Q) := by
  have hne : bitsOf Q ≠ [] := fun e => h (by have := congrArg List.length e; rw [bitsOf_len] at this; exact List.eq_nil_of_length_eq_zero (by have h0 : ([] : List Int).length = 0 := rfl; omega))
  rw [mfmF_last _ _ _ hne]
  unfold lastOf
  rw [List.getLastD_eq_getLast?, List.getLastD_eq_getLast?, List.getLast?_eq_some_getLast hne]
  rfl
theorem field_gap {Z ns : List Int} {w : Bool} (T : List Int) : fieldZ ns w ++ gapZ 8 ((Z ++ fieldZ ns w).getLastD 0) ++ mfmF 0 (bitsOf T) = mfmF 0 (bitsOf (List.replicate 6 0)) ++ partZ (ns ++ pairZ (chkZ ns w) ++ (List.replicate 8 78 ++ T)) := by
  have hne : ns ++ pairZ (chkZ ns w) ≠ [] := by unfold pairZ; simp
  have hl : (Z ++ fieldZ ns w).getLastD 0 = lastOf 1 (bitsOf (ns ++ pairZ (chkZ ns w))) := by
    rw [getLastD_append (by unfold fieldZ; simp [marksZ, markZ])]
    unfold fieldZ
    rw [getLastD_append (by
      intro e
      have := congrArg List.length e
      rw [mfmB_len, List.length_append] at this
      simp [pairZ] at this), mfmB_last _ _ _ hne]
  rw [hl]
  unfold partZ
  rw [mfm_split 1 (ns ++ pairZ (chkZ ns w)), mfm_split _ (List.replicate 8 78) T]
  have hz : lastOf (lastOf 1 (bitsOf (ns ++ pairZ (chkZ ns w)))) (bitsOf (List.replicate 8 78)) = 0 := lastOf_gap _ []
  rw [hz]
  unfold fieldZ gapZ
  simp only [List.append_assoc]
theorem stream_from (g : Nat) : ∀ (ss : List Sec) (Z : List Int), Z.getLastD 0 = 0 → ss.foldl secStep Z ++ gapZ g 0 = Z ++ (mfmF 0 (bitsOf (tb ss g)) ++ partsZ (pays ss g))
  | [], Z, _ => by
    show Z ++ gapZ g 0 = Z ++ (mfmF 0 (bitsOf (List.replicate g 78)) ++ [])
    rw [List.append_nil]
    rfl
  | (ad, da, aw, dw) :: r, Z, hZ => by
    have hs := secStep_last Z (ad, da, aw, dw) 0
    show r.foldl secStep (secStep Z (ad, da, aw, dw)) ++ gapZ g 0 = _
    rw [stream_from g r _ hs]
    show _ = Z ++ (mfmF 0 (bitsOf (List.replicate 6 0)) ++ partsZ (pays ((ad, da, aw, dw) :: r) g))
    cases da with
    | none =>
      have e1 : secStep Z (ad, none, aw, dw) = Z ++ (fieldZ (254 :: ad) aw ++ gapZ 8 ((Z ++ fieldZ (254 :: ad) aw).getLastD 0) ++ mfmF 0 (bitsOf (List.replicate 8 78))) := by
        have hlz : ∀ x, (Z ++ fieldZ (254 :: ad) aw ++ gapZ 8 x).getLastD 0 = 0 := fun x => by
          rw [getLastD_append (by intro e; have := congrArg List.length e; rw [gapZ_len] at this; cases this), gapZ_last (by decide)]
        rw [secStep_eq]
        simp only [show ∀ X, datC X none dw = X from fun _ => rfl, hlz]
        simp only [List.append_assoc]
        rfl
      rw [e1, field_gap]
      have e2 : partsZ (pays ((ad, none, aw, dw) :: r) g) = partZ (adP (ad, none, aw, dw) ++ (List.replicate 8 78 ++ (List.replicate 8 78 ++ tb r g))) ++ partsZ (pays r g) := rfl
      rw [e2]
      have e3 : partZ (254 :: ad ++ pairZ (chkZ (254 :: ad) aw) ++ (List.replicate 8 78 ++ List.replicate 8 78)) ++ mfmF 0 (bitsOf (tb r g)) = partZ (adP (ad, none, aw, dw) ++ (List.replicate 8 78 ++ (List.replicate 8 78 ++ tb r g))) := by
        unfold partZ
        have e4 : adP (ad, none, aw, dw) ++ (List.replicate 8 78 ++ (List.replicate 8 78 ++ tb r g)) = (254 :: ad ++ pairZ (chkZ (254 :: ad) aw) ++ (List.replicate 8 78 ++ List.replicate 8 78)) ++ tb r g := by
          unfold adP
          simp only [List.append_assoc]
        rw [e4, mfm_split 1 _ (tb r g), ← List.append_assoc (254 :: ad ++ pairZ (chkZ (254 :: ad) aw)), lastOf_gap, List.append_assoc]
      rw [← e3]
      simp only [List.append_assoc]
    | some d =>
      have e1 : secStep Z (ad, some d, aw, dw) = Z ++ (fieldZ (254 :: ad) aw ++ gapZ 8 ((Z ++ fieldZ (254 :: ad) aw).getLastD 0)) ++ (fieldZ (251 :: d) dw ++ gapZ 8 ((Z ++ (fieldZ (254 :: ad) aw ++ gapZ 8 ((Z ++ fieldZ (254 :: ad) aw).getLastD 0)) ++ fieldZ (251 :: d) dw).getLastD 0)) := by
        rw [secStep_eq]
        unfold datC
        simp only [List.append_assoc]
      rw [e1]
      have f2 := field_gap (Z := Z ++ (fieldZ (254 :: ad) aw ++ gapZ 8 ((Z ++ fieldZ (254 :: ad) aw).getLastD 0))) (ns := 251 :: d) (w := dw) (tb r g)
      have f1 := field_gap (Z := Z) (ns := 254 :: ad) (w := aw) (List.replicate 6 0)
      generalize gapZ 8 ((Z ++ (fieldZ (254 :: ad) aw ++ gapZ 8 ((Z ++ fieldZ (254 :: ad) aw).getLastD 0)) ++ fieldZ (251 :: d) dw).getLastD 0) = G2 at f2 ⊢
      generalize gapZ 8 ((Z ++ fieldZ (254 :: ad) aw).getLastD 0) = G1 at f1 ⊢
      have e2 : partsZ (pays ((ad, some d, aw, dw) :: r) g) = partZ (adP (ad, some d, aw, dw) ++ (List.replicate 8 78 ++ List.replicate 6 0)) ++ (partZ (daP d dw ++ (List.replicate 8 78 ++ tb r g)) ++ partsZ (pays r g)) := rfl
      have e3 : adP (ad, some d, aw, dw) = 254 :: ad ++ pairZ (chkZ (254 :: ad) aw) := rfl
      have e4 : daP d dw = 251 :: d ++ pairZ (chkZ (251 :: d) dw) := rfl
      rw [e2, e3, e4]
      calc Z ++ (fieldZ (254 :: ad) aw ++ G1) ++ (fieldZ (251 :: d) dw ++ G2) ++ (mfmF 0 (bitsOf (tb r g)) ++ partsZ (pays r g))
          = Z ++ (fieldZ (254 :: ad) aw ++ G1 ++ ((fieldZ (251 :: d) dw ++ G2 ++ mfmF 0 (bitsOf (tb r g))) ++ partsZ (pays r g))) := by simp only [List.append_assoc]
        _ = Z ++ ((fieldZ (254 :: ad) aw ++ G1 ++ mfmF 0 (bitsOf (List.replicate 6 0))) ++ (partZ (251 :: d ++ pairZ (chkZ (251 :: d) dw) ++ (List.replicate 8 78 ++ tb r g)) ++ partsZ (pays r g))) := by rw [f2]; simp only [List.append_assoc]
        _ = _ := by rw [f1]; simp only [List.append_assoc]
theorem stream_track (ss : List Sec) (g : Nat) : trackZ ss ++ gapZ g 0 = mfmF 0 (bitsOf (List.replicate 10 78 ++ tb ss g)) ++ partsZ (pays ss g) := by
  unfold trackZ
  rw [stream_from g ss (gapZ 10 0) (gapZ_last (by decide)), mfm_split]
  have : lastOf 0 (bitsOf (List.replicate 10 78)) = 0 := by decide
  rw [this, List.append_assoc]
  rfl
theorem adP_len {s : Sec} (h : s.1.length = 4) : (adP s).length = 7 := by
  unfold adP pairZ
  simp [h]
theorem pairZ_by (ns : List Int) (w : Bool) : Bytes (pairZ (chkZ ns w)) := pairZ_bytes (chkZ_nn ns w)
theorem bytes_cons {x : Int} {ns : List Int} (h : 0 ≤ x ∧ x < 256) (hn : Bytes ns) : Bytes (x :: ns) := fun y hy => by
  rcases List.mem_cons.mp hy with e | e
  · subst e; exact h
  · exact hn y e
theorem adP_bytes {s : Sec} (h : Bytes s.1) : Bytes (adP s) := Bytes.app (bytes_cons (by omega) h) (pairZ_by _ _)
theorem daP_bytes {d : List Int} {w : Bool} (h : Bytes d) : Bytes (daP d w) := Bytes.app (bytes_cons (by omega) h) (pairZ_by _ _)
theorem pays_head (s : Sec) (r : List Sec) (g : Nat) : ∃ P rest, pays (s :: r) g = P :: rest ∧ P[0]? = some 254 := by
  obtain ⟨ad, da, aw, dw⟩ := s
  cases da with
  | none => exact ⟨_, _, rfl, rfl⟩
  | some d => exact ⟨_, _, rfl, rfl⟩
theorem due_stream (g : Nat) : ∀ (ss : List Sec) (pre : List Int), (∀ s ∈ ss, OkSec s) → fndL (pre ++ partsZ (pays ss g)) (plc pre.length (pays ss g)) = dueM pre.length ss
  | [], pre, _ => rfl
  | (ad, da, aw, dw) :: r, pre, hok => by
    have hok0 := hok _ List.mem_cons_self
    have h4 := okSec_len hok0
    obtain ⟨a, b, c, z, had, hbad, hz5, hda⟩ := hok0
    have h4 : ad.length = 4 := h4
    have hbad : Bytes ad := hbad
    have hokr : ∀ s ∈ r, OkSec s := fun s hs => hok s (List.mem_cons_of_mem _ hs)
    have had : ad = [a, b, c, z] := had
    have hzb := hbad z (by rw [had]; simp)
    have hal : (adP (ad, da, aw, dw)).length = 7 := adP_len h4
    have hab : Bytes (adP (ad, da, aw, dw)) := adP_bytes hbad
    have hfit : fitsZ (adP (ad, da, aw, dw)) = !aw := fits_eq (254 :: ad) aw
    have h14 : ((adP (ad, da, aw, dw)).drop 1).take 4 = ad := by
      unfold adP
      show (ad ++ pairZ _).take 4 = ad
      rw [← h4, List.take_left]
    have hg4 : (adP (ad, da, aw, dw)).getD 4 0 = z := by
      unfold adP
      rw [had]
      rfl
    have hg0 : (adP (ad, da, aw, dw)).getD 0 0 = 254 := rfl
    have hread : ∀ (X rest : List Int), valsB (behC (pre ++ (partZ (adP (ad, da, aw, dw) ++ X) ++ rest)) pre.length 7) = adP (ad, da, aw, dw) := fun X rest => by
      rw [beh_part (by rw [List.length_append]; omega), ← hal, List.take_left]
      exact (vals_mfm hab).1
    cases da with
    | none =>
      have ep : pays ((ad, none, aw, dw) :: r) g = (adP (ad, none, aw, dw) ++ (List.replicate 8 78 ++ (List.replicate 8 78 ++ tb r g))) :: pays r g := rfl
      have es : partsZ (pays ((ad, none, aw, dw) :: r) g) = partZ (adP (ad, none, aw, dw) ++ (List.replicate 8 78 ++ (List.replicate 8 78 ++ tb r g))) ++ partsZ (pays r g) := rfl
      have hrd := hread (List.replicate 8 78 ++ (List.replicate 8 78 ++ tb r g)) (partsZ (pays r g))
      rw [es, ep]
      show (match fnd1 _ pre.length (plc (pre.length + 48 + 16 * _) (pays r g)).head? with | none => [] | some f => [f]) ++ fndL _ (plc (pre.length + 48 + 16 * _) (pays r g)) = _
      have hPl : (pre ++ partZ (adP (ad, none, aw, dw) ++ (List.replicate 8 78 ++ (List.replicate 8 78 ++ tb r g)))).length = pre.length + 48 + 16 * (adP (ad, none, aw, dw) ++ (List.replicate 8 78 ++ (List.replicate 8 78 ++ tb r g))).length := by
        rw [List.length_append, partZ_len]
        omega
      have ih := due_stream g r (pre ++ partZ (adP (ad, none, aw, dw) ++ (List.replicate 8 78 ++ (List.replicate 8 78 ++ tb r g)))) hokr
      rw [hPl, List.append_assoc] at ih
      rw [ih]
      have hnx : (match (plc (pre.length + 48 + 16 * (adP (ad, none, aw, dw) ++ (List.replicate 8 78 ++ (List.replicate 8 78 ++ tb r g))).length) (pays r g)).head? with | some q => behZ (pre ++ (partZ (adP (ad, none, aw, dw) ++ (List.replicate 8 78 ++ (List.replicate 8 78 ++ tb r g))) ++ partsZ (pays r g))) z (pre.length + 160) q | none => (none, false)) = ((none, false) : Dta) := by
        cases r with
        | nil => rfl
        | cons s2 r2 =>
          obtain ⟨P, rest, e1, e2⟩ := pays_head s2 r2 g
          rw [e1]
          show behZ _ z (pre.length + 160) (pre.length + 48 + 16 * _) = _
          unfold behZ
          split
          · rfl
          · unfold dtaOf
            have e3 : partsZ (P :: rest) = partZ P ++ partsZ rest := rfl
            have hf := beh_first (pre := pre ++ partZ (adP (ad, none, aw, dw) ++ (List.replicate 8 78 ++ (List.replicate 8 78 ++ tb (s2 :: r2) g)))) (P := P) (rest := partsZ rest) (n := 16 * 2 ^ z.toNat + 3) e2 (by omega) (by omega)
            rw [hPl, List.append_assoc, ← e3] at hf
            rw [if_pos (.inr (by rw [hf]; decide))]
      have e1 : fnd1 (pre ++ (partZ (adP (ad, none, aw, dw) ++ (List.replicate 8 78 ++ (List.replicate 8 78 ++ tb r g))) ++ partsZ (pays r g))) pre.length (plc (pre.length + 48 + 16 * (adP (ad, none, aw, dw) ++ (List.replicate 8 78 ++ (List.replicate 8 78 ++ tb r g))).length) (pays r g)).head? = some (pre.length, ad, !aw, none, false) := by
        unfold fnd1
        simp only [hrd]
        rw [if_neg (by rw [hal, hg0]; decide), h14, hfit, hg4, hnx]
      rw [e1]
      show (pre.length, ad, !aw, none, false) :: dueM _ r = (pre.length, ad, !aw, none, false) :: dueM (pre.length + 160 + 128 + 128 + 0 + 96) r
      cases r with
      | nil => rfl
      | cons s2 r2 =>
        have : pre.length + 48 + 16 * (adP (ad, none, aw, dw) ++ (List.replicate 8 78 ++ (List.replicate 8 78 ++ tb (s2 :: r2) g))).length = pre.length + 160 + 128 + 128 + 0 + 96 := by
          rw [List.length_append, hal]
          simp [tb] <;> omega
        rw [this]
    | some d =>
      obtain ⟨hdl, hdb⟩ := hda d rfl
      have hdl : d.length = 16 * 2 ^ z.toNat := hdl
      have ep : pays ((ad, some d, aw, dw) :: r) g = (adP (ad, some d, aw, dw) ++ (List.replicate 8 78 ++ List.replicate 6 0)) :: (daP d dw ++ (List.replicate 8 78 ++ tb r g)) :: pays r g := rfl
      have es : partsZ (pays ((ad, some d, aw, dw) :: r) g) = partZ (adP (ad, some d, aw, dw) ++ (List.replicate 8 78 ++ List.replicate 6 0)) ++ (partZ (daP d dw ++ (List.replicate 8 78 ++ tb r g)) ++ partsZ (pays r g)) := rfl
      have hrd := hread (List.replicate 8 78 ++ List.replicate 6 0) (partZ (daP d dw ++ (List.replicate 8 78 ++ tb r g)) ++ partsZ (pays r g))
      have hAl : (adP (ad, some d, aw, dw) ++ (List.replicate 8 78 ++ List.replicate 6 0)).length = 21 := by
        rw [List.length_append, hal]
        rfl
      have hq : (pre ++ partZ (adP (ad, some d, aw, dw) ++ (List.replicate 8 78 ++ List.replicate 6 0))).length = pre.length + 48 + 16 * 21 := by
        rw [List.length_append, partZ_len, hAl]
        try omega
      have hdl2 : (daP d dw).length = d.length + 3 := by unfold daP pairZ; simp
      have hdpb : Bytes (daP d dw) := daP_bytes hdb
      have hbd : ∀ n, n ≤ (daP d dw ++ (List.replicate 8 78 ++ tb r g)).length → behC (pre ++ (partZ (adP (ad, some d, aw, dw) ++ (List.replicate 8 78 ++ List.replicate 6 0)) ++ (partZ (daP d dw ++ (List.replicate 8 78 ++ tb r g)) ++ partsZ (pays r g)))) (pre.length + 48 + 16 * 21) n = mfmF 1 (bitsOf ((daP d dw ++ (List.replicate 8 78 ++ tb r g)).take n)) := fun n hn => by
        have := beh_part (pre := pre ++ partZ (adP (ad, some d, aw, dw) ++ (List.replicate 8 78 ++ List.replicate 6 0))) (P := daP d dw ++ (List.replicate 8 78 ++ tb r g)) (rest := partsZ (pays r g)) hn
        rw [hq, List.append_assoc] at this
        exact this
      rw [es, ep]
      show (match fnd1 _ pre.length (some (pre.length + 48 + 16 * (adP (ad, some d, aw, dw) ++ (List.replicate 8 78 ++ List.replicate 6 0)).length)) with | none => [] | some f => [f]) ++ ((match fnd1 _ (pre.length + 48 + 16 * (adP (ad, some d, aw, dw) ++ (List.replicate 8 78 ++ List.replicate 6 0)).length) (plc (pre.length + 48 + 16 * (adP (ad, some d, aw, dw) ++ (List.replicate 8 78 ++ List.replicate 6 0)).length + 48 + 16 * (daP d dw ++ (List.replicate 8 78 ++ tb r g)).length) (pays r g)).head? with | none => [] | some f => [f]) ++ fndL _ (plc (pre.length + 48 + 16 * (adP (ad, some d, aw, dw) ++ (List.replicate 8 78 ++ List.replicate 6 0)).length + 48 + 16 * (daP d dw ++ (List.replicate 8 78 ++ tb r g)).length) (pays r g))) = _
      rw [hAl]
      have hPl : (pre ++ (partZ (adP (ad, some d, aw, dw) ++ (List.replicate 8 78 ++ List.replicate 6 0)) ++ partZ (daP d dw ++ (List.replicate 8 78 ++ tb r g)))).length = pre.length + 48 + 16 * 21 + 48 + 16 * (daP d dw ++ (List.replicate 8 78 ++ tb r g)).length := by
        rw [List.length_append, List.length_append, partZ_len, partZ_len, hAl]
        omega
      have ih := due_stream g r (pre ++ (partZ (adP (ad, some d, aw, dw) ++ (List.replicate 8 78 ++ List.replicate 6 0)) ++ partZ (daP d dw ++ (List.replicate 8 78 ++ tb r g)))) hokr
      rw [hPl, List.append_assoc, List.append_assoc] at ih
      rw [ih]
      have h7 : 7 ≤ (daP d dw ++ (List.replicate 8 78 ++ tb r g)).length := by
        rw [List.length_append, List.length_append, List.length_replicate]
        omega
      have e2 : ∀ nx, fnd1 (pre ++ (partZ (adP (ad, some d, aw, dw) ++ (List.replicate 8 78 ++ List.replicate 6 0)) ++ (partZ (daP d dw ++ (List.replicate 8 78 ++ tb r g)) ++ partsZ (pays r g)))) (pre.length + 48 + 16 * 21) nx = none := fun nx => by
        unfold fnd1
        have hv : (valsB (behC (pre ++ (partZ (adP (ad, some d, aw, dw) ++ (List.replicate 8 78 ++ List.replicate 6 0)) ++ (partZ (daP d dw ++ (List.replicate 8 78 ++ tb r g)) ++ partsZ (pays r g)))) (pre.length + 48 + 16 * 21) 7)).getD 0 0 = 251 := by
          have := beh_first (pre := pre ++ partZ (adP (ad, some d, aw, dw) ++ (List.replicate 8 78 ++ List.replicate 6 0))) (P := daP d dw ++ (List.replicate 8 78 ++ tb r g)) (rest := partsZ (pays r g)) (n := 7) (b := 251) rfl (by decide) (by decide)
          rw [hq, List.append_assoc] at this
          exact this
        rw [if_pos (.inr (by rw [hv]; decide))]
      have hbz : behZ (pre ++ (partZ (adP (ad, some d, aw, dw) ++ (List.replicate 8 78 ++ List.replicate 6 0)) ++ (partZ (daP d dw ++ (List.replicate 8 78 ++ tb r g)) ++ partsZ (pays r g)))) z (pre.length + 160) (pre.length + 48 + 16 * 21) = (some d, !dw) := by
        unfold behZ
        rw [if_neg (by omega), ← hdl, hbd _ (by rw [List.length_append]; omega)]
        have ht : (daP d dw ++ (List.replicate 8 78 ++ tb r g)).take (d.length + 3) = daP d dw := by rw [← hdl2, List.take_left]
        have hv := vals_mfm hdpb
        unfold dtaOf
        rw [ht, hv.1, hv.2, ← hdl, if_neg (by rw [hdl2]; intro h; rcases h with h | h; · omega
                                              · exact h rfl)]
        have hd1 : ((daP d dw).drop 1).take d.length = d := by
          unfold daP
          show (d ++ pairZ _).take d.length = d
          rw [List.take_left]
        rw [hd1]
        have : fitsZ (daP d dw) = !dw := fits_eq (251 :: d) dw
        rw [this]
        rfl
      have e1 : fnd1 (pre ++ (partZ (adP (ad, some d, aw, dw) ++ (List.replicate 8 78 ++ List.replicate 6 0)) ++ (partZ (daP d dw ++ (List.replicate 8 78 ++ tb r g)) ++ partsZ (pays r g)))) pre.length (some (pre.length + 48 + 16 * 21)) = some (pre.length, ad, !aw, some d, !dw) := by
        unfold fnd1
        simp only [hrd]
        rw [if_neg (by rw [hal, hg0]; decide), h14, hfit, hg4, hbz]
      rw [e1, e2]
      show (pre.length, ad, !aw, some d, !dw) :: dueM _ r = (pre.length, ad, !aw, some d, true && !dw) :: dueM (pre.length + 160 + 128 + 128 + (96 + 16 * (6 + d.length)) + 96) r
      rw [Bool.true_and]
      cases r with
      | nil => rfl
      | cons s2 r2 =>
        have : pre.length + 48 + 16 * 21 + 48 + 16 * (daP d dw ++ (List.replicate 8 78 ++ tb (s2 :: r2) g)).length = pre.length + 160 + 128 + 128 + (96 + 16 * (6 + d.length)) + 96 := by
          rw [List.length_append, hdl2]
          simp [tb] <;> omega
        rw [this]
theorem found_track {ss : List Sec} (g : Nat) (hok : ∀ s ∈ ss, OkSec s) : foundZ (trackZ ss ++ gapZ g 0) = dueM 256 ss := by
  unfold foundZ
  rw [stream_track, mk_stream (pays_pos ss g), fndL_eq]
  cases ss with
  | nil => rfl
  | cons s r =>
    have h := due_stream g (s :: r) (mfmF 0 (bitsOf (List.replicate 10 78 ++ tb (s :: r) g))) hok
    have hl : (mfmF 0 (bitsOf (List.replicate 10 78 ++ tb (s :: r) g))).length = 256 := by rw [mfmB_len]; rfl
    have hl2 : 16 * (List.replicate 10 78 ++ tb (s :: r) g).length = 256 := rfl
    rw [hl] at h
    rw [hl2]
    exact h
def nx1 (n : Nat) (s : Sec) : Nat := n + 160 + 128 + 128 + (match s.2.1 with | none => 0 | some d => 96 + 16 * (6 + d.length)) + 96
def nxM (n : Nat) (ss : List Sec) : Nat := ss.foldl nx1 n
def due1 (n : Nat) (s : Sec) : Fnd := (n, s.1, !s.2.2.1, s.2.1, s.2.1.isSome && !s.2.2.2)
theorem dueM_app : ∀ (ss : List Sec) (n : Nat) (t : List Sec), dueM n (ss ++ t) = dueM n ss ++ dueM (nxM n ss) t
  | [], _, _ => rfl
  | s :: r, n, t => by
    have ih := dueM_app r (nx1 n s) t
    show due1 n s :: dueM (nx1 n s) (r ++ t) = due1 n s :: (dueM (nx1 n s) r ++ dueM (nxM (nx1 n s) r) t)
    rw [ih]
theorem dueM_more {ss : List Sec} {n i : Nat} {s : Sec} (h : ss[i]? = some s) : dueM n (ss.take (i + 1)) = dueM n (ss.take i) ++ [due1 (nxM n (ss.take i)) s] := by
  rw [take_more h, dueM_app]
  rfl
theorem nxM_more {ss : List Sec} {n i : Nat} {s : Sec} (h : ss[i]? = some s) : nxM n (ss.take (i + 1)) = nx1 (nxM n (ss.take i)) s := by
  unfold nxM
  rw [take_more h, List.foldl_append]
  rfl
theorem dueM_len : ∀ (ss : List Sec) (n : Nat), (dueM n ss).length = ss.length
  | [], _ => rfl
  | s :: r, n => by
    show (dueM _ r).length + 1 = _
    rw [dueM_len r, List.length_cons]
theorem mfmF_bits : ∀ (b : Int) (bs : List Int), (b = 0 ∨ b = 1) → Bits bs → Bits (mfmF b bs)
  | _, [], _, _ => fun x hx => by cases hx
  | b, c :: r, hb, hc => fun x hx => by
    have hc0 := hc c List.mem_cons_self
    rcases List.mem_cons.mp hx with e | e
    · subst e
      unfold clk
      split
      · exact .inr rfl
      · exact .inl rfl
    · rcases List.mem_cons.mp e with e | e
      · subst e; exact hc0
      · exact mfmF_bits c r hc0 (fun y hy => hc y (List.mem_cons_of_mem _ hy)) x e
theorem Bits.app {a b : List Int} (h1 : Bits a) (h2 : Bits b) : Bits (a ++ b) := fun x hx => (List.mem_append.mp hx).elim (h1 x) (h2 x)
theorem marks_bits : Bits marksZ := by
  intro x hx
  have : marksZ.all (fun x => x == 0 || x == 1) = true := by decide
  have := List.all_eq_true.mp this x hx
  simpa using this
theorem parts_bits : ∀ Ps : List (List Int), Bits (partsZ Ps)
  | [] => fun x hx => by cases hx
  | P :: r => by
    show Bits (partZ P ++ partsZ r)
    exact Bits.app (Bits.app marks_bits (mfmF_bits 1 _ (.inr rfl) (bitsOf_bits P))) (parts_bits r)
theorem track_bits (ss : List Sec) (g : Nat) : Bits (trackZ ss ++ gapZ g 0) := by
  rw [stream_track]
  exact Bits.app (mfmF_bits 0 _ (.inl rfl) (bitsOf_bits _)) (parts_bits _)
end Dw

/-! a track that is cut off -/
namespace Dw
open PySem PySem.Spec PyProof.Rows L2
theorem cutA_take {cs : List Int} {m a n : Nat} : cutA (cs.take m) a n = (cs.drop a).take (min n (m - a)) := by
  unfold cutA
  rw [List.drop_take, List.take_take]
theorem cutA_take_in {cs : List Int} {m a n : Nat} (h : a + n ≤ m) : cutA (cs.take m) a n = cutA cs a n := by
  rw [cutA_take, Nat.min_eq_left (by omega)]
  rfl
theorem mk_cut {P0 : List Int} {Ps : List (List Int)} (hP : ∀ P ∈ Ps, 0 < P.length) {m : Nat} (hm : ∀ p ∈ plc (16 * P0.length) Ps, p + 48 ≤ m) : mkZ ((mfmF 0 (bitsOf P0) ++ partsZ Ps).take m) = plc (16 * P0.length) Ps := by
  have hl : (mfmF 0 (bitsOf P0)).length = 16 * P0.length := by rw [mfmF_len, bitsOf_len]; omega
  have hin : ∀ p ∈ plc (16 * P0.length) Ps, p + 48 ≤ ((mfmF 0 (bitsOf P0) ++ partsZ Ps).take m).length := fun p hp => by
    have h1 := (plc_in Ps _ hP p hp).2
    have h2 := hm p hp
    rw [List.length_take, List.length_append, hl]
    omega
  refine mkFrom_eq (plc_gap Ps _ hP) (fun p hp => ⟨hin p hp, ?_⟩) (fun a h => ?_) _ 0 [] _ (Nat.le_refl _) rfl (fun q h => by cases h) (fun r _ => Nat.zero_le _)
  · rw [cutA_take_in (hm p hp)]
    rw [← hl] at hp
    exact plc_mark Ps _ p hp
  · refine mark_at hP ?_
    have h48 := congrArg List.length h
    rw [cutA_take, List.length_take, marksZ_len] at h48
    rw [← cutA_take_in (m := m) (by omega)]
    exact h
theorem found_cut {s : Sec} {d : List Int} (hok : OkSec s) (hd : s.2.1 = some d) {c : Nat} (hc : c ≤ 39) :
    foundZ ((trackZ [s]).take ((trackZ [s]).length - 128 - c)) = [(256, s.1, !s.2.2.1, if c = 0 then (some d, !s.2.2.2) else (none, false))] := by
  obtain ⟨ad, da, aw, dw⟩ := s
  have hd : da = some d := hd
  subst hd
  have h4 : ad.length = 4 := okSec_len hok
  obtain ⟨a, b, c3, z, had, hbad, hz5, hda⟩ := hok
  have hbad : Bytes ad := hbad
  have had : ad = [a, b, c3, z] := had
  obtain ⟨hdl, hdb⟩ := hda d rfl
  have hdl : d.length = 16 * 2 ^ z.toNat := hdl
  have hzb := hbad z (by rw [had]; simp)
  have h2z : 1 ≤ 2 ^ z.toNat := Nat.one_le_two_pow
  have e0 : trackZ [(ad, some d, aw, dw)] = mfmF 0 (bitsOf (List.replicate 10 78 ++ List.replicate 6 0)) ++ partsZ (pays [(ad, some d, aw, dw)] 0) := by
    have := stream_track [(ad, some d, aw, dw)] 0
    rw [show gapZ 0 0 = [] from rfl, List.append_nil] at this
    exact this
  have es : partsZ (pays [(ad, some d, aw, dw)] 0) = partZ (adP (ad, some d, aw, dw) ++ (List.replicate 8 78 ++ List.replicate 6 0)) ++ partZ (daP d dw ++ List.replicate 8 78) := by
    show partZ (adP (ad, some d, aw, dw) ++ (List.replicate 8 78 ++ List.replicate 6 0)) ++ (partZ (daP d dw ++ (List.replicate 8 78 ++ [])) ++ []) = _
    rw [List.append_nil, List.append_nil]
  have hal : (adP (ad, some d, aw, dw)).length = 7 := adP_len h4
  have hab : Bytes (adP (ad, some d, aw, dw)) := adP_bytes hbad
  have hfit : fitsZ (adP (ad, some d, aw, dw)) = !aw := fits_eq (254 :: ad) aw
  have h14 : ((adP (ad, some d, aw, dw)).drop 1).take 4 = ad := by
    unfold adP
    show (ad ++ pairZ _).take 4 = ad
    rw [← h4, List.take_left]
  have hg4 : (adP (ad, some d, aw, dw)).getD 4 0 = z := by
    unfold adP
    rw [had]
    rfl
  have hAl : (adP (ad, some d, aw, dw) ++ (List.replicate 8 78 ++ List.replicate 6 0)).length = 21 := by
    rw [List.length_append, hal]
    rfl
  have hdl2 : (daP d dw).length = d.length + 3 := by unfold daP pairZ; simp
  have hdpb : Bytes (daP d dw) := daP_bytes hdb
  have hpl : plc (16 * (List.replicate 10 (78 : Int) ++ List.replicate 6 0).length) (pays [(ad, some d, aw, dw)] 0) = [256, 640] := by
    show [256, 256 + 48 + 16 * (adP (ad, some d, aw, dw) ++ (List.replicate 8 78 ++ List.replicate 6 0)).length] = _
    rw [hAl]
  have hpre : (mfmF 0 (bitsOf (List.replicate 10 (78 : Int) ++ List.replicate 6 0))).length = 256 := by rw [mfmB_len]; rfl
  have hlen : (trackZ [(ad, some d, aw, dw)]).length = 688 + 16 * (d.length + 11) := by
    rw [e0, es, List.length_append, List.length_append, partZ_len, partZ_len, hAl, hpre, List.length_append, hdl2, List.length_replicate]
    omega
  have hm1 : ∀ p ∈ plc (16 * (List.replicate 10 (78 : Int) ++ List.replicate 6 0).length) (pays [(ad, some d, aw, dw)] 0), p + 48 ≤ (trackZ [(ad, some d, aw, dw)]).length - 128 - c := by
    rw [hpl, hlen]
    intro p hp
    have : p = 256 ∨ p = 640 := by simpa using hp
    omega
  have hmk := mk_cut (pays_pos [(ad, some d, aw, dw)] 0) hm1
  rw [← e0, hpl] at hmk
  unfold foundZ
  rw [hmk, fndL_eq]
  have hread : behC (trackZ [(ad, some d, aw, dw)]) 256 7 = mfmF 1 (bitsOf (adP (ad, some d, aw, dw))) := by
    rw [e0, es, ← hpre, beh_part (by rw [hAl]; decide), ← hal, List.take_left]
  have hq : (mfmF 0 (bitsOf (List.replicate 10 (78 : Int) ++ List.replicate 6 0)) ++ partZ (adP (ad, some d, aw, dw) ++ (List.replicate 8 78 ++ List.replicate 6 0))).length = 640 := by
    rw [List.length_append, partZ_len, hAl, hpre]
  have hbd : ∀ n, n ≤ (daP d dw ++ List.replicate 8 78).length → behC (trackZ [(ad, some d, aw, dw)]) 640 n = mfmF 1 (bitsOf ((daP d dw ++ List.replicate 8 78).take n)) := fun n hn => by
    have := beh_part (pre := mfmF 0 (bitsOf (List.replicate 10 (78 : Int) ++ List.replicate 6 0)) ++ partZ (adP (ad, some d, aw, dw) ++ (List.replicate 8 78 ++ List.replicate 6 0))) (P := daP d dw ++ List.replicate 8 78) (rest := []) hn
    rw [hq, List.append_nil, List.append_assoc] at this
    rw [e0, es]
    exact this
  rw [hlen]
  generalize trackZ [(ad, some d, aw, dw)] = cs at *
  have hr1 : behC (cs.take (688 + 16 * (d.length + 11) - 128 - c)) 256 7 = mfmF 1 (bitsOf (adP (ad, some d, aw, dw))) := by
    rw [← hread]
    exact cutA_take_in (by omega)
  have hr2 : (valsB (behC (cs.take (688 + 16 * (d.length + 11) - 128 - c)) 640 7)).getD 0 0 = 251 := by
    have e : behC (cs.take (688 + 16 * (d.length + 11) - 128 - c)) 640 7 = behC cs 640 7 := cutA_take_in (by omega)
    rw [e, hbd 7 (by rw [List.length_append, List.length_replicate]; omega)]
    have hb7 : Bytes ((daP d dw ++ List.replicate 8 78).take 7) := fun x hx => by
      rcases List.mem_append.mp (List.mem_of_mem_take hx) with h | h
      · exact hdpb x h
      · have := List.eq_of_mem_replicate h
        omega
    rw [(vals_mfm hb7).1]
    rfl
  have hr3 : behZ (cs.take (688 + 16 * (d.length + 11) - 128 - c)) z (256 + 160) 640 = if c = 0 then (some d, !dw) else (none, false) := by
    unfold behZ
    rw [if_neg (by omega), ← hdl]
    have hb3 := hbd (d.length + 3) (by rw [List.length_append]; omega)
    have ht : (daP d dw ++ List.replicate 8 78).take (d.length + 3) = daP d dw := by rw [← hdl2, List.take_left]
    rw [ht] at hb3
    have e : behC (cs.take (688 + 16 * (d.length + 11) - 128 - c)) 640 (d.length + 3) = (mfmF 1 (bitsOf (daP d dw))).take (16 * (d.length + 3) - c) := by
      rw [← hb3]
      unfold behC
      rw [cutA_take]
      unfold cutA
      rw [List.take_take]
      congr 1
      omega
    rw [e]
    by_cases c0 : c = 0
    · subst c0
      rw [if_pos rfl, List.take_of_length_le (by rw [mfmB_len, hdl2]; omega)]
      have hv := vals_mfm hdpb
      have hx : ¬ ((daP d dw).length < d.length + 3 ∨ (daP d dw).getD 0 0 ≠ 251) := fun h => by
        rcases h with h | h
        · omega
        · exact h rfl
      unfold dtaOf
      rw [hv.1, hv.2, ← hdl, if_neg hx]
      have hd1 : ((daP d dw).drop 1).take d.length = d := by
        unfold daP
        show (d ++ pairZ _).take d.length = d
        rw [List.take_left]
      have : fitsZ (daP d dw) = !dw := fits_eq (251 :: d) dw
      rw [hd1, this]
      rfl
    · rw [if_neg c0]
      unfold dtaOf
      rw [valsB_len, List.length_take, mfmB_len, hdl2, ← hdl, if_pos (.inl (by omega))]
  have f1 : fnd1 (cs.take (688 + 16 * (d.length + 11) - 128 - c)) 256 (some 640) = some (256, ad, !aw, if c = 0 then (some d, !dw) else (none, false)) := by
    unfold fnd1
    have hv := vals_mfm hab
    rw [hr1, hv.1]
    show (if (adP (ad, some d, aw, dw)).length < 7 ∨ (adP (ad, some d, aw, dw)).getD 0 0 ≠ 254 then none else some (256, ((adP (ad, some d, aw, dw)).drop 1).take 4, fitsZ (adP (ad, some d, aw, dw)), behZ (cs.take (688 + 16 * (d.length + 11) - 128 - c)) ((adP (ad, some d, aw, dw)).getD 4 0) (256 + 160) 640)) = _
    rw [if_neg (fun h => h.elim (fun h => by omega) (fun h => h rfl)), h14, hfit, hg4, hr3]
  have f2 : fnd1 (cs.take (688 + 16 * (d.length + 11) - 128 - c)) 640 none = none := by
    unfold fnd1
    rw [if_pos (.inr (by rw [hr2]; decide))]
  show (match fnd1 (cs.take (688 + 16 * (d.length + 11) - 128 - c)) 256 (some 640) with | none => [] | some f => [f]) ++ ((match fnd1 (cs.take (688 + 16 * (d.length + 11) - 128 - c)) 640 none with | none => [] | some f => [f]) ++ []) = _
  rw [f1, f2]
  rfl
theorem cutI_upto (ns : List Int) (b : Nat) : cutI ns none (some (b : Int)) = ns.take b := by
  unfold cutI
  rw [sIx_nat]
  show (ns.drop 0).take (min b ns.length - 0) = _
  rw [List.drop_zero, Nat.sub_zero]
  by_cases h : b ≤ ns.length
  · rw [Nat.min_eq_left h]
  · rw [Nat.min_eq_right (by omega), List.take_of_length_le (Nat.le_refl _), List.take_of_length_le (by omega)]
theorem dueM_at : ∀ {ss : List Sec} {i : Nat} {s : Sec} (n : Nat), ss[i]? = some s → (dueM n ss)[i]? = some (due1 (nxM n (ss.take i)) s)
  | [], _, _, _, h => by simp at h
  | t :: r, 0, s, n, h => by
    have h : t = s := Option.some.inj h
    subst h
    rfl
  | t :: r, i + 1, s, n, h => dueM_at (ss := r) (nx1 n t) h
end Dw

/-! tracks as flux -/
namespace Dw
open PySem PySem.Spec PyProof.Rows L2
theorem mfm_end0 : ∀ (bs : List Int) (l n : Nat), (∀ b ∈ bs, b = 0 ∨ b = 1) → l < 2 → n < 3 → (l = 1 → n = 0) → endR 0 n (mfmF (l : Int) bs) < 3
  | [], l, n, _, _, hn, _ => hn
  | b :: r, l, n, hb, hl, hn, hln => by
    obtain ⟨m, hm, rfl⟩ : ∃ m : Nat, m < 2 ∧ b = (m : Int) := by
      rcases hb b List.mem_cons_self with rfl | rfl
      · exact ⟨0, by decide, rfl⟩
      · exact ⟨1, by decide, rfl⟩
    obtain ⟨h1, h2, h3⟩ := (mfm0 l hl m hm n hn).resolve_left fun h => h.2 (hln h.1)
    have e : mfmF (l : Int) ((m : Int) :: r) = [clk (l : Int) (m : Int), (m : Int)] ++ mfmF (m : Int) r := rfl
    rw [e, endR_append]
    exact mfm_end0 r m _ (fun x hx => hb x (List.mem_cons_of_mem _ hx)) hm h2 fun e => h3.resolve_left fun q => q e
theorem marks_run : ∀ n, n < 3 → okR 0 4 n marksZ = true ∧ endR 0 n marksZ = 0 := by decide +kernel
theorem parts_run : ∀ (Ps : List (List Int)) (n : Nat), n < 3 → okR 0 4 n (partsZ Ps) = true
  | [], n, h => decide_eq_true (by omega)
  | P :: r, n, h => by
    have hm := marks_run n h
    have h1 := mfm_run0 (bitsOf P) 1 0 (bitsOf_bits P) (by decide) (by decide) (fun _ => rfl)
    have h2 := mfm_end0 (bitsOf P) 1 0 (bitsOf_bits P) (by decide) (by decide) (fun _ => rfl)
    have e : partsZ (P :: r) = marksZ ++ (mfmF 1 (bitsOf P) ++ partsZ r) := by
      unfold partsZ
      rw [List.flatMap_cons]
      unfold partZ
      rw [List.append_assoc]
    rw [e]
    refine okR_append _ _ _ _ _ hm.1 ?_
    rw [hm.2]
    exact okR_append _ _ _ _ _ h1 (parts_run r _ h2)
theorem track_run (ss : List Sec) (g : Nat) : okR 0 4 0 (trackZ ss ++ gapZ g 0) = true := by
  rw [stream_track]
  have h1 := mfm_run0 (bitsOf (List.replicate 10 78 ++ tb ss g)) 0 0 (bitsOf_bits _) (by decide) (by decide) (fun _ => rfl)
  have h2 := mfm_end0 (bitsOf (List.replicate 10 78 ++ tb ss g)) 0 0 (bitsOf_bits _) (by decide) (by decide) (fun _ => rfl)
  exact okR_append _ _ _ _ _ h1 (parts_run _ _ h2)
theorem flux_runs {c : Int} {k : Nat} : ∀ (cells : List Int) (n : Nat) (acc : List Int), Bits cells → okR 0 k n cells = true → (∀ t ∈ acc, ∃ m : Int, 1 ≤ m ∧ m ≤ k ∧ t = c * m) →
    (∀ t ∈ (cells.foldl (fluxT c) (acc, (n : Int))).1, ∃ m : Int, 1 ≤ m ∧ m ≤ k ∧ t = c * m) ∧ 0 ≤ (cells.foldl (fluxT c) (acc, (n : Int))).2 ∧ (cells.foldl (fluxT c) (acc, (n : Int))).2 < k
  | [], n, acc, _, h, ha => ⟨ha, by show 0 ≤ (n : Int); omega, by have := of_decide_eq_true (show decide (n < k) = true from h); show (n : Int) < k; omega⟩
  | b :: r, n, acc, hb, h, ha => by
    have h : (decide (n < k) && okR 0 k (if b = 0 then n + 1 else 0) r) = true := h
    rw [Bool.and_eq_true, decide_eq_true_eq] at h
    have hbr : Bits r := fun x hx => hb x (List.mem_cons_of_mem _ hx)
    rcases hb b List.mem_cons_self with rfl | rfl
    · have := flux_runs r (n + 1) acc hbr h.2 ha
      exact this
    · refine flux_runs r 0 (acc ++ [c * ((n : Int) + 1)]) hbr h.2 fun t ht => ?_
      rcases List.mem_append.mp ht with h1 | h1
      · exact ha t h1
      · exact ⟨(n : Int) + 1, by omega, by omega, List.mem_singleton.mp h1⟩
theorem track_flux {c : Int} (ss : List Sec) (g : Nat) : (∀ t ∈ (fluxS c (trackZ ss ++ gapZ g 0)).1, ∃ m : Int, 1 ≤ m ∧ m ≤ 4 ∧ t = c * m) ∧ 0 ≤ (fluxS c (trackZ ss ++ gapZ g 0)).2 ∧ (fluxS c (trackZ ss ++ gapZ g 0)).2 < 4 :=
  flux_runs (k := 4) _ 0 [] (track_bits ss g) (track_run ss g) (fun t h => by cases h)
end Dw

namespace K20
open PySem PySem.Spec PyProof.Rows L2 Dw
def topS (i : Nat) : Stmt := PySem.Challenge.pw_discwright_k20_whole_sectors_through_flu.main.body.getD i (.Pass ⟨0, 0, 0, 0⟩)
abbrev s_byte_bits : Stmt := topS 7
abbrev n_byte_bits : List Str := ["value", "shift"]
theorem sc_byte_bits : FnScope n_byte_bits ["value"] (defScope s_byte_bits) := ⟨rfl, rfl, rfl, by decide +kernel, rfl, by decide +kernel, by decide +kernel⟩
abbrev s_bits_byte : Stmt := topS 8
abbrev n_bits_byte : List Str := ["bits", "value", "bit"]
theorem sc_bits_byte : FnScope n_bits_byte ["bits"] (defScope s_bits_byte) := ⟨rfl, rfl, rfl, by decide +kernel, rfl, by decide +kernel, by decide +kernel⟩
abbrev s_are_bytes : Stmt := topS 9
abbrev n_are_bytes : List Str := ["values", "value"]
theorem sc_are_bytes : FnScope n_are_bytes ["values"] (defScope s_are_bytes) := ⟨rfl, rfl, rfl, by decide +kernel, rfl, by decide +kernel, by decide +kernel⟩
abbrev s_exclusive : Stmt := topS 10
abbrev n_exclusive : List Str := ["first", "second"]
theorem sc_exclusive : FnScope n_exclusive ["first", "second"] (defScope s_exclusive) := ⟨rfl, rfl, rfl, by decide +kernel, rfl, by decide +kernel, by decide +kernel⟩
abbrev s_crc : Stmt := topS 11
abbrev n_crc : List Str := ["values", "number", "value", "taken"]
theorem sc_crc : FnScope n_crc ["values"] (defScope s_crc) := ⟨rfl, rfl, rfl, by decide +kernel, rfl, by decide +kernel, by decide +kernel⟩
abbrev s_two_bytes : Stmt := topS 12
abbrev n_two_bytes : List Str := ["number"]
theorem sc_two_bytes : FnScope n_two_bytes ["number"] (defScope s_two_bytes) := ⟨rfl, rfl, rfl, by decide +kernel, rfl, by decide +kernel, by decide +kernel⟩
abbrev s_all_bits : Stmt := topS 14
abbrev n_all_bits : List Str := ["values", "bits", "value"]
theorem sc_all_bits : FnScope n_all_bits ["values"] (defScope s_all_bits) := ⟨rfl, rfl, rfl, by decide +kernel, rfl, by decide +kernel, by decide +kernel⟩
abbrev s_bytes_of_bits : Stmt := topS 15
abbrev n_bytes_of_bits : List Str := ["bits", "at"]
theorem sc_bytes_of_bits : FnScope n_bytes_of_bits ["bits"] (defScope s_bytes_of_bits) := ⟨rfl, rfl, rfl, by decide +kernel, rfl, by decide +kernel, by decide +kernel⟩
abbrev s_whole_bytes : Stmt := topS 16
abbrev n_whole_bytes : List Str := ["cells", "count"]
theorem sc_whole_bytes : FnScope n_whole_bytes ["cells", "count"] (defScope s_whole_bytes) := ⟨rfl, rfl, rfl, by decide +kernel, rfl, by decide +kernel, by decide +kernel⟩
abbrev s_mfm_clock : Stmt := topS 17
abbrev n_mfm_clock : List Str := ["last", "bit"]
theorem sc_mfm_clock : FnScope n_mfm_clock ["last", "bit"] (defScope s_mfm_clock) := ⟨rfl, rfl, rfl, by decide +kernel, rfl, by decide +kernel, by decide +kernel⟩
abbrev s_mfm_cells : Stmt := topS 18
abbrev n_mfm_cells : List Str := ["values", "before", "cells", "last", "bit"]
theorem sc_mfm_cells : FnScope n_mfm_cells ["values", "before"] (defScope s_mfm_cells) := ⟨rfl, rfl, rfl, by decide +kernel, rfl, by decide +kernel, by decide +kernel⟩
abbrev s_read_mfm : Stmt := topS 19
abbrev n_read_mfm : List Str := ["cells", "before", "whole", "bits", "faults", "last", "at", "clock"]
theorem sc_read_mfm : FnScope n_read_mfm ["cells", "before"] (defScope s_read_mfm) := ⟨rfl, rfl, rfl, by decide +kernel, rfl, by decide +kernel, by decide +kernel⟩
abbrev s_Sectorinit : Stmt := inClass (topS 29) 0
abbrev n_Sectorinit : List Str := ["self", "address", "data", "address_wrong", "data_wrong"]
theorem sc_Sectorinit : FnScope n_Sectorinit ["self", "address", "data", "address_wrong", "data_wrong"] (defScope s_Sectorinit) := ⟨rfl, rfl, rfl, by decide +kernel, rfl, by decide +kernel, by decide +kernel⟩
abbrev s_Sectoreq : Stmt := inClass (topS 29) 1
abbrev n_Sectoreq : List Str := ["self", "other"]
theorem sc_Sectoreq : FnScope n_Sectoreq ["self", "other"] (defScope s_Sectoreq) := ⟨rfl, rfl, rfl, by decide +kernel, rfl, by decide +kernel, by decide +kernel⟩
abbrev s_data_length : Stmt := topS 30
abbrev n_data_length : List Str := ["size"]
theorem sc_data_length : FnScope n_data_length ["size"] (defScope s_data_length) := ⟨rfl, rfl, rfl, by decide +kernel, rfl, by decide +kernel, by decide +kernel⟩
abbrev s_is_sector : Stmt := topS 31
abbrev n_is_sector : List Str := ["sector"]
theorem sc_is_sector : FnScope n_is_sector ["sector"] (defScope s_is_sector) := ⟨rfl, rfl, rfl, by decide +kernel, rfl, by decide +kernel, by decide +kernel⟩
abbrev s_check_sectors : Stmt := topS 32
abbrev n_check_sectors : List Str := ["sectors", "index", "sector"]
theorem sc_check_sectors : FnScope n_check_sectors ["sectors"] (defScope s_check_sectors) := ⟨rfl, rfl, rfl, by decide +kernel, rfl, by decide +kernel, by decide +kernel⟩
abbrev s_track_bytes : Stmt := topS 33
abbrev n_track_bytes : List Str := ["sectors", "count", "sector"]
theorem sc_track_bytes : FnScope n_track_bytes ["sectors"] (defScope s_track_bytes) := ⟨rfl, rfl, rfl, by decide +kernel, rfl, by decide +kernel, by decide +kernel⟩
abbrev s_gap_cells : Stmt := topS 34
abbrev n_gap_cells : List Str := ["count", "before"]
theorem sc_gap_cells : FnScope n_gap_cells ["count", "before"] (defScope s_gap_cells) := ⟨rfl, rfl, rfl, by decide +kernel, rfl, by decide +kernel, by decide +kernel⟩
abbrev s_field_cells : Stmt := topS 35
abbrev n_field_cells : List Str := ["values", "wrong", "check"]
theorem sc_field_cells : FnScope n_field_cells ["values", "wrong"] (defScope s_field_cells) := ⟨rfl, rfl, rfl, by decide +kernel, rfl, by decide +kernel, by decide +kernel⟩
abbrev s_track_cells : Stmt := topS 36
abbrev n_track_cells : List Str := ["sectors", "length", "missing", "cells", "sector"]
theorem sc_track_cells : FnScope n_track_cells ["sectors", "length"] (defScope s_track_cells) := ⟨rfl, rfl, rfl, by decide +kernel, rfl, by decide +kernel, by decide +kernel⟩
abbrev s_mark_places : Stmt := topS 37
abbrev n_mark_places : List Str := ["cells", "marks", "places", "at"]
theorem sc_mark_places : FnScope n_mark_places ["cells"] (defScope s_mark_places) := ⟨rfl, rfl, rfl, by decide +kernel, rfl, by decide +kernel, by decide +kernel⟩
abbrev s_read_behind : Stmt := topS 38
abbrev n_read_behind : List Str := ["cells", "place", "count", "start"]
theorem sc_read_behind : FnScope n_read_behind ["cells", "place", "count"] (defScope s_read_behind) := ⟨rfl, rfl, rfl, by decide +kernel, rfl, by decide +kernel, by decide +kernel⟩
abbrev s_crc_fits : Stmt := topS 39
abbrev n_crc_fits : List Str := ["values"]
theorem sc_crc_fits : FnScope n_crc_fits ["values"] (defScope s_crc_fits) := ⟨rfl, rfl, rfl, by decide +kernel, rfl, by decide +kernel, by decide +kernel⟩
abbrev s_data_behind : Stmt := topS 40
abbrev n_data_behind : List Str := ["cells", "size", "end", "place", "length", "values", "faults"]
theorem sc_data_behind : FnScope n_data_behind ["cells", "size", "end", "place"] (defScope s_data_behind) := ⟨rfl, rfl, rfl, by decide +kernel, rfl, by decide +kernel, by decide +kernel⟩
abbrev s_found_sectors : Stmt := topS 41
abbrev n_found_sectors : List Str := ["cells", "places", "found", "at", "place", "values", "_", "address", "data", "data_good", "end"]
theorem sc_found_sectors : FnScope n_found_sectors ["cells"] (defScope s_found_sectors) := ⟨rfl, rfl, rfl, by decide +kernel, rfl, by decide +kernel, by decide +kernel⟩
abbrev s_Readinit : Stmt := inClass (topS 47) 0
abbrev n_Readinit : List Str := ["self", "intervals", "rest", "ticks"]
theorem sc_Readinit : FnScope n_Readinit ["self", "intervals", "rest"] (defScope s_Readinit) := ⟨rfl, rfl, rfl, by decide +kernel, rfl, by decide +kernel, by decide +kernel⟩
abbrev s_is_cell : Stmt := topS 48
abbrev n_is_cell : List Str := ["cell"]
theorem sc_is_cell : FnScope n_is_cell ["cell"] (defScope s_is_cell) := ⟨rfl, rfl, rfl, by decide +kernel, rfl, by decide +kernel, by decide +kernel⟩
abbrev s_check_cell : Stmt := topS 49
abbrev n_check_cell : List Str := ["cell"]
theorem sc_check_cell : FnScope n_check_cell ["cell"] (defScope s_check_cell) := ⟨rfl, rfl, rfl, by decide +kernel, rfl, by decide +kernel, by decide +kernel⟩
abbrev s_flux_of : Stmt := topS 50
abbrev n_flux_of : List Str := ["cells", "cell", "intervals", "count", "bit"]
theorem sc_flux_of : FnScope n_flux_of ["cells", "cell"] (defScope s_flux_of) := ⟨rfl, rfl, rfl, by decide +kernel, rfl, by decide +kernel, by decide +kernel⟩
abbrev s_fixed_cells : Stmt := topS 51
abbrev n_fixed_cells : List Str := ["read", "cell", "cells", "ticks", "count"]
theorem sc_fixed_cells : FnScope n_fixed_cells ["read", "cell"] (defScope s_fixed_cells) := ⟨rfl, rfl, rfl, by decide +kernel, rfl, by decide +kernel, by decide +kernel⟩
abbrev s_law_cell : Stmt := topS 53
abbrev n_law_cell : List Str := ["script", "k"]
theorem sc_law_cell : FnScope n_law_cell ["script", "k"] (defScope s_law_cell) := ⟨rfl, rfl, rfl, by decide +kernel, rfl, by decide +kernel, by decide +kernel⟩
abbrev s_law_draws : Stmt := topS 54
abbrev n_law_draws : List Str := ["cell", "count", "rows", "left", "k", "mixed"]
theorem sc_law_draws : FnScope n_law_draws ["cell", "count"] (defScope s_law_draws) := ⟨rfl, rfl, rfl, by decide +kernel, rfl, by decide +kernel, by decide +kernel⟩
abbrev s_law_is_int : Stmt := topS 55
abbrev n_law_is_int : List Str := ["x"]
theorem sc_law_is_int : FnScope n_law_is_int ["x"] (defScope s_law_is_int) := ⟨rfl, rfl, rfl, by decide +kernel, rfl, by decide +kernel, by decide +kernel⟩
abbrev s_law_ints : Stmt := topS 56
abbrev n_law_ints : List Str := ["x", "kind", "k"]
theorem sc_law_ints : FnScope n_law_ints ["x", "kind"] (defScope s_law_ints) := ⟨rfl, rfl, rfl, by decide +kernel, rfl, by decide +kernel, by decide +kernel⟩
abbrev s_law_is_tuple : Stmt := topS 57
abbrev n_law_is_tuple : List Str := ["x", "due"]
theorem sc_law_is_tuple : FnScope n_law_is_tuple ["x", "due"] (defScope s_law_is_tuple) := ⟨rfl, rfl, rfl, by decide +kernel, rfl, by decide +kernel, by decide +kernel⟩
abbrev s_law_data : Stmt := topS 58
abbrev n_law_data : List Str := ["draws", "at", "count", "k"]
theorem sc_law_data : FnScope n_law_data ["draws", "at", "count"] (defScope s_law_data) := ⟨rfl, rfl, rfl, by decide +kernel, rfl, by decide +kernel, by decide +kernel⟩
abbrev s_law_sectors : Stmt := topS 59
abbrev n_law_sectors : List Str := ["draws", "at", "many", "track", "found", "k", "d", "size", "address", "data"]
theorem sc_law_sectors : FnScope n_law_sectors ["draws", "at", "many", "track"] (defScope s_law_sectors) := ⟨rfl, rfl, rfl, by decide +kernel, rfl, by decide +kernel, by decide +kernel⟩
abbrev s_law_made : Stmt := topS 60
abbrev n_law_made : List Str := ["sectors", "address", "data", "one", "two"]
theorem sc_law_made : FnScope n_law_made ["sectors"] (defScope s_law_made) := ⟨rfl, rfl, rfl, by decide +kernel, rfl, by decide +kernel, by decide +kernel⟩
abbrev s_law : Stmt := topS 61
abbrev n_law : List Str := ["script", "draws", "sectors", "cells", "cell", "read", "most", "rows", "k", "found", "address", "data", "one", "two"]
theorem sc_law : FnScope n_law ["script"] (defScope s_law) := ⟨rfl, rfl, rfl, by decide +kernel, rfl, by decide +kernel, by decide +kernel⟩
/-- where the defs stand -/
structure Ad where
  f_byte_bits : Addr
  d_byte_bits : FuncData
  f_bits_byte : Addr
  d_bits_byte : FuncData
  f_are_bytes : Addr
  d_are_bytes : FuncData
  f_exclusive : Addr
  d_exclusive : FuncData
  f_crc : Addr
  d_crc : FuncData
  f_two_bytes : Addr
  d_two_bytes : FuncData
  f_all_bits : Addr
  d_all_bits : FuncData
  f_bytes_of_bits : Addr
  d_bytes_of_bits : FuncData
  f_whole_bytes : Addr
  d_whole_bytes : FuncData
  f_mfm_clock : Addr
  d_mfm_clock : FuncData
  f_mfm_cells : Addr
  d_mfm_cells : FuncData
  e_mfm_cells : List Value
  f_read_mfm : Addr
  d_read_mfm : FuncData
  e_read_mfm : List Value
  f_Sectorinit : Addr
  d_Sectorinit : FuncData
  e_Sectorinit : List Value
  f_Sectoreq : Addr
  d_Sectoreq : FuncData
  f_data_length : Addr
  d_data_length : FuncData
  f_is_sector : Addr
  d_is_sector : FuncData
  f_check_sectors : Addr
  d_check_sectors : FuncData
  f_track_bytes : Addr
  d_track_bytes : FuncData
  f_gap_cells : Addr
  d_gap_cells : FuncData
  f_field_cells : Addr
  d_field_cells : FuncData
  f_track_cells : Addr
  d_track_cells : FuncData
  e_track_cells : List Value
  f_mark_places : Addr
  d_mark_places : FuncData
  f_read_behind : Addr
  d_read_behind : FuncData
  f_crc_fits : Addr
  d_crc_fits : FuncData
  f_data_behind : Addr
  d_data_behind : FuncData
  f_found_sectors : Addr
  d_found_sectors : FuncData
  f_Readinit : Addr
  d_Readinit : FuncData
  f_is_cell : Addr
  d_is_cell : FuncData
  f_check_cell : Addr
  d_check_cell : FuncData
  f_flux_of : Addr
  d_flux_of : FuncData
  f_fixed_cells : Addr
  d_fixed_cells : FuncData
  f_law_cell : Addr
  d_law_cell : FuncData
  f_law_draws : Addr
  d_law_draws : FuncData
  f_law_is_int : Addr
  d_law_is_int : FuncData
  f_law_ints : Addr
  d_law_ints : FuncData
  f_law_is_tuple : Addr
  d_law_is_tuple : FuncData
  f_law_data : Addr
  d_law_data : FuncData
  f_law_sectors : Addr
  d_law_sectors : FuncData
  f_law_made : Addr
  d_law_made : FuncData
  f_law : Addr
  d_law : FuncData
  u_ADDRESS_BYTE : Value
  u_DATA_BYTE : Value
  u_GREATEST_SIZE : Value
  u_MARKS_LENGTH : Value
  u_ADDRESS_LENGTH : Value
  u_FARTHEST_DATA : Value
  u_MOST_INTERVALS : Value
  u_MOST_TICKS : Value
  u_LEAST_CELL : Value
  u_GREATEST_CELL : Value
  c_Sector : Addr
  c_Read : Addr
  c_InvalidRead : Addr
  c_InvalidCell : Addr
  c_MARK : Addr
  c_MARK_BYTES : Addr
/-- what the top has written -/
structure Tx (K : PySem.W.Frag) (mg : Str → Option Value) (A : Ad) : Prop where
  F_byte_bits : Fun K "byte_bits" "byte_bits" s_byte_bits A.f_byte_bits A.d_byte_bits
  b_byte_bits : Binds K A.d_byte_bits ["value"] []
  g_byte_bits : mg "byte_bits" = some (.ref A.f_byte_bits)
  F_bits_byte : Fun K "bits_byte" "bits_byte" s_bits_byte A.f_bits_byte A.d_bits_byte
  b_bits_byte : Binds K A.d_bits_byte ["bits"] []
  g_bits_byte : mg "bits_byte" = some (.ref A.f_bits_byte)
  F_are_bytes : Fun K "are_bytes" "are_bytes" s_are_bytes A.f_are_bytes A.d_are_bytes
  b_are_bytes : Binds K A.d_are_bytes ["values"] []
  g_are_bytes : mg "are_bytes" = some (.ref A.f_are_bytes)
  F_exclusive : Fun K "exclusive" "exclusive" s_exclusive A.f_exclusive A.d_exclusive
  b_exclusive : Binds K A.d_exclusive ["first", "second"] []
  g_exclusive : mg "exclusive" = some (.ref A.f_exclusive)
  F_crc : Fun K "crc" "crc" s_crc A.f_crc A.d_crc
  b_crc : Binds K A.d_crc ["values"] []
  g_crc : mg "crc" = some (.ref A.f_crc)
  F_two_bytes : Fun K "two_bytes" "two_bytes" s_two_bytes A.f_two_bytes A.d_two_bytes
  b_two_bytes : Binds K A.d_two_bytes ["number"] []
  g_two_bytes : mg "two_bytes" = some (.ref A.f_two_bytes)
  F_all_bits : Fun K "all_bits" "all_bits" s_all_bits A.f_all_bits A.d_all_bits
  b_all_bits : Binds K A.d_all_bits ["values"] []
  g_all_bits : mg "all_bits" = some (.ref A.f_all_bits)
  F_bytes_of_bits : Fun K "bytes_of_bits" "bytes_of_bits" s_bytes_of_bits A.f_bytes_of_bits A.d_bytes_of_bits
  b_bytes_of_bits : Binds K A.d_bytes_of_bits ["bits"] []
  g_bytes_of_bits : mg "bytes_of_bits" = some (.ref A.f_bytes_of_bits)
  F_whole_bytes : Fun K "whole_bytes" "whole_bytes" s_whole_bytes A.f_whole_bytes A.d_whole_bytes
  b_whole_bytes : Binds K A.d_whole_bytes ["cells", "count"] []
  g_whole_bytes : mg "whole_bytes" = some (.ref A.f_whole_bytes)
  F_mfm_clock : Fun K "mfm_clock" "mfm_clock" s_mfm_clock A.f_mfm_clock A.d_mfm_clock
  b_mfm_clock : Binds K A.d_mfm_clock ["last", "bit"] []
  g_mfm_clock : mg "mfm_clock" = some (.ref A.f_mfm_clock)
  F_mfm_cells : FunD K "mfm_cells" "mfm_cells" (defArgs s_mfm_cells) (defBody s_mfm_cells) (defScope s_mfm_cells) [] [("before", .int 0)] A.f_mfm_cells A.d_mfm_cells
  v_mfm_cells : Vals [.int 0] A.e_mfm_cells
  b_mfm_cells : Binds K A.d_mfm_cells ["values", "before"] A.e_mfm_cells
  kb_mfm_cells : KBn K A.d_mfm_cells ["values", "before"] 1 ["before"] (fun us ws => us ++ ws) (fun vs zs => vs ++ zs)
  g_mfm_cells : mg "mfm_cells" = some (.ref A.f_mfm_cells)
  F_read_mfm : FunD K "read_mfm" "read_mfm" (defArgs s_read_mfm) (defBody s_read_mfm) (defScope s_read_mfm) [] [("before", .int 0)] A.f_read_mfm A.d_read_mfm
  v_read_mfm : Vals [.int 0] A.e_read_mfm
  b_read_mfm : Binds K A.d_read_mfm ["cells", "before"] A.e_read_mfm
  kb_read_mfm : KBn K A.d_read_mfm ["cells", "before"] 1 ["before"] (fun us ws => us ++ ws) (fun vs zs => vs ++ zs)
  g_read_mfm : mg "read_mfm" = some (.ref A.f_read_mfm)
  F_Sectorinit : FunD K "__init__" "Sector.__init__" (defArgs s_Sectorinit) (defBody s_Sectorinit) (defScope s_Sectorinit) [] [("address_wrong", .bl false), ("data_wrong", .bl false)] A.f_Sectorinit A.d_Sectorinit
  v_Sectorinit : Vals [.bl false, .bl false] A.e_Sectorinit
  b_Sectorinit : Binds K A.d_Sectorinit ["self", "address", "data", "address_wrong", "data_wrong"] A.e_Sectorinit
  kb_Sectorinit : KBn K A.d_Sectorinit ["self", "address", "data", "address_wrong", "data_wrong"] 3 ["address_wrong", "data_wrong"] (fun us ws => us ++ ws) (fun vs zs => vs ++ zs)
  F_Sectoreq : Fun K "__eq__" "Sector.__eq__" s_Sectoreq A.f_Sectoreq A.d_Sectoreq
  b_Sectoreq : Binds K A.d_Sectoreq ["self", "other"] []
  F_data_length : Fun K "data_length" "data_length" s_data_length A.f_data_length A.d_data_length
  b_data_length : Binds K A.d_data_length ["size"] []
  g_data_length : mg "data_length" = some (.ref A.f_data_length)
  F_is_sector : Fun K "is_sector" "is_sector" s_is_sector A.f_is_sector A.d_is_sector
  b_is_sector : Binds K A.d_is_sector ["sector"] []
  g_is_sector : mg "is_sector" = some (.ref A.f_is_sector)
  F_check_sectors : Fun K "check_sectors" "check_sectors" s_check_sectors A.f_check_sectors A.d_check_sectors
  b_check_sectors : Binds K A.d_check_sectors ["sectors"] []
  g_check_sectors : mg "check_sectors" = some (.ref A.f_check_sectors)
  F_track_bytes : Fun K "track_bytes" "track_bytes" s_track_bytes A.f_track_bytes A.d_track_bytes
  b_track_bytes : Binds K A.d_track_bytes ["sectors"] []
  g_track_bytes : mg "track_bytes" = some (.ref A.f_track_bytes)
  F_gap_cells : Fun K "gap_cells" "gap_cells" s_gap_cells A.f_gap_cells A.d_gap_cells
  b_gap_cells : Binds K A.d_gap_cells ["count", "before"] []
  g_gap_cells : mg "gap_cells" = some (.ref A.f_gap_cells)
  F_field_cells : Fun K "field_cells" "field_cells" s_field_cells A.f_field_cells A.d_field_cells
  b_field_cells : Binds K A.d_field_cells ["values", "wrong"] []
  g_field_cells : mg "field_cells" = some (.ref A.f_field_cells)
  F_track_cells : FunD K "track_cells" "track_cells" (defArgs s_track_cells) (defBody s_track_cells) (defScope s_track_cells) [] [("length", .int 0)] A.f_track_cells A.d_track_cells
  v_track_cells : Vals [.int 0] A.e_track_cells
  b_track_cells : Binds K A.d_track_cells ["sectors", "length"] A.e_track_cells
  kb_track_cells : KBn K A.d_track_cells ["sectors", "length"] 1 ["length"] (fun us ws => us ++ ws) (fun vs zs => vs ++ zs)
  g_track_cells : mg "track_cells" = some (.ref A.f_track_cells)
  F_mark_places : Fun K "mark_places" "mark_places" s_mark_places A.f_mark_places A.d_mark_places
  b_mark_places : Binds K A.d_mark_places ["cells"] []
  g_mark_places : mg "mark_places" = some (.ref A.f_mark_places)
  F_read_behind : Fun K "read_behind" "read_behind" s_read_behind A.f_read_behind A.d_read_behind
  b_read_behind : Binds K A.d_read_behind ["cells", "place", "count"] []
  g_read_behind : mg "read_behind" = some (.ref A.f_read_behind)
  F_crc_fits : Fun K "crc_fits" "crc_fits" s_crc_fits A.f_crc_fits A.d_crc_fits
  b_crc_fits : Binds K A.d_crc_fits ["values"] []
  g_crc_fits : mg "crc_fits" = some (.ref A.f_crc_fits)
  F_data_behind : Fun K "data_behind" "data_behind" s_data_behind A.f_data_behind A.d_data_behind
  b_data_behind : Binds K A.d_data_behind ["cells", "size", "end", "place"] []
  g_data_behind : mg "data_behind" = some (.ref A.f_data_behind)
  F_found_sectors : Fun K "found_sectors" "found_sectors" s_found_sectors A.f_found_sectors A.d_found_sectors
  b_found_sectors : Binds K A.d_found_sectors ["cells"] []
  g_found_sectors : mg "found_sectors" = some (.ref A.f_found_sectors)
  F_Readinit : Fun K "__init__" "Read.__init__" s_Readinit A.f_Readinit A.d_Readinit
  b_Readinit : Binds K A.d_Readinit ["self", "intervals", "rest"] []
  F_is_cell : Fun K "is_cell" "is_cell" s_is_cell A.f_is_cell A.d_is_cell
  b_is_cell : Binds K A.d_is_cell ["cell"] []
  g_is_cell : mg "is_cell" = some (.ref A.f_is_cell)
  F_check_cell : Fun K "check_cell" "check_cell" s_check_cell A.f_check_cell A.d_check_cell
  b_check_cell : Binds K A.d_check_cell ["cell"] []
  g_check_cell : mg "check_cell" = some (.ref A.f_check_cell)
  F_flux_of : Fun K "flux_of" "flux_of" s_flux_of A.f_flux_of A.d_flux_of
  b_flux_of : Binds K A.d_flux_of ["cells", "cell"] []
  g_flux_of : mg "flux_of" = some (.ref A.f_flux_of)
  F_fixed_cells : Fun K "fixed_cells" "fixed_cells" s_fixed_cells A.f_fixed_cells A.d_fixed_cells
  b_fixed_cells : Binds K A.d_fixed_cells ["read", "cell"] []
  g_fixed_cells : mg "fixed_cells" = some (.ref A.f_fixed_cells)
  F_law_cell : Fun K "_law_cell" "_law_cell" s_law_cell A.f_law_cell A.d_law_cell
  b_law_cell : Binds K A.d_law_cell ["script", "k"] []
  g_law_cell : mg "_law_cell" = some (.ref A.f_law_cell)
  F_law_draws : Fun K "_law_draws" "_law_draws" s_law_draws A.f_law_draws A.d_law_draws
  b_law_draws : Binds K A.d_law_draws ["cell", "count"] []
  g_law_draws : mg "_law_draws" = some (.ref A.f_law_draws)
  F_law_is_int : Fun K "_law_is_int" "_law_is_int" s_law_is_int A.f_law_is_int A.d_law_is_int
  b_law_is_int : Binds K A.d_law_is_int ["x"] []
  g_law_is_int : mg "_law_is_int" = some (.ref A.f_law_is_int)
  F_law_ints : Fun K "_law_ints" "_law_ints" s_law_ints A.f_law_ints A.d_law_ints
  b_law_ints : Binds K A.d_law_ints ["x", "kind"] []
  g_law_ints : mg "_law_ints" = some (.ref A.f_law_ints)
  F_law_is_tuple : Fun K "_law_is_tuple" "_law_is_tuple" s_law_is_tuple A.f_law_is_tuple A.d_law_is_tuple
  b_law_is_tuple : Binds K A.d_law_is_tuple ["x", "due"] []
  g_law_is_tuple : mg "_law_is_tuple" = some (.ref A.f_law_is_tuple)
  F_law_data : Fun K "_law_data" "_law_data" s_law_data A.f_law_data A.d_law_data
  b_law_data : Binds K A.d_law_data ["draws", "at", "count"] []
  g_law_data : mg "_law_data" = some (.ref A.f_law_data)
  F_law_sectors : Fun K "_law_sectors" "_law_sectors" s_law_sectors A.f_law_sectors A.d_law_sectors
  b_law_sectors : Binds K A.d_law_sectors ["draws", "at", "many", "track"] []
  g_law_sectors : mg "_law_sectors" = some (.ref A.f_law_sectors)
  F_law_made : Fun K "_law_made" "_law_made" s_law_made A.f_law_made A.d_law_made
  b_law_made : Binds K A.d_law_made ["sectors"] []
  g_law_made : mg "_law_made" = some (.ref A.f_law_made)
  F_law : Fun K "law" "law" s_law A.f_law A.d_law
  b_law : Binds K A.d_law ["script"] []
  g_law : mg "law" = some (.ref A.f_law)
  z_all : mg "all" = none
  z_bool : mg "bool" = none
  z_enumerate : mg "enumerate" = none
  z_int : mg "int" = none
  z_isinstance : mg "isinstance" = none
  z_len : mg "len" = none
  z_list : mg "list" = none
  z_max : mg "max" = none
  z_range : mg "range" = none
  z_tuple : mg "tuple" = none
  c_ADDRESS_BYTE : mg "ADDRESS_BYTE" = some A.u_ADDRESS_BYTE
  r_ADDRESS_BYTE : RelV (.int 254) A.u_ADDRESS_BYTE
  c_DATA_BYTE : mg "DATA_BYTE" = some A.u_DATA_BYTE
  r_DATA_BYTE : RelV (.int 251) A.u_DATA_BYTE
  c_GREATEST_SIZE : mg "GREATEST_SIZE" = some A.u_GREATEST_SIZE
  r_GREATEST_SIZE : RelV (.int 5) A.u_GREATEST_SIZE
  c_MARKS_LENGTH : mg "MARKS_LENGTH" = some A.u_MARKS_LENGTH
  r_MARKS_LENGTH : RelV (.int 48) A.u_MARKS_LENGTH
  c_ADDRESS_LENGTH : mg "ADDRESS_LENGTH" = some A.u_ADDRESS_LENGTH
  r_ADDRESS_LENGTH : RelV (.int 7) A.u_ADDRESS_LENGTH
  c_FARTHEST_DATA : mg "FARTHEST_DATA" = some A.u_FARTHEST_DATA
  r_FARTHEST_DATA : RelV (.int 960) A.u_FARTHEST_DATA
  c_MOST_INTERVALS : mg "MOST_INTERVALS" = some A.u_MOST_INTERVALS
  r_MOST_INTERVALS : RelV (.int 60000) A.u_MOST_INTERVALS
  c_MOST_TICKS : mg "MOST_TICKS" = some A.u_MOST_TICKS
  r_MOST_TICKS : RelV (.int 1000000) A.u_MOST_TICKS
  c_LEAST_CELL : mg "LEAST_CELL" = some A.u_LEAST_CELL
  r_LEAST_CELL : RelV (.int 10) A.u_LEAST_CELL
  c_GREATEST_CELL : mg "GREATEST_CELL" = some A.u_GREATEST_CELL
  r_GREATEST_CELL : RelV (.int 1000) A.u_GREATEST_CELL
  gc_Sector : mg "Sector" = some (.ref A.c_Sector)
  cl_Sector : Cls K A.c_Sector
  mk_Sector : Mk K A.c_Sector A.f_Sectorinit
  na_Sector_address : NoAttr K A.c_Sector "address"
  na_Sector_data : NoAttr K A.c_Sector "data"
  na_Sector_address_wrong : NoAttr K A.c_Sector "address_wrong"
  na_Sector_data_wrong : NoAttr K A.c_Sector "data_wrong"
  me_Sectoreq : Meth K A.c_Sector "__eq__" A.f_Sectoreq
  gc_Read : mg "Read" = some (.ref A.c_Read)
  cl_Read : Cls K A.c_Read
  mk_Read : Mk K A.c_Read A.f_Readinit
  na_Read_intervals : NoAttr K A.c_Read "intervals"
  na_Read_rest : NoAttr K A.c_Read "rest"
  x_InvalidRead : ExcF K mg "InvalidRead" A.c_InvalidRead
  x_InvalidCell : ExcF K mg "InvalidCell" A.c_InvalidCell
  ct_MARK : mg "MARK" = some (.ref A.c_MARK)
  ty_MARK : ∃ o, K.lookup A.c_MARK = some o ∧ o.cls = .type "tuple" ∧ o.dict = none
  tt_MARK : ∀ H, SqT K H A.c_MARK (([0, 1, 0, 0, 0, 1, 0, 0, 1, 0, 0, 0, 1, 0, 0, 1] : List Int).map V.int)
  ct_MARK_BYTES : mg "MARK_BYTES" = some (.ref A.c_MARK_BYTES)
  ty_MARK_BYTES : ∃ o, K.lookup A.c_MARK_BYTES = some o ∧ o.cls = .type "tuple" ∧ o.dict = none
  tt_MARK_BYTES : ∀ H, SqT K H A.c_MARK_BYTES (([161, 161, 161] : List Int).map V.int)
  ic_Sector : C8.InsC K A.c_Sector
section
variable {P : Program} {w : World} {K : PySem.W.Frag} {mg : Str → Option Value} {base : Heap} {A : Ad}
theorem ok_byte_bits (T : Tx K mg A) : FnOk P w K mg base CX0 1 A.f_byte_bits A.d_byte_bits ["value"] spByteBits := by
  refine T.F_byte_bits.ok sc_byte_bits (fun vs H Q E h => ?_) (fun cdv A' outer s H vs Q E hr h => ?_)
  · obtain ⟨v, rfl, _⟩ := h
    rfl
  obtain ⟨v, rfl, hv, k⟩ := h
  refine ⟨_, (pss_one (ps_ret (pe_lc (own := [("shift", 1)]) (g := (gName 1)) (tt := tYes) rfl sc_byte_bits.nd (pi_tup (pe_tup (pa_cons pe_int (pa_cons pe_int (pa_cons pe_int (pa_cons pe_int (pa_cons pe_int (pa_cons pe_int (pa_cons pe_int (pa_cons pe_int pa_nil)))))))))) (blkOk_by (N := n_byte_bits) (sc := (defScope s_byte_bits)) (by decide +kernel)) (fun _ _ _ _ _ => (pg_name (i := 1) sc_byte_bits.nd rfl (Or.inl rfl))) (fun _ _ _ _ _ => pts_nil) (fun _ _ _ _ _ => (pe_op op_and (pe_op op_shr (pv 0) (pv 1)) pe_int))))), ?_⟩
  try simp only [tSeq, tAsg, tVar, tC, tOp, rI0, rI, tUn, rU, tIfS, tTest, tRet, tRetN, tDrop, tCB, tCons, tNil, tLst, tLstI, tTup, gName, tB, tAnd, tOr, tNot, tAndV, tOrV, tNotV, tIf, tNext, tBreak, tCont, gSub, tCall, tCallN, tAug, ipI, tBML, tBML0, isL_IL, isL_lst, L2.start, List.map_cons, List.map_nil, List.length_cons, List.length_nil, List.cons_append, List.nil_append, List.getElem?_cons_succ, List.getElem?_cons_zero, Option.some.injEq, exists_eq_left', exists_eq_left, exists_and_left, V.int.injEq, V.ref.injEq, V.bl.injEq, V.str.injEq, List.set_cons_zero, List.set_cons_succ, List.cons.injEq, and_true, true_and, Nat.reduceAdd, Nat.reduceSub, List.replicate_succ, List.replicate_zero, rIxI, rIxH, rIxTH, rSetI, rSetH, rCatI, rRepI, rSlI, rAppendI, rExtendI, decide_eq_true_eq, upd_same, IL_inj, HO.lst.injEq, toInts_cons, toInts_nil, Option.map_some, if_true, if_false, Bool.true_eq_false, Bool.false_eq_true, Bool.not_true, Bool.not_false, Bool.not_eq_true', decide_eq_false_iff_not, atI_0, atI_1, atI_2, atI_3, atI_4, Int.reduceToNat, Int.reduceLT, Int.reduceLE, Int.reduceNeg, Int.reducePow, cast_lit, upd_upd, Int.reduceAdd, Int.reduceMul, Int.reduceSub, Nat.reduceLT, Nat.reduceLeDiff, cmul_r, cdiv_r, tSl, tPart, tNoPart, rEq, rNe, scal_nn, scal_ii, scal_bb, scal_ss, scal_is, scal_si, V.ty.injEq, and_assoc, tyH_non, tyH_bl, tyH_int, tyH_str, tyH_ref, tyO_lst, tyO_IL, tyO_tup, itO_lst, itO_tup, itO_IL, Dw.rIxD, rLenI, rLenH, rLenTH, rLenQ, rLenB, rListI, Dw.rListS, rIntI, rIntB, rSumI, rIsiD, rIsX, tCallS, tMakeS, tMake, tMakeC, tMakeSC, tFld, sFld, HO.ins.injEq, HO.tup.injEq, cxOf_K, nox_K, tr_K, suite_K, rTupleI, rAllB, rAnyB, BL_inj, tChain, wOnly, wAs, wMany, rEqI, rNeI, Dw.rMax2, rMin2, Dw.rIsN, rIsNotN, rStrIn, rStrNotIn, not_true_eq_false, not_false_eq_true, reduceCtorEq, cl_bool, cl_int, cl_str, cl_list, cl_tuple, isB_NoneType_bool, isB_NoneType_int, isB_NoneType_str, isB_NoneType_list, isB_NoneType_tuple, isB_bool_bool, isB_bool_int, isB_bool_str, isB_bool_list, isB_bool_tuple, isB_int_bool, isB_int_int, isB_int_str, isB_int_list, isB_int_tuple, isB_str_bool, isB_str_int, isB_str_str, isB_str_list, isB_str_tuple, isB_list_bool, isB_list_int, isB_list_str, isB_list_list, isB_list_tuple, isB_tuple_bool, isB_tuple_int, isB_tuple_str, isB_tuple_list, isB_tuple_tuple, Dw.rIxL, rListTI, tMakeK, rTupT, tPar, Dw.rSlCI, rIsB]
  refine ⟨line_le (by decide), fun t ht => ⟨t, rfl, ⟨_, .of upd_same⟩, fun D hD => ?_⟩⟩
  refine lc_tupI (K := K) (a := t) (xs := [.int 7, .int 6, .int 5, .int 4, .int 3, .int 2, .int 1, .int 0]) (f := fun i => ((v / 2 ^ (7 - i) % 2 : Nat) : Int)) (by decide) (.of upd_same) hD (fun _ => rfl) ?_ fun H' s1 e1 => ?_
  · intro i x H3 Q' hi s1 hq
    obtain ⟨j, hj, rfl⟩ : ∃ j : Nat, j = 7 - i ∧ x = .int (j : Int) := by
      match i, hi with
      | 0, h => exact ⟨7, rfl, (Option.some.inj h).symm⟩
      | 1, h => exact ⟨6, rfl, (Option.some.inj h).symm⟩
      | 2, h => exact ⟨5, rfl, (Option.some.inj h).symm⟩
      | 3, h => exact ⟨4, rfl, (Option.some.inj h).symm⟩
      | 4, h => exact ⟨3, rfl, (Option.some.inj h).symm⟩
      | 5, h => exact ⟨2, rfl, (Option.some.inj h).symm⟩
      | 6, h => exact ⟨1, rfl, (Option.some.inj h).symm⟩
      | 7, h => exact ⟨0, rfl, (Option.some.inj h).symm⟩
      | i + 8, h => simp at h
    try simp only [tSeq, tAsg, tVar, tC, tOp, rI0, rI, tUn, rU, tIfS, tTest, tRet, tRetN, tDrop, tCB, tCons, tNil, tLst, tLstI, tTup, gName, tB, tAnd, tOr, tNot, tAndV, tOrV, tNotV, tIf, tNext, tBreak, tCont, gSub, tCall, tCallN, tAug, ipI, tBML, tBML0, isL_IL, isL_lst, L2.start, List.map_cons, List.map_nil, List.length_cons, List.length_nil, List.cons_append, List.nil_append, List.getElem?_cons_succ, List.getElem?_cons_zero, Option.some.injEq, exists_eq_left', exists_eq_left, exists_and_left, V.int.injEq, V.ref.injEq, V.bl.injEq, V.str.injEq, List.set_cons_zero, List.set_cons_succ, List.cons.injEq, and_true, true_and, Nat.reduceAdd, Nat.reduceSub, List.replicate_succ, List.replicate_zero, rIxI, rIxH, rIxTH, rSetI, rSetH, rCatI, rRepI, rSlI, rAppendI, rExtendI, decide_eq_true_eq, upd_same, IL_inj, HO.lst.injEq, toInts_cons, toInts_nil, Option.map_some, if_true, if_false, Bool.true_eq_false, Bool.false_eq_true, Bool.not_true, Bool.not_false, Bool.not_eq_true', decide_eq_false_iff_not, atI_0, atI_1, atI_2, atI_3, atI_4, Int.reduceToNat, Int.reduceLT, Int.reduceLE, Int.reduceNeg, Int.reducePow, cast_lit, upd_upd, Int.reduceAdd, Int.reduceMul, Int.reduceSub, Nat.reduceLT, Nat.reduceLeDiff, cmul_r, cdiv_r, tSl, tPart, tNoPart, rEq, rNe, scal_nn, scal_ii, scal_bb, scal_ss, scal_is, scal_si, V.ty.injEq, and_assoc, tyH_non, tyH_bl, tyH_int, tyH_str, tyH_ref, tyO_lst, tyO_IL, tyO_tup, itO_lst, itO_tup, itO_IL, Dw.rIxD, rLenI, rLenH, rLenTH, rLenQ, rLenB, rListI, Dw.rListS, rIntI, rIntB, rSumI, rIsiD, rIsX, tCallS, tMakeS, tMake, tMakeC, tMakeSC, tFld, sFld, HO.ins.injEq, HO.tup.injEq, cxOf_K, nox_K, tr_K, suite_K, rTupleI, rAllB, rAnyB, BL_inj, tChain, wOnly, wAs, wMany, rEqI, rNeI, Dw.rMax2, rMin2, Dw.rIsN, rIsNotN, rStrIn, rStrNotIn, not_true_eq_false, not_false_eq_true, reduceCtorEq, cl_bool, cl_int, cl_str, cl_list, cl_tuple, isB_NoneType_bool, isB_NoneType_int, isB_NoneType_str, isB_NoneType_list, isB_NoneType_tuple, isB_bool_bool, isB_bool_int, isB_bool_str, isB_bool_list, isB_bool_tuple, isB_int_bool, isB_int_int, isB_int_str, isB_int_list, isB_int_tuple, isB_str_bool, isB_str_int, isB_str_str, isB_str_list, isB_str_tuple, isB_list_bool, isB_list_int, isB_list_str, isB_list_list, isB_list_tuple, isB_tuple_bool, isB_tuple_int, isB_tuple_str, isB_tuple_list, isB_tuple_tuple, Dw.rIxL, rListTI, tMakeK, rTupT, tPar, Dw.rSlCI, rIsB, wipe, Int.toNat_natCast, bit_div]
    rw [hj]
    exact ⟨Int.natCast_nonneg _, hq _ (Same.refl _)⟩
  · have eb : (List.range 8).map (fun i => ((v / 2 ^ (7 - i) % 2 : Nat) : Int)) = bits8 v := by
      simp [List.range_succ, bits8]
    have e2 : H' D = some (IL (bits8 v)) := by rw [← eb]; exact e1
    exact k D H' ((same_new ht _).trans s1) (same_none (same_new ht _) hD) e2
end
section
variable {P : Program} {w : World} {K : PySem.W.Frag} {mg : Str → Option Value} {base : Heap} {A : Ad}
theorem ok_all_bits (T : Tx K mg A) : FnOk P w K mg base CX0 2 A.f_all_bits A.d_all_bits ["values"] (spL1 CB bitsOf) := by
  refine T.F_all_bits.ok sc_all_bits (fun vs H Q E h => ?_) (fun cdv A' outer s H vs Q E hr h => ?_)
  · obtain ⟨a, ns, rfl, _⟩ := h
    rfl
  obtain ⟨a, ns, rfl, hA, ⟨hb, hl⟩, k⟩ := h
  refine ⟨_, (pss_cons (ps_set (i := 1) sc_all_bits.nd rfl (Or.inl rfl) (pe_lstI pa_nil))
      (pss_cons (ps_for PassesOwn.never rfl (pi_list (pv 0)) (pg_name (i := 2) sc_all_bits.nd rfl (Or.inl rfl))
        (pss_one (ps_expr (PE.imp (pe_bm PySem.F.plainAttrs_list PySem.F.slot_list_extend PySem.F.type_list_extend mt_extendI (pv 1) (pa_cons (pe_call (ok_byte_bits T) (hr.mono (by decide)) rfl T.g_byte_bits T.F_byte_bits.kp T.b_byte_bits .nil pass0 (pa_cons (pv 2) pa_nil)) pa_nil)) bml_imp))))
      (pss_one (ps_ret (pv 1))))), ?_⟩
  try simp only [tSeq, tAsg, tVar, tC, tOp, rI0, rI, tUn, rU, tIfS, tTest, tRet, tRetN, tDrop, tCB, tCons, tNil, tLst, tLstI, tTup, gName, tB, tAnd, tOr, tNot, tAndV, tOrV, tNotV, tIf, tNext, tBreak, tCont, gSub, tCall, tCallN, tAug, ipI, tBML, tBML0, isL_IL, isL_lst, L2.start, List.map_cons, List.map_nil, List.length_cons, List.length_nil, List.cons_append, List.nil_append, List.getElem?_cons_succ, List.getElem?_cons_zero, Option.some.injEq, exists_eq_left', exists_eq_left, exists_and_left, V.int.injEq, V.ref.injEq, V.bl.injEq, V.str.injEq, List.set_cons_zero, List.set_cons_succ, List.cons.injEq, and_true, true_and, Nat.reduceAdd, Nat.reduceSub, List.replicate_succ, List.replicate_zero, rIxI, rIxH, rIxTH, rSetI, rSetH, rCatI, rRepI, rSlI, rAppendI, rExtendI, decide_eq_true_eq, upd_same, IL_inj, HO.lst.injEq, toInts_cons, toInts_nil, Option.map_some, if_true, if_false, Bool.true_eq_false, Bool.false_eq_true, Bool.not_true, Bool.not_false, Bool.not_eq_true', decide_eq_false_iff_not, atI_0, atI_1, atI_2, atI_3, atI_4, Int.reduceToNat, Int.reduceLT, Int.reduceLE, Int.reduceNeg, Int.reducePow, cast_lit, upd_upd, Int.reduceAdd, Int.reduceMul, Int.reduceSub, Nat.reduceLT, Nat.reduceLeDiff, cmul_r, cdiv_r, tSl, tPart, tNoPart, rEq, rNe, scal_nn, scal_ii, scal_bb, scal_ss, scal_is, scal_si, V.ty.injEq, and_assoc, tyH_non, tyH_bl, tyH_int, tyH_str, tyH_ref, tyO_lst, tyO_IL, tyO_tup, itO_lst, itO_tup, itO_IL, Dw.rIxD, rLenI, rLenH, rLenTH, rLenQ, rLenB, rListI, Dw.rListS, rIntI, rIntB, rSumI, rIsiD, rIsX, tCallS, tMakeS, tMake, tMakeC, tMakeSC, tFld, sFld, HO.ins.injEq, HO.tup.injEq, cxOf_K, nox_K, tr_K, suite_K, rTupleI, rAllB, rAnyB, BL_inj, tChain, wOnly, wAs, wMany, rEqI, rNeI, Dw.rMax2, rMin2, Dw.rIsN, rIsNotN, rStrIn, rStrNotIn, not_true_eq_false, not_false_eq_true, reduceCtorEq, cl_bool, cl_int, cl_str, cl_list, cl_tuple, isB_NoneType_bool, isB_NoneType_int, isB_NoneType_str, isB_NoneType_list, isB_NoneType_tuple, isB_bool_bool, isB_bool_int, isB_bool_str, isB_bool_list, isB_bool_tuple, isB_int_bool, isB_int_int, isB_int_str, isB_int_list, isB_int_tuple, isB_str_bool, isB_str_int, isB_str_str, isB_str_list, isB_str_tuple, isB_list_bool, isB_list_int, isB_list_str, isB_list_list, isB_list_tuple, isB_tuple_bool, isB_tuple_int, isB_tuple_str, isB_tuple_list, isB_tuple_tuple, Dw.rIxL, rListTI, tMakeK, rTupT, tPar, Dw.rSlCI, rIsB]
  refine ⟨line_le (by decide), fun l hl0 => ?_⟩
  obtain ⟨I, hI⟩ : ∃ F : Nat → L2.St → Hp → Prop, F = (fun i σ H' => Same H H' ∧ H' l = some (IL (bitsOf (ns.take i))) ∧ ∃ y, σ = [some (V.ref a), some (V.ref l), y]) := ⟨_, rfl⟩
  refine ⟨_, rfl, a, rfl, ⟨_, .of (same_new hl0 _ _ _ hA)⟩, for_list (xs := ns.map V.int) I (by rw [hI]; exact ⟨same_new hl0 _, upd_same, none, rfl⟩) ?_ ?_ ?_⟩
  · intro i σ H' hi h
    rw [hI] at h
    exact .of (h.1 _ _ hA)
  · intro i v σ H' hi h
    rw [hI] at h
    obtain ⟨s1, e1, y, rfl⟩ := h
    obtain ⟨z, rfl, hz⟩ := ints_at hi
    obtain ⟨v, rfl, hv⟩ := bytes_at hb hz
    have hlt : i < ns.length := (List.getElem?_eq_some_iff.mp hz).1
    try simp only [tSeq, tAsg, tVar, tC, tOp, rI0, rI, tUn, rU, tIfS, tTest, tRet, tRetN, tDrop, tCB, tCons, tNil, tLst, tLstI, tTup, gName, tB, tAnd, tOr, tNot, tAndV, tOrV, tNotV, tIf, tNext, tBreak, tCont, gSub, tCall, tCallN, tAug, ipI, tBML, tBML0, isL_IL, isL_lst, L2.start, List.map_cons, List.map_nil, List.length_cons, List.length_nil, List.cons_append, List.nil_append, List.getElem?_cons_succ, List.getElem?_cons_zero, Option.some.injEq, exists_eq_left', exists_eq_left, exists_and_left, V.int.injEq, V.ref.injEq, V.bl.injEq, V.str.injEq, List.set_cons_zero, List.set_cons_succ, List.cons.injEq, and_true, true_and, Nat.reduceAdd, Nat.reduceSub, List.replicate_succ, List.replicate_zero, rIxI, rIxH, rIxTH, rSetI, rSetH, rCatI, rRepI, rSlI, rAppendI, rExtendI, decide_eq_true_eq, upd_same, IL_inj, HO.lst.injEq, toInts_cons, toInts_nil, Option.map_some, if_true, if_false, Bool.true_eq_false, Bool.false_eq_true, Bool.not_true, Bool.not_false, Bool.not_eq_true', decide_eq_false_iff_not, atI_0, atI_1, atI_2, atI_3, atI_4, Int.reduceToNat, Int.reduceLT, Int.reduceLE, Int.reduceNeg, Int.reducePow, cast_lit, upd_upd, Int.reduceAdd, Int.reduceMul, Int.reduceSub, Nat.reduceLT, Nat.reduceLeDiff, cmul_r, cdiv_r, tSl, tPart, tNoPart, rEq, rNe, scal_nn, scal_ii, scal_bb, scal_ss, scal_is, scal_si, V.ty.injEq, and_assoc, tyH_non, tyH_bl, tyH_int, tyH_str, tyH_ref, tyO_lst, tyO_IL, tyO_tup, itO_lst, itO_tup, itO_IL, Dw.rIxD, rLenI, rLenH, rLenTH, rLenQ, rLenB, rListI, Dw.rListS, rIntI, rIntB, rSumI, rIsiD, rIsX, tCallS, tMakeS, tMake, tMakeC, tMakeSC, tFld, sFld, HO.ins.injEq, HO.tup.injEq, cxOf_K, nox_K, tr_K, suite_K, rTupleI, rAllB, rAnyB, BL_inj, tChain, wOnly, wAs, wMany, rEqI, rNeI, Dw.rMax2, rMin2, Dw.rIsN, rIsNotN, rStrIn, rStrNotIn, not_true_eq_false, not_false_eq_true, reduceCtorEq, cl_bool, cl_int, cl_str, cl_list, cl_tuple, isB_NoneType_bool, isB_NoneType_int, isB_NoneType_str, isB_NoneType_list, isB_NoneType_tuple, isB_bool_bool, isB_bool_int, isB_bool_str, isB_bool_list, isB_bool_tuple, isB_int_bool, isB_int_int, isB_int_str, isB_int_list, isB_int_tuple, isB_str_bool, isB_str_int, isB_str_str, isB_str_list, isB_str_tuple, isB_list_bool, isB_list_int, isB_list_str, isB_list_list, isB_list_tuple, isB_tuple_bool, isB_tuple_int, isB_tuple_str, isB_tuple_list, isB_tuple_tuple, Dw.rIxL, rListTI, tMakeK, rTupT, tPar, Dw.rSlCI, rIsB, e1]
    refine ⟨v, rfl, hv, fun r H2 s2 n2 e2 => ?_⟩
    have e3 := s2 _ _ e1
    try simp only [tSeq, tAsg, tVar, tC, tOp, rI0, rI, tUn, rU, tIfS, tTest, tRet, tRetN, tDrop, tCB, tCons, tNil, tLst, tLstI, tTup, gName, tB, tAnd, tOr, tNot, tAndV, tOrV, tNotV, tIf, tNext, tBreak, tCont, gSub, tCall, tCallN, tAug, ipI, tBML, tBML0, isL_IL, isL_lst, L2.start, List.map_cons, List.map_nil, List.length_cons, List.length_nil, List.cons_append, List.nil_append, List.getElem?_cons_succ, List.getElem?_cons_zero, Option.some.injEq, exists_eq_left', exists_eq_left, exists_and_left, V.int.injEq, V.ref.injEq, V.bl.injEq, V.str.injEq, List.set_cons_zero, List.set_cons_succ, List.cons.injEq, and_true, true_and, Nat.reduceAdd, Nat.reduceSub, List.replicate_succ, List.replicate_zero, rIxI, rIxH, rIxTH, rSetI, rSetH, rCatI, rRepI, rSlI, rAppendI, rExtendI, decide_eq_true_eq, upd_same, IL_inj, HO.lst.injEq, toInts_cons, toInts_nil, Option.map_some, if_true, if_false, Bool.true_eq_false, Bool.false_eq_true, Bool.not_true, Bool.not_false, Bool.not_eq_true', decide_eq_false_iff_not, atI_0, atI_1, atI_2, atI_3, atI_4, Int.reduceToNat, Int.reduceLT, Int.reduceLE, Int.reduceNeg, Int.reducePow, cast_lit, upd_upd, Int.reduceAdd, Int.reduceMul, Int.reduceSub, Nat.reduceLT, Nat.reduceLeDiff, cmul_r, cdiv_r, tSl, tPart, tNoPart, rEq, rNe, scal_nn, scal_ii, scal_bb, scal_ss, scal_is, scal_si, V.ty.injEq, and_assoc, tyH_non, tyH_bl, tyH_int, tyH_str, tyH_ref, tyO_lst, tyO_IL, tyO_tup, itO_lst, itO_tup, itO_IL, Dw.rIxD, rLenI, rLenH, rLenTH, rLenQ, rLenB, rListI, Dw.rListS, rIntI, rIntB, rSumI, rIsiD, rIsX, tCallS, tMakeS, tMake, tMakeC, tMakeSC, tFld, sFld, HO.ins.injEq, HO.tup.injEq, cxOf_K, nox_K, tr_K, suite_K, rTupleI, rAllB, rAnyB, BL_inj, tChain, wOnly, wAs, wMany, rEqI, rNeI, Dw.rMax2, rMin2, Dw.rIsN, rIsNotN, rStrIn, rStrNotIn, not_true_eq_false, not_false_eq_true, reduceCtorEq, cl_bool, cl_int, cl_str, cl_list, cl_tuple, isB_NoneType_bool, isB_NoneType_int, isB_NoneType_str, isB_NoneType_list, isB_NoneType_tuple, isB_bool_bool, isB_bool_int, isB_bool_str, isB_bool_list, isB_bool_tuple, isB_int_bool, isB_int_int, isB_int_str, isB_int_list, isB_int_tuple, isB_str_bool, isB_str_int, isB_str_str, isB_str_list, isB_str_tuple, isB_list_bool, isB_list_int, isB_list_str, isB_list_list, isB_list_tuple, isB_tuple_bool, isB_tuple_int, isB_tuple_str, isB_tuple_list, isB_tuple_tuple, Dw.rIxL, rListTI, tMakeK, rTupT, tPar, Dw.rSlCI, rIsB, e2, e3]
    refine ⟨?_, ?_⟩
    · rw [bitsOf_len, bits8_len, List.length_take]
      exact line_le (by omega)
    · rw [hI]
      refine ⟨fun b o hb => ?_, ?_, _, rfl⟩
      · rw [upd_ne (ne_of_none hb hl0)]
        exact s2 _ _ (s1 _ _ hb)
      · rw [upd_same, bitsOf_more hz]
  · intro σ H' h
    rw [hI] at h
    obtain ⟨s1, e1, y, rfl⟩ := h
    try simp only [tSeq, tAsg, tVar, tC, tOp, rI0, rI, tUn, rU, tIfS, tTest, tRet, tRetN, tDrop, tCB, tCons, tNil, tLst, tLstI, tTup, gName, tB, tAnd, tOr, tNot, tAndV, tOrV, tNotV, tIf, tNext, tBreak, tCont, gSub, tCall, tCallN, tAug, ipI, tBML, tBML0, isL_IL, isL_lst, L2.start, List.map_cons, List.map_nil, List.length_cons, List.length_nil, List.cons_append, List.nil_append, List.getElem?_cons_succ, List.getElem?_cons_zero, Option.some.injEq, exists_eq_left', exists_eq_left, exists_and_left, V.int.injEq, V.ref.injEq, V.bl.injEq, V.str.injEq, List.set_cons_zero, List.set_cons_succ, List.cons.injEq, and_true, true_and, Nat.reduceAdd, Nat.reduceSub, List.replicate_succ, List.replicate_zero, rIxI, rIxH, rIxTH, rSetI, rSetH, rCatI, rRepI, rSlI, rAppendI, rExtendI, decide_eq_true_eq, upd_same, IL_inj, HO.lst.injEq, toInts_cons, toInts_nil, Option.map_some, if_true, if_false, Bool.true_eq_false, Bool.false_eq_true, Bool.not_true, Bool.not_false, Bool.not_eq_true', decide_eq_false_iff_not, atI_0, atI_1, atI_2, atI_3, atI_4, Int.reduceToNat, Int.reduceLT, Int.reduceLE, Int.reduceNeg, Int.reducePow, cast_lit, upd_upd, Int.reduceAdd, Int.reduceMul, Int.reduceSub, Nat.reduceLT, Nat.reduceLeDiff, cmul_r, cdiv_r, tSl, tPart, tNoPart, rEq, rNe, scal_nn, scal_ii, scal_bb, scal_ss, scal_is, scal_si, V.ty.injEq, and_assoc, tyH_non, tyH_bl, tyH_int, tyH_str, tyH_ref, tyO_lst, tyO_IL, tyO_tup, itO_lst, itO_tup, itO_IL, Dw.rIxD, rLenI, rLenH, rLenTH, rLenQ, rLenB, rListI, Dw.rListS, rIntI, rIntB, rSumI, rIsiD, rIsX, tCallS, tMakeS, tMake, tMakeC, tMakeSC, tFld, sFld, HO.ins.injEq, HO.tup.injEq, cxOf_K, nox_K, tr_K, suite_K, rTupleI, rAllB, rAnyB, BL_inj, tChain, wOnly, wAs, wMany, rEqI, rNeI, Dw.rMax2, rMin2, Dw.rIsN, rIsNotN, rStrIn, rStrNotIn, not_true_eq_false, not_false_eq_true, reduceCtorEq, cl_bool, cl_int, cl_str, cl_list, cl_tuple, isB_NoneType_bool, isB_NoneType_int, isB_NoneType_str, isB_NoneType_list, isB_NoneType_tuple, isB_bool_bool, isB_bool_int, isB_bool_str, isB_bool_list, isB_bool_tuple, isB_int_bool, isB_int_int, isB_int_str, isB_int_list, isB_int_tuple, isB_str_bool, isB_str_int, isB_str_str, isB_str_list, isB_str_tuple, isB_list_bool, isB_list_int, isB_list_str, isB_list_list, isB_list_tuple, isB_tuple_bool, isB_tuple_int, isB_tuple_str, isB_tuple_list, isB_tuple_tuple, Dw.rIxL, rListTI, tMakeK, rTupT, tPar, Dw.rSlCI, rIsB]
    rw [List.length_map, List.take_length] at e1
    exact k l H' s1 hl0 e1
end
section
variable {P : Program} {w : World} {K : PySem.W.Frag} {mg : Str → Option Value} {base : Heap} {A : Ad}
theorem ok_mfm_clock (T : Tx K mg A) : FnOk P w K mg base CX0 1 A.f_mfm_clock A.d_mfm_clock ["last", "bit"] spClk := by
  refine T.F_mfm_clock.ok sc_mfm_clock (fun vs H Q E h => ?_) (fun cdv A' outer s H vs Q E hr h => ?_)
  · obtain ⟨a, b, rfl, _⟩ := h
    rfl
  obtain ⟨a, b, rfl, k⟩ := h
  refine ⟨_, (pss_one (ps_ret (pe_ifExp (PW.pt (pw_and (pt_cmpR op_eq (pv 0) pe_int (nomark _)) (pw_and1 (pt_cmpR op_eq (pv 1) pe_int (nomark _))))) pe_int pe_int))), ?_⟩
  try simp only [tSeq, tAsg, tVar, tC, tOp, rI0, rI, tUn, rU, tIfS, tTest, tRet, tRetN, tDrop, tCB, tCons, tNil, tLst, tLstI, tTup, gName, tB, tAnd, tOr, tNot, tAndV, tOrV, tNotV, tIf, tNext, tBreak, tCont, gSub, tCall, tCallN, tAug, ipI, tBML, tBML0, isL_IL, isL_lst, L2.start, List.map_cons, List.map_nil, List.length_cons, List.length_nil, List.cons_append, List.nil_append, List.getElem?_cons_succ, List.getElem?_cons_zero, Option.some.injEq, exists_eq_left', exists_eq_left, exists_and_left, V.int.injEq, V.ref.injEq, V.bl.injEq, V.str.injEq, List.set_cons_zero, List.set_cons_succ, List.cons.injEq, and_true, true_and, Nat.reduceAdd, Nat.reduceSub, List.replicate_succ, List.replicate_zero, rIxI, rIxH, rIxTH, rSetI, rSetH, rCatI, rRepI, rSlI, rAppendI, rExtendI, decide_eq_true_eq, upd_same, IL_inj, HO.lst.injEq, toInts_cons, toInts_nil, Option.map_some, if_true, if_false, Bool.true_eq_false, Bool.false_eq_true, Bool.not_true, Bool.not_false, Bool.not_eq_true', decide_eq_false_iff_not, atI_0, atI_1, atI_2, atI_3, atI_4, Int.reduceToNat, Int.reduceLT, Int.reduceLE, Int.reduceNeg, Int.reducePow, cast_lit, upd_upd, Int.reduceAdd, Int.reduceMul, Int.reduceSub, Nat.reduceLT, Nat.reduceLeDiff, cmul_r, cdiv_r, tSl, tPart, tNoPart, rEq, rNe, scal_nn, scal_ii, scal_bb, scal_ss, scal_is, scal_si, V.ty.injEq, and_assoc, tyH_non, tyH_bl, tyH_int, tyH_str, tyH_ref, tyO_lst, tyO_IL, tyO_tup, itO_lst, itO_tup, itO_IL, Dw.rIxD, rLenI, rLenH, rLenTH, rLenQ, rLenB, rListI, Dw.rListS, rIntI, rIntB, rSumI, rIsiD, rIsX, tCallS, tMakeS, tMake, tMakeC, tMakeSC, tFld, sFld, HO.ins.injEq, HO.tup.injEq, cxOf_K, nox_K, tr_K, suite_K, rTupleI, rAllB, rAnyB, BL_inj, tChain, wOnly, wAs, wMany, rEqI, rNeI, Dw.rMax2, rMin2, Dw.rIsN, rIsNotN, rStrIn, rStrNotIn, not_true_eq_false, not_false_eq_true, reduceCtorEq, cl_bool, cl_int, cl_str, cl_list, cl_tuple, isB_NoneType_bool, isB_NoneType_int, isB_NoneType_str, isB_NoneType_list, isB_NoneType_tuple, isB_bool_bool, isB_bool_int, isB_bool_str, isB_bool_list, isB_bool_tuple, isB_int_bool, isB_int_int, isB_int_str, isB_int_list, isB_int_tuple, isB_str_bool, isB_str_int, isB_str_str, isB_str_list, isB_str_tuple, isB_list_bool, isB_list_int, isB_list_str, isB_list_list, isB_list_tuple, isB_tuple_bool, isB_tuple_int, isB_tuple_str, isB_tuple_list, isB_tuple_tuple, Dw.rIxL, rListTI, tMakeK, rTupT, tPar, Dw.rSlCI, rIsB]
  unfold clk at k
  by_cases c1 : a = 0
  · by_cases c2 : b = 0
    · rw [if_pos ⟨c1, c2⟩] at k
      rw [if_pos c1, if_pos c2]
      exact k
    · rw [if_neg (fun z => c2 z.2)] at k
      rw [if_pos c1, if_neg c2]
      exact k
  · rw [if_neg (fun z => c1 z.1)] at k
    rw [if_neg c1]
    exact k
theorem ok_mfm_cells (T : Tx K mg A) : FnOk P w K mg base CX0 3 A.f_mfm_cells A.d_mfm_cells ["values", "before"] spMfm := by
  refine T.F_mfm_cells.ok sc_mfm_cells (fun vs H Q E h => ?_) (fun cdv A' outer s H vs Q E hr h => ?_)
  · obtain ⟨a, ns, b, rfl, _⟩ := h
    rfl
  obtain ⟨a, ns, bf, rfl, hA, hb, k⟩ := h
  refine ⟨_, PSs.nox ((pss_cons (ps_set (i := 2) sc_mfm_cells.nd rfl (Or.inl rfl) (pe_lstI pa_nil))
      (pss_cons (ps_set (i := 3) sc_mfm_cells.nd rfl (Or.inl rfl) (pv 1))
      (pss_cons (ps_for PassesOwn.never rfl (pi_list (pe_call (ok_all_bits T) (hr.mono (by decide)) rfl T.g_all_bits T.F_all_bits.kp T.b_all_bits .nil pass0 (pa_cons (pv 0) pa_nil))) (pg_name (i := 4) sc_mfm_cells.nd rfl (Or.inl rfl))
        (pss_cons (ps_expr (PE.imp (pe_bm PySem.F.plainAttrs_list PySem.F.slot_list_extend PySem.F.type_list_extend mt_extendI (pv 2) (pa_cons (pe_lstI (pa_cons (pe_call (ok_mfm_clock T) (hr.mono (by decide)) rfl T.g_mfm_clock T.F_mfm_clock.kp T.b_mfm_clock .nil pass0 (pa_cons (pv 3) (pa_cons (pv 4) pa_nil))) (pa_cons (pv 4) pa_nil))) pa_nil)) bml_imp))
      (pss_one (ps_set (i := 3) sc_mfm_cells.nd rfl (Or.inl rfl) (pv 4)))))
      (pss_one (ps_ret (pv 2))))))), ?_⟩
  try simp only [tSeq, tAsg, tVar, tC, tOp, rI0, rI, tUn, rU, tIfS, tTest, tRet, tRetN, tDrop, tCB, tCons, tNil, tLst, tLstI, tTup, gName, tB, tAnd, tOr, tNot, tAndV, tOrV, tNotV, tIf, tNext, tBreak, tCont, gSub, tCall, tCallN, tAug, ipI, tBML, tBML0, isL_IL, isL_lst, L2.start, List.map_cons, List.map_nil, List.length_cons, List.length_nil, List.cons_append, List.nil_append, List.getElem?_cons_succ, List.getElem?_cons_zero, Option.some.injEq, exists_eq_left', exists_eq_left, exists_and_left, V.int.injEq, V.ref.injEq, V.bl.injEq, V.str.injEq, List.set_cons_zero, List.set_cons_succ, List.cons.injEq, and_true, true_and, Nat.reduceAdd, Nat.reduceSub, List.replicate_succ, List.replicate_zero, rIxI, rIxH, rIxTH, rSetI, rSetH, rCatI, rRepI, rSlI, rAppendI, rExtendI, decide_eq_true_eq, upd_same, IL_inj, HO.lst.injEq, toInts_cons, toInts_nil, Option.map_some, if_true, if_false, Bool.true_eq_false, Bool.false_eq_true, Bool.not_true, Bool.not_false, Bool.not_eq_true', decide_eq_false_iff_not, atI_0, atI_1, atI_2, atI_3, atI_4, Int.reduceToNat, Int.reduceLT, Int.reduceLE, Int.reduceNeg, Int.reducePow, cast_lit, upd_upd, Int.reduceAdd, Int.reduceMul, Int.reduceSub, Nat.reduceLT, Nat.reduceLeDiff, cmul_r, cdiv_r, tSl, tPart, tNoPart, rEq, rNe, scal_nn, scal_ii, scal_bb, scal_ss, scal_is, scal_si, V.ty.injEq, and_assoc, tyH_non, tyH_bl, tyH_int, tyH_str, tyH_ref, tyO_lst, tyO_IL, tyO_tup, itO_lst, itO_tup, itO_IL, Dw.rIxD, rLenI, rLenH, rLenTH, rLenQ, rLenB, rListI, Dw.rListS, rIntI, rIntB, rSumI, rIsiD, rIsX, tCallS, tMakeS, tMake, tMakeC, tMakeSC, tFld, sFld, HO.ins.injEq, HO.tup.injEq, cxOf_K, nox_K, tr_K, suite_K, rTupleI, rAllB, rAnyB, BL_inj, tChain, wOnly, wAs, wMany, rEqI, rNeI, Dw.rMax2, rMin2, Dw.rIsN, rIsNotN, rStrIn, rStrNotIn, not_true_eq_false, not_false_eq_true, reduceCtorEq, cl_bool, cl_int, cl_str, cl_list, cl_tuple, isB_NoneType_bool, isB_NoneType_int, isB_NoneType_str, isB_NoneType_list, isB_NoneType_tuple, isB_bool_bool, isB_bool_int, isB_bool_str, isB_bool_list, isB_bool_tuple, isB_int_bool, isB_int_int, isB_int_str, isB_int_list, isB_int_tuple, isB_str_bool, isB_str_int, isB_str_str, isB_str_list, isB_str_tuple, isB_list_bool, isB_list_int, isB_list_str, isB_list_list, isB_list_tuple, isB_tuple_bool, isB_tuple_int, isB_tuple_str, isB_tuple_list, isB_tuple_tuple, Dw.rIxL, rListTI, tMakeK, rTupT, tPar, Dw.rSlCI, rIsB]
  refine ⟨line_le (by decide), fun l hl0 => ?_⟩
  refine ⟨_, rfl, a, ns, rfl, same_new hl0 _ _ _ hA, hb, fun r H1 s1 n1 e1 => ⟨r, rfl, ⟨_, .of e1⟩, ?_⟩⟩
  have e1l := s1 _ _ (upd_same : upd H l (IL []) l = some (IL []))
  have sH : Same H H1 := (same_new hl0 _).trans s1
  have rl : r ≠ l := fun z => by rw [z, upd_same] at n1; cases n1
  obtain ⟨I, hI⟩ : ∃ F : Nat → L2.St → Hp → Prop, F = (fun i σ H' => Same H H' ∧ H' r = some (IL (bitsOf ns)) ∧ H' l = some (IL (mfmF bf ((bitsOf ns).take i))) ∧ ∃ y, σ = [some (V.ref a), some (V.int bf), some (V.ref l), some (V.int (lastOf bf ((bitsOf ns).take i))), y]) := ⟨_, rfl⟩
  refine for_list (xs := (bitsOf ns).map V.int) I (by rw [hI]; exact ⟨sH, e1, e1l, none, rfl⟩) ?_ ?_ ?_
  · intro i σ H' hi h
    rw [hI] at h
    exact .of h.2.1
  · intro i v σ H' hi h
    rw [hI] at h
    obtain ⟨s2, e2, e3, y, rfl⟩ := h
    obtain ⟨z, rfl, hz⟩ := ints_at hi
    have hlt : i < (bitsOf ns).length := (List.getElem?_eq_some_iff.mp hz).1
    have hln := bitsOf_len ns
    have hln2 := hb.2
    try simp only [tSeq, tAsg, tVar, tC, tOp, rI0, rI, tUn, rU, tIfS, tTest, tRet, tRetN, tDrop, tCB, tCons, tNil, tLst, tLstI, tTup, gName, tB, tAnd, tOr, tNot, tAndV, tOrV, tNotV, tIf, tNext, tBreak, tCont, gSub, tCall, tCallN, tAug, ipI, tBML, tBML0, isL_IL, isL_lst, L2.start, List.map_cons, List.map_nil, List.length_cons, List.length_nil, List.cons_append, List.nil_append, List.getElem?_cons_succ, List.getElem?_cons_zero, Option.some.injEq, exists_eq_left', exists_eq_left, exists_and_left, V.int.injEq, V.ref.injEq, V.bl.injEq, V.str.injEq, List.set_cons_zero, List.set_cons_succ, List.cons.injEq, and_true, true_and, Nat.reduceAdd, Nat.reduceSub, List.replicate_succ, List.replicate_zero, rIxI, rIxH, rIxTH, rSetI, rSetH, rCatI, rRepI, rSlI, rAppendI, rExtendI, decide_eq_true_eq, upd_same, IL_inj, HO.lst.injEq, toInts_cons, toInts_nil, Option.map_some, if_true, if_false, Bool.true_eq_false, Bool.false_eq_true, Bool.not_true, Bool.not_false, Bool.not_eq_true', decide_eq_false_iff_not, atI_0, atI_1, atI_2, atI_3, atI_4, Int.reduceToNat, Int.reduceLT, Int.reduceLE, Int.reduceNeg, Int.reducePow, cast_lit, upd_upd, Int.reduceAdd, Int.reduceMul, Int.reduceSub, Nat.reduceLT, Nat.reduceLeDiff, cmul_r, cdiv_r, tSl, tPart, tNoPart, rEq, rNe, scal_nn, scal_ii, scal_bb, scal_ss, scal_is, scal_si, V.ty.injEq, and_assoc, tyH_non, tyH_bl, tyH_int, tyH_str, tyH_ref, tyO_lst, tyO_IL, tyO_tup, itO_lst, itO_tup, itO_IL, Dw.rIxD, rLenI, rLenH, rLenTH, rLenQ, rLenB, rListI, Dw.rListS, rIntI, rIntB, rSumI, rIsiD, rIsX, tCallS, tMakeS, tMake, tMakeC, tMakeSC, tFld, sFld, HO.ins.injEq, HO.tup.injEq, cxOf_K, nox_K, tr_K, suite_K, rTupleI, rAllB, rAnyB, BL_inj, tChain, wOnly, wAs, wMany, rEqI, rNeI, Dw.rMax2, rMin2, Dw.rIsN, rIsNotN, rStrIn, rStrNotIn, not_true_eq_false, not_false_eq_true, reduceCtorEq, cl_bool, cl_int, cl_str, cl_list, cl_tuple, isB_NoneType_bool, isB_NoneType_int, isB_NoneType_str, isB_NoneType_list, isB_NoneType_tuple, isB_bool_bool, isB_bool_int, isB_bool_str, isB_bool_list, isB_bool_tuple, isB_int_bool, isB_int_int, isB_int_str, isB_int_list, isB_int_tuple, isB_str_bool, isB_str_int, isB_str_str, isB_str_list, isB_str_tuple, isB_list_bool, isB_list_int, isB_list_str, isB_list_list, isB_list_tuple, isB_tuple_bool, isB_tuple_int, isB_tuple_str, isB_tuple_list, isB_tuple_tuple, Dw.rIxL, rListTI, tMakeK, rTupT, tPar, Dw.rSlCI, rIsB, e3]
    refine ⟨_, _, rfl, ?_⟩
    try simp only [tSeq, tAsg, tVar, tC, tOp, rI0, rI, tUn, rU, tIfS, tTest, tRet, tRetN, tDrop, tCB, tCons, tNil, tLst, tLstI, tTup, gName, tB, tAnd, tOr, tNot, tAndV, tOrV, tNotV, tIf, tNext, tBreak, tCont, gSub, tCall, tCallN, tAug, ipI, tBML, tBML0, isL_IL, isL_lst, L2.start, List.map_cons, List.map_nil, List.length_cons, List.length_nil, List.cons_append, List.nil_append, List.getElem?_cons_succ, List.getElem?_cons_zero, Option.some.injEq, exists_eq_left', exists_eq_left, exists_and_left, V.int.injEq, V.ref.injEq, V.bl.injEq, V.str.injEq, List.set_cons_zero, List.set_cons_succ, List.cons.injEq, and_true, true_and, Nat.reduceAdd, Nat.reduceSub, List.replicate_succ, List.replicate_zero, rIxI, rIxH, rIxTH, rSetI, rSetH, rCatI, rRepI, rSlI, rAppendI, rExtendI, decide_eq_true_eq, upd_same, IL_inj, HO.lst.injEq, toInts_cons, toInts_nil, Option.map_some, if_true, if_false, Bool.true_eq_false, Bool.false_eq_true, Bool.not_true, Bool.not_false, Bool.not_eq_true', decide_eq_false_iff_not, atI_0, atI_1, atI_2, atI_3, atI_4, Int.reduceToNat, Int.reduceLT, Int.reduceLE, Int.reduceNeg, Int.reducePow, cast_lit, upd_upd, Int.reduceAdd, Int.reduceMul, Int.reduceSub, Nat.reduceLT, Nat.reduceLeDiff, cmul_r, cdiv_r, tSl, tPart, tNoPart, rEq, rNe, scal_nn, scal_ii, scal_bb, scal_ss, scal_is, scal_si, V.ty.injEq, and_assoc, tyH_non, tyH_bl, tyH_int, tyH_str, tyH_ref, tyO_lst, tyO_IL, tyO_tup, itO_lst, itO_tup, itO_IL, Dw.rIxD, rLenI, rLenH, rLenTH, rLenQ, rLenB, rListI, Dw.rListS, rIntI, rIntB, rSumI, rIsiD, rIsX, tCallS, tMakeS, tMake, tMakeC, tMakeSC, tFld, sFld, HO.ins.injEq, HO.tup.injEq, cxOf_K, nox_K, tr_K, suite_K, rTupleI, rAllB, rAnyB, BL_inj, tChain, wOnly, wAs, wMany, rEqI, rNeI, Dw.rMax2, rMin2, Dw.rIsN, rIsNotN, rStrIn, rStrNotIn, not_true_eq_false, not_false_eq_true, reduceCtorEq, cl_bool, cl_int, cl_str, cl_list, cl_tuple, isB_NoneType_bool, isB_NoneType_int, isB_NoneType_str, isB_NoneType_list, isB_NoneType_tuple, isB_bool_bool, isB_bool_int, isB_bool_str, isB_bool_list, isB_bool_tuple, isB_int_bool, isB_int_int, isB_int_str, isB_int_list, isB_int_tuple, isB_str_bool, isB_str_int, isB_str_str, isB_str_list, isB_str_tuple, isB_list_bool, isB_list_int, isB_list_str, isB_list_list, isB_list_tuple, isB_tuple_bool, isB_tuple_int, isB_tuple_str, isB_tuple_list, isB_tuple_tuple, Dw.rIxL, rListTI, tMakeK, rTupT, tPar, Dw.rSlCI, rIsB, e3]
    refine ⟨line_le (by decide), fun u hu => ?_⟩
    have lu : l ≠ u := ne_of_none e3 hu
    have ru : r ≠ u := ne_of_none e2 hu
    try simp only [tSeq, tAsg, tVar, tC, tOp, rI0, rI, tUn, rU, tIfS, tTest, tRet, tRetN, tDrop, tCB, tCons, tNil, tLst, tLstI, tTup, gName, tB, tAnd, tOr, tNot, tAndV, tOrV, tNotV, tIf, tNext, tBreak, tCont, gSub, tCall, tCallN, tAug, ipI, tBML, tBML0, isL_IL, isL_lst, L2.start, List.map_cons, List.map_nil, List.length_cons, List.length_nil, List.cons_append, List.nil_append, List.getElem?_cons_succ, List.getElem?_cons_zero, Option.some.injEq, exists_eq_left', exists_eq_left, exists_and_left, V.int.injEq, V.ref.injEq, V.bl.injEq, V.str.injEq, List.set_cons_zero, List.set_cons_succ, List.cons.injEq, and_true, true_and, Nat.reduceAdd, Nat.reduceSub, List.replicate_succ, List.replicate_zero, rIxI, rIxH, rIxTH, rSetI, rSetH, rCatI, rRepI, rSlI, rAppendI, rExtendI, decide_eq_true_eq, upd_same, IL_inj, HO.lst.injEq, toInts_cons, toInts_nil, Option.map_some, if_true, if_false, Bool.true_eq_false, Bool.false_eq_true, Bool.not_true, Bool.not_false, Bool.not_eq_true', decide_eq_false_iff_not, atI_0, atI_1, atI_2, atI_3, atI_4, Int.reduceToNat, Int.reduceLT, Int.reduceLE, Int.reduceNeg, Int.reducePow, cast_lit, upd_upd, Int.reduceAdd, Int.reduceMul, Int.reduceSub, Nat.reduceLT, Nat.reduceLeDiff, cmul_r, cdiv_r, tSl, tPart, tNoPart, rEq, rNe, scal_nn, scal_ii, scal_bb, scal_ss, scal_is, scal_si, V.ty.injEq, and_assoc, tyH_non, tyH_bl, tyH_int, tyH_str, tyH_ref, tyO_lst, tyO_IL, tyO_tup, itO_lst, itO_tup, itO_IL, Dw.rIxD, rLenI, rLenH, rLenTH, rLenQ, rLenB, rListI, Dw.rListS, rIntI, rIntB, rSumI, rIsiD, rIsX, tCallS, tMakeS, tMake, tMakeC, tMakeSC, tFld, sFld, HO.ins.injEq, HO.tup.injEq, cxOf_K, nox_K, tr_K, suite_K, rTupleI, rAllB, rAnyB, BL_inj, tChain, wOnly, wAs, wMany, rEqI, rNeI, Dw.rMax2, rMin2, Dw.rIsN, rIsNotN, rStrIn, rStrNotIn, not_true_eq_false, not_false_eq_true, reduceCtorEq, cl_bool, cl_int, cl_str, cl_list, cl_tuple, isB_NoneType_bool, isB_NoneType_int, isB_NoneType_str, isB_NoneType_list, isB_NoneType_tuple, isB_bool_bool, isB_bool_int, isB_bool_str, isB_bool_list, isB_bool_tuple, isB_int_bool, isB_int_int, isB_int_str, isB_int_list, isB_int_tuple, isB_str_bool, isB_str_int, isB_str_str, isB_str_list, isB_str_tuple, isB_list_bool, isB_list_int, isB_list_str, isB_list_list, isB_list_tuple, isB_tuple_bool, isB_tuple_int, isB_tuple_str, isB_tuple_list, isB_tuple_tuple, Dw.rIxL, rListTI, tMakeK, rTupT, tPar, Dw.rSlCI, rIsB, upd_ne lu, e3]
    refine ⟨?_, ?_⟩
    · rw [mfmF_len, List.length_take]
      exact line_le (by show 2 * _ + 2 ≤ _; omega)
    · rw [hI]
      refine ⟨fun b o hb => ?_, ?_, ?_, some (.int z), ?_⟩
      · rw [upd_ne (ne_of_none hb hl0)]
        exact same_new hu _ _ _ (s2 _ _ hb)
      · rw [upd_ne rl, upd_ne ru]
        exact e2
      · rw [upd_same, mfmF_more hz]
      · rw [lastOf_more hz]
  · intro σ H' h
    rw [hI] at h
    obtain ⟨s2, e2, e3, y, rfl⟩ := h
    try simp only [tSeq, tAsg, tVar, tC, tOp, rI0, rI, tUn, rU, tIfS, tTest, tRet, tRetN, tDrop, tCB, tCons, tNil, tLst, tLstI, tTup, gName, tB, tAnd, tOr, tNot, tAndV, tOrV, tNotV, tIf, tNext, tBreak, tCont, gSub, tCall, tCallN, tAug, ipI, tBML, tBML0, isL_IL, isL_lst, L2.start, List.map_cons, List.map_nil, List.length_cons, List.length_nil, List.cons_append, List.nil_append, List.getElem?_cons_succ, List.getElem?_cons_zero, Option.some.injEq, exists_eq_left', exists_eq_left, exists_and_left, V.int.injEq, V.ref.injEq, V.bl.injEq, V.str.injEq, List.set_cons_zero, List.set_cons_succ, List.cons.injEq, and_true, true_and, Nat.reduceAdd, Nat.reduceSub, List.replicate_succ, List.replicate_zero, rIxI, rIxH, rIxTH, rSetI, rSetH, rCatI, rRepI, rSlI, rAppendI, rExtendI, decide_eq_true_eq, upd_same, IL_inj, HO.lst.injEq, toInts_cons, toInts_nil, Option.map_some, if_true, if_false, Bool.true_eq_false, Bool.false_eq_true, Bool.not_true, Bool.not_false, Bool.not_eq_true', decide_eq_false_iff_not, atI_0, atI_1, atI_2, atI_3, atI_4, Int.reduceToNat, Int.reduceLT, Int.reduceLE, Int.reduceNeg, Int.reducePow, cast_lit, upd_upd, Int.reduceAdd, Int.reduceMul, Int.reduceSub, Nat.reduceLT, Nat.reduceLeDiff, cmul_r, cdiv_r, tSl, tPart, tNoPart, rEq, rNe, scal_nn, scal_ii, scal_bb, scal_ss, scal_is, scal_si, V.ty.injEq, and_assoc, tyH_non, tyH_bl, tyH_int, tyH_str, tyH_ref, tyO_lst, tyO_IL, tyO_tup, itO_lst, itO_tup, itO_IL, Dw.rIxD, rLenI, rLenH, rLenTH, rLenQ, rLenB, rListI, Dw.rListS, rIntI, rIntB, rSumI, rIsiD, rIsX, tCallS, tMakeS, tMake, tMakeC, tMakeSC, tFld, sFld, HO.ins.injEq, HO.tup.injEq, cxOf_K, nox_K, tr_K, suite_K, rTupleI, rAllB, rAnyB, BL_inj, tChain, wOnly, wAs, wMany, rEqI, rNeI, Dw.rMax2, rMin2, Dw.rIsN, rIsNotN, rStrIn, rStrNotIn, not_true_eq_false, not_false_eq_true, reduceCtorEq, cl_bool, cl_int, cl_str, cl_list, cl_tuple, isB_NoneType_bool, isB_NoneType_int, isB_NoneType_str, isB_NoneType_list, isB_NoneType_tuple, isB_bool_bool, isB_bool_int, isB_bool_str, isB_bool_list, isB_bool_tuple, isB_int_bool, isB_int_int, isB_int_str, isB_int_list, isB_int_tuple, isB_str_bool, isB_str_int, isB_str_str, isB_str_list, isB_str_tuple, isB_list_bool, isB_list_int, isB_list_str, isB_list_list, isB_list_tuple, isB_tuple_bool, isB_tuple_int, isB_tuple_str, isB_tuple_list, isB_tuple_tuple, Dw.rIxL, rListTI, tMakeK, rTupT, tPar, Dw.rSlCI, rIsB]
    rw [List.length_map, List.take_length] at e3
    exact k l H' s2 hl0 e3
end
section
variable {P : Program} {w : World} {K : PySem.W.Frag} {mg : Str → Option Value} {base : Heap} {A : Ad}
def spAreB (K : PySem.W.Frag) : Sp := fun vs H Q _ => ∃ (a : Addr) (ns : List Int), vs = [.ref a] ∧ SqT K H a (ns.map V.int) ∧ ns.length ≤ 10000 ∧ ∀ H', Same H H' → Q (.bl (ns.all fun z => decide (0 ≤ z) && decide (z ≤ 255))) H'
theorem ok_are_bytes (T : Tx K mg A) : FnOk P w K mg base CX0 1 A.f_are_bytes A.d_are_bytes ["values"] (spAreB K) := by
  refine T.F_are_bytes.ok sc_are_bytes (fun vs H Q E h => ?_) (fun cdv A' outer s H vs Q E hr h => ?_)
  · obtain ⟨a, ns, rfl, _⟩ := h
    rfl
  obtain ⟨a, ns, rfl, hA, hl, k⟩ := h
  refine ⟨_, (pss_one (ps_ret (pe_callB (cr_allB rfl) (by rfl) T.z_all (by decide +kernel) (pa_cons (pe_lc (own := [("value", 1)]) (g := (gName 1)) (tt := tYes) rfl sc_are_bytes.nd (pi_tup (pv 0)) (blkOk_by (N := n_are_bytes) (sc := (defScope s_are_bytes)) (by decide +kernel)) (fun _ _ _ _ _ => (pg_name (i := 1) sc_are_bytes.nd rfl (Or.inl rfl))) (fun _ _ _ _ _ => pts_nil) (fun _ _ _ _ _ => (pe_chain op_le op_le pe_int (pv 1) pe_int (by with_unfolding_all rfl)))) pa_nil)))), ?_⟩
  try simp only [tSeq, tAsg, tVar, tC, tOp, rI0, rI, tUn, rU, tIfS, tTest, tRet, tRetN, tDrop, tCB, tCons, tNil, tLst, tLstI, tTup, gName, tB, tAnd, tOr, tNot, tAndV, tOrV, tNotV, tIf, tNext, tBreak, tCont, gSub, tCall, tCallN, tAug, ipI, tBML, tBML0, isL_IL, isL_lst, L2.start, List.map_cons, List.map_nil, List.length_cons, List.length_nil, List.cons_append, List.nil_append, List.getElem?_cons_succ, List.getElem?_cons_zero, Option.some.injEq, exists_eq_left', exists_eq_left, exists_and_left, V.int.injEq, V.ref.injEq, V.bl.injEq, V.str.injEq, List.set_cons_zero, List.set_cons_succ, List.cons.injEq, and_true, true_and, Nat.reduceAdd, Nat.reduceSub, List.replicate_succ, List.replicate_zero, rIxI, rIxH, rIxTH, rSetI, rSetH, rCatI, rRepI, rSlI, rAppendI, rExtendI, decide_eq_true_eq, upd_same, IL_inj, HO.lst.injEq, toInts_cons, toInts_nil, Option.map_some, if_true, if_false, Bool.true_eq_false, Bool.false_eq_true, Bool.not_true, Bool.not_false, Bool.not_eq_true', decide_eq_false_iff_not, atI_0, atI_1, atI_2, atI_3, atI_4, Int.reduceToNat, Int.reduceLT, Int.reduceLE, Int.reduceNeg, Int.reducePow, cast_lit, upd_upd, Int.reduceAdd, Int.reduceMul, Int.reduceSub, Nat.reduceLT, Nat.reduceLeDiff, cmul_r, cdiv_r, tSl, tPart, tNoPart, rEq, rNe, scal_nn, scal_ii, scal_bb, scal_ss, scal_is, scal_si, V.ty.injEq, and_assoc, tyH_non, tyH_bl, tyH_int, tyH_str, tyH_ref, tyO_lst, tyO_IL, tyO_tup, itO_lst, itO_tup, itO_IL, Dw.rIxD, rLenI, rLenH, rLenTH, rLenQ, rLenB, rListI, Dw.rListS, rIntI, rIntB, rSumI, rIsiD, rIsX, tCallS, tMakeS, tMake, tMakeC, tMakeSC, tFld, sFld, HO.ins.injEq, HO.tup.injEq, cxOf_K, nox_K, tr_K, suite_K, rTupleI, rAllB, rAnyB, BL_inj, tChain, wOnly, wAs, wMany, rEqI, rNeI, Dw.rMax2, rMin2, Dw.rIsN, rIsNotN, rStrIn, rStrNotIn, not_true_eq_false, not_false_eq_true, reduceCtorEq, cl_bool, cl_int, cl_str, cl_list, cl_tuple, isB_NoneType_bool, isB_NoneType_int, isB_NoneType_str, isB_NoneType_list, isB_NoneType_tuple, isB_bool_bool, isB_bool_int, isB_bool_str, isB_bool_list, isB_bool_tuple, isB_int_bool, isB_int_int, isB_int_str, isB_int_list, isB_int_tuple, isB_str_bool, isB_str_int, isB_str_str, isB_str_list, isB_str_tuple, isB_list_bool, isB_list_int, isB_list_str, isB_list_list, isB_list_tuple, isB_tuple_bool, isB_tuple_int, isB_tuple_str, isB_tuple_list, isB_tuple_tuple, rSlCI, iRng3, iRev, gCons, gNil, iZip, iEnum, tLc_eq, tFor_eq, iRng1, iRng2, iList, iTup, rSetD, iKeys, tDNewK, Int.reducePow, Int.reduceNeg, Dw.rIxL, rListTI, tMakeK, rTupT, tPar, Dw.rSlCI, rIsB]
  refine ⟨⟨_, hA⟩, fun D hD => ?_⟩
  refine lc_tupV (K := K) (a := a) (xs := ns.map V.int) (f := fun i => V.bl (decide (0 ≤ ns.getD i 0) && decide (ns.getD i 0 ≤ 255))) (by rw [List.length_map]; omega) hA hD (fun _ => rfl) ?_ fun H1 s1 e1 => ?_
  · intro i v H3 Q' hi s1 hq
    obtain ⟨z, rfl, hz⟩ := ints_at hi
    have ez : ns.getD i 0 = z := by rw [List.getD_eq_getElem?_getD, hz]; rfl
    have hq2 := hq H3 (Same.refl _)
    rw [ez] at hq2
    try simp only [tSeq, tAsg, tVar, tC, tOp, rI0, rI, tUn, rU, tIfS, tTest, tRet, tRetN, tDrop, tCB, tCons, tNil, tLst, tLstI, tTup, gName, tB, tAnd, tOr, tNot, tAndV, tOrV, tNotV, tIf, tNext, tBreak, tCont, gSub, tCall, tCallN, tAug, ipI, tBML, tBML0, isL_IL, isL_lst, L2.start, List.map_cons, List.map_nil, List.length_cons, List.length_nil, List.cons_append, List.nil_append, List.getElem?_cons_succ, List.getElem?_cons_zero, Option.some.injEq, exists_eq_left', exists_eq_left, exists_and_left, V.int.injEq, V.ref.injEq, V.bl.injEq, V.str.injEq, List.set_cons_zero, List.set_cons_succ, List.cons.injEq, and_true, true_and, Nat.reduceAdd, Nat.reduceSub, List.replicate_succ, List.replicate_zero, rIxI, rIxH, rIxTH, rSetI, rSetH, rCatI, rRepI, rSlI, rAppendI, rExtendI, decide_eq_true_eq, upd_same, IL_inj, HO.lst.injEq, toInts_cons, toInts_nil, Option.map_some, if_true, if_false, Bool.true_eq_false, Bool.false_eq_true, Bool.not_true, Bool.not_false, Bool.not_eq_true', decide_eq_false_iff_not, atI_0, atI_1, atI_2, atI_3, atI_4, Int.reduceToNat, Int.reduceLT, Int.reduceLE, Int.reduceNeg, Int.reducePow, cast_lit, upd_upd, Int.reduceAdd, Int.reduceMul, Int.reduceSub, Nat.reduceLT, Nat.reduceLeDiff, cmul_r, cdiv_r, tSl, tPart, tNoPart, rEq, rNe, scal_nn, scal_ii, scal_bb, scal_ss, scal_is, scal_si, V.ty.injEq, and_assoc, tyH_non, tyH_bl, tyH_int, tyH_str, tyH_ref, tyO_lst, tyO_IL, tyO_tup, itO_lst, itO_tup, itO_IL, Dw.rIxD, rLenI, rLenH, rLenTH, rLenQ, rLenB, rListI, Dw.rListS, rIntI, rIntB, rSumI, rIsiD, rIsX, tCallS, tMakeS, tMake, tMakeC, tMakeSC, tFld, sFld, HO.ins.injEq, HO.tup.injEq, cxOf_K, nox_K, tr_K, suite_K, rTupleI, rAllB, rAnyB, BL_inj, tChain, wOnly, wAs, wMany, rEqI, rNeI, Dw.rMax2, rMin2, Dw.rIsN, rIsNotN, rStrIn, rStrNotIn, not_true_eq_false, not_false_eq_true, reduceCtorEq, cl_bool, cl_int, cl_str, cl_list, cl_tuple, isB_NoneType_bool, isB_NoneType_int, isB_NoneType_str, isB_NoneType_list, isB_NoneType_tuple, isB_bool_bool, isB_bool_int, isB_bool_str, isB_bool_list, isB_bool_tuple, isB_int_bool, isB_int_int, isB_int_str, isB_int_list, isB_int_tuple, isB_str_bool, isB_str_int, isB_str_str, isB_str_list, isB_str_tuple, isB_list_bool, isB_list_int, isB_list_str, isB_list_list, isB_list_tuple, isB_tuple_bool, isB_tuple_int, isB_tuple_str, isB_tuple_list, isB_tuple_tuple, rSlCI, iRng3, iRev, gCons, gNil, iZip, iEnum, tLc_eq, tFor_eq, iRng1, iRng2, iList, iTup, rSetD, iKeys, tDNewK, Int.reducePow, Int.reduceNeg, Dw.rIxL, rListTI, tMakeK, rTupT, tPar, Dw.rSlCI, rIsB, wipe]
    by_cases c : 0 ≤ z
    · rw [if_pos c]
      rw [decide_eq_true c, Bool.true_and] at hq2
      exact hq2
    · rw [if_neg c]
      rw [decide_eq_false c, Bool.false_and] at hq2
      exact hq2
  rw [List.length_map] at e1
  have e2 := BL_of e1
  refine ⟨_, e2, ?_⟩
  have ea := all_items (p := fun z => decide (0 ≤ z) && decide (z ≤ 255)) (ns := ns)
  rw [ea]
  exact k _ s1
end
section
variable {P : Program} {w : World} {K : PySem.W.Frag} {mg : Str → Option Value} {base : Heap} {A : Ad}
theorem ok_crc (T : Tx K mg A) : FnOk P w K mg base CX0 1 A.f_crc A.d_crc ["values"] spCrc := by
  refine T.F_crc.ok sc_crc (fun vs H Q E h => ?_) (fun cdv A' outer s H vs Q E hr h => ?_)
  · obtain ⟨a, ns, rfl, _⟩ := h
    rfl
  obtain ⟨a, ns, rfl, hA, hb, q⟩ := h
  refine ⟨_, (pss_cons (ps_set (i := 1) sc_crc.nd rfl (Or.inl rfl) pe_int)
      (pss_cons (ps_for PassesOwn.never rfl (pi_list (pv 0)) (pg_name (i := 2) sc_crc.nd rfl (Or.inl rfl))
        (pss_cons (ps_set (i := 3) sc_crc.nd rfl (Or.inl rfl) (pe_op op_xor (pe_op op_shr (pv 1) pe_int) (pv 2)))
      (pss_cons (ps_set (i := 3) sc_crc.nd rfl (Or.inl rfl) (pe_op op_xor (pv 3) (pe_op op_shr (pv 3) pe_int)))
      (pss_one (ps_set (i := 1) sc_crc.nd rfl (Or.inl rfl) (pe_op op_and (pe_op op_xor (pe_op op_xor (pe_op op_xor (pe_op op_shl (pv 1) pe_int) (pe_op op_shl (pv 3) pe_int)) (pe_op op_shl (pv 3) pe_int)) (pv 3)) pe_int))))))
      (pss_one (ps_ret (pv 1))))), ?_⟩
  obtain ⟨I, hI⟩ : ∃ F : Nat → L2.St → Hp → Prop, F = (fun i σ H' => H' = H ∧ ∃ x y, σ = [some (V.ref a), some (V.int (crcZ (ns.take i))), x, y]) := ⟨_, rfl⟩
  try simp only [tSeq, tAsg, tVar, tC, tOp, rI0, rI, tUn, rU, tIfS, tTest, tRet, tRetN, tDrop, tCB, tCons, tNil, tLst, tLstI, tTup, gName, tB, tAnd, tOr, tNot, tAndV, tOrV, tNotV, tIf, tNext, tBreak, tCont, gSub, tCall, tCallN, tAug, ipI, tBML, tBML0, isL_IL, isL_lst, L2.start, List.map_cons, List.map_nil, List.length_cons, List.length_nil, List.cons_append, List.nil_append, List.getElem?_cons_succ, List.getElem?_cons_zero, Option.some.injEq, exists_eq_left', exists_eq_left, exists_and_left, V.int.injEq, V.ref.injEq, V.bl.injEq, V.str.injEq, List.set_cons_zero, List.set_cons_succ, List.cons.injEq, and_true, true_and, Nat.reduceAdd, Nat.reduceSub, List.replicate_succ, List.replicate_zero, rIxI, rIxH, rIxTH, rSetI, rSetH, rCatI, rRepI, rSlI, rAppendI, rExtendI, decide_eq_true_eq, upd_same, IL_inj, HO.lst.injEq, toInts_cons, toInts_nil, Option.map_some, if_true, if_false, Bool.true_eq_false, Bool.false_eq_true, Bool.not_true, Bool.not_false, Bool.not_eq_true', decide_eq_false_iff_not, atI_0, atI_1, atI_2, atI_3, atI_4, Int.reduceToNat, Int.reduceLT, Int.reduceLE, Int.reduceNeg, Int.reducePow, cast_lit, upd_upd, Int.reduceAdd, Int.reduceMul, Int.reduceSub, Nat.reduceLT, Nat.reduceLeDiff, cmul_r, cdiv_r, tSl, tPart, tNoPart, rEq, rNe, scal_nn, scal_ii, scal_bb, scal_ss, scal_is, scal_si, V.ty.injEq, and_assoc, tyH_non, tyH_bl, tyH_int, tyH_str, tyH_ref, tyO_lst, tyO_IL, tyO_tup, itO_lst, itO_tup, itO_IL, Dw.rIxD, rLenI, rLenH, rLenTH, rLenQ, rLenB, rListI, Dw.rListS, rIntI, rIntB, rSumI, rIsiD, rIsX, tCallS, tMakeS, tMake, tMakeC, tMakeSC, tFld, sFld, HO.ins.injEq, HO.tup.injEq, cxOf_K, nox_K, tr_K, suite_K, rTupleI, rAllB, rAnyB, BL_inj, tChain, wOnly, wAs, wMany, rEqI, rNeI, Dw.rMax2, rMin2, Dw.rIsN, rIsNotN, rStrIn, rStrNotIn, not_true_eq_false, not_false_eq_true, reduceCtorEq, cl_bool, cl_int, cl_str, cl_list, cl_tuple, isB_NoneType_bool, isB_NoneType_int, isB_NoneType_str, isB_NoneType_list, isB_NoneType_tuple, isB_bool_bool, isB_bool_int, isB_bool_str, isB_bool_list, isB_bool_tuple, isB_int_bool, isB_int_int, isB_int_str, isB_int_list, isB_int_tuple, isB_str_bool, isB_str_int, isB_str_str, isB_str_list, isB_str_tuple, isB_list_bool, isB_list_int, isB_list_str, isB_list_list, isB_list_tuple, isB_tuple_bool, isB_tuple_int, isB_tuple_str, isB_tuple_list, isB_tuple_tuple, Dw.rIxL, rListTI, tMakeK, rTupT, tPar, Dw.rSlCI, rIsB]
  refine ⟨_, rfl, a, rfl, ⟨_, .of hA⟩, for_list (xs := ns.map V.int) I (by rw [hI]; exact ⟨rfl, none, none, rfl⟩) ?_ ?_ ?_⟩
  · intro i σ H' hi h
    rw [hI] at h
    obtain ⟨rfl, _⟩ := h
    exact .of hA
  · intro i v σ H' hi h
    rw [hI] at h
    obtain ⟨rfl, x, y, rfl⟩ := h
    obtain ⟨z, rfl, hz⟩ := ints_at hi
    obtain ⟨v, rfl, hv⟩ := bytes_at hb hz
    have hn := crcN_lt ((ns.take i).map Int.toNat)
    have hm := crcN_more hz
    unfold crcZ
    generalize crcN ((ns.take i).map Int.toNat) = n at hn hm
    have ht := takenN_lt hn hv
    try simp only [tSeq, tAsg, tVar, tC, tOp, rI0, rI, tUn, rU, tIfS, tTest, tRet, tRetN, tDrop, tCB, tCons, tNil, tLst, tLstI, tTup, gName, tB, tAnd, tOr, tNot, tAndV, tOrV, tNotV, tIf, tNext, tBreak, tCont, gSub, tCall, tCallN, tAug, ipI, tBML, tBML0, isL_IL, isL_lst, L2.start, List.map_cons, List.map_nil, List.length_cons, List.length_nil, List.cons_append, List.nil_append, List.getElem?_cons_succ, List.getElem?_cons_zero, Option.some.injEq, exists_eq_left', exists_eq_left, exists_and_left, V.int.injEq, V.ref.injEq, V.bl.injEq, V.str.injEq, List.set_cons_zero, List.set_cons_succ, List.cons.injEq, and_true, true_and, Nat.reduceAdd, Nat.reduceSub, List.replicate_succ, List.replicate_zero, rIxI, rIxH, rIxTH, rSetI, rSetH, rCatI, rRepI, rSlI, rAppendI, rExtendI, decide_eq_true_eq, upd_same, IL_inj, HO.lst.injEq, toInts_cons, toInts_nil, Option.map_some, if_true, if_false, Bool.true_eq_false, Bool.false_eq_true, Bool.not_true, Bool.not_false, Bool.not_eq_true', decide_eq_false_iff_not, atI_0, atI_1, atI_2, atI_3, atI_4, Int.reduceToNat, Int.reduceLT, Int.reduceLE, Int.reduceNeg, Int.reducePow, cast_lit, upd_upd, Int.reduceAdd, Int.reduceMul, Int.reduceSub, Nat.reduceLT, Nat.reduceLeDiff, cmul_r, cdiv_r, tSl, tPart, tNoPart, rEq, rNe, scal_nn, scal_ii, scal_bb, scal_ss, scal_is, scal_si, V.ty.injEq, and_assoc, tyH_non, tyH_bl, tyH_int, tyH_str, tyH_ref, tyO_lst, tyO_IL, tyO_tup, itO_lst, itO_tup, itO_IL, Dw.rIxD, rLenI, rLenH, rLenTH, rLenQ, rLenB, rListI, Dw.rListS, rIntI, rIntB, rSumI, rIsiD, rIsX, tCallS, tMakeS, tMake, tMakeC, tMakeSC, tFld, sFld, HO.ins.injEq, HO.tup.injEq, cxOf_K, nox_K, tr_K, suite_K, rTupleI, rAllB, rAnyB, BL_inj, tChain, wOnly, wAs, wMany, rEqI, rNeI, Dw.rMax2, rMin2, Dw.rIsN, rIsNotN, rStrIn, rStrNotIn, not_true_eq_false, not_false_eq_true, reduceCtorEq, cl_bool, cl_int, cl_str, cl_list, cl_tuple, isB_NoneType_bool, isB_NoneType_int, isB_NoneType_str, isB_NoneType_list, isB_NoneType_tuple, isB_bool_bool, isB_bool_int, isB_bool_str, isB_bool_list, isB_bool_tuple, isB_int_bool, isB_int_int, isB_int_str, isB_int_list, isB_int_tuple, isB_str_bool, isB_str_int, isB_str_str, isB_str_list, isB_str_tuple, isB_list_bool, isB_list_int, isB_list_str, isB_list_list, isB_list_tuple, isB_tuple_bool, isB_tuple_int, isB_tuple_str, isB_tuple_list, isB_tuple_tuple, Dw.rIxL, rListTI, tMakeK, rTupT, tPar, Dw.rSlCI, rIsB, takenZ, stepZ]
    refine ⟨⟨by decide, by decide, by omega⟩, ⟨by decide, by decide, by omega⟩, ⟨by decide, by decide, by omega⟩, ?_⟩
    rw [hI, ← hm]
    exact ⟨rfl, _, _, rfl⟩
  · intro σ H' h
    rw [hI] at h
    obtain ⟨rfl, x, y, rfl⟩ := h
    try simp only [tSeq, tAsg, tVar, tC, tOp, rI0, rI, tUn, rU, tIfS, tTest, tRet, tRetN, tDrop, tCB, tCons, tNil, tLst, tLstI, tTup, gName, tB, tAnd, tOr, tNot, tAndV, tOrV, tNotV, tIf, tNext, tBreak, tCont, gSub, tCall, tCallN, tAug, ipI, tBML, tBML0, isL_IL, isL_lst, L2.start, List.map_cons, List.map_nil, List.length_cons, List.length_nil, List.cons_append, List.nil_append, List.getElem?_cons_succ, List.getElem?_cons_zero, Option.some.injEq, exists_eq_left', exists_eq_left, exists_and_left, V.int.injEq, V.ref.injEq, V.bl.injEq, V.str.injEq, List.set_cons_zero, List.set_cons_succ, List.cons.injEq, and_true, true_and, Nat.reduceAdd, Nat.reduceSub, List.replicate_succ, List.replicate_zero, rIxI, rIxH, rIxTH, rSetI, rSetH, rCatI, rRepI, rSlI, rAppendI, rExtendI, decide_eq_true_eq, upd_same, IL_inj, HO.lst.injEq, toInts_cons, toInts_nil, Option.map_some, if_true, if_false, Bool.true_eq_false, Bool.false_eq_true, Bool.not_true, Bool.not_false, Bool.not_eq_true', decide_eq_false_iff_not, atI_0, atI_1, atI_2, atI_3, atI_4, Int.reduceToNat, Int.reduceLT, Int.reduceLE, Int.reduceNeg, Int.reducePow, cast_lit, upd_upd, Int.reduceAdd, Int.reduceMul, Int.reduceSub, Nat.reduceLT, Nat.reduceLeDiff, cmul_r, cdiv_r, tSl, tPart, tNoPart, rEq, rNe, scal_nn, scal_ii, scal_bb, scal_ss, scal_is, scal_si, V.ty.injEq, and_assoc, tyH_non, tyH_bl, tyH_int, tyH_str, tyH_ref, tyO_lst, tyO_IL, tyO_tup, itO_lst, itO_tup, itO_IL, Dw.rIxD, rLenI, rLenH, rLenTH, rLenQ, rLenB, rListI, Dw.rListS, rIntI, rIntB, rSumI, rIsiD, rIsX, tCallS, tMakeS, tMake, tMakeC, tMakeSC, tFld, sFld, HO.ins.injEq, HO.tup.injEq, cxOf_K, nox_K, tr_K, suite_K, rTupleI, rAllB, rAnyB, BL_inj, tChain, wOnly, wAs, wMany, rEqI, rNeI, Dw.rMax2, rMin2, Dw.rIsN, rIsNotN, rStrIn, rStrNotIn, not_true_eq_false, not_false_eq_true, reduceCtorEq, cl_bool, cl_int, cl_str, cl_list, cl_tuple, isB_NoneType_bool, isB_NoneType_int, isB_NoneType_str, isB_NoneType_list, isB_NoneType_tuple, isB_bool_bool, isB_bool_int, isB_bool_str, isB_bool_list, isB_bool_tuple, isB_int_bool, isB_int_int, isB_int_str, isB_int_list, isB_int_tuple, isB_str_bool, isB_str_int, isB_str_str, isB_str_list, isB_str_tuple, isB_list_bool, isB_list_int, isB_list_str, isB_list_list, isB_list_tuple, isB_tuple_bool, isB_tuple_int, isB_tuple_str, isB_tuple_list, isB_tuple_tuple, Dw.rIxL, rListTI, tMakeK, rTupT, tPar, Dw.rSlCI, rIsB]
    rw [List.length_map, List.take_length]
    exact q
end
section
variable {P : Program} {w : World} {K : PySem.W.Frag} {mg : Str → Option Value} {base : Heap} {A : Ad}
def spExclusive : Sp := fun vs H Q _ => ∃ (a b : Nat), vs = [.int a, .int b] ∧ Q (.int ((a ^^^ b : Nat) : Int)) H
theorem ok_exclusive (T : Tx K mg A) : FnOk P w K mg base CX0 1 A.f_exclusive A.d_exclusive ["first", "second"] spExclusive := by
  refine T.F_exclusive.ok sc_exclusive (fun vs H Q E h => ?_) (fun cdv A' outer s H vs Q E hr h => ?_)
  · obtain ⟨a, b, rfl, _⟩ := h
    rfl
  obtain ⟨a, b, rfl, k⟩ := h
  refine ⟨_, (pss_one (ps_ret (pe_op op_xor (pv 0) (pv 1)))), ?_⟩
  try simp only [tSeq, tAsg, tVar, tC, tOp, rI0, rI, tUn, rU, tIfS, tTest, tRet, tRetN, tDrop, tCB, tCons, tNil, tLst, tLstI, tTup, gName, tB, tAnd, tOr, tNot, tAndV, tOrV, tNotV, tIf, tNext, tBreak, tCont, gSub, tCall, tCallN, tAug, ipI, tBML, tBML0, isL_IL, isL_lst, L2.start, List.map_cons, List.map_nil, List.length_cons, List.length_nil, List.cons_append, List.nil_append, List.getElem?_cons_succ, List.getElem?_cons_zero, Option.some.injEq, exists_eq_left', exists_eq_left, exists_and_left, V.int.injEq, V.ref.injEq, V.bl.injEq, V.str.injEq, List.set_cons_zero, List.set_cons_succ, List.cons.injEq, and_true, true_and, Nat.reduceAdd, Nat.reduceSub, List.replicate_succ, List.replicate_zero, rIxI, rIxH, rIxTH, rSetI, rSetH, rCatI, rRepI, rSlI, rAppendI, rExtendI, decide_eq_true_eq, upd_same, IL_inj, HO.lst.injEq, toInts_cons, toInts_nil, Option.map_some, if_true, if_false, Bool.true_eq_false, Bool.false_eq_true, Bool.not_true, Bool.not_false, Bool.not_eq_true', decide_eq_false_iff_not, atI_0, atI_1, atI_2, atI_3, atI_4, Int.reduceToNat, Int.reduceLT, Int.reduceLE, Int.reduceNeg, Int.reducePow, cast_lit, upd_upd, Int.reduceAdd, Int.reduceMul, Int.reduceSub, Nat.reduceLT, Nat.reduceLeDiff, cmul_r, cdiv_r, tSl, tPart, tNoPart, rEq, rNe, scal_nn, scal_ii, scal_bb, scal_ss, scal_is, scal_si, V.ty.injEq, and_assoc, tyH_non, tyH_bl, tyH_int, tyH_str, tyH_ref, tyO_lst, tyO_IL, tyO_tup, itO_lst, itO_tup, itO_IL, Dw.rIxD, rLenI, rLenH, rLenTH, rLenQ, rLenB, rListI, Dw.rListS, rIntI, rIntB, rSumI, rIsiD, rIsX, tCallS, tMakeS, tMake, tMakeC, tMakeSC, tFld, sFld, HO.ins.injEq, HO.tup.injEq, cxOf_K, nox_K, tr_K, suite_K, rTupleI, rAllB, rAnyB, BL_inj, tChain, wOnly, wAs, wMany, rEqI, rNeI, Dw.rMax2, rMin2, Dw.rIsN, rIsNotN, rStrIn, rStrNotIn, not_true_eq_false, not_false_eq_true, reduceCtorEq, cl_bool, cl_int, cl_str, cl_list, cl_tuple, isB_NoneType_bool, isB_NoneType_int, isB_NoneType_str, isB_NoneType_list, isB_NoneType_tuple, isB_bool_bool, isB_bool_int, isB_bool_str, isB_bool_list, isB_bool_tuple, isB_int_bool, isB_int_int, isB_int_str, isB_int_list, isB_int_tuple, isB_str_bool, isB_str_int, isB_str_str, isB_str_list, isB_str_tuple, isB_list_bool, isB_list_int, isB_list_str, isB_list_list, isB_list_tuple, isB_tuple_bool, isB_tuple_int, isB_tuple_str, isB_tuple_list, isB_tuple_tuple, Dw.rIxL, rListTI, tMakeK, rTupT, tPar, Dw.rSlCI, rIsB, xorN]
  exact k
def spTwo : Sp := fun vs H Q _ => ∃ v : Int, vs = [.int v] ∧ ∀ D, H D = none → Q (.ref D) (upd H D (IL [v / 256, v % 256]))
theorem ok_two_bytes (T : Tx K mg A) : FnOk P w K mg base CX0 1 A.f_two_bytes A.d_two_bytes ["number"] spTwo := by
  refine T.F_two_bytes.ok sc_two_bytes (fun vs H Q E h => ?_) (fun cdv A' outer s H vs Q E hr h => ?_)
  · obtain ⟨v, rfl, _⟩ := h
    rfl
  obtain ⟨v, rfl, k⟩ := h
  refine ⟨_, (pss_one (ps_ret (pe_lstI (pa_cons (pe_op op_fdiv (pv 0) pe_int) (pa_cons (pe_op op_mod (pv 0) pe_int) pa_nil))))), ?_⟩
  try simp only [tSeq, tAsg, tVar, tC, tOp, rI0, rI, tUn, rU, tIfS, tTest, tRet, tRetN, tDrop, tCB, tCons, tNil, tLst, tLstI, tTup, gName, tB, tAnd, tOr, tNot, tAndV, tOrV, tNotV, tIf, tNext, tBreak, tCont, gSub, tCall, tCallN, tAug, ipI, tBML, tBML0, isL_IL, isL_lst, L2.start, List.map_cons, List.map_nil, List.length_cons, List.length_nil, List.cons_append, List.nil_append, List.getElem?_cons_succ, List.getElem?_cons_zero, Option.some.injEq, exists_eq_left', exists_eq_left, exists_and_left, V.int.injEq, V.ref.injEq, V.bl.injEq, V.str.injEq, List.set_cons_zero, List.set_cons_succ, List.cons.injEq, and_true, true_and, Nat.reduceAdd, Nat.reduceSub, List.replicate_succ, List.replicate_zero, rIxI, rIxH, rIxTH, rSetI, rSetH, rCatI, rRepI, rSlI, rAppendI, rExtendI, decide_eq_true_eq, upd_same, IL_inj, HO.lst.injEq, toInts_cons, toInts_nil, Option.map_some, if_true, if_false, Bool.true_eq_false, Bool.false_eq_true, Bool.not_true, Bool.not_false, Bool.not_eq_true', decide_eq_false_iff_not, atI_0, atI_1, atI_2, atI_3, atI_4, Int.reduceToNat, Int.reduceLT, Int.reduceLE, Int.reduceNeg, Int.reducePow, cast_lit, upd_upd, Int.reduceAdd, Int.reduceMul, Int.reduceSub, Nat.reduceLT, Nat.reduceLeDiff, cmul_r, cdiv_r, tSl, tPart, tNoPart, rEq, rNe, scal_nn, scal_ii, scal_bb, scal_ss, scal_is, scal_si, V.ty.injEq, and_assoc, tyH_non, tyH_bl, tyH_int, tyH_str, tyH_ref, tyO_lst, tyO_IL, tyO_tup, itO_lst, itO_tup, itO_IL, Dw.rIxD, rLenI, rLenH, rLenTH, rLenQ, rLenB, rListI, Dw.rListS, rIntI, rIntB, rSumI, rIsiD, rIsX, tCallS, tMakeS, tMake, tMakeC, tMakeSC, tFld, sFld, HO.ins.injEq, HO.tup.injEq, cxOf_K, nox_K, tr_K, suite_K, rTupleI, rAllB, rAnyB, BL_inj, tChain, wOnly, wAs, wMany, rEqI, rNeI, Dw.rMax2, rMin2, Dw.rIsN, rIsNotN, rStrIn, rStrNotIn, not_true_eq_false, not_false_eq_true, reduceCtorEq, cl_bool, cl_int, cl_str, cl_list, cl_tuple, isB_NoneType_bool, isB_NoneType_int, isB_NoneType_str, isB_NoneType_list, isB_NoneType_tuple, isB_bool_bool, isB_bool_int, isB_bool_str, isB_bool_list, isB_bool_tuple, isB_int_bool, isB_int_int, isB_int_str, isB_int_list, isB_int_tuple, isB_str_bool, isB_str_int, isB_str_str, isB_str_list, isB_str_tuple, isB_list_bool, isB_list_int, isB_list_str, isB_list_list, isB_list_tuple, isB_tuple_bool, isB_tuple_int, isB_tuple_str, isB_tuple_list, isB_tuple_tuple, Dw.rIxL, rListTI, tMakeK, rTupT, tPar, Dw.rSlCI, rIsB]
  exact ⟨line_le (by decide), k⟩
end
section
variable {P : Program} {w : World} {K : PySem.W.Frag} {mg : Str → Option Value} {base : Heap} {A : Ad}
theorem ok_bits_byte (T : Tx K mg A) : FnOk P w K mg base CX0 1 A.f_bits_byte A.d_bits_byte ["bits"] spBitsByte := by
  refine T.F_bits_byte.ok sc_bits_byte (fun vs H Q E h => ?_) (fun cdv A' outer s H vs Q E hr h => ?_)
  · obtain ⟨a, ns, rfl, _⟩ := h
    rfl
  obtain ⟨a, ns, rfl, hA, k⟩ := h
  refine ⟨_, (pss_cons (ps_set (i := 1) sc_bits_byte.nd rfl (Or.inl rfl) pe_int)
      (pss_cons (ps_for PassesOwn.never rfl (pi_list (pv 0)) (pg_name (i := 2) sc_bits_byte.nd rfl (Or.inl rfl))
        (pss_one (ps_set (i := 1) sc_bits_byte.nd rfl (Or.inl rfl) (pe_op op_add (pe_op op_mul pe_int (pv 1)) (pv 2)))))
      (pss_one (ps_ret (pv 1))))), ?_⟩
  try simp only [tSeq, tAsg, tVar, tC, tOp, rI0, rI, tUn, rU, tIfS, tTest, tRet, tRetN, tDrop, tCB, tCons, tNil, tLst, tLstI, tTup, gName, tB, tAnd, tOr, tNot, tAndV, tOrV, tNotV, tIf, tNext, tBreak, tCont, gSub, tCall, tCallN, tAug, ipI, tBML, tBML0, isL_IL, isL_lst, L2.start, List.map_cons, List.map_nil, List.length_cons, List.length_nil, List.cons_append, List.nil_append, List.getElem?_cons_succ, List.getElem?_cons_zero, Option.some.injEq, exists_eq_left', exists_eq_left, exists_and_left, V.int.injEq, V.ref.injEq, V.bl.injEq, V.str.injEq, List.set_cons_zero, List.set_cons_succ, List.cons.injEq, and_true, true_and, Nat.reduceAdd, Nat.reduceSub, List.replicate_succ, List.replicate_zero, rIxI, rIxH, rIxTH, rSetI, rSetH, rCatI, rRepI, rSlI, rAppendI, rExtendI, decide_eq_true_eq, upd_same, IL_inj, HO.lst.injEq, toInts_cons, toInts_nil, Option.map_some, if_true, if_false, Bool.true_eq_false, Bool.false_eq_true, Bool.not_true, Bool.not_false, Bool.not_eq_true', decide_eq_false_iff_not, atI_0, atI_1, atI_2, atI_3, atI_4, Int.reduceToNat, Int.reduceLT, Int.reduceLE, Int.reduceNeg, Int.reducePow, cast_lit, upd_upd, Int.reduceAdd, Int.reduceMul, Int.reduceSub, Nat.reduceLT, Nat.reduceLeDiff, cmul_r, cdiv_r, tSl, tPart, tNoPart, rEq, rNe, scal_nn, scal_ii, scal_bb, scal_ss, scal_is, scal_si, V.ty.injEq, and_assoc, tyH_non, tyH_bl, tyH_int, tyH_str, tyH_ref, tyO_lst, tyO_IL, tyO_tup, itO_lst, itO_tup, itO_IL, Dw.rIxD, rLenI, rLenH, rLenTH, rLenQ, rLenB, rListI, Dw.rListS, rIntI, rIntB, rSumI, rIsiD, rIsX, tCallS, tMakeS, tMake, tMakeC, tMakeSC, tFld, sFld, HO.ins.injEq, HO.tup.injEq, cxOf_K, nox_K, tr_K, suite_K, rTupleI, rAllB, rAnyB, BL_inj, tChain, wOnly, wAs, wMany, rEqI, rNeI, Dw.rMax2, rMin2, Dw.rIsN, rIsNotN, rStrIn, rStrNotIn, not_true_eq_false, not_false_eq_true, reduceCtorEq, cl_bool, cl_int, cl_str, cl_list, cl_tuple, isB_NoneType_bool, isB_NoneType_int, isB_NoneType_str, isB_NoneType_list, isB_NoneType_tuple, isB_bool_bool, isB_bool_int, isB_bool_str, isB_bool_list, isB_bool_tuple, isB_int_bool, isB_int_int, isB_int_str, isB_int_list, isB_int_tuple, isB_str_bool, isB_str_int, isB_str_str, isB_str_list, isB_str_tuple, isB_list_bool, isB_list_int, isB_list_str, isB_list_list, isB_list_tuple, isB_tuple_bool, isB_tuple_int, isB_tuple_str, isB_tuple_list, isB_tuple_tuple, Dw.rIxL, rListTI, tMakeK, rTupT, tPar, Dw.rSlCI, rIsB]
  obtain ⟨I, hI⟩ : ∃ F : Nat → L2.St → Hp → Prop, F = (fun i σ H' => H' = H ∧ ∃ y, σ = [some (V.ref a), some (V.int (byteZ (ns.take i))), y]) := ⟨_, rfl⟩
  refine ⟨_, rfl, a, rfl, ⟨_, .of hA⟩, for_list (xs := ns.map V.int) I (by rw [hI]; exact ⟨rfl, none, rfl⟩) ?_ ?_ ?_⟩
  · intro i σ H' hi h
    rw [hI] at h
    obtain ⟨rfl, _⟩ := h
    exact .of hA
  · intro i v σ H' hi h
    rw [hI] at h
    obtain ⟨rfl, y, rfl⟩ := h
    obtain ⟨z, rfl, hz⟩ := ints_at hi
    have cm : ∀ x, CMul 2 x := fun x => .inl ⟨by decide, by decide⟩
    try simp only [tSeq, tAsg, tVar, tC, tOp, rI0, rI, tUn, rU, tIfS, tTest, tRet, tRetN, tDrop, tCB, tCons, tNil, tLst, tLstI, tTup, gName, tB, tAnd, tOr, tNot, tAndV, tOrV, tNotV, tIf, tNext, tBreak, tCont, gSub, tCall, tCallN, tAug, ipI, tBML, tBML0, isL_IL, isL_lst, L2.start, List.map_cons, List.map_nil, List.length_cons, List.length_nil, List.cons_append, List.nil_append, List.getElem?_cons_succ, List.getElem?_cons_zero, Option.some.injEq, exists_eq_left', exists_eq_left, exists_and_left, V.int.injEq, V.ref.injEq, V.bl.injEq, V.str.injEq, List.set_cons_zero, List.set_cons_succ, List.cons.injEq, and_true, true_and, Nat.reduceAdd, Nat.reduceSub, List.replicate_succ, List.replicate_zero, rIxI, rIxH, rIxTH, rSetI, rSetH, rCatI, rRepI, rSlI, rAppendI, rExtendI, decide_eq_true_eq, upd_same, IL_inj, HO.lst.injEq, toInts_cons, toInts_nil, Option.map_some, if_true, if_false, Bool.true_eq_false, Bool.false_eq_true, Bool.not_true, Bool.not_false, Bool.not_eq_true', decide_eq_false_iff_not, atI_0, atI_1, atI_2, atI_3, atI_4, Int.reduceToNat, Int.reduceLT, Int.reduceLE, Int.reduceNeg, Int.reducePow, cast_lit, upd_upd, Int.reduceAdd, Int.reduceMul, Int.reduceSub, Nat.reduceLT, Nat.reduceLeDiff, cmul_r, cdiv_r, tSl, tPart, tNoPart, rEq, rNe, scal_nn, scal_ii, scal_bb, scal_ss, scal_is, scal_si, V.ty.injEq, and_assoc, tyH_non, tyH_bl, tyH_int, tyH_str, tyH_ref, tyO_lst, tyO_IL, tyO_tup, itO_lst, itO_tup, itO_IL, Dw.rIxD, rLenI, rLenH, rLenTH, rLenQ, rLenB, rListI, Dw.rListS, rIntI, rIntB, rSumI, rIsiD, rIsX, tCallS, tMakeS, tMake, tMakeC, tMakeSC, tFld, sFld, HO.ins.injEq, HO.tup.injEq, cxOf_K, nox_K, tr_K, suite_K, rTupleI, rAllB, rAnyB, BL_inj, tChain, wOnly, wAs, wMany, rEqI, rNeI, Dw.rMax2, rMin2, Dw.rIsN, rIsNotN, rStrIn, rStrNotIn, not_true_eq_false, not_false_eq_true, reduceCtorEq, cl_bool, cl_int, cl_str, cl_list, cl_tuple, isB_NoneType_bool, isB_NoneType_int, isB_NoneType_str, isB_NoneType_list, isB_NoneType_tuple, isB_bool_bool, isB_bool_int, isB_bool_str, isB_bool_list, isB_bool_tuple, isB_int_bool, isB_int_int, isB_int_str, isB_int_list, isB_int_tuple, isB_str_bool, isB_str_int, isB_str_str, isB_str_list, isB_str_tuple, isB_list_bool, isB_list_int, isB_list_str, isB_list_list, isB_list_tuple, isB_tuple_bool, isB_tuple_int, isB_tuple_str, isB_tuple_list, isB_tuple_tuple, Dw.rIxL, rListTI, tMakeK, rTupT, tPar, Dw.rSlCI, rIsB, cm]
    rw [hI]
    exact ⟨rfl, _, by rw [byteZ_more hz]⟩
  · intro σ H' h
    rw [hI] at h
    obtain ⟨rfl, y, rfl⟩ := h
    try simp only [tSeq, tAsg, tVar, tC, tOp, rI0, rI, tUn, rU, tIfS, tTest, tRet, tRetN, tDrop, tCB, tCons, tNil, tLst, tLstI, tTup, gName, tB, tAnd, tOr, tNot, tAndV, tOrV, tNotV, tIf, tNext, tBreak, tCont, gSub, tCall, tCallN, tAug, ipI, tBML, tBML0, isL_IL, isL_lst, L2.start, List.map_cons, List.map_nil, List.length_cons, List.length_nil, List.cons_append, List.nil_append, List.getElem?_cons_succ, List.getElem?_cons_zero, Option.some.injEq, exists_eq_left', exists_eq_left, exists_and_left, V.int.injEq, V.ref.injEq, V.bl.injEq, V.str.injEq, List.set_cons_zero, List.set_cons_succ, List.cons.injEq, and_true, true_and, Nat.reduceAdd, Nat.reduceSub, List.replicate_succ, List.replicate_zero, rIxI, rIxH, rIxTH, rSetI, rSetH, rCatI, rRepI, rSlI, rAppendI, rExtendI, decide_eq_true_eq, upd_same, IL_inj, HO.lst.injEq, toInts_cons, toInts_nil, Option.map_some, if_true, if_false, Bool.true_eq_false, Bool.false_eq_true, Bool.not_true, Bool.not_false, Bool.not_eq_true', decide_eq_false_iff_not, atI_0, atI_1, atI_2, atI_3, atI_4, Int.reduceToNat, Int.reduceLT, Int.reduceLE, Int.reduceNeg, Int.reducePow, cast_lit, upd_upd, Int.reduceAdd, Int.reduceMul, Int.reduceSub, Nat.reduceLT, Nat.reduceLeDiff, cmul_r, cdiv_r, tSl, tPart, tNoPart, rEq, rNe, scal_nn, scal_ii, scal_bb, scal_ss, scal_is, scal_si, V.ty.injEq, and_assoc, tyH_non, tyH_bl, tyH_int, tyH_str, tyH_ref, tyO_lst, tyO_IL, tyO_tup, itO_lst, itO_tup, itO_IL, Dw.rIxD, rLenI, rLenH, rLenTH, rLenQ, rLenB, rListI, Dw.rListS, rIntI, rIntB, rSumI, rIsiD, rIsX, tCallS, tMakeS, tMake, tMakeC, tMakeSC, tFld, sFld, HO.ins.injEq, HO.tup.injEq, cxOf_K, nox_K, tr_K, suite_K, rTupleI, rAllB, rAnyB, BL_inj, tChain, wOnly, wAs, wMany, rEqI, rNeI, Dw.rMax2, rMin2, Dw.rIsN, rIsNotN, rStrIn, rStrNotIn, not_true_eq_false, not_false_eq_true, reduceCtorEq, cl_bool, cl_int, cl_str, cl_list, cl_tuple, isB_NoneType_bool, isB_NoneType_int, isB_NoneType_str, isB_NoneType_list, isB_NoneType_tuple, isB_bool_bool, isB_bool_int, isB_bool_str, isB_bool_list, isB_bool_tuple, isB_int_bool, isB_int_int, isB_int_str, isB_int_list, isB_int_tuple, isB_str_bool, isB_str_int, isB_str_str, isB_str_list, isB_str_tuple, isB_list_bool, isB_list_int, isB_list_str, isB_list_list, isB_list_tuple, isB_tuple_bool, isB_tuple_int, isB_tuple_str, isB_tuple_list, isB_tuple_tuple, Dw.rIxL, rListTI, tMakeK, rTupT, tPar, Dw.rSlCI, rIsB]
    rw [List.length_map, List.take_length]
    exact k
end
section
variable {P : Program} {w : World} {K : PySem.W.Frag} {mg : Str → Option Value} {base : Heap} {A : Ad}
theorem ok_whole_bytes (T : Tx K mg A) : FnOk P w K mg base CX0 1 A.f_whole_bytes A.d_whole_bytes ["cells", "count"] spWhole := by
  refine T.F_whole_bytes.ok sc_whole_bytes (fun vs H Q E h => ?_) (fun cdv A' outer s H vs Q E hr h => ?_)
  · obtain ⟨a, cs, c, rfl, _⟩ := h
    rfl
  obtain ⟨a, cs, c, rfl, hA, hl, c0, c1, k⟩ := h
  refine ⟨_, (pss_one (ps_ret (pe_slice sl_listI (pv 0) po_none (po_some (pe_op op_mul (pe_op op_fdiv (pe_callB call_lenI (by rfl) T.z_len (by decide +kernel) (pa_cons (pv 0) pa_nil)) (pv 1)) (pv 1)))))), ?_⟩
  have cd : CDiv (cs.length : Int) (c : Int) = True := cdiv_r (by omega) (by omega)
  have cm : ∀ x, CMul x (c : Int) = True := fun x => cmul_r (by omega) (by omega)
  have e1 : (cs.length : Int) / (c : Int) * (c : Int) = ((cs.length / c * c : Nat) : Int) := by
    rw [Int.natCast_mul, Int.natCast_ediv]
  have hle : cs.length / c * c ≤ cs.length := Nat.div_mul_le_self _ _
  have ec : cutI cs none (some ((cs.length / c * c : Nat) : Int)) = cs.take (cs.length / c * c) := by
    unfold cutI
    rw [HT.sIx_nat, HT.sIx_none, Nat.min_eq_left hle]
    rfl
  try simp only [tSeq, tAsg, tVar, tC, tOp, rI0, rI, tUn, rU, tIfS, tTest, tRet, tRetN, tDrop, tCB, tCons, tNil, tLst, tLstI, tTup, gName, tB, tAnd, tOr, tNot, tAndV, tOrV, tNotV, tIf, tNext, tBreak, tCont, gSub, tCall, tCallN, tAug, ipI, tBML, tBML0, isL_IL, isL_lst, L2.start, List.map_cons, List.map_nil, List.length_cons, List.length_nil, List.cons_append, List.nil_append, List.getElem?_cons_succ, List.getElem?_cons_zero, Option.some.injEq, exists_eq_left', exists_eq_left, exists_and_left, V.int.injEq, V.ref.injEq, V.bl.injEq, V.str.injEq, List.set_cons_zero, List.set_cons_succ, List.cons.injEq, and_true, true_and, Nat.reduceAdd, Nat.reduceSub, List.replicate_succ, List.replicate_zero, rIxI, rIxH, rIxTH, rSetI, rSetH, rCatI, rRepI, rSlI, rAppendI, rExtendI, decide_eq_true_eq, upd_same, IL_inj, HO.lst.injEq, toInts_cons, toInts_nil, Option.map_some, if_true, if_false, Bool.true_eq_false, Bool.false_eq_true, Bool.not_true, Bool.not_false, Bool.not_eq_true', decide_eq_false_iff_not, atI_0, atI_1, atI_2, atI_3, atI_4, Int.reduceToNat, Int.reduceLT, Int.reduceLE, Int.reduceNeg, Int.reducePow, cast_lit, upd_upd, Int.reduceAdd, Int.reduceMul, Int.reduceSub, Nat.reduceLT, Nat.reduceLeDiff, cmul_r, cdiv_r, tSl, tPart, tNoPart, rEq, rNe, scal_nn, scal_ii, scal_bb, scal_ss, scal_is, scal_si, V.ty.injEq, and_assoc, tyH_non, tyH_bl, tyH_int, tyH_str, tyH_ref, tyO_lst, tyO_IL, tyO_tup, itO_lst, itO_tup, itO_IL, Dw.rIxD, rLenI, rLenH, rLenTH, rLenQ, rLenB, rListI, Dw.rListS, rIntI, rIntB, rSumI, rIsiD, rIsX, tCallS, tMakeS, tMake, tMakeC, tMakeSC, tFld, sFld, HO.ins.injEq, HO.tup.injEq, cxOf_K, nox_K, tr_K, suite_K, rTupleI, rAllB, rAnyB, BL_inj, tChain, wOnly, wAs, wMany, rEqI, rNeI, Dw.rMax2, rMin2, Dw.rIsN, rIsNotN, rStrIn, rStrNotIn, not_true_eq_false, not_false_eq_true, reduceCtorEq, cl_bool, cl_int, cl_str, cl_list, cl_tuple, isB_NoneType_bool, isB_NoneType_int, isB_NoneType_str, isB_NoneType_list, isB_NoneType_tuple, isB_bool_bool, isB_bool_int, isB_bool_str, isB_bool_list, isB_bool_tuple, isB_int_bool, isB_int_int, isB_int_str, isB_int_list, isB_int_tuple, isB_str_bool, isB_str_int, isB_str_str, isB_str_list, isB_str_tuple, isB_list_bool, isB_list_int, isB_list_str, isB_list_list, isB_list_tuple, isB_tuple_bool, isB_tuple_int, isB_tuple_str, isB_tuple_list, isB_tuple_tuple, rSlCI, iRng3, iRev, gCons, gNil, iZip, iEnum, tLc_eq, tFor_eq, iRng1, iRng2, iList, iTup, rSetD, iKeys, tDNewK, Int.reducePow, Int.reduceNeg, Dw.rIxL, rListTI, tMakeK, rTupT, tPar, Dw.rSlCI, rIsB, hA, cd, cm, e1, ec]
  exact fun p hp => k p _ (same_new hp _) hp upd_same
theorem ok_bytes_of_bits (T : Tx K mg A) : FnOk P w K mg base CX0 2 A.f_bytes_of_bits A.d_bytes_of_bits ["bits"] spBytesOf := by
  refine T.F_bytes_of_bits.ok sc_bytes_of_bits (fun vs H Q E h => ?_) (fun cdv A' outer s H vs Q E hr h => ?_)
  · obtain ⟨a, cs, rfl, _⟩ := h
    rfl
  obtain ⟨a, cs, rfl, hA, hl, h8, k⟩ := h
  refine ⟨_, (pss_one (ps_ret (pe_lc (own := [("at", 1)]) (g := (gName 1)) (tt := tYes) rfl sc_bytes_of_bits.nd (pi_range3 rfl T.z_range (pa_cons pe_int (pa_cons (pe_callB call_lenI (by rfl) T.z_len (by decide +kernel) (pa_cons (pv 0) pa_nil)) (pa_cons pe_int pa_nil)))) (blkOk_by (N := n_bytes_of_bits) (sc := (defScope s_bytes_of_bits)) (by decide +kernel)) (fun _ _ _ _ _ => (pg_name (i := 1) sc_bytes_of_bits.nd rfl (Or.inl rfl))) (fun _ _ _ _ _ => pts_nil) (fun _ _ _ _ _ => (pe_call (ok_bits_byte T) (hr.mono (by decide)) rfl T.g_bits_byte T.F_bits_byte.kp T.b_bits_byte .nil pass0 (pa_cons (pe_slice sl_listI (pv 0) (po_some (pv 1)) (po_some (pe_op op_add (pv 1) pe_int))) pa_nil)))))), ?_⟩
  try simp only [tSeq, tAsg, tVar, tC, tOp, rI0, rI, tUn, rU, tIfS, tTest, tRet, tRetN, tDrop, tCB, tCons, tNil, tLst, tLstI, tTup, gName, tB, tAnd, tOr, tNot, tAndV, tOrV, tNotV, tIf, tNext, tBreak, tCont, gSub, tCall, tCallN, tAug, ipI, tBML, tBML0, isL_IL, isL_lst, L2.start, List.map_cons, List.map_nil, List.length_cons, List.length_nil, List.cons_append, List.nil_append, List.getElem?_cons_succ, List.getElem?_cons_zero, Option.some.injEq, exists_eq_left', exists_eq_left, exists_and_left, V.int.injEq, V.ref.injEq, V.bl.injEq, V.str.injEq, List.set_cons_zero, List.set_cons_succ, List.cons.injEq, and_true, true_and, Nat.reduceAdd, Nat.reduceSub, List.replicate_succ, List.replicate_zero, rIxI, rIxH, rIxTH, rSetI, rSetH, rCatI, rRepI, rSlI, rAppendI, rExtendI, decide_eq_true_eq, upd_same, IL_inj, HO.lst.injEq, toInts_cons, toInts_nil, Option.map_some, if_true, if_false, Bool.true_eq_false, Bool.false_eq_true, Bool.not_true, Bool.not_false, Bool.not_eq_true', decide_eq_false_iff_not, atI_0, atI_1, atI_2, atI_3, atI_4, Int.reduceToNat, Int.reduceLT, Int.reduceLE, Int.reduceNeg, Int.reducePow, cast_lit, upd_upd, Int.reduceAdd, Int.reduceMul, Int.reduceSub, Nat.reduceLT, Nat.reduceLeDiff, cmul_r, cdiv_r, tSl, tPart, tNoPart, rEq, rNe, scal_nn, scal_ii, scal_bb, scal_ss, scal_is, scal_si, V.ty.injEq, and_assoc, tyH_non, tyH_bl, tyH_int, tyH_str, tyH_ref, tyO_lst, tyO_IL, tyO_tup, itO_lst, itO_tup, itO_IL, Dw.rIxD, rLenI, rLenH, rLenTH, rLenQ, rLenB, rListI, Dw.rListS, rIntI, rIntB, rSumI, rIsiD, rIsX, tCallS, tMakeS, tMake, tMakeC, tMakeSC, tFld, sFld, HO.ins.injEq, HO.tup.injEq, cxOf_K, nox_K, tr_K, suite_K, rTupleI, rAllB, rAnyB, BL_inj, tChain, wOnly, wAs, wMany, rEqI, rNeI, Dw.rMax2, rMin2, Dw.rIsN, rIsNotN, rStrIn, rStrNotIn, not_true_eq_false, not_false_eq_true, reduceCtorEq, cl_bool, cl_int, cl_str, cl_list, cl_tuple, isB_NoneType_bool, isB_NoneType_int, isB_NoneType_str, isB_NoneType_list, isB_NoneType_tuple, isB_bool_bool, isB_bool_int, isB_bool_str, isB_bool_list, isB_bool_tuple, isB_int_bool, isB_int_int, isB_int_str, isB_int_list, isB_int_tuple, isB_str_bool, isB_str_int, isB_str_str, isB_str_list, isB_str_tuple, isB_list_bool, isB_list_int, isB_list_str, isB_list_list, isB_list_tuple, isB_tuple_bool, isB_tuple_int, isB_tuple_str, isB_tuple_list, isB_tuple_tuple, rSlCI, iRng3, iRev, gCons, gNil, iZip, iEnum, tLc_eq, tFor_eq, iRng1, iRng2, iList, iTup, rSetD, iKeys, tDNewK, Int.reducePow, Int.reduceNeg, Dw.rIxL, rListTI, tMakeK, rTupT, tPar, Dw.rSlCI, rIsB, hA]
  have hn : cs.length = 8 * (cs.length / 8) := by omega
  have hrg := rgC_len (len := cs.length) (c := 8) (by decide) (by decide) (by omega)
  have e78 : (cs.length + 8 - 1) / 8 = cs.length / 8 := by omega
  rw [e78] at hrg
  refine ⟨cs.length / 8, hrg, fun D hD => ?_⟩
  refine lc_rangeCI (f := fun k => byteZ ((cs.drop (8 * k)).take 8)) (by omega) hD (fun _ => rfl) ?_ fun H1 s1 e1 => k D H1 s1 hD e1
  intro i H3 Q' hi s3 hq
  have e3 := s3 _ _ hA
  have e0 : (0 : Int) + (i : Int) * 8 = ((8 * i : Nat) : Int) := by omega
  have e8 : ((8 * i : Nat) : Int) + 8 = ((8 * i + 8 : Nat) : Int) := by omega
  have et : 8 * i + 8 - 8 * i = 8 := by omega
  try simp only [tSeq, tAsg, tVar, tC, tOp, rI0, rI, tUn, rU, tIfS, tTest, tRet, tRetN, tDrop, tCB, tCons, tNil, tLst, tLstI, tTup, gName, tB, tAnd, tOr, tNot, tAndV, tOrV, tNotV, tIf, tNext, tBreak, tCont, gSub, tCall, tCallN, tAug, ipI, tBML, tBML0, isL_IL, isL_lst, L2.start, List.map_cons, List.map_nil, List.length_cons, List.length_nil, List.cons_append, List.nil_append, List.getElem?_cons_succ, List.getElem?_cons_zero, Option.some.injEq, exists_eq_left', exists_eq_left, exists_and_left, V.int.injEq, V.ref.injEq, V.bl.injEq, V.str.injEq, List.set_cons_zero, List.set_cons_succ, List.cons.injEq, and_true, true_and, Nat.reduceAdd, Nat.reduceSub, List.replicate_succ, List.replicate_zero, rIxI, rIxH, rIxTH, rSetI, rSetH, rCatI, rRepI, rSlI, rAppendI, rExtendI, decide_eq_true_eq, upd_same, IL_inj, HO.lst.injEq, toInts_cons, toInts_nil, Option.map_some, if_true, if_false, Bool.true_eq_false, Bool.false_eq_true, Bool.not_true, Bool.not_false, Bool.not_eq_true', decide_eq_false_iff_not, atI_0, atI_1, atI_2, atI_3, atI_4, Int.reduceToNat, Int.reduceLT, Int.reduceLE, Int.reduceNeg, Int.reducePow, cast_lit, upd_upd, Int.reduceAdd, Int.reduceMul, Int.reduceSub, Nat.reduceLT, Nat.reduceLeDiff, cmul_r, cdiv_r, tSl, tPart, tNoPart, rEq, rNe, scal_nn, scal_ii, scal_bb, scal_ss, scal_is, scal_si, V.ty.injEq, and_assoc, tyH_non, tyH_bl, tyH_int, tyH_str, tyH_ref, tyO_lst, tyO_IL, tyO_tup, itO_lst, itO_tup, itO_IL, Dw.rIxD, rLenI, rLenH, rLenTH, rLenQ, rLenB, rListI, Dw.rListS, rIntI, rIntB, rSumI, rIsiD, rIsX, tCallS, tMakeS, tMake, tMakeC, tMakeSC, tFld, sFld, HO.ins.injEq, HO.tup.injEq, cxOf_K, nox_K, tr_K, suite_K, rTupleI, rAllB, rAnyB, BL_inj, tChain, wOnly, wAs, wMany, rEqI, rNeI, Dw.rMax2, rMin2, Dw.rIsN, rIsNotN, rStrIn, rStrNotIn, not_true_eq_false, not_false_eq_true, reduceCtorEq, cl_bool, cl_int, cl_str, cl_list, cl_tuple, isB_NoneType_bool, isB_NoneType_int, isB_NoneType_str, isB_NoneType_list, isB_NoneType_tuple, isB_bool_bool, isB_bool_int, isB_bool_str, isB_bool_list, isB_bool_tuple, isB_int_bool, isB_int_int, isB_int_str, isB_int_list, isB_int_tuple, isB_str_bool, isB_str_int, isB_str_str, isB_str_list, isB_str_tuple, isB_list_bool, isB_list_int, isB_list_str, isB_list_list, isB_list_tuple, isB_tuple_bool, isB_tuple_int, isB_tuple_str, isB_tuple_list, isB_tuple_tuple, rSlCI, iRng3, iRev, gCons, gNil, iZip, iEnum, tLc_eq, tFor_eq, iRng1, iRng2, iList, iTup, rSetD, iKeys, tDNewK, Int.reducePow, Int.reduceNeg, Dw.rIxL, rListTI, tMakeK, rTupT, tPar, Dw.rSlCI, rIsB, wipe, e0, e8, e3, cutI_nat (show 8 * i ≤ 8 * i + 8 by omega) (show 8 * i + 8 ≤ cs.length by omega), et]
  exact fun u hu => ⟨u, _, rfl, upd_same, hq _ (same_new hu _)⟩
theorem ok_read_mfm (T : Tx K mg A) : FnOk P w K mg base CX0 3 A.f_read_mfm A.d_read_mfm ["cells", "before"] spReadMfm := by
  refine T.F_read_mfm.ok sc_read_mfm (fun vs H Q E h => ?_) (fun cdv A' outer s H vs Q E hr h => ?_)
  · obtain ⟨a, cs, b, rfl, _⟩ := h
    rfl
  obtain ⟨a, cs, b, rfl, hA, hl, k⟩ := h
  refine ⟨_, PSs.nox ((pss_cons (ps_set (i := 2) sc_read_mfm.nd rfl (Or.inl rfl) (pe_call (ok_whole_bytes T) (hr.mono (by decide)) rfl T.g_whole_bytes T.F_whole_bytes.kp T.b_whole_bytes .nil pass0 (pa_cons (pv 0) (pa_cons pe_int pa_nil))))
      (pss_cons (ps_set (i := 3) sc_read_mfm.nd rfl (Or.inl rfl) (pe_sliceC slcI (by decide) (pv 2) (po_some pe_int) po_none))
      (pss_cons (ps_set (i := 4) sc_read_mfm.nd rfl (Or.inl rfl) (pe_lstI pa_nil))
      (pss_cons (ps_set (i := 5) sc_read_mfm.nd rfl (Or.inl rfl) (pv 1))
      (pss_cons (ps_for PassesOwn.never rfl (pi_enum (by rfl) T.z_enumerate (pa_cons (pe_sliceC slcI (by decide) (pv 2) (po_some pe_int) po_none) pa_nil)) (pg_tup (n := 2) rfl (pgs_cons (pg_name (i := 6) sc_read_mfm.nd rfl (Or.inl rfl)) (pgs_cons (pg_name (i := 7) sc_read_mfm.nd rfl (Or.inl rfl)) pgs_nil)))
        (pss_cons (ps_if (pt_cmpR op_ne (pv 7) (pe_call (ok_mfm_clock T) (hr.mono (by decide)) rfl T.g_mfm_clock T.F_mfm_clock.kp T.b_mfm_clock .nil pass0 (pa_cons (pv 5) (pa_cons (pe_ix ix_listI (pv 3) (pv 6) (fun _ _ => rfl)) pa_nil))) (nomark _)) (pss_one (ps_expr (PE.imp (pe_bm PySem.F.plainAttrs_list PySem.F.slot_list_append PySem.F.type_list_append mt_appendI (pv 4) (pa_cons (pv 6) pa_nil)) bml_imp))) pss_nil)
      (pss_one (ps_set (i := 5) sc_read_mfm.nd rfl (Or.inl rfl) (pe_ix ix_listI (pv 3) (pv 6) (fun _ _ => rfl))))))
      (pss_one (ps_ret (pe_tup (pa_cons (pe_call (ok_bytes_of_bits T) (hr.mono (by decide)) rfl T.g_bytes_of_bits T.F_bytes_of_bits.kp T.b_bytes_of_bits .nil pass0 (pa_cons (pv 3) pa_nil)) (pa_cons (pv 4) pa_nil))))))))))), ?_⟩
  try simp only [tSeq, tAsg, tVar, tC, tOp, rI0, rI, tUn, rU, tIfS, tTest, tRet, tRetN, tDrop, tCB, tCons, tNil, tLst, tLstI, tTup, gName, tB, tAnd, tOr, tNot, tAndV, tOrV, tNotV, tIf, tNext, tBreak, tCont, gSub, tCall, tCallN, tAug, ipI, tBML, tBML0, isL_IL, isL_lst, L2.start, List.map_cons, List.map_nil, List.length_cons, List.length_nil, List.cons_append, List.nil_append, List.getElem?_cons_succ, List.getElem?_cons_zero, Option.some.injEq, exists_eq_left', exists_eq_left, exists_and_left, V.int.injEq, V.ref.injEq, V.bl.injEq, V.str.injEq, List.set_cons_zero, List.set_cons_succ, List.cons.injEq, and_true, true_and, Nat.reduceAdd, Nat.reduceSub, List.replicate_succ, List.replicate_zero, rIxI, rIxH, rIxTH, rSetI, rSetH, rCatI, rRepI, rSlI, rAppendI, rExtendI, decide_eq_true_eq, upd_same, IL_inj, HO.lst.injEq, toInts_cons, toInts_nil, Option.map_some, if_true, if_false, Bool.true_eq_false, Bool.false_eq_true, Bool.not_true, Bool.not_false, Bool.not_eq_true', decide_eq_false_iff_not, atI_0, atI_1, atI_2, atI_3, atI_4, Int.reduceToNat, Int.reduceLT, Int.reduceLE, Int.reduceNeg, Int.reducePow, cast_lit, upd_upd, Int.reduceAdd, Int.reduceMul, Int.reduceSub, Nat.reduceLT, Nat.reduceLeDiff, cmul_r, cdiv_r, tSl, tPart, tNoPart, rEq, rNe, scal_nn, scal_ii, scal_bb, scal_ss, scal_is, scal_si, V.ty.injEq, and_assoc, tyH_non, tyH_bl, tyH_int, tyH_str, tyH_ref, tyO_lst, tyO_IL, tyO_tup, itO_lst, itO_tup, itO_IL, Dw.rIxD, rLenI, rLenH, rLenTH, rLenQ, rLenB, rListI, Dw.rListS, rIntI, rIntB, rSumI, rIsiD, rIsX, tCallS, tMakeS, tMake, tMakeC, tMakeSC, tFld, sFld, HO.ins.injEq, HO.tup.injEq, cxOf_K, nox_K, tr_K, suite_K, rTupleI, rAllB, rAnyB, BL_inj, tChain, wOnly, wAs, wMany, rEqI, rNeI, Dw.rMax2, rMin2, Dw.rIsN, rIsNotN, rStrIn, rStrNotIn, not_true_eq_false, not_false_eq_true, reduceCtorEq, cl_bool, cl_int, cl_str, cl_list, cl_tuple, isB_NoneType_bool, isB_NoneType_int, isB_NoneType_str, isB_NoneType_list, isB_NoneType_tuple, isB_bool_bool, isB_bool_int, isB_bool_str, isB_bool_list, isB_bool_tuple, isB_int_bool, isB_int_int, isB_int_str, isB_int_list, isB_int_tuple, isB_str_bool, isB_str_int, isB_str_str, isB_str_list, isB_str_tuple, isB_list_bool, isB_list_int, isB_list_str, isB_list_list, isB_list_tuple, isB_tuple_bool, isB_tuple_int, isB_tuple_str, isB_tuple_list, isB_tuple_tuple, rSlCI, iRng3, iRev, gCons, gNil, iZip, iEnum, tLc_eq, tFor_eq, iRng1, iRng2, iList, iTup, rSetD, iKeys, tDNewK, Int.reducePow, Int.reduceNeg, Dw.rIxL, rListTI, tMakeK, rTupT, tPar, Dw.rSlCI, rIsB]
  refine ⟨a, cs, 16, rfl, hA, hl, by decide, by decide, fun W H1 s1 nW eW => ?_⟩
  have h2 : 2 * (8 * (cs.length / 16)) ≤ cs.length := by omega
  have e16 : cs.length / 16 * 16 = 2 * (8 * (cs.length / 16)) := by omega
  rw [e16] at eW
  try simp only [tSeq, tAsg, tVar, tC, tOp, rI0, rI, tUn, rU, tIfS, tTest, tRet, tRetN, tDrop, tCB, tCons, tNil, tLst, tLstI, tTup, gName, tB, tAnd, tOr, tNot, tAndV, tOrV, tNotV, tIf, tNext, tBreak, tCont, gSub, tCall, tCallN, tAug, ipI, tBML, tBML0, isL_IL, isL_lst, L2.start, List.map_cons, List.map_nil, List.length_cons, List.length_nil, List.cons_append, List.nil_append, List.getElem?_cons_succ, List.getElem?_cons_zero, Option.some.injEq, exists_eq_left', exists_eq_left, exists_and_left, V.int.injEq, V.ref.injEq, V.bl.injEq, V.str.injEq, List.set_cons_zero, List.set_cons_succ, List.cons.injEq, and_true, true_and, Nat.reduceAdd, Nat.reduceSub, List.replicate_succ, List.replicate_zero, rIxI, rIxH, rIxTH, rSetI, rSetH, rCatI, rRepI, rSlI, rAppendI, rExtendI, decide_eq_true_eq, upd_same, IL_inj, HO.lst.injEq, toInts_cons, toInts_nil, Option.map_some, if_true, if_false, Bool.true_eq_false, Bool.false_eq_true, Bool.not_true, Bool.not_false, Bool.not_eq_true', decide_eq_false_iff_not, atI_0, atI_1, atI_2, atI_3, atI_4, Int.reduceToNat, Int.reduceLT, Int.reduceLE, Int.reduceNeg, Int.reducePow, cast_lit, upd_upd, Int.reduceAdd, Int.reduceMul, Int.reduceSub, Nat.reduceLT, Nat.reduceLeDiff, cmul_r, cdiv_r, tSl, tPart, tNoPart, rEq, rNe, scal_nn, scal_ii, scal_bb, scal_ss, scal_is, scal_si, V.ty.injEq, and_assoc, tyH_non, tyH_bl, tyH_int, tyH_str, tyH_ref, tyO_lst, tyO_IL, tyO_tup, itO_lst, itO_tup, itO_IL, Dw.rIxD, rLenI, rLenH, rLenTH, rLenQ, rLenB, rListI, Dw.rListS, rIntI, rIntB, rSumI, rIsiD, rIsX, tCallS, tMakeS, tMake, tMakeC, tMakeSC, tFld, sFld, HO.ins.injEq, HO.tup.injEq, cxOf_K, nox_K, tr_K, suite_K, rTupleI, rAllB, rAnyB, BL_inj, tChain, wOnly, wAs, wMany, rEqI, rNeI, Dw.rMax2, rMin2, Dw.rIsN, rIsNotN, rStrIn, rStrNotIn, not_true_eq_false, not_false_eq_true, reduceCtorEq, cl_bool, cl_int, cl_str, cl_list, cl_tuple, isB_NoneType_bool, isB_NoneType_int, isB_NoneType_str, isB_NoneType_list, isB_NoneType_tuple, isB_bool_bool, isB_bool_int, isB_bool_str, isB_bool_list, isB_bool_tuple, isB_int_bool, isB_int_int, isB_int_str, isB_int_list, isB_int_tuple, isB_str_bool, isB_str_int, isB_str_str, isB_str_list, isB_str_tuple, isB_list_bool, isB_list_int, isB_list_str, isB_list_list, isB_list_tuple, isB_tuple_bool, isB_tuple_int, isB_tuple_str, isB_tuple_list, isB_tuple_tuple, rSlCI, iRng3, iRev, gCons, gNil, iZip, iEnum, tLc_eq, tFor_eq, iRng1, iRng2, iList, iTup, rSetD, iKeys, tDNewK, Int.reducePow, Int.reduceNeg, Dw.rIxL, rListTI, tMakeK, rTupT, tPar, Dw.rSlCI, rIsB, eW, whole_even h2, whole_odd h2]
  intro u1 hu1
  refine ⟨Nat.zero_le _, fun u2 hu2 => ?_⟩
  have hol := odds_len cs (8 * (cs.length / 16))
  have hel := evens_len cs (8 * (cs.length / 16))
  have e1 : upd H1 u1 (IL (odds cs (8 * (cs.length / 16)))) u1 = some (IL (odds cs (8 * (cs.length / 16)))) := upd_same
  have eW2 := same_new hu1 (IL (odds cs (8 * (cs.length / 16)))) _ _ eW
  have s2 := s1.trans (same_new hu1 (IL (odds cs (8 * (cs.length / 16)))))
  have ho2 := hu2
  have d12 : u1 ≠ u2 := ne_of_none e1 hu2
  refine ⟨_, same_new hu2 _ _ _ eW2, fun u3 hu3 => ?_⟩
  rw [whole_even h2]
  have e2 : upd (upd (upd H1 u1 (IL (odds cs (8 * (cs.length / 16))))) u2 (IL [])) u3 (IL (evens cs (8 * (cs.length / 16)))) u2 = some (IL []) := same_new hu3 _ _ _ upd_same
  have e1b : upd (upd (upd H1 u1 (IL (odds cs (8 * (cs.length / 16))))) u2 (IL [])) u3 (IL (evens cs (8 * (cs.length / 16)))) u1 = some (IL (odds cs (8 * (cs.length / 16)))) := same_new hu3 _ _ _ (same_new hu2 _ _ _ e1)
  have e3 : upd (upd (upd H1 u1 (IL (odds cs (8 * (cs.length / 16))))) u2 (IL [])) u3 (IL (evens cs (8 * (cs.length / 16)))) u3 = some (IL (evens cs (8 * (cs.length / 16)))) := upd_same
  have sH : Same H (upd (upd (upd H1 u1 (IL (odds cs (8 * (cs.length / 16))))) u2 (IL [])) u3 (IL (evens cs (8 * (cs.length / 16))))) := s2.trans ((same_new hu2 _).trans (same_new hu3 _))
  have d32 : u3 ≠ u2 := fun e => by subst e; rw [upd_same] at hu3; cases hu3
  have hH2 : H u2 = none := same_none s2 hu2
  generalize upd (upd (upd H1 u1 (IL (odds cs (8 * (cs.length / 16))))) u2 (IL [])) u3 (IL (evens cs (8 * (cs.length / 16)))) = G at e2 e1b e3 sH ⊢
  have hNl : 8 * (cs.length / 16) ≤ 1000000 := by omega
  generalize hcl : evens cs (8 * (cs.length / 16)) = cl at *
  generalize hbs : odds cs (8 * (cs.length / 16)) = bs at *
  refine ⟨_, .of e3, ?_⟩
  have hfl : ∀ i, ((List.range i).filter (mfmT b cl bs)).length ≤ i := fun i => by
    have := List.length_filter_le (mfmT b cl bs) (List.range i)
    rw [List.length_range] at this
    exact this
  obtain ⟨I, hI⟩ : ∃ F : Nat → L2.St → Hp → Prop, F = (fun i σ H' => Same H H' ∧ H' u1 = some (IL bs) ∧ H' u3 = some (IL cl) ∧ H' u2 = some (IL (((List.range i).filter (mfmT b cl bs)).map fun i : Nat => (i : Int))) ∧ ∃ y6 y7, σ = [some (.ref a), some (.int b), some (.ref W), some (.ref u1), some (.ref u2), some (.int (lastB b bs i)), y6, y7]) := ⟨_, rfl⟩
  have wk := walk_enum (K := K) (a := u3) (xs := cl.map V.int)
  rw [List.length_map] at wk
  refine for_it wk I (by rw [hI]; exact ⟨sH, e1b, e3, e2, none, none, rfl⟩) (fun i σ H _ h => by rw [hI] at h; exact .of h.2.2.1) ?_ ?_
  · intro i x σ H2 H3 hi h hy
    rw [hI] at h
    obtain ⟨sA, f1, f3, f2, y6, y7, rfl⟩ := h
    obtain ⟨t, x, y, rfl, nt, rfl, ex, ey⟩ := hy
    cases ex
    obtain ⟨y, rfl, fy⟩ := ints_at ey
    have d2t : u2 ≠ t := ne_of_none f2 nt
    have g1 := same_new nt (.tup [V.int (i : Int), V.int y]) _ _ f1
    have g3 := same_new nt (.tup [V.int (i : Int), V.int y]) _ _ f3
    have g2 := same_new nt (.tup [V.int (i : Int), V.int y]) _ _ f2
    have sB := sA.trans (same_new nt (.tup [V.int (i : Int), V.int y]))
    refine ⟨t, _, rfl, .of upd_same, rfl, ?_⟩
    have hyg : cl.getD i 0 = y := by rw [List.getD_eq_getElem?_getD, fy]; rfl
    have hlast : lastB b bs (i + 1) = bs.getD i 0 := rfl
    try simp only [tSeq, tAsg, tVar, tC, tOp, rI0, rI, tUn, rU, tIfS, tTest, tRet, tRetN, tDrop, tCB, tCons, tNil, tLst, tLstI, tTup, gName, tB, tAnd, tOr, tNot, tAndV, tOrV, tNotV, tIf, tNext, tBreak, tCont, gSub, tCall, tCallN, tAug, ipI, tBML, tBML0, isL_IL, isL_lst, L2.start, List.map_cons, List.map_nil, List.length_cons, List.length_nil, List.cons_append, List.nil_append, List.getElem?_cons_succ, List.getElem?_cons_zero, Option.some.injEq, exists_eq_left', exists_eq_left, exists_and_left, V.int.injEq, V.ref.injEq, V.bl.injEq, V.str.injEq, List.set_cons_zero, List.set_cons_succ, List.cons.injEq, and_true, true_and, Nat.reduceAdd, Nat.reduceSub, List.replicate_succ, List.replicate_zero, rIxI, rIxH, rIxTH, rSetI, rSetH, rCatI, rRepI, rSlI, rAppendI, rExtendI, decide_eq_true_eq, upd_same, IL_inj, HO.lst.injEq, toInts_cons, toInts_nil, Option.map_some, if_true, if_false, Bool.true_eq_false, Bool.false_eq_true, Bool.not_true, Bool.not_false, Bool.not_eq_true', decide_eq_false_iff_not, atI_0, atI_1, atI_2, atI_3, atI_4, Int.reduceToNat, Int.reduceLT, Int.reduceLE, Int.reduceNeg, Int.reducePow, cast_lit, upd_upd, Int.reduceAdd, Int.reduceMul, Int.reduceSub, Nat.reduceLT, Nat.reduceLeDiff, cmul_r, cdiv_r, tSl, tPart, tNoPart, rEq, rNe, scal_nn, scal_ii, scal_bb, scal_ss, scal_is, scal_si, V.ty.injEq, and_assoc, tyH_non, tyH_bl, tyH_int, tyH_str, tyH_ref, tyO_lst, tyO_IL, tyO_tup, itO_lst, itO_tup, itO_IL, Dw.rIxD, rLenI, rLenH, rLenTH, rLenQ, rLenB, rListI, Dw.rListS, rIntI, rIntB, rSumI, rIsiD, rIsX, tCallS, tMakeS, tMake, tMakeC, tMakeSC, tFld, sFld, HO.ins.injEq, HO.tup.injEq, cxOf_K, nox_K, tr_K, suite_K, rTupleI, rAllB, rAnyB, BL_inj, tChain, wOnly, wAs, wMany, rEqI, rNeI, Dw.rMax2, rMin2, Dw.rIsN, rIsNotN, rStrIn, rStrNotIn, not_true_eq_false, not_false_eq_true, reduceCtorEq, cl_bool, cl_int, cl_str, cl_list, cl_tuple, isB_NoneType_bool, isB_NoneType_int, isB_NoneType_str, isB_NoneType_list, isB_NoneType_tuple, isB_bool_bool, isB_bool_int, isB_bool_str, isB_bool_list, isB_bool_tuple, isB_int_bool, isB_int_int, isB_int_str, isB_int_list, isB_int_tuple, isB_str_bool, isB_str_int, isB_str_str, isB_str_list, isB_str_tuple, isB_list_bool, isB_list_int, isB_list_str, isB_list_list, isB_list_tuple, isB_tuple_bool, isB_tuple_int, isB_tuple_str, isB_tuple_list, isB_tuple_tuple, rSlCI, iRng3, iRev, gCons, gNil, iZip, iEnum, tLc_eq, tFor_eq, iRng1, iRng2, iList, iTup, rSetD, iKeys, tDNewK, Int.reducePow, Int.reduceNeg, Dw.rIxL, rListTI, tMakeK, rTupT, tPar, Dw.rSlCI, rIsB, g1]
    refine ⟨by omega, by omega, _, _, rfl, ?_⟩
    try simp only [tSeq, tAsg, tVar, tC, tOp, rI0, rI, tUn, rU, tIfS, tTest, tRet, tRetN, tDrop, tCB, tCons, tNil, tLst, tLstI, tTup, gName, tB, tAnd, tOr, tNot, tAndV, tOrV, tNotV, tIf, tNext, tBreak, tCont, gSub, tCall, tCallN, tAug, ipI, tBML, tBML0, isL_IL, isL_lst, L2.start, List.map_cons, List.map_nil, List.length_cons, List.length_nil, List.cons_append, List.nil_append, List.getElem?_cons_succ, List.getElem?_cons_zero, Option.some.injEq, exists_eq_left', exists_eq_left, exists_and_left, V.int.injEq, V.ref.injEq, V.bl.injEq, V.str.injEq, List.set_cons_zero, List.set_cons_succ, List.cons.injEq, and_true, true_and, Nat.reduceAdd, Nat.reduceSub, List.replicate_succ, List.replicate_zero, rIxI, rIxH, rIxTH, rSetI, rSetH, rCatI, rRepI, rSlI, rAppendI, rExtendI, decide_eq_true_eq, upd_same, IL_inj, HO.lst.injEq, toInts_cons, toInts_nil, Option.map_some, if_true, if_false, Bool.true_eq_false, Bool.false_eq_true, Bool.not_true, Bool.not_false, Bool.not_eq_true', decide_eq_false_iff_not, atI_0, atI_1, atI_2, atI_3, atI_4, Int.reduceToNat, Int.reduceLT, Int.reduceLE, Int.reduceNeg, Int.reducePow, cast_lit, upd_upd, Int.reduceAdd, Int.reduceMul, Int.reduceSub, Nat.reduceLT, Nat.reduceLeDiff, cmul_r, cdiv_r, tSl, tPart, tNoPart, rEq, rNe, scal_nn, scal_ii, scal_bb, scal_ss, scal_is, scal_si, V.ty.injEq, and_assoc, tyH_non, tyH_bl, tyH_int, tyH_str, tyH_ref, tyO_lst, tyO_IL, tyO_tup, itO_lst, itO_tup, itO_IL, Dw.rIxD, rLenI, rLenH, rLenTH, rLenQ, rLenB, rListI, Dw.rListS, rIntI, rIntB, rSumI, rIsiD, rIsX, tCallS, tMakeS, tMake, tMakeC, tMakeSC, tFld, sFld, HO.ins.injEq, HO.tup.injEq, cxOf_K, nox_K, tr_K, suite_K, rTupleI, rAllB, rAnyB, BL_inj, tChain, wOnly, wAs, wMany, rEqI, rNeI, Dw.rMax2, rMin2, Dw.rIsN, rIsNotN, rStrIn, rStrNotIn, not_true_eq_false, not_false_eq_true, reduceCtorEq, cl_bool, cl_int, cl_str, cl_list, cl_tuple, isB_NoneType_bool, isB_NoneType_int, isB_NoneType_str, isB_NoneType_list, isB_NoneType_tuple, isB_bool_bool, isB_bool_int, isB_bool_str, isB_bool_list, isB_bool_tuple, isB_int_bool, isB_int_int, isB_int_str, isB_int_list, isB_int_tuple, isB_str_bool, isB_str_int, isB_str_str, isB_str_list, isB_str_tuple, isB_list_bool, isB_list_int, isB_list_str, isB_list_list, isB_list_tuple, isB_tuple_bool, isB_tuple_int, isB_tuple_str, isB_tuple_list, isB_tuple_tuple, rSlCI, iRng3, iRev, gCons, gNil, iZip, iEnum, tLc_eq, tFor_eq, iRng1, iRng2, iList, iTup, rSetD, iKeys, tDNewK, Int.reducePow, Int.reduceNeg, Dw.rIxL, rListTI, tMakeK, rTupT, tPar, Dw.rSlCI, rIsB, Int.toNat_natCast]
    have hfi := hfl i
    have hst : ∀ c : Bool, mfmT b cl bs i = c → ((List.range (i + 1)).filter (mfmT b cl bs)).map (fun i : Nat => (i : Int)) = ((List.range i).filter (mfmT b cl bs)).map (fun i : Nat => (i : Int)) ++ (if c = true then [(i : Int)] else []) := by
      intro c hc
      rw [List.range_succ, List.filter_append, List.map_append]
      cases c with
      | true => rw [List.filter_cons_of_pos hc]; rfl
      | false => rw [List.filter_cons_of_neg (by rw [hc]; decide)]; rfl
    have hmt : mfmT b cl bs i = !decide (y = clk (lastB b bs i) (bs.getD i 0)) := by
      unfold mfmT
      rw [hyg]
    by_cases c : y = clk (lastB b bs i) (bs.getD i 0)
    · rw [if_neg (fun h => h c)]
      rw [decide_eq_true c] at hmt
      refine ⟨bs, g1, by omega, by omega, ?_⟩
      have h9 := hst _ hmt
      rw [if_neg (by decide), List.append_nil] at h9
      rw [hI]
      exact ⟨sB, g1, g3, by rw [h9]; exact g2, _, _, rfl⟩
    · rw [if_pos c]
      rw [decide_eq_false c] at hmt
      refine ⟨by rw [g2]; rfl, _, g2, by rw [List.length_map]; exact line_lt (by omega), bs, by rw [upd_ne d12]; exact g1, by omega, by omega, ?_⟩
      have h9 := hst _ hmt
      rw [if_pos (by decide)] at h9
      rw [hI]
      refine ⟨fun x o hx => ?_, by rw [upd_ne d12]; exact g1, by rw [upd_ne d32]; exact g3, by rw [upd_same, h9], _, _, rfl⟩
      rw [upd_ne (ne_of_none hx hH2)]
      exact sB _ _ hx
  · intro σ H2 h
    rw [hI] at h
    obtain ⟨sA, f1, f3, f2, y6, y7, rfl⟩ := h
    try simp only [tSeq, tAsg, tVar, tC, tOp, rI0, rI, tUn, rU, tIfS, tTest, tRet, tRetN, tDrop, tCB, tCons, tNil, tLst, tLstI, tTup, gName, tB, tAnd, tOr, tNot, tAndV, tOrV, tNotV, tIf, tNext, tBreak, tCont, gSub, tCall, tCallN, tAug, ipI, tBML, tBML0, isL_IL, isL_lst, L2.start, List.map_cons, List.map_nil, List.length_cons, List.length_nil, List.cons_append, List.nil_append, List.getElem?_cons_succ, List.getElem?_cons_zero, Option.some.injEq, exists_eq_left', exists_eq_left, exists_and_left, V.int.injEq, V.ref.injEq, V.bl.injEq, V.str.injEq, List.set_cons_zero, List.set_cons_succ, List.cons.injEq, and_true, true_and, Nat.reduceAdd, Nat.reduceSub, List.replicate_succ, List.replicate_zero, rIxI, rIxH, rIxTH, rSetI, rSetH, rCatI, rRepI, rSlI, rAppendI, rExtendI, decide_eq_true_eq, upd_same, IL_inj, HO.lst.injEq, toInts_cons, toInts_nil, Option.map_some, if_true, if_false, Bool.true_eq_false, Bool.false_eq_true, Bool.not_true, Bool.not_false, Bool.not_eq_true', decide_eq_false_iff_not, atI_0, atI_1, atI_2, atI_3, atI_4, Int.reduceToNat, Int.reduceLT, Int.reduceLE, Int.reduceNeg, Int.reducePow, cast_lit, upd_upd, Int.reduceAdd, Int.reduceMul, Int.reduceSub, Nat.reduceLT, Nat.reduceLeDiff, cmul_r, cdiv_r, tSl, tPart, tNoPart, rEq, rNe, scal_nn, scal_ii, scal_bb, scal_ss, scal_is, scal_si, V.ty.injEq, and_assoc, tyH_non, tyH_bl, tyH_int, tyH_str, tyH_ref, tyO_lst, tyO_IL, tyO_tup, itO_lst, itO_tup, itO_IL, Dw.rIxD, rLenI, rLenH, rLenTH, rLenQ, rLenB, rListI, Dw.rListS, rIntI, rIntB, rSumI, rIsiD, rIsX, tCallS, tMakeS, tMake, tMakeC, tMakeSC, tFld, sFld, HO.ins.injEq, HO.tup.injEq, cxOf_K, nox_K, tr_K, suite_K, rTupleI, rAllB, rAnyB, BL_inj, tChain, wOnly, wAs, wMany, rEqI, rNeI, Dw.rMax2, rMin2, Dw.rIsN, rIsNotN, rStrIn, rStrNotIn, not_true_eq_false, not_false_eq_true, reduceCtorEq, cl_bool, cl_int, cl_str, cl_list, cl_tuple, isB_NoneType_bool, isB_NoneType_int, isB_NoneType_str, isB_NoneType_list, isB_NoneType_tuple, isB_bool_bool, isB_bool_int, isB_bool_str, isB_bool_list, isB_bool_tuple, isB_int_bool, isB_int_int, isB_int_str, isB_int_list, isB_int_tuple, isB_str_bool, isB_str_int, isB_str_str, isB_str_list, isB_str_tuple, isB_list_bool, isB_list_int, isB_list_str, isB_list_list, isB_list_tuple, isB_tuple_bool, isB_tuple_int, isB_tuple_str, isB_tuple_list, isB_tuple_tuple, rSlCI, iRng3, iRev, gCons, gNil, iZip, iEnum, tLc_eq, tFor_eq, iRng1, iRng2, iList, iTup, rSetD, iKeys, tDNewK, Int.reducePow, Int.reduceNeg, Dw.rIxL, rListTI, tMakeK, rTupT, tPar, Dw.rSlCI, rIsB]
    refine ⟨u1, bs, rfl, f1, by omega, by omega, fun B H3 s3 nB eB => ⟨line_le (by decide), fun t ht => ?_⟩⟩
    exact k t B u2 _ ((sA.trans s3).trans (same_new ht _)) (same_none (sA.trans s3) ht) upd_same (same_new ht _ _ _ eB) (same_new ht _ _ _ (s3 _ _ f2))
end
section
variable {P : Program} {w : World} {K : PySem.W.Frag} {mg : Str → Option Value} {base : Heap} {A : Ad}
def spSecInit (K : PySem.W.Frag) (C : Addr) : Sp := fun vs H Q _ => ∃ (x dx ta : Addr) (v : V) (ad : List Int) (da : Option (List Int)) (aw dw : Bool), vs = [.ref x, .ref ta, v, .bl aw, .bl dw] ∧ H x = some (.ins C dx []) ∧ H ta = some (.tup (ad.map V.int)) ∧ DatL H v da ∧
  ∀ H', SameB x H H' → SecAt C H' (.ref x) (ad, da, aw, dw) → Q .non H'
theorem ok_Sectorinit (T : Tx K mg A) : FnOk P w K mg base CX0 1 A.f_Sectorinit A.d_Sectorinit ["self", "address", "data", "address_wrong", "data_wrong"] (spSecInit K A.c_Sector) := by
  refine T.F_Sectorinit.ok sc_Sectorinit (fun vs H Q E h => ?_) (fun cdv A' outer s H vs Q E hr h => ?_)
  · obtain ⟨x, dx, ta, v, ad, da, aw, dw, rfl, _⟩ := h
    rfl
  obtain ⟨x, dx, ta, v, ad, da, aw, dw, rfl, hx, hT, hD, k⟩ := h
  refine ⟨_, PSs.nox ((pss_cons (ps_fld (pv 0) (pe_callTy (show CallR _ (.type "tuple") (rTupT K) from call_tupTT) (by rfl) T.z_tuple (by decide +kernel) (pa_cons (pv 1) pa_nil)) rfl)
      (pss_cons (ps_fld (pv 0) (pe_ifExp (pt_cmpR op_isNone (pv 2) pe_non (nomark _)) pe_non (pe_callTy call_tupleI (by rfl) T.z_tuple (by decide +kernel) (pa_cons (pv 2) pa_nil))) rfl)
      (pss_cons (ps_fld (pv 0) (pv 3) rfl)
      (pss_one (ps_fld (pv 0) (pv 4) rfl)))))), ?_⟩
  try simp only [tSeq, tAsg, tVar, tC, tOp, rI0, rI, tUn, rU, tIfS, tTest, tRet, tRetN, tDrop, tCB, tCons, tNil, tLst, tLstI, tTup, gName, tB, tAnd, tOr, tNot, tAndV, tOrV, tNotV, tIf, tNext, tBreak, tCont, gSub, tCall, tCallN, tAug, ipI, tBML, tBML0, isL_IL, isL_lst, L2.start, List.map_cons, List.map_nil, List.length_cons, List.length_nil, List.cons_append, List.nil_append, List.getElem?_cons_succ, List.getElem?_cons_zero, Option.some.injEq, exists_eq_left', exists_eq_left, exists_and_left, V.int.injEq, V.ref.injEq, V.bl.injEq, V.str.injEq, List.set_cons_zero, List.set_cons_succ, List.cons.injEq, and_true, true_and, Nat.reduceAdd, Nat.reduceSub, List.replicate_succ, List.replicate_zero, rIxI, rIxH, rIxTH, rSetI, rSetH, rCatI, rRepI, rSlI, rAppendI, rExtendI, decide_eq_true_eq, upd_same, IL_inj, HO.lst.injEq, toInts_cons, toInts_nil, Option.map_some, if_true, if_false, Bool.true_eq_false, Bool.false_eq_true, Bool.not_true, Bool.not_false, Bool.not_eq_true', decide_eq_false_iff_not, atI_0, atI_1, atI_2, atI_3, atI_4, Int.reduceToNat, Int.reduceLT, Int.reduceLE, Int.reduceNeg, Int.reducePow, cast_lit, upd_upd, Int.reduceAdd, Int.reduceMul, Int.reduceSub, Nat.reduceLT, Nat.reduceLeDiff, cmul_r, cdiv_r, tSl, tPart, tNoPart, rEq, rNe, scal_nn, scal_ii, scal_bb, scal_ss, scal_is, scal_si, V.ty.injEq, and_assoc, tyH_non, tyH_bl, tyH_int, tyH_str, tyH_ref, tyO_lst, tyO_IL, tyO_tup, itO_lst, itO_tup, itO_IL, Dw.rIxD, rLenI, rLenH, rLenTH, rLenQ, rLenB, rListI, Dw.rListS, rIntI, rIntB, rSumI, rIsiD, rIsX, tCallS, tMakeS, tMake, tMakeC, tMakeSC, tFld, sFld, HO.ins.injEq, HO.tup.injEq, cxOf_K, nox_K, tr_K, suite_K, rTupleI, rAllB, rAnyB, BL_inj, tChain, wOnly, wAs, wMany, rEqI, rNeI, Dw.rMax2, rMin2, Dw.rIsN, rIsNotN, rStrIn, rStrNotIn, not_true_eq_false, not_false_eq_true, reduceCtorEq, cl_bool, cl_int, cl_str, cl_list, cl_tuple, isB_NoneType_bool, isB_NoneType_int, isB_NoneType_str, isB_NoneType_list, isB_NoneType_tuple, isB_bool_bool, isB_bool_int, isB_bool_str, isB_bool_list, isB_bool_tuple, isB_int_bool, isB_int_int, isB_int_str, isB_int_list, isB_int_tuple, isB_str_bool, isB_str_int, isB_str_str, isB_str_list, isB_str_tuple, isB_list_bool, isB_list_int, isB_list_str, isB_list_list, isB_list_tuple, isB_tuple_bool, isB_tuple_int, isB_tuple_str, isB_tuple_list, isB_tuple_tuple, rSlCI, iRng3, iRev, gCons, gNil, iZip, iEnum, tLc_eq, tFor_eq, iRng1, iRng2, iList, iTup, rSetD, iKeys, tDNewK, Int.reducePow, Int.reduceNeg, Dw.rIxL, rListTI, tMakeK, rTupT, tPar, Dw.rSlCI, rIsB, hx]
  refine ⟨_, .of hT, T.cl_Sector, T.na_Sector_address, ?_⟩
  have l1 := putF_le "address" (V.ref ta) []
  have l2 : ∀ u, (putF "data" u (putF "address" (V.ref ta) [])).length ≤ 2 := fun u => Nat.le_trans (putF_le _ _ _) (Nat.succ_le_succ l1)
  have l3 : ∀ u, (putF "address_wrong" (V.bl aw) (putF "data" u (putF "address" (V.ref ta) []))).length ≤ 3 := fun u => Nat.le_trans (putF_le _ _ _) (Nat.succ_le_succ (l2 u))
  have hxt : ta ≠ x := fun e => by subst e; rw [hT] at hx; cases hx
  rcases hD with ⟨rfl, rfl⟩ | ⟨a, ns, rfl, rfl, hA⟩
  · rw [if_pos rfl]
    refine ⟨T.cl_Sector, T.na_Sector_data, Nat.lt_of_le_of_lt l1 (by decide), T.cl_Sector, T.na_Sector_address_wrong, Nat.lt_of_le_of_lt (l2 _) (by decide), T.cl_Sector, T.na_Sector_data_wrong, Nat.lt_of_le_of_lt (l3 _) (by decide), ?_⟩
    exact k _ (sameB_upd _) ⟨x, dx, ta, .non, rfl, by rw [upd_same, sf_put], by rw [upd_ne hxt]; exact hT, .inl ⟨rfl, rfl⟩⟩
  · rw [if_neg (fun e => by cases e)]
    have hxa : a ≠ x := fun e => by subst e; rw [hA] at hx; cases hx
    refine ⟨a, rfl, ns, by rw [upd_ne hxa]; exact hA, fun l hl0 => ?_⟩
    have hxl : x ≠ l := fun e => by subst e; rw [upd_same] at hl0; cases hl0
    refine ⟨_, _, _, by rw [upd_ne hxl, upd_same], T.cl_Sector, T.na_Sector_data, Nat.lt_of_le_of_lt l1 (by decide), T.cl_Sector, T.na_Sector_address_wrong, Nat.lt_of_le_of_lt (l2 _) (by decide), T.cl_Sector, T.na_Sector_data_wrong, Nat.lt_of_le_of_lt (l3 _) (by decide), ?_⟩
    refine k _ (fun b o hn hb => ?_) ⟨x, dx, ta, .ref l, rfl, by rw [upd_same, sf_put], ?_, .inr ⟨l, ns, rfl, rfl, by rw [upd_ne hxl.symm, upd_same]⟩⟩
    · have hbl : b ≠ l := fun e => by subst e; rw [upd_ne hn, hb] at hl0; cases hl0
      rw [upd_ne hn, upd_ne hbl, upd_ne hn]
      exact hb
    · have hbl : ta ≠ l := fun e => by subst e; rw [upd_ne hxt, hT] at hl0; cases hl0
      rw [upd_ne hxt, upd_ne hbl, upd_ne hxt]
      exact hT
def spSecEq (C : Addr) : Sp := fun vs H Q _ => ∃ (x y : V) (s t : Sec), vs = [x, y] ∧ SecAt C H x s ∧ SecAt C H y t ∧ Q (.bl (decide (s = t))) H
theorem ok_Sectoreq (T : Tx K mg A) : FnOk P w K mg base CX0 1 A.f_Sectoreq A.d_Sectoreq ["self", "other"] (spSecEq A.c_Sector) := by
  refine T.F_Sectoreq.ok sc_Sectoreq (fun vs H Q E h => ?_) (fun cdv A' outer s H vs Q E hr h => ?_)
  · obtain ⟨x, y, s, t, rfl, _⟩ := h
    rfl
  obtain ⟨x, y, s, t, rfl, hs, ht, k⟩ := h
  refine ⟨_, (pss_one (ps_ret (pe_and (pe_callB (call_isOwn T.ic_Sector) (by rfl) T.z_isinstance (by decide +kernel) (pa_cons (pv 1) (pa_cons (pe_glob (v := .ref A.c_Sector) rfl T.gc_Sector rfl) pa_nil))) (pe_and (pe_cmpR (op_eqD hr.units) (pe_fld (pv 0) rfl) (pe_fld (pv 1) rfl) (nomark _)) (pe_and (pe_cmpR (op_eqD hr.units) (pe_fld (pv 0) rfl) (pe_fld (pv 1) rfl) (nomark _)) (pe_and (pe_cmpR op_eq (pe_fld (pv 0) rfl) (pe_fld (pv 1) rfl) (nomark _)) (pe_one (pe_cmpR op_eq (pe_fld (pv 0) rfl) (pe_fld (pv 1) rfl) (nomark _))))))))), ?_⟩
  try simp only [tSeq, tAsg, tVar, tC, tOp, rI0, rI, tUn, rU, tIfS, tTest, tRet, tRetN, tDrop, tCB, tCons, tNil, tLst, tLstI, tTup, gName, tB, tAnd, tOr, tNot, tAndV, tOrV, tNotV, tIf, tNext, tBreak, tCont, gSub, tCall, tCallN, tAug, ipI, tBML, tBML0, isL_IL, isL_lst, L2.start, List.map_cons, List.map_nil, List.length_cons, List.length_nil, List.cons_append, List.nil_append, List.getElem?_cons_succ, List.getElem?_cons_zero, Option.some.injEq, exists_eq_left', exists_eq_left, exists_and_left, V.int.injEq, V.ref.injEq, V.bl.injEq, V.str.injEq, List.set_cons_zero, List.set_cons_succ, List.cons.injEq, and_true, true_and, Nat.reduceAdd, Nat.reduceSub, List.replicate_succ, List.replicate_zero, rIxI, rIxH, rIxTH, rSetI, rSetH, rCatI, rRepI, rSlI, rAppendI, rExtendI, decide_eq_true_eq, upd_same, IL_inj, HO.lst.injEq, toInts_cons, toInts_nil, Option.map_some, if_true, if_false, Bool.true_eq_false, Bool.false_eq_true, Bool.not_true, Bool.not_false, Bool.not_eq_true', decide_eq_false_iff_not, atI_0, atI_1, atI_2, atI_3, atI_4, Int.reduceToNat, Int.reduceLT, Int.reduceLE, Int.reduceNeg, Int.reducePow, cast_lit, upd_upd, Int.reduceAdd, Int.reduceMul, Int.reduceSub, Nat.reduceLT, Nat.reduceLeDiff, cmul_r, cdiv_r, tSl, tPart, tNoPart, rEq, rNe, scal_nn, scal_ii, scal_bb, scal_ss, scal_is, scal_si, V.ty.injEq, and_assoc, tyH_non, tyH_bl, tyH_int, tyH_str, tyH_ref, tyO_lst, tyO_IL, tyO_tup, itO_lst, itO_tup, itO_IL, Dw.rIxD, rLenI, rLenH, rLenTH, rLenQ, rLenB, rListI, Dw.rListS, rIntI, rIntB, rSumI, rIsiD, rIsX, tCallS, tMakeS, tMake, tMakeC, tMakeSC, tFld, sFld, HO.ins.injEq, HO.tup.injEq, cxOf_K, nox_K, tr_K, suite_K, rTupleI, rAllB, rAnyB, BL_inj, tChain, wOnly, wAs, wMany, rEqI, rNeI, Dw.rMax2, rMin2, Dw.rIsN, rIsNotN, rStrIn, rStrNotIn, not_true_eq_false, not_false_eq_true, reduceCtorEq, cl_bool, cl_int, cl_str, cl_list, cl_tuple, isB_NoneType_bool, isB_NoneType_int, isB_NoneType_str, isB_NoneType_list, isB_NoneType_tuple, isB_bool_bool, isB_bool_int, isB_bool_str, isB_bool_list, isB_bool_tuple, isB_int_bool, isB_int_int, isB_int_str, isB_int_list, isB_int_tuple, isB_str_bool, isB_str_int, isB_str_str, isB_str_list, isB_str_tuple, isB_list_bool, isB_list_int, isB_list_str, isB_list_list, isB_list_tuple, isB_tuple_bool, isB_tuple_int, isB_tuple_str, isB_tuple_list, isB_tuple_tuple, rSlCI, iRng3, iRev, gCons, gNil, iZip, iEnum, tLc_eq, tFor_eq, iRng1, iRng2, iList, iTup, rSetD, iKeys, tDNewK, Int.reducePow, Int.reduceNeg, Dw.rIxL, rListTI, tMakeK, rTupT, tPar, Dw.rSlCI, rIsB]
  obtain ⟨ad, da, aw, dw⟩ := s
  obtain ⟨ad', da', aw', dw'⟩ := t
  obtain ⟨p, dx, ta, v, rfl, h1, h2, h3⟩ := hs
  obtain ⟨q, dy, tb, u, rfl, g1, g2, g3⟩ := ht
  simp only at h1 h2 h3 g1 g2 g3
  have cl := T.cl_Sector
  refine ⟨q, dy, _, rfl, g1, _, rfl, ?_⟩
  rw [if_pos rfl]
  refine ⟨p, rfl, _, dx, _, h1, cl, T.na_Sector_address, _, sf_address, q, rfl, _, dy, _, g1, cl, T.na_Sector_address, _, sf_address, _, _, Dt.dp _ _ (dt_tupI h2), Dt.dp _ _ (dt_tupI g2), shaped_of (.tup .ints), shaped_of (.tup .ints), ?_⟩
  rw [PyData.eqv, eqvAll_ints]
  refine ⟨_, rfl, ?_⟩
  by_cases e1 : ad = ad'
  · rw [decide_eq_true e1, if_pos rfl]
    refine ⟨p, rfl, _, dx, _, h1, cl, T.na_Sector_data, _, sf_data, q, rfl, _, dy, _, g1, cl, T.na_Sector_data, _, sf_data, _, _, Dt.dp _ _ h3.dt, Dt.dp _ _ g3.dt, shaped_of shal_data, shaped_of shal_data, ?_⟩
    rw [eqv_data]
    refine ⟨_, rfl, ?_⟩
    by_cases e2 : da = da'
    · rw [decide_eq_true e2, if_pos rfl]
      refine ⟨p, rfl, _, dx, _, h1, cl, T.na_Sector_address_wrong, _, sf_aw, q, rfl, _, dy, _, g1, cl, T.na_Sector_address_wrong, _, sf_aw, ?_⟩
      refine ⟨rfl, ?_⟩
      by_cases e3 : aw = aw'
      · rw [if_pos (by rw [e3])]
        refine ⟨p, rfl, _, dx, _, h1, cl, T.na_Sector_data_wrong, _, sf_dw, q, rfl, _, dy, _, g1, cl, T.na_Sector_data_wrong, _, sf_dw, rfl, ?_⟩
        have e : (decide ((ad, da, aw, dw) = (ad', da', aw', dw')) : Bool) = decide (V.bl dw = V.bl dw') := by
          subst e1 e2 e3
          by_cases c : dw = dw'
          · subst c; rw [decide_eq_true rfl, decide_eq_true rfl]
          · rw [decide_eq_false (fun e => c (by cases e; rfl)), decide_eq_false (fun e => c (by cases e; rfl))]
        rw [e] at k
        exact k
      · rw [if_neg (fun e => e3 (V.bl.inj e))]
        rw [decide_eq_false (fun e => e3 (by cases e; rfl))] at k
        exact k
    · rw [decide_eq_false e2, if_neg (by decide)]
      rw [decide_eq_false (fun e => e2 (by cases e; rfl))] at k
      exact k
  · rw [decide_eq_false e1, if_neg (by decide)]
    rw [decide_eq_false (fun e => e1 (by cases e; rfl))] at k
    exact k
def spDataLen : Sp := fun vs H Q _ => ∃ n : Int, vs = [.int n] ∧ 0 ≤ n ∧ n ≤ 1000 ∧ Q (.int (16 * 2 ^ n.toNat)) H
theorem ok_data_length (T : Tx K mg A) : FnOk P w K mg base CX0 1 A.f_data_length A.d_data_length ["size"] spDataLen := by
  refine T.F_data_length.ok sc_data_length (fun vs H Q E h => ?_) (fun cdv A' outer s H vs Q E hr h => ?_)
  · obtain ⟨n, rfl, _⟩ := h
    rfl
  obtain ⟨n, rfl, n0, n1, k⟩ := h
  refine ⟨_, (pss_one (ps_ret (pe_op op_shl pe_int (pv 0)))), ?_⟩
  try simp only [tSeq, tAsg, tVar, tC, tOp, rI0, rI, tUn, rU, tIfS, tTest, tRet, tRetN, tDrop, tCB, tCons, tNil, tLst, tLstI, tTup, gName, tB, tAnd, tOr, tNot, tAndV, tOrV, tNotV, tIf, tNext, tBreak, tCont, gSub, tCall, tCallN, tAug, ipI, tBML, tBML0, isL_IL, isL_lst, L2.start, List.map_cons, List.map_nil, List.length_cons, List.length_nil, List.cons_append, List.nil_append, List.getElem?_cons_succ, List.getElem?_cons_zero, Option.some.injEq, exists_eq_left', exists_eq_left, exists_and_left, V.int.injEq, V.ref.injEq, V.bl.injEq, V.str.injEq, List.set_cons_zero, List.set_cons_succ, List.cons.injEq, and_true, true_and, Nat.reduceAdd, Nat.reduceSub, List.replicate_succ, List.replicate_zero, rIxI, rIxH, rIxTH, rSetI, rSetH, rCatI, rRepI, rSlI, rAppendI, rExtendI, decide_eq_true_eq, upd_same, IL_inj, HO.lst.injEq, toInts_cons, toInts_nil, Option.map_some, if_true, if_false, Bool.true_eq_false, Bool.false_eq_true, Bool.not_true, Bool.not_false, Bool.not_eq_true', decide_eq_false_iff_not, atI_0, atI_1, atI_2, atI_3, atI_4, Int.reduceToNat, Int.reduceLT, Int.reduceLE, Int.reduceNeg, Int.reducePow, cast_lit, upd_upd, Int.reduceAdd, Int.reduceMul, Int.reduceSub, Nat.reduceLT, Nat.reduceLeDiff, cmul_r, cdiv_r, tSl, tPart, tNoPart, rEq, rNe, scal_nn, scal_ii, scal_bb, scal_ss, scal_is, scal_si, V.ty.injEq, and_assoc, tyH_non, tyH_bl, tyH_int, tyH_str, tyH_ref, tyO_lst, tyO_IL, tyO_tup, itO_lst, itO_tup, itO_IL, Dw.rIxD, rLenI, rLenH, rLenTH, rLenQ, rLenB, rListI, Dw.rListS, rIntI, rIntB, rSumI, rIsiD, rIsX, tCallS, tMakeS, tMake, tMakeC, tMakeSC, tFld, sFld, HO.ins.injEq, HO.tup.injEq, cxOf_K, nox_K, tr_K, suite_K, rTupleI, rAllB, rAnyB, BL_inj, tChain, wOnly, wAs, wMany, rEqI, rNeI, Dw.rMax2, rMin2, Dw.rIsN, rIsNotN, rStrIn, rStrNotIn, not_true_eq_false, not_false_eq_true, reduceCtorEq, cl_bool, cl_int, cl_str, cl_list, cl_tuple, isB_NoneType_bool, isB_NoneType_int, isB_NoneType_str, isB_NoneType_list, isB_NoneType_tuple, isB_bool_bool, isB_bool_int, isB_bool_str, isB_bool_list, isB_bool_tuple, isB_int_bool, isB_int_int, isB_int_str, isB_int_list, isB_int_tuple, isB_str_bool, isB_str_int, isB_str_str, isB_str_list, isB_str_tuple, isB_list_bool, isB_list_int, isB_list_str, isB_list_list, isB_list_tuple, isB_tuple_bool, isB_tuple_int, isB_tuple_str, isB_tuple_list, isB_tuple_tuple, rSlCI, iRng3, iRev, gCons, gNil, iZip, iEnum, tLc_eq, tFor_eq, iRng1, iRng2, iList, iTup, rSetD, iKeys, tDNewK, Int.reducePow, Int.reduceNeg, Dw.rIxL, rListTI, tMakeK, rTupT, tPar, Dw.rSlCI, rIsB]
  exact ⟨⟨n0, by omega, by decide⟩, k⟩
def spIsSec (C : Addr) : Sp := fun vs H Q _ => ∃ (x : V) (s : Sec), vs = [x] ∧ SecAt C H x s ∧ OkSec s ∧ ∀ H', Same H H' → Q (.bl true) H'
theorem ok_is_sector (T : Tx K mg A) : FnOk P w K mg base CX0 2 A.f_is_sector A.d_is_sector ["sector"] (spIsSec A.c_Sector) := by
  refine T.F_is_sector.ok sc_is_sector (fun vs H Q E h => ?_) (fun cdv A' outer s H vs Q E hr h => ?_)
  · obtain ⟨x, s, rfl, _⟩ := h
    rfl
  obtain ⟨x, ⟨ad, da, aw, dw⟩, rfl, ⟨p, dx, ta, v, rfl, h1, h2, h3⟩, ⟨a, b, c, d, e, hb, hd, hdat⟩, k⟩ := h
  simp only at e h1 h2 h3 hb hdat
  subst e
  refine ⟨_, (pss_cons (ps_if (PW.pt (pw_or (pt_not (pt_val (pe_call (ok_are_bytes T) (hr.mono (by decide)) rfl T.g_are_bytes T.F_are_bytes.kp T.b_are_bytes .nil pass0 (pa_cons (pe_fld (pv 0) rfl) pa_nil)))) (pw_or1 (pt_cmpR op_gt (pe_ix ix_seqD (pe_fld (pv 0) rfl) pe_int (fun _ _ => rfl)) (pe_glob rfl T.c_GREATEST_SIZE T.r_GREATEST_SIZE) (nomark _))))) (pss_one (ps_ret pe_bl)) pss_nil)
      (pss_cons (ps_if (pt_cmpR op_isNone (pe_fld (pv 0) rfl) pe_non (nomark _)) (pss_one (ps_ret pe_bl)) pss_nil)
      (pss_one (ps_ret (pe_and (pe_cmpR op_eq (pe_callB call_lenQ (by rfl) T.z_len (by decide +kernel) (pa_cons (pe_fld (pv 0) rfl) pa_nil)) (pe_call (ok_data_length T) (hr.mono (by decide)) rfl T.g_data_length T.F_data_length.kp T.b_data_length .nil pass0 (pa_cons (pe_ix ix_seqD (pe_fld (pv 0) rfl) pe_int (fun _ _ => rfl)) pa_nil)) (nomark _)) (pe_one (pe_call (ok_are_bytes T) (hr.mono (by decide)) rfl T.g_are_bytes T.F_are_bytes.kp T.b_are_bytes .nil pass0 (pa_cons (pe_fld (pv 0) rfl) pa_nil)))))))), ?_⟩
  try simp only [tSeq, tAsg, tVar, tC, tOp, rI0, rI, tUn, rU, tIfS, tTest, tRet, tRetN, tDrop, tCB, tCons, tNil, tLst, tLstI, tTup, gName, tB, tAnd, tOr, tNot, tAndV, tOrV, tNotV, tIf, tNext, tBreak, tCont, gSub, tCall, tCallN, tAug, ipI, tBML, tBML0, isL_IL, isL_lst, L2.start, List.map_cons, List.map_nil, List.length_cons, List.length_nil, List.cons_append, List.nil_append, List.getElem?_cons_succ, List.getElem?_cons_zero, Option.some.injEq, exists_eq_left', exists_eq_left, exists_and_left, V.int.injEq, V.ref.injEq, V.bl.injEq, V.str.injEq, List.set_cons_zero, List.set_cons_succ, List.cons.injEq, and_true, true_and, Nat.reduceAdd, Nat.reduceSub, List.replicate_succ, List.replicate_zero, rIxI, rIxH, rIxTH, rSetI, rSetH, rCatI, rRepI, rSlI, rAppendI, rExtendI, decide_eq_true_eq, upd_same, IL_inj, HO.lst.injEq, toInts_cons, toInts_nil, Option.map_some, if_true, if_false, Bool.true_eq_false, Bool.false_eq_true, Bool.not_true, Bool.not_false, Bool.not_eq_true', decide_eq_false_iff_not, atI_0, atI_1, atI_2, atI_3, atI_4, Int.reduceToNat, Int.reduceLT, Int.reduceLE, Int.reduceNeg, Int.reducePow, cast_lit, upd_upd, Int.reduceAdd, Int.reduceMul, Int.reduceSub, Nat.reduceLT, Nat.reduceLeDiff, cmul_r, cdiv_r, tSl, tPart, tNoPart, rEq, rNe, scal_nn, scal_ii, scal_bb, scal_ss, scal_is, scal_si, V.ty.injEq, and_assoc, tyH_non, tyH_bl, tyH_int, tyH_str, tyH_ref, tyO_lst, tyO_IL, tyO_tup, itO_lst, itO_tup, itO_IL, Dw.rIxD, rLenI, rLenH, rLenTH, rLenQ, rLenB, rListI, Dw.rListS, rIntI, rIntB, rSumI, rIsiD, rIsX, tCallS, tMakeS, tMake, tMakeC, tMakeSC, tFld, sFld, HO.ins.injEq, HO.tup.injEq, cxOf_K, nox_K, tr_K, suite_K, rTupleI, rAllB, rAnyB, BL_inj, tChain, wOnly, wAs, wMany, rEqI, rNeI, Dw.rMax2, rMin2, Dw.rIsN, rIsNotN, rStrIn, rStrNotIn, not_true_eq_false, not_false_eq_true, reduceCtorEq, cl_bool, cl_int, cl_str, cl_list, cl_tuple, isB_NoneType_bool, isB_NoneType_int, isB_NoneType_str, isB_NoneType_list, isB_NoneType_tuple, isB_bool_bool, isB_bool_int, isB_bool_str, isB_bool_list, isB_bool_tuple, isB_int_bool, isB_int_int, isB_int_str, isB_int_list, isB_int_tuple, isB_str_bool, isB_str_int, isB_str_str, isB_str_list, isB_str_tuple, isB_list_bool, isB_list_int, isB_list_str, isB_list_list, isB_list_tuple, isB_tuple_bool, isB_tuple_int, isB_tuple_str, isB_tuple_list, isB_tuple_tuple, rSlCI, iRng3, iRev, gCons, gNil, iZip, iEnum, tLc_eq, tFor_eq, iRng1, iRng2, iList, iTup, rSetD, iKeys, tDNewK, Int.reducePow, Int.reduceNeg, Dw.rIxL, rListTI, tMakeK, rTupT, tPar, Dw.rSlCI, rIsB]
  have cl := T.cl_Sector
  refine ⟨_, dx, _, h1, cl, T.na_Sector_address, _, sf_address, ta, [a, b, c, d], rfl, .of h2, (by decide : 4 ≤ 10000), fun H1 s1 => ⟨_, rfl, ?_⟩⟩
  rw [all_bytes hb, if_neg (by decide)]
  refine ⟨_, dx, _, s1 _ _ h1, cl, T.na_Sector_address, _, sf_address, ta, rfl, _, by rw [s1 _ _ h2]; rfl, _, rfl, d, rfl, ?_⟩
  rw [if_neg (by omega)]
  refine ⟨_, dx, _, s1 _ _ h1, cl, T.na_Sector_data, _, sf_data, ?_⟩
  have hd0 := hb d (by simp)
  rcases h3 with ⟨rfl, rfl⟩ | ⟨td, ns, rfl, rfl, hD⟩
  · rw [if_pos rfl]
    exact k _ s1
  · rw [if_neg (fun e => by cases e)]
    obtain ⟨hn, hnb⟩ := hdat ns rfl
    have h4 : 2 ^ d.toNat ≤ 2 ^ 5 := Nat.pow_le_pow_right (by decide) (by omega)
    refine ⟨_, dx, _, s1 _ _ h1, cl, T.na_Sector_data, _, sf_data, td, rfl, _, by rw [s1 _ _ hD]; rfl, _, dx, _, s1 _ _ h1, cl, T.na_Sector_address, _, sf_address, ta, rfl, _, by rw [s1 _ _ h2]; rfl, _, rfl, d, rfl, hd0.1, by omega, rfl, ?_⟩
    rw [if_pos (by rw [List.length_map, hn]; simp)]
    refine ⟨_, dx, _, s1 _ _ h1, cl, T.na_Sector_data, _, sf_data, td, ns, rfl, .of (s1 _ _ hD), by omega, fun H2 s2 => ?_⟩
    rw [all_bytes hnb]
    exact k _ (s1.trans s2)
def spCheckSecs (K : PySem.W.Frag) (C : Addr) : Sp := fun vs H Q _ => ∃ (l : Addr) (xs : List V) (ss : List Sec), vs = [.ref l] ∧ SqL K H l xs ∧ AllAt (SecAt C H) xs ss ∧ (∀ s ∈ ss, OkSec s) ∧ ss.length ≤ 1000 ∧ ∀ H', Same H H' → Q .non H'
theorem ok_check_sectors (T : Tx K mg A) : FnOk P w K mg base CX0 3 A.f_check_sectors A.d_check_sectors ["sectors"] (spCheckSecs K A.c_Sector) := by
  refine T.F_check_sectors.ok sc_check_sectors (fun vs H Q E h => ?_) (fun cdv A' outer s H vs Q E hr h => ?_)
  · obtain ⟨l, xs, ss, rfl, _⟩ := h
    rfl
  obtain ⟨l, xs, ss, rfl, hL, hA, hok, hl, k⟩ := h
  refine ⟨_, (pss_one (ps_for PassesOwn.never rfl (pi_enum (by rfl) T.z_enumerate (pa_cons (pv 0) pa_nil)) (pg_tup (n := 2) rfl (pgs_cons (pg_name (i := 1) sc_check_sectors.nd rfl (Or.inl rfl)) (pgs_cons (pg_name (i := 2) sc_check_sectors.nd rfl (Or.inl rfl)) pgs_nil)))
        (pss_one (ps_if (pt_not (pt_val (pe_call (ok_is_sector T) (hr.mono (by decide)) rfl T.g_is_sector T.F_is_sector.kp T.b_is_sector .nil pass0 (pa_cons (pv 2) pa_nil)))) (pss_one ps_never) pss_nil)))), ?_⟩
  try simp only [tSeq, tAsg, tVar, tC, tOp, rI0, rI, tUn, rU, tIfS, tTest, tRet, tRetN, tDrop, tCB, tCons, tNil, tLst, tLstI, tTup, gName, tB, tAnd, tOr, tNot, tAndV, tOrV, tNotV, tIf, tNext, tBreak, tCont, gSub, tCall, tCallN, tAug, ipI, tBML, tBML0, isL_IL, isL_lst, L2.start, List.map_cons, List.map_nil, List.length_cons, List.length_nil, List.cons_append, List.nil_append, List.getElem?_cons_succ, List.getElem?_cons_zero, Option.some.injEq, exists_eq_left', exists_eq_left, exists_and_left, V.int.injEq, V.ref.injEq, V.bl.injEq, V.str.injEq, List.set_cons_zero, List.set_cons_succ, List.cons.injEq, and_true, true_and, Nat.reduceAdd, Nat.reduceSub, List.replicate_succ, List.replicate_zero, rIxI, rIxH, rIxTH, rSetI, rSetH, rCatI, rRepI, rSlI, rAppendI, rExtendI, decide_eq_true_eq, upd_same, IL_inj, HO.lst.injEq, toInts_cons, toInts_nil, Option.map_some, if_true, if_false, Bool.true_eq_false, Bool.false_eq_true, Bool.not_true, Bool.not_false, Bool.not_eq_true', decide_eq_false_iff_not, atI_0, atI_1, atI_2, atI_3, atI_4, Int.reduceToNat, Int.reduceLT, Int.reduceLE, Int.reduceNeg, Int.reducePow, cast_lit, upd_upd, Int.reduceAdd, Int.reduceMul, Int.reduceSub, Nat.reduceLT, Nat.reduceLeDiff, cmul_r, cdiv_r, tSl, tPart, tNoPart, rEq, rNe, scal_nn, scal_ii, scal_bb, scal_ss, scal_is, scal_si, V.ty.injEq, and_assoc, tyH_non, tyH_bl, tyH_int, tyH_str, tyH_ref, tyO_lst, tyO_IL, tyO_tup, itO_lst, itO_tup, itO_IL, Dw.rIxD, rLenI, rLenH, rLenTH, rLenQ, rLenB, rListI, Dw.rListS, rIntI, rIntB, rSumI, rIsiD, rIsX, tCallS, tMakeS, tMake, tMakeC, tMakeSC, tFld, sFld, HO.ins.injEq, HO.tup.injEq, cxOf_K, nox_K, tr_K, suite_K, rTupleI, rAllB, rAnyB, BL_inj, tChain, wOnly, wAs, wMany, rEqI, rNeI, Dw.rMax2, rMin2, Dw.rIsN, rIsNotN, rStrIn, rStrNotIn, not_true_eq_false, not_false_eq_true, reduceCtorEq, cl_bool, cl_int, cl_str, cl_list, cl_tuple, isB_NoneType_bool, isB_NoneType_int, isB_NoneType_str, isB_NoneType_list, isB_NoneType_tuple, isB_bool_bool, isB_bool_int, isB_bool_str, isB_bool_list, isB_bool_tuple, isB_int_bool, isB_int_int, isB_int_str, isB_int_list, isB_int_tuple, isB_str_bool, isB_str_int, isB_str_str, isB_str_list, isB_str_tuple, isB_list_bool, isB_list_int, isB_list_str, isB_list_list, isB_list_tuple, isB_tuple_bool, isB_tuple_int, isB_tuple_str, isB_tuple_list, isB_tuple_tuple, rSlCI, iRng3, iRev, gCons, gNil, iZip, iEnum, tLc_eq, tFor_eq, iRng1, iRng2, iList, iTup, rSetD, iKeys, tDNewK, Int.reducePow, Int.reduceNeg, Dw.rIxL, rListTI, tMakeK, rTupT, tPar, Dw.rSlCI, rIsB]
  refine ⟨xs, hL, ?_⟩
  obtain ⟨I, hI⟩ : ∃ F : Nat → L2.St → Hp → Prop, F = (fun i σ H' => Same H H' ∧ ∃ y1 y2, σ = [some (V.ref l), y1, y2]) := ⟨_, rfl⟩
  refine for_it (walk_enum (K := K) (a := l) (xs := xs)) I (by rw [hI]; exact ⟨.refl _, _, _, rfl⟩) (fun i σ H' _ h => by rw [hI] at h; exact h.1.seq hL) ?_ ?_
  · intro i v σ H2 H3 hi h hy
    rw [hI] at h
    obtain ⟨s1, y1, y2, rfl⟩ := h
    obtain ⟨t, x, y, rfl, nt, rfl, ex, ey⟩ := hy
    cases ex
    have s2 := s1.trans (same_new nt (.tup [V.int (i : Int), y]))
    refine ⟨t, _, rfl, .of upd_same, rfl, ?_⟩
    obtain ⟨s, hs, hA1⟩ := hA.2 i y ey
    try simp only [tSeq, tAsg, tVar, tC, tOp, rI0, rI, tUn, rU, tIfS, tTest, tRet, tRetN, tDrop, tCB, tCons, tNil, tLst, tLstI, tTup, gName, tB, tAnd, tOr, tNot, tAndV, tOrV, tNotV, tIf, tNext, tBreak, tCont, gSub, tCall, tCallN, tAug, ipI, tBML, tBML0, isL_IL, isL_lst, L2.start, List.map_cons, List.map_nil, List.length_cons, List.length_nil, List.cons_append, List.nil_append, List.getElem?_cons_succ, List.getElem?_cons_zero, Option.some.injEq, exists_eq_left', exists_eq_left, exists_and_left, V.int.injEq, V.ref.injEq, V.bl.injEq, V.str.injEq, List.set_cons_zero, List.set_cons_succ, List.cons.injEq, and_true, true_and, Nat.reduceAdd, Nat.reduceSub, List.replicate_succ, List.replicate_zero, rIxI, rIxH, rIxTH, rSetI, rSetH, rCatI, rRepI, rSlI, rAppendI, rExtendI, decide_eq_true_eq, upd_same, IL_inj, HO.lst.injEq, toInts_cons, toInts_nil, Option.map_some, if_true, if_false, Bool.true_eq_false, Bool.false_eq_true, Bool.not_true, Bool.not_false, Bool.not_eq_true', decide_eq_false_iff_not, atI_0, atI_1, atI_2, atI_3, atI_4, Int.reduceToNat, Int.reduceLT, Int.reduceLE, Int.reduceNeg, Int.reducePow, cast_lit, upd_upd, Int.reduceAdd, Int.reduceMul, Int.reduceSub, Nat.reduceLT, Nat.reduceLeDiff, cmul_r, cdiv_r, tSl, tPart, tNoPart, rEq, rNe, scal_nn, scal_ii, scal_bb, scal_ss, scal_is, scal_si, V.ty.injEq, and_assoc, tyH_non, tyH_bl, tyH_int, tyH_str, tyH_ref, tyO_lst, tyO_IL, tyO_tup, itO_lst, itO_tup, itO_IL, Dw.rIxD, rLenI, rLenH, rLenTH, rLenQ, rLenB, rListI, Dw.rListS, rIntI, rIntB, rSumI, rIsiD, rIsX, tCallS, tMakeS, tMake, tMakeC, tMakeSC, tFld, sFld, HO.ins.injEq, HO.tup.injEq, cxOf_K, nox_K, tr_K, suite_K, rTupleI, rAllB, rAnyB, BL_inj, tChain, wOnly, wAs, wMany, rEqI, rNeI, Dw.rMax2, rMin2, Dw.rIsN, rIsNotN, rStrIn, rStrNotIn, not_true_eq_false, not_false_eq_true, reduceCtorEq, cl_bool, cl_int, cl_str, cl_list, cl_tuple, isB_NoneType_bool, isB_NoneType_int, isB_NoneType_str, isB_NoneType_list, isB_NoneType_tuple, isB_bool_bool, isB_bool_int, isB_bool_str, isB_bool_list, isB_bool_tuple, isB_int_bool, isB_int_int, isB_int_str, isB_int_list, isB_int_tuple, isB_str_bool, isB_str_int, isB_str_str, isB_str_list, isB_str_tuple, isB_list_bool, isB_list_int, isB_list_str, isB_list_list, isB_list_tuple, isB_tuple_bool, isB_tuple_int, isB_tuple_str, isB_tuple_list, isB_tuple_tuple, rSlCI, iRng3, iRev, gCons, gNil, iZip, iEnum, tLc_eq, tFor_eq, iRng1, iRng2, iList, iTup, rSetD, iKeys, tDNewK, Int.reducePow, Int.reduceNeg, Dw.rIxL, rListTI, tMakeK, rTupT, tPar, Dw.rSlCI, rIsB]
    refine ⟨y, s, rfl, hA1.same s2, hok s (List.mem_of_getElem? hs), fun H4 s4 => ⟨_, rfl, ?_⟩⟩
    rw [if_neg (by decide), hI]
    exact ⟨s2.trans s4, _, _, rfl⟩
  · intro σ H' h
    rw [hI] at h
    obtain ⟨s1, y1, y2, rfl⟩ := h
    exact k _ s1
def spTrackBytes (K : PySem.W.Frag) (C : Addr) : Sp := fun vs H Q _ => ∃ (l : Addr) (xs : List V) (ss : List Sec), vs = [.ref l] ∧ SqL K H l xs ∧ AllAt (SecAt C H) xs ss ∧ (∀ s ∈ ss, OkSec s) ∧ ss.length ≤ 1000 ∧ ∀ H', Same H H' → Q (.int (trackN ss : Nat)) H'
theorem ok_track_bytes (T : Tx K mg A) : FnOk P w K mg base CX0 4 A.f_track_bytes A.d_track_bytes ["sectors"] (spTrackBytes K A.c_Sector) := by
  refine T.F_track_bytes.ok sc_track_bytes (fun vs H Q E h => ?_) (fun cdv A' outer s H vs Q E hr h => ?_)
  · obtain ⟨l, xs, ss, rfl, _⟩ := h
    rfl
  obtain ⟨l, xs, ss, rfl, hL, hA, hok, hl, k⟩ := h
  refine ⟨_, (pss_cons (ps_expr (pe_call (ok_check_sectors T) (hr.mono (by decide)) rfl T.g_check_sectors T.F_check_sectors.kp T.b_check_sectors .nil pass0 (pa_cons (pv 0) pa_nil)))
      (pss_cons (ps_set (i := 1) sc_track_bytes.nd rfl (Or.inl rfl) pe_int)
      (pss_cons (ps_for PassesOwn.never rfl (pi_list (pv 0)) (pg_name (i := 2) sc_track_bytes.nd rfl (Or.inl rfl))
        (pss_cons (ps_aug (i := 1) sc_track_bytes.nd rfl (Or.inl rfl) pe_int ip_add)
      (pss_one (ps_if (pt_cmpR op_notNone (pe_fld (pv 2) rfl) pe_non (nomark _)) (pss_one (ps_aug (i := 1) sc_track_bytes.nd rfl (Or.inl rfl) (pe_op op_add pe_int (pe_callB call_lenQ (by rfl) T.z_len (by decide +kernel) (pa_cons (pe_fld (pv 2) rfl) pa_nil))) ip_add)) pss_nil))))
      (pss_one (ps_ret (pv 1)))))), ?_⟩
  try simp only [tSeq, tAsg, tVar, tC, tOp, rI0, rI, tUn, rU, tIfS, tTest, tRet, tRetN, tDrop, tCB, tCons, tNil, tLst, tLstI, tTup, gName, tB, tAnd, tOr, tNot, tAndV, tOrV, tNotV, tIf, tNext, tBreak, tCont, gSub, tCall, tCallN, tAug, ipI, tBML, tBML0, isL_IL, isL_lst, L2.start, List.map_cons, List.map_nil, List.length_cons, List.length_nil, List.cons_append, List.nil_append, List.getElem?_cons_succ, List.getElem?_cons_zero, Option.some.injEq, exists_eq_left', exists_eq_left, exists_and_left, V.int.injEq, V.ref.injEq, V.bl.injEq, V.str.injEq, List.set_cons_zero, List.set_cons_succ, List.cons.injEq, and_true, true_and, Nat.reduceAdd, Nat.reduceSub, List.replicate_succ, List.replicate_zero, rIxI, rIxH, rIxTH, rSetI, rSetH, rCatI, rRepI, rSlI, rAppendI, rExtendI, decide_eq_true_eq, upd_same, IL_inj, HO.lst.injEq, toInts_cons, toInts_nil, Option.map_some, if_true, if_false, Bool.true_eq_false, Bool.false_eq_true, Bool.not_true, Bool.not_false, Bool.not_eq_true', decide_eq_false_iff_not, atI_0, atI_1, atI_2, atI_3, atI_4, Int.reduceToNat, Int.reduceLT, Int.reduceLE, Int.reduceNeg, Int.reducePow, cast_lit, upd_upd, Int.reduceAdd, Int.reduceMul, Int.reduceSub, Nat.reduceLT, Nat.reduceLeDiff, cmul_r, cdiv_r, tSl, tPart, tNoPart, rEq, rNe, scal_nn, scal_ii, scal_bb, scal_ss, scal_is, scal_si, V.ty.injEq, and_assoc, tyH_non, tyH_bl, tyH_int, tyH_str, tyH_ref, tyO_lst, tyO_IL, tyO_tup, itO_lst, itO_tup, itO_IL, Dw.rIxD, rLenI, rLenH, rLenTH, rLenQ, rLenB, rListI, Dw.rListS, rIntI, rIntB, rSumI, rIsiD, rIsX, tCallS, tMakeS, tMake, tMakeC, tMakeSC, tFld, sFld, HO.ins.injEq, HO.tup.injEq, cxOf_K, nox_K, tr_K, suite_K, rTupleI, rAllB, rAnyB, BL_inj, tChain, wOnly, wAs, wMany, rEqI, rNeI, Dw.rMax2, rMin2, Dw.rIsN, rIsNotN, rStrIn, rStrNotIn, not_true_eq_false, not_false_eq_true, reduceCtorEq, cl_bool, cl_int, cl_str, cl_list, cl_tuple, isB_NoneType_bool, isB_NoneType_int, isB_NoneType_str, isB_NoneType_list, isB_NoneType_tuple, isB_bool_bool, isB_bool_int, isB_bool_str, isB_bool_list, isB_bool_tuple, isB_int_bool, isB_int_int, isB_int_str, isB_int_list, isB_int_tuple, isB_str_bool, isB_str_int, isB_str_str, isB_str_list, isB_str_tuple, isB_list_bool, isB_list_int, isB_list_str, isB_list_list, isB_list_tuple, isB_tuple_bool, isB_tuple_int, isB_tuple_str, isB_tuple_list, isB_tuple_tuple, rSlCI, iRng3, iRev, gCons, gNil, iZip, iEnum, tLc_eq, tFor_eq, iRng1, iRng2, iList, iTup, rSetD, iKeys, tDNewK, Int.reducePow, Int.reduceNeg, Dw.rIxL, rListTI, tMakeK, rTupT, tPar, Dw.rSlCI, rIsB]
  refine ⟨l, xs, ss, rfl, hL, hA, hok, hl, fun H1 s1 => ⟨⟨_, s1.seq hL⟩, ?_⟩⟩
  obtain ⟨I, hI⟩ : ∃ F : Nat → L2.St → Hp → Prop, F = (fun i σ H' => H' = H1 ∧ ∃ y, σ = [some (V.ref l), some (V.int (trackN (ss.take i) : Nat)), y]) := ⟨_, rfl⟩
  refine forL (xs := xs) I (by rw [hI]; exact ⟨rfl, _, rfl⟩) (fun i σ H' _ h => by rw [hI] at h; rw [h.1]; exact s1.seq hL) ?_ ?_
  · intro i v σ H2 hi h
    rw [hI] at h
    obtain ⟨rfl, y, rfl⟩ := h
    obtain ⟨⟨ad, da, aw, dw⟩, hs, hA1⟩ := hA.2 i v hi
    obtain ⟨p, dx, ta, u, rfl, h1, h2, h3⟩ := hA1.same s1
    try simp only [tSeq, tAsg, tVar, tC, tOp, rI0, rI, tUn, rU, tIfS, tTest, tRet, tRetN, tDrop, tCB, tCons, tNil, tLst, tLstI, tTup, gName, tB, tAnd, tOr, tNot, tAndV, tOrV, tNotV, tIf, tNext, tBreak, tCont, gSub, tCall, tCallN, tAug, ipI, tBML, tBML0, isL_IL, isL_lst, L2.start, List.map_cons, List.map_nil, List.length_cons, List.length_nil, List.cons_append, List.nil_append, List.getElem?_cons_succ, List.getElem?_cons_zero, Option.some.injEq, exists_eq_left', exists_eq_left, exists_and_left, V.int.injEq, V.ref.injEq, V.bl.injEq, V.str.injEq, List.set_cons_zero, List.set_cons_succ, List.cons.injEq, and_true, true_and, Nat.reduceAdd, Nat.reduceSub, List.replicate_succ, List.replicate_zero, rIxI, rIxH, rIxTH, rSetI, rSetH, rCatI, rRepI, rSlI, rAppendI, rExtendI, decide_eq_true_eq, upd_same, IL_inj, HO.lst.injEq, toInts_cons, toInts_nil, Option.map_some, if_true, if_false, Bool.true_eq_false, Bool.false_eq_true, Bool.not_true, Bool.not_false, Bool.not_eq_true', decide_eq_false_iff_not, atI_0, atI_1, atI_2, atI_3, atI_4, Int.reduceToNat, Int.reduceLT, Int.reduceLE, Int.reduceNeg, Int.reducePow, cast_lit, upd_upd, Int.reduceAdd, Int.reduceMul, Int.reduceSub, Nat.reduceLT, Nat.reduceLeDiff, cmul_r, cdiv_r, tSl, tPart, tNoPart, rEq, rNe, scal_nn, scal_ii, scal_bb, scal_ss, scal_is, scal_si, V.ty.injEq, and_assoc, tyH_non, tyH_bl, tyH_int, tyH_str, tyH_ref, tyO_lst, tyO_IL, tyO_tup, itO_lst, itO_tup, itO_IL, Dw.rIxD, rLenI, rLenH, rLenTH, rLenQ, rLenB, rListI, Dw.rListS, rIntI, rIntB, rSumI, rIsiD, rIsX, tCallS, tMakeS, tMake, tMakeC, tMakeSC, tFld, sFld, HO.ins.injEq, HO.tup.injEq, cxOf_K, nox_K, tr_K, suite_K, rTupleI, rAllB, rAnyB, BL_inj, tChain, wOnly, wAs, wMany, rEqI, rNeI, Dw.rMax2, rMin2, Dw.rIsN, rIsNotN, rStrIn, rStrNotIn, not_true_eq_false, not_false_eq_true, reduceCtorEq, cl_bool, cl_int, cl_str, cl_list, cl_tuple, isB_NoneType_bool, isB_NoneType_int, isB_NoneType_str, isB_NoneType_list, isB_NoneType_tuple, isB_bool_bool, isB_bool_int, isB_bool_str, isB_bool_list, isB_bool_tuple, isB_int_bool, isB_int_int, isB_int_str, isB_int_list, isB_int_tuple, isB_str_bool, isB_str_int, isB_str_str, isB_str_list, isB_str_tuple, isB_list_bool, isB_list_int, isB_list_str, isB_list_list, isB_list_tuple, isB_tuple_bool, isB_tuple_int, isB_tuple_str, isB_tuple_list, isB_tuple_tuple, rSlCI, iRng3, iRev, gCons, gNil, iZip, iEnum, tLc_eq, tFor_eq, iRng1, iRng2, iList, iTup, rSetD, iKeys, tDNewK, Int.reducePow, Int.reduceNeg, Dw.rIxL, rListTI, tMakeK, rTupT, tPar, Dw.rSlCI, rIsB]
    refine ⟨_, dx, _, h1, T.cl_Sector, T.na_Sector_data, _, sf_data, ?_⟩
    have hm := trackN_more hs
    rcases h3 with ⟨e, rfl⟩ | ⟨td, ns, e, rfl, hD⟩
    · simp only at e
      subst e
      have e2 : ((trackN (ss.take i) : Int) + 32) = ((trackN (ss.take i) + secN (ad, none, aw, dw) : Nat) : Int) := by
        show _ = ((_ + 32 : Nat) : Int)
        omega
      rw [if_neg (fun h => h rfl), hI, e2, ← hm]
      exact ⟨rfl, _, rfl⟩
    · simp only at e
      subst e
      have e2 : ((trackN (ss.take i) : Int) + 32 + (12 + ((ns.map V.int).length : Int))) = ((trackN (ss.take i) + secN (ad, some ns, aw, dw) : Nat) : Int) := by
        show _ = ((_ + (32 + (12 + ns.length)) : Nat) : Int)
        rw [List.length_map]
        omega
      rw [if_pos (fun h => by cases h)]
      refine ⟨_, dx, _, h1, T.cl_Sector, T.na_Sector_data, _, sf_data, td, rfl, _, by rw [hD]; rfl, ?_⟩
      rw [hI, e2, ← hm]
      exact ⟨rfl, _, rfl⟩
  · intro σ H' h
    rw [hI] at h
    obtain ⟨rfl, y, rfl⟩ := h
    rw [hA.1, List.take_length]
    try simp only [tSeq, tAsg, tVar, tC, tOp, rI0, rI, tUn, rU, tIfS, tTest, tRet, tRetN, tDrop, tCB, tCons, tNil, tLst, tLstI, tTup, gName, tB, tAnd, tOr, tNot, tAndV, tOrV, tNotV, tIf, tNext, tBreak, tCont, gSub, tCall, tCallN, tAug, ipI, tBML, tBML0, isL_IL, isL_lst, L2.start, List.map_cons, List.map_nil, List.length_cons, List.length_nil, List.cons_append, List.nil_append, List.getElem?_cons_succ, List.getElem?_cons_zero, Option.some.injEq, exists_eq_left', exists_eq_left, exists_and_left, V.int.injEq, V.ref.injEq, V.bl.injEq, V.str.injEq, List.set_cons_zero, List.set_cons_succ, List.cons.injEq, and_true, true_and, Nat.reduceAdd, Nat.reduceSub, List.replicate_succ, List.replicate_zero, rIxI, rIxH, rIxTH, rSetI, rSetH, rCatI, rRepI, rSlI, rAppendI, rExtendI, decide_eq_true_eq, upd_same, IL_inj, HO.lst.injEq, toInts_cons, toInts_nil, Option.map_some, if_true, if_false, Bool.true_eq_false, Bool.false_eq_true, Bool.not_true, Bool.not_false, Bool.not_eq_true', decide_eq_false_iff_not, atI_0, atI_1, atI_2, atI_3, atI_4, Int.reduceToNat, Int.reduceLT, Int.reduceLE, Int.reduceNeg, Int.reducePow, cast_lit, upd_upd, Int.reduceAdd, Int.reduceMul, Int.reduceSub, Nat.reduceLT, Nat.reduceLeDiff, cmul_r, cdiv_r, tSl, tPart, tNoPart, rEq, rNe, scal_nn, scal_ii, scal_bb, scal_ss, scal_is, scal_si, V.ty.injEq, and_assoc, tyH_non, tyH_bl, tyH_int, tyH_str, tyH_ref, tyO_lst, tyO_IL, tyO_tup, itO_lst, itO_tup, itO_IL, Dw.rIxD, rLenI, rLenH, rLenTH, rLenQ, rLenB, rListI, Dw.rListS, rIntI, rIntB, rSumI, rIsiD, rIsX, tCallS, tMakeS, tMake, tMakeC, tMakeSC, tFld, sFld, HO.ins.injEq, HO.tup.injEq, cxOf_K, nox_K, tr_K, suite_K, rTupleI, rAllB, rAnyB, BL_inj, tChain, wOnly, wAs, wMany, rEqI, rNeI, Dw.rMax2, rMin2, Dw.rIsN, rIsNotN, rStrIn, rStrNotIn, not_true_eq_false, not_false_eq_true, reduceCtorEq, cl_bool, cl_int, cl_str, cl_list, cl_tuple, isB_NoneType_bool, isB_NoneType_int, isB_NoneType_str, isB_NoneType_list, isB_NoneType_tuple, isB_bool_bool, isB_bool_int, isB_bool_str, isB_bool_list, isB_bool_tuple, isB_int_bool, isB_int_int, isB_int_str, isB_int_list, isB_int_tuple, isB_str_bool, isB_str_int, isB_str_str, isB_str_list, isB_str_tuple, isB_list_bool, isB_list_int, isB_list_str, isB_list_list, isB_list_tuple, isB_tuple_bool, isB_tuple_int, isB_tuple_str, isB_tuple_list, isB_tuple_tuple, rSlCI, iRng3, iRev, gCons, gNil, iZip, iEnum, tLc_eq, tFor_eq, iRng1, iRng2, iList, iTup, rSetD, iKeys, tDNewK, Int.reducePow, Int.reduceNeg, Dw.rIxL, rListTI, tMakeK, rTupT, tPar, Dw.rSlCI, rIsB]
    exact k _ s1
def spGap : Sp := fun vs H Q _ => ∃ (n : Nat) (b : Int), vs = [.int (n : Int), .int b] ∧ n ≤ 100000 ∧ ∀ r H', Same H H' → H r = none → H' r = some (IL (gapZ n b)) → Q (.ref r) H'
theorem ok_gap_cells (T : Tx K mg A) : FnOk P w K mg base CX0 4 A.f_gap_cells A.d_gap_cells ["count", "before"] spGap := by
  refine T.F_gap_cells.ok sc_gap_cells (fun vs H Q E h => ?_) (fun cdv A' outer s H vs Q E hr h => ?_)
  · obtain ⟨n, b, rfl, _⟩ := h
    rfl
  obtain ⟨n, b, rfl, hn, k⟩ := h
  refine ⟨_, (pss_one (ps_ret (pe_callN (ok_mfm_cells T) (hr.mono (by decide)) rfl T.g_mfm_cells T.F_mfm_cells.kp T.kb_mfm_cells pass0 (pa_cons (pe_op op_repI (pe_lstI (pa_cons pe_int pa_nil)) (pv 0)) pa_nil) (pk_cons (pv 1) pk_nil)))), ?_⟩
  try simp only [tSeq, tAsg, tVar, tC, tOp, rI0, rI, tUn, rU, tIfS, tTest, tRet, tRetN, tDrop, tCB, tCons, tNil, tLst, tLstI, tTup, gName, tB, tAnd, tOr, tNot, tAndV, tOrV, tNotV, tIf, tNext, tBreak, tCont, gSub, tCall, tCallN, tAug, ipI, tBML, tBML0, isL_IL, isL_lst, L2.start, List.map_cons, List.map_nil, List.length_cons, List.length_nil, List.cons_append, List.nil_append, List.getElem?_cons_succ, List.getElem?_cons_zero, Option.some.injEq, exists_eq_left', exists_eq_left, exists_and_left, V.int.injEq, V.ref.injEq, V.bl.injEq, V.str.injEq, List.set_cons_zero, List.set_cons_succ, List.cons.injEq, and_true, true_and, Nat.reduceAdd, Nat.reduceSub, List.replicate_succ, List.replicate_zero, rIxI, rIxH, rIxTH, rSetI, rSetH, rCatI, rRepI, rSlI, rAppendI, rExtendI, decide_eq_true_eq, upd_same, IL_inj, HO.lst.injEq, toInts_cons, toInts_nil, Option.map_some, if_true, if_false, Bool.true_eq_false, Bool.false_eq_true, Bool.not_true, Bool.not_false, Bool.not_eq_true', decide_eq_false_iff_not, atI_0, atI_1, atI_2, atI_3, atI_4, Int.reduceToNat, Int.reduceLT, Int.reduceLE, Int.reduceNeg, Int.reducePow, cast_lit, upd_upd, Int.reduceAdd, Int.reduceMul, Int.reduceSub, Nat.reduceLT, Nat.reduceLeDiff, cmul_r, cdiv_r, tSl, tPart, tNoPart, rEq, rNe, scal_nn, scal_ii, scal_bb, scal_ss, scal_is, scal_si, V.ty.injEq, and_assoc, tyH_non, tyH_bl, tyH_int, tyH_str, tyH_ref, tyO_lst, tyO_IL, tyO_tup, itO_lst, itO_tup, itO_IL, Dw.rIxD, rLenI, rLenH, rLenTH, rLenQ, rLenB, rListI, Dw.rListS, rIntI, rIntB, rSumI, rIsiD, rIsX, tCallS, tMakeS, tMake, tMakeC, tMakeSC, tFld, sFld, HO.ins.injEq, HO.tup.injEq, cxOf_K, nox_K, tr_K, suite_K, rTupleI, rAllB, rAnyB, BL_inj, tChain, wOnly, wAs, wMany, rEqI, rNeI, Dw.rMax2, rMin2, Dw.rIsN, rIsNotN, rStrIn, rStrNotIn, not_true_eq_false, not_false_eq_true, reduceCtorEq, cl_bool, cl_int, cl_str, cl_list, cl_tuple, isB_NoneType_bool, isB_NoneType_int, isB_NoneType_str, isB_NoneType_list, isB_NoneType_tuple, isB_bool_bool, isB_bool_int, isB_bool_str, isB_bool_list, isB_bool_tuple, isB_int_bool, isB_int_int, isB_int_str, isB_int_list, isB_int_tuple, isB_str_bool, isB_str_int, isB_str_str, isB_str_list, isB_str_tuple, isB_list_bool, isB_list_int, isB_list_str, isB_list_list, isB_list_tuple, isB_tuple_bool, isB_tuple_int, isB_tuple_str, isB_tuple_list, isB_tuple_tuple, rSlCI, iRng3, iRev, gCons, gNil, iZip, iEnum, tLc_eq, tFor_eq, iRng1, iRng2, iList, iTup, rSetD, iKeys, tDNewK, Int.reducePow, Int.reduceNeg, Dw.rIxL, rListTI, tMakeK, rTupT, tPar, Dw.rSlCI, rIsB]
  refine ⟨line_le (by decide), fun u1 hu1 => ⟨by omega, by omega, line_le (by show 1 * _ ≤ _; omega), fun u2 hu2 => ?_⟩⟩
  have er : rep (n : Int) [78] = List.replicate n 78 := by rw [rep_one, Int.toNat_natCast]
  rw [er]
  have s2 := (same_new hu1 (IL [78])).trans (same_new hu2 (IL (List.replicate n 78)))
  refine ⟨u2, _, b, rfl, upd_same, ⟨fun z hz => ?_, by rw [List.length_replicate]; exact hn⟩, fun r H' s3 n3 e3 => k r H' (s2.trans s3) (same_none s2 n3) e3⟩
  rw [(List.mem_replicate.mp hz).2]
  decide
def spField : Sp := fun vs H Q _ => ∃ (l : Addr) (ns : List Int) (wr : Bool), vs = [.ref l, .bl wr] ∧ H l = some (IL ns) ∧ Bytes ns ∧ ns.length ≤ 10000 ∧ ∀ r H', Same H H' → H r = none → H' r = some (IL (fieldZ ns wr)) → Q (.ref r) H'
theorem ok_field_cells (T : Tx K mg A) : FnOk P w K mg base CX0 4 A.f_field_cells A.d_field_cells ["values", "wrong"] spField := by
  refine T.F_field_cells.ok sc_field_cells (fun vs H Q E h => ?_) (fun cdv A' outer s H vs Q E hr h => ?_)
  · obtain ⟨l, ns, wr, rfl, _⟩ := h
    rfl
  obtain ⟨l, ns, wr, rfl, hL, hb, hl, k⟩ := h
  refine ⟨_, (pss_cons (ps_set (i := 2) sc_field_cells.nd rfl (Or.inl rfl) (pe_call (ok_crc T) (hr.mono (by decide)) rfl T.g_crc T.F_crc.kp T.b_crc .nil pass0 (pa_cons (pe_op op_catI (pe_callTy (show CallR _ (.type "list") (rListTI K) from call_listTI) (by rfl) T.z_list (by decide +kernel) (pa_cons (pe_glob (v := .ref A.c_MARK_BYTES) rfl T.ct_MARK_BYTES rfl) pa_nil)) (pv 0)) pa_nil)))
      (C8.pss_cut (ps_if (pt_val (pv 1)) (pss_one (ps_set (i := 2) sc_field_cells.nd rfl (Or.inl rfl) (pe_call (ok_exclusive T) (hr.mono (by decide)) rfl T.g_exclusive T.F_exclusive.kp T.b_exclusive .nil pass0 (pa_cons (pv 2) (pa_cons pe_int pa_nil))))) pss_nil)
      (pss_one (ps_ret (pe_op op_catI (pe_op op_catI (pe_callN (ok_mfm_cells T) (hr.mono (by decide)) rfl T.g_mfm_cells T.F_mfm_cells.kp T.kb_mfm_cells pass0 (pa_cons (pe_op op_repI (pe_lstI (pa_cons pe_int pa_nil)) pe_int) pa_nil) (pk_cons pe_int pk_nil)) (pe_op op_repI (pe_callTy (show CallR _ (.type "list") (rListTI K) from call_listTI) (by rfl) T.z_list (by decide +kernel) (pa_cons (pe_glob (v := .ref A.c_MARK) rfl T.ct_MARK rfl) pa_nil)) pe_int)) (pe_callN (ok_mfm_cells T) (hr.mono (by decide)) rfl T.g_mfm_cells T.F_mfm_cells.kp T.kb_mfm_cells pass0 (pa_cons (pe_op op_catI (pv 0) (pe_call (ok_two_bytes T) (hr.mono (by decide)) rfl T.g_two_bytes T.F_two_bytes.kp T.b_two_bytes .nil pass0 (pa_cons (pv 2) pa_nil))) pa_nil) (pk_cons pe_int pk_nil))))))), ?_⟩
  try simp only [tSeq, tAsg, tVar, tC, tOp, rI0, rI, tUn, rU, tIfS, tTest, tRet, tRetN, tDrop, tCB, tCons, tNil, tLst, tLstI, tTup, gName, tB, tAnd, tOr, tNot, tAndV, tOrV, tNotV, tIf, tNext, tBreak, tCont, gSub, tCall, tCallN, tAug, ipI, tBML, tBML0, isL_IL, isL_lst, L2.start, List.map_cons, List.map_nil, List.length_cons, List.length_nil, List.cons_append, List.nil_append, List.getElem?_cons_succ, List.getElem?_cons_zero, Option.some.injEq, exists_eq_left', exists_eq_left, exists_and_left, V.int.injEq, V.ref.injEq, V.bl.injEq, V.str.injEq, List.set_cons_zero, List.set_cons_succ, List.cons.injEq, and_true, true_and, Nat.reduceAdd, Nat.reduceSub, List.replicate_succ, List.replicate_zero, rIxI, rIxH, rIxTH, rSetI, rSetH, rCatI, rRepI, rSlI, rAppendI, rExtendI, decide_eq_true_eq, upd_same, IL_inj, HO.lst.injEq, toInts_cons, toInts_nil, Option.map_some, if_true, if_false, Bool.true_eq_false, Bool.false_eq_true, Bool.not_true, Bool.not_false, Bool.not_eq_true', decide_eq_false_iff_not, atI_0, atI_1, atI_2, atI_3, atI_4, Int.reduceToNat, Int.reduceLT, Int.reduceLE, Int.reduceNeg, Int.reducePow, cast_lit, upd_upd, Int.reduceAdd, Int.reduceMul, Int.reduceSub, Nat.reduceLT, Nat.reduceLeDiff, cmul_r, cdiv_r, tSl, tPart, tNoPart, rEq, rNe, scal_nn, scal_ii, scal_bb, scal_ss, scal_is, scal_si, V.ty.injEq, and_assoc, tyH_non, tyH_bl, tyH_int, tyH_str, tyH_ref, tyO_lst, tyO_IL, tyO_tup, itO_lst, itO_tup, itO_IL, Dw.rIxD, rLenI, rLenH, rLenTH, rLenQ, rLenB, rListI, Dw.rListS, rIntI, rIntB, rSumI, rIsiD, rIsX, tCallS, tMakeS, tMake, tMakeC, tMakeSC, tFld, sFld, HO.ins.injEq, HO.tup.injEq, cxOf_K, nox_K, tr_K, suite_K, rTupleI, rAllB, rAnyB, BL_inj, tChain, wOnly, wAs, wMany, rEqI, rNeI, Dw.rMax2, rMin2, Dw.rIsN, rIsNotN, rStrIn, rStrNotIn, not_true_eq_false, not_false_eq_true, reduceCtorEq, cl_bool, cl_int, cl_str, cl_list, cl_tuple, isB_NoneType_bool, isB_NoneType_int, isB_NoneType_str, isB_NoneType_list, isB_NoneType_tuple, isB_bool_bool, isB_bool_int, isB_bool_str, isB_bool_list, isB_bool_tuple, isB_int_bool, isB_int_int, isB_int_str, isB_int_list, isB_int_tuple, isB_str_bool, isB_str_int, isB_str_str, isB_str_list, isB_str_tuple, isB_list_bool, isB_list_int, isB_list_str, isB_list_list, isB_list_tuple, isB_tuple_bool, isB_tuple_int, isB_tuple_str, isB_tuple_list, isB_tuple_tuple, rSlCI, iRng3, iRev, gCons, gNil, iZip, iEnum, tLc_eq, tFor_eq, iRng1, iRng2, iList, iTup, rSetD, iKeys, tDNewK, Int.reducePow, Int.reduceNeg, Dw.rIxL, rListTI, tMakeK, rTupT, tPar, Dw.rSlCI, rIsB]
  refine ⟨[161, 161, 161], T.tt_MARK_BYTES _, fun u1 hu1 => ⟨ns, same_new hu1 _ _ _ hL, line_le (by show 3 + _ ≤ _; omega), fun u2 hu2 => ?_⟩⟩
  have s2 := (same_new hu1 (IL [161, 161, 161])).trans (same_new hu2 (IL ([161, 161, 161] ++ ns)))
  refine ⟨u2, _, rfl, upd_same, fun z hz => ?_, ?_⟩
  · rcases List.mem_append.mp hz with hz | hz
    · simp only [List.mem_cons, List.not_mem_nil, or_false] at hz
      rcases hz with rfl | rfl | rfl <;> decide
    · exact hb z hz
  generalize upd (upd H u1 (IL [161, 161, 161])) u2 (IL ([161, 161, 161] ++ ns)) = H2 at s2 ⊢
  obtain ⟨M, hM⟩ : ∃ F : L2.St → Hp → Prop, F = (fun σ' H' => H' = H2 ∧ σ' = [some (V.ref l), some (V.bl wr), some (V.int (chkZ ns wr))]) := ⟨_, rfl⟩
  refine ⟨M, ?_, ?_⟩
  · try simp only [tSeq, tAsg, tVar, tC, tOp, rI0, rI, tUn, rU, tIfS, tTest, tRet, tRetN, tDrop, tCB, tCons, tNil, tLst, tLstI, tTup, gName, tB, tAnd, tOr, tNot, tAndV, tOrV, tNotV, tIf, tNext, tBreak, tCont, gSub, tCall, tCallN, tAug, ipI, tBML, tBML0, isL_IL, isL_lst, L2.start, List.map_cons, List.map_nil, List.length_cons, List.length_nil, List.cons_append, List.nil_append, List.getElem?_cons_succ, List.getElem?_cons_zero, Option.some.injEq, exists_eq_left', exists_eq_left, exists_and_left, V.int.injEq, V.ref.injEq, V.bl.injEq, V.str.injEq, List.set_cons_zero, List.set_cons_succ, List.cons.injEq, and_true, true_and, Nat.reduceAdd, Nat.reduceSub, List.replicate_succ, List.replicate_zero, rIxI, rIxH, rIxTH, rSetI, rSetH, rCatI, rRepI, rSlI, rAppendI, rExtendI, decide_eq_true_eq, upd_same, IL_inj, HO.lst.injEq, toInts_cons, toInts_nil, Option.map_some, if_true, if_false, Bool.true_eq_false, Bool.false_eq_true, Bool.not_true, Bool.not_false, Bool.not_eq_true', decide_eq_false_iff_not, atI_0, atI_1, atI_2, atI_3, atI_4, Int.reduceToNat, Int.reduceLT, Int.reduceLE, Int.reduceNeg, Int.reducePow, cast_lit, upd_upd, Int.reduceAdd, Int.reduceMul, Int.reduceSub, Nat.reduceLT, Nat.reduceLeDiff, cmul_r, cdiv_r, tSl, tPart, tNoPart, rEq, rNe, scal_nn, scal_ii, scal_bb, scal_ss, scal_is, scal_si, V.ty.injEq, and_assoc, tyH_non, tyH_bl, tyH_int, tyH_str, tyH_ref, tyO_lst, tyO_IL, tyO_tup, itO_lst, itO_tup, itO_IL, Dw.rIxD, rLenI, rLenH, rLenTH, rLenQ, rLenB, rListI, Dw.rListS, rIntI, rIntB, rSumI, rIsiD, rIsX, tCallS, tMakeS, tMake, tMakeC, tMakeSC, tFld, sFld, HO.ins.injEq, HO.tup.injEq, cxOf_K, nox_K, tr_K, suite_K, rTupleI, rAllB, rAnyB, BL_inj, tChain, wOnly, wAs, wMany, rEqI, rNeI, Dw.rMax2, rMin2, Dw.rIsN, rIsNotN, rStrIn, rStrNotIn, not_true_eq_false, not_false_eq_true, reduceCtorEq, cl_bool, cl_int, cl_str, cl_list, cl_tuple, isB_NoneType_bool, isB_NoneType_int, isB_NoneType_str, isB_NoneType_list, isB_NoneType_tuple, isB_bool_bool, isB_bool_int, isB_bool_str, isB_bool_list, isB_bool_tuple, isB_int_bool, isB_int_int, isB_int_str, isB_int_list, isB_int_tuple, isB_str_bool, isB_str_int, isB_str_str, isB_str_list, isB_str_tuple, isB_list_bool, isB_list_int, isB_list_str, isB_list_list, isB_list_tuple, isB_tuple_bool, isB_tuple_int, isB_tuple_str, isB_tuple_list, isB_tuple_tuple, rSlCI, iRng3, iRev, gCons, gNil, iZip, iEnum, tLc_eq, tFor_eq, iRng1, iRng2, iList, iTup, rSetD, iKeys, tDNewK, Int.reducePow, Int.reduceNeg, Dw.rIxL, rListTI, tMakeK, rTupT, tPar, Dw.rSlCI, rIsB]
    cases wr with
    | false =>
      rw [if_neg (by decide), hM]
      exact ⟨rfl, rfl⟩
    | true =>
      rw [if_pos rfl]
      refine ⟨crcN (([161, 161, 161] ++ ns).map Int.toNat), 1, rfl, ?_⟩
      try simp only [tSeq, tAsg, tVar, tC, tOp, rI0, rI, tUn, rU, tIfS, tTest, tRet, tRetN, tDrop, tCB, tCons, tNil, tLst, tLstI, tTup, gName, tB, tAnd, tOr, tNot, tAndV, tOrV, tNotV, tIf, tNext, tBreak, tCont, gSub, tCall, tCallN, tAug, ipI, tBML, tBML0, isL_IL, isL_lst, L2.start, List.map_cons, List.map_nil, List.length_cons, List.length_nil, List.cons_append, List.nil_append, List.getElem?_cons_succ, List.getElem?_cons_zero, Option.some.injEq, exists_eq_left', exists_eq_left, exists_and_left, V.int.injEq, V.ref.injEq, V.bl.injEq, V.str.injEq, List.set_cons_zero, List.set_cons_succ, List.cons.injEq, and_true, true_and, Nat.reduceAdd, Nat.reduceSub, List.replicate_succ, List.replicate_zero, rIxI, rIxH, rIxTH, rSetI, rSetH, rCatI, rRepI, rSlI, rAppendI, rExtendI, decide_eq_true_eq, upd_same, IL_inj, HO.lst.injEq, toInts_cons, toInts_nil, Option.map_some, if_true, if_false, Bool.true_eq_false, Bool.false_eq_true, Bool.not_true, Bool.not_false, Bool.not_eq_true', decide_eq_false_iff_not, atI_0, atI_1, atI_2, atI_3, atI_4, Int.reduceToNat, Int.reduceLT, Int.reduceLE, Int.reduceNeg, Int.reducePow, cast_lit, upd_upd, Int.reduceAdd, Int.reduceMul, Int.reduceSub, Nat.reduceLT, Nat.reduceLeDiff, cmul_r, cdiv_r, tSl, tPart, tNoPart, rEq, rNe, scal_nn, scal_ii, scal_bb, scal_ss, scal_is, scal_si, V.ty.injEq, and_assoc, tyH_non, tyH_bl, tyH_int, tyH_str, tyH_ref, tyO_lst, tyO_IL, tyO_tup, itO_lst, itO_tup, itO_IL, Dw.rIxD, rLenI, rLenH, rLenTH, rLenQ, rLenB, rListI, Dw.rListS, rIntI, rIntB, rSumI, rIsiD, rIsX, tCallS, tMakeS, tMake, tMakeC, tMakeSC, tFld, sFld, HO.ins.injEq, HO.tup.injEq, cxOf_K, nox_K, tr_K, suite_K, rTupleI, rAllB, rAnyB, BL_inj, tChain, wOnly, wAs, wMany, rEqI, rNeI, Dw.rMax2, rMin2, Dw.rIsN, rIsNotN, rStrIn, rStrNotIn, not_true_eq_false, not_false_eq_true, reduceCtorEq, cl_bool, cl_int, cl_str, cl_list, cl_tuple, isB_NoneType_bool, isB_NoneType_int, isB_NoneType_str, isB_NoneType_list, isB_NoneType_tuple, isB_bool_bool, isB_bool_int, isB_bool_str, isB_bool_list, isB_bool_tuple, isB_int_bool, isB_int_int, isB_int_str, isB_int_list, isB_int_tuple, isB_str_bool, isB_str_int, isB_str_str, isB_str_list, isB_str_tuple, isB_list_bool, isB_list_int, isB_list_str, isB_list_list, isB_list_tuple, isB_tuple_bool, isB_tuple_int, isB_tuple_str, isB_tuple_list, isB_tuple_tuple, rSlCI, iRng3, iRev, gCons, gNil, iZip, iEnum, tLc_eq, tFor_eq, iRng1, iRng2, iList, iTup, rSetD, iKeys, tDNewK, Int.reducePow, Int.reduceNeg, Dw.rIxL, rListTI, tMakeK, rTupT, tPar, Dw.rSlCI, rIsB]
      rw [hM, chk_xor]
      exact ⟨rfl, rfl⟩
  · intro σ' H' h
    rw [hM] at h
    obtain ⟨rfl, rfl⟩ := h
    have hLa := s2 _ _ hL
    try simp only [tSeq, tAsg, tVar, tC, tOp, rI0, rI, tUn, rU, tIfS, tTest, tRet, tRetN, tDrop, tCB, tCons, tNil, tLst, tLstI, tTup, gName, tB, tAnd, tOr, tNot, tAndV, tOrV, tNotV, tIf, tNext, tBreak, tCont, gSub, tCall, tCallN, tAug, ipI, tBML, tBML0, isL_IL, isL_lst, L2.start, List.map_cons, List.map_nil, List.length_cons, List.length_nil, List.cons_append, List.nil_append, List.getElem?_cons_succ, List.getElem?_cons_zero, Option.some.injEq, exists_eq_left', exists_eq_left, exists_and_left, V.int.injEq, V.ref.injEq, V.bl.injEq, V.str.injEq, List.set_cons_zero, List.set_cons_succ, List.cons.injEq, and_true, true_and, Nat.reduceAdd, Nat.reduceSub, List.replicate_succ, List.replicate_zero, rIxI, rIxH, rIxTH, rSetI, rSetH, rCatI, rRepI, rSlI, rAppendI, rExtendI, decide_eq_true_eq, upd_same, IL_inj, HO.lst.injEq, toInts_cons, toInts_nil, Option.map_some, if_true, if_false, Bool.true_eq_false, Bool.false_eq_true, Bool.not_true, Bool.not_false, Bool.not_eq_true', decide_eq_false_iff_not, atI_0, atI_1, atI_2, atI_3, atI_4, Int.reduceToNat, Int.reduceLT, Int.reduceLE, Int.reduceNeg, Int.reducePow, cast_lit, upd_upd, Int.reduceAdd, Int.reduceMul, Int.reduceSub, Nat.reduceLT, Nat.reduceLeDiff, cmul_r, cdiv_r, tSl, tPart, tNoPart, rEq, rNe, scal_nn, scal_ii, scal_bb, scal_ss, scal_is, scal_si, V.ty.injEq, and_assoc, tyH_non, tyH_bl, tyH_int, tyH_str, tyH_ref, tyO_lst, tyO_IL, tyO_tup, itO_lst, itO_tup, itO_IL, Dw.rIxD, rLenI, rLenH, rLenTH, rLenQ, rLenB, rListI, Dw.rListS, rIntI, rIntB, rSumI, rIsiD, rIsX, tCallS, tMakeS, tMake, tMakeC, tMakeSC, tFld, sFld, HO.ins.injEq, HO.tup.injEq, cxOf_K, nox_K, tr_K, suite_K, rTupleI, rAllB, rAnyB, BL_inj, tChain, wOnly, wAs, wMany, rEqI, rNeI, Dw.rMax2, rMin2, Dw.rIsN, rIsNotN, rStrIn, rStrNotIn, not_true_eq_false, not_false_eq_true, reduceCtorEq, cl_bool, cl_int, cl_str, cl_list, cl_tuple, isB_NoneType_bool, isB_NoneType_int, isB_NoneType_str, isB_NoneType_list, isB_NoneType_tuple, isB_bool_bool, isB_bool_int, isB_bool_str, isB_bool_list, isB_bool_tuple, isB_int_bool, isB_int_int, isB_int_str, isB_int_list, isB_int_tuple, isB_str_bool, isB_str_int, isB_str_str, isB_str_list, isB_str_tuple, isB_list_bool, isB_list_int, isB_list_str, isB_list_list, isB_list_tuple, isB_tuple_bool, isB_tuple_int, isB_tuple_str, isB_tuple_list, isB_tuple_tuple, rSlCI, iRng3, iRev, gCons, gNil, iZip, iEnum, tLc_eq, tFor_eq, iRng1, iRng2, iList, iTup, rSetD, iKeys, tDNewK, Int.reducePow, Int.reduceNeg, Dw.rIxL, rListTI, tMakeK, rTupT, tPar, Dw.rSlCI, rIsB]
    refine ⟨line_le (by decide), fun a1 ha1 => ⟨line_le (by decide), fun a2 ha2 => ?_⟩⟩
    have r6 : rep 6 [0] = List.replicate 6 0 := rep_one 6 0
    rw [r6]
    have s3 := (same_new ha1 (IL [0])).trans (same_new ha2 (IL (List.replicate 6 0)))
    refine ⟨a2, _, 0, rfl, upd_same, ⟨bytes_rep (by decide), by decide⟩, fun a3 H3 s4 n4 e4 => ⟨markZ, T.tt_MARK _, fun a4 ha4 => ?_⟩⟩
    rw [rep3_mark]
    refine ⟨line_le (by decide), fun a5 ha5 => ?_⟩
    have s5 := (same_new ha4 (IL markZ)).trans (same_new ha5 (IL marksZ))
    refine ⟨a3, rfl, _, s5 _ _ e4, line_le (by decide), fun a6 ha6 => ?_⟩
    have s6 := same_new ha6 (IL (mfmF 0 (bitsOf (List.replicate 6 0)) ++ marksZ))
    refine ⟨_, rfl, fun a7 ha7 => ?_⟩
    have s7 := same_new ha7 (IL (pairZ (chkZ ns wr)))
    have s27 := s3.trans (s4.trans (s5.trans (s6.trans s7)))
    refine ⟨a7, rfl, ns, s27 _ _ hLa, _, upd_same, line_le (by show _ + 2 ≤ _; omega), fun a8 ha8 => ?_⟩
    have s8 := same_new ha8 (IL (ns ++ pairZ (chkZ ns wr)))
    refine ⟨a8, _, 1, rfl, upd_same, ⟨hb.app (pairZ_bytes (chkZ_nn _ _)), by rw [List.length_append]; show _ + 2 ≤ _; omega⟩, fun a9 H9 s9 n9 e9 => ?_⟩
    have s29 := s2.trans (s27.trans (s8.trans s9))
    refine ⟨a9, rfl, _, s9 _ _ (s8 _ _ (s7 _ _ upd_same)), _, e9, ?_, fun r hr => ?_⟩
    · have hf := fieldZ_len ns wr
      unfold fieldZ at hf
      rw [List.length_append] at hf
      refine line_le ?_
      show _ + (mfmF 1 (bitsOf (ns ++ pairZ (chkZ ns wr)))).length ≤ _
      omega
    · exact k r _ (s29.trans (same_new hr _)) (same_none s29 hr) upd_same
def spTrack (K : PySem.W.Frag) (C : Addr) : Sp := fun vs H Q _ => ∃ (l : Addr) (xs : List V) (ss : List Sec) (n : Int), vs = [.ref l, .int n] ∧ SqL K H l xs ∧ AllAt (SecAt C H) xs ss ∧ (∀ s ∈ ss, OkSec s) ∧ ss.length ≤ 200 ∧ n ≤ 100000 ∧ ∀ r H', Same H H' → H r = none → H' r = some (IL (trackZ ss ++ gapZ (n - trackN ss).toNat 0)) → Q (.ref r) H'
theorem ok_track_cells (T : Tx K mg A) : FnOk P w K mg base CX0 5 A.f_track_cells A.d_track_cells ["sectors", "length"] (spTrack K A.c_Sector) := by
  refine T.F_track_cells.ok sc_track_cells (fun vs H Q E h => ?_) (fun cdv A' outer s H vs Q E hr h => ?_)
  · obtain ⟨l, xs, ss, n, rfl, _⟩ := h
    rfl
  obtain ⟨l, xs, ss, n, rfl, hL, hA, hok, hl, hn, k⟩ := h
  refine ⟨_, PSs.nox ((pss_cons (ps_set (i := 2) sc_track_cells.nd rfl (Or.inl rfl) (pe_op op_sub (pv 1) (pe_call (ok_track_bytes T) (hr.mono (by decide)) rfl T.g_track_bytes T.F_track_bytes.kp T.b_track_bytes .nil pass0 (pa_cons (pv 0) pa_nil))))
      (pss_cons (ps_set (i := 3) sc_track_cells.nd rfl (Or.inl rfl) (pe_call (ok_gap_cells T) (hr.mono (by decide)) rfl T.g_gap_cells T.F_gap_cells.kp T.b_gap_cells .nil pass0 (pa_cons pe_int (pa_cons pe_int pa_nil))))
      (pss_cons (ps_for PassesOwn.never rfl (pi_list (pv 0)) (pg_name (i := 4) sc_track_cells.nd rfl (Or.inl rfl))
        (pss_cons (ps_expr (PE.imp (pe_bm PySem.F.plainAttrs_list PySem.F.slot_list_extend PySem.F.type_list_extend mt_extendI (pv 3) (pa_cons (pe_call (ok_field_cells T) (hr.mono (by decide)) rfl T.g_field_cells T.F_field_cells.kp T.b_field_cells .nil pass0 (pa_cons (pe_op op_catI (pe_lstI (pa_cons (pe_glob rfl T.c_ADDRESS_BYTE T.r_ADDRESS_BYTE) pa_nil)) (pe_callTy (show CallR _ (.type "list") (rListTI K) from call_listTI) (by rfl) T.z_list (by decide +kernel) (pa_cons (pe_fld (pv 4) rfl) pa_nil))) (pa_cons (pe_fld (pv 4) rfl) pa_nil))) pa_nil)) bml_imp))
      (pss_cons (ps_expr (PE.imp (pe_bm PySem.F.plainAttrs_list PySem.F.slot_list_extend PySem.F.type_list_extend mt_extendI (pv 3) (pa_cons (pe_call (ok_gap_cells T) (hr.mono (by decide)) rfl T.g_gap_cells T.F_gap_cells.kp T.b_gap_cells .nil pass0 (pa_cons pe_int (pa_cons (pe_ix ix_listL (pv 3) (pe_un un_neg pe_int) (fun _ _ => rfl)) pa_nil))) pa_nil)) bml_imp))
      (C8.pss_cut (ps_if (pt_cmpR op_notNone (pe_fld (pv 4) rfl) pe_non (nomark _)) (pss_one (ps_expr (PE.imp (pe_bm PySem.F.plainAttrs_list PySem.F.slot_list_extend PySem.F.type_list_extend mt_extendI (pv 3) (pa_cons (pe_call (ok_field_cells T) (hr.mono (by decide)) rfl T.g_field_cells T.F_field_cells.kp T.b_field_cells .nil pass0 (pa_cons (pe_op op_catI (pe_lstI (pa_cons (pe_glob rfl T.c_DATA_BYTE T.r_DATA_BYTE) pa_nil)) (pe_callTy (show CallR _ (.type "list") (rListTI K) from call_listTI) (by rfl) T.z_list (by decide +kernel) (pa_cons (pe_fld (pv 4) rfl) pa_nil))) (pa_cons (pe_fld (pv 4) rfl) pa_nil))) pa_nil)) bml_imp))) pss_nil)
      (pss_one (ps_expr (PE.imp (pe_bm PySem.F.plainAttrs_list PySem.F.slot_list_extend PySem.F.type_list_extend mt_extendI (pv 3) (pa_cons (pe_call (ok_gap_cells T) (hr.mono (by decide)) rfl T.g_gap_cells T.F_gap_cells.kp T.b_gap_cells .nil pass0 (pa_cons pe_int (pa_cons (pe_ix ix_listL (pv 3) (pe_un un_neg pe_int) (fun _ _ => rfl)) pa_nil))) pa_nil)) bml_imp)))))))
      (pss_cons (ps_expr (PE.imp (pe_bm PySem.F.plainAttrs_list PySem.F.slot_list_extend PySem.F.type_list_extend mt_extendI (pv 3) (pa_cons (pe_call (ok_gap_cells T) (hr.mono (by decide)) rfl T.g_gap_cells T.F_gap_cells.kp T.b_gap_cells .nil pass0 (pa_cons (pe_callB (call_maxI rfl) (by rfl) T.z_max (by decide +kernel) (pa_cons pe_int (pa_cons (pv 2) pa_nil))) (pa_cons pe_int pa_nil))) pa_nil)) bml_imp))
      (pss_one (ps_ret (pv 3)))))))), ?_⟩
  try simp only [tSeq, tAsg, tVar, tC, tOp, rI0, rI, tUn, rU, tIfS, tTest, tRet, tRetN, tDrop, tCB, tCons, tNil, tLst, tLstI, tTup, gName, tB, tAnd, tOr, tNot, tAndV, tOrV, tNotV, tIf, tNext, tBreak, tCont, gSub, tCall, tCallN, tAug, ipI, tBML, tBML0, isL_IL, isL_lst, L2.start, List.map_cons, List.map_nil, List.length_cons, List.length_nil, List.cons_append, List.nil_append, List.getElem?_cons_succ, List.getElem?_cons_zero, Option.some.injEq, exists_eq_left', exists_eq_left, exists_and_left, V.int.injEq, V.ref.injEq, V.bl.injEq, V.str.injEq, List.set_cons_zero, List.set_cons_succ, List.cons.injEq, and_true, true_and, Nat.reduceAdd, Nat.reduceSub, List.replicate_succ, List.replicate_zero, rIxI, rIxH, rIxTH, rSetI, rSetH, rCatI, rRepI, rSlI, rAppendI, rExtendI, decide_eq_true_eq, upd_same, IL_inj, HO.lst.injEq, toInts_cons, toInts_nil, Option.map_some, if_true, if_false, Bool.true_eq_false, Bool.false_eq_true, Bool.not_true, Bool.not_false, Bool.not_eq_true', decide_eq_false_iff_not, atI_0, atI_1, atI_2, atI_3, atI_4, Int.reduceToNat, Int.reduceLT, Int.reduceLE, Int.reduceNeg, Int.reducePow, cast_lit, upd_upd, Int.reduceAdd, Int.reduceMul, Int.reduceSub, Nat.reduceLT, Nat.reduceLeDiff, cmul_r, cdiv_r, tSl, tPart, tNoPart, rEq, rNe, scal_nn, scal_ii, scal_bb, scal_ss, scal_is, scal_si, V.ty.injEq, and_assoc, tyH_non, tyH_bl, tyH_int, tyH_str, tyH_ref, tyO_lst, tyO_IL, tyO_tup, itO_lst, itO_tup, itO_IL, Dw.rIxD, rLenI, rLenH, rLenTH, rLenQ, rLenB, rListI, Dw.rListS, rIntI, rIntB, rSumI, rIsiD, rIsX, tCallS, tMakeS, tMake, tMakeC, tMakeSC, tFld, sFld, HO.ins.injEq, HO.tup.injEq, cxOf_K, nox_K, tr_K, suite_K, rTupleI, rAllB, rAnyB, BL_inj, tChain, wOnly, wAs, wMany, rEqI, rNeI, Dw.rMax2, rMin2, Dw.rIsN, rIsNotN, rStrIn, rStrNotIn, not_true_eq_false, not_false_eq_true, reduceCtorEq, cl_bool, cl_int, cl_str, cl_list, cl_tuple, isB_NoneType_bool, isB_NoneType_int, isB_NoneType_str, isB_NoneType_list, isB_NoneType_tuple, isB_bool_bool, isB_bool_int, isB_bool_str, isB_bool_list, isB_bool_tuple, isB_int_bool, isB_int_int, isB_int_str, isB_int_list, isB_int_tuple, isB_str_bool, isB_str_int, isB_str_str, isB_str_list, isB_str_tuple, isB_list_bool, isB_list_int, isB_list_str, isB_list_list, isB_list_tuple, isB_tuple_bool, isB_tuple_int, isB_tuple_str, isB_tuple_list, isB_tuple_tuple, rSlCI, iRng3, iRev, gCons, gNil, iZip, iEnum, tLc_eq, tFor_eq, iRng1, iRng2, iList, iTup, rSetD, iKeys, tDNewK, Int.reducePow, Int.reduceNeg, Dw.rIxL, rListTI, tMakeK, rTupT, tPar, Dw.rSlCI, rIsB]
  refine ⟨l, xs, ss, rfl, hL, hA, hok, by omega, fun H1 s1 => ⟨_, rfl, 10, 0, rfl, by decide, fun u H2 s2 n2 e2 => ⟨⟨_, (s1.trans s2).seq hL⟩, ?_⟩⟩⟩
  have s12 := s1.trans s2
  have hu0 : H u = none := same_none s1 n2
  have hN := trackN_le hok
  have hZ : ∀ i, (trackZ (ss.take i)).length ≤ 2000000 := fun i => by
    rw [trackZ_len (take_all (fun s hs => okSec_len (hok s hs)) i)]
    have h1 := trackN_le (take_all hok i)
    have h2 := List.length_take_le' i ss
    omega
  obtain ⟨I, hI⟩ : ∃ F : Nat → L2.St → Hp → Prop, F = (fun i σ H' => Same H H' ∧ H' u = some (IL (trackZ (ss.take i))) ∧ ∃ y, σ = [some (V.ref l), some (V.int n), some (V.int (n - trackN ss)), some (V.ref u), y]) := ⟨_, rfl⟩
  refine forL (xs := xs) I (by rw [hI]; exact ⟨s12, e2, _, rfl⟩) (fun i σ H' _ h => by rw [hI] at h; exact h.1.seq hL) ?_ ?_
  · intro i v σ H3 hi h
    rw [hI] at h
    obtain ⟨s3, e3, y, rfl⟩ := h
    obtain ⟨⟨ad, da, aw, dw⟩, hs, hA1⟩ := hA.2 i v hi
    have hok1 := hok _ (List.mem_of_getElem? hs)
    have hm := trackZ_more hs
    have hZi := hZ i
    have hZm := hZ (i + 1)
    obtain ⟨p, dx, ta, u3, rfl, h1, h2, h3⟩ := hA1.same s3
    simp only at h1 h2 h3
    try simp only [tSeq, tAsg, tVar, tC, tOp, rI0, rI, tUn, rU, tIfS, tTest, tRet, tRetN, tDrop, tCB, tCons, tNil, tLst, tLstI, tTup, gName, tB, tAnd, tOr, tNot, tAndV, tOrV, tNotV, tIf, tNext, tBreak, tCont, gSub, tCall, tCallN, tAug, ipI, tBML, tBML0, isL_IL, isL_lst, L2.start, List.map_cons, List.map_nil, List.length_cons, List.length_nil, List.cons_append, List.nil_append, List.getElem?_cons_succ, List.getElem?_cons_zero, Option.some.injEq, exists_eq_left', exists_eq_left, exists_and_left, V.int.injEq, V.ref.injEq, V.bl.injEq, V.str.injEq, List.set_cons_zero, List.set_cons_succ, List.cons.injEq, and_true, true_and, Nat.reduceAdd, Nat.reduceSub, List.replicate_succ, List.replicate_zero, rIxI, rIxH, rIxTH, rSetI, rSetH, rCatI, rRepI, rSlI, rAppendI, rExtendI, decide_eq_true_eq, upd_same, IL_inj, HO.lst.injEq, toInts_cons, toInts_nil, Option.map_some, if_true, if_false, Bool.true_eq_false, Bool.false_eq_true, Bool.not_true, Bool.not_false, Bool.not_eq_true', decide_eq_false_iff_not, atI_0, atI_1, atI_2, atI_3, atI_4, Int.reduceToNat, Int.reduceLT, Int.reduceLE, Int.reduceNeg, Int.reducePow, cast_lit, upd_upd, Int.reduceAdd, Int.reduceMul, Int.reduceSub, Nat.reduceLT, Nat.reduceLeDiff, cmul_r, cdiv_r, tSl, tPart, tNoPart, rEq, rNe, scal_nn, scal_ii, scal_bb, scal_ss, scal_is, scal_si, V.ty.injEq, and_assoc, tyH_non, tyH_bl, tyH_int, tyH_str, tyH_ref, tyO_lst, tyO_IL, tyO_tup, itO_lst, itO_tup, itO_IL, Dw.rIxD, rLenI, rLenH, rLenTH, rLenQ, rLenB, rListI, Dw.rListS, rIntI, rIntB, rSumI, rIsiD, rIsX, tCallS, tMakeS, tMake, tMakeC, tMakeSC, tFld, sFld, HO.ins.injEq, HO.tup.injEq, cxOf_K, nox_K, tr_K, suite_K, rTupleI, rAllB, rAnyB, BL_inj, tChain, wOnly, wAs, wMany, rEqI, rNeI, Dw.rMax2, rMin2, Dw.rIsN, rIsNotN, rStrIn, rStrNotIn, not_true_eq_false, not_false_eq_true, reduceCtorEq, cl_bool, cl_int, cl_str, cl_list, cl_tuple, isB_NoneType_bool, isB_NoneType_int, isB_NoneType_str, isB_NoneType_list, isB_NoneType_tuple, isB_bool_bool, isB_bool_int, isB_bool_str, isB_bool_list, isB_bool_tuple, isB_int_bool, isB_int_int, isB_int_str, isB_int_list, isB_int_tuple, isB_str_bool, isB_str_int, isB_str_str, isB_str_list, isB_str_tuple, isB_list_bool, isB_list_int, isB_list_str, isB_list_list, isB_list_tuple, isB_tuple_bool, isB_tuple_int, isB_tuple_str, isB_tuple_list, isB_tuple_tuple, rSlCI, iRng3, iRev, gCons, gNil, iZip, iEnum, tLc_eq, tFor_eq, iRng1, iRng2, iList, iTup, rSetD, iKeys, tDNewK, Int.reducePow, Int.reduceNeg, Dw.rIxL, rListTI, tMakeK, rTupT, tPar, Dw.rSlCI, rIsB]
    refine ⟨by rw [e3]; rfl, line_le (by decide), fun a1 ha1 => ?_⟩
    have t1 := same_new ha1 (IL [254])
    refine ⟨_, dx, _, t1 _ _ h1, T.cl_Sector, T.na_Sector_address, _, sf_address, ta, rfl, ad, .of (t1 _ _ h2), fun a2 ha2 => ?_⟩
    have t2 := t1.trans (same_new ha2 (IL ad))
    obtain ⟨qa, qb, qc, qd, hade, hab, hqd, hdat⟩ := hok1
    have hadl : ad.length = 4 := by simp only at hade; rw [hade]; rfl
    refine ⟨[254], same_new ha2 _ _ _ upd_same, line_le (by show 1 + _ ≤ _; omega), fun a3 ha3 => ?_⟩
    have t3 := t2.trans (same_new ha3 (IL ([254] ++ ad)))
    refine ⟨_, dx, _, t3 _ _ h1, T.cl_Sector, T.na_Sector_address_wrong, _, sf_aw, a3, [254] ++ ad, aw, rfl, upd_same, (Bytes.one (by decide)).app hab, by rw [List.length_append, hadl]; decide, fun r4 H4 s4 n4 e4 => ?_⟩
    have t4 := t3.trans s4
    try simp only [tSeq, tAsg, tVar, tC, tOp, rI0, rI, tUn, rU, tIfS, tTest, tRet, tRetN, tDrop, tCB, tCons, tNil, tLst, tLstI, tTup, gName, tB, tAnd, tOr, tNot, tAndV, tOrV, tNotV, tIf, tNext, tBreak, tCont, gSub, tCall, tCallN, tAug, ipI, tBML, tBML0, isL_IL, isL_lst, L2.start, List.map_cons, List.map_nil, List.length_cons, List.length_nil, List.cons_append, List.nil_append, List.getElem?_cons_succ, List.getElem?_cons_zero, Option.some.injEq, exists_eq_left', exists_eq_left, exists_and_left, V.int.injEq, V.ref.injEq, V.bl.injEq, V.str.injEq, List.set_cons_zero, List.set_cons_succ, List.cons.injEq, and_true, true_and, Nat.reduceAdd, Nat.reduceSub, List.replicate_succ, List.replicate_zero, rIxI, rIxH, rIxTH, rSetI, rSetH, rCatI, rRepI, rSlI, rAppendI, rExtendI, decide_eq_true_eq, upd_same, IL_inj, HO.lst.injEq, toInts_cons, toInts_nil, Option.map_some, if_true, if_false, Bool.true_eq_false, Bool.false_eq_true, Bool.not_true, Bool.not_false, Bool.not_eq_true', decide_eq_false_iff_not, atI_0, atI_1, atI_2, atI_3, atI_4, Int.reduceToNat, Int.reduceLT, Int.reduceLE, Int.reduceNeg, Int.reducePow, cast_lit, upd_upd, Int.reduceAdd, Int.reduceMul, Int.reduceSub, Nat.reduceLT, Nat.reduceLeDiff, cmul_r, cdiv_r, tSl, tPart, tNoPart, rEq, rNe, scal_nn, scal_ii, scal_bb, scal_ss, scal_is, scal_si, V.ty.injEq, and_assoc, tyH_non, tyH_bl, tyH_int, tyH_str, tyH_ref, tyO_lst, tyO_IL, tyO_tup, itO_lst, itO_tup, itO_IL, Dw.rIxD, rLenI, rLenH, rLenTH, rLenQ, rLenB, rListI, Dw.rListS, rIntI, rIntB, rSumI, rIsiD, rIsX, tCallS, tMakeS, tMake, tMakeC, tMakeSC, tFld, sFld, HO.ins.injEq, HO.tup.injEq, cxOf_K, nox_K, tr_K, suite_K, rTupleI, rAllB, rAnyB, BL_inj, tChain, wOnly, wAs, wMany, rEqI, rNeI, Dw.rMax2, rMin2, Dw.rIsN, rIsNotN, rStrIn, rStrNotIn, not_true_eq_false, not_false_eq_true, reduceCtorEq, cl_bool, cl_int, cl_str, cl_list, cl_tuple, isB_NoneType_bool, isB_NoneType_int, isB_NoneType_str, isB_NoneType_list, isB_NoneType_tuple, isB_bool_bool, isB_bool_int, isB_bool_str, isB_bool_list, isB_bool_tuple, isB_int_bool, isB_int_int, isB_int_str, isB_int_list, isB_int_tuple, isB_str_bool, isB_str_int, isB_str_str, isB_str_list, isB_str_tuple, isB_list_bool, isB_list_int, isB_list_str, isB_list_list, isB_list_tuple, isB_tuple_bool, isB_tuple_int, isB_tuple_str, isB_tuple_list, isB_tuple_tuple, rSlCI, iRng3, iRev, gCons, gNil, iZip, iEnum, tLc_eq, tFor_eq, iRng1, iRng2, iList, iTup, rSetD, iKeys, tDNewK, Int.reducePow, Int.reduceNeg, Dw.rIxL, rListTI, tMakeK, rTupT, tPar, Dw.rSlCI, rIsB, t4 _ _ e3, e4]
    have hF := fieldZ_len (254 :: ad) aw
    rw [List.length_cons, hadl] at hF
    have eu3 : H3 u = some (IL (trackZ (ss.take i))) := e3
    generalize hZe : trackZ (ss.take i) = Z at hZi hm eu3 ⊢
    have neZ : Z ≠ [] := by rw [← hZe]; exact trackZ_ne _
    have neF : Z ++ fieldZ (254 :: ad) aw ≠ [] := fun e => neZ (List.append_eq_nil_iff.mp e).1
    refine ⟨line_le (by omega), neF, 8, _, rfl, by decide, fun r5 H5 s5 n5 e5 => ?_⟩
    refine ⟨r5, rfl, _, s5 _ _ upd_same, _, e5, line_le (by rw [gapZ_len, List.length_append]; omega), ?_⟩
    have eS := secStep_eq Z ad da aw dw
    have hc2 : (Z ++ fieldZ (254 :: ad) aw ++ gapZ 8 ((Z ++ fieldZ (254 :: ad) aw).getLastD 0)).length ≤ 2001000 := by
      rw [List.length_append, List.length_append, gapZ_len, hF]
      omega
    have nec2 : Z ++ fieldZ (254 :: ad) aw ++ gapZ 8 ((Z ++ fieldZ (254 :: ad) aw).getLastD 0) ≠ [] := fun e => neF (List.append_eq_nil_iff.mp e).1
    generalize Z ++ fieldZ (254 :: ad) aw ++ gapZ 8 ((Z ++ fieldZ (254 :: ad) aw).getLastD 0) = c2 at eS hc2 nec2 ⊢
    have pu : p ≠ u := fun e => by subst e; rw [eu3] at h1; cases h1
    have B5 : SameB u H3 (upd H5 u (IL c2)) := fun b o hn hb => by
      rw [upd_ne hn]
      exact s5 _ _ (by rw [upd_ne hn]; exact t4 _ _ hb)
    have e5u : upd H5 u (IL c2) u = some (IL c2) := upd_same
    generalize upd H5 u (IL c2) = F5 at B5 e5u ⊢
    obtain ⟨M, hM⟩ : ∃ F : L2.St → Hp → Prop, F = (fun σ' H' => SameB u H3 H' ∧ H' u = some (IL (datC c2 da dw)) ∧ σ' = [some (V.ref l), some (V.int n), some (V.int (n - trackN ss)), some (V.ref u), some (V.ref p)]) := ⟨_, rfl⟩
    refine ⟨M, ?_, ?_⟩
    · try simp only [tSeq, tAsg, tVar, tC, tOp, rI0, rI, tUn, rU, tIfS, tTest, tRet, tRetN, tDrop, tCB, tCons, tNil, tLst, tLstI, tTup, gName, tB, tAnd, tOr, tNot, tAndV, tOrV, tNotV, tIf, tNext, tBreak, tCont, gSub, tCall, tCallN, tAug, ipI, tBML, tBML0, isL_IL, isL_lst, L2.start, List.map_cons, List.map_nil, List.length_cons, List.length_nil, List.cons_append, List.nil_append, List.getElem?_cons_succ, List.getElem?_cons_zero, Option.some.injEq, exists_eq_left', exists_eq_left, exists_and_left, V.int.injEq, V.ref.injEq, V.bl.injEq, V.str.injEq, List.set_cons_zero, List.set_cons_succ, List.cons.injEq, and_true, true_and, Nat.reduceAdd, Nat.reduceSub, List.replicate_succ, List.replicate_zero, rIxI, rIxH, rIxTH, rSetI, rSetH, rCatI, rRepI, rSlI, rAppendI, rExtendI, decide_eq_true_eq, upd_same, IL_inj, HO.lst.injEq, toInts_cons, toInts_nil, Option.map_some, if_true, if_false, Bool.true_eq_false, Bool.false_eq_true, Bool.not_true, Bool.not_false, Bool.not_eq_true', decide_eq_false_iff_not, atI_0, atI_1, atI_2, atI_3, atI_4, Int.reduceToNat, Int.reduceLT, Int.reduceLE, Int.reduceNeg, Int.reducePow, cast_lit, upd_upd, Int.reduceAdd, Int.reduceMul, Int.reduceSub, Nat.reduceLT, Nat.reduceLeDiff, cmul_r, cdiv_r, tSl, tPart, tNoPart, rEq, rNe, scal_nn, scal_ii, scal_bb, scal_ss, scal_is, scal_si, V.ty.injEq, and_assoc, tyH_non, tyH_bl, tyH_int, tyH_str, tyH_ref, tyO_lst, tyO_IL, tyO_tup, itO_lst, itO_tup, itO_IL, Dw.rIxD, rLenI, rLenH, rLenTH, rLenQ, rLenB, rListI, Dw.rListS, rIntI, rIntB, rSumI, rIsiD, rIsX, tCallS, tMakeS, tMake, tMakeC, tMakeSC, tFld, sFld, HO.ins.injEq, HO.tup.injEq, cxOf_K, nox_K, tr_K, suite_K, rTupleI, rAllB, rAnyB, BL_inj, tChain, wOnly, wAs, wMany, rEqI, rNeI, Dw.rMax2, rMin2, Dw.rIsN, rIsNotN, rStrIn, rStrNotIn, not_true_eq_false, not_false_eq_true, reduceCtorEq, cl_bool, cl_int, cl_str, cl_list, cl_tuple, isB_NoneType_bool, isB_NoneType_int, isB_NoneType_str, isB_NoneType_list, isB_NoneType_tuple, isB_bool_bool, isB_bool_int, isB_bool_str, isB_bool_list, isB_bool_tuple, isB_int_bool, isB_int_int, isB_int_str, isB_int_list, isB_int_tuple, isB_str_bool, isB_str_int, isB_str_str, isB_str_list, isB_str_tuple, isB_list_bool, isB_list_int, isB_list_str, isB_list_list, isB_list_tuple, isB_tuple_bool, isB_tuple_int, isB_tuple_str, isB_tuple_list, isB_tuple_tuple, rSlCI, iRng3, iRev, gCons, gNil, iZip, iEnum, tLc_eq, tFor_eq, iRng1, iRng2, iList, iTup, rSetD, iKeys, tDNewK, Int.reducePow, Int.reduceNeg, Dw.rIxL, rListTI, tMakeK, rTupT, tPar, Dw.rSlCI, rIsB]
      have hp5 := B5 _ _ pu h1
      refine ⟨_, dx, _, hp5, T.cl_Sector, T.na_Sector_data, _, sf_data, ?_⟩
      rcases h3 with ⟨rfl, rfl⟩ | ⟨td, nd, rfl, rfl, hD⟩
      · rw [if_neg (fun h => h rfl), hM]
        exact ⟨B5, e5u, rfl⟩
      · rw [if_pos (fun h => by cases h)]
        have tdu : td ≠ u := fun e => by subst e; rw [eu3] at hD; cases hD
        have hD5 := B5 _ _ tdu hD
        obtain ⟨hnl, hnb⟩ := hdat nd rfl
        have hq4 : 2 ^ qd.toNat ≤ 2 ^ 5 := Nat.pow_le_pow_right (by decide) (by omega)
        refine ⟨by rw [e5u]; rfl, line_le (by decide), fun a1 ha1 => ?_⟩
        have v1 := same_new ha1 (IL [251])
        refine ⟨_, dx, _, v1 _ _ hp5, T.cl_Sector, T.na_Sector_data, _, sf_data, td, rfl, nd, .of (v1 _ _ hD5), fun a2 ha2 => ?_⟩
        have v2 := v1.trans (same_new ha2 (IL nd))
        refine ⟨[251], same_new ha2 _ _ _ upd_same, line_le (by show 1 + _ ≤ _; omega), fun a3 ha3 => ?_⟩
        have v3 := v2.trans (same_new ha3 (IL ([251] ++ nd)))
        refine ⟨_, dx, _, v3 _ _ hp5, T.cl_Sector, T.na_Sector_data_wrong, _, sf_dw, a3, [251] ++ nd, dw, rfl, upd_same, (Bytes.one (by decide)).app hnb, by rw [List.length_append]; show 1 + _ ≤ _; omega, fun r6 H6 s6 n6 e6 => ?_⟩
        have v6 := v3.trans s6
        have hF2 := fieldZ_len (251 :: nd) dw
        rw [List.length_cons] at hF2
        try simp only [tSeq, tAsg, tVar, tC, tOp, rI0, rI, tUn, rU, tIfS, tTest, tRet, tRetN, tDrop, tCB, tCons, tNil, tLst, tLstI, tTup, gName, tB, tAnd, tOr, tNot, tAndV, tOrV, tNotV, tIf, tNext, tBreak, tCont, gSub, tCall, tCallN, tAug, ipI, tBML, tBML0, isL_IL, isL_lst, L2.start, List.map_cons, List.map_nil, List.length_cons, List.length_nil, List.cons_append, List.nil_append, List.getElem?_cons_succ, List.getElem?_cons_zero, Option.some.injEq, exists_eq_left', exists_eq_left, exists_and_left, V.int.injEq, V.ref.injEq, V.bl.injEq, V.str.injEq, List.set_cons_zero, List.set_cons_succ, List.cons.injEq, and_true, true_and, Nat.reduceAdd, Nat.reduceSub, List.replicate_succ, List.replicate_zero, rIxI, rIxH, rIxTH, rSetI, rSetH, rCatI, rRepI, rSlI, rAppendI, rExtendI, decide_eq_true_eq, upd_same, IL_inj, HO.lst.injEq, toInts_cons, toInts_nil, Option.map_some, if_true, if_false, Bool.true_eq_false, Bool.false_eq_true, Bool.not_true, Bool.not_false, Bool.not_eq_true', decide_eq_false_iff_not, atI_0, atI_1, atI_2, atI_3, atI_4, Int.reduceToNat, Int.reduceLT, Int.reduceLE, Int.reduceNeg, Int.reducePow, cast_lit, upd_upd, Int.reduceAdd, Int.reduceMul, Int.reduceSub, Nat.reduceLT, Nat.reduceLeDiff, cmul_r, cdiv_r, tSl, tPart, tNoPart, rEq, rNe, scal_nn, scal_ii, scal_bb, scal_ss, scal_is, scal_si, V.ty.injEq, and_assoc, tyH_non, tyH_bl, tyH_int, tyH_str, tyH_ref, tyO_lst, tyO_IL, tyO_tup, itO_lst, itO_tup, itO_IL, Dw.rIxD, rLenI, rLenH, rLenTH, rLenQ, rLenB, rListI, Dw.rListS, rIntI, rIntB, rSumI, rIsiD, rIsX, tCallS, tMakeS, tMake, tMakeC, tMakeSC, tFld, sFld, HO.ins.injEq, HO.tup.injEq, cxOf_K, nox_K, tr_K, suite_K, rTupleI, rAllB, rAnyB, BL_inj, tChain, wOnly, wAs, wMany, rEqI, rNeI, Dw.rMax2, rMin2, Dw.rIsN, rIsNotN, rStrIn, rStrNotIn, not_true_eq_false, not_false_eq_true, reduceCtorEq, cl_bool, cl_int, cl_str, cl_list, cl_tuple, isB_NoneType_bool, isB_NoneType_int, isB_NoneType_str, isB_NoneType_list, isB_NoneType_tuple, isB_bool_bool, isB_bool_int, isB_bool_str, isB_bool_list, isB_bool_tuple, isB_int_bool, isB_int_int, isB_int_str, isB_int_list, isB_int_tuple, isB_str_bool, isB_str_int, isB_str_str, isB_str_list, isB_str_tuple, isB_list_bool, isB_list_int, isB_list_str, isB_list_list, isB_list_tuple, isB_tuple_bool, isB_tuple_int, isB_tuple_str, isB_tuple_list, isB_tuple_tuple, rSlCI, iRng3, iRev, gCons, gNil, iZip, iEnum, tLc_eq, tFor_eq, iRng1, iRng2, iList, iTup, rSetD, iKeys, tDNewK, Int.reducePow, Int.reduceNeg, Dw.rIxL, rListTI, tMakeK, rTupT, tPar, Dw.rSlCI, rIsB, v6 _ _ e5u, e6]
        refine ⟨line_le (by omega), ?_⟩
        rw [hM]
        refine ⟨fun b o hn hb => ?_, upd_same, rfl⟩
        rw [upd_ne hn]
        exact v6 _ _ (B5 _ _ hn hb)
    · intro σ' H6 h
      rw [hM] at h
      obtain ⟨B6, e6, rfl⟩ := h
      have hc3 : (datC c2 da dw).length ≤ 2020000 ∧ (datC c2 da dw) ≠ [] := by
        cases da with
        | none => exact ⟨by show c2.length ≤ _; omega, nec2⟩
        | some nd =>
          obtain ⟨hnl, hnb⟩ := hdat nd rfl
          have hq4 : 2 ^ qd.toNat ≤ 2 ^ 5 := Nat.pow_le_pow_right (by decide) (by omega)
          have hF2 := fieldZ_len (251 :: nd) dw
          rw [List.length_cons] at hF2
          exact ⟨by show (c2 ++ fieldZ (251 :: nd) dw).length ≤ _; rw [List.length_append]; omega, fun e => nec2 (List.append_eq_nil_iff.mp e).1⟩
      generalize (datC c2 da dw) = c3 at hc3 e6 eS
      try simp only [tSeq, tAsg, tVar, tC, tOp, rI0, rI, tUn, rU, tIfS, tTest, tRet, tRetN, tDrop, tCB, tCons, tNil, tLst, tLstI, tTup, gName, tB, tAnd, tOr, tNot, tAndV, tOrV, tNotV, tIf, tNext, tBreak, tCont, gSub, tCall, tCallN, tAug, ipI, tBML, tBML0, isL_IL, isL_lst, L2.start, List.map_cons, List.map_nil, List.length_cons, List.length_nil, List.cons_append, List.nil_append, List.getElem?_cons_succ, List.getElem?_cons_zero, Option.some.injEq, exists_eq_left', exists_eq_left, exists_and_left, V.int.injEq, V.ref.injEq, V.bl.injEq, V.str.injEq, List.set_cons_zero, List.set_cons_succ, List.cons.injEq, and_true, true_and, Nat.reduceAdd, Nat.reduceSub, List.replicate_succ, List.replicate_zero, rIxI, rIxH, rIxTH, rSetI, rSetH, rCatI, rRepI, rSlI, rAppendI, rExtendI, decide_eq_true_eq, upd_same, IL_inj, HO.lst.injEq, toInts_cons, toInts_nil, Option.map_some, if_true, if_false, Bool.true_eq_false, Bool.false_eq_true, Bool.not_true, Bool.not_false, Bool.not_eq_true', decide_eq_false_iff_not, atI_0, atI_1, atI_2, atI_3, atI_4, Int.reduceToNat, Int.reduceLT, Int.reduceLE, Int.reduceNeg, Int.reducePow, cast_lit, upd_upd, Int.reduceAdd, Int.reduceMul, Int.reduceSub, Nat.reduceLT, Nat.reduceLeDiff, cmul_r, cdiv_r, tSl, tPart, tNoPart, rEq, rNe, scal_nn, scal_ii, scal_bb, scal_ss, scal_is, scal_si, V.ty.injEq, and_assoc, tyH_non, tyH_bl, tyH_int, tyH_str, tyH_ref, tyO_lst, tyO_IL, tyO_tup, itO_lst, itO_tup, itO_IL, Dw.rIxD, rLenI, rLenH, rLenTH, rLenQ, rLenB, rListI, Dw.rListS, rIntI, rIntB, rSumI, rIsiD, rIsX, tCallS, tMakeS, tMake, tMakeC, tMakeSC, tFld, sFld, HO.ins.injEq, HO.tup.injEq, cxOf_K, nox_K, tr_K, suite_K, rTupleI, rAllB, rAnyB, BL_inj, tChain, wOnly, wAs, wMany, rEqI, rNeI, Dw.rMax2, rMin2, Dw.rIsN, rIsNotN, rStrIn, rStrNotIn, not_true_eq_false, not_false_eq_true, reduceCtorEq, cl_bool, cl_int, cl_str, cl_list, cl_tuple, isB_NoneType_bool, isB_NoneType_int, isB_NoneType_str, isB_NoneType_list, isB_NoneType_tuple, isB_bool_bool, isB_bool_int, isB_bool_str, isB_bool_list, isB_bool_tuple, isB_int_bool, isB_int_int, isB_int_str, isB_int_list, isB_int_tuple, isB_str_bool, isB_str_int, isB_str_str, isB_str_list, isB_str_tuple, isB_list_bool, isB_list_int, isB_list_str, isB_list_list, isB_list_tuple, isB_tuple_bool, isB_tuple_int, isB_tuple_str, isB_tuple_list, isB_tuple_tuple, rSlCI, iRng3, iRev, gCons, gNil, iZip, iEnum, tLc_eq, tFor_eq, iRng1, iRng2, iList, iTup, rSetD, iKeys, tDNewK, Int.reducePow, Int.reduceNeg, Dw.rIxL, rListTI, tMakeK, rTupT, tPar, Dw.rSlCI, rIsB, e6]
      refine ⟨hc3.2, 8, _, rfl, by decide, fun r7 H7 s7 n7 e7 => ?_⟩
      try simp only [tSeq, tAsg, tVar, tC, tOp, rI0, rI, tUn, rU, tIfS, tTest, tRet, tRetN, tDrop, tCB, tCons, tNil, tLst, tLstI, tTup, gName, tB, tAnd, tOr, tNot, tAndV, tOrV, tNotV, tIf, tNext, tBreak, tCont, gSub, tCall, tCallN, tAug, ipI, tBML, tBML0, isL_IL, isL_lst, L2.start, List.map_cons, List.map_nil, List.length_cons, List.length_nil, List.cons_append, List.nil_append, List.getElem?_cons_succ, List.getElem?_cons_zero, Option.some.injEq, exists_eq_left', exists_eq_left, exists_and_left, V.int.injEq, V.ref.injEq, V.bl.injEq, V.str.injEq, List.set_cons_zero, List.set_cons_succ, List.cons.injEq, and_true, true_and, Nat.reduceAdd, Nat.reduceSub, List.replicate_succ, List.replicate_zero, rIxI, rIxH, rIxTH, rSetI, rSetH, rCatI, rRepI, rSlI, rAppendI, rExtendI, decide_eq_true_eq, upd_same, IL_inj, HO.lst.injEq, toInts_cons, toInts_nil, Option.map_some, if_true, if_false, Bool.true_eq_false, Bool.false_eq_true, Bool.not_true, Bool.not_false, Bool.not_eq_true', decide_eq_false_iff_not, atI_0, atI_1, atI_2, atI_3, atI_4, Int.reduceToNat, Int.reduceLT, Int.reduceLE, Int.reduceNeg, Int.reducePow, cast_lit, upd_upd, Int.reduceAdd, Int.reduceMul, Int.reduceSub, Nat.reduceLT, Nat.reduceLeDiff, cmul_r, cdiv_r, tSl, tPart, tNoPart, rEq, rNe, scal_nn, scal_ii, scal_bb, scal_ss, scal_is, scal_si, V.ty.injEq, and_assoc, tyH_non, tyH_bl, tyH_int, tyH_str, tyH_ref, tyO_lst, tyO_IL, tyO_tup, itO_lst, itO_tup, itO_IL, Dw.rIxD, rLenI, rLenH, rLenTH, rLenQ, rLenB, rListI, Dw.rListS, rIntI, rIntB, rSumI, rIsiD, rIsX, tCallS, tMakeS, tMake, tMakeC, tMakeSC, tFld, sFld, HO.ins.injEq, HO.tup.injEq, cxOf_K, nox_K, tr_K, suite_K, rTupleI, rAllB, rAnyB, BL_inj, tChain, wOnly, wAs, wMany, rEqI, rNeI, Dw.rMax2, rMin2, Dw.rIsN, rIsNotN, rStrIn, rStrNotIn, not_true_eq_false, not_false_eq_true, reduceCtorEq, cl_bool, cl_int, cl_str, cl_list, cl_tuple, isB_NoneType_bool, isB_NoneType_int, isB_NoneType_str, isB_NoneType_list, isB_NoneType_tuple, isB_bool_bool, isB_bool_int, isB_bool_str, isB_bool_list, isB_bool_tuple, isB_int_bool, isB_int_int, isB_int_str, isB_int_list, isB_int_tuple, isB_str_bool, isB_str_int, isB_str_str, isB_str_list, isB_str_tuple, isB_list_bool, isB_list_int, isB_list_str, isB_list_list, isB_list_tuple, isB_tuple_bool, isB_tuple_int, isB_tuple_str, isB_tuple_list, isB_tuple_tuple, rSlCI, iRng3, iRev, gCons, gNil, iZip, iEnum, tLc_eq, tFor_eq, iRng1, iRng2, iList, iTup, rSetD, iKeys, tDNewK, Int.reducePow, Int.reduceNeg, Dw.rIxL, rListTI, tMakeK, rTupT, tPar, Dw.rSlCI, rIsB, s7 _ _ e6, e7]
      refine ⟨line_le (by rw [gapZ_len]; omega), ?_⟩
      rw [hI]
      refine ⟨fun b o hb => ?_, by rw [upd_same, hm, eS], _, rfl⟩
      have nb := ne_of_none hb hu0
      rw [upd_ne nb]
      exact s7 _ _ (B6 _ _ nb (s3 _ _ hb))
  · intro σ H' h
    rw [hI] at h
    obtain ⟨s3, e3, y, rfl⟩ := h
    rw [hA.1, List.take_length] at e3
    have hZl := hZ ss.length
    rw [List.take_length] at hZl
    try simp only [tSeq, tAsg, tVar, tC, tOp, rI0, rI, tUn, rU, tIfS, tTest, tRet, tRetN, tDrop, tCB, tCons, tNil, tLst, tLstI, tTup, gName, tB, tAnd, tOr, tNot, tAndV, tOrV, tNotV, tIf, tNext, tBreak, tCont, gSub, tCall, tCallN, tAug, ipI, tBML, tBML0, isL_IL, isL_lst, L2.start, List.map_cons, List.map_nil, List.length_cons, List.length_nil, List.cons_append, List.nil_append, List.getElem?_cons_succ, List.getElem?_cons_zero, Option.some.injEq, exists_eq_left', exists_eq_left, exists_and_left, V.int.injEq, V.ref.injEq, V.bl.injEq, V.str.injEq, List.set_cons_zero, List.set_cons_succ, List.cons.injEq, and_true, true_and, Nat.reduceAdd, Nat.reduceSub, List.replicate_succ, List.replicate_zero, rIxI, rIxH, rIxTH, rSetI, rSetH, rCatI, rRepI, rSlI, rAppendI, rExtendI, decide_eq_true_eq, upd_same, IL_inj, HO.lst.injEq, toInts_cons, toInts_nil, Option.map_some, if_true, if_false, Bool.true_eq_false, Bool.false_eq_true, Bool.not_true, Bool.not_false, Bool.not_eq_true', decide_eq_false_iff_not, atI_0, atI_1, atI_2, atI_3, atI_4, Int.reduceToNat, Int.reduceLT, Int.reduceLE, Int.reduceNeg, Int.reducePow, cast_lit, upd_upd, Int.reduceAdd, Int.reduceMul, Int.reduceSub, Nat.reduceLT, Nat.reduceLeDiff, cmul_r, cdiv_r, tSl, tPart, tNoPart, rEq, rNe, scal_nn, scal_ii, scal_bb, scal_ss, scal_is, scal_si, V.ty.injEq, and_assoc, tyH_non, tyH_bl, tyH_int, tyH_str, tyH_ref, tyO_lst, tyO_IL, tyO_tup, itO_lst, itO_tup, itO_IL, Dw.rIxD, rLenI, rLenH, rLenTH, rLenQ, rLenB, rListI, Dw.rListS, rIntI, rIntB, rSumI, rIsiD, rIsX, tCallS, tMakeS, tMake, tMakeC, tMakeSC, tFld, sFld, HO.ins.injEq, HO.tup.injEq, cxOf_K, nox_K, tr_K, suite_K, rTupleI, rAllB, rAnyB, BL_inj, tChain, wOnly, wAs, wMany, rEqI, rNeI, Dw.rMax2, rMin2, Dw.rIsN, rIsNotN, rStrIn, rStrNotIn, not_true_eq_false, not_false_eq_true, reduceCtorEq, cl_bool, cl_int, cl_str, cl_list, cl_tuple, isB_NoneType_bool, isB_NoneType_int, isB_NoneType_str, isB_NoneType_list, isB_NoneType_tuple, isB_bool_bool, isB_bool_int, isB_bool_str, isB_bool_list, isB_bool_tuple, isB_int_bool, isB_int_int, isB_int_str, isB_int_list, isB_int_tuple, isB_str_bool, isB_str_int, isB_str_str, isB_str_list, isB_str_tuple, isB_list_bool, isB_list_int, isB_list_str, isB_list_list, isB_list_tuple, isB_tuple_bool, isB_tuple_int, isB_tuple_str, isB_tuple_list, isB_tuple_tuple, rSlCI, iRng3, iRev, gCons, gNil, iZip, iEnum, tLc_eq, tFor_eq, iRng1, iRng2, iList, iTup, rSetD, iKeys, tDNewK, Int.reducePow, Int.reduceNeg, Dw.rIxL, rListTI, tMakeK, rTupT, tPar, Dw.rSlCI, rIsB, e3]
    refine ⟨(n - trackN ss).toNat, 0, ?_, ?_, ?_⟩
    · have e : max 0 (n - (trackN ss : Int)) = (((n - (trackN ss : Int)).toNat : Nat) : Int) := by omega
      rw [e]
    · omega
    · intro r4 H4 s4 n4 e4
      try simp only [tSeq, tAsg, tVar, tC, tOp, rI0, rI, tUn, rU, tIfS, tTest, tRet, tRetN, tDrop, tCB, tCons, tNil, tLst, tLstI, tTup, gName, tB, tAnd, tOr, tNot, tAndV, tOrV, tNotV, tIf, tNext, tBreak, tCont, gSub, tCall, tCallN, tAug, ipI, tBML, tBML0, isL_IL, isL_lst, L2.start, List.map_cons, List.map_nil, List.length_cons, List.length_nil, List.cons_append, List.nil_append, List.getElem?_cons_succ, List.getElem?_cons_zero, Option.some.injEq, exists_eq_left', exists_eq_left, exists_and_left, V.int.injEq, V.ref.injEq, V.bl.injEq, V.str.injEq, List.set_cons_zero, List.set_cons_succ, List.cons.injEq, and_true, true_and, Nat.reduceAdd, Nat.reduceSub, List.replicate_succ, List.replicate_zero, rIxI, rIxH, rIxTH, rSetI, rSetH, rCatI, rRepI, rSlI, rAppendI, rExtendI, decide_eq_true_eq, upd_same, IL_inj, HO.lst.injEq, toInts_cons, toInts_nil, Option.map_some, if_true, if_false, Bool.true_eq_false, Bool.false_eq_true, Bool.not_true, Bool.not_false, Bool.not_eq_true', decide_eq_false_iff_not, atI_0, atI_1, atI_2, atI_3, atI_4, Int.reduceToNat, Int.reduceLT, Int.reduceLE, Int.reduceNeg, Int.reducePow, cast_lit, upd_upd, Int.reduceAdd, Int.reduceMul, Int.reduceSub, Nat.reduceLT, Nat.reduceLeDiff, cmul_r, cdiv_r, tSl, tPart, tNoPart, rEq, rNe, scal_nn, scal_ii, scal_bb, scal_ss, scal_is, scal_si, V.ty.injEq, and_assoc, tyH_non, tyH_bl, tyH_int, tyH_str, tyH_ref, tyO_lst, tyO_IL, tyO_tup, itO_lst, itO_tup, itO_IL, Dw.rIxD, rLenI, rLenH, rLenTH, rLenQ, rLenB, rListI, Dw.rListS, rIntI, rIntB, rSumI, rIsiD, rIsX, tCallS, tMakeS, tMake, tMakeC, tMakeSC, tFld, sFld, HO.ins.injEq, HO.tup.injEq, cxOf_K, nox_K, tr_K, suite_K, rTupleI, rAllB, rAnyB, BL_inj, tChain, wOnly, wAs, wMany, rEqI, rNeI, Dw.rMax2, rMin2, Dw.rIsN, rIsNotN, rStrIn, rStrNotIn, not_true_eq_false, not_false_eq_true, reduceCtorEq, cl_bool, cl_int, cl_str, cl_list, cl_tuple, isB_NoneType_bool, isB_NoneType_int, isB_NoneType_str, isB_NoneType_list, isB_NoneType_tuple, isB_bool_bool, isB_bool_int, isB_bool_str, isB_bool_list, isB_bool_tuple, isB_int_bool, isB_int_int, isB_int_str, isB_int_list, isB_int_tuple, isB_str_bool, isB_str_int, isB_str_str, isB_str_list, isB_str_tuple, isB_list_bool, isB_list_int, isB_list_str, isB_list_list, isB_list_tuple, isB_tuple_bool, isB_tuple_int, isB_tuple_str, isB_tuple_list, isB_tuple_tuple, rSlCI, iRng3, iRev, gCons, gNil, iZip, iEnum, tLc_eq, tFor_eq, iRng1, iRng2, iList, iTup, rSetD, iKeys, tDNewK, Int.reducePow, Int.reduceNeg, Dw.rIxL, rListTI, tMakeK, rTupT, tPar, Dw.rSlCI, rIsB, s4 _ _ e3, e4]
      refine ⟨line_le (by rw [gapZ_len]; omega), k _ _ (fun b o hb => ?_) hu0 upd_same⟩
      rw [upd_ne (ne_of_none hb hu0)]
      exact s4 _ _ (s3 _ _ hb)
end
section
variable {P : Program} {w : World} {K : PySem.W.Frag} {mg : Str → Option Value} {base : Heap} {A : Ad}
def spMarkPl : Sp := fun vs H Q _ => ∃ (a : Addr) (cs : List Int), vs = [.ref a] ∧ H a = some (IL cs) ∧ cs.length ≤ 1000000 ∧ ∀ r H', Same H H' → H r = none → H' r = some (IL (NL (mkZ cs))) → Q (.ref r) H'
theorem ok_mark_places (T : Tx K mg A) : FnOk P w K mg base CX0 1 A.f_mark_places A.d_mark_places ["cells"] spMarkPl := by
  refine T.F_mark_places.ok sc_mark_places (fun vs H Q E h => ?_) (fun cdv A' outer s H vs Q E hr h => ?_)
  · obtain ⟨a, cs, rfl, _⟩ := h
    rfl
  obtain ⟨a, cs, rfl, hA, hl, k⟩ := h
  refine ⟨_, (pss_cons (ps_set (i := 1) sc_mark_places.nd rfl (Or.inl rfl) (pe_op op_repI (pe_callTy (show CallR _ (.type "list") (rListTI K) from call_listTI) (by rfl) T.z_list (by decide +kernel) (pa_cons (pe_glob (v := .ref A.c_MARK) rfl T.ct_MARK rfl) pa_nil)) pe_int))
      (pss_cons (ps_set (i := 2) sc_mark_places.nd rfl (Or.inl rfl) (pe_lstI pa_nil))
      (pss_cons (ps_set (i := 3) sc_mark_places.nd rfl (Or.inl rfl) pe_int)
      (pss_cons (ps_while PassesOwn.never (pt_cmpR op_le (pe_op op_add (pv 3) (pe_glob rfl T.c_MARKS_LENGTH T.r_MARKS_LENGTH)) (pe_callB call_lenI (by rfl) T.z_len (by decide +kernel) (pa_cons (pv 0) pa_nil)) (nomark _)) (pss_one (ps_if (pt_cmpR (op_eqI hr.units) (pe_slice sl_listI (pv 0) (po_some (pv 3)) (po_some (pe_op op_add (pv 3) (pe_glob rfl T.c_MARKS_LENGTH T.r_MARKS_LENGTH)))) (pv 1) (nomark _)) (pss_cons (ps_expr (PE.imp (pe_bm PySem.F.plainAttrs_list PySem.F.slot_list_append PySem.F.type_list_append mt_appendI (pv 2) (pa_cons (pv 3) pa_nil)) bml_imp))
      (pss_one (ps_aug (i := 3) sc_mark_places.nd rfl (Or.inl rfl) (pe_glob rfl T.c_MARKS_LENGTH T.r_MARKS_LENGTH) ip_add))) (pss_one (ps_aug (i := 3) sc_mark_places.nd rfl (Or.inl rfl) pe_int ip_add)))))
      (pss_one (ps_ret (pv 2))))))), ?_⟩
  try simp only [tSeq, tAsg, tVar, tC, tOp, rI0, rI, tUn, rU, tIfS, tTest, tRet, tRetN, tDrop, tCB, tCons, tNil, tLst, tLstI, tTup, gName, tB, tAnd, tOr, tNot, tAndV, tOrV, tNotV, tIf, tNext, tBreak, tCont, gSub, tCall, tCallN, tAug, ipI, tBML, tBML0, isL_IL, isL_lst, L2.start, List.map_cons, List.map_nil, List.length_cons, List.length_nil, List.cons_append, List.nil_append, List.getElem?_cons_succ, List.getElem?_cons_zero, Option.some.injEq, exists_eq_left', exists_eq_left, exists_and_left, V.int.injEq, V.ref.injEq, V.bl.injEq, V.str.injEq, List.set_cons_zero, List.set_cons_succ, List.cons.injEq, and_true, true_and, Nat.reduceAdd, Nat.reduceSub, List.replicate_succ, List.replicate_zero, rIxI, rIxH, rIxTH, rSetI, rSetH, rCatI, rRepI, rSlI, rAppendI, rExtendI, decide_eq_true_eq, upd_same, IL_inj, HO.lst.injEq, toInts_cons, toInts_nil, Option.map_some, if_true, if_false, Bool.true_eq_false, Bool.false_eq_true, Bool.not_true, Bool.not_false, Bool.not_eq_true', decide_eq_false_iff_not, atI_0, atI_1, atI_2, atI_3, atI_4, Int.reduceToNat, Int.reduceLT, Int.reduceLE, Int.reduceNeg, Int.reducePow, cast_lit, upd_upd, Int.reduceAdd, Int.reduceMul, Int.reduceSub, Nat.reduceLT, Nat.reduceLeDiff, cmul_r, cdiv_r, tSl, tPart, tNoPart, rEq, rNe, scal_nn, scal_ii, scal_bb, scal_ss, scal_is, scal_si, V.ty.injEq, and_assoc, tyH_non, tyH_bl, tyH_int, tyH_str, tyH_ref, tyO_lst, tyO_IL, tyO_tup, itO_lst, itO_tup, itO_IL, Dw.rIxD, rLenI, rLenH, rLenTH, rLenQ, rLenB, rListI, Dw.rListS, rIntI, rIntB, rSumI, rIsiD, rIsX, tCallS, tMakeS, tMake, tMakeC, tMakeSC, tFld, sFld, HO.ins.injEq, HO.tup.injEq, cxOf_K, nox_K, tr_K, suite_K, rTupleI, rAllB, rAnyB, BL_inj, tChain, wOnly, wAs, wMany, rEqI, rNeI, Dw.rMax2, rMin2, Dw.rIsN, rIsNotN, rStrIn, rStrNotIn, not_true_eq_false, not_false_eq_true, reduceCtorEq, cl_bool, cl_int, cl_str, cl_list, cl_tuple, isB_NoneType_bool, isB_NoneType_int, isB_NoneType_str, isB_NoneType_list, isB_NoneType_tuple, isB_bool_bool, isB_bool_int, isB_bool_str, isB_bool_list, isB_bool_tuple, isB_int_bool, isB_int_int, isB_int_str, isB_int_list, isB_int_tuple, isB_str_bool, isB_str_int, isB_str_str, isB_str_list, isB_str_tuple, isB_list_bool, isB_list_int, isB_list_str, isB_list_list, isB_list_tuple, isB_tuple_bool, isB_tuple_int, isB_tuple_str, isB_tuple_list, isB_tuple_tuple, rSlCI, iRng3, iRev, gCons, gNil, iZip, iEnum, tLc_eq, tFor_eq, iRng1, iRng2, iList, iTup, rSetD, iKeys, tDNewK, Int.reducePow, Int.reduceNeg, Dw.rIxL, rListTI, tMakeK, rTupT, tPar, Dw.rSlCI, rIsB]
  refine ⟨markZ, T.tt_MARK H, fun l hl0 => ⟨line_le (by decide), fun u hu => ⟨Nat.zero_le _, fun D hD => ?_⟩⟩⟩
  rw [rep3_mark] at hD ⊢
  have s1 := same_new hl0 (IL markZ)
  generalize upd H l (IL markZ) = H1 at s1 hu hD ⊢
  have s2 := s1.trans (same_new hu (IL marksZ))
  have eM : upd H1 u (IL marksZ) u = some (IL marksZ) := upd_same
  generalize upd H1 u (IL marksZ) = H2 at s2 hD eM ⊢
  have hDH := same_none s2 hD
  have eM3 := same_new hD (IL []) _ _ eM
  have uD : u ≠ D := fun e => by subst e; rw [eM] at hD; cases hD
  refine ⟨fun m σ H' => Same H H' ∧ H' u = some (IL marksZ) ∧ ∃ (acc : List Nat) (i : Nat), H' D = some (IL (NL acc)) ∧ acc ++ mkFrom cs i = mkZ cs ∧ m = cs.length + 1 - i ∧ σ = [some (.ref a), some (.ref u), some (.ref D), some (.int (i : Int))], ⟨cs.length + 1, s2.trans (same_new hD _), eM3, [], 0, upd_same, rfl, by omega, rfl⟩, ?_⟩
  rintro m σ H' ⟨s3, e3, acc, i, eD, hacc, rfl, rfl⟩
  have hal : acc.length ≤ 1000001 := by
    have h1 : (acc ++ mkFrom cs i).length = (mkZ cs).length := by rw [hacc]
    have h2 := mkZ_len cs
    rw [List.length_append] at h1
    omega
  try simp only [tSeq, tAsg, tVar, tC, tOp, rI0, rI, tUn, rU, tIfS, tTest, tRet, tRetN, tDrop, tCB, tCons, tNil, tLst, tLstI, tTup, gName, tB, tAnd, tOr, tNot, tAndV, tOrV, tNotV, tIf, tNext, tBreak, tCont, gSub, tCall, tCallN, tAug, ipI, tBML, tBML0, isL_IL, isL_lst, L2.start, List.map_cons, List.map_nil, List.length_cons, List.length_nil, List.cons_append, List.nil_append, List.getElem?_cons_succ, List.getElem?_cons_zero, Option.some.injEq, exists_eq_left', exists_eq_left, exists_and_left, V.int.injEq, V.ref.injEq, V.bl.injEq, V.str.injEq, List.set_cons_zero, List.set_cons_succ, List.cons.injEq, and_true, true_and, Nat.reduceAdd, Nat.reduceSub, List.replicate_succ, List.replicate_zero, rIxI, rIxH, rIxTH, rSetI, rSetH, rCatI, rRepI, rSlI, rAppendI, rExtendI, decide_eq_true_eq, upd_same, IL_inj, HO.lst.injEq, toInts_cons, toInts_nil, Option.map_some, if_true, if_false, Bool.true_eq_false, Bool.false_eq_true, Bool.not_true, Bool.not_false, Bool.not_eq_true', decide_eq_false_iff_not, atI_0, atI_1, atI_2, atI_3, atI_4, Int.reduceToNat, Int.reduceLT, Int.reduceLE, Int.reduceNeg, Int.reducePow, cast_lit, upd_upd, Int.reduceAdd, Int.reduceMul, Int.reduceSub, Nat.reduceLT, Nat.reduceLeDiff, cmul_r, cdiv_r, tSl, tPart, tNoPart, rEq, rNe, scal_nn, scal_ii, scal_bb, scal_ss, scal_is, scal_si, V.ty.injEq, and_assoc, tyH_non, tyH_bl, tyH_int, tyH_str, tyH_ref, tyO_lst, tyO_IL, tyO_tup, itO_lst, itO_tup, itO_IL, Dw.rIxD, rLenI, rLenH, rLenTH, rLenQ, rLenB, rListI, Dw.rListS, rIntI, rIntB, rSumI, rIsiD, rIsX, tCallS, tMakeS, tMake, tMakeC, tMakeSC, tFld, sFld, HO.ins.injEq, HO.tup.injEq, cxOf_K, nox_K, tr_K, suite_K, rTupleI, rAllB, rAnyB, BL_inj, tChain, wOnly, wAs, wMany, rEqI, rNeI, Dw.rMax2, rMin2, Dw.rIsN, rIsNotN, rStrIn, rStrNotIn, not_true_eq_false, not_false_eq_true, reduceCtorEq, cl_bool, cl_int, cl_str, cl_list, cl_tuple, isB_NoneType_bool, isB_NoneType_int, isB_NoneType_str, isB_NoneType_list, isB_NoneType_tuple, isB_bool_bool, isB_bool_int, isB_bool_str, isB_bool_list, isB_bool_tuple, isB_int_bool, isB_int_int, isB_int_str, isB_int_list, isB_int_tuple, isB_str_bool, isB_str_int, isB_str_str, isB_str_list, isB_str_tuple, isB_list_bool, isB_list_int, isB_list_str, isB_list_list, isB_list_tuple, isB_tuple_bool, isB_tuple_int, isB_tuple_str, isB_tuple_list, isB_tuple_tuple, rSlCI, iRng3, iRev, gCons, gNil, iZip, iEnum, tLc_eq, tFor_eq, iRng1, iRng2, iList, iTup, rSetD, iKeys, tDNewK, Int.reducePow, Int.reduceNeg, Dw.rIxL, rListTI, tMakeK, rTupT, tPar, Dw.rSlCI, rIsB, s3 _ _ hA, eD, e3]
  by_cases c : (i : Int) + 48 ≤ (cs.length : Int)
  · rw [if_pos c]
    have c' : i + 48 ≤ cs.length := by omega
    have ei : (i : Int) + 48 = ((i + 48 : Nat) : Int) := by omega
    have ec := cutI_any cs i (i + 48) (by omega)
    rw [show i + 48 - i = 48 by omega] at ec
    simp only [ei, ec]
    refine ⟨_, fun σ' H' h => h, fun v hv => ?_⟩
    have sv := same_new hv (IL (cutA cs i 48))
    have eDv := sv _ _ eD
    have e3v := sv _ _ e3
    generalize upd H' v (IL (cutA cs i 48)) = H4 at sv eDv e3v ⊢
    refine ⟨marksZ, e3v, ?_⟩
    by_cases c2 : cutA cs i 48 = marksZ
    · rw [if_pos c2]
      refine ⟨by rw [eDv]; rfl, _, eDv, by unfold NL; rw [List.length_map]; exact line_lt (by omega), cs.length + 1 - (i + 48), by omega, fun b o hb => ?_, by rw [upd_ne uD]; exact e3v, acc ++ [i], ?_, i + 48, ?_, rfl, rfl⟩
      · rw [upd_ne (ne_of_none hb hDH)]
        exact sv _ _ (s3 _ _ hb)
      · rw [upd_same]
        unfold NL
        rw [List.map_append]
        rfl
      · rw [List.append_assoc, ← hacc, mkFrom_yes c' c2]
        rfl
    · rw [if_neg c2]
      refine ⟨cs.length + 1 - (i + 1), by omega, s3.trans sv, e3v, acc, eDv, i + 1, ?_, rfl, rfl⟩
      rw [← hacc, mkFrom_no c' c2]
  · rw [if_neg c]
    rw [mkFrom_end (by omega), List.append_nil] at hacc
    rw [hacc] at eD
    exact k D H' s3 hDH eD
def spBehind : Sp := fun vs H Q _ => ∃ (a : Addr) (cs : List Int) (p n : Nat), vs = [.ref a, .int (p : Int), .int (n : Int)] ∧ H a = some (IL cs) ∧ cs.length ≤ 1000000 ∧ n ≤ 10000 ∧
  ∀ t b f H', Same H H' → H t = none → H' t = some (.tup [.ref b, .ref f]) → H' b = some (IL (valsB (behC cs p n))) → H' f = some (IL (faultB (behC cs p n))) → Q (.ref t) H'
theorem ok_read_behind (T : Tx K mg A) : FnOk P w K mg base CX0 4 A.f_read_behind A.d_read_behind ["cells", "place", "count"] spBehind := by
  refine T.F_read_behind.ok sc_read_behind (fun vs H Q E h => ?_) (fun cdv A' outer s H vs Q E hr h => ?_)
  · obtain ⟨a, cs, p, n, rfl, _⟩ := h
    rfl
  obtain ⟨a, cs, p, n, rfl, hA, hl, hn, k⟩ := h
  refine ⟨_, (pss_cons (ps_set (i := 3) sc_read_behind.nd rfl (Or.inl rfl) (pe_op op_add (pv 1) (pe_glob rfl T.c_MARKS_LENGTH T.r_MARKS_LENGTH)))
      (pss_one (ps_ret (pe_callN (ok_read_mfm T) (hr.mono (by decide)) rfl T.g_read_mfm T.F_read_mfm.kp T.kb_read_mfm pass0 (pa_cons (pe_slice sl_listI (pv 0) (po_some (pv 3)) (po_some (pe_op op_add (pv 3) (pe_op op_mul pe_int (pv 2))))) pa_nil) (pk_cons pe_int pk_nil))))), ?_⟩
  try simp only [tSeq, tAsg, tVar, tC, tOp, rI0, rI, tUn, rU, tIfS, tTest, tRet, tRetN, tDrop, tCB, tCons, tNil, tLst, tLstI, tTup, gName, tB, tAnd, tOr, tNot, tAndV, tOrV, tNotV, tIf, tNext, tBreak, tCont, gSub, tCall, tCallN, tAug, ipI, tBML, tBML0, isL_IL, isL_lst, L2.start, List.map_cons, List.map_nil, List.length_cons, List.length_nil, List.cons_append, List.nil_append, List.getElem?_cons_succ, List.getElem?_cons_zero, Option.some.injEq, exists_eq_left', exists_eq_left, exists_and_left, V.int.injEq, V.ref.injEq, V.bl.injEq, V.str.injEq, List.set_cons_zero, List.set_cons_succ, List.cons.injEq, and_true, true_and, Nat.reduceAdd, Nat.reduceSub, List.replicate_succ, List.replicate_zero, rIxI, rIxH, rIxTH, rSetI, rSetH, rCatI, rRepI, rSlI, rAppendI, rExtendI, decide_eq_true_eq, upd_same, IL_inj, HO.lst.injEq, toInts_cons, toInts_nil, Option.map_some, if_true, if_false, Bool.true_eq_false, Bool.false_eq_true, Bool.not_true, Bool.not_false, Bool.not_eq_true', decide_eq_false_iff_not, atI_0, atI_1, atI_2, atI_3, atI_4, Int.reduceToNat, Int.reduceLT, Int.reduceLE, Int.reduceNeg, Int.reducePow, cast_lit, upd_upd, Int.reduceAdd, Int.reduceMul, Int.reduceSub, Nat.reduceLT, Nat.reduceLeDiff, cmul_r, cdiv_r, tSl, tPart, tNoPart, rEq, rNe, scal_nn, scal_ii, scal_bb, scal_ss, scal_is, scal_si, V.ty.injEq, and_assoc, tyH_non, tyH_bl, tyH_int, tyH_str, tyH_ref, tyO_lst, tyO_IL, tyO_tup, itO_lst, itO_tup, itO_IL, Dw.rIxD, rLenI, rLenH, rLenTH, rLenQ, rLenB, rListI, Dw.rListS, rIntI, rIntB, rSumI, rIsiD, rIsX, tCallS, tMakeS, tMake, tMakeC, tMakeSC, tFld, sFld, HO.ins.injEq, HO.tup.injEq, cxOf_K, nox_K, tr_K, suite_K, rTupleI, rAllB, rAnyB, BL_inj, tChain, wOnly, wAs, wMany, rEqI, rNeI, Dw.rMax2, rMin2, Dw.rIsN, rIsNotN, rStrIn, rStrNotIn, not_true_eq_false, not_false_eq_true, reduceCtorEq, cl_bool, cl_int, cl_str, cl_list, cl_tuple, isB_NoneType_bool, isB_NoneType_int, isB_NoneType_str, isB_NoneType_list, isB_NoneType_tuple, isB_bool_bool, isB_bool_int, isB_bool_str, isB_bool_list, isB_bool_tuple, isB_int_bool, isB_int_int, isB_int_str, isB_int_list, isB_int_tuple, isB_str_bool, isB_str_int, isB_str_str, isB_str_list, isB_str_tuple, isB_list_bool, isB_list_int, isB_list_str, isB_list_list, isB_list_tuple, isB_tuple_bool, isB_tuple_int, isB_tuple_str, isB_tuple_list, isB_tuple_tuple, rSlCI, iRng3, iRev, gCons, gNil, iZip, iEnum, tLc_eq, tFor_eq, iRng1, iRng2, iList, iTup, rSetD, iKeys, tDNewK, Int.reducePow, Int.reduceNeg, Dw.rIxL, rListTI, tMakeK, rTupT, tPar, Dw.rSlCI, rIsB]
  refine ⟨.inl ⟨by decide, by decide⟩, cs, hA, ?_⟩
  have ec := cutI_any cs (p + 48) (p + 48 + 16 * n) (by omega)
  rw [show p + 48 + 16 * n - (p + 48) = 16 * n by omega] at ec
  rw [show (p : Int) + 48 = ((p + 48 : Nat) : Int) by omega, show ((p + 48 : Nat) : Int) + 16 * (n : Int) = ((p + 48 + 16 * n : Nat) : Int) by omega, ec]
  intro u hu
  have hbl := behC_len cs p n
  have su := same_new hu (IL (behC cs p n))
  exact ⟨u, behC cs p n, 1, rfl, upd_same, by omega, fun t b f H' s n e1 e2 e3 => k t b f H' (su.trans s) (same_none su n) e1 e2 e3⟩
def spFits : Sp := fun vs H Q _ => ∃ (a : Addr) (ns : List Int), vs = [.ref a] ∧ H a = some (IL ns) ∧ Bytes ns ∧ ns.length ≤ 100000 ∧ ∀ H', Same H H' → Q (.bl (fitsZ ns)) H'
theorem ok_crc_fits (T : Tx K mg A) : FnOk P w K mg base CX0 2 A.f_crc_fits A.d_crc_fits ["values"] spFits := by
  refine T.F_crc_fits.ok sc_crc_fits (fun vs H Q E h => ?_) (fun cdv A' outer s H vs Q E hr h => ?_)
  · obtain ⟨a, ns, rfl, _⟩ := h
    rfl
  obtain ⟨a, ns, rfl, hA, hb, hl, k⟩ := h
  refine ⟨_, (pss_one (ps_ret (pe_cmpR (op_eqI hr.units) (pe_call (ok_two_bytes T) (hr.mono (by decide)) rfl T.g_two_bytes T.F_two_bytes.kp T.b_two_bytes .nil pass0 (pa_cons (pe_call (ok_crc T) (hr.mono (by decide)) rfl T.g_crc T.F_crc.kp T.b_crc .nil pass0 (pa_cons (pe_op op_catI (pe_callTy (show CallR _ (.type "list") (rListTI K) from call_listTI) (by rfl) T.z_list (by decide +kernel) (pa_cons (pe_glob (v := .ref A.c_MARK_BYTES) rfl T.ct_MARK_BYTES rfl) pa_nil)) (pe_slice sl_listI (pv 0) po_none (po_some (pe_un un_neg pe_int)))) pa_nil)) pa_nil)) (pe_slice sl_listI (pv 0) (po_some (pe_un un_neg pe_int)) po_none) (nomark _)))), ?_⟩
  try simp only [tSeq, tAsg, tVar, tC, tOp, rI0, rI, tUn, rU, tIfS, tTest, tRet, tRetN, tDrop, tCB, tCons, tNil, tLst, tLstI, tTup, gName, tB, tAnd, tOr, tNot, tAndV, tOrV, tNotV, tIf, tNext, tBreak, tCont, gSub, tCall, tCallN, tAug, ipI, tBML, tBML0, isL_IL, isL_lst, L2.start, List.map_cons, List.map_nil, List.length_cons, List.length_nil, List.cons_append, List.nil_append, List.getElem?_cons_succ, List.getElem?_cons_zero, Option.some.injEq, exists_eq_left', exists_eq_left, exists_and_left, V.int.injEq, V.ref.injEq, V.bl.injEq, V.str.injEq, List.set_cons_zero, List.set_cons_succ, List.cons.injEq, and_true, true_and, Nat.reduceAdd, Nat.reduceSub, List.replicate_succ, List.replicate_zero, rIxI, rIxH, rIxTH, rSetI, rSetH, rCatI, rRepI, rSlI, rAppendI, rExtendI, decide_eq_true_eq, upd_same, IL_inj, HO.lst.injEq, toInts_cons, toInts_nil, Option.map_some, if_true, if_false, Bool.true_eq_false, Bool.false_eq_true, Bool.not_true, Bool.not_false, Bool.not_eq_true', decide_eq_false_iff_not, atI_0, atI_1, atI_2, atI_3, atI_4, Int.reduceToNat, Int.reduceLT, Int.reduceLE, Int.reduceNeg, Int.reducePow, cast_lit, upd_upd, Int.reduceAdd, Int.reduceMul, Int.reduceSub, Nat.reduceLT, Nat.reduceLeDiff, cmul_r, cdiv_r, tSl, tPart, tNoPart, rEq, rNe, scal_nn, scal_ii, scal_bb, scal_ss, scal_is, scal_si, V.ty.injEq, and_assoc, tyH_non, tyH_bl, tyH_int, tyH_str, tyH_ref, tyO_lst, tyO_IL, tyO_tup, itO_lst, itO_tup, itO_IL, Dw.rIxD, rLenI, rLenH, rLenTH, rLenQ, rLenB, rListI, Dw.rListS, rIntI, rIntB, rSumI, rIsiD, rIsX, tCallS, tMakeS, tMake, tMakeC, tMakeSC, tFld, sFld, HO.ins.injEq, HO.tup.injEq, cxOf_K, nox_K, tr_K, suite_K, rTupleI, rAllB, rAnyB, BL_inj, tChain, wOnly, wAs, wMany, rEqI, rNeI, Dw.rMax2, rMin2, Dw.rIsN, rIsNotN, rStrIn, rStrNotIn, not_true_eq_false, not_false_eq_true, reduceCtorEq, cl_bool, cl_int, cl_str, cl_list, cl_tuple, isB_NoneType_bool, isB_NoneType_int, isB_NoneType_str, isB_NoneType_list, isB_NoneType_tuple, isB_bool_bool, isB_bool_int, isB_bool_str, isB_bool_list, isB_bool_tuple, isB_int_bool, isB_int_int, isB_int_str, isB_int_list, isB_int_tuple, isB_str_bool, isB_str_int, isB_str_str, isB_str_list, isB_str_tuple, isB_list_bool, isB_list_int, isB_list_str, isB_list_list, isB_list_tuple, isB_tuple_bool, isB_tuple_int, isB_tuple_str, isB_tuple_list, isB_tuple_tuple, rSlCI, iRng3, iRev, gCons, gNil, iZip, iEnum, tLc_eq, tFor_eq, iRng1, iRng2, iList, iTup, rSetD, iKeys, tDNewK, Int.reducePow, Int.reduceNeg, Dw.rIxL, rListTI, tMakeK, rTupT, tPar, Dw.rSlCI, rIsB, hA]
  refine ⟨[161, 161, 161], T.tt_MARK_BYTES H, fun l hl0 => ?_⟩
  have s1 := same_new hl0 (IL [161, 161, 161])
  have e1 : upd H l (IL [161, 161, 161]) l = _ := upd_same
  generalize upd H l (IL [161, 161, 161]) = H1 at s1 e1 ⊢
  refine ⟨ns, s1 _ _ hA, ?_⟩
  rw [cutI_to2]
  have hb2 : Bytes (ns.take (ns.length - 2)) := fun x hx => hb x (List.mem_of_mem_take hx)
  intro u hu
  have s2 := same_new hu (IL (ns.take (ns.length - 2)))
  refine ⟨_, s2 _ _ e1, by rw [List.length_take]; exact line_le (by show 3 + _ ≤ _; omega), fun v hv => ?_⟩
  have h161 : Bytes [161, 161, 161] := fun x hx => by
    have : x = 161 := by simpa using hx
    omega
  have s3 := same_new hv (IL ([161, 161, 161] ++ ns.take (ns.length - 2)))
  refine ⟨v, _, rfl, upd_same, Bytes.app h161 hb2, ?_⟩
  have sA := s1.trans (s2.trans s3)
  generalize upd (upd H1 u (IL (ns.take (ns.length - 2)))) v (IL ([161, 161, 161] ++ ns.take (ns.length - 2))) = H3 at sA ⊢
  refine ⟨_, rfl, fun t ht => ?_⟩
  have s4 := same_new ht (IL [crcZ ([161, 161, 161] ++ ns.take (ns.length - 2)) / 256, crcZ ([161, 161, 161] ++ ns.take (ns.length - 2)) % 256])
  have e4 : upd H3 t (IL [crcZ ([161, 161, 161] ++ ns.take (ns.length - 2)) / 256, crcZ ([161, 161, 161] ++ ns.take (ns.length - 2)) % 256]) t = _ := upd_same
  generalize upd H3 t (IL [crcZ ([161, 161, 161] ++ ns.take (ns.length - 2)) / 256, crcZ ([161, 161, 161] ++ ns.take (ns.length - 2)) % 256]) = H4 at s4 e4 ⊢
  refine ⟨ns, s4 _ _ (sA _ _ hA), ?_⟩
  rw [cutI_last2]
  intro r hr
  have s5 := same_new hr (IL (ns.drop (ns.length - 2)))
  exact ⟨t, rfl, _, s5 _ _ e4, k _ (sA.trans (s4.trans s5))⟩
def spDataBeh : Sp := fun vs H Q _ => ∃ (a : Addr) (cs : List Int) (sz : Int) (e p : Nat), vs = [.ref a, .int sz, .int (e : Int), .int (p : Int)] ∧ H a = some (IL cs) ∧ Bits cs ∧ cs.length ≤ 1000000 ∧ 0 ≤ sz ∧
  ∀ t v H', Same H H' → H t = none → H' t = some (.tup [v, .bl (behZ cs sz e p).2]) → DatT H' v (behZ cs sz e p).1 → Q (.ref t) H'
theorem ok_data_behind (T : Tx K mg A) : FnOk P w K mg base CX0 5 A.f_data_behind A.d_data_behind ["cells", "size", "end", "place"] spDataBeh := by
  refine T.F_data_behind.ok sc_data_behind (fun vs H Q E h => ?_) (fun cdv A' outer s H vs Q E hr h => ?_)
  · obtain ⟨a, cs, sz, e, p, rfl, _⟩ := h
    rfl
  obtain ⟨a, cs, sz, e, p, rfl, hA, hb, hl, hz, k⟩ := h
  refine ⟨_, (pss_cons (ps_if (PW.pt (pw_or (pt_cmpR op_gt (pv 1) (pe_glob rfl T.c_GREATEST_SIZE T.r_GREATEST_SIZE) (nomark _)) (pw_or1 (pt_not (pt_chain op_le op_le pe_int (pe_op op_sub (pv 3) (pv 2)) (pe_glob rfl T.c_FARTHEST_DATA T.r_FARTHEST_DATA) (by with_unfolding_all rfl)))))) (pss_one (ps_ret (pe_tup (pa_cons pe_non (pa_cons pe_bl pa_nil))))) pss_nil)
      (pss_cons (ps_set (i := 4) sc_data_behind.nd rfl (Or.inl rfl) (pe_call (ok_data_length T) (hr.mono (by decide)) rfl T.g_data_length T.F_data_length.kp T.b_data_length .nil pass0 (pa_cons (pv 1) pa_nil)))
      (pss_cons (ps_asg (pe_call (ok_read_behind T) (hr.mono (by decide)) rfl T.g_read_behind T.F_read_behind.kp T.b_read_behind .nil pass0 (pa_cons (pv 0) (pa_cons (pv 3) (pa_cons (pe_op op_add (pv 4) pe_int) pa_nil)))) (pg_tup (n := 2) rfl (pgs_cons (pg_name (i := 5) sc_data_behind.nd rfl (Or.inl rfl)) (pgs_cons (pg_name (i := 6) sc_data_behind.nd rfl (Or.inl rfl)) pgs_nil))))
      (pss_cons (ps_if (PW.pt (pw_or (pt_cmpR op_lt (pe_callB call_lenI (by rfl) T.z_len (by decide +kernel) (pa_cons (pv 5) pa_nil)) (pe_op op_add (pv 4) pe_int) (nomark _)) (pw_or1 (pt_cmpR op_ne (pe_ix ix_listI (pv 5) pe_int (fun _ _ => rfl)) (pe_glob rfl T.c_DATA_BYTE T.r_DATA_BYTE) (nomark _))))) (pss_one (ps_ret (pe_tup (pa_cons pe_non (pa_cons pe_bl pa_nil))))) pss_nil)
      (pss_one (ps_ret (pe_tup (pa_cons (pe_callTy call_tupleI (by rfl) T.z_tuple (by decide +kernel) (pa_cons (pe_slice sl_listI (pv 5) (po_some pe_int) (po_some (pe_op op_add (pv 4) pe_int))) pa_nil)) (pa_cons (pe_and (pe_notT (pv 6)) (pe_one (pe_call (ok_crc_fits T) (hr.mono (by decide)) rfl T.g_crc_fits T.F_crc_fits.kp T.b_crc_fits .nil pass0 (pa_cons (pv 5) pa_nil)))) pa_nil))))))))), ?_⟩
  try simp only [tSeq, tAsg, tVar, tC, tOp, rI0, rI, tUn, rU, tIfS, tTest, tRet, tRetN, tDrop, tCB, tCons, tNil, tLst, tLstI, tTup, gName, tB, tAnd, tOr, tNot, tAndV, tOrV, tNotV, tIf, tNext, tBreak, tCont, gSub, tCall, tCallN, tAug, ipI, tBML, tBML0, isL_IL, isL_lst, L2.start, List.map_cons, List.map_nil, List.length_cons, List.length_nil, List.cons_append, List.nil_append, List.getElem?_cons_succ, List.getElem?_cons_zero, Option.some.injEq, exists_eq_left', exists_eq_left, exists_and_left, V.int.injEq, V.ref.injEq, V.bl.injEq, V.str.injEq, List.set_cons_zero, List.set_cons_succ, List.cons.injEq, and_true, true_and, Nat.reduceAdd, Nat.reduceSub, List.replicate_succ, List.replicate_zero, rIxI, rIxH, rIxTH, rSetI, rSetH, rCatI, rRepI, rSlI, rAppendI, rExtendI, decide_eq_true_eq, upd_same, IL_inj, HO.lst.injEq, toInts_cons, toInts_nil, Option.map_some, if_true, if_false, Bool.true_eq_false, Bool.false_eq_true, Bool.not_true, Bool.not_false, Bool.not_eq_true', decide_eq_false_iff_not, atI_0, atI_1, atI_2, atI_3, atI_4, Int.reduceToNat, Int.reduceLT, Int.reduceLE, Int.reduceNeg, Int.reducePow, cast_lit, upd_upd, Int.reduceAdd, Int.reduceMul, Int.reduceSub, Nat.reduceLT, Nat.reduceLeDiff, cmul_r, cdiv_r, tSl, tPart, tNoPart, rEq, rNe, scal_nn, scal_ii, scal_bb, scal_ss, scal_is, scal_si, V.ty.injEq, and_assoc, tyH_non, tyH_bl, tyH_int, tyH_str, tyH_ref, tyO_lst, tyO_IL, tyO_tup, itO_lst, itO_tup, itO_IL, Dw.rIxD, rLenI, rLenH, rLenTH, rLenQ, rLenB, rListI, Dw.rListS, rIntI, rIntB, rSumI, rIsiD, rIsX, tCallS, tMakeS, tMake, tMakeC, tMakeSC, tFld, sFld, HO.ins.injEq, HO.tup.injEq, cxOf_K, nox_K, tr_K, suite_K, rTupleI, rAllB, rAnyB, BL_inj, tChain, wOnly, wAs, wMany, rEqI, rNeI, Dw.rMax2, rMin2, Dw.rIsN, rIsNotN, rStrIn, rStrNotIn, not_true_eq_false, not_false_eq_true, reduceCtorEq, cl_bool, cl_int, cl_str, cl_list, cl_tuple, isB_NoneType_bool, isB_NoneType_int, isB_NoneType_str, isB_NoneType_list, isB_NoneType_tuple, isB_bool_bool, isB_bool_int, isB_bool_str, isB_bool_list, isB_bool_tuple, isB_int_bool, isB_int_int, isB_int_str, isB_int_list, isB_int_tuple, isB_str_bool, isB_str_int, isB_str_str, isB_str_list, isB_str_tuple, isB_list_bool, isB_list_int, isB_list_str, isB_list_list, isB_list_tuple, isB_tuple_bool, isB_tuple_int, isB_tuple_str, isB_tuple_list, isB_tuple_tuple, rSlCI, iRng3, iRev, gCons, gNil, iZip, iEnum, tLc_eq, tFor_eq, iRng1, iRng2, iList, iTup, rSetD, iKeys, tDNewK, Int.reducePow, Int.reduceNeg, Dw.rIxL, rListTI, tMakeK, rTupT, tPar, Dw.rSlCI, rIsB]
  have bad : (5 < sz ∨ p < e ∨ e + 960 < p) → (2 ≤ sizeLine ∧ ∀ (t : Addr), H t = none → Q (V.ref t) (upd H t (HO.tup [V.non, V.bl false]))) := fun hc => by
    have ez : behZ cs sz e p = (none, false) := by unfold behZ; rw [if_pos hc]
    rw [ez] at k
    exact ⟨line_le (by decide), fun t ht => k t .non _ (same_new ht _) ht upd_same (.inl ⟨rfl, rfl⟩)⟩
  by_cases c1 : 5 < sz
  · rw [if_pos c1]
    exact bad (.inl c1)
  rw [if_neg c1]
  by_cases c2 : p < e
  · rw [if_neg (by omega)]
    exact bad (.inr (.inl c2))
  rw [if_pos (by omega)]
  by_cases c3 : e + 960 < p
  · rw [if_pos (by omega)]
    exact bad (.inr (.inr c3))
  rw [if_neg (by omega)]
  obtain ⟨z, rfl⟩ := nat_of hz
  have ez : behZ cs (z : Int) e p = dtaOf z (behC cs p (16 * 2 ^ z + 3)) := by
    unfold behZ
    rw [if_neg (by omega), Int.toNat_natCast]
  rw [ez] at k
  have eL : (16 * 2 ^ ((z : Int).toNat) : Int) = ((16 * 2 ^ z : Nat) : Int) := by
    rw [Int.toNat_natCast]
    simp
  have hL : 16 * 2 ^ z ≤ 512 := by
    have := Nat.pow_le_pow_right (n := 2) (by decide) (show z ≤ 5 by omega)
    omega
  refine ⟨z, rfl, hz, by omega, _, rfl, ?_⟩
  rw [eL]
  generalize hLL : 16 * 2 ^ z = L at *
  rw [show (L : Int) + 3 = ((L + 3 : Nat) : Int) by omega]
  refine ⟨a, cs, p, L + 3, rfl, hA, hl, by omega, fun t b f H1 s1 nt e1 e2 e3 => ?_⟩
  refine ⟨t, [.ref b, .ref f], rfl, .of e1, rfl, .ref b, [.ref f], rfl, .ref f, [], rfl, rfl, ?_⟩
  have hvb : Bytes (valsB (behC cs p (L + 3))) := valsB_bytes (cutA_bits hb)
  have hvl := valsB_len (behC cs p (L + 3))
  have hbl := behC_len cs p (L + 3)
  unfold dtaOf at k
  rw [hLL] at k
  generalize valsB (behC cs p (L + 3)) = vs at *
  generalize faultB (behC cs p (L + 3)) = fs at *
  try simp only [tSeq, tAsg, tVar, tC, tOp, rI0, rI, tUn, rU, tIfS, tTest, tRet, tRetN, tDrop, tCB, tCons, tNil, tLst, tLstI, tTup, gName, tB, tAnd, tOr, tNot, tAndV, tOrV, tNotV, tIf, tNext, tBreak, tCont, gSub, tCall, tCallN, tAug, ipI, tBML, tBML0, isL_IL, isL_lst, L2.start, List.map_cons, List.map_nil, List.length_cons, List.length_nil, List.cons_append, List.nil_append, List.getElem?_cons_succ, List.getElem?_cons_zero, Option.some.injEq, exists_eq_left', exists_eq_left, exists_and_left, V.int.injEq, V.ref.injEq, V.bl.injEq, V.str.injEq, List.set_cons_zero, List.set_cons_succ, List.cons.injEq, and_true, true_and, Nat.reduceAdd, Nat.reduceSub, List.replicate_succ, List.replicate_zero, rIxI, rIxH, rIxTH, rSetI, rSetH, rCatI, rRepI, rSlI, rAppendI, rExtendI, decide_eq_true_eq, upd_same, IL_inj, HO.lst.injEq, toInts_cons, toInts_nil, Option.map_some, if_true, if_false, Bool.true_eq_false, Bool.false_eq_true, Bool.not_true, Bool.not_false, Bool.not_eq_true', decide_eq_false_iff_not, atI_0, atI_1, atI_2, atI_3, atI_4, Int.reduceToNat, Int.reduceLT, Int.reduceLE, Int.reduceNeg, Int.reducePow, cast_lit, upd_upd, Int.reduceAdd, Int.reduceMul, Int.reduceSub, Nat.reduceLT, Nat.reduceLeDiff, cmul_r, cdiv_r, tSl, tPart, tNoPart, rEq, rNe, scal_nn, scal_ii, scal_bb, scal_ss, scal_is, scal_si, V.ty.injEq, and_assoc, tyH_non, tyH_bl, tyH_int, tyH_str, tyH_ref, tyO_lst, tyO_IL, tyO_tup, itO_lst, itO_tup, itO_IL, Dw.rIxD, rLenI, rLenH, rLenTH, rLenQ, rLenB, rListI, Dw.rListS, rIntI, rIntB, rSumI, rIsiD, rIsX, tCallS, tMakeS, tMake, tMakeC, tMakeSC, tFld, sFld, HO.ins.injEq, HO.tup.injEq, cxOf_K, nox_K, tr_K, suite_K, rTupleI, rAllB, rAnyB, BL_inj, tChain, wOnly, wAs, wMany, rEqI, rNeI, Dw.rMax2, rMin2, Dw.rIsN, rIsNotN, rStrIn, rStrNotIn, not_true_eq_false, not_false_eq_true, reduceCtorEq, cl_bool, cl_int, cl_str, cl_list, cl_tuple, isB_NoneType_bool, isB_NoneType_int, isB_NoneType_str, isB_NoneType_list, isB_NoneType_tuple, isB_bool_bool, isB_bool_int, isB_bool_str, isB_bool_list, isB_bool_tuple, isB_int_bool, isB_int_int, isB_int_str, isB_int_list, isB_int_tuple, isB_str_bool, isB_str_int, isB_str_str, isB_str_list, isB_str_tuple, isB_list_bool, isB_list_int, isB_list_str, isB_list_list, isB_list_tuple, isB_tuple_bool, isB_tuple_int, isB_tuple_str, isB_tuple_list, isB_tuple_tuple, rSlCI, iRng3, iRev, gCons, gNil, iZip, iEnum, tLc_eq, tFor_eq, iRng1, iRng2, iList, iTup, rSetD, iKeys, tDNewK, Int.reducePow, Int.reduceNeg, Dw.rIxL, rListTI, tMakeK, rTupT, tPar, Dw.rSlCI, rIsB, e2, e3]
  have bad2 : (vs.length < L + 3 ∨ vs.getD 0 0 ≠ 251) → (2 ≤ sizeLine ∧ ∀ (t : Addr), H1 t = none → Q (V.ref t) (upd H1 t (HO.tup [V.non, V.bl false]))) := fun hc => by
    rw [if_pos hc] at k
    exact ⟨line_le (by decide), fun t ht => k t .non _ (s1.trans (same_new ht _)) (same_none s1 ht) upd_same (.inl ⟨rfl, rfl⟩)⟩
  by_cases c4 : vs.length < L + 3
  · rw [if_pos (by omega)]
    exact bad2 (.inl c4)
  rw [if_neg (by omega)]
  refine ⟨by omega, ?_⟩
  by_cases c5' : ¬ vs.getD 0 0 = 251
  · rw [if_pos c5']
    exact bad2 (.inr c5')
  have c5 : vs.getD 0 0 = 251 := Decidable.of_not_not c5'
  rw [if_neg (fun h => h c5)]
  rw [if_neg (fun h => h.elim c4 (fun h => h c5))] at k
  rw [show (L : Int) + 1 = ((L + 1 : Nat) : Int) by omega, cutI_from1 vs (L + 1) (by omega), show L + 1 - 1 = L by omega]
  intro u hu l hl2
  have su := same_new hu (IL ((vs.drop 1).take L))
  generalize upd H1 u (IL ((vs.drop 1).take L)) = H2 at su hl2 ⊢
  have sl := same_new hl2 (HO.tup (((vs.drop 1).take L).map V.int))
  have el : upd H2 l (HO.tup (((vs.drop 1).take L).map V.int)) l = _ := upd_same
  generalize upd H2 l (HO.tup (((vs.drop 1).take L).map V.int)) = H3 at sl el ⊢
  have s3 := su.trans sl
  have sA := s1.trans s3
  have fin : ∀ H4, Same H3 H4 → ∀ c, (fs.isEmpty && fitsZ vs) = c → ∀ t, H4 t = none → Q (.ref t) (upd H4 t (.tup [.ref l, .bl c])) := fun H4 s4 c hc t ht => by
    refine k t (.ref l) _ ((sA.trans s4).trans (same_new ht _)) (same_none (sA.trans s4) ht) ?_ (.inr ⟨l, _, rfl, rfl, same_new ht _ _ _ (s4 _ _ el)⟩)
    rw [upd_same, hc]
  refine ⟨_, rfl, !fs.isEmpty, .inl ⟨_, .of (s3 _ _ e3), by cases fs <;> rfl⟩, _, rfl, ?_⟩
  rw [Bool.not_not]
  cases hf : fs.isEmpty with
  | false =>
    rw [if_neg (by decide)]
    exact ⟨line_le (by decide), fin H3 (.refl _) false (by rw [hf]; rfl)⟩
  | true =>
    rw [if_pos rfl]
    exact ⟨b, vs, rfl, s3 _ _ e2, hvb, by omega, fun H4 s4 => ⟨line_le (by decide), fin H4 s4 _ (by rw [hf, Bool.true_and])⟩⟩
def spFound : Sp := fun vs H Q _ => ∃ (a : Addr) (cs : List Int), vs = [.ref a] ∧ H a = some (IL cs) ∧ Bits cs ∧ cs.length ≤ 1000000 ∧
  ∀ D ys H', Same H H' → H D = none → H' D = some (.lst ys) → AllAt (FndAt H') ys (foundZ cs) → Q (.ref D) H'
theorem ok_found_sectors (T : Tx K mg A) : FnOk P w K mg base CX0 6 A.f_found_sectors A.d_found_sectors ["cells"] spFound := by
  refine T.F_found_sectors.ok sc_found_sectors (fun vs H Q E h => ?_) (fun cdv A' outer s H vs Q E hr h => ?_)
  · obtain ⟨a, cs, rfl, _⟩ := h
    rfl
  obtain ⟨a, cs, rfl, hA, hb, hl, k⟩ := h
  refine ⟨_, (pss_cons (ps_set (i := 1) sc_found_sectors.nd rfl (Or.inl rfl) (pe_call (ok_mark_places T) (hr.mono (by decide)) rfl T.g_mark_places T.F_mark_places.kp T.b_mark_places .nil pass0 (pa_cons (pv 0) pa_nil)))
      (pss_cons (ps_set (i := 2) sc_found_sectors.nd rfl (Or.inl rfl) (pe_lst pa_nil))
      (pss_cons (ps_for PassesOwn.never rfl (pi_enum (by rfl) T.z_enumerate (pa_cons (pv 1) pa_nil)) (pg_tup (n := 2) rfl (pgs_cons (pg_name (i := 3) sc_found_sectors.nd rfl (Or.inl rfl)) (pgs_cons (pg_name (i := 4) sc_found_sectors.nd rfl (Or.inl rfl)) pgs_nil)))
        (pss_cons (ps_asg (pe_call (ok_read_behind T) (hr.mono (by decide)) rfl T.g_read_behind T.F_read_behind.kp T.b_read_behind .nil pass0 (pa_cons (pv 0) (pa_cons (pv 4) (pa_cons (pe_glob rfl T.c_ADDRESS_LENGTH T.r_ADDRESS_LENGTH) pa_nil)))) (pg_tup (n := 2) rfl (pgs_cons (pg_name (i := 5) sc_found_sectors.nd rfl (Or.inl rfl)) (pgs_cons (pg_name (i := 6) sc_found_sectors.nd rfl (Or.inl rfl)) pgs_nil))))
      (pss_cons (ps_if (PW.pt (pw_or (pt_cmpR op_lt (pe_callB call_lenI (by rfl) T.z_len (by decide +kernel) (pa_cons (pv 5) pa_nil)) (pe_glob rfl T.c_ADDRESS_LENGTH T.r_ADDRESS_LENGTH) (nomark _)) (pw_or1 (pt_cmpR op_ne (pe_ix ix_listI (pv 5) pe_int (fun _ _ => rfl)) (pe_glob rfl T.c_ADDRESS_BYTE T.r_ADDRESS_BYTE) (nomark _))))) (pss_one ps_continue) pss_nil)
      (pss_cons (ps_set (i := 7) sc_found_sectors.nd rfl (Or.inl rfl) (pe_callTy call_tupleI (by rfl) T.z_tuple (by decide +kernel) (pa_cons (pe_slice sl_listI (pv 5) (po_some pe_int) (po_some pe_int)) pa_nil)))
      (pss_cons (ps_asg (pe_tup (pa_cons pe_non (pa_cons pe_bl pa_nil))) (pg_tup (n := 2) rfl (pgs_cons (pg_name (i := 8) sc_found_sectors.nd rfl (Or.inl rfl)) (pgs_cons (pg_name (i := 9) sc_found_sectors.nd rfl (Or.inl rfl)) pgs_nil))))
      (C8.pss_cut (ps_if (pt_cmpR op_lt (pe_op op_add (pv 3) pe_int) (pe_callB call_lenI (by rfl) T.z_len (by decide +kernel) (pa_cons (pv 1) pa_nil)) (nomark _)) (pss_cons (ps_set (i := 10) sc_found_sectors.nd rfl (Or.inl rfl) (pe_op op_add (pe_op op_add (pv 4) (pe_glob rfl T.c_MARKS_LENGTH T.r_MARKS_LENGTH)) (pe_op op_mul pe_int (pe_glob rfl T.c_ADDRESS_LENGTH T.r_ADDRESS_LENGTH))))
      (pss_one (ps_asg (pe_call (ok_data_behind T) (hr.mono (by decide)) rfl T.g_data_behind T.F_data_behind.kp T.b_data_behind .nil pass0 (pa_cons (pv 0) (pa_cons (pe_ix ix_tupH (pv 7) pe_int (fun _ _ => rfl)) (pa_cons (pv 10) (pa_cons (pe_ix ix_listI (pv 1) (pe_op op_add (pv 3) pe_int) (fun _ _ => rfl)) pa_nil))))) (pg_tup (n := 2) rfl (pgs_cons (pg_name (i := 8) sc_found_sectors.nd rfl (Or.inl rfl)) (pgs_cons (pg_name (i := 9) sc_found_sectors.nd rfl (Or.inl rfl)) pgs_nil)))))) pss_nil)
      (pss_one (ps_expr (PE.imp (pe_bm PySem.F.plainAttrs_list PySem.F.slot_list_append PySem.F.type_list_append mt_append (pv 2) (pa_cons (pe_tup (pa_cons (pv 4) (pa_cons (pv 7) (pa_cons (pe_call (ok_crc_fits T) (hr.mono (by decide)) rfl T.g_crc_fits T.F_crc_fits.kp T.b_crc_fits .nil pass0 (pa_cons (pv 5) pa_nil)) (pa_cons (pv 8) (pa_cons (pv 9) pa_nil)))))) pa_nil)) bml_imp)))))))))
      (pss_one (ps_ret (pv 2)))))), ?_⟩
  try simp only [tSeq, tAsg, tVar, tC, tOp, rI0, rI, tUn, rU, tIfS, tTest, tRet, tRetN, tDrop, tCB, tCons, tNil, tLst, tLstI, tTup, gName, tB, tAnd, tOr, tNot, tAndV, tOrV, tNotV, tIf, tNext, tBreak, tCont, gSub, tCall, tCallN, tAug, ipI, tBML, tBML0, isL_IL, isL_lst, L2.start, List.map_cons, List.map_nil, List.length_cons, List.length_nil, List.cons_append, List.nil_append, List.getElem?_cons_succ, List.getElem?_cons_zero, Option.some.injEq, exists_eq_left', exists_eq_left, exists_and_left, V.int.injEq, V.ref.injEq, V.bl.injEq, V.str.injEq, List.set_cons_zero, List.set_cons_succ, List.cons.injEq, and_true, true_and, Nat.reduceAdd, Nat.reduceSub, List.replicate_succ, List.replicate_zero, rIxI, rIxH, rIxTH, rSetI, rSetH, rCatI, rRepI, rSlI, rAppendI, rExtendI, decide_eq_true_eq, upd_same, IL_inj, HO.lst.injEq, toInts_cons, toInts_nil, Option.map_some, if_true, if_false, Bool.true_eq_false, Bool.false_eq_true, Bool.not_true, Bool.not_false, Bool.not_eq_true', decide_eq_false_iff_not, atI_0, atI_1, atI_2, atI_3, atI_4, Int.reduceToNat, Int.reduceLT, Int.reduceLE, Int.reduceNeg, Int.reducePow, cast_lit, upd_upd, Int.reduceAdd, Int.reduceMul, Int.reduceSub, Nat.reduceLT, Nat.reduceLeDiff, cmul_r, cdiv_r, tSl, tPart, tNoPart, rEq, rNe, scal_nn, scal_ii, scal_bb, scal_ss, scal_is, scal_si, V.ty.injEq, and_assoc, tyH_non, tyH_bl, tyH_int, tyH_str, tyH_ref, tyO_lst, tyO_IL, tyO_tup, itO_lst, itO_tup, itO_IL, Dw.rIxD, rLenI, rLenH, rLenTH, rLenQ, rLenB, rListI, Dw.rListS, rIntI, rIntB, rSumI, rIsiD, rIsX, tCallS, tMakeS, tMake, tMakeC, tMakeSC, tFld, sFld, HO.ins.injEq, HO.tup.injEq, cxOf_K, nox_K, tr_K, suite_K, rTupleI, rAllB, rAnyB, BL_inj, tChain, wOnly, wAs, wMany, rEqI, rNeI, Dw.rMax2, rMin2, Dw.rIsN, rIsNotN, rStrIn, rStrNotIn, not_true_eq_false, not_false_eq_true, reduceCtorEq, cl_bool, cl_int, cl_str, cl_list, cl_tuple, isB_NoneType_bool, isB_NoneType_int, isB_NoneType_str, isB_NoneType_list, isB_NoneType_tuple, isB_bool_bool, isB_bool_int, isB_bool_str, isB_bool_list, isB_bool_tuple, isB_int_bool, isB_int_int, isB_int_str, isB_int_list, isB_int_tuple, isB_str_bool, isB_str_int, isB_str_str, isB_str_list, isB_str_tuple, isB_list_bool, isB_list_int, isB_list_str, isB_list_list, isB_list_tuple, isB_tuple_bool, isB_tuple_int, isB_tuple_str, isB_tuple_list, isB_tuple_tuple, rSlCI, iRng3, iRev, gCons, gNil, iZip, iEnum, tLc_eq, tFor_eq, iRng1, iRng2, iList, iTup, rSetD, iKeys, tDNewK, Int.reducePow, Int.reduceNeg, Dw.rIxL, rListTI, tMakeK, rTupT, tPar, Dw.rSlCI, rIsB]
  refine ⟨a, cs, rfl, hA, hl, fun p1 H1 s1 n1 e1 => ?_⟩
  try simp only [tSeq, tAsg, tVar, tC, tOp, rI0, rI, tUn, rU, tIfS, tTest, tRet, tRetN, tDrop, tCB, tCons, tNil, tLst, tLstI, tTup, gName, tB, tAnd, tOr, tNot, tAndV, tOrV, tNotV, tIf, tNext, tBreak, tCont, gSub, tCall, tCallN, tAug, ipI, tBML, tBML0, isL_IL, isL_lst, L2.start, List.map_cons, List.map_nil, List.length_cons, List.length_nil, List.cons_append, List.nil_append, List.getElem?_cons_succ, List.getElem?_cons_zero, Option.some.injEq, exists_eq_left', exists_eq_left, exists_and_left, V.int.injEq, V.ref.injEq, V.bl.injEq, V.str.injEq, List.set_cons_zero, List.set_cons_succ, List.cons.injEq, and_true, true_and, Nat.reduceAdd, Nat.reduceSub, List.replicate_succ, List.replicate_zero, rIxI, rIxH, rIxTH, rSetI, rSetH, rCatI, rRepI, rSlI, rAppendI, rExtendI, decide_eq_true_eq, upd_same, IL_inj, HO.lst.injEq, toInts_cons, toInts_nil, Option.map_some, if_true, if_false, Bool.true_eq_false, Bool.false_eq_true, Bool.not_true, Bool.not_false, Bool.not_eq_true', decide_eq_false_iff_not, atI_0, atI_1, atI_2, atI_3, atI_4, Int.reduceToNat, Int.reduceLT, Int.reduceLE, Int.reduceNeg, Int.reducePow, cast_lit, upd_upd, Int.reduceAdd, Int.reduceMul, Int.reduceSub, Nat.reduceLT, Nat.reduceLeDiff, cmul_r, cdiv_r, tSl, tPart, tNoPart, rEq, rNe, scal_nn, scal_ii, scal_bb, scal_ss, scal_is, scal_si, V.ty.injEq, and_assoc, tyH_non, tyH_bl, tyH_int, tyH_str, tyH_ref, tyO_lst, tyO_IL, tyO_tup, itO_lst, itO_tup, itO_IL, Dw.rIxD, rLenI, rLenH, rLenTH, rLenQ, rLenB, rListI, Dw.rListS, rIntI, rIntB, rSumI, rIsiD, rIsX, tCallS, tMakeS, tMake, tMakeC, tMakeSC, tFld, sFld, HO.ins.injEq, HO.tup.injEq, cxOf_K, nox_K, tr_K, suite_K, rTupleI, rAllB, rAnyB, BL_inj, tChain, wOnly, wAs, wMany, rEqI, rNeI, Dw.rMax2, rMin2, Dw.rIsN, rIsNotN, rStrIn, rStrNotIn, not_true_eq_false, not_false_eq_true, reduceCtorEq, cl_bool, cl_int, cl_str, cl_list, cl_tuple, isB_NoneType_bool, isB_NoneType_int, isB_NoneType_str, isB_NoneType_list, isB_NoneType_tuple, isB_bool_bool, isB_bool_int, isB_bool_str, isB_bool_list, isB_bool_tuple, isB_int_bool, isB_int_int, isB_int_str, isB_int_list, isB_int_tuple, isB_str_bool, isB_str_int, isB_str_str, isB_str_list, isB_str_tuple, isB_list_bool, isB_list_int, isB_list_str, isB_list_list, isB_list_tuple, isB_tuple_bool, isB_tuple_int, isB_tuple_str, isB_tuple_list, isB_tuple_tuple, rSlCI, iRng3, iRev, gCons, gNil, iZip, iEnum, tLc_eq, tFor_eq, iRng1, iRng2, iList, iTup, rSetD, iKeys, tDNewK, Int.reducePow, Int.reduceNeg, Dw.rIxL, rListTI, tMakeK, rTupT, tPar, Dw.rSlCI, rIsB]
  refine ⟨Nat.zero_le _, fun D hD => ?_⟩
  have nD2 : p1 ≠ D := fun e => by rw [e] at e1; rw [e1] at hD; cases hD
  have nD := same_none s1 hD
  have sD := same_new hD (.lst [])
  have eD : upd H1 D (.lst []) D = some (.lst []) := upd_same
  have e1D := sD _ _ e1
  have sHD := s1.trans sD
  generalize upd H1 D (.lst []) = H2 at sHD eD e1D ⊢
  have hpl := mkZ_len cs
  have hpi : ∀ p ∈ mkZ cs, p + 48 ≤ cs.length := fun p hp => mkZ_in hp
  have hfz : foundZ cs = fndTo cs (mkZ cs) (mkZ cs).length := rfl
  rw [hfz] at k
  generalize mkZ cs = ps at *
  have hxs : ((NL ps).map V.int).length = ps.length := by unfold NL; rw [List.length_map, List.length_map]
  refine ⟨_, .of e1D, ?_⟩
  obtain ⟨I, hI⟩ : ∃ F : Nat → L2.St → Hp → Prop, F = (fun i σ H' => Same H H' ∧ H' p1 = some (IL (NL ps)) ∧ ∃ (ys : List V) (y3 y4 y5 y6 y7 y8 y9 y10 : Option V), H' D = some (.lst ys) ∧ AllAt (FndAt H') ys (fndTo cs ps i) ∧ σ = [some (V.ref a), some (V.ref p1), some (V.ref D), y3, y4, y5, y6, y7, y8, y9, y10]) := ⟨_, rfl⟩
  refine for_it (walk_enum (K := K) (a := p1) (xs := (NL ps).map V.int)) I (by rw [hI]; exact ⟨sHD, e1D, [], _, _, _, _, _, _, _, _, eD, .nil, rfl⟩) (fun i σ H' _ h => by rw [hI] at h; exact .of h.2.1) ?_ ?_
  · intro i v σ H3 H' hi h hy
    rw [hI] at h
    obtain ⟨sH, eP, ys, y3, y4, y5, y6, y7, y8, y9, y10, eY, hF, rfl⟩ := h
    obtain ⟨tt, u, y, rfl, nt, rfl, eu, ey⟩ := hy
    cases eu
    rw [hxs] at hi
    have hpi0 : ps[i]? = some ps[i] := List.getElem?_eq_getElem hi
    have hm := hpi _ (List.mem_of_getElem? hpi0)
    have hgd : ps.getD i 0 = ps[i] := by rw [List.getD_eq_getElem?_getD, hpi0]; rfl
    generalize ps[i] = pl at hpi0 hm hgd
    have ey2 : y = V.int (pl : Int) := by
      have ey : ((NL ps).map V.int)[i]? = some y := ey
      unfold NL at ey
      rw [List.getElem?_map, List.getElem?_map, hpi0] at ey
      exact (Option.some.inj ey).symm
    subst ey2
    have sT := same_new nt (.tup [V.int (i : Int), V.int (pl : Int)])
    have sHT := sH.trans sT
    have ePT := sT _ _ eP
    have eYT := sT _ _ eY
    have hFT := hF.imp fun _ _ h => FndAt.same sT h
    refine ⟨tt, _, rfl, .of upd_same, rfl, V.int (i : Nat), [V.int (pl : Int)], rfl, V.int (pl : Int), [], rfl, rfl, ?_⟩
    generalize upd H3 tt (.tup [V.int (i : Int), V.int (pl : Int)]) = H4 at sHT ePT eYT hFT ⊢
    try simp only [tSeq, tAsg, tVar, tC, tOp, rI0, rI, tUn, rU, tIfS, tTest, tRet, tRetN, tDrop, tCB, tCons, tNil, tLst, tLstI, tTup, gName, tB, tAnd, tOr, tNot, tAndV, tOrV, tNotV, tIf, tNext, tBreak, tCont, gSub, tCall, tCallN, tAug, ipI, tBML, tBML0, isL_IL, isL_lst, L2.start, List.map_cons, List.map_nil, List.length_cons, List.length_nil, List.cons_append, List.nil_append, List.getElem?_cons_succ, List.getElem?_cons_zero, Option.some.injEq, exists_eq_left', exists_eq_left, exists_and_left, V.int.injEq, V.ref.injEq, V.bl.injEq, V.str.injEq, List.set_cons_zero, List.set_cons_succ, List.cons.injEq, and_true, true_and, Nat.reduceAdd, Nat.reduceSub, List.replicate_succ, List.replicate_zero, rIxI, rIxH, rIxTH, rSetI, rSetH, rCatI, rRepI, rSlI, rAppendI, rExtendI, decide_eq_true_eq, upd_same, IL_inj, HO.lst.injEq, toInts_cons, toInts_nil, Option.map_some, if_true, if_false, Bool.true_eq_false, Bool.false_eq_true, Bool.not_true, Bool.not_false, Bool.not_eq_true', decide_eq_false_iff_not, atI_0, atI_1, atI_2, atI_3, atI_4, Int.reduceToNat, Int.reduceLT, Int.reduceLE, Int.reduceNeg, Int.reducePow, cast_lit, upd_upd, Int.reduceAdd, Int.reduceMul, Int.reduceSub, Nat.reduceLT, Nat.reduceLeDiff, cmul_r, cdiv_r, tSl, tPart, tNoPart, rEq, rNe, scal_nn, scal_ii, scal_bb, scal_ss, scal_is, scal_si, V.ty.injEq, and_assoc, tyH_non, tyH_bl, tyH_int, tyH_str, tyH_ref, tyO_lst, tyO_IL, tyO_tup, itO_lst, itO_tup, itO_IL, Dw.rIxD, rLenI, rLenH, rLenTH, rLenQ, rLenB, rListI, Dw.rListS, rIntI, rIntB, rSumI, rIsiD, rIsX, tCallS, tMakeS, tMake, tMakeC, tMakeSC, tFld, sFld, HO.ins.injEq, HO.tup.injEq, cxOf_K, nox_K, tr_K, suite_K, rTupleI, rAllB, rAnyB, BL_inj, tChain, wOnly, wAs, wMany, rEqI, rNeI, Dw.rMax2, rMin2, Dw.rIsN, rIsNotN, rStrIn, rStrNotIn, not_true_eq_false, not_false_eq_true, reduceCtorEq, cl_bool, cl_int, cl_str, cl_list, cl_tuple, isB_NoneType_bool, isB_NoneType_int, isB_NoneType_str, isB_NoneType_list, isB_NoneType_tuple, isB_bool_bool, isB_bool_int, isB_bool_str, isB_bool_list, isB_bool_tuple, isB_int_bool, isB_int_int, isB_int_str, isB_int_list, isB_int_tuple, isB_str_bool, isB_str_int, isB_str_str, isB_str_list, isB_str_tuple, isB_list_bool, isB_list_int, isB_list_str, isB_list_list, isB_list_tuple, isB_tuple_bool, isB_tuple_int, isB_tuple_str, isB_tuple_list, isB_tuple_tuple, rSlCI, iRng3, iRev, gCons, gNil, iZip, iEnum, tLc_eq, tFor_eq, iRng1, iRng2, iList, iTup, rSetD, iKeys, tDNewK, Int.reducePow, Int.reduceNeg, Dw.rIxL, rListTI, tMakeK, rTupT, tPar, Dw.rSlCI, rIsB]
    refine ⟨a, cs, pl, 7, rfl, sHT _ _ hA, hl, by omega, fun t b f H5 s5 n5 e5 e6 e7 => ?_⟩
    refine ⟨t, [.ref b, .ref f], rfl, .of e5, rfl, .ref b, [.ref f], rfl, .ref f, [], rfl, rfl, ?_⟩
    have hmore := fndTo_more cs ps i
    have hfa : fndAt cs ps i = if (valsB (behC cs pl 7)).length < 7 ∨ (valsB (behC cs pl 7)).getD 0 0 ≠ 254 then none else some (pl, ((valsB (behC cs pl 7)).drop 1).take 4, fitsZ (valsB (behC cs pl 7)), dataBeh cs ps i ((valsB (behC cs pl 7)).getD 4 0)) := by
      unfold fndAt
      rw [hgd]
    have hvb : Bytes (valsB (behC cs pl 7)) := valsB_bytes (cutA_bits hb)
    have hvl := valsB_len (behC cs pl 7)
    have hbl := behC_len cs pl 7
    generalize valsB (behC cs pl 7) = vs at *
    have sH5 := sHT.trans s5
    have eP5 := s5 _ _ ePT
    have eY5 := s5 _ _ eYT
    have hF5 := hFT.imp fun _ _ h => FndAt.same s5 h
    try simp only [tSeq, tAsg, tVar, tC, tOp, rI0, rI, tUn, rU, tIfS, tTest, tRet, tRetN, tDrop, tCB, tCons, tNil, tLst, tLstI, tTup, gName, tB, tAnd, tOr, tNot, tAndV, tOrV, tNotV, tIf, tNext, tBreak, tCont, gSub, tCall, tCallN, tAug, ipI, tBML, tBML0, isL_IL, isL_lst, L2.start, List.map_cons, List.map_nil, List.length_cons, List.length_nil, List.cons_append, List.nil_append, List.getElem?_cons_succ, List.getElem?_cons_zero, Option.some.injEq, exists_eq_left', exists_eq_left, exists_and_left, V.int.injEq, V.ref.injEq, V.bl.injEq, V.str.injEq, List.set_cons_zero, List.set_cons_succ, List.cons.injEq, and_true, true_and, Nat.reduceAdd, Nat.reduceSub, List.replicate_succ, List.replicate_zero, rIxI, rIxH, rIxTH, rSetI, rSetH, rCatI, rRepI, rSlI, rAppendI, rExtendI, decide_eq_true_eq, upd_same, IL_inj, HO.lst.injEq, toInts_cons, toInts_nil, Option.map_some, if_true, if_false, Bool.true_eq_false, Bool.false_eq_true, Bool.not_true, Bool.not_false, Bool.not_eq_true', decide_eq_false_iff_not, atI_0, atI_1, atI_2, atI_3, atI_4, Int.reduceToNat, Int.reduceLT, Int.reduceLE, Int.reduceNeg, Int.reducePow, cast_lit, upd_upd, Int.reduceAdd, Int.reduceMul, Int.reduceSub, Nat.reduceLT, Nat.reduceLeDiff, cmul_r, cdiv_r, tSl, tPart, tNoPart, rEq, rNe, scal_nn, scal_ii, scal_bb, scal_ss, scal_is, scal_si, V.ty.injEq, and_assoc, tyH_non, tyH_bl, tyH_int, tyH_str, tyH_ref, tyO_lst, tyO_IL, tyO_tup, itO_lst, itO_tup, itO_IL, Dw.rIxD, rLenI, rLenH, rLenTH, rLenQ, rLenB, rListI, Dw.rListS, rIntI, rIntB, rSumI, rIsiD, rIsX, tCallS, tMakeS, tMake, tMakeC, tMakeSC, tFld, sFld, HO.ins.injEq, HO.tup.injEq, cxOf_K, nox_K, tr_K, suite_K, rTupleI, rAllB, rAnyB, BL_inj, tChain, wOnly, wAs, wMany, rEqI, rNeI, Dw.rMax2, rMin2, Dw.rIsN, rIsNotN, rStrIn, rStrNotIn, not_true_eq_false, not_false_eq_true, reduceCtorEq, cl_bool, cl_int, cl_str, cl_list, cl_tuple, isB_NoneType_bool, isB_NoneType_int, isB_NoneType_str, isB_NoneType_list, isB_NoneType_tuple, isB_bool_bool, isB_bool_int, isB_bool_str, isB_bool_list, isB_bool_tuple, isB_int_bool, isB_int_int, isB_int_str, isB_int_list, isB_int_tuple, isB_str_bool, isB_str_int, isB_str_str, isB_str_list, isB_str_tuple, isB_list_bool, isB_list_int, isB_list_str, isB_list_list, isB_list_tuple, isB_tuple_bool, isB_tuple_int, isB_tuple_str, isB_tuple_list, isB_tuple_tuple, rSlCI, iRng3, iRev, gCons, gNil, iZip, iEnum, tLc_eq, tFor_eq, iRng1, iRng2, iList, iTup, rSetD, iKeys, tDNewK, Int.reducePow, Int.reduceNeg, Dw.rIxL, rListTI, tMakeK, rTupT, tPar, Dw.rSlCI, rIsB, e6]
    have skip : (vs.length < 7 ∨ vs.getD 0 0 ≠ 254) → ∀ z5 z6 : Option V, I (i + 1) [some (V.ref a), some (V.ref p1), some (V.ref D), some (V.int (i : Int)), some (V.int (pl : Int)), z5, z6, y7, y8, y9, y10] H5 := fun hc z5 z6 => by
      rw [if_pos hc] at hfa
      rw [hfa] at hmore
      rw [hI]
      exact ⟨sH5, eP5, ys, _, _, _, _, _, _, _, _, eY5, by rw [hmore]; exact hF5, rfl⟩
    by_cases c4 : vs.length < 7
    · rw [if_pos (by omega)]
      exact skip (.inl c4) _ _
    rw [if_neg (by omega)]
    refine ⟨by omega, ?_⟩
    by_cases c5' : ¬ vs.getD 0 0 = 254
    · rw [if_pos c5']
      exact skip (.inr c5') _ _
    rw [if_neg c5']
    have c5 : vs.getD 0 0 = 254 := Decidable.of_not_not c5'
    rw [if_neg (fun h => h.elim c4 (fun h => h c5))] at hfa
    rw [hfa] at hmore
    have e14 := cutI_any vs 1 5 (by decide)
    rw [show cutI vs (some 1) (some 5) = (vs.drop 1).take 4 from e14]
    intro u1 hu1
    have su := same_new hu1 (IL ((vs.drop 1).take 4))
    have eu1 : upd H5 u1 (IL ((vs.drop 1).take 4)) u1 = _ := upd_same
    generalize upd H5 u1 (IL ((vs.drop 1).take 4)) = H6 at su eu1 ⊢
    intro l hl3
    have sl := same_new hl3 (HO.tup (((vs.drop 1).take 4).map V.int))
    have el : upd H6 l (HO.tup (((vs.drop 1).take 4).map V.int)) l = _ := upd_same
    generalize upd H6 l (HO.tup (((vs.drop 1).take 4).map V.int)) = H7 at sl el ⊢
    refine ⟨line_le (by decide), fun q hq => ⟨q, [.non, .bl false], rfl, .of upd_same, rfl, .non, [.bl false], rfl, .bl false, [], rfl, rfl, ?_⟩⟩
    have sq := same_new hq (HO.tup [V.non, V.bl false])
    generalize upd H7 q (HO.tup [V.non, V.bl false]) = H8 at sq ⊢
    have s8 := su.trans (sl.trans sq)
    have sH8 := sH5.trans s8
    have el8 := sq _ _ el
    have e68 := s8 _ _ e6
    have eP8 := s8 _ _ eP5
    have eY8 := s8 _ _ eY5
    have hF8 := hF5.imp fun _ _ h => FndAt.same s8 h
    have h3 : (((vs.drop 1).take 4).map V.int)[3]? = some (V.int (vs.getD 4 0)) := by
      rw [List.getElem?_map, List.getElem?_take_of_lt (by decide), List.getElem?_drop, List.getD_eq_getElem?_getD, List.getElem?_eq_getElem (show 1 + 3 < vs.length by omega)]
      rfl
    have hsz : 0 ≤ vs.getD 4 0 := by
      rw [List.getD_eq_getElem?_getD, List.getElem?_eq_getElem (show 4 < vs.length by omega)]
      exact (hvb _ (List.getElem_mem _)).1
    generalize vs.getD 4 0 = sz at *
    generalize hdb : dataBeh cs ps i sz = dg at *
    obtain ⟨M, hM⟩ : ∃ F : L2.St → Hp → Prop, F = (fun σ' H' => Same H8 H' ∧ ∃ (v y10 : Option V) (x : V), DatT H' x dg.1 ∧ σ' = [some (V.ref a), some (V.ref p1), some (V.ref D), some (V.int (i : Int)), some (V.int (pl : Int)), some (V.ref b), some (V.ref f), some (V.ref l), some x, some (V.bl dg.2), y10]) := ⟨_, rfl⟩
    refine ⟨M, ?_, ?_⟩
    · try simp only [tSeq, tAsg, tVar, tC, tOp, rI0, rI, tUn, rU, tIfS, tTest, tRet, tRetN, tDrop, tCB, tCons, tNil, tLst, tLstI, tTup, gName, tB, tAnd, tOr, tNot, tAndV, tOrV, tNotV, tIf, tNext, tBreak, tCont, gSub, tCall, tCallN, tAug, ipI, tBML, tBML0, isL_IL, isL_lst, L2.start, List.map_cons, List.map_nil, List.length_cons, List.length_nil, List.cons_append, List.nil_append, List.getElem?_cons_succ, List.getElem?_cons_zero, Option.some.injEq, exists_eq_left', exists_eq_left, exists_and_left, V.int.injEq, V.ref.injEq, V.bl.injEq, V.str.injEq, List.set_cons_zero, List.set_cons_succ, List.cons.injEq, and_true, true_and, Nat.reduceAdd, Nat.reduceSub, List.replicate_succ, List.replicate_zero, rIxI, rIxH, rIxTH, rSetI, rSetH, rCatI, rRepI, rSlI, rAppendI, rExtendI, decide_eq_true_eq, upd_same, IL_inj, HO.lst.injEq, toInts_cons, toInts_nil, Option.map_some, if_true, if_false, Bool.true_eq_false, Bool.false_eq_true, Bool.not_true, Bool.not_false, Bool.not_eq_true', decide_eq_false_iff_not, atI_0, atI_1, atI_2, atI_3, atI_4, Int.reduceToNat, Int.reduceLT, Int.reduceLE, Int.reduceNeg, Int.reducePow, cast_lit, upd_upd, Int.reduceAdd, Int.reduceMul, Int.reduceSub, Nat.reduceLT, Nat.reduceLeDiff, cmul_r, cdiv_r, tSl, tPart, tNoPart, rEq, rNe, scal_nn, scal_ii, scal_bb, scal_ss, scal_is, scal_si, V.ty.injEq, and_assoc, tyH_non, tyH_bl, tyH_int, tyH_str, tyH_ref, tyO_lst, tyO_IL, tyO_tup, itO_lst, itO_tup, itO_IL, Dw.rIxD, rLenI, rLenH, rLenTH, rLenQ, rLenB, rListI, Dw.rListS, rIntI, rIntB, rSumI, rIsiD, rIsX, tCallS, tMakeS, tMake, tMakeC, tMakeSC, tFld, sFld, HO.ins.injEq, HO.tup.injEq, cxOf_K, nox_K, tr_K, suite_K, rTupleI, rAllB, rAnyB, BL_inj, tChain, wOnly, wAs, wMany, rEqI, rNeI, Dw.rMax2, rMin2, Dw.rIsN, rIsNotN, rStrIn, rStrNotIn, not_true_eq_false, not_false_eq_true, reduceCtorEq, cl_bool, cl_int, cl_str, cl_list, cl_tuple, isB_NoneType_bool, isB_NoneType_int, isB_NoneType_str, isB_NoneType_list, isB_NoneType_tuple, isB_bool_bool, isB_bool_int, isB_bool_str, isB_bool_list, isB_bool_tuple, isB_int_bool, isB_int_int, isB_int_str, isB_int_list, isB_int_tuple, isB_str_bool, isB_str_int, isB_str_str, isB_str_list, isB_str_tuple, isB_list_bool, isB_list_int, isB_list_str, isB_list_list, isB_list_tuple, isB_tuple_bool, isB_tuple_int, isB_tuple_str, isB_tuple_list, isB_tuple_tuple, rSlCI, iRng3, iRev, gCons, gNil, iZip, iEnum, tLc_eq, tFor_eq, iRng1, iRng2, iList, iTup, rSetD, iKeys, tDNewK, Int.reducePow, Int.reduceNeg, Dw.rIxL, rListTI, tMakeK, rTupT, tPar, Dw.rSlCI, rIsB, eP8, el8, h3]
      have hnl : ((NL ps).length : Int) = (ps.length : Int) := by unfold NL; rw [List.length_map]
      rw [hnl]
      by_cases c6 : i + 1 < ps.length
      · rw [if_pos (by omega)]
        refine ⟨by omega, by omega, ?_⟩
        have hg : (NL ps).getD ((i : Int) + 1).toNat 0 = ((ps.getD (i + 1) 0 : Nat) : Int) := by
          rw [show ((i : Int) + 1).toNat = i + 1 by omega]
          unfold NL
          rw [List.getD_eq_getElem?_getD, List.getElem?_map, List.getD_eq_getElem?_getD, List.getElem?_eq_getElem c6]
          rfl
        have hdb2 : behZ cs sz (pl + 160) (ps.getD (i + 1) 0) = dg := by
          rw [← hdb]
          unfold dataBeh
          rw [if_pos c6, hgd]
        rw [hg, show (pl : Int) + 48 + 112 = ((pl + 160 : Nat) : Int) by omega]
        refine ⟨a, cs, sz, pl + 160, _, rfl, sH8 _ _ hA, hb, hl, hsz, fun t2 x H9 s9 n9 e9 hd9 => ?_⟩
        rw [hdb2] at e9 hd9
        refine ⟨t2, [x, .bl dg.2], rfl, .of e9, rfl, x, [.bl dg.2], rfl, .bl dg.2, [], rfl, rfl, ?_⟩
        try simp only [tSeq, tAsg, tVar, tC, tOp, rI0, rI, tUn, rU, tIfS, tTest, tRet, tRetN, tDrop, tCB, tCons, tNil, tLst, tLstI, tTup, gName, tB, tAnd, tOr, tNot, tAndV, tOrV, tNotV, tIf, tNext, tBreak, tCont, gSub, tCall, tCallN, tAug, ipI, tBML, tBML0, isL_IL, isL_lst, L2.start, List.map_cons, List.map_nil, List.length_cons, List.length_nil, List.cons_append, List.nil_append, List.getElem?_cons_succ, List.getElem?_cons_zero, Option.some.injEq, exists_eq_left', exists_eq_left, exists_and_left, V.int.injEq, V.ref.injEq, V.bl.injEq, V.str.injEq, List.set_cons_zero, List.set_cons_succ, List.cons.injEq, and_true, true_and, Nat.reduceAdd, Nat.reduceSub, List.replicate_succ, List.replicate_zero, rIxI, rIxH, rIxTH, rSetI, rSetH, rCatI, rRepI, rSlI, rAppendI, rExtendI, decide_eq_true_eq, upd_same, IL_inj, HO.lst.injEq, toInts_cons, toInts_nil, Option.map_some, if_true, if_false, Bool.true_eq_false, Bool.false_eq_true, Bool.not_true, Bool.not_false, Bool.not_eq_true', decide_eq_false_iff_not, atI_0, atI_1, atI_2, atI_3, atI_4, Int.reduceToNat, Int.reduceLT, Int.reduceLE, Int.reduceNeg, Int.reducePow, cast_lit, upd_upd, Int.reduceAdd, Int.reduceMul, Int.reduceSub, Nat.reduceLT, Nat.reduceLeDiff, cmul_r, cdiv_r, tSl, tPart, tNoPart, rEq, rNe, scal_nn, scal_ii, scal_bb, scal_ss, scal_is, scal_si, V.ty.injEq, and_assoc, tyH_non, tyH_bl, tyH_int, tyH_str, tyH_ref, tyO_lst, tyO_IL, tyO_tup, itO_lst, itO_tup, itO_IL, Dw.rIxD, rLenI, rLenH, rLenTH, rLenQ, rLenB, rListI, Dw.rListS, rIntI, rIntB, rSumI, rIsiD, rIsX, tCallS, tMakeS, tMake, tMakeC, tMakeSC, tFld, sFld, HO.ins.injEq, HO.tup.injEq, cxOf_K, nox_K, tr_K, suite_K, rTupleI, rAllB, rAnyB, BL_inj, tChain, wOnly, wAs, wMany, rEqI, rNeI, Dw.rMax2, rMin2, Dw.rIsN, rIsNotN, rStrIn, rStrNotIn, not_true_eq_false, not_false_eq_true, reduceCtorEq, cl_bool, cl_int, cl_str, cl_list, cl_tuple, isB_NoneType_bool, isB_NoneType_int, isB_NoneType_str, isB_NoneType_list, isB_NoneType_tuple, isB_bool_bool, isB_bool_int, isB_bool_str, isB_bool_list, isB_bool_tuple, isB_int_bool, isB_int_int, isB_int_str, isB_int_list, isB_int_tuple, isB_str_bool, isB_str_int, isB_str_str, isB_str_list, isB_str_tuple, isB_list_bool, isB_list_int, isB_list_str, isB_list_list, isB_list_tuple, isB_tuple_bool, isB_tuple_int, isB_tuple_str, isB_tuple_list, isB_tuple_tuple, rSlCI, iRng3, iRev, gCons, gNil, iZip, iEnum, tLc_eq, tFor_eq, iRng1, iRng2, iList, iTup, rSetD, iKeys, tDNewK, Int.reducePow, Int.reduceNeg, Dw.rIxL, rListTI, tMakeK, rTupT, tPar, Dw.rSlCI, rIsB]
        rw [hM]
        exact ⟨s9, none, _, x, hd9, rfl⟩
      · rw [if_neg (by omega), hM]
        have hdb2 : dg = (none, false) := by
          rw [← hdb]
          unfold dataBeh
          rw [if_neg c6]
        rw [hdb2]
        exact ⟨.refl _, none, _, .non, .inl ⟨rfl, rfl⟩, rfl⟩
    · intro σ' H9 h
      rw [hM] at h
      obtain ⟨s9, _, y10', x, hx, rfl⟩ := h
      have eY9 := s9 _ _ eY8
      try simp only [tSeq, tAsg, tVar, tC, tOp, rI0, rI, tUn, rU, tIfS, tTest, tRet, tRetN, tDrop, tCB, tCons, tNil, tLst, tLstI, tTup, gName, tB, tAnd, tOr, tNot, tAndV, tOrV, tNotV, tIf, tNext, tBreak, tCont, gSub, tCall, tCallN, tAug, ipI, tBML, tBML0, isL_IL, isL_lst, L2.start, List.map_cons, List.map_nil, List.length_cons, List.length_nil, List.cons_append, List.nil_append, List.getElem?_cons_succ, List.getElem?_cons_zero, Option.some.injEq, exists_eq_left', exists_eq_left, exists_and_left, V.int.injEq, V.ref.injEq, V.bl.injEq, V.str.injEq, List.set_cons_zero, List.set_cons_succ, List.cons.injEq, and_true, true_and, Nat.reduceAdd, Nat.reduceSub, List.replicate_succ, List.replicate_zero, rIxI, rIxH, rIxTH, rSetI, rSetH, rCatI, rRepI, rSlI, rAppendI, rExtendI, decide_eq_true_eq, upd_same, IL_inj, HO.lst.injEq, toInts_cons, toInts_nil, Option.map_some, if_true, if_false, Bool.true_eq_false, Bool.false_eq_true, Bool.not_true, Bool.not_false, Bool.not_eq_true', decide_eq_false_iff_not, atI_0, atI_1, atI_2, atI_3, atI_4, Int.reduceToNat, Int.reduceLT, Int.reduceLE, Int.reduceNeg, Int.reducePow, cast_lit, upd_upd, Int.reduceAdd, Int.reduceMul, Int.reduceSub, Nat.reduceLT, Nat.reduceLeDiff, cmul_r, cdiv_r, tSl, tPart, tNoPart, rEq, rNe, scal_nn, scal_ii, scal_bb, scal_ss, scal_is, scal_si, V.ty.injEq, and_assoc, tyH_non, tyH_bl, tyH_int, tyH_str, tyH_ref, tyO_lst, tyO_IL, tyO_tup, itO_lst, itO_tup, itO_IL, Dw.rIxD, rLenI, rLenH, rLenTH, rLenQ, rLenB, rListI, Dw.rListS, rIntI, rIntB, rSumI, rIsiD, rIsX, tCallS, tMakeS, tMake, tMakeC, tMakeSC, tFld, sFld, HO.ins.injEq, HO.tup.injEq, cxOf_K, nox_K, tr_K, suite_K, rTupleI, rAllB, rAnyB, BL_inj, tChain, wOnly, wAs, wMany, rEqI, rNeI, Dw.rMax2, rMin2, Dw.rIsN, rIsNotN, rStrIn, rStrNotIn, not_true_eq_false, not_false_eq_true, reduceCtorEq, cl_bool, cl_int, cl_str, cl_list, cl_tuple, isB_NoneType_bool, isB_NoneType_int, isB_NoneType_str, isB_NoneType_list, isB_NoneType_tuple, isB_bool_bool, isB_bool_int, isB_bool_str, isB_bool_list, isB_bool_tuple, isB_int_bool, isB_int_int, isB_int_str, isB_int_list, isB_int_tuple, isB_str_bool, isB_str_int, isB_str_str, isB_str_list, isB_str_tuple, isB_list_bool, isB_list_int, isB_list_str, isB_list_list, isB_list_tuple, isB_tuple_bool, isB_tuple_int, isB_tuple_str, isB_tuple_list, isB_tuple_tuple, rSlCI, iRng3, iRev, gCons, gNil, iZip, iEnum, tLc_eq, tFor_eq, iRng1, iRng2, iList, iTup, rSetD, iKeys, tDNewK, Int.reducePow, Int.reduceNeg, Dw.rIxL, rListTI, tMakeK, rTupT, tPar, Dw.rSlCI, rIsB, eY9]
      refine ⟨b, vs, rfl, s9 _ _ e68, hvb, by omega, fun H10 s10 => ⟨line_le (by decide), fun t3 ht3 => ?_⟩⟩
      have s11 := same_new ht3 (HO.tup [V.int (pl : Int), V.ref l, V.bl (fitsZ vs), x, V.bl dg.2])
      have e3 : upd H10 t3 (HO.tup [V.int (pl : Int), V.ref l, V.bl (fitsZ vs), x, V.bl dg.2]) t3 = _ := upd_same
      generalize upd H10 t3 (HO.tup [V.int (pl : Int), V.ref l, V.bl (fitsZ vs), x, V.bl dg.2]) = H11 at s11 e3 ⊢
      have sA := s9.trans (s10.trans s11)
      have sB := s10.trans s11
      have eY11 := sB _ _ eY9
      have hF11 := hF8.imp fun _ _ h => FndAt.same sA h
      have hfl := fndTo_len cs ps i
      have hyl := hF11.1
      have hnew : FndAt H11 (.ref t3) (pl, (vs.drop 1).take 4, fitsZ vs, dg) := ⟨t3, l, x, rfl, e3, sA _ _ el8, hx.same sB⟩
      refine ⟨D, ys, .ref t3, rfl, rfl, eY11, line_lt (by omega), ?_⟩
      rw [hI]
      refine ⟨fun c o hc => by rw [upd_ne (ne_of_none hc nD)]; exact sA _ _ (sH8 _ _ hc), ?_, ys ++ [.ref t3], _, _, _, _, _, _, _, _, upd_same, ?_, rfl⟩
      · rw [upd_ne nD2]
        exact sA _ _ eP8
      · rw [hmore]
        exact (hF11.push hnew).imp fun _ _ h => FndAt.ups eY11 h
  · intro σ H' h
    rw [hI] at h
    obtain ⟨sH, eP, ys, y3, y4, y5, y6, y7, y8, y9, y10, eY, hF, rfl⟩ := h
    rw [hxs] at hF
    try simp only [tSeq, tAsg, tVar, tC, tOp, rI0, rI, tUn, rU, tIfS, tTest, tRet, tRetN, tDrop, tCB, tCons, tNil, tLst, tLstI, tTup, gName, tB, tAnd, tOr, tNot, tAndV, tOrV, tNotV, tIf, tNext, tBreak, tCont, gSub, tCall, tCallN, tAug, ipI, tBML, tBML0, isL_IL, isL_lst, L2.start, List.map_cons, List.map_nil, List.length_cons, List.length_nil, List.cons_append, List.nil_append, List.getElem?_cons_succ, List.getElem?_cons_zero, Option.some.injEq, exists_eq_left', exists_eq_left, exists_and_left, V.int.injEq, V.ref.injEq, V.bl.injEq, V.str.injEq, List.set_cons_zero, List.set_cons_succ, List.cons.injEq, and_true, true_and, Nat.reduceAdd, Nat.reduceSub, List.replicate_succ, List.replicate_zero, rIxI, rIxH, rIxTH, rSetI, rSetH, rCatI, rRepI, rSlI, rAppendI, rExtendI, decide_eq_true_eq, upd_same, IL_inj, HO.lst.injEq, toInts_cons, toInts_nil, Option.map_some, if_true, if_false, Bool.true_eq_false, Bool.false_eq_true, Bool.not_true, Bool.not_false, Bool.not_eq_true', decide_eq_false_iff_not, atI_0, atI_1, atI_2, atI_3, atI_4, Int.reduceToNat, Int.reduceLT, Int.reduceLE, Int.reduceNeg, Int.reducePow, cast_lit, upd_upd, Int.reduceAdd, Int.reduceMul, Int.reduceSub, Nat.reduceLT, Nat.reduceLeDiff, cmul_r, cdiv_r, tSl, tPart, tNoPart, rEq, rNe, scal_nn, scal_ii, scal_bb, scal_ss, scal_is, scal_si, V.ty.injEq, and_assoc, tyH_non, tyH_bl, tyH_int, tyH_str, tyH_ref, tyO_lst, tyO_IL, tyO_tup, itO_lst, itO_tup, itO_IL, Dw.rIxD, rLenI, rLenH, rLenTH, rLenQ, rLenB, rListI, Dw.rListS, rIntI, rIntB, rSumI, rIsiD, rIsX, tCallS, tMakeS, tMake, tMakeC, tMakeSC, tFld, sFld, HO.ins.injEq, HO.tup.injEq, cxOf_K, nox_K, tr_K, suite_K, rTupleI, rAllB, rAnyB, BL_inj, tChain, wOnly, wAs, wMany, rEqI, rNeI, Dw.rMax2, rMin2, Dw.rIsN, rIsNotN, rStrIn, rStrNotIn, not_true_eq_false, not_false_eq_true, reduceCtorEq, cl_bool, cl_int, cl_str, cl_list, cl_tuple, isB_NoneType_bool, isB_NoneType_int, isB_NoneType_str, isB_NoneType_list, isB_NoneType_tuple, isB_bool_bool, isB_bool_int, isB_bool_str, isB_bool_list, isB_bool_tuple, isB_int_bool, isB_int_int, isB_int_str, isB_int_list, isB_int_tuple, isB_str_bool, isB_str_int, isB_str_str, isB_str_list, isB_str_tuple, isB_list_bool, isB_list_int, isB_list_str, isB_list_list, isB_list_tuple, isB_tuple_bool, isB_tuple_int, isB_tuple_str, isB_tuple_list, isB_tuple_tuple, rSlCI, iRng3, iRev, gCons, gNil, iZip, iEnum, tLc_eq, tFor_eq, iRng1, iRng2, iList, iTup, rSetD, iKeys, tDNewK, Int.reducePow, Int.reduceNeg, Dw.rIxL, rListTI, tMakeK, rTupT, tPar, Dw.rSlCI, rIsB]
    exact k D ys H' sH nD eY hF
end
section
variable {P : Program} {w : World} {K : PySem.W.Frag} {mg : Str → Option Value} {base : Heap} {A : Ad}
theorem ok_law_cell (T : Tx K mg A) : FnOk P w K mg base CX0 1 A.f_law_cell A.d_law_cell ["script", "k"] (Dw.spCell K) := by
  refine T.F_law_cell.ok sc_law_cell (fun vs H Q E h => ?_) (fun cdv A' outer s H vs Q E hr h => ?_)
  · obtain ⟨a, ns, k, rfl, _⟩ := h
    rfl
  obtain ⟨a, ns, n, rfl, hS, n0, k⟩ := h
  refine ⟨_, (pss_cons (ps_if (pt_cmpR op_lt (pv 1) (pe_callB call_len_seq (by rfl) T.z_len (by decide +kernel) (pa_cons (pv 0) pa_nil)) (nomark _)) (pss_one (ps_ret (pe_ix ix_list (pv 0) (pv 1) (fun _ _ => rfl)))) pss_nil)
      (pss_one (ps_ret pe_int))), ?_⟩
  refine ⟨_, rfl, _, rfl, a, _, rfl, .inl hS, _, _, rfl, rfl, _, rfl, ?_⟩
  rw [List.length_map]
  by_cases c : n < (ns.length : Int)
  · refine ite_t (decide_eq_true c) ?_
    exact ⟨_, rfl, _, rfl, a, _, n, _, rfl, rfl, hS, atI_int n0 c, k _⟩
  · refine ite_f (decide_eq_false c) ?_
    exact k _
theorem ok_law_draws (T : Tx K mg A) : FnOk P w K mg base CX0 1 A.f_law_draws A.d_law_draws ["cell", "count"] spDraws := by
  refine T.F_law_draws.ok sc_law_draws (fun vs H Q E h => ?_) (fun cdv A' outer s H vs Q E hr h => ?_)
  · obtain ⟨c, n, rfl, _⟩ := h
    rfl
  obtain ⟨c, n, rfl, n0, n1, k⟩ := h
  refine ⟨_, (pss_cons (ps_set (i := 2) sc_law_draws.nd rfl (Or.inl rfl) (pe_lstI pa_nil))
      (pss_cons (ps_set (i := 3) sc_law_draws.nd rfl (Or.inl rfl) (pv 0))
      (pss_cons (ps_for PassesOwn.never rfl (pi_range1 rfl T.z_range (pa_cons (pv 1) pa_nil)) (pg_name (i := 4) sc_law_draws.nd rfl (Or.inl rfl))
        (pss_one (ps_if (PW.pt (pw_and (pt_cmpR op_ge (pv 0) (pe_op op_pow pe_int pe_int) (nomark _)) (pw_and1 (pt_cmpR op_gt (pv 3) pe_int (nomark _))))) (pss_cons (ps_expr (PE.imp (pe_bm PySem.F.plainAttrs_list PySem.F.slot_list_append PySem.F.type_list_append mt_appendI (pv 2) (pa_cons (pe_op op_mod (pe_callTy call_intI (by rfl) T.z_int (by decide +kernel) (pa_cons (pv 3) pa_nil)) pe_int) pa_nil)) bml_imp))
      (pss_one (ps_set (i := 3) sc_law_draws.nd rfl (Or.inl rfl) (pe_op op_fdiv (pv 3) pe_int)))) (pss_cons (ps_set (i := 5) sc_law_draws.nd rfl (Or.inl rfl) (pe_op op_mod (pe_callTy call_intI (by rfl) T.z_int (by decide +kernel) (pa_cons (pe_op op_add (pe_op op_mul (pv 0) pe_int) (pe_op op_mul (pe_op op_add (pv 4) pe_int) pe_int)) pa_nil)) pe_int))
      (pss_cons (ps_set (i := 5) sc_law_draws.nd rfl (Or.inl rfl) (pe_op op_mod (pe_callTy call_intI (by rfl) T.z_int (by decide +kernel) (pa_cons (pe_op op_add (pe_op op_add (pe_op op_mul (pv 5) (pv 5)) (pe_op op_mul (pv 5) pe_int)) (pe_op op_mul (pv 4) pe_int)) pa_nil)) pe_int))
      (pss_cons (ps_set (i := 5) sc_law_draws.nd rfl (Or.inl rfl) (pe_op op_mod (pe_callTy call_intI (by rfl) T.z_int (by decide +kernel) (pa_cons (pe_op op_add (pe_op op_add (pe_op op_mul (pv 5) (pv 5)) (pv 0)) (pe_op op_mul pe_int (pv 4))) pa_nil)) pe_int))
      (pss_one (ps_expr (PE.imp (pe_bm PySem.F.plainAttrs_list PySem.F.slot_list_append PySem.F.type_list_append mt_appendI (pv 2) (pa_cons (pe_op op_mod (pe_op op_fdiv (pv 5) pe_int) pe_int) pa_nil)) bml_imp)))))))))
      (pss_one (ps_ret (pv 2)))))), ?_⟩
  try simp only [tSeq, tAsg, tVar, tC, tOp, rI0, rI, tUn, rU, tIfS, tTest, tRet, tRetN, tDrop, tCB, tCons, tNil, tLst, tLstI, tTup, gName, tB, tAnd, tOr, tNot, tAndV, tOrV, tNotV, tIf, tNext, tBreak, tCont, gSub, tCall, tCallN, tAug, ipI, tBML, tBML0, isL_IL, isL_lst, L2.start, List.map_cons, List.map_nil, List.length_cons, List.length_nil, List.cons_append, List.nil_append, List.getElem?_cons_succ, List.getElem?_cons_zero, Option.some.injEq, exists_eq_left', exists_eq_left, exists_and_left, V.int.injEq, V.ref.injEq, V.bl.injEq, V.str.injEq, List.set_cons_zero, List.set_cons_succ, List.cons.injEq, and_true, true_and, Nat.reduceAdd, Nat.reduceSub, List.replicate_succ, List.replicate_zero, rIxI, rIxH, rIxTH, rSetI, rSetH, rCatI, rRepI, rSlI, rAppendI, rExtendI, decide_eq_true_eq, upd_same, IL_inj, HO.lst.injEq, toInts_cons, toInts_nil, Option.map_some, if_true, if_false, Bool.true_eq_false, Bool.false_eq_true, Bool.not_true, Bool.not_false, Bool.not_eq_true', decide_eq_false_iff_not, atI_0, atI_1, atI_2, atI_3, atI_4, Int.reduceToNat, Int.reduceLT, Int.reduceLE, Int.reduceNeg, Int.reducePow, cast_lit, upd_upd, Int.reduceAdd, Int.reduceMul, Int.reduceSub, Nat.reduceLT, Nat.reduceLeDiff, cmul_r, cdiv_r, tSl, tPart, tNoPart, rEq, rNe, scal_nn, scal_ii, scal_bb, scal_ss, scal_is, scal_si, V.ty.injEq, and_assoc, tyH_non, tyH_bl, tyH_int, tyH_str, tyH_ref, tyO_lst, tyO_IL, tyO_tup, itO_lst, itO_tup, itO_IL, Dw.rIxD, rLenI, rLenH, rLenTH, rLenQ, rLenB, rListI, Dw.rListS, rIntI, rIntB, rSumI, rIsiD, rIsX, tCallS, tMakeS, tMake, tMakeC, tMakeSC, tFld, sFld, HO.ins.injEq, HO.tup.injEq, cxOf_K, nox_K, tr_K, suite_K, rTupleI, rAllB, rAnyB, BL_inj, tChain, wOnly, wAs, wMany, rEqI, rNeI, Dw.rMax2, rMin2, Dw.rIsN, rIsNotN, rStrIn, rStrNotIn, not_true_eq_false, not_false_eq_true, reduceCtorEq, cl_bool, cl_int, cl_str, cl_list, cl_tuple, isB_NoneType_bool, isB_NoneType_int, isB_NoneType_str, isB_NoneType_list, isB_NoneType_tuple, isB_bool_bool, isB_bool_int, isB_bool_str, isB_bool_list, isB_bool_tuple, isB_int_bool, isB_int_int, isB_int_str, isB_int_list, isB_int_tuple, isB_str_bool, isB_str_int, isB_str_str, isB_str_list, isB_str_tuple, isB_list_bool, isB_list_int, isB_list_str, isB_list_list, isB_list_tuple, isB_tuple_bool, isB_tuple_int, isB_tuple_str, isB_tuple_list, isB_tuple_tuple, Dw.rIxL, rListTI, tMakeK, rTupT, tPar, Dw.rSlCI, rIsB]
  refine ⟨line_le (by decide), fun r hr0 => ?_⟩
  obtain ⟨I, hI⟩ : ∃ F : Nat → L2.St → Hp → Prop, F = (fun i σ H' => Same H H' ∧ ∃ ns left y z, H' r = some (IL ns) ∧ ns.length = i ∧ D12 ns ∧ σ = [some (.int c), some (.int n), some (.ref r), some (.int left), y, z]) := ⟨_, rfl⟩
  refine ⟨_, rfl, n, rfl, by omega, by omega, for_range (lo := 0) (n := n.toNat) I (by rw [hI]; exact ⟨same_new hr0 _, [], c, none, none, upd_same, rfl, (fun z h => by cases h), rfl⟩) ?_ ?_⟩
  · intro i σ H' hi h
    rw [hI] at h
    obtain ⟨s1, ns, left, y, z, e1, hl, hd, rfl⟩ := h
    have fin : ∀ (v l' : Int) y', 0 ≤ v → v < 4096 → I (i + 1) [some (.int c), some (.int n), some (.ref r), some (.int l'), some (.int (0 + (i : Int))), y'] (upd H' r (IL (ns ++ [v]))) := fun v l' y' v0 v1 => by
      rw [hI]
      refine ⟨fun b o hb => ?_, ns ++ [v], l', _, _, upd_same, ?_, fun z hz => ?_, rfl⟩
      · rw [upd_ne (ne_of_none hb hr0)]
        exact s1 _ _ hb
      · rw [List.length_append, hl]
        rfl
      · rcases List.mem_append.mp hz with hz | hz
        · exact hd z hz
        · rw [List.mem_singleton.mp hz]
          exact ⟨v0, v1⟩
    have hz : ns.length < sizeLine := line_lt (by omega)
    have cm : ∀ x y : Int, 0 < y → CMul (x % 2147483647) (x % 2147483647) := fun x y _ => .inl ⟨by omega, by omega⟩
    have cm3 : CMul 13 (0 + (i : Int)) := .inl ⟨by decide, by decide⟩
    have cm2 : ∀ x : Int, CMul (x % 2147483629) (x % 2147483629) := fun x => .inl ⟨by omega, by omega⟩
    have cm1 : ∀ x : Int, CMul (x % 2147483647) (x % 2147483647) := fun x => .inl ⟨by omega, by omega⟩
    have cp : CPow 10 18 := ⟨by decide, by decide, by decide⟩
    try simp only [tSeq, tAsg, tVar, tC, tOp, rI0, rI, tUn, rU, tIfS, tTest, tRet, tRetN, tDrop, tCB, tCons, tNil, tLst, tLstI, tTup, gName, tB, tAnd, tOr, tNot, tAndV, tOrV, tNotV, tIf, tNext, tBreak, tCont, gSub, tCall, tCallN, tAug, ipI, tBML, tBML0, isL_IL, isL_lst, L2.start, List.map_cons, List.map_nil, List.length_cons, List.length_nil, List.cons_append, List.nil_append, List.getElem?_cons_succ, List.getElem?_cons_zero, Option.some.injEq, exists_eq_left', exists_eq_left, exists_and_left, V.int.injEq, V.ref.injEq, V.bl.injEq, V.str.injEq, List.set_cons_zero, List.set_cons_succ, List.cons.injEq, and_true, true_and, Nat.reduceAdd, Nat.reduceSub, List.replicate_succ, List.replicate_zero, rIxI, rIxH, rIxTH, rSetI, rSetH, rCatI, rRepI, rSlI, rAppendI, rExtendI, decide_eq_true_eq, upd_same, IL_inj, HO.lst.injEq, toInts_cons, toInts_nil, Option.map_some, if_true, if_false, Bool.true_eq_false, Bool.false_eq_true, Bool.not_true, Bool.not_false, Bool.not_eq_true', decide_eq_false_iff_not, atI_0, atI_1, atI_2, atI_3, atI_4, Int.reduceToNat, Int.reduceLT, Int.reduceLE, Int.reduceNeg, Int.reducePow, cast_lit, upd_upd, Int.reduceAdd, Int.reduceMul, Int.reduceSub, Nat.reduceLT, Nat.reduceLeDiff, cmul_r, cdiv_r, tSl, tPart, tNoPart, rEq, rNe, scal_nn, scal_ii, scal_bb, scal_ss, scal_is, scal_si, V.ty.injEq, and_assoc, tyH_non, tyH_bl, tyH_int, tyH_str, tyH_ref, tyO_lst, tyO_IL, tyO_tup, itO_lst, itO_tup, itO_IL, Dw.rIxD, rLenI, rLenH, rLenTH, rLenQ, rLenB, rListI, Dw.rListS, rIntI, rIntB, rSumI, rIsiD, rIsX, tCallS, tMakeS, tMake, tMakeC, tMakeSC, tFld, sFld, HO.ins.injEq, HO.tup.injEq, cxOf_K, nox_K, tr_K, suite_K, rTupleI, rAllB, rAnyB, BL_inj, tChain, wOnly, wAs, wMany, rEqI, rNeI, Dw.rMax2, rMin2, Dw.rIsN, rIsNotN, rStrIn, rStrNotIn, not_true_eq_false, not_false_eq_true, reduceCtorEq, cl_bool, cl_int, cl_str, cl_list, cl_tuple, isB_NoneType_bool, isB_NoneType_int, isB_NoneType_str, isB_NoneType_list, isB_NoneType_tuple, isB_bool_bool, isB_bool_int, isB_bool_str, isB_bool_list, isB_bool_tuple, isB_int_bool, isB_int_int, isB_int_str, isB_int_list, isB_int_tuple, isB_str_bool, isB_str_int, isB_str_str, isB_str_list, isB_str_tuple, isB_list_bool, isB_list_int, isB_list_str, isB_list_list, isB_list_tuple, isB_tuple_bool, isB_tuple_int, isB_tuple_str, isB_tuple_list, isB_tuple_tuple, Dw.rIxL, rListTI, tMakeK, rTupT, tPar, Dw.rSlCI, rIsB, e1, cp]
    by_cases c1 : (1000000000000000000 : Int) ≤ c
    · rw [if_pos c1]
      by_cases c2 : 0 < left
      · rw [if_pos c2]
        exact ⟨hz, fin _ _ _ (by omega) (by omega)⟩
      · rw [if_neg c2]
        exact ⟨cm1 _, cm2 _, cm3, hz, fin _ _ _ (by omega) (by omega)⟩
    · rw [if_neg c1]
      exact ⟨cm1 _, cm2 _, cm3, hz, fin _ _ _ (by omega) (by omega)⟩
  · intro σ H' h
    rw [hI] at h
    obtain ⟨s1, ns, left, y, z, e1, hl, hd, rfl⟩ := h
    try simp only [tSeq, tAsg, tVar, tC, tOp, rI0, rI, tUn, rU, tIfS, tTest, tRet, tRetN, tDrop, tCB, tCons, tNil, tLst, tLstI, tTup, gName, tB, tAnd, tOr, tNot, tAndV, tOrV, tNotV, tIf, tNext, tBreak, tCont, gSub, tCall, tCallN, tAug, ipI, tBML, tBML0, isL_IL, isL_lst, L2.start, List.map_cons, List.map_nil, List.length_cons, List.length_nil, List.cons_append, List.nil_append, List.getElem?_cons_succ, List.getElem?_cons_zero, Option.some.injEq, exists_eq_left', exists_eq_left, exists_and_left, V.int.injEq, V.ref.injEq, V.bl.injEq, V.str.injEq, List.set_cons_zero, List.set_cons_succ, List.cons.injEq, and_true, true_and, Nat.reduceAdd, Nat.reduceSub, List.replicate_succ, List.replicate_zero, rIxI, rIxH, rIxTH, rSetI, rSetH, rCatI, rRepI, rSlI, rAppendI, rExtendI, decide_eq_true_eq, upd_same, IL_inj, HO.lst.injEq, toInts_cons, toInts_nil, Option.map_some, if_true, if_false, Bool.true_eq_false, Bool.false_eq_true, Bool.not_true, Bool.not_false, Bool.not_eq_true', decide_eq_false_iff_not, atI_0, atI_1, atI_2, atI_3, atI_4, Int.reduceToNat, Int.reduceLT, Int.reduceLE, Int.reduceNeg, Int.reducePow, cast_lit, upd_upd, Int.reduceAdd, Int.reduceMul, Int.reduceSub, Nat.reduceLT, Nat.reduceLeDiff, cmul_r, cdiv_r, tSl, tPart, tNoPart, rEq, rNe, scal_nn, scal_ii, scal_bb, scal_ss, scal_is, scal_si, V.ty.injEq, and_assoc, tyH_non, tyH_bl, tyH_int, tyH_str, tyH_ref, tyO_lst, tyO_IL, tyO_tup, itO_lst, itO_tup, itO_IL, Dw.rIxD, rLenI, rLenH, rLenTH, rLenQ, rLenB, rListI, Dw.rListS, rIntI, rIntB, rSumI, rIsiD, rIsX, tCallS, tMakeS, tMake, tMakeC, tMakeSC, tFld, sFld, HO.ins.injEq, HO.tup.injEq, cxOf_K, nox_K, tr_K, suite_K, rTupleI, rAllB, rAnyB, BL_inj, tChain, wOnly, wAs, wMany, rEqI, rNeI, Dw.rMax2, rMin2, Dw.rIsN, rIsNotN, rStrIn, rStrNotIn, not_true_eq_false, not_false_eq_true, reduceCtorEq, cl_bool, cl_int, cl_str, cl_list, cl_tuple, isB_NoneType_bool, isB_NoneType_int, isB_NoneType_str, isB_NoneType_list, isB_NoneType_tuple, isB_bool_bool, isB_bool_int, isB_bool_str, isB_bool_list, isB_bool_tuple, isB_int_bool, isB_int_int, isB_int_str, isB_int_list, isB_int_tuple, isB_str_bool, isB_str_int, isB_str_str, isB_str_list, isB_str_tuple, isB_list_bool, isB_list_int, isB_list_str, isB_list_list, isB_list_tuple, isB_tuple_bool, isB_tuple_int, isB_tuple_str, isB_tuple_list, isB_tuple_tuple, Dw.rIxL, rListTI, tMakeK, rTupT, tPar, Dw.rSlCI, rIsB]
    exact k r ns H' s1 hr0 e1 (by omega) hd
end
section
variable {P : Program} {w : World} {K : PySem.W.Frag} {mg : Str → Option Value} {base : Heap} {A : Ad}
theorem ok_law_is_int (T : Tx K mg A) : FnOk P w K mg base CX0 1 A.f_law_is_int A.d_law_is_int ["x"] spIsInt := by
  refine T.F_law_is_int.ok sc_law_is_int (fun vs H Q E h => ?_) (fun cdv A' outer s H vs Q E hr h => ?_)
  · obtain ⟨i, rfl, _⟩ := h
    rfl
  obtain ⟨i, rfl, k⟩ := h
  refine ⟨_, (pss_one (ps_ret (pe_and (pe_callB call_isiD (by rfl) T.z_isinstance (by decide +kernel) (pa_cons (pv 0) (pa_cons (pe_bltn (by rfl) T.z_int (v := .ty "int") (by decide +kernel) rfl) pa_nil))) (pe_one (pe_not (pe_callB call_isiD (by rfl) T.z_isinstance (by decide +kernel) (pa_cons (pv 0) (pa_cons (pe_bltn (by rfl) T.z_bool (v := .ty "bool") (by decide +kernel) rfl) pa_nil)))))))), ?_⟩
  try simp only [tSeq, tAsg, tVar, tC, tOp, rI0, rI, tUn, rU, tIfS, tTest, tRet, tRetN, tDrop, tCB, tCons, tNil, tLst, tLstI, tTup, gName, tB, tAnd, tOr, tNot, tAndV, tOrV, tNotV, tIf, tNext, tBreak, tCont, gSub, tCall, tCallN, tAug, ipI, tBML, tBML0, isL_IL, isL_lst, L2.start, List.map_cons, List.map_nil, List.length_cons, List.length_nil, List.cons_append, List.nil_append, List.getElem?_cons_succ, List.getElem?_cons_zero, Option.some.injEq, exists_eq_left', exists_eq_left, exists_and_left, V.int.injEq, V.ref.injEq, V.bl.injEq, V.str.injEq, List.set_cons_zero, List.set_cons_succ, List.cons.injEq, and_true, true_and, Nat.reduceAdd, Nat.reduceSub, List.replicate_succ, List.replicate_zero, rIxI, rIxH, rIxTH, rSetI, rSetH, rCatI, rRepI, rSlI, rAppendI, rExtendI, decide_eq_true_eq, upd_same, IL_inj, HO.lst.injEq, toInts_cons, toInts_nil, Option.map_some, if_true, if_false, Bool.true_eq_false, Bool.false_eq_true, Bool.not_true, Bool.not_false, Bool.not_eq_true', decide_eq_false_iff_not, atI_0, atI_1, atI_2, atI_3, atI_4, Int.reduceToNat, Int.reduceLT, Int.reduceLE, Int.reduceNeg, Int.reducePow, cast_lit, upd_upd, Int.reduceAdd, Int.reduceMul, Int.reduceSub, Nat.reduceLT, Nat.reduceLeDiff, cmul_r, cdiv_r, tSl, tPart, tNoPart, rEq, rNe, scal_nn, scal_ii, scal_bb, scal_ss, scal_is, scal_si, V.ty.injEq, and_assoc, tyH_non, tyH_bl, tyH_int, tyH_str, tyH_ref, tyO_lst, tyO_IL, tyO_tup, itO_lst, itO_tup, itO_IL, Dw.rIxD, rLenI, rLenH, rLenTH, rLenQ, rLenB, rListI, Dw.rListS, rIntI, rIntB, rSumI, rIsiD, rIsX, tCallS, tMakeS, tMake, tMakeC, tMakeSC, tFld, sFld, HO.ins.injEq, HO.tup.injEq, cxOf_K, nox_K, tr_K, suite_K, rTupleI, rAllB, rAnyB, BL_inj, tChain, wOnly, wAs, wMany, rEqI, rNeI, Dw.rMax2, rMin2, Dw.rIsN, rIsNotN, rStrIn, rStrNotIn, not_true_eq_false, not_false_eq_true, reduceCtorEq, cl_bool, cl_int, cl_str, cl_list, cl_tuple, isB_NoneType_bool, isB_NoneType_int, isB_NoneType_str, isB_NoneType_list, isB_NoneType_tuple, isB_bool_bool, isB_bool_int, isB_bool_str, isB_bool_list, isB_bool_tuple, isB_int_bool, isB_int_int, isB_int_str, isB_int_list, isB_int_tuple, isB_str_bool, isB_str_int, isB_str_str, isB_str_list, isB_str_tuple, isB_list_bool, isB_list_int, isB_list_str, isB_list_list, isB_list_tuple, isB_tuple_bool, isB_tuple_int, isB_tuple_str, isB_tuple_list, isB_tuple_tuple, Dw.rIxL, rListTI, tMakeK, rTupT, tPar, Dw.rSlCI, rIsB]
  exact k
theorem ok_law_ints (T : Tx K mg A) : FnOk P w K mg base CX0 2 A.f_law_ints A.d_law_ints ["x", "kind"] spInts := by
  refine T.F_law_ints.ok sc_law_ints (fun vs H Q E h => ?_) (fun cdv A' outer s H vs Q E hr h => ?_)
  · obtain ⟨p, ns, ⟨rfl, _⟩ | ⟨rfl, _⟩, _⟩ := h <;> rfl
  refine ⟨_, (pss_cons (ps_if (pt_cmpR op_eq (pv 1) pe_str (nomark _)) (pss_one (ps_if (pt_not (pt_val (pe_callB call_isiD (by rfl) T.z_isinstance (by decide +kernel) (pa_cons (pv 0) (pa_cons (pe_bltn (by rfl) T.z_list (v := .ty "list") (by decide +kernel) rfl) pa_nil))))) (pss_one (ps_ret pe_bl)) pss_nil)) (pss_one (ps_if (pt_not (pt_val (pe_callB call_isiD (by rfl) T.z_isinstance (by decide +kernel) (pa_cons (pv 0) (pa_cons (pe_bltn (by rfl) T.z_tuple (v := .ty "tuple") (by decide +kernel) rfl) pa_nil))))) (pss_one (ps_ret pe_bl)) pss_nil)))
      (pss_cons (ps_for PassesOwn.never rfl (pi_range1 rfl T.z_range (pa_cons (pe_callB call_lenB (by rfl) T.z_len (by decide +kernel) (pa_cons (pv 0) pa_nil)) pa_nil)) (pg_name (i := 2) sc_law_ints.nd rfl (Or.inl rfl))
        (pss_one (ps_if (pt_not (pt_val (pe_call (ok_law_is_int T) (hr.mono (by decide)) rfl T.g_law_is_int T.F_law_is_int.kp T.b_law_is_int .nil pass0 (pa_cons (pe_ix ix_seqD (pv 0) (pv 2) (fun _ _ => rfl)) pa_nil)))) (pss_one (ps_ret pe_bl)) pss_nil)))
      (pss_one (ps_ret pe_bl)))), ?_⟩
  obtain ⟨p, ns, h, k⟩ := h
  obtain ⟨kd, hv, hi, hc⟩ : ∃ kd : Str, vs = [.ref p, .str kd] ∧ itO (H p) = some (ns.map V.int) ∧ ((kd = "list" ∧ tyH H (.ref p) = some "list") ∨ (kd = "tuple" ∧ tyH H (.ref p) = some "tuple")) := by
    rcases h with ⟨e, h⟩ | ⟨e, h⟩
    · exact ⟨_, e, by rw [h]; rfl, .inl ⟨rfl, by rw [tyH_ref, h]; rfl⟩⟩
    · exact ⟨_, e, by rw [h]; rfl, .inr ⟨rfl, by rw [tyH_ref, h]; rfl⟩⟩
  subst hv
  have ne : ¬ ("tuple" : Str) = "list" := by decide +kernel
  obtain ⟨I, hI⟩ : ∃ F : Nat → L2.St → Hp → Prop, F = (fun i σ H' => H' = H ∧ ∃ y, σ = [some (.ref p), some (.str kd), y]) := ⟨_, rfl⟩
  have go : tFor (iRng1 (tCons (tCB rLenB (tCons (tVar 0) tNil)) tNil)) (gName 2) (tIfS (tNot (tB (tCall spIsInt [] E0 (tCons (tOp rIxD (tVar 0) (tVar 2)) tNil)))) (tRet (tC (.bl false))) tNext) { nx := tRet (tC (.bl true)) { nx := fun x H' => Q V.non H', rt := Q }, rt := Q } [some (.ref p), some (.str kd), none] H := by
    refine ⟨_, rfl, p, _, rfl, hi, fun hz => ⟨_, rfl, by omega, by omega, for_range (lo := 0) (n := (((ns.map V.int).length : Nat) : Int).toNat) I (by rw [hI]; exact ⟨rfl, none, rfl⟩) ?_ ?_⟩⟩
    · intro i σ H' hi' h
      rw [hI] at h
      obtain ⟨rfl, y, rfl⟩ := h
      rw [List.length_map] at hi'
      have g : (ns.map V.int)[i]? = some (.int (ns.getD i 0)) := by
        rw [List.getElem?_map, List.getD_eq_getElem?_getD, List.getElem?_eq_getElem (by omega)]
        rfl
      have e0 : (0 : Int) + (i : Int) = ((i : Nat) : Int) := by omega
      rw [e0]
      try simp only [tSeq, tAsg, tVar, tC, tOp, rI0, rI, tUn, rU, tIfS, tTest, tRet, tRetN, tDrop, tCB, tCons, tNil, tLst, tLstI, tTup, gName, tB, tAnd, tOr, tNot, tAndV, tOrV, tNotV, tIf, tNext, tBreak, tCont, gSub, tCall, tCallN, tAug, ipI, tBML, tBML0, isL_IL, isL_lst, L2.start, List.map_cons, List.map_nil, List.length_cons, List.length_nil, List.cons_append, List.nil_append, List.getElem?_cons_succ, List.getElem?_cons_zero, Option.some.injEq, exists_eq_left', exists_eq_left, exists_and_left, V.int.injEq, V.ref.injEq, V.bl.injEq, V.str.injEq, List.set_cons_zero, List.set_cons_succ, List.cons.injEq, and_true, true_and, Nat.reduceAdd, Nat.reduceSub, List.replicate_succ, List.replicate_zero, rIxI, rIxH, rIxTH, rSetI, rSetH, rCatI, rRepI, rSlI, rAppendI, rExtendI, decide_eq_true_eq, upd_same, IL_inj, HO.lst.injEq, toInts_cons, toInts_nil, Option.map_some, if_true, if_false, Bool.true_eq_false, Bool.false_eq_true, Bool.not_true, Bool.not_false, Bool.not_eq_true', decide_eq_false_iff_not, atI_0, atI_1, atI_2, atI_3, atI_4, Int.reduceToNat, Int.reduceLT, Int.reduceLE, Int.reduceNeg, Int.reducePow, cast_lit, upd_upd, Int.reduceAdd, Int.reduceMul, Int.reduceSub, Nat.reduceLT, Nat.reduceLeDiff, cmul_r, cdiv_r, tSl, tPart, tNoPart, rEq, rNe, scal_nn, scal_ii, scal_bb, scal_ss, scal_is, scal_si, V.ty.injEq, and_assoc, tyH_non, tyH_bl, tyH_int, tyH_str, tyH_ref, tyO_lst, tyO_IL, tyO_tup, itO_lst, itO_tup, itO_IL, Dw.rIxD, rLenI, rLenH, rLenTH, rLenQ, rLenB, rListI, Dw.rListS, rIntI, rIntB, rSumI, rIsiD, rIsX, tCallS, tMakeS, tMake, tMakeC, tMakeSC, tFld, sFld, HO.ins.injEq, HO.tup.injEq, cxOf_K, nox_K, tr_K, suite_K, rTupleI, rAllB, rAnyB, BL_inj, tChain, wOnly, wAs, wMany, rEqI, rNeI, Dw.rMax2, rMin2, Dw.rIsN, rIsNotN, rStrIn, rStrNotIn, not_true_eq_false, not_false_eq_true, reduceCtorEq, cl_bool, cl_int, cl_str, cl_list, cl_tuple, isB_NoneType_bool, isB_NoneType_int, isB_NoneType_str, isB_NoneType_list, isB_NoneType_tuple, isB_bool_bool, isB_bool_int, isB_bool_str, isB_bool_list, isB_bool_tuple, isB_int_bool, isB_int_int, isB_int_str, isB_int_list, isB_int_tuple, isB_str_bool, isB_str_int, isB_str_str, isB_str_list, isB_str_tuple, isB_list_bool, isB_list_int, isB_list_str, isB_list_list, isB_list_tuple, isB_tuple_bool, isB_tuple_int, isB_tuple_str, isB_tuple_list, isB_tuple_tuple, Dw.rIxL, rListTI, tMakeK, rTupT, tPar, Dw.rSlCI, rIsB, hi, atI_k, g, spIsInt]
      rw [hI]
      exact ⟨rfl, _, rfl⟩
    · intro σ H' h
      rw [hI] at h
      obtain ⟨rfl, y, rfl⟩ := h
      try simp only [tSeq, tAsg, tVar, tC, tOp, rI0, rI, tUn, rU, tIfS, tTest, tRet, tRetN, tDrop, tCB, tCons, tNil, tLst, tLstI, tTup, gName, tB, tAnd, tOr, tNot, tAndV, tOrV, tNotV, tIf, tNext, tBreak, tCont, gSub, tCall, tCallN, tAug, ipI, tBML, tBML0, isL_IL, isL_lst, L2.start, List.map_cons, List.map_nil, List.length_cons, List.length_nil, List.cons_append, List.nil_append, List.getElem?_cons_succ, List.getElem?_cons_zero, Option.some.injEq, exists_eq_left', exists_eq_left, exists_and_left, V.int.injEq, V.ref.injEq, V.bl.injEq, V.str.injEq, List.set_cons_zero, List.set_cons_succ, List.cons.injEq, and_true, true_and, Nat.reduceAdd, Nat.reduceSub, List.replicate_succ, List.replicate_zero, rIxI, rIxH, rIxTH, rSetI, rSetH, rCatI, rRepI, rSlI, rAppendI, rExtendI, decide_eq_true_eq, upd_same, IL_inj, HO.lst.injEq, toInts_cons, toInts_nil, Option.map_some, if_true, if_false, Bool.true_eq_false, Bool.false_eq_true, Bool.not_true, Bool.not_false, Bool.not_eq_true', decide_eq_false_iff_not, atI_0, atI_1, atI_2, atI_3, atI_4, Int.reduceToNat, Int.reduceLT, Int.reduceLE, Int.reduceNeg, Int.reducePow, cast_lit, upd_upd, Int.reduceAdd, Int.reduceMul, Int.reduceSub, Nat.reduceLT, Nat.reduceLeDiff, cmul_r, cdiv_r, tSl, tPart, tNoPart, rEq, rNe, scal_nn, scal_ii, scal_bb, scal_ss, scal_is, scal_si, V.ty.injEq, and_assoc, tyH_non, tyH_bl, tyH_int, tyH_str, tyH_ref, tyO_lst, tyO_IL, tyO_tup, itO_lst, itO_tup, itO_IL, Dw.rIxD, rLenI, rLenH, rLenTH, rLenQ, rLenB, rListI, Dw.rListS, rIntI, rIntB, rSumI, rIsiD, rIsX, tCallS, tMakeS, tMake, tMakeC, tMakeSC, tFld, sFld, HO.ins.injEq, HO.tup.injEq, cxOf_K, nox_K, tr_K, suite_K, rTupleI, rAllB, rAnyB, BL_inj, tChain, wOnly, wAs, wMany, rEqI, rNeI, Dw.rMax2, rMin2, Dw.rIsN, rIsNotN, rStrIn, rStrNotIn, not_true_eq_false, not_false_eq_true, reduceCtorEq, cl_bool, cl_int, cl_str, cl_list, cl_tuple, isB_NoneType_bool, isB_NoneType_int, isB_NoneType_str, isB_NoneType_list, isB_NoneType_tuple, isB_bool_bool, isB_bool_int, isB_bool_str, isB_bool_list, isB_bool_tuple, isB_int_bool, isB_int_int, isB_int_str, isB_int_list, isB_int_tuple, isB_str_bool, isB_str_int, isB_str_str, isB_str_list, isB_str_tuple, isB_list_bool, isB_list_int, isB_list_str, isB_list_list, isB_list_tuple, isB_tuple_bool, isB_tuple_int, isB_tuple_str, isB_tuple_list, isB_tuple_tuple, Dw.rIxL, rListTI, tMakeK, rTupT, tPar, Dw.rSlCI, rIsB]
      exact k
  rcases hc with ⟨rfl, ht⟩ | ⟨rfl, ht⟩
  · rw [tyH_ref] at ht
    try simp only [tSeq, tAsg, tVar, tC, tOp, rI0, rI, tUn, rU, tIfS, tTest, tRet, tRetN, tDrop, tCB, tCons, tNil, tLst, tLstI, tTup, gName, tB, tAnd, tOr, tNot, tAndV, tOrV, tNotV, tIf, tNext, tBreak, tCont, gSub, tCall, tCallN, tAug, ipI, tBML, tBML0, isL_IL, isL_lst, L2.start, List.map_cons, List.map_nil, List.length_cons, List.length_nil, List.cons_append, List.nil_append, List.getElem?_cons_succ, List.getElem?_cons_zero, Option.some.injEq, exists_eq_left', exists_eq_left, exists_and_left, V.int.injEq, V.ref.injEq, V.bl.injEq, V.str.injEq, List.set_cons_zero, List.set_cons_succ, List.cons.injEq, and_true, true_and, Nat.reduceAdd, Nat.reduceSub, List.replicate_succ, List.replicate_zero, rIxI, rIxH, rIxTH, rSetI, rSetH, rCatI, rRepI, rSlI, rAppendI, rExtendI, decide_eq_true_eq, upd_same, IL_inj, HO.lst.injEq, toInts_cons, toInts_nil, Option.map_some, if_true, if_false, Bool.true_eq_false, Bool.false_eq_true, Bool.not_true, Bool.not_false, Bool.not_eq_true', decide_eq_false_iff_not, atI_0, atI_1, atI_2, atI_3, atI_4, Int.reduceToNat, Int.reduceLT, Int.reduceLE, Int.reduceNeg, Int.reducePow, cast_lit, upd_upd, Int.reduceAdd, Int.reduceMul, Int.reduceSub, Nat.reduceLT, Nat.reduceLeDiff, cmul_r, cdiv_r, tSl, tPart, tNoPart, rEq, rNe, scal_nn, scal_ii, scal_bb, scal_ss, scal_is, scal_si, V.ty.injEq, and_assoc, tyH_non, tyH_bl, tyH_int, tyH_str, tyH_ref, tyO_lst, tyO_IL, tyO_tup, itO_lst, itO_tup, itO_IL, Dw.rIxD, rLenI, rLenH, rLenTH, rLenQ, rLenB, rListI, Dw.rListS, rIntI, rIntB, rSumI, rIsiD, rIsX, tCallS, tMakeS, tMake, tMakeC, tMakeSC, tFld, sFld, HO.ins.injEq, HO.tup.injEq, cxOf_K, nox_K, tr_K, suite_K, rTupleI, rAllB, rAnyB, BL_inj, tChain, wOnly, wAs, wMany, rEqI, rNeI, Dw.rMax2, rMin2, Dw.rIsN, rIsNotN, rStrIn, rStrNotIn, not_true_eq_false, not_false_eq_true, reduceCtorEq, cl_bool, cl_int, cl_str, cl_list, cl_tuple, isB_NoneType_bool, isB_NoneType_int, isB_NoneType_str, isB_NoneType_list, isB_NoneType_tuple, isB_bool_bool, isB_bool_int, isB_bool_str, isB_bool_list, isB_bool_tuple, isB_int_bool, isB_int_int, isB_int_str, isB_int_list, isB_int_tuple, isB_str_bool, isB_str_int, isB_str_str, isB_str_list, isB_str_tuple, isB_list_bool, isB_list_int, isB_list_str, isB_list_list, isB_list_tuple, isB_tuple_bool, isB_tuple_int, isB_tuple_str, isB_tuple_list, isB_tuple_tuple, Dw.rIxL, rListTI, tMakeK, rTupT, tPar, Dw.rSlCI, rIsB, ht, decide_true]
    exact go
  · rw [tyH_ref] at ht
    try simp only [tSeq, tAsg, tVar, tC, tOp, rI0, rI, tUn, rU, tIfS, tTest, tRet, tRetN, tDrop, tCB, tCons, tNil, tLst, tLstI, tTup, gName, tB, tAnd, tOr, tNot, tAndV, tOrV, tNotV, tIf, tNext, tBreak, tCont, gSub, tCall, tCallN, tAug, ipI, tBML, tBML0, isL_IL, isL_lst, L2.start, List.map_cons, List.map_nil, List.length_cons, List.length_nil, List.cons_append, List.nil_append, List.getElem?_cons_succ, List.getElem?_cons_zero, Option.some.injEq, exists_eq_left', exists_eq_left, exists_and_left, V.int.injEq, V.ref.injEq, V.bl.injEq, V.str.injEq, List.set_cons_zero, List.set_cons_succ, List.cons.injEq, and_true, true_and, Nat.reduceAdd, Nat.reduceSub, List.replicate_succ, List.replicate_zero, rIxI, rIxH, rIxTH, rSetI, rSetH, rCatI, rRepI, rSlI, rAppendI, rExtendI, decide_eq_true_eq, upd_same, IL_inj, HO.lst.injEq, toInts_cons, toInts_nil, Option.map_some, if_true, if_false, Bool.true_eq_false, Bool.false_eq_true, Bool.not_true, Bool.not_false, Bool.not_eq_true', decide_eq_false_iff_not, atI_0, atI_1, atI_2, atI_3, atI_4, Int.reduceToNat, Int.reduceLT, Int.reduceLE, Int.reduceNeg, Int.reducePow, cast_lit, upd_upd, Int.reduceAdd, Int.reduceMul, Int.reduceSub, Nat.reduceLT, Nat.reduceLeDiff, cmul_r, cdiv_r, tSl, tPart, tNoPart, rEq, rNe, scal_nn, scal_ii, scal_bb, scal_ss, scal_is, scal_si, V.ty.injEq, and_assoc, tyH_non, tyH_bl, tyH_int, tyH_str, tyH_ref, tyO_lst, tyO_IL, tyO_tup, itO_lst, itO_tup, itO_IL, Dw.rIxD, rLenI, rLenH, rLenTH, rLenQ, rLenB, rListI, Dw.rListS, rIntI, rIntB, rSumI, rIsiD, rIsX, tCallS, tMakeS, tMake, tMakeC, tMakeSC, tFld, sFld, HO.ins.injEq, HO.tup.injEq, cxOf_K, nox_K, tr_K, suite_K, rTupleI, rAllB, rAnyB, BL_inj, tChain, wOnly, wAs, wMany, rEqI, rNeI, Dw.rMax2, rMin2, Dw.rIsN, rIsNotN, rStrIn, rStrNotIn, not_true_eq_false, not_false_eq_true, reduceCtorEq, cl_bool, cl_int, cl_str, cl_list, cl_tuple, isB_NoneType_bool, isB_NoneType_int, isB_NoneType_str, isB_NoneType_list, isB_NoneType_tuple, isB_bool_bool, isB_bool_int, isB_bool_str, isB_bool_list, isB_bool_tuple, isB_int_bool, isB_int_int, isB_int_str, isB_int_list, isB_int_tuple, isB_str_bool, isB_str_int, isB_str_str, isB_str_list, isB_str_tuple, isB_list_bool, isB_list_int, isB_list_str, isB_list_list, isB_list_tuple, isB_tuple_bool, isB_tuple_int, isB_tuple_str, isB_tuple_list, isB_tuple_tuple, Dw.rIxL, rListTI, tMakeK, rTupT, tPar, Dw.rSlCI, rIsB, ht, ne]
    exact go
end
section
variable {P : Program} {w : World} {K : PySem.W.Frag} {mg : Str → Option Value} {base : Heap} {A : Ad}
theorem ok_law_is_tuple (T : Tx K mg A) : FnOk P w K mg base CX0 3 A.f_law_is_tuple A.d_law_is_tuple ["x", "due"] spIsTuple := by
  refine T.F_law_is_tuple.ok sc_law_is_tuple (fun vs H Q E h => ?_) (fun cdv A' outer s H vs Q E hr h => ?_)
  · obtain ⟨p, u, ns, rfl, _⟩ := h
    rfl
  obtain ⟨p, u, ns, rfl, h1, h2, k⟩ := h
  refine ⟨_, (pss_one (ps_ret (pe_and (pe_call (ok_law_ints T) (hr.mono (by decide)) rfl T.g_law_ints T.F_law_ints.kp T.b_law_ints .nil pass0 (pa_cons (pv 0) (pa_cons pe_str pa_nil))) (pe_one (pe_cmpR (op_eqD hr.units) (pv 0) (pv 1) (nomark _)))))), ?_⟩
  refine ⟨_, rfl, p, ns, .inr ⟨rfl, h1⟩, true, rfl, ?_⟩
  have d1 : Dp K H (.ref p) (.tuple (ns.map PyData.int)) := .tup (.of h1) (dp_ints ns)
  have d2 : Dp K H (.ref u) (.tuple (ns.map PyData.int)) := .tup (.of h2) (dp_ints ns)
  have sh : SeqAt.shaped (.tuple (ns.map PyData.int)) = true := shaped_ints ns
  rw [if_pos rfl]
  refine ⟨_, rfl, _, rfl, _, _, d1, d2, sh, sh, ?_⟩
  rw [PyData.eqv, eqvAll_ints, decide_eq_true rfl]
  exact k
end
section
variable {P : Program} {w : World} {K : PySem.W.Frag} {mg : Str → Option Value} {base : Heap} {A : Ad}
def spLData : Sp := fun vs H Q _ => ∃ (r : Addr) (ns : List Int) (at0 cnt : Int), vs = [.ref r, .int at0, .int cnt] ∧ H r = some (IL ns) ∧ D12 ns ∧ 0 < ns.length ∧ ns.length ≤ 1000 ∧ 0 ≤ at0 ∧ 0 ≤ cnt ∧ cnt ≤ 10000 ∧ ∀ u o H', Same H H' → H u = none → H' u = some (IL o) → Bytes o → (o.length : Int) = cnt → Q (.ref u) H'
theorem ok_law_data (T : Tx K mg A) : FnOk P w K mg base CX0 1 A.f_law_data A.d_law_data ["draws", "at", "count"] spLData := by
  refine T.F_law_data.ok sc_law_data (fun vs H Q E h => ?_) (fun cdv A' outer s H vs Q E hr h => ?_)
  · obtain ⟨r, ns, at0, cnt, rfl, _⟩ := h
    rfl
  obtain ⟨r, ns, at0, cnt, rfl, hR, hd, hn0, hn1, ha, hc0, hc1, k⟩ := h
  refine ⟨_, (pss_cons (ps_if (pt_cmpR op_eq (pe_op op_mod (pe_ix ix_listI (pv 0) (pe_op op_mod (pv 1) (pe_callB call_lenI (by rfl) T.z_len (by decide +kernel) (pa_cons (pv 0) pa_nil))) (fun _ _ => rfl)) pe_int) pe_int (nomark _)) (pss_one (ps_ret (pe_op op_repI (pe_lstI (pa_cons (pe_op op_mod (pe_ix ix_listI (pv 0) (pe_op op_mod (pe_op op_add (pv 1) pe_int) (pe_callB call_lenI (by rfl) T.z_len (by decide +kernel) (pa_cons (pv 0) pa_nil))) (fun _ _ => rfl)) pe_int) pa_nil)) (pv 2)))) pss_nil)
      (pss_one (ps_ret (pe_lc (own := [("k", 3)]) (g := (gName 3)) (tt := tYes) rfl sc_law_data.nd (pi_range1 rfl T.z_range (pa_cons (pv 2) pa_nil)) (blkOk_by (N := n_law_data) (sc := (defScope s_law_data)) (by decide +kernel)) (fun _ _ _ _ _ => (pg_name (i := 3) sc_law_data.nd rfl (Or.inl rfl))) (fun _ _ _ _ _ => pts_nil) (fun _ _ _ _ _ => (pe_op op_mod (pe_op op_fdiv (pe_ix ix_listI (pv 0) (pe_op op_mod (pe_op op_add (pe_op op_add (pv 1) pe_int) (pv 3)) (pe_callB call_lenI (by rfl) T.z_len (by decide +kernel) (pa_cons (pv 0) pa_nil))) (fun _ _ => rfl)) (pe_op op_add pe_int (pe_op op_fdiv (pv 3) (pe_callB call_lenI (by rfl) T.z_len (by decide +kernel) (pa_cons (pv 0) pa_nil))))) pe_int)))))), ?_⟩
  have hpos : (0 : Int) < (ns.length : Int) := by omega
  try simp only [tSeq, tAsg, tVar, tC, tOp, rI0, rI, tUn, rU, tIfS, tTest, tRet, tRetN, tDrop, tCB, tCons, tNil, tLst, tLstI, tTup, gName, tB, tAnd, tOr, tNot, tAndV, tOrV, tNotV, tIf, tNext, tBreak, tCont, gSub, tCall, tCallN, tAug, ipI, tBML, tBML0, isL_IL, isL_lst, L2.start, List.map_cons, List.map_nil, List.length_cons, List.length_nil, List.cons_append, List.nil_append, List.getElem?_cons_succ, List.getElem?_cons_zero, Option.some.injEq, exists_eq_left', exists_eq_left, exists_and_left, V.int.injEq, V.ref.injEq, V.bl.injEq, V.str.injEq, List.set_cons_zero, List.set_cons_succ, List.cons.injEq, and_true, true_and, Nat.reduceAdd, Nat.reduceSub, List.replicate_succ, List.replicate_zero, rIxI, rIxH, rIxTH, rSetI, rSetH, rCatI, rRepI, rSlI, rAppendI, rExtendI, decide_eq_true_eq, upd_same, IL_inj, HO.lst.injEq, toInts_cons, toInts_nil, Option.map_some, if_true, if_false, Bool.true_eq_false, Bool.false_eq_true, Bool.not_true, Bool.not_false, Bool.not_eq_true', decide_eq_false_iff_not, atI_0, atI_1, atI_2, atI_3, atI_4, Int.reduceToNat, Int.reduceLT, Int.reduceLE, Int.reduceNeg, Int.reducePow, cast_lit, upd_upd, Int.reduceAdd, Int.reduceMul, Int.reduceSub, Nat.reduceLT, Nat.reduceLeDiff, cmul_r, cdiv_r, tSl, tPart, tNoPart, rEq, rNe, scal_nn, scal_ii, scal_bb, scal_ss, scal_is, scal_si, V.ty.injEq, and_assoc, tyH_non, tyH_bl, tyH_int, tyH_str, tyH_ref, tyO_lst, tyO_IL, tyO_tup, itO_lst, itO_tup, itO_IL, Dw.rIxD, rLenI, rLenH, rLenTH, rLenQ, rLenB, rListI, Dw.rListS, rIntI, rIntB, rSumI, rIsiD, rIsX, tCallS, tMakeS, tMake, tMakeC, tMakeSC, tFld, sFld, HO.ins.injEq, HO.tup.injEq, cxOf_K, nox_K, tr_K, suite_K, rTupleI, rAllB, rAnyB, BL_inj, tChain, wOnly, wAs, wMany, rEqI, rNeI, Dw.rMax2, rMin2, Dw.rIsN, rIsNotN, rStrIn, rStrNotIn, not_true_eq_false, not_false_eq_true, reduceCtorEq, cl_bool, cl_int, cl_str, cl_list, cl_tuple, isB_NoneType_bool, isB_NoneType_int, isB_NoneType_str, isB_NoneType_list, isB_NoneType_tuple, isB_bool_bool, isB_bool_int, isB_bool_str, isB_bool_list, isB_bool_tuple, isB_int_bool, isB_int_int, isB_int_str, isB_int_list, isB_int_tuple, isB_str_bool, isB_str_int, isB_str_str, isB_str_list, isB_str_tuple, isB_list_bool, isB_list_int, isB_list_str, isB_list_list, isB_list_tuple, isB_tuple_bool, isB_tuple_int, isB_tuple_str, isB_tuple_list, isB_tuple_tuple, rSlCI, iRng3, iRev, gCons, gNil, iZip, iEnum, tLc_eq, tFor_eq, iRng1, iRng2, iList, iTup, rSetD, iKeys, tDNewK, Int.reducePow, Int.reduceNeg, Dw.rIxL, rListTI, tMakeK, rTupT, tPar, Dw.rSlCI, rIsB, hR, hpos]
  have hmod : ∀ z : Int, 0 ≤ z % (ns.length : Int) ∧ z % (ns.length : Int) < (ns.length : Int) := fun z => ⟨Int.emod_nonneg _ (by omega), Int.emod_lt_of_pos _ hpos⟩
  have gd : ∀ z : Int, 0 ≤ ns.getD (z % (ns.length : Int)).toNat 0 ∧ ns.getD (z % (ns.length : Int)).toNat 0 < 4096 := fun z => hd.get (by have := hmod z; omega)
  refine ⟨(hmod _).1, (hmod _).2, ?_⟩
  by_cases c : ns.getD (at0 % (ns.length : Int)).toNat 0 % 4 = 1
  · rw [if_pos c]
    refine ⟨(hmod _).1, (hmod _).2, line_le (by decide), fun u1 hu1 => ⟨by omega, by omega, line_le (by show 1 * _ ≤ _; omega), fun u2 hu2 => ?_⟩⟩
    rw [rep_one]
    refine k u2 _ _ ((same_new hu1 _).trans (same_new hu2 _)) (same_none (same_new hu1 _) hu2) upd_same (bytes_rep ⟨Int.emod_nonneg _ (by decide), Int.emod_lt_of_pos _ (by decide)⟩) ?_
    rw [List.length_replicate]
    omega
  · rw [if_neg c]
    refine ⟨by omega, by omega, fun D hD => ?_⟩
    refine lc_rangeP (R := fun v => 0 ≤ v ∧ v < 256) (by omega) hD (fun _ => rfl) ?_ fun o H2 ol oR s2 e2 => ?_
    · intro i H3 Q' hi s3 hq
      have hR3 := s3 _ _ hR
      have h1 := hmod (at0 + 1 + (0 + (i : Int)))
      have hdv : 0 ≤ (0 + (i : Int)) / (ns.length : Int) ∧ (0 + (i : Int)) / (ns.length : Int) ≤ 0 + (i : Int) := ⟨Int.ediv_nonneg (by omega) (by omega), Int.ediv_le_self _ (by omega)⟩
      have cd1 : CDiv (0 + (i : Int)) (ns.length : Int) := ⟨hpos, by omega⟩
      have cd2 : ∀ z, CDiv z (1 + (0 + (i : Int)) / (ns.length : Int)) := fun z => ⟨by omega, by omega⟩
      try simp only [tSeq, tAsg, tVar, tC, tOp, rI0, rI, tUn, rU, tIfS, tTest, tRet, tRetN, tDrop, tCB, tCons, tNil, tLst, tLstI, tTup, gName, tB, tAnd, tOr, tNot, tAndV, tOrV, tNotV, tIf, tNext, tBreak, tCont, gSub, tCall, tCallN, tAug, ipI, tBML, tBML0, isL_IL, isL_lst, L2.start, List.map_cons, List.map_nil, List.length_cons, List.length_nil, List.cons_append, List.nil_append, List.getElem?_cons_succ, List.getElem?_cons_zero, Option.some.injEq, exists_eq_left', exists_eq_left, exists_and_left, V.int.injEq, V.ref.injEq, V.bl.injEq, V.str.injEq, List.set_cons_zero, List.set_cons_succ, List.cons.injEq, and_true, true_and, Nat.reduceAdd, Nat.reduceSub, List.replicate_succ, List.replicate_zero, rIxI, rIxH, rIxTH, rSetI, rSetH, rCatI, rRepI, rSlI, rAppendI, rExtendI, decide_eq_true_eq, upd_same, IL_inj, HO.lst.injEq, toInts_cons, toInts_nil, Option.map_some, if_true, if_false, Bool.true_eq_false, Bool.false_eq_true, Bool.not_true, Bool.not_false, Bool.not_eq_true', decide_eq_false_iff_not, atI_0, atI_1, atI_2, atI_3, atI_4, Int.reduceToNat, Int.reduceLT, Int.reduceLE, Int.reduceNeg, Int.reducePow, cast_lit, upd_upd, Int.reduceAdd, Int.reduceMul, Int.reduceSub, Nat.reduceLT, Nat.reduceLeDiff, cmul_r, cdiv_r, tSl, tPart, tNoPart, rEq, rNe, scal_nn, scal_ii, scal_bb, scal_ss, scal_is, scal_si, V.ty.injEq, and_assoc, tyH_non, tyH_bl, tyH_int, tyH_str, tyH_ref, tyO_lst, tyO_IL, tyO_tup, itO_lst, itO_tup, itO_IL, Dw.rIxD, rLenI, rLenH, rLenTH, rLenQ, rLenB, rListI, Dw.rListS, rIntI, rIntB, rSumI, rIsiD, rIsX, tCallS, tMakeS, tMake, tMakeC, tMakeSC, tFld, sFld, HO.ins.injEq, HO.tup.injEq, cxOf_K, nox_K, tr_K, suite_K, rTupleI, rAllB, rAnyB, BL_inj, tChain, wOnly, wAs, wMany, rEqI, rNeI, Dw.rMax2, rMin2, Dw.rIsN, rIsNotN, rStrIn, rStrNotIn, not_true_eq_false, not_false_eq_true, reduceCtorEq, cl_bool, cl_int, cl_str, cl_list, cl_tuple, isB_NoneType_bool, isB_NoneType_int, isB_NoneType_str, isB_NoneType_list, isB_NoneType_tuple, isB_bool_bool, isB_bool_int, isB_bool_str, isB_bool_list, isB_bool_tuple, isB_int_bool, isB_int_int, isB_int_str, isB_int_list, isB_int_tuple, isB_str_bool, isB_str_int, isB_str_str, isB_str_list, isB_str_tuple, isB_list_bool, isB_list_int, isB_list_str, isB_list_list, isB_list_tuple, isB_tuple_bool, isB_tuple_int, isB_tuple_str, isB_tuple_list, isB_tuple_tuple, rSlCI, iRng3, iRev, gCons, gNil, iZip, iEnum, tLc_eq, tFor_eq, iRng1, iRng2, iList, iTup, rSetD, iKeys, tDNewK, Int.reducePow, Int.reduceNeg, Dw.rIxL, rListTI, tMakeK, rTupT, tPar, Dw.rSlCI, rIsB, wipe, hR3, hpos, cd1, cd2]
      exact ⟨h1.1, h1.2, hq _ _ ⟨Int.emod_nonneg _ (by decide), Int.emod_lt_of_pos _ (by decide)⟩ (.refl _)⟩
    · exact k D o H2 s2 hD e2 oR (by omega)
def spLSecs (K : PySem.W.Frag) : Sp := fun vs H Q _ => ∃ (r t : Addr) (ns : List Int) (at0 m x y : Int), vs = [.ref r, .int at0, .int m, .ref t] ∧ H r = some (IL ns) ∧ D12 ns ∧ 0 < ns.length ∧ ns.length ≤ 1000 ∧ 0 ≤ at0 ∧ 0 ≤ m ∧ m ≤ 100 ∧ H t = some (.tup [.int x, .int y]) ∧ 0 ≤ x ∧ x < 256 ∧ 0 ≤ y ∧ y < 256 ∧
  ∀ u xs ss H', Same H H' → H u = none → H' u = some (.lst xs) → AllAt (RawAt H') xs ss → (∀ s ∈ ss, OkSec s) → (ss.length : Int) = m → Q (.ref u) H'
theorem ok_law_sectors (T : Tx K mg A) : FnOk P w K mg base CX0 2 A.f_law_sectors A.d_law_sectors ["draws", "at", "many", "track"] (spLSecs K) := by
  refine T.F_law_sectors.ok sc_law_sectors (fun vs H Q E h => ?_) (fun cdv A' outer s H vs Q E hr h => ?_)
  · obtain ⟨r, t, ns, at0, m, x, y, rfl, _⟩ := h
    rfl
  obtain ⟨r, t, ns, at0, m, x, y, rfl, hR, hd, hn0, hn1, ha, hm0, hm1, hT, x0, x1, y0, y1, k⟩ := h
  refine ⟨_, (pss_cons (ps_set (i := 4) sc_law_sectors.nd rfl (Or.inl rfl) (pe_lstI pa_nil))
      (pss_cons (ps_for PassesOwn.never rfl (pi_range1 rfl T.z_range (pa_cons (pv 2) pa_nil)) (pg_name (i := 5) sc_law_sectors.nd rfl (Or.inl rfl))
        (pss_cons (ps_set (i := 6) sc_law_sectors.nd rfl (Or.inl rfl) (pe_ix ix_listI (pv 0) (pe_op op_mod (pe_op op_add (pv 1) (pe_op op_mul pe_int (pv 5))) (pe_callB call_lenI (by rfl) T.z_len (by decide +kernel) (pa_cons (pv 0) pa_nil))) (fun _ _ => rfl)))
      (pss_cons (ps_set (i := 7) sc_law_sectors.nd rfl (Or.inl rfl) (pe_ix ix_listI (pe_lstI (pa_cons pe_int (pa_cons pe_int (pa_cons pe_int (pa_cons pe_int pa_nil))))) (pe_op op_mod (pv 6) pe_int) (fun _ _ => rfl)))
      (pss_cons (ps_set (i := 8) sc_law_sectors.nd rfl (Or.inl rfl) (pe_tup (pa_cons (pe_ix ix_seqD (pv 3) pe_int (fun _ _ => rfl)) (pa_cons (pe_ix ix_seqD (pv 3) pe_int (fun _ _ => rfl)) (pa_cons (pe_op op_add pe_int (pe_op op_mod (pe_op op_fdiv (pv 6) pe_int) pe_int)) (pa_cons (pv 7) pa_nil))))))
      (C8.pss_cut (ps_if (pt_cmpR op_eq (pe_op op_mod (pe_op op_fdiv (pv 6) pe_int) pe_int) pe_int (nomark _)) (pss_one (ps_set (i := 8) sc_law_sectors.nd rfl (Or.inl rfl) (pe_tup (pa_cons (pe_op op_mod (pv 6) pe_int) (pa_cons (pe_op op_mod (pe_op op_fdiv (pv 6) pe_int) pe_int) (pa_cons (pe_op op_mod (pe_op op_fdiv (pv 6) pe_int) pe_int) (pa_cons (pv 7) pa_nil))))))) pss_nil)
      (pss_cons (ps_set (i := 9) sc_law_sectors.nd rfl (Or.inl rfl) (pe_call (ok_law_data T) (hr.mono (by decide)) rfl T.g_law_data T.F_law_data.kp T.b_law_data .nil pass0 (pa_cons (pv 0) (pa_cons (pe_op op_add (pe_op op_add (pv 1) (pe_op op_mul pe_int (pv 5))) pe_int) (pa_cons (pe_op op_mul pe_int (pe_op op_add pe_int (pv 7))) pa_nil)))))
      (C8.pss_cut (ps_if (pt_cmpR op_eq (pe_op op_mod (pe_op op_fdiv (pv 6) pe_int) pe_int) pe_int (nomark _)) (pss_one (ps_set (i := 9) sc_law_sectors.nd rfl (Or.inl rfl) pe_non)) pss_nil)
      (pss_one (ps_expr (PE.imp (pe_bm PySem.F.plainAttrs_list PySem.F.slot_list_append PySem.F.type_list_append mt_append (pv 4) (pa_cons (pe_tup (pa_cons (pv 8) (pa_cons (pv 9) (pa_cons (pe_cmpR op_eq (pe_op op_mod (pe_op op_fdiv (pv 6) pe_int) pe_int) pe_int (nomark _)) (pa_cons (pe_and (pe_cmpR op_notNone (pv 9) pe_non (nomark _)) (pe_one (pe_cmpR op_eq (pe_op op_mod (pe_op op_fdiv (pv 6) pe_int) pe_int) pe_int (nomark _)))) pa_nil))))) pa_nil)) bml_imp))))))))))
      (pss_one (ps_ret (pv 4))))), ?_⟩
  have hpos : (0 : Int) < (ns.length : Int) := by omega
  try simp only [tSeq, tAsg, tVar, tC, tOp, rI0, rI, tUn, rU, tIfS, tTest, tRet, tRetN, tDrop, tCB, tCons, tNil, tLst, tLstI, tTup, gName, tB, tAnd, tOr, tNot, tAndV, tOrV, tNotV, tIf, tNext, tBreak, tCont, gSub, tCall, tCallN, tAug, ipI, tBML, tBML0, isL_IL, isL_lst, L2.start, List.map_cons, List.map_nil, List.length_cons, List.length_nil, List.cons_append, List.nil_append, List.getElem?_cons_succ, List.getElem?_cons_zero, Option.some.injEq, exists_eq_left', exists_eq_left, exists_and_left, V.int.injEq, V.ref.injEq, V.bl.injEq, V.str.injEq, List.set_cons_zero, List.set_cons_succ, List.cons.injEq, and_true, true_and, Nat.reduceAdd, Nat.reduceSub, List.replicate_succ, List.replicate_zero, rIxI, rIxH, rIxTH, rSetI, rSetH, rCatI, rRepI, rSlI, rAppendI, rExtendI, decide_eq_true_eq, upd_same, IL_inj, HO.lst.injEq, toInts_cons, toInts_nil, Option.map_some, if_true, if_false, Bool.true_eq_false, Bool.false_eq_true, Bool.not_true, Bool.not_false, Bool.not_eq_true', decide_eq_false_iff_not, atI_0, atI_1, atI_2, atI_3, atI_4, Int.reduceToNat, Int.reduceLT, Int.reduceLE, Int.reduceNeg, Int.reducePow, cast_lit, upd_upd, Int.reduceAdd, Int.reduceMul, Int.reduceSub, Nat.reduceLT, Nat.reduceLeDiff, cmul_r, cdiv_r, tSl, tPart, tNoPart, rEq, rNe, scal_nn, scal_ii, scal_bb, scal_ss, scal_is, scal_si, V.ty.injEq, and_assoc, tyH_non, tyH_bl, tyH_int, tyH_str, tyH_ref, tyO_lst, tyO_IL, tyO_tup, itO_lst, itO_tup, itO_IL, Dw.rIxD, rLenI, rLenH, rLenTH, rLenQ, rLenB, rListI, Dw.rListS, rIntI, rIntB, rSumI, rIsiD, rIsX, tCallS, tMakeS, tMake, tMakeC, tMakeSC, tFld, sFld, HO.ins.injEq, HO.tup.injEq, cxOf_K, nox_K, tr_K, suite_K, rTupleI, rAllB, rAnyB, BL_inj, tChain, wOnly, wAs, wMany, rEqI, rNeI, Dw.rMax2, rMin2, Dw.rIsN, rIsNotN, rStrIn, rStrNotIn, not_true_eq_false, not_false_eq_true, reduceCtorEq, cl_bool, cl_int, cl_str, cl_list, cl_tuple, isB_NoneType_bool, isB_NoneType_int, isB_NoneType_str, isB_NoneType_list, isB_NoneType_tuple, isB_bool_bool, isB_bool_int, isB_bool_str, isB_bool_list, isB_bool_tuple, isB_int_bool, isB_int_int, isB_int_str, isB_int_list, isB_int_tuple, isB_str_bool, isB_str_int, isB_str_str, isB_str_list, isB_str_tuple, isB_list_bool, isB_list_int, isB_list_str, isB_list_list, isB_list_tuple, isB_tuple_bool, isB_tuple_int, isB_tuple_str, isB_tuple_list, isB_tuple_tuple, rSlCI, iRng3, iRev, gCons, gNil, iZip, iEnum, tLc_eq, tFor_eq, iRng1, iRng2, iList, iTup, rSetD, iKeys, tDNewK, Int.reducePow, Int.reduceNeg, Dw.rIxL, rListTI, tMakeK, rTupT, tPar, Dw.rSlCI, rIsB, hpos]
  refine ⟨Nat.zero_le _, fun D hD => ⟨by omega, by omega, ?_⟩⟩
  have hmod : ∀ z : Int, 0 ≤ z % (ns.length : Int) ∧ z % (ns.length : Int) < (ns.length : Int) := fun z => ⟨Int.emod_nonneg _ (by omega), Int.emod_lt_of_pos _ hpos⟩
  have gd : ∀ z : Int, 0 ≤ ns.getD (z % (ns.length : Int)).toNat 0 ∧ ns.getD (z % (ns.length : Int)).toNat 0 < 4096 := fun z => hd.get (by have := hmod z; omega)
  obtain ⟨I, hI⟩ : ∃ F : Nat → L2.St → Hp → Prop, F = (fun i σ H' => SameB D H H' ∧ ∃ (xs : List V) (ss : List Sec) (y5 y6 y7 y8 y9 : Option V), H' D = some (.lst xs) ∧ AllAt (RawAt H') xs ss ∧ (∀ s ∈ ss, OkSec s) ∧ ss.length = i ∧ σ = [some (V.ref r), some (V.int at0), some (V.int m), some (V.ref t), some (V.ref D), y5, y6, y7, y8, y9]) := ⟨_, rfl⟩
  refine forR I (by rw [hI]; exact ⟨Same.b (same_new hD _), [], [], _, _, _, _, _, upd_same, .nil, (fun s hs => by cases hs), rfl, rfl⟩) ?_ ?_
  · intro i σ H2 hi h
    rw [hI] at h
    obtain ⟨s2, xs, ss, y5, y6, y7, y8, y9, e2, hA, hok, hlen, rfl⟩ := h
    have rD : r ≠ D := ne_of_none hR hD
    have tD : t ≠ D := ne_of_none hT hD
    have hR2 := s2 _ _ rD hR
    have hT2 := s2 _ _ tD hT
    have hm5 := hmod (at0 + 5 * (0 + (i : Int)))
    have gd5 := gd (at0 + 5 * (0 + (i : Int)))
    have cm5 : CMul 5 (0 + (i : Int)) := .inl ⟨by decide, by decide⟩
    try simp only [tSeq, tAsg, tVar, tC, tOp, rI0, rI, tUn, rU, tIfS, tTest, tRet, tRetN, tDrop, tCB, tCons, tNil, tLst, tLstI, tTup, gName, tB, tAnd, tOr, tNot, tAndV, tOrV, tNotV, tIf, tNext, tBreak, tCont, gSub, tCall, tCallN, tAug, ipI, tBML, tBML0, isL_IL, isL_lst, L2.start, List.map_cons, List.map_nil, List.length_cons, List.length_nil, List.cons_append, List.nil_append, List.getElem?_cons_succ, List.getElem?_cons_zero, Option.some.injEq, exists_eq_left', exists_eq_left, exists_and_left, V.int.injEq, V.ref.injEq, V.bl.injEq, V.str.injEq, List.set_cons_zero, List.set_cons_succ, List.cons.injEq, and_true, true_and, Nat.reduceAdd, Nat.reduceSub, List.replicate_succ, List.replicate_zero, rIxI, rIxH, rIxTH, rSetI, rSetH, rCatI, rRepI, rSlI, rAppendI, rExtendI, decide_eq_true_eq, upd_same, IL_inj, HO.lst.injEq, toInts_cons, toInts_nil, Option.map_some, if_true, if_false, Bool.true_eq_false, Bool.false_eq_true, Bool.not_true, Bool.not_false, Bool.not_eq_true', decide_eq_false_iff_not, atI_0, atI_1, atI_2, atI_3, atI_4, Int.reduceToNat, Int.reduceLT, Int.reduceLE, Int.reduceNeg, Int.reducePow, cast_lit, upd_upd, Int.reduceAdd, Int.reduceMul, Int.reduceSub, Nat.reduceLT, Nat.reduceLeDiff, cmul_r, cdiv_r, tSl, tPart, tNoPart, rEq, rNe, scal_nn, scal_ii, scal_bb, scal_ss, scal_is, scal_si, V.ty.injEq, and_assoc, tyH_non, tyH_bl, tyH_int, tyH_str, tyH_ref, tyO_lst, tyO_IL, tyO_tup, itO_lst, itO_tup, itO_IL, Dw.rIxD, rLenI, rLenH, rLenTH, rLenQ, rLenB, rListI, Dw.rListS, rIntI, rIntB, rSumI, rIsiD, rIsX, tCallS, tMakeS, tMake, tMakeC, tMakeSC, tFld, sFld, HO.ins.injEq, HO.tup.injEq, cxOf_K, nox_K, tr_K, suite_K, rTupleI, rAllB, rAnyB, BL_inj, tChain, wOnly, wAs, wMany, rEqI, rNeI, Dw.rMax2, rMin2, Dw.rIsN, rIsNotN, rStrIn, rStrNotIn, not_true_eq_false, not_false_eq_true, reduceCtorEq, cl_bool, cl_int, cl_str, cl_list, cl_tuple, isB_NoneType_bool, isB_NoneType_int, isB_NoneType_str, isB_NoneType_list, isB_NoneType_tuple, isB_bool_bool, isB_bool_int, isB_bool_str, isB_bool_list, isB_bool_tuple, isB_int_bool, isB_int_int, isB_int_str, isB_int_list, isB_int_tuple, isB_str_bool, isB_str_int, isB_str_str, isB_str_list, isB_str_tuple, isB_list_bool, isB_list_int, isB_list_str, isB_list_list, isB_list_tuple, isB_tuple_bool, isB_tuple_int, isB_tuple_str, isB_tuple_list, isB_tuple_tuple, rSlCI, iRng3, iRev, gCons, gNil, iZip, iEnum, tLc_eq, tFor_eq, iRng1, iRng2, iList, iTup, rSetD, iKeys, tDNewK, Int.reducePow, Int.reduceNeg, Dw.rIxL, rListTI, tMakeK, rTupT, tPar, Dw.rSlCI, rIsB, hR2, hpos, cm5]
    refine ⟨hm5.1, hm5.2, line_le (by decide), fun u1 hu1 => ⟨by omega, by omega, _, by rw [same_new hu1 _ _ _ hT2]; rfl, _, rfl, _, by rw [same_new hu1 _ _ _ hT2]; rfl, _, rfl, line_le (by decide), fun u2 hu2 => ?_⟩⟩
    have hsz : [(0 : Int), 0, 0, 1].getD (ns.getD ((at0 + 5 * (0 + (i : Int))) % (ns.length : Int)).toNat 0 % 4).toNat 0 = 0 ∨ [(0 : Int), 0, 0, 1].getD (ns.getD ((at0 + 5 * (0 + (i : Int))) % (ns.length : Int)).toNat 0 % 4).toNat 0 = 1 :=
      pick4 (P := fun z => z = 0 ∨ z = 1) (.inl rfl) (.inl rfl) (.inl rfl) (.inr rfl) (by omega)
    generalize [(0 : Int), 0, 0, 1].getD (ns.getD ((at0 + 5 * (0 + (i : Int))) % (ns.length : Int)).toNat 0 % 4).toNat 0 = sz at hu2 hsz ⊢
    generalize ns.getD ((at0 + 5 * (0 + (i : Int))) % (ns.length : Int)).toNat 0 = dd at gd5 hu2 ⊢
    have q2 := (same_new hu1 (IL [0, 0, 0, 1])).trans (same_new hu2 (.tup [V.int x, V.int y, V.int (1 + dd / 4 % 4), V.int sz]))
    have eu2 : upd (upd H2 u1 (IL [0, 0, 0, 1])) u2 (.tup [V.int x, V.int y, V.int (1 + dd / 4 % 4), V.int sz]) u2 = some (.tup ([x, y, 1 + dd / 4 % 4, sz].map V.int)) := upd_same
    have byt : ∀ a b c : Int, 0 ≤ a → a < 256 → 0 ≤ b → b < 256 → 0 ≤ c → c < 256 → Bytes [a, b, c, sz] := fun a b c h1 h2 h3 h4 h5 h6 z hz => by
      simp only [List.mem_cons, List.not_mem_nil, or_false] at hz
      rcases hz with rfl | rfl | rfl | rfl <;> omega
    generalize upd (upd H2 u1 (IL [0, 0, 0, 1])) u2 (.tup [V.int x, V.int y, V.int (1 + dd / 4 % 4), V.int sz]) = H3 at q2 eu2 ⊢
    obtain ⟨M, hM⟩ : ∃ F : L2.St → Hp → Prop, F = (fun σ' H' => Same H3 H' ∧ ∃ (ta : Addr) (a b c : Int), Bytes [a, b, c, sz] ∧ H' ta = some (.tup ([a, b, c, sz].map V.int)) ∧ σ' = [some (V.ref r), some (V.int at0), some (V.int m), some (V.ref t), some (V.ref D), some (V.int (0 + (i : Int))), some (V.int dd), some (V.int sz), some (V.ref ta), y9]) := ⟨_, rfl⟩
    refine ⟨M, ?_, ?_⟩
    · try simp only [tSeq, tAsg, tVar, tC, tOp, rI0, rI, tUn, rU, tIfS, tTest, tRet, tRetN, tDrop, tCB, tCons, tNil, tLst, tLstI, tTup, gName, tB, tAnd, tOr, tNot, tAndV, tOrV, tNotV, tIf, tNext, tBreak, tCont, gSub, tCall, tCallN, tAug, ipI, tBML, tBML0, isL_IL, isL_lst, L2.start, List.map_cons, List.map_nil, List.length_cons, List.length_nil, List.cons_append, List.nil_append, List.getElem?_cons_succ, List.getElem?_cons_zero, Option.some.injEq, exists_eq_left', exists_eq_left, exists_and_left, V.int.injEq, V.ref.injEq, V.bl.injEq, V.str.injEq, List.set_cons_zero, List.set_cons_succ, List.cons.injEq, and_true, true_and, Nat.reduceAdd, Nat.reduceSub, List.replicate_succ, List.replicate_zero, rIxI, rIxH, rIxTH, rSetI, rSetH, rCatI, rRepI, rSlI, rAppendI, rExtendI, decide_eq_true_eq, upd_same, IL_inj, HO.lst.injEq, toInts_cons, toInts_nil, Option.map_some, if_true, if_false, Bool.true_eq_false, Bool.false_eq_true, Bool.not_true, Bool.not_false, Bool.not_eq_true', decide_eq_false_iff_not, atI_0, atI_1, atI_2, atI_3, atI_4, Int.reduceToNat, Int.reduceLT, Int.reduceLE, Int.reduceNeg, Int.reducePow, cast_lit, upd_upd, Int.reduceAdd, Int.reduceMul, Int.reduceSub, Nat.reduceLT, Nat.reduceLeDiff, cmul_r, cdiv_r, tSl, tPart, tNoPart, rEq, rNe, scal_nn, scal_ii, scal_bb, scal_ss, scal_is, scal_si, V.ty.injEq, and_assoc, tyH_non, tyH_bl, tyH_int, tyH_str, tyH_ref, tyO_lst, tyO_IL, tyO_tup, itO_lst, itO_tup, itO_IL, Dw.rIxD, rLenI, rLenH, rLenTH, rLenQ, rLenB, rListI, Dw.rListS, rIntI, rIntB, rSumI, rIsiD, rIsX, tCallS, tMakeS, tMake, tMakeC, tMakeSC, tFld, sFld, HO.ins.injEq, HO.tup.injEq, cxOf_K, nox_K, tr_K, suite_K, rTupleI, rAllB, rAnyB, BL_inj, tChain, wOnly, wAs, wMany, rEqI, rNeI, Dw.rMax2, rMin2, Dw.rIsN, rIsNotN, rStrIn, rStrNotIn, not_true_eq_false, not_false_eq_true, reduceCtorEq, cl_bool, cl_int, cl_str, cl_list, cl_tuple, isB_NoneType_bool, isB_NoneType_int, isB_NoneType_str, isB_NoneType_list, isB_NoneType_tuple, isB_bool_bool, isB_bool_int, isB_bool_str, isB_bool_list, isB_bool_tuple, isB_int_bool, isB_int_int, isB_int_str, isB_int_list, isB_int_tuple, isB_str_bool, isB_str_int, isB_str_str, isB_str_list, isB_str_tuple, isB_list_bool, isB_list_int, isB_list_str, isB_list_list, isB_list_tuple, isB_tuple_bool, isB_tuple_int, isB_tuple_str, isB_tuple_list, isB_tuple_tuple, rSlCI, iRng3, iRev, gCons, gNil, iZip, iEnum, tLc_eq, tFor_eq, iRng1, iRng2, iList, iTup, rSetD, iKeys, tDNewK, Int.reducePow, Int.reduceNeg, Dw.rIxL, rListTI, tMakeK, rTupT, tPar, Dw.rSlCI, rIsB]
      by_cases c : dd / 16 % 5 = 1
      · rw [if_pos c]
        refine ⟨line_le (by decide), fun u3 hu3 => ?_⟩
        rw [hM]
        exact ⟨same_new hu3 _, u3, dd % 256, dd / 3 % 256, dd / 5 % 256, byt _ _ _ (by omega) (by omega) (by omega) (by omega) (by omega) (by omega), upd_same, rfl⟩
      · rw [if_neg c, hM]
        exact ⟨.refl _, u2, x, y, _, byt _ _ _ x0 x1 y0 y1 (by omega) (by omega), eu2, rfl⟩
    · intro σ' H4 h
      rw [hM] at h
      obtain ⟨s4, ta, qa, qb, qc, hqb, eta, rfl⟩ := h
      have q4 := q2.trans s4
      have cm3 : CMul 3 (0 + (i : Int)) := .inl ⟨by decide, by decide⟩
      have cm16 : CMul 16 (1 + sz) := .inl ⟨by decide, by decide⟩
      try simp only [tSeq, tAsg, tVar, tC, tOp, rI0, rI, tUn, rU, tIfS, tTest, tRet, tRetN, tDrop, tCB, tCons, tNil, tLst, tLstI, tTup, gName, tB, tAnd, tOr, tNot, tAndV, tOrV, tNotV, tIf, tNext, tBreak, tCont, gSub, tCall, tCallN, tAug, ipI, tBML, tBML0, isL_IL, isL_lst, L2.start, List.map_cons, List.map_nil, List.length_cons, List.length_nil, List.cons_append, List.nil_append, List.getElem?_cons_succ, List.getElem?_cons_zero, Option.some.injEq, exists_eq_left', exists_eq_left, exists_and_left, V.int.injEq, V.ref.injEq, V.bl.injEq, V.str.injEq, List.set_cons_zero, List.set_cons_succ, List.cons.injEq, and_true, true_and, Nat.reduceAdd, Nat.reduceSub, List.replicate_succ, List.replicate_zero, rIxI, rIxH, rIxTH, rSetI, rSetH, rCatI, rRepI, rSlI, rAppendI, rExtendI, decide_eq_true_eq, upd_same, IL_inj, HO.lst.injEq, toInts_cons, toInts_nil, Option.map_some, if_true, if_false, Bool.true_eq_false, Bool.false_eq_true, Bool.not_true, Bool.not_false, Bool.not_eq_true', decide_eq_false_iff_not, atI_0, atI_1, atI_2, atI_3, atI_4, Int.reduceToNat, Int.reduceLT, Int.reduceLE, Int.reduceNeg, Int.reducePow, cast_lit, upd_upd, Int.reduceAdd, Int.reduceMul, Int.reduceSub, Nat.reduceLT, Nat.reduceLeDiff, cmul_r, cdiv_r, tSl, tPart, tNoPart, rEq, rNe, scal_nn, scal_ii, scal_bb, scal_ss, scal_is, scal_si, V.ty.injEq, and_assoc, tyH_non, tyH_bl, tyH_int, tyH_str, tyH_ref, tyO_lst, tyO_IL, tyO_tup, itO_lst, itO_tup, itO_IL, Dw.rIxD, rLenI, rLenH, rLenTH, rLenQ, rLenB, rListI, Dw.rListS, rIntI, rIntB, rSumI, rIsiD, rIsX, tCallS, tMakeS, tMake, tMakeC, tMakeSC, tFld, sFld, HO.ins.injEq, HO.tup.injEq, cxOf_K, nox_K, tr_K, suite_K, rTupleI, rAllB, rAnyB, BL_inj, tChain, wOnly, wAs, wMany, rEqI, rNeI, Dw.rMax2, rMin2, Dw.rIsN, rIsNotN, rStrIn, rStrNotIn, not_true_eq_false, not_false_eq_true, reduceCtorEq, cl_bool, cl_int, cl_str, cl_list, cl_tuple, isB_NoneType_bool, isB_NoneType_int, isB_NoneType_str, isB_NoneType_list, isB_NoneType_tuple, isB_bool_bool, isB_bool_int, isB_bool_str, isB_bool_list, isB_bool_tuple, isB_int_bool, isB_int_int, isB_int_str, isB_int_list, isB_int_tuple, isB_str_bool, isB_str_int, isB_str_str, isB_str_list, isB_str_tuple, isB_list_bool, isB_list_int, isB_list_str, isB_list_list, isB_list_tuple, isB_tuple_bool, isB_tuple_int, isB_tuple_str, isB_tuple_list, isB_tuple_tuple, rSlCI, iRng3, iRev, gCons, gNil, iZip, iEnum, tLc_eq, tFor_eq, iRng1, iRng2, iList, iTup, rSetD, iKeys, tDNewK, Int.reducePow, Int.reduceNeg, Dw.rIxL, rListTI, tMakeK, rTupT, tPar, Dw.rSlCI, rIsB, cm3, cm16]
      refine ⟨r, ns, _, _, rfl, q4 _ _ hR2, hd, hn0, hn1, by omega, by omega, by omega, fun u o H5 s5 n5 e5 ob ol => ?_⟩
      have q5 := q4.trans s5
      have hol : o.length = 16 * 2 ^ sz.toNat := by
        rcases hsz with rfl | rfl
        · show o.length = 16 * 1; omega
        · show o.length = 16 * 2; omega
      obtain ⟨M2, hM2⟩ : ∃ F : L2.St → Hp → Prop, F = (fun σ' H' => H' = H5 ∧ ∃ (v : V) (da : Option (List Int)), DatL H5 v da ∧ (∀ ns, da = some ns → ns.length = 16 * 2 ^ sz.toNat ∧ Bytes ns) ∧ σ' = [some (V.ref r), some (V.int at0), some (V.int m), some (V.ref t), some (V.ref D), some (V.int (0 + (i : Int))), some (V.int dd), some (V.int sz), some (V.ref ta), some v]) := ⟨_, rfl⟩
      refine ⟨M2, ?_, ?_⟩
      · try simp only [tSeq, tAsg, tVar, tC, tOp, rI0, rI, tUn, rU, tIfS, tTest, tRet, tRetN, tDrop, tCB, tCons, tNil, tLst, tLstI, tTup, gName, tB, tAnd, tOr, tNot, tAndV, tOrV, tNotV, tIf, tNext, tBreak, tCont, gSub, tCall, tCallN, tAug, ipI, tBML, tBML0, isL_IL, isL_lst, L2.start, List.map_cons, List.map_nil, List.length_cons, List.length_nil, List.cons_append, List.nil_append, List.getElem?_cons_succ, List.getElem?_cons_zero, Option.some.injEq, exists_eq_left', exists_eq_left, exists_and_left, V.int.injEq, V.ref.injEq, V.bl.injEq, V.str.injEq, List.set_cons_zero, List.set_cons_succ, List.cons.injEq, and_true, true_and, Nat.reduceAdd, Nat.reduceSub, List.replicate_succ, List.replicate_zero, rIxI, rIxH, rIxTH, rSetI, rSetH, rCatI, rRepI, rSlI, rAppendI, rExtendI, decide_eq_true_eq, upd_same, IL_inj, HO.lst.injEq, toInts_cons, toInts_nil, Option.map_some, if_true, if_false, Bool.true_eq_false, Bool.false_eq_true, Bool.not_true, Bool.not_false, Bool.not_eq_true', decide_eq_false_iff_not, atI_0, atI_1, atI_2, atI_3, atI_4, Int.reduceToNat, Int.reduceLT, Int.reduceLE, Int.reduceNeg, Int.reducePow, cast_lit, upd_upd, Int.reduceAdd, Int.reduceMul, Int.reduceSub, Nat.reduceLT, Nat.reduceLeDiff, cmul_r, cdiv_r, tSl, tPart, tNoPart, rEq, rNe, scal_nn, scal_ii, scal_bb, scal_ss, scal_is, scal_si, V.ty.injEq, and_assoc, tyH_non, tyH_bl, tyH_int, tyH_str, tyH_ref, tyO_lst, tyO_IL, tyO_tup, itO_lst, itO_tup, itO_IL, Dw.rIxD, rLenI, rLenH, rLenTH, rLenQ, rLenB, rListI, Dw.rListS, rIntI, rIntB, rSumI, rIsiD, rIsX, tCallS, tMakeS, tMake, tMakeC, tMakeSC, tFld, sFld, HO.ins.injEq, HO.tup.injEq, cxOf_K, nox_K, tr_K, suite_K, rTupleI, rAllB, rAnyB, BL_inj, tChain, wOnly, wAs, wMany, rEqI, rNeI, Dw.rMax2, rMin2, Dw.rIsN, rIsNotN, rStrIn, rStrNotIn, not_true_eq_false, not_false_eq_true, reduceCtorEq, cl_bool, cl_int, cl_str, cl_list, cl_tuple, isB_NoneType_bool, isB_NoneType_int, isB_NoneType_str, isB_NoneType_list, isB_NoneType_tuple, isB_bool_bool, isB_bool_int, isB_bool_str, isB_bool_list, isB_bool_tuple, isB_int_bool, isB_int_int, isB_int_str, isB_int_list, isB_int_tuple, isB_str_bool, isB_str_int, isB_str_str, isB_str_list, isB_str_tuple, isB_list_bool, isB_list_int, isB_list_str, isB_list_list, isB_list_tuple, isB_tuple_bool, isB_tuple_int, isB_tuple_str, isB_tuple_list, isB_tuple_tuple, rSlCI, iRng3, iRev, gCons, gNil, iZip, iEnum, tLc_eq, tFor_eq, iRng1, iRng2, iList, iTup, rSetD, iKeys, tDNewK, Int.reducePow, Int.reduceNeg, Dw.rIxL, rListTI, tMakeK, rTupT, tPar, Dw.rSlCI, rIsB]
        by_cases c : dd / 80 % 6 = 1
        · rw [if_pos c, hM2]
          exact ⟨rfl, .non, none, .inl ⟨rfl, rfl⟩, (fun ns h => by cases h), rfl⟩
        · rw [if_neg c, hM2]
          exact ⟨rfl, .ref u, some o, .inr ⟨u, o, rfl, rfl, e5⟩, (fun ns h => by cases h; exact ⟨hol, ob⟩), rfl⟩
      · intro σ' H6 h
        rw [hM2] at h
        obtain ⟨rfl, v, da, hda, hdok, rfl⟩ := h
        have eta5 := s5 _ _ eta
        have e6 := q5 _ _ e2
        have hA6 := hA.imp fun x s h => RawAt.same q5 h
        have hxl := hA.1
        have fin : ∀ dw : Bool, 4 ≤ sizeLine ∧ ∀ p, H6 p = none → rAppend (V.ref D) [V.ref p] (upd H6 p (.tup [.ref ta, v, .bl (decide (dd / 480 % 5 = 1)), .bl dw])) (fun _ H1 => I (i + 1) [some (V.ref r), some (V.int at0), some (V.int m), some (V.ref t), some (V.ref D), some (V.int (0 + (i : Int))), some (V.int dd), some (V.int sz), some (V.ref ta), some v] H1) := by
          intro dw
          refine ⟨line_le (by decide), fun p hp => ⟨D, xs, _, rfl, rfl, same_new hp _ _ _ e6, line_lt (by omega), ?_⟩⟩
          have sP := same_new hp (.tup [.ref ta, v, .bl (decide (dd / 480 % 5 = 1)), .bl dw])
          have hraw : RawAt (upd H6 p (.tup [.ref ta, v, .bl (decide (dd / 480 % 5 = 1)), .bl dw])) (.ref p) ([qa, qb, qc, sz], da, decide (dd / 480 % 5 = 1), dw) := ⟨p, ta, v, rfl, upd_same, sP _ _ eta5, hda.same sP⟩
          have hok1 : OkSec ([qa, qb, qc, sz], da, decide (dd / 480 % 5 = 1), dw) := ⟨qa, qb, qc, sz, rfl, hqb, by omega, hdok⟩
          have hA7 := hA6.imp fun x s h => RawAt.same sP h
          have hrf := RawAt.refs hA7
          rw [hI]
          refine ⟨fun b o hn hb => ?_, xs ++ [.ref p], ss ++ [([qa, qb, qc, sz], da, decide (dd / 480 % 5 = 1), dw)], _, _, _, _, _, upd_same, ?_, ?_, by rw [List.length_append, hlen]; rfl, rfl⟩
          · rw [upd_ne hn]
            exact sP _ _ (q5 _ _ (s2 _ _ hn hb))
          · refine AllAt.push ⟨hA7.1, fun j z hz => ?_⟩ (hraw.ups (sP _ _ e6) hrf (okSec_ne hok1))
            obtain ⟨s, hs, hr1⟩ := hA7.2 j z hz
            exact ⟨s, hs, hr1.ups (sP _ _ e6) hrf (okSec_ne (hok s (List.mem_of_getElem? hs)))⟩
          · intro s hs
            rcases List.mem_append.mp hs with hs | hs
            · exact hok s hs
            · rw [List.mem_singleton.mp hs]; exact hok1
        try simp only [tSeq, tAsg, tVar, tC, tOp, rI0, rI, tUn, rU, tIfS, tTest, tRet, tRetN, tDrop, tCB, tCons, tNil, tLst, tLstI, tTup, gName, tB, tAnd, tOr, tNot, tAndV, tOrV, tNotV, tIf, tNext, tBreak, tCont, gSub, tCall, tCallN, tAug, ipI, tBML, tBML0, isL_IL, isL_lst, L2.start, List.map_cons, List.map_nil, List.length_cons, List.length_nil, List.cons_append, List.nil_append, List.getElem?_cons_succ, List.getElem?_cons_zero, Option.some.injEq, exists_eq_left', exists_eq_left, exists_and_left, V.int.injEq, V.ref.injEq, V.bl.injEq, V.str.injEq, List.set_cons_zero, List.set_cons_succ, List.cons.injEq, and_true, true_and, Nat.reduceAdd, Nat.reduceSub, List.replicate_succ, List.replicate_zero, rIxI, rIxH, rIxTH, rSetI, rSetH, rCatI, rRepI, rSlI, rAppendI, rExtendI, decide_eq_true_eq, upd_same, IL_inj, HO.lst.injEq, toInts_cons, toInts_nil, Option.map_some, if_true, if_false, Bool.true_eq_false, Bool.false_eq_true, Bool.not_true, Bool.not_false, Bool.not_eq_true', decide_eq_false_iff_not, atI_0, atI_1, atI_2, atI_3, atI_4, Int.reduceToNat, Int.reduceLT, Int.reduceLE, Int.reduceNeg, Int.reducePow, cast_lit, upd_upd, Int.reduceAdd, Int.reduceMul, Int.reduceSub, Nat.reduceLT, Nat.reduceLeDiff, cmul_r, cdiv_r, tSl, tPart, tNoPart, rEq, rNe, scal_nn, scal_ii, scal_bb, scal_ss, scal_is, scal_si, V.ty.injEq, and_assoc, tyH_non, tyH_bl, tyH_int, tyH_str, tyH_ref, tyO_lst, tyO_IL, tyO_tup, itO_lst, itO_tup, itO_IL, Dw.rIxD, rLenI, rLenH, rLenTH, rLenQ, rLenB, rListI, Dw.rListS, rIntI, rIntB, rSumI, rIsiD, rIsX, tCallS, tMakeS, tMake, tMakeC, tMakeSC, tFld, sFld, HO.ins.injEq, HO.tup.injEq, cxOf_K, nox_K, tr_K, suite_K, rTupleI, rAllB, rAnyB, BL_inj, tChain, wOnly, wAs, wMany, rEqI, rNeI, Dw.rMax2, rMin2, Dw.rIsN, rIsNotN, rStrIn, rStrNotIn, not_true_eq_false, not_false_eq_true, reduceCtorEq, cl_bool, cl_int, cl_str, cl_list, cl_tuple, isB_NoneType_bool, isB_NoneType_int, isB_NoneType_str, isB_NoneType_list, isB_NoneType_tuple, isB_bool_bool, isB_bool_int, isB_bool_str, isB_bool_list, isB_bool_tuple, isB_int_bool, isB_int_int, isB_int_str, isB_int_list, isB_int_tuple, isB_str_bool, isB_str_int, isB_str_str, isB_str_list, isB_str_tuple, isB_list_bool, isB_list_int, isB_list_str, isB_list_list, isB_list_tuple, isB_tuple_bool, isB_tuple_int, isB_tuple_str, isB_tuple_list, isB_tuple_tuple, rSlCI, iRng3, iRev, gCons, gNil, iZip, iEnum, tLc_eq, tFor_eq, iRng1, iRng2, iList, iTup, rSetD, iKeys, tDNewK, Int.reducePow, Int.reduceNeg, Dw.rIxL, rListTI, tMakeK, rTupT, tPar, Dw.rSlCI, rIsB]
        refine ⟨by rw [e6]; rfl, ?_⟩
        by_cases c : v = V.non
        · rw [if_neg (fun h => h c)]
          exact fin false
        · rw [if_pos c]
          exact fin _
  · intro σ H2 h
    rw [hI] at h
    obtain ⟨s2, xs, ss, y5, y6, y7, y8, y9, e2, hA, hok, hlen, rfl⟩ := h
    try simp only [tSeq, tAsg, tVar, tC, tOp, rI0, rI, tUn, rU, tIfS, tTest, tRet, tRetN, tDrop, tCB, tCons, tNil, tLst, tLstI, tTup, gName, tB, tAnd, tOr, tNot, tAndV, tOrV, tNotV, tIf, tNext, tBreak, tCont, gSub, tCall, tCallN, tAug, ipI, tBML, tBML0, isL_IL, isL_lst, L2.start, List.map_cons, List.map_nil, List.length_cons, List.length_nil, List.cons_append, List.nil_append, List.getElem?_cons_succ, List.getElem?_cons_zero, Option.some.injEq, exists_eq_left', exists_eq_left, exists_and_left, V.int.injEq, V.ref.injEq, V.bl.injEq, V.str.injEq, List.set_cons_zero, List.set_cons_succ, List.cons.injEq, and_true, true_and, Nat.reduceAdd, Nat.reduceSub, List.replicate_succ, List.replicate_zero, rIxI, rIxH, rIxTH, rSetI, rSetH, rCatI, rRepI, rSlI, rAppendI, rExtendI, decide_eq_true_eq, upd_same, IL_inj, HO.lst.injEq, toInts_cons, toInts_nil, Option.map_some, if_true, if_false, Bool.true_eq_false, Bool.false_eq_true, Bool.not_true, Bool.not_false, Bool.not_eq_true', decide_eq_false_iff_not, atI_0, atI_1, atI_2, atI_3, atI_4, Int.reduceToNat, Int.reduceLT, Int.reduceLE, Int.reduceNeg, Int.reducePow, cast_lit, upd_upd, Int.reduceAdd, Int.reduceMul, Int.reduceSub, Nat.reduceLT, Nat.reduceLeDiff, cmul_r, cdiv_r, tSl, tPart, tNoPart, rEq, rNe, scal_nn, scal_ii, scal_bb, scal_ss, scal_is, scal_si, V.ty.injEq, and_assoc, tyH_non, tyH_bl, tyH_int, tyH_str, tyH_ref, tyO_lst, tyO_IL, tyO_tup, itO_lst, itO_tup, itO_IL, Dw.rIxD, rLenI, rLenH, rLenTH, rLenQ, rLenB, rListI, Dw.rListS, rIntI, rIntB, rSumI, rIsiD, rIsX, tCallS, tMakeS, tMake, tMakeC, tMakeSC, tFld, sFld, HO.ins.injEq, HO.tup.injEq, cxOf_K, nox_K, tr_K, suite_K, rTupleI, rAllB, rAnyB, BL_inj, tChain, wOnly, wAs, wMany, rEqI, rNeI, Dw.rMax2, rMin2, Dw.rIsN, rIsNotN, rStrIn, rStrNotIn, not_true_eq_false, not_false_eq_true, reduceCtorEq, cl_bool, cl_int, cl_str, cl_list, cl_tuple, isB_NoneType_bool, isB_NoneType_int, isB_NoneType_str, isB_NoneType_list, isB_NoneType_tuple, isB_bool_bool, isB_bool_int, isB_bool_str, isB_bool_list, isB_bool_tuple, isB_int_bool, isB_int_int, isB_int_str, isB_int_list, isB_int_tuple, isB_str_bool, isB_str_int, isB_str_str, isB_str_list, isB_str_tuple, isB_list_bool, isB_list_int, isB_list_str, isB_list_list, isB_list_tuple, isB_tuple_bool, isB_tuple_int, isB_tuple_str, isB_tuple_list, isB_tuple_tuple, rSlCI, iRng3, iRev, gCons, gNil, iZip, iEnum, tLc_eq, tFor_eq, iRng1, iRng2, iList, iTup, rSetD, iKeys, tDNewK, Int.reducePow, Int.reduceNeg, Dw.rIxL, rListTI, tMakeK, rTupT, tPar, Dw.rSlCI, rIsB]
    exact k D xs ss H2 (fun b o hb => s2 b o (ne_of_none hb hD) hb) hD e2 hA hok (by omega)
def spLMade (K : PySem.W.Frag) (C : Addr) : Sp := fun vs H Q _ => ∃ (l : Addr) (xs : List V) (ss : List Sec), vs = [.ref l] ∧ SqL K H l xs ∧ AllAt (RawAt H) xs ss ∧ ss.length ≤ 1000 ∧ ∀ u ys H', Same H H' → H u = none → H' u = some (.lst ys) → AllAt (SecAt C H') ys ss → Q (.ref u) H'
theorem conv_sector {K : PySem.W.Frag} {C : Addr} : Conv C (spSecInit K C) (fun vs H Q _ => ∃ (ta : Addr) (v : V) (ad : List Int) (da : Option (List Int)) (aw dw : Bool), vs = [.ref ta, v, .bl aw, .bl dw] ∧ H ta = some (.tup (ad.map V.int)) ∧ DatL H v da ∧ ∀ x H', Same H H' → H x = none → SecAt C H' (.ref x) (ad, da, aw, dw) → Q (.ref x) H') := by
  intro vs H Q E ⟨ta, v, ad, da, aw, dw, e, hT, hD, k⟩ x dx nx nd ne
  subst e
  have s0 : Same H (upd H dx (.own x)) := same_new nd _
  have nx' : upd H dx (.own x) x = none := by rw [upd_ne ne.symm]; exact nx
  have s1 : Same (upd H dx (.own x)) (upd (upd H dx (.own x)) x (.ins C dx [])) := same_new nx' _
  have s := s0.trans s1
  exact ⟨x, dx, ta, v, ad, da, aw, dw, rfl, upd_same, s _ _ hT, hD.same s, fun H' sb hs => ⟨rfl, k x H' (fun b o hb => sb b o (ne_of_none hb nx) (s b o hb)) nx hs⟩⟩
theorem ok_law_made (T : Tx K mg A) : FnOk P w K mg base CX0 3 A.f_law_made A.d_law_made ["sectors"] (spLMade K A.c_Sector) := by
  refine T.F_law_made.ok sc_law_made (fun vs H Q E h => ?_) (fun cdv A' outer s H vs Q E hr h => ?_)
  · obtain ⟨l, xs, ss, rfl, _⟩ := h
    rfl
  obtain ⟨l, xs, ss, rfl, hL, hA, hl, k⟩ := h
  refine ⟨_, (pss_one (ps_ret (pe_lc (own := [("address", 1), ("data", 2), ("one", 3), ("two", 4)]) (g := (gTup K 4 (gCons (gName 1) (gCons (gName 2) (gCons (gName 3) (gCons (gName 4) gNil)))))) (tt := tYes) rfl sc_law_made.nd (pi_list (pv 0)) (blkOk_by (N := n_law_made) (sc := (defScope s_law_made)) (by decide +kernel)) (fun _ _ _ _ _ => (pg_tup (n := 4) rfl (pgs_cons (pg_name (i := 1) sc_law_made.nd rfl (Or.inl rfl)) (pgs_cons (pg_name (i := 2) sc_law_made.nd rfl (Or.inl rfl)) (pgs_cons (pg_name (i := 3) sc_law_made.nd rfl (Or.inl rfl)) (pgs_cons (pg_name (i := 4) sc_law_made.nd rfl (Or.inl rfl)) pgs_nil)))))) (fun _ _ _ _ _ => pts_nil) (fun _ _ _ _ _ => (pe_makeK T.mk_Sector (ok_Sectorinit T) (hr.mono (by decide)) rfl T.gc_Sector T.kb_Sectorinit pass0 (pa_cons (pv 1) (pa_cons (pv 2) pa_nil)) (pk_cons (pv 3) (pk_cons (pv 4) pk_nil))))))), ?_⟩
  try simp only [tSeq, tAsg, tVar, tC, tOp, rI0, rI, tUn, rU, tIfS, tTest, tRet, tRetN, tDrop, tCB, tCons, tNil, tLst, tLstI, tTup, gName, tB, tAnd, tOr, tNot, tAndV, tOrV, tNotV, tIf, tNext, tBreak, tCont, gSub, tCall, tCallN, tAug, ipI, tBML, tBML0, isL_IL, isL_lst, L2.start, List.map_cons, List.map_nil, List.length_cons, List.length_nil, List.cons_append, List.nil_append, List.getElem?_cons_succ, List.getElem?_cons_zero, Option.some.injEq, exists_eq_left', exists_eq_left, exists_and_left, V.int.injEq, V.ref.injEq, V.bl.injEq, V.str.injEq, List.set_cons_zero, List.set_cons_succ, List.cons.injEq, and_true, true_and, Nat.reduceAdd, Nat.reduceSub, List.replicate_succ, List.replicate_zero, rIxI, rIxH, rIxTH, rSetI, rSetH, rCatI, rRepI, rSlI, rAppendI, rExtendI, decide_eq_true_eq, upd_same, IL_inj, HO.lst.injEq, toInts_cons, toInts_nil, Option.map_some, if_true, if_false, Bool.true_eq_false, Bool.false_eq_true, Bool.not_true, Bool.not_false, Bool.not_eq_true', decide_eq_false_iff_not, atI_0, atI_1, atI_2, atI_3, atI_4, Int.reduceToNat, Int.reduceLT, Int.reduceLE, Int.reduceNeg, Int.reducePow, cast_lit, upd_upd, Int.reduceAdd, Int.reduceMul, Int.reduceSub, Nat.reduceLT, Nat.reduceLeDiff, cmul_r, cdiv_r, tSl, tPart, tNoPart, rEq, rNe, scal_nn, scal_ii, scal_bb, scal_ss, scal_is, scal_si, V.ty.injEq, and_assoc, tyH_non, tyH_bl, tyH_int, tyH_str, tyH_ref, tyO_lst, tyO_IL, tyO_tup, itO_lst, itO_tup, itO_IL, Dw.rIxD, rLenI, rLenH, rLenTH, rLenQ, rLenB, rListI, Dw.rListS, rIntI, rIntB, rSumI, rIsiD, rIsX, tCallS, tMakeS, tMake, tMakeC, tMakeSC, tFld, sFld, HO.ins.injEq, HO.tup.injEq, cxOf_K, nox_K, tr_K, suite_K, rTupleI, rAllB, rAnyB, BL_inj, tChain, wOnly, wAs, wMany, rEqI, rNeI, Dw.rMax2, rMin2, Dw.rIsN, rIsNotN, rStrIn, rStrNotIn, not_true_eq_false, not_false_eq_true, reduceCtorEq, cl_bool, cl_int, cl_str, cl_list, cl_tuple, isB_NoneType_bool, isB_NoneType_int, isB_NoneType_str, isB_NoneType_list, isB_NoneType_tuple, isB_bool_bool, isB_bool_int, isB_bool_str, isB_bool_list, isB_bool_tuple, isB_int_bool, isB_int_int, isB_int_str, isB_int_list, isB_int_tuple, isB_str_bool, isB_str_int, isB_str_str, isB_str_list, isB_str_tuple, isB_list_bool, isB_list_int, isB_list_str, isB_list_list, isB_list_tuple, isB_tuple_bool, isB_tuple_int, isB_tuple_str, isB_tuple_list, isB_tuple_tuple, rSlCI, iRng3, iRev, gCons, gNil, iZip, iEnum, tLc_eq, tFor_eq, iRng1, iRng2, iList, iTup, rSetD, iKeys, tDNewK, Int.reducePow, Int.reduceNeg, Dw.rIxL, rListTI, tMakeK, rTupT, tPar, Dw.rSlCI, rIsB]
  refine ⟨⟨xs, hL⟩, fun D hD => ?_⟩
  refine lc_list (K := K) (a := l) (xs := xs) (fun i H2 => Same H H2 ∧ ∃ ys, H2 D = some (.lst ys) ∧ AllAt (SecAt A.c_Sector H2) ys (ss.take i)) ⟨same_new hD _, [], upd_same, .nil⟩ (fun i H2 _ h => h.1.seq hL) ?_ ?_
  · intro i v H2 hi h
    obtain ⟨s2, ys, e1, hy⟩ := h
    obtain ⟨⟨ad, da, aw, dw⟩, hs, hA1⟩ := hA.2 i v hi
    obtain ⟨p, ta, u3, rfl, h1, h2, h3⟩ := hA1.same s2
    simp only at h1 h2 h3
    refine ⟨p, _, rfl, .of h1, rfl, ?_⟩
    try simp only [tSeq, tAsg, tVar, tC, tOp, rI0, rI, tUn, rU, tIfS, tTest, tRet, tRetN, tDrop, tCB, tCons, tNil, tLst, tLstI, tTup, gName, tB, tAnd, tOr, tNot, tAndV, tOrV, tNotV, tIf, tNext, tBreak, tCont, gSub, tCall, tCallN, tAug, ipI, tBML, tBML0, isL_IL, isL_lst, L2.start, List.map_cons, List.map_nil, List.length_cons, List.length_nil, List.cons_append, List.nil_append, List.getElem?_cons_succ, List.getElem?_cons_zero, Option.some.injEq, exists_eq_left', exists_eq_left, exists_and_left, V.int.injEq, V.ref.injEq, V.bl.injEq, V.str.injEq, List.set_cons_zero, List.set_cons_succ, List.cons.injEq, and_true, true_and, Nat.reduceAdd, Nat.reduceSub, List.replicate_succ, List.replicate_zero, rIxI, rIxH, rIxTH, rSetI, rSetH, rCatI, rRepI, rSlI, rAppendI, rExtendI, decide_eq_true_eq, upd_same, IL_inj, HO.lst.injEq, toInts_cons, toInts_nil, Option.map_some, if_true, if_false, Bool.true_eq_false, Bool.false_eq_true, Bool.not_true, Bool.not_false, Bool.not_eq_true', decide_eq_false_iff_not, atI_0, atI_1, atI_2, atI_3, atI_4, Int.reduceToNat, Int.reduceLT, Int.reduceLE, Int.reduceNeg, Int.reducePow, cast_lit, upd_upd, Int.reduceAdd, Int.reduceMul, Int.reduceSub, Nat.reduceLT, Nat.reduceLeDiff, cmul_r, cdiv_r, tSl, tPart, tNoPart, rEq, rNe, scal_nn, scal_ii, scal_bb, scal_ss, scal_is, scal_si, V.ty.injEq, and_assoc, tyH_non, tyH_bl, tyH_int, tyH_str, tyH_ref, tyO_lst, tyO_IL, tyO_tup, itO_lst, itO_tup, itO_IL, Dw.rIxD, rLenI, rLenH, rLenTH, rLenQ, rLenB, rListI, Dw.rListS, rIntI, rIntB, rSumI, rIsiD, rIsX, tCallS, tMakeS, tMake, tMakeC, tMakeSC, tFld, sFld, HO.ins.injEq, HO.tup.injEq, cxOf_K, nox_K, tr_K, suite_K, rTupleI, rAllB, rAnyB, BL_inj, tChain, wOnly, wAs, wMany, rEqI, rNeI, Dw.rMax2, rMin2, Dw.rIsN, rIsNotN, rStrIn, rStrNotIn, not_true_eq_false, not_false_eq_true, reduceCtorEq, cl_bool, cl_int, cl_str, cl_list, cl_tuple, isB_NoneType_bool, isB_NoneType_int, isB_NoneType_str, isB_NoneType_list, isB_NoneType_tuple, isB_bool_bool, isB_bool_int, isB_bool_str, isB_bool_list, isB_bool_tuple, isB_int_bool, isB_int_int, isB_int_str, isB_int_list, isB_int_tuple, isB_str_bool, isB_str_int, isB_str_str, isB_str_list, isB_str_tuple, isB_list_bool, isB_list_int, isB_list_str, isB_list_list, isB_list_tuple, isB_tuple_bool, isB_tuple_int, isB_tuple_str, isB_tuple_list, isB_tuple_tuple, rSlCI, iRng3, iRev, gCons, gNil, iZip, iEnum, tLc_eq, tFor_eq, iRng1, iRng2, iList, iTup, rSetD, iKeys, tDNewK, Int.reducePow, Int.reduceNeg, Dw.rIxL, rListTI, tMakeK, rTupT, tPar, Dw.rSlCI, rIsB, wipe]
    simp only [tYes, if_true]
    intro x dx nx nd ne
    have nx' : upd H2 dx (.own x) x = none := by rw [upd_ne ne.symm]; exact nx
    have s0 := (same_new nd (.own x)).trans (same_new nx' (.ins A.c_Sector dx []))
    refine ⟨ad, s0 _ _ h2, da, h3.same s0, fun H' sb hs2 => ?_⟩
    have Dx : D ≠ x := ne_of_none e1 nx
    have eD := sb _ _ Dx (s0 _ _ e1)
    have hyl := hy.1
    rw [List.length_take] at hyl
    have sH : Same H2 H' := fun b o hb => sb b o (ne_of_none hb nx) (s0 b o hb)
    refine ⟨ys, eD, line_lt (by omega), fun b o hb => ?_, ?_⟩
    · rw [upd_ne (ne_of_none hb hD)]
      exact sH _ _ (s2 _ _ hb)
    · rw [take_more hs]
      exact AllAt.push (hy.imp fun z s h => (SecAt.same sH h).ups eD) (hs2.ups eD)
  · intro H2 h
    obtain ⟨s2, ys, e1, hy⟩ := h
    rw [hA.1, List.take_length] at hy
    exact k D ys H2 s2 hD e1 hy
end
section
variable {P : Program} {w : World} {K : PySem.W.Frag} {mg : Str → Option Value} {base : Heap} {A : Ad}
theorem ok_Readinit (T : Tx K mg A) : FnOk P w K mg base (L2.CX P w) 1 A.f_Readinit A.d_Readinit ["self", "intervals", "rest"] (spReadInit A.c_Read A.c_InvalidRead) := by
  refine T.F_Readinit.okX sc_Readinit (fun vs H Q E h => ?_) (fun cdv A' outer s H vs Q E hr h => ?_)
  · obtain ⟨x, dx, a, ns, rest, rfl, _⟩ := h
    rfl
  obtain ⟨x, dx, a, ns, rest, rfl, hx, hA, k1, k2⟩ := h
  refine ⟨_, (pss_cons (ps_if (pt_cmpR op_gt (pe_callB call_lenI (by rfl) T.z_len (by decide +kernel) (pa_cons (pv 1) pa_nil)) (pe_glob rfl T.c_MOST_INTERVALS T.r_MOST_INTERVALS) (nomark _)) (pss_one (ps_raise rfl (takes_of rfl rfl rfl rfl) (pmk_own PySem.F.excBase_ValueError T.x_InvalidRead.x T.x_InvalidRead.g T.x_InvalidRead.k (raises_own T.x_InvalidRead.b T.x_InvalidRead.t) rfl))) pss_nil)
      (pss_cons (ps_if (pt_not (pt_val (pe_callB (cr_allB rfl) (by rfl) T.z_all (by decide +kernel) (pa_cons (pe_lc (own := [("ticks", 3)]) (g := (gName 3)) (tt := tYes) rfl sc_Readinit.nd (pi_list (pv 1)) (blkOk_by (N := n_Readinit) (sc := (defScope s_Readinit)) (by decide +kernel)) (fun _ _ _ _ _ => (pg_name (i := 3) sc_Readinit.nd rfl (Or.inl rfl))) (fun _ _ _ _ _ => pts_nil) (fun _ _ _ _ _ => (pe_chain op_le op_le pe_int (pv 3) (pe_glob rfl T.c_MOST_TICKS T.r_MOST_TICKS) (by with_unfolding_all rfl)))) pa_nil)))) (pss_one (ps_raise rfl (takes_of rfl rfl rfl rfl) (pmk_own PySem.F.excBase_ValueError T.x_InvalidRead.x T.x_InvalidRead.g T.x_InvalidRead.k (raises_own T.x_InvalidRead.b T.x_InvalidRead.t) rfl))) pss_nil)
      (pss_cons (ps_if (pt_not (pt_chain op_le op_le pe_int (pv 2) (pe_glob rfl T.c_MOST_TICKS T.r_MOST_TICKS) (by with_unfolding_all rfl))) (pss_one (ps_raise rfl (takes_of rfl rfl rfl rfl) (pmk_own PySem.F.excBase_ValueError T.x_InvalidRead.x T.x_InvalidRead.g T.x_InvalidRead.k (raises_own T.x_InvalidRead.b T.x_InvalidRead.t) rfl))) pss_nil)
      (pss_cons (ps_fld (pv 0) (pe_callTy call_tupleI (by rfl) T.z_tuple (by decide +kernel) (pa_cons (pv 1) pa_nil)) rfl)
      (pss_one (ps_fld (pv 0) (pv 2) rfl)))))), ?_⟩
  try simp only [tSeq, tAsg, tVar, tC, tOp, rI0, rI, tUn, rU, tIfS, tTest, tRet, tRetN, tDrop, tCB, tCons, tNil, tLst, tLstI, tTup, gName, tB, tAnd, tOr, tNot, tAndV, tOrV, tNotV, tIf, tNext, tBreak, tCont, gSub, tCall, tCallN, tAug, ipI, tBML, tBML0, isL_IL, isL_lst, L2.start, List.map_cons, List.map_nil, List.length_cons, List.length_nil, List.cons_append, List.nil_append, List.getElem?_cons_succ, List.getElem?_cons_zero, Option.some.injEq, exists_eq_left', exists_eq_left, exists_and_left, V.int.injEq, V.ref.injEq, V.bl.injEq, V.str.injEq, List.set_cons_zero, List.set_cons_succ, List.cons.injEq, and_true, true_and, Nat.reduceAdd, Nat.reduceSub, List.replicate_succ, List.replicate_zero, rIxI, rIxH, rIxTH, rSetI, rSetH, rCatI, rRepI, rSlI, rAppendI, rExtendI, decide_eq_true_eq, upd_same, IL_inj, HO.lst.injEq, toInts_cons, toInts_nil, Option.map_some, if_true, if_false, Bool.true_eq_false, Bool.false_eq_true, Bool.not_true, Bool.not_false, Bool.not_eq_true', decide_eq_false_iff_not, atI_0, atI_1, atI_2, atI_3, atI_4, Int.reduceToNat, Int.reduceLT, Int.reduceLE, Int.reduceNeg, Int.reducePow, cast_lit, upd_upd, Int.reduceAdd, Int.reduceMul, Int.reduceSub, Nat.reduceLT, Nat.reduceLeDiff, cmul_r, cdiv_r, tSl, tPart, tNoPart, rEq, rNe, scal_nn, scal_ii, scal_bb, scal_ss, scal_is, scal_si, V.ty.injEq, and_assoc, tyH_non, tyH_bl, tyH_int, tyH_str, tyH_ref, tyO_lst, tyO_IL, tyO_tup, itO_lst, itO_tup, itO_IL, Dw.rIxD, rLenI, rLenH, rLenTH, rLenQ, rLenB, rListI, Dw.rListS, rIntI, rIntB, rSumI, rIsiD, rIsX, tCallS, tMakeS, tMake, tMakeC, tMakeSC, tFld, sFld, HO.ins.injEq, HO.tup.injEq, cxOf_K, nox_K, tr_K, suite_K, rTupleI, rAllB, rAnyB, BL_inj, tChain, wOnly, wAs, wMany, rEqI, rNeI, Dw.rMax2, rMin2, Dw.rIsN, rIsNotN, rStrIn, rStrNotIn, not_true_eq_false, not_false_eq_true, reduceCtorEq, cl_bool, cl_int, cl_str, cl_list, cl_tuple, isB_NoneType_bool, isB_NoneType_int, isB_NoneType_str, isB_NoneType_list, isB_NoneType_tuple, isB_bool_bool, isB_bool_int, isB_bool_str, isB_bool_list, isB_bool_tuple, isB_int_bool, isB_int_int, isB_int_str, isB_int_list, isB_int_tuple, isB_str_bool, isB_str_int, isB_str_str, isB_str_list, isB_str_tuple, isB_list_bool, isB_list_int, isB_list_str, isB_list_list, isB_list_tuple, isB_tuple_bool, isB_tuple_int, isB_tuple_str, isB_tuple_list, isB_tuple_tuple, Dw.rIxL, rListTI, tMakeK, rTupT, tPar, Dw.rSlCI, rIsB, hx, hA]
  by_cases c1 : (60000 : Int) < ns.length
  · rw [if_pos c1]
    exact k2 (fun o => by have := o.1; omega) _ (Same.refl _)
  rw [if_neg c1]
  refine ⟨_, rfl, a, rfl, ⟨_, .of hA⟩, fun D hD => ?_⟩
  refine lc_listV (K := K) (a := a) (xs := ns.map V.int) (f := fun i => V.bl (decide (1 ≤ ns.getD i 0) && decide (ns.getD i 0 ≤ 1000000))) (by rw [List.length_map]; omega) (.of hA) hD (fun _ => rfl) ?_ fun H1 s1 e1 => ?_
  · intro i v H3 Q' hi s1 hq
    obtain ⟨z, rfl, hz⟩ := ints_at hi
    have ez : ns.getD i 0 = z := by rw [List.getD_eq_getElem?_getD, hz]; rfl
    rw [ez] at hq
    try simp only [tSeq, tAsg, tVar, tC, tOp, rI0, rI, tUn, rU, tIfS, tTest, tRet, tRetN, tDrop, tCB, tCons, tNil, tLst, tLstI, tTup, gName, tB, tAnd, tOr, tNot, tAndV, tOrV, tNotV, tIf, tNext, tBreak, tCont, gSub, tCall, tCallN, tAug, ipI, tBML, tBML0, isL_IL, isL_lst, L2.start, List.map_cons, List.map_nil, List.length_cons, List.length_nil, List.cons_append, List.nil_append, List.getElem?_cons_succ, List.getElem?_cons_zero, Option.some.injEq, exists_eq_left', exists_eq_left, exists_and_left, V.int.injEq, V.ref.injEq, V.bl.injEq, V.str.injEq, List.set_cons_zero, List.set_cons_succ, List.cons.injEq, and_true, true_and, Nat.reduceAdd, Nat.reduceSub, List.replicate_succ, List.replicate_zero, rIxI, rIxH, rIxTH, rSetI, rSetH, rCatI, rRepI, rSlI, rAppendI, rExtendI, decide_eq_true_eq, upd_same, IL_inj, HO.lst.injEq, toInts_cons, toInts_nil, Option.map_some, if_true, if_false, Bool.true_eq_false, Bool.false_eq_true, Bool.not_true, Bool.not_false, Bool.not_eq_true', decide_eq_false_iff_not, atI_0, atI_1, atI_2, atI_3, atI_4, Int.reduceToNat, Int.reduceLT, Int.reduceLE, Int.reduceNeg, Int.reducePow, cast_lit, upd_upd, Int.reduceAdd, Int.reduceMul, Int.reduceSub, Nat.reduceLT, Nat.reduceLeDiff, cmul_r, cdiv_r, tSl, tPart, tNoPart, rEq, rNe, scal_nn, scal_ii, scal_bb, scal_ss, scal_is, scal_si, V.ty.injEq, and_assoc, tyH_non, tyH_bl, tyH_int, tyH_str, tyH_ref, tyO_lst, tyO_IL, tyO_tup, itO_lst, itO_tup, itO_IL, Dw.rIxD, rLenI, rLenH, rLenTH, rLenQ, rLenB, rListI, Dw.rListS, rIntI, rIntB, rSumI, rIsiD, rIsX, tCallS, tMakeS, tMake, tMakeC, tMakeSC, tFld, sFld, HO.ins.injEq, HO.tup.injEq, cxOf_K, nox_K, tr_K, suite_K, rTupleI, rAllB, rAnyB, BL_inj, tChain, wOnly, wAs, wMany, rEqI, rNeI, Dw.rMax2, rMin2, Dw.rIsN, rIsNotN, rStrIn, rStrNotIn, not_true_eq_false, not_false_eq_true, reduceCtorEq, cl_bool, cl_int, cl_str, cl_list, cl_tuple, isB_NoneType_bool, isB_NoneType_int, isB_NoneType_str, isB_NoneType_list, isB_NoneType_tuple, isB_bool_bool, isB_bool_int, isB_bool_str, isB_bool_list, isB_bool_tuple, isB_int_bool, isB_int_int, isB_int_str, isB_int_list, isB_int_tuple, isB_str_bool, isB_str_int, isB_str_str, isB_str_list, isB_str_tuple, isB_list_bool, isB_list_int, isB_list_str, isB_list_list, isB_list_tuple, isB_tuple_bool, isB_tuple_int, isB_tuple_str, isB_tuple_list, isB_tuple_tuple, Dw.rIxL, rListTI, tMakeK, rTupT, tPar, Dw.rSlCI, rIsB, wipe]
    by_cases c : 1 ≤ z
    · rw [if_pos c]
      have := hq H3 (Same.refl _)
      rw [decide_eq_true c, Bool.true_and] at this
      exact this
    · rw [if_neg c]
      have := hq H3 (Same.refl _)
      rw [decide_eq_false c, Bool.false_and] at this
      exact this
  rw [List.length_map] at e1
  have e2 := BL_of e1
  have hx1 := s1 _ _ hx
  have hA1 := s1 _ _ hA
  try simp only [tSeq, tAsg, tVar, tC, tOp, rI0, rI, tUn, rU, tIfS, tTest, tRet, tRetN, tDrop, tCB, tCons, tNil, tLst, tLstI, tTup, gName, tB, tAnd, tOr, tNot, tAndV, tOrV, tNotV, tIf, tNext, tBreak, tCont, gSub, tCall, tCallN, tAug, ipI, tBML, tBML0, isL_IL, isL_lst, L2.start, List.map_cons, List.map_nil, List.length_cons, List.length_nil, List.cons_append, List.nil_append, List.getElem?_cons_succ, List.getElem?_cons_zero, Option.some.injEq, exists_eq_left', exists_eq_left, exists_and_left, V.int.injEq, V.ref.injEq, V.bl.injEq, V.str.injEq, List.set_cons_zero, List.set_cons_succ, List.cons.injEq, and_true, true_and, Nat.reduceAdd, Nat.reduceSub, List.replicate_succ, List.replicate_zero, rIxI, rIxH, rIxTH, rSetI, rSetH, rCatI, rRepI, rSlI, rAppendI, rExtendI, decide_eq_true_eq, upd_same, IL_inj, HO.lst.injEq, toInts_cons, toInts_nil, Option.map_some, if_true, if_false, Bool.true_eq_false, Bool.false_eq_true, Bool.not_true, Bool.not_false, Bool.not_eq_true', decide_eq_false_iff_not, atI_0, atI_1, atI_2, atI_3, atI_4, Int.reduceToNat, Int.reduceLT, Int.reduceLE, Int.reduceNeg, Int.reducePow, cast_lit, upd_upd, Int.reduceAdd, Int.reduceMul, Int.reduceSub, Nat.reduceLT, Nat.reduceLeDiff, cmul_r, cdiv_r, tSl, tPart, tNoPart, rEq, rNe, scal_nn, scal_ii, scal_bb, scal_ss, scal_is, scal_si, V.ty.injEq, and_assoc, tyH_non, tyH_bl, tyH_int, tyH_str, tyH_ref, tyO_lst, tyO_IL, tyO_tup, itO_lst, itO_tup, itO_IL, Dw.rIxD, rLenI, rLenH, rLenTH, rLenQ, rLenB, rListI, Dw.rListS, rIntI, rIntB, rSumI, rIsiD, rIsX, tCallS, tMakeS, tMake, tMakeC, tMakeSC, tFld, sFld, HO.ins.injEq, HO.tup.injEq, cxOf_K, nox_K, tr_K, suite_K, rTupleI, rAllB, rAnyB, BL_inj, tChain, wOnly, wAs, wMany, rEqI, rNeI, Dw.rMax2, rMin2, Dw.rIsN, rIsNotN, rStrIn, rStrNotIn, not_true_eq_false, not_false_eq_true, reduceCtorEq, cl_bool, cl_int, cl_str, cl_list, cl_tuple, isB_NoneType_bool, isB_NoneType_int, isB_NoneType_str, isB_NoneType_list, isB_NoneType_tuple, isB_bool_bool, isB_bool_int, isB_bool_str, isB_bool_list, isB_bool_tuple, isB_int_bool, isB_int_int, isB_int_str, isB_int_list, isB_int_tuple, isB_str_bool, isB_str_int, isB_str_str, isB_str_list, isB_str_tuple, isB_list_bool, isB_list_int, isB_list_str, isB_list_list, isB_list_tuple, isB_tuple_bool, isB_tuple_int, isB_tuple_str, isB_tuple_list, isB_tuple_tuple, Dw.rIxL, rListTI, tMakeK, rTupT, tPar, Dw.rSlCI, rIsB, e2, all_items (p := fun z => decide (1 ≤ z) && decide (z ≤ 1000000))]
  by_cases c2 : (ns.all fun z => decide (1 ≤ z) && decide (z ≤ 1000000)) = false
  · rw [if_pos c2]
    refine k2 (fun o => ?_) _ s1
    have : (ns.all fun z => decide (1 ≤ z) && decide (z ≤ 1000000)) = true := by
      rw [List.all_eq_true]
      intro z hz
      have := o.2.1 z hz
      rw [decide_eq_true this.1, decide_eq_true this.2]
      rfl
    rw [this] at c2
    cases c2
  rw [if_neg c2]
  have ok2 : ∀ t ∈ ns, 1 ≤ t ∧ t ≤ 1000000 := by
    have c3 : (ns.all fun z => decide (1 ≤ z) && decide (z ≤ 1000000)) = true := by
      cases h : (ns.all fun z => decide (1 ≤ z) && decide (z ≤ 1000000)) with
      | true => rfl
      | false => exact absurd h c2
    rw [List.all_eq_true] at c3
    intro t ht
    have := c3 t ht
    rw [Bool.and_eq_true] at this
    exact ⟨of_decide_eq_true this.1, of_decide_eq_true this.2⟩
  by_cases c3 : 0 ≤ rest
  · rw [if_pos c3]
    by_cases c4 : rest ≤ 1000000
    · try simp only [tSeq, tAsg, tVar, tC, tOp, rI0, rI, tUn, rU, tIfS, tTest, tRet, tRetN, tDrop, tCB, tCons, tNil, tLst, tLstI, tTup, gName, tB, tAnd, tOr, tNot, tAndV, tOrV, tNotV, tIf, tNext, tBreak, tCont, gSub, tCall, tCallN, tAug, ipI, tBML, tBML0, isL_IL, isL_lst, L2.start, List.map_cons, List.map_nil, List.length_cons, List.length_nil, List.cons_append, List.nil_append, List.getElem?_cons_succ, List.getElem?_cons_zero, Option.some.injEq, exists_eq_left', exists_eq_left, exists_and_left, V.int.injEq, V.ref.injEq, V.bl.injEq, V.str.injEq, List.set_cons_zero, List.set_cons_succ, List.cons.injEq, and_true, true_and, Nat.reduceAdd, Nat.reduceSub, List.replicate_succ, List.replicate_zero, rIxI, rIxH, rIxTH, rSetI, rSetH, rCatI, rRepI, rSlI, rAppendI, rExtendI, decide_eq_true_eq, upd_same, IL_inj, HO.lst.injEq, toInts_cons, toInts_nil, Option.map_some, if_true, if_false, Bool.true_eq_false, Bool.false_eq_true, Bool.not_true, Bool.not_false, Bool.not_eq_true', decide_eq_false_iff_not, atI_0, atI_1, atI_2, atI_3, atI_4, Int.reduceToNat, Int.reduceLT, Int.reduceLE, Int.reduceNeg, Int.reducePow, cast_lit, upd_upd, Int.reduceAdd, Int.reduceMul, Int.reduceSub, Nat.reduceLT, Nat.reduceLeDiff, cmul_r, cdiv_r, tSl, tPart, tNoPart, rEq, rNe, scal_nn, scal_ii, scal_bb, scal_ss, scal_is, scal_si, V.ty.injEq, and_assoc, tyH_non, tyH_bl, tyH_int, tyH_str, tyH_ref, tyO_lst, tyO_IL, tyO_tup, itO_lst, itO_tup, itO_IL, Dw.rIxD, rLenI, rLenH, rLenTH, rLenQ, rLenB, rListI, Dw.rListS, rIntI, rIntB, rSumI, rIsiD, rIsX, tCallS, tMakeS, tMake, tMakeC, tMakeSC, tFld, sFld, HO.ins.injEq, HO.tup.injEq, cxOf_K, nox_K, tr_K, suite_K, rTupleI, rAllB, rAnyB, BL_inj, tChain, wOnly, wAs, wMany, rEqI, rNeI, Dw.rMax2, rMin2, Dw.rIsN, rIsNotN, rStrIn, rStrNotIn, not_true_eq_false, not_false_eq_true, reduceCtorEq, cl_bool, cl_int, cl_str, cl_list, cl_tuple, isB_NoneType_bool, isB_NoneType_int, isB_NoneType_str, isB_NoneType_list, isB_NoneType_tuple, isB_bool_bool, isB_bool_int, isB_bool_str, isB_bool_list, isB_bool_tuple, isB_int_bool, isB_int_int, isB_int_str, isB_int_list, isB_int_tuple, isB_str_bool, isB_str_int, isB_str_str, isB_str_list, isB_str_tuple, isB_list_bool, isB_list_int, isB_list_str, isB_list_list, isB_list_tuple, isB_tuple_bool, isB_tuple_int, isB_tuple_str, isB_tuple_list, isB_tuple_tuple, Dw.rIxL, rListTI, tMakeK, rTupT, tPar, Dw.rSlCI, rIsB, c4, hA1]
      intro l hl
      have hxl : x ≠ l := ne_of_none hx1 hl
      have cl := T.cl_Read
      have n1 := T.na_Read_intervals
      have n2 := T.na_Read_rest
      try simp only [tSeq, tAsg, tVar, tC, tOp, rI0, rI, tUn, rU, tIfS, tTest, tRet, tRetN, tDrop, tCB, tCons, tNil, tLst, tLstI, tTup, gName, tB, tAnd, tOr, tNot, tAndV, tOrV, tNotV, tIf, tNext, tBreak, tCont, gSub, tCall, tCallN, tAug, ipI, tBML, tBML0, isL_IL, isL_lst, L2.start, List.map_cons, List.map_nil, List.length_cons, List.length_nil, List.cons_append, List.nil_append, List.getElem?_cons_succ, List.getElem?_cons_zero, Option.some.injEq, exists_eq_left', exists_eq_left, exists_and_left, V.int.injEq, V.ref.injEq, V.bl.injEq, V.str.injEq, List.set_cons_zero, List.set_cons_succ, List.cons.injEq, and_true, true_and, Nat.reduceAdd, Nat.reduceSub, List.replicate_succ, List.replicate_zero, rIxI, rIxH, rIxTH, rSetI, rSetH, rCatI, rRepI, rSlI, rAppendI, rExtendI, decide_eq_true_eq, upd_same, IL_inj, HO.lst.injEq, toInts_cons, toInts_nil, Option.map_some, if_true, if_false, Bool.true_eq_false, Bool.false_eq_true, Bool.not_true, Bool.not_false, Bool.not_eq_true', decide_eq_false_iff_not, atI_0, atI_1, atI_2, atI_3, atI_4, Int.reduceToNat, Int.reduceLT, Int.reduceLE, Int.reduceNeg, Int.reducePow, cast_lit, upd_upd, Int.reduceAdd, Int.reduceMul, Int.reduceSub, Nat.reduceLT, Nat.reduceLeDiff, cmul_r, cdiv_r, tSl, tPart, tNoPart, rEq, rNe, scal_nn, scal_ii, scal_bb, scal_ss, scal_is, scal_si, V.ty.injEq, and_assoc, tyH_non, tyH_bl, tyH_int, tyH_str, tyH_ref, tyO_lst, tyO_IL, tyO_tup, itO_lst, itO_tup, itO_IL, Dw.rIxD, rLenI, rLenH, rLenTH, rLenQ, rLenB, rListI, Dw.rListS, rIntI, rIntB, rSumI, rIsiD, rIsX, tCallS, tMakeS, tMake, tMakeC, tMakeSC, tFld, sFld, HO.ins.injEq, HO.tup.injEq, cxOf_K, nox_K, tr_K, suite_K, rTupleI, rAllB, rAnyB, BL_inj, tChain, wOnly, wAs, wMany, rEqI, rNeI, Dw.rMax2, rMin2, Dw.rIsN, rIsNotN, rStrIn, rStrNotIn, not_true_eq_false, not_false_eq_true, reduceCtorEq, cl_bool, cl_int, cl_str, cl_list, cl_tuple, isB_NoneType_bool, isB_NoneType_int, isB_NoneType_str, isB_NoneType_list, isB_NoneType_tuple, isB_bool_bool, isB_bool_int, isB_bool_str, isB_bool_list, isB_bool_tuple, isB_int_bool, isB_int_int, isB_int_str, isB_int_list, isB_int_tuple, isB_str_bool, isB_str_int, isB_str_str, isB_str_list, isB_str_tuple, isB_list_bool, isB_list_int, isB_list_str, isB_list_list, isB_list_tuple, isB_tuple_bool, isB_tuple_int, isB_tuple_str, isB_tuple_list, isB_tuple_tuple, Dw.rIxL, rListTI, tMakeK, rTupT, tPar, Dw.rSlCI, rIsB, upd_ne hxl, hx1, rf_put]
      refine ⟨cl, n1, cl, n2, (by show 1 < 1000; decide), ?_⟩
      refine k1 ⟨by omega, ok2, c3, c4⟩ l _ (by rw [hx]; simp) (fun b o n hb => ?_) (same_none s1 hl) upd_same ?_
      · rw [upd_ne n]
        exact same_new hl _ _ _ (s1 _ _ hb)
      · rw [upd_ne hxl.symm, upd_same]
    · try simp only [tSeq, tAsg, tVar, tC, tOp, rI0, rI, tUn, rU, tIfS, tTest, tRet, tRetN, tDrop, tCB, tCons, tNil, tLst, tLstI, tTup, gName, tB, tAnd, tOr, tNot, tAndV, tOrV, tNotV, tIf, tNext, tBreak, tCont, gSub, tCall, tCallN, tAug, ipI, tBML, tBML0, isL_IL, isL_lst, L2.start, List.map_cons, List.map_nil, List.length_cons, List.length_nil, List.cons_append, List.nil_append, List.getElem?_cons_succ, List.getElem?_cons_zero, Option.some.injEq, exists_eq_left', exists_eq_left, exists_and_left, V.int.injEq, V.ref.injEq, V.bl.injEq, V.str.injEq, List.set_cons_zero, List.set_cons_succ, List.cons.injEq, and_true, true_and, Nat.reduceAdd, Nat.reduceSub, List.replicate_succ, List.replicate_zero, rIxI, rIxH, rIxTH, rSetI, rSetH, rCatI, rRepI, rSlI, rAppendI, rExtendI, decide_eq_true_eq, upd_same, IL_inj, HO.lst.injEq, toInts_cons, toInts_nil, Option.map_some, if_true, if_false, Bool.true_eq_false, Bool.false_eq_true, Bool.not_true, Bool.not_false, Bool.not_eq_true', decide_eq_false_iff_not, atI_0, atI_1, atI_2, atI_3, atI_4, Int.reduceToNat, Int.reduceLT, Int.reduceLE, Int.reduceNeg, Int.reducePow, cast_lit, upd_upd, Int.reduceAdd, Int.reduceMul, Int.reduceSub, Nat.reduceLT, Nat.reduceLeDiff, cmul_r, cdiv_r, tSl, tPart, tNoPart, rEq, rNe, scal_nn, scal_ii, scal_bb, scal_ss, scal_is, scal_si, V.ty.injEq, and_assoc, tyH_non, tyH_bl, tyH_int, tyH_str, tyH_ref, tyO_lst, tyO_IL, tyO_tup, itO_lst, itO_tup, itO_IL, Dw.rIxD, rLenI, rLenH, rLenTH, rLenQ, rLenB, rListI, Dw.rListS, rIntI, rIntB, rSumI, rIsiD, rIsX, tCallS, tMakeS, tMake, tMakeC, tMakeSC, tFld, sFld, HO.ins.injEq, HO.tup.injEq, cxOf_K, nox_K, tr_K, suite_K, rTupleI, rAllB, rAnyB, BL_inj, tChain, wOnly, wAs, wMany, rEqI, rNeI, Dw.rMax2, rMin2, Dw.rIsN, rIsNotN, rStrIn, rStrNotIn, not_true_eq_false, not_false_eq_true, reduceCtorEq, cl_bool, cl_int, cl_str, cl_list, cl_tuple, isB_NoneType_bool, isB_NoneType_int, isB_NoneType_str, isB_NoneType_list, isB_NoneType_tuple, isB_bool_bool, isB_bool_int, isB_bool_str, isB_bool_list, isB_bool_tuple, isB_int_bool, isB_int_int, isB_int_str, isB_int_list, isB_int_tuple, isB_str_bool, isB_str_int, isB_str_str, isB_str_list, isB_str_tuple, isB_list_bool, isB_list_int, isB_list_str, isB_list_list, isB_list_tuple, isB_tuple_bool, isB_tuple_int, isB_tuple_str, isB_tuple_list, isB_tuple_tuple, Dw.rIxL, rListTI, tMakeK, rTupT, tPar, Dw.rSlCI, rIsB, c4]
      exact k2 (fun o => c4 o.2.2.2) _ s1
  · rw [if_neg c3]
    exact k2 (fun o => c3 o.2.2.1) _ s1
end
section
variable {P : Program} {w : World} {K : PySem.W.Frag} {mg : Str → Option Value} {base : Heap} {A : Ad}
theorem ok_is_cell (T : Tx K mg A) : FnOk P w K mg base CX0 1 A.f_is_cell A.d_is_cell ["cell"] spIsCell := by
  refine T.F_is_cell.ok sc_is_cell (fun vs H Q E h => ?_) (fun cdv A' outer s H vs Q E hr h => ?_)
  · obtain ⟨c, rfl, _⟩ := h
    rfl
  obtain ⟨c, rfl, k⟩ := h
  refine ⟨_, (pss_one (ps_ret (pe_chain op_le op_le (pe_glob rfl T.c_LEAST_CELL T.r_LEAST_CELL) (pv 0) (pe_glob rfl T.c_GREATEST_CELL T.r_GREATEST_CELL) (by with_unfolding_all rfl)))), ?_⟩
  try simp only [tSeq, tAsg, tVar, tC, tOp, rI0, rI, tUn, rU, tIfS, tTest, tRet, tRetN, tDrop, tCB, tCons, tNil, tLst, tLstI, tTup, gName, tB, tAnd, tOr, tNot, tAndV, tOrV, tNotV, tIf, tNext, tBreak, tCont, gSub, tCall, tCallN, tAug, ipI, tBML, tBML0, isL_IL, isL_lst, L2.start, List.map_cons, List.map_nil, List.length_cons, List.length_nil, List.cons_append, List.nil_append, List.getElem?_cons_succ, List.getElem?_cons_zero, Option.some.injEq, exists_eq_left', exists_eq_left, exists_and_left, V.int.injEq, V.ref.injEq, V.bl.injEq, V.str.injEq, List.set_cons_zero, List.set_cons_succ, List.cons.injEq, and_true, true_and, Nat.reduceAdd, Nat.reduceSub, List.replicate_succ, List.replicate_zero, rIxI, rIxH, rIxTH, rSetI, rSetH, rCatI, rRepI, rSlI, rAppendI, rExtendI, decide_eq_true_eq, upd_same, IL_inj, HO.lst.injEq, toInts_cons, toInts_nil, Option.map_some, if_true, if_false, Bool.true_eq_false, Bool.false_eq_true, Bool.not_true, Bool.not_false, Bool.not_eq_true', decide_eq_false_iff_not, atI_0, atI_1, atI_2, atI_3, atI_4, Int.reduceToNat, Int.reduceLT, Int.reduceLE, Int.reduceNeg, Int.reducePow, cast_lit, upd_upd, Int.reduceAdd, Int.reduceMul, Int.reduceSub, Nat.reduceLT, Nat.reduceLeDiff, cmul_r, cdiv_r, tSl, tPart, tNoPart, rEq, rNe, scal_nn, scal_ii, scal_bb, scal_ss, scal_is, scal_si, V.ty.injEq, and_assoc, tyH_non, tyH_bl, tyH_int, tyH_str, tyH_ref, tyO_lst, tyO_IL, tyO_tup, itO_lst, itO_tup, itO_IL, Dw.rIxD, rLenI, rLenH, rLenTH, rLenQ, rLenB, rListI, Dw.rListS, rIntI, rIntB, rSumI, rIsiD, rIsX, tCallS, tMakeS, tMake, tMakeC, tMakeSC, tFld, sFld, HO.ins.injEq, HO.tup.injEq, cxOf_K, nox_K, tr_K, suite_K, rTupleI, rAllB, rAnyB, BL_inj, tChain, wOnly, wAs, wMany, rEqI, rNeI, Dw.rMax2, rMin2, Dw.rIsN, rIsNotN, rStrIn, rStrNotIn, not_true_eq_false, not_false_eq_true, reduceCtorEq, cl_bool, cl_int, cl_str, cl_list, cl_tuple, isB_NoneType_bool, isB_NoneType_int, isB_NoneType_str, isB_NoneType_list, isB_NoneType_tuple, isB_bool_bool, isB_bool_int, isB_bool_str, isB_bool_list, isB_bool_tuple, isB_int_bool, isB_int_int, isB_int_str, isB_int_list, isB_int_tuple, isB_str_bool, isB_str_int, isB_str_str, isB_str_list, isB_str_tuple, isB_list_bool, isB_list_int, isB_list_str, isB_list_list, isB_list_tuple, isB_tuple_bool, isB_tuple_int, isB_tuple_str, isB_tuple_list, isB_tuple_tuple, Dw.rIxL, rListTI, tMakeK, rTupT, tPar, Dw.rSlCI, rIsB]
  by_cases c1 : 10 ≤ c
  · rw [if_pos c1]
    rw [decide_eq_true c1, Bool.true_and] at k
    exact k
  · rw [if_neg c1]
    rw [decide_eq_false c1, Bool.false_and] at k
    exact k
theorem ok_check_cell (T : Tx K mg A) : FnOk P w K mg base (L2.CX P w) 2 A.f_check_cell A.d_check_cell ["cell"] (spCheckCell A.c_InvalidCell) := by
  refine T.F_check_cell.okX sc_check_cell (fun vs H Q E h => ?_) (fun cdv A' outer s H vs Q E hr h => ?_)
  · obtain ⟨c, rfl, _⟩ := h
    rfl
  obtain ⟨c, rfl, k1, k2⟩ := h
  refine ⟨_, (pss_one (ps_if (pt_not (pt_val (pe_call (ok_is_cell T) (hr.mono (by decide)) rfl T.g_is_cell T.F_is_cell.kp T.b_is_cell .nil pass0 (pa_cons (pv 0) pa_nil)))) (pss_one (ps_raise rfl (takes_of rfl rfl rfl rfl) (pmk_own PySem.F.excBase_ValueError T.x_InvalidCell.x T.x_InvalidCell.g T.x_InvalidCell.k (raises_own T.x_InvalidCell.b T.x_InvalidCell.t) rfl))) pss_nil)), ?_⟩
  try simp only [tSeq, tAsg, tVar, tC, tOp, rI0, rI, tUn, rU, tIfS, tTest, tRet, tRetN, tDrop, tCB, tCons, tNil, tLst, tLstI, tTup, gName, tB, tAnd, tOr, tNot, tAndV, tOrV, tNotV, tIf, tNext, tBreak, tCont, gSub, tCall, tCallN, tAug, ipI, tBML, tBML0, isL_IL, isL_lst, L2.start, List.map_cons, List.map_nil, List.length_cons, List.length_nil, List.cons_append, List.nil_append, List.getElem?_cons_succ, List.getElem?_cons_zero, Option.some.injEq, exists_eq_left', exists_eq_left, exists_and_left, V.int.injEq, V.ref.injEq, V.bl.injEq, V.str.injEq, List.set_cons_zero, List.set_cons_succ, List.cons.injEq, and_true, true_and, Nat.reduceAdd, Nat.reduceSub, List.replicate_succ, List.replicate_zero, rIxI, rIxH, rIxTH, rSetI, rSetH, rCatI, rRepI, rSlI, rAppendI, rExtendI, decide_eq_true_eq, upd_same, IL_inj, HO.lst.injEq, toInts_cons, toInts_nil, Option.map_some, if_true, if_false, Bool.true_eq_false, Bool.false_eq_true, Bool.not_true, Bool.not_false, Bool.not_eq_true', decide_eq_false_iff_not, atI_0, atI_1, atI_2, atI_3, atI_4, Int.reduceToNat, Int.reduceLT, Int.reduceLE, Int.reduceNeg, Int.reducePow, cast_lit, upd_upd, Int.reduceAdd, Int.reduceMul, Int.reduceSub, Nat.reduceLT, Nat.reduceLeDiff, cmul_r, cdiv_r, tSl, tPart, tNoPart, rEq, rNe, scal_nn, scal_ii, scal_bb, scal_ss, scal_is, scal_si, V.ty.injEq, and_assoc, tyH_non, tyH_bl, tyH_int, tyH_str, tyH_ref, tyO_lst, tyO_IL, tyO_tup, itO_lst, itO_tup, itO_IL, Dw.rIxD, rLenI, rLenH, rLenTH, rLenQ, rLenB, rListI, Dw.rListS, rIntI, rIntB, rSumI, rIsiD, rIsX, tCallS, tMakeS, tMake, tMakeC, tMakeSC, tFld, sFld, HO.ins.injEq, HO.tup.injEq, cxOf_K, nox_K, tr_K, suite_K, rTupleI, rAllB, rAnyB, BL_inj, tChain, wOnly, wAs, wMany, rEqI, rNeI, Dw.rMax2, rMin2, Dw.rIsN, rIsNotN, rStrIn, rStrNotIn, not_true_eq_false, not_false_eq_true, reduceCtorEq, cl_bool, cl_int, cl_str, cl_list, cl_tuple, isB_NoneType_bool, isB_NoneType_int, isB_NoneType_str, isB_NoneType_list, isB_NoneType_tuple, isB_bool_bool, isB_bool_int, isB_bool_str, isB_bool_list, isB_bool_tuple, isB_int_bool, isB_int_int, isB_int_str, isB_int_list, isB_int_tuple, isB_str_bool, isB_str_int, isB_str_str, isB_str_list, isB_str_tuple, isB_list_bool, isB_list_int, isB_list_str, isB_list_list, isB_list_tuple, isB_tuple_bool, isB_tuple_int, isB_tuple_str, isB_tuple_list, isB_tuple_tuple, Dw.rIxL, rListTI, tMakeK, rTupT, tPar, Dw.rSlCI, rIsB, spIsCell]
  unfold okCell at k1 k2
  by_cases c1 : 10 ≤ c
  · by_cases c2 : c ≤ 1000
    · try simp only [tSeq, tAsg, tVar, tC, tOp, rI0, rI, tUn, rU, tIfS, tTest, tRet, tRetN, tDrop, tCB, tCons, tNil, tLst, tLstI, tTup, gName, tB, tAnd, tOr, tNot, tAndV, tOrV, tNotV, tIf, tNext, tBreak, tCont, gSub, tCall, tCallN, tAug, ipI, tBML, tBML0, isL_IL, isL_lst, L2.start, List.map_cons, List.map_nil, List.length_cons, List.length_nil, List.cons_append, List.nil_append, List.getElem?_cons_succ, List.getElem?_cons_zero, Option.some.injEq, exists_eq_left', exists_eq_left, exists_and_left, V.int.injEq, V.ref.injEq, V.bl.injEq, V.str.injEq, List.set_cons_zero, List.set_cons_succ, List.cons.injEq, and_true, true_and, Nat.reduceAdd, Nat.reduceSub, List.replicate_succ, List.replicate_zero, rIxI, rIxH, rIxTH, rSetI, rSetH, rCatI, rRepI, rSlI, rAppendI, rExtendI, decide_eq_true_eq, upd_same, IL_inj, HO.lst.injEq, toInts_cons, toInts_nil, Option.map_some, if_true, if_false, Bool.true_eq_false, Bool.false_eq_true, Bool.not_true, Bool.not_false, Bool.not_eq_true', decide_eq_false_iff_not, atI_0, atI_1, atI_2, atI_3, atI_4, Int.reduceToNat, Int.reduceLT, Int.reduceLE, Int.reduceNeg, Int.reducePow, cast_lit, upd_upd, Int.reduceAdd, Int.reduceMul, Int.reduceSub, Nat.reduceLT, Nat.reduceLeDiff, cmul_r, cdiv_r, tSl, tPart, tNoPart, rEq, rNe, scal_nn, scal_ii, scal_bb, scal_ss, scal_is, scal_si, V.ty.injEq, and_assoc, tyH_non, tyH_bl, tyH_int, tyH_str, tyH_ref, tyO_lst, tyO_IL, tyO_tup, itO_lst, itO_tup, itO_IL, Dw.rIxD, rLenI, rLenH, rLenTH, rLenQ, rLenB, rListI, Dw.rListS, rIntI, rIntB, rSumI, rIsiD, rIsX, tCallS, tMakeS, tMake, tMakeC, tMakeSC, tFld, sFld, HO.ins.injEq, HO.tup.injEq, cxOf_K, nox_K, tr_K, suite_K, rTupleI, rAllB, rAnyB, BL_inj, tChain, wOnly, wAs, wMany, rEqI, rNeI, Dw.rMax2, rMin2, Dw.rIsN, rIsNotN, rStrIn, rStrNotIn, not_true_eq_false, not_false_eq_true, reduceCtorEq, cl_bool, cl_int, cl_str, cl_list, cl_tuple, isB_NoneType_bool, isB_NoneType_int, isB_NoneType_str, isB_NoneType_list, isB_NoneType_tuple, isB_bool_bool, isB_bool_int, isB_bool_str, isB_bool_list, isB_bool_tuple, isB_int_bool, isB_int_int, isB_int_str, isB_int_list, isB_int_tuple, isB_str_bool, isB_str_int, isB_str_str, isB_str_list, isB_str_tuple, isB_list_bool, isB_list_int, isB_list_str, isB_list_list, isB_list_tuple, isB_tuple_bool, isB_tuple_int, isB_tuple_str, isB_tuple_list, isB_tuple_tuple, Dw.rIxL, rListTI, tMakeK, rTupT, tPar, Dw.rSlCI, rIsB, c1, c2, decide_true, Bool.and_true]
      exact k1 ⟨c1, c2⟩
    · try simp only [tSeq, tAsg, tVar, tC, tOp, rI0, rI, tUn, rU, tIfS, tTest, tRet, tRetN, tDrop, tCB, tCons, tNil, tLst, tLstI, tTup, gName, tB, tAnd, tOr, tNot, tAndV, tOrV, tNotV, tIf, tNext, tBreak, tCont, gSub, tCall, tCallN, tAug, ipI, tBML, tBML0, isL_IL, isL_lst, L2.start, List.map_cons, List.map_nil, List.length_cons, List.length_nil, List.cons_append, List.nil_append, List.getElem?_cons_succ, List.getElem?_cons_zero, Option.some.injEq, exists_eq_left', exists_eq_left, exists_and_left, V.int.injEq, V.ref.injEq, V.bl.injEq, V.str.injEq, List.set_cons_zero, List.set_cons_succ, List.cons.injEq, and_true, true_and, Nat.reduceAdd, Nat.reduceSub, List.replicate_succ, List.replicate_zero, rIxI, rIxH, rIxTH, rSetI, rSetH, rCatI, rRepI, rSlI, rAppendI, rExtendI, decide_eq_true_eq, upd_same, IL_inj, HO.lst.injEq, toInts_cons, toInts_nil, Option.map_some, if_true, if_false, Bool.true_eq_false, Bool.false_eq_true, Bool.not_true, Bool.not_false, Bool.not_eq_true', decide_eq_false_iff_not, atI_0, atI_1, atI_2, atI_3, atI_4, Int.reduceToNat, Int.reduceLT, Int.reduceLE, Int.reduceNeg, Int.reducePow, cast_lit, upd_upd, Int.reduceAdd, Int.reduceMul, Int.reduceSub, Nat.reduceLT, Nat.reduceLeDiff, cmul_r, cdiv_r, tSl, tPart, tNoPart, rEq, rNe, scal_nn, scal_ii, scal_bb, scal_ss, scal_is, scal_si, V.ty.injEq, and_assoc, tyH_non, tyH_bl, tyH_int, tyH_str, tyH_ref, tyO_lst, tyO_IL, tyO_tup, itO_lst, itO_tup, itO_IL, Dw.rIxD, rLenI, rLenH, rLenTH, rLenQ, rLenB, rListI, Dw.rListS, rIntI, rIntB, rSumI, rIsiD, rIsX, tCallS, tMakeS, tMake, tMakeC, tMakeSC, tFld, sFld, HO.ins.injEq, HO.tup.injEq, cxOf_K, nox_K, tr_K, suite_K, rTupleI, rAllB, rAnyB, BL_inj, tChain, wOnly, wAs, wMany, rEqI, rNeI, Dw.rMax2, rMin2, Dw.rIsN, rIsNotN, rStrIn, rStrNotIn, not_true_eq_false, not_false_eq_true, reduceCtorEq, cl_bool, cl_int, cl_str, cl_list, cl_tuple, isB_NoneType_bool, isB_NoneType_int, isB_NoneType_str, isB_NoneType_list, isB_NoneType_tuple, isB_bool_bool, isB_bool_int, isB_bool_str, isB_bool_list, isB_bool_tuple, isB_int_bool, isB_int_int, isB_int_str, isB_int_list, isB_int_tuple, isB_str_bool, isB_str_int, isB_str_str, isB_str_list, isB_str_tuple, isB_list_bool, isB_list_int, isB_list_str, isB_list_list, isB_list_tuple, isB_tuple_bool, isB_tuple_int, isB_tuple_str, isB_tuple_list, isB_tuple_tuple, Dw.rIxL, rListTI, tMakeK, rTupT, tPar, Dw.rSlCI, rIsB, c1, c2, decide_true, decide_false, Bool.and_false]
      exact k2 (fun o => c2 o.2)
  · try simp only [tSeq, tAsg, tVar, tC, tOp, rI0, rI, tUn, rU, tIfS, tTest, tRet, tRetN, tDrop, tCB, tCons, tNil, tLst, tLstI, tTup, gName, tB, tAnd, tOr, tNot, tAndV, tOrV, tNotV, tIf, tNext, tBreak, tCont, gSub, tCall, tCallN, tAug, ipI, tBML, tBML0, isL_IL, isL_lst, L2.start, List.map_cons, List.map_nil, List.length_cons, List.length_nil, List.cons_append, List.nil_append, List.getElem?_cons_succ, List.getElem?_cons_zero, Option.some.injEq, exists_eq_left', exists_eq_left, exists_and_left, V.int.injEq, V.ref.injEq, V.bl.injEq, V.str.injEq, List.set_cons_zero, List.set_cons_succ, List.cons.injEq, and_true, true_and, Nat.reduceAdd, Nat.reduceSub, List.replicate_succ, List.replicate_zero, rIxI, rIxH, rIxTH, rSetI, rSetH, rCatI, rRepI, rSlI, rAppendI, rExtendI, decide_eq_true_eq, upd_same, IL_inj, HO.lst.injEq, toInts_cons, toInts_nil, Option.map_some, if_true, if_false, Bool.true_eq_false, Bool.false_eq_true, Bool.not_true, Bool.not_false, Bool.not_eq_true', decide_eq_false_iff_not, atI_0, atI_1, atI_2, atI_3, atI_4, Int.reduceToNat, Int.reduceLT, Int.reduceLE, Int.reduceNeg, Int.reducePow, cast_lit, upd_upd, Int.reduceAdd, Int.reduceMul, Int.reduceSub, Nat.reduceLT, Nat.reduceLeDiff, cmul_r, cdiv_r, tSl, tPart, tNoPart, rEq, rNe, scal_nn, scal_ii, scal_bb, scal_ss, scal_is, scal_si, V.ty.injEq, and_assoc, tyH_non, tyH_bl, tyH_int, tyH_str, tyH_ref, tyO_lst, tyO_IL, tyO_tup, itO_lst, itO_tup, itO_IL, Dw.rIxD, rLenI, rLenH, rLenTH, rLenQ, rLenB, rListI, Dw.rListS, rIntI, rIntB, rSumI, rIsiD, rIsX, tCallS, tMakeS, tMake, tMakeC, tMakeSC, tFld, sFld, HO.ins.injEq, HO.tup.injEq, cxOf_K, nox_K, tr_K, suite_K, rTupleI, rAllB, rAnyB, BL_inj, tChain, wOnly, wAs, wMany, rEqI, rNeI, Dw.rMax2, rMin2, Dw.rIsN, rIsNotN, rStrIn, rStrNotIn, not_true_eq_false, not_false_eq_true, reduceCtorEq, cl_bool, cl_int, cl_str, cl_list, cl_tuple, isB_NoneType_bool, isB_NoneType_int, isB_NoneType_str, isB_NoneType_list, isB_NoneType_tuple, isB_bool_bool, isB_bool_int, isB_bool_str, isB_bool_list, isB_bool_tuple, isB_int_bool, isB_int_int, isB_int_str, isB_int_list, isB_int_tuple, isB_str_bool, isB_str_int, isB_str_str, isB_str_list, isB_str_tuple, isB_list_bool, isB_list_int, isB_list_str, isB_list_list, isB_list_tuple, isB_tuple_bool, isB_tuple_int, isB_tuple_str, isB_tuple_list, isB_tuple_tuple, Dw.rIxL, rListTI, tMakeK, rTupT, tPar, Dw.rSlCI, rIsB, c1, decide_false, Bool.false_and]
    exact k2 (fun o => c1 o.1)
end
section
variable {P : Program} {w : World} {K : PySem.W.Frag} {mg : Str → Option Value} {base : Heap} {A : Ad}
theorem ok_flux_of (T : Tx K mg A) : FnOk P w K mg base (L2.CX P w) 3 A.f_flux_of A.d_flux_of ["cells", "cell"] (spFlux A.c_Read A.c_InvalidCell A.c_InvalidRead) := by
  refine T.F_flux_of.okX sc_flux_of (fun vs H Q E h => ?_) (fun cdv A' outer s H vs Q E hr h => ?_)
  · obtain ⟨a, c, cells, rfl, _⟩ := h
    rfl
  obtain ⟨a, c, cells, rfl, hA, hlen, k1, k2, k3⟩ := h
  refine ⟨_, (pss_cons (ps_expr (pe_call (ok_check_cell T) (hr.mono (by decide)) rfl T.g_check_cell T.F_check_cell.kp T.b_check_cell .nil (passW (takes_of rfl rfl rfl rfl) (fun _ _ _ _ h => h)) (pa_cons (pv 1) pa_nil)))
      (pss_cons (ps_set (i := 2) sc_flux_of.nd rfl (Or.inl rfl) (pe_lstI pa_nil))
      (pss_cons (ps_set (i := 3) sc_flux_of.nd rfl (Or.inl rfl) pe_int)
      (pss_cons (ps_for (passes_of rfl) rfl (pi_list (pv 0)) (pg_name (i := 4) sc_flux_of.nd rfl (Or.inl rfl))
        (pss_cons (ps_aug (i := 3) sc_flux_of.nd rfl (Or.inl rfl) pe_int ip_add)
      (pss_one (ps_if (pt_cmpR op_eq (pv 4) pe_int (nomark _)) (pss_cons (ps_expr (PE.imp (pe_bm PySem.F.plainAttrs_list PySem.F.slot_list_append PySem.F.type_list_append mt_appendI (pv 2) (pa_cons (pe_op op_mul (pv 1) (pv 3)) pa_nil)) bml_imp))
      (pss_one (ps_set (i := 3) sc_flux_of.nd rfl (Or.inl rfl) pe_int))) pss_nil))))
      (pss_one (ps_ret (pe_makeC conv_read T.mk_Read (ok_Readinit T) (hr.mono (by decide)) rfl T.gc_Read T.b_Readinit (passW (takes_of rfl rfl rfl rfl) (fun _ _ _ _ h => h)) (pa_cons (pv 2) (pa_cons (pe_op op_mul (pv 1) (pv 3)) pa_nil))))))))), ?_⟩
  try simp only [tSeq, tAsg, tVar, tC, tOp, rI0, rI, tUn, rU, tIfS, tTest, tRet, tRetN, tDrop, tCB, tCons, tNil, tLst, tLstI, tTup, gName, tB, tAnd, tOr, tNot, tAndV, tOrV, tNotV, tIf, tNext, tBreak, tCont, gSub, tCall, tCallN, tAug, ipI, tBML, tBML0, isL_IL, isL_lst, L2.start, List.map_cons, List.map_nil, List.length_cons, List.length_nil, List.cons_append, List.nil_append, List.getElem?_cons_succ, List.getElem?_cons_zero, Option.some.injEq, exists_eq_left', exists_eq_left, exists_and_left, V.int.injEq, V.ref.injEq, V.bl.injEq, V.str.injEq, List.set_cons_zero, List.set_cons_succ, List.cons.injEq, and_true, true_and, Nat.reduceAdd, Nat.reduceSub, List.replicate_succ, List.replicate_zero, rIxI, rIxH, rIxTH, rSetI, rSetH, rCatI, rRepI, rSlI, rAppendI, rExtendI, decide_eq_true_eq, upd_same, IL_inj, HO.lst.injEq, toInts_cons, toInts_nil, Option.map_some, if_true, if_false, Bool.true_eq_false, Bool.false_eq_true, Bool.not_true, Bool.not_false, Bool.not_eq_true', decide_eq_false_iff_not, atI_0, atI_1, atI_2, atI_3, atI_4, Int.reduceToNat, Int.reduceLT, Int.reduceLE, Int.reduceNeg, Int.reducePow, cast_lit, upd_upd, Int.reduceAdd, Int.reduceMul, Int.reduceSub, Nat.reduceLT, Nat.reduceLeDiff, cmul_r, cdiv_r, tSl, tPart, tNoPart, rEq, rNe, scal_nn, scal_ii, scal_bb, scal_ss, scal_is, scal_si, V.ty.injEq, and_assoc, tyH_non, tyH_bl, tyH_int, tyH_str, tyH_ref, tyO_lst, tyO_IL, tyO_tup, itO_lst, itO_tup, itO_IL, Dw.rIxD, rLenI, rLenH, rLenTH, rLenQ, rLenB, rListI, Dw.rListS, rIntI, rIntB, rSumI, rIsiD, rIsX, tCallS, tMakeS, tMake, tMakeC, tMakeSC, tFld, sFld, HO.ins.injEq, HO.tup.injEq, cxOf_K, nox_K, tr_K, suite_K, rTupleI, rAllB, rAnyB, BL_inj, tChain, wOnly, wAs, wMany, rEqI, rNeI, Dw.rMax2, rMin2, Dw.rIsN, rIsNotN, rStrIn, rStrNotIn, not_true_eq_false, not_false_eq_true, reduceCtorEq, cl_bool, cl_int, cl_str, cl_list, cl_tuple, isB_NoneType_bool, isB_NoneType_int, isB_NoneType_str, isB_NoneType_list, isB_NoneType_tuple, isB_bool_bool, isB_bool_int, isB_bool_str, isB_bool_list, isB_bool_tuple, isB_int_bool, isB_int_int, isB_int_str, isB_int_list, isB_int_tuple, isB_str_bool, isB_str_int, isB_str_str, isB_str_list, isB_str_tuple, isB_list_bool, isB_list_int, isB_list_str, isB_list_list, isB_list_tuple, isB_tuple_bool, isB_tuple_int, isB_tuple_str, isB_tuple_list, isB_tuple_tuple, Dw.rIxL, rListTI, tMakeK, rTupT, tPar, Dw.rSlCI, rIsB]
  refine ⟨c, rfl, fun oc => ?_, fun no => k3 no⟩
  have k1 := k1 oc
  have k2 := k2 oc
  obtain ⟨c10, c1000⟩ := oc
  refine ⟨line_le (by decide), fun l hl0 => ?_⟩
  have s0 : Same H (upd H l (IL [])) := same_new hl0 _
  obtain ⟨I, hI⟩ : ∃ F : Nat → L2.St → Hp → Prop, F = (fun i σ H' => Same H H' ∧ H' l = some (IL (fluxS c (cells.take i)).1) ∧ ∃ z, σ = [some (.ref a), some (.int c), some (.ref l), some (.int (fluxS c (cells.take i)).2), z]) := ⟨_, rfl⟩
  refine ⟨_, rfl, a, rfl, ⟨_, .of (s0 _ _ hA)⟩, for_list (xs := cells.map V.int) I (by rw [hI]; exact ⟨s0, upd_same, none, rfl⟩) ?_ ?_ ?_⟩
  · intro i σ H' hi h
    rw [hI] at h
    exact .of (h.1 _ _ hA)
  · intro i v σ H' hi h
    rw [hI] at h
    obtain ⟨s1, e1, z', rfl⟩ := h
    obtain ⟨b, rfl, hb⟩ := ints_at hi
    have hlt : i < cells.length := (List.getElem?_eq_some_iff.mp hb).1
    have hbd := fluxS_bound c cells i (by omega)
    have hmo := fluxS_more (c := c) hb
    have cm : ∀ x, CMul c x := fun x => .inl ⟨by omega, by omega⟩
    try simp only [tSeq, tAsg, tVar, tC, tOp, rI0, rI, tUn, rU, tIfS, tTest, tRet, tRetN, tDrop, tCB, tCons, tNil, tLst, tLstI, tTup, gName, tB, tAnd, tOr, tNot, tAndV, tOrV, tNotV, tIf, tNext, tBreak, tCont, gSub, tCall, tCallN, tAug, ipI, tBML, tBML0, isL_IL, isL_lst, L2.start, List.map_cons, List.map_nil, List.length_cons, List.length_nil, List.cons_append, List.nil_append, List.getElem?_cons_succ, List.getElem?_cons_zero, Option.some.injEq, exists_eq_left', exists_eq_left, exists_and_left, V.int.injEq, V.ref.injEq, V.bl.injEq, V.str.injEq, List.set_cons_zero, List.set_cons_succ, List.cons.injEq, and_true, true_and, Nat.reduceAdd, Nat.reduceSub, List.replicate_succ, List.replicate_zero, rIxI, rIxH, rIxTH, rSetI, rSetH, rCatI, rRepI, rSlI, rAppendI, rExtendI, decide_eq_true_eq, upd_same, IL_inj, HO.lst.injEq, toInts_cons, toInts_nil, Option.map_some, if_true, if_false, Bool.true_eq_false, Bool.false_eq_true, Bool.not_true, Bool.not_false, Bool.not_eq_true', decide_eq_false_iff_not, atI_0, atI_1, atI_2, atI_3, atI_4, Int.reduceToNat, Int.reduceLT, Int.reduceLE, Int.reduceNeg, Int.reducePow, cast_lit, upd_upd, Int.reduceAdd, Int.reduceMul, Int.reduceSub, Nat.reduceLT, Nat.reduceLeDiff, cmul_r, cdiv_r, tSl, tPart, tNoPart, rEq, rNe, scal_nn, scal_ii, scal_bb, scal_ss, scal_is, scal_si, V.ty.injEq, and_assoc, tyH_non, tyH_bl, tyH_int, tyH_str, tyH_ref, tyO_lst, tyO_IL, tyO_tup, itO_lst, itO_tup, itO_IL, Dw.rIxD, rLenI, rLenH, rLenTH, rLenQ, rLenB, rListI, Dw.rListS, rIntI, rIntB, rSumI, rIsiD, rIsX, tCallS, tMakeS, tMake, tMakeC, tMakeSC, tFld, sFld, HO.ins.injEq, HO.tup.injEq, cxOf_K, nox_K, tr_K, suite_K, rTupleI, rAllB, rAnyB, BL_inj, tChain, wOnly, wAs, wMany, rEqI, rNeI, Dw.rMax2, rMin2, Dw.rIsN, rIsNotN, rStrIn, rStrNotIn, not_true_eq_false, not_false_eq_true, reduceCtorEq, cl_bool, cl_int, cl_str, cl_list, cl_tuple, isB_NoneType_bool, isB_NoneType_int, isB_NoneType_str, isB_NoneType_list, isB_NoneType_tuple, isB_bool_bool, isB_bool_int, isB_bool_str, isB_bool_list, isB_bool_tuple, isB_int_bool, isB_int_int, isB_int_str, isB_int_list, isB_int_tuple, isB_str_bool, isB_str_int, isB_str_str, isB_str_list, isB_str_tuple, isB_list_bool, isB_list_int, isB_list_str, isB_list_list, isB_list_tuple, isB_tuple_bool, isB_tuple_int, isB_tuple_str, isB_tuple_list, isB_tuple_tuple, Dw.rIxL, rListTI, tMakeK, rTupT, tPar, Dw.rSlCI, rIsB, e1, cm]
    by_cases h1 : b = 1
    · rw [if_pos h1]
      refine ⟨line_lt (by omega), ?_⟩
      rw [hI]
      refine ⟨fun b o hb => ?_, ?_, some (.int b), ?_⟩
      · rw [upd_ne (ne_of_none hb hl0)]
        exact s1 _ _ hb
      · rw [upd_same, hmo]
        unfold fluxT
        rw [if_pos h1]
      · rw [hmo]
        unfold fluxT
        rw [if_pos h1]
    · rw [if_neg h1]
      rw [hI]
      refine ⟨s1, ?_, some (.int b), ?_⟩
      · rw [e1, hmo]
        unfold fluxT
        rw [if_neg h1]
      · rw [hmo]
        unfold fluxT
        rw [if_neg h1]
  · intro σ H' h
    rw [hI] at h
    obtain ⟨s1, e1, z', rfl⟩ := h
    rw [List.length_map, List.take_length] at e1 ⊢
    have cm : ∀ x, CMul c x := fun x => .inl ⟨by omega, by omega⟩
    try simp only [tSeq, tAsg, tVar, tC, tOp, rI0, rI, tUn, rU, tIfS, tTest, tRet, tRetN, tDrop, tCB, tCons, tNil, tLst, tLstI, tTup, gName, tB, tAnd, tOr, tNot, tAndV, tOrV, tNotV, tIf, tNext, tBreak, tCont, gSub, tCall, tCallN, tAug, ipI, tBML, tBML0, isL_IL, isL_lst, L2.start, List.map_cons, List.map_nil, List.length_cons, List.length_nil, List.cons_append, List.nil_append, List.getElem?_cons_succ, List.getElem?_cons_zero, Option.some.injEq, exists_eq_left', exists_eq_left, exists_and_left, V.int.injEq, V.ref.injEq, V.bl.injEq, V.str.injEq, List.set_cons_zero, List.set_cons_succ, List.cons.injEq, and_true, true_and, Nat.reduceAdd, Nat.reduceSub, List.replicate_succ, List.replicate_zero, rIxI, rIxH, rIxTH, rSetI, rSetH, rCatI, rRepI, rSlI, rAppendI, rExtendI, decide_eq_true_eq, upd_same, IL_inj, HO.lst.injEq, toInts_cons, toInts_nil, Option.map_some, if_true, if_false, Bool.true_eq_false, Bool.false_eq_true, Bool.not_true, Bool.not_false, Bool.not_eq_true', decide_eq_false_iff_not, atI_0, atI_1, atI_2, atI_3, atI_4, Int.reduceToNat, Int.reduceLT, Int.reduceLE, Int.reduceNeg, Int.reducePow, cast_lit, upd_upd, Int.reduceAdd, Int.reduceMul, Int.reduceSub, Nat.reduceLT, Nat.reduceLeDiff, cmul_r, cdiv_r, tSl, tPart, tNoPart, rEq, rNe, scal_nn, scal_ii, scal_bb, scal_ss, scal_is, scal_si, V.ty.injEq, and_assoc, tyH_non, tyH_bl, tyH_int, tyH_str, tyH_ref, tyO_lst, tyO_IL, tyO_tup, itO_lst, itO_tup, itO_IL, Dw.rIxD, rLenI, rLenH, rLenTH, rLenQ, rLenB, rListI, Dw.rListS, rIntI, rIntB, rSumI, rIsiD, rIsX, tCallS, tMakeS, tMake, tMakeC, tMakeSC, tFld, sFld, HO.ins.injEq, HO.tup.injEq, cxOf_K, nox_K, tr_K, suite_K, rTupleI, rAllB, rAnyB, BL_inj, tChain, wOnly, wAs, wMany, rEqI, rNeI, Dw.rMax2, rMin2, Dw.rIsN, rIsNotN, rStrIn, rStrNotIn, not_true_eq_false, not_false_eq_true, reduceCtorEq, cl_bool, cl_int, cl_str, cl_list, cl_tuple, isB_NoneType_bool, isB_NoneType_int, isB_NoneType_str, isB_NoneType_list, isB_NoneType_tuple, isB_bool_bool, isB_bool_int, isB_bool_str, isB_bool_list, isB_bool_tuple, isB_int_bool, isB_int_int, isB_int_str, isB_int_list, isB_int_tuple, isB_str_bool, isB_str_int, isB_str_str, isB_str_list, isB_str_tuple, isB_list_bool, isB_list_int, isB_list_str, isB_list_list, isB_list_tuple, isB_tuple_bool, isB_tuple_int, isB_tuple_str, isB_tuple_list, isB_tuple_tuple, Dw.rIxL, rListTI, tMakeK, rTupT, tPar, Dw.rSlCI, rIsB, cm]
    exact ⟨l, _, _, rfl, e1, fun ok r H2 s2 n2 hrd => k1 ok r H2 (s1.trans s2) (same_none s1 n2) hrd, fun no H2 s2 => k2 no H2 (s1.trans s2)⟩
end
section
variable {P : Program} {w : World} {K : PySem.W.Frag} {mg : Str → Option Value} {base : Heap} {A : Ad}
theorem ok_fixed_cells (T : Tx K mg A) : FnOk P w K mg base (L2.CX P w) 3 A.f_fixed_cells A.d_fixed_cells ["read", "cell"] (spFixed A.c_Read A.c_InvalidCell) := by
  refine T.F_fixed_cells.okX sc_fixed_cells (fun vs H Q E h => ?_) (fun cdv A' outer s H vs Q E hr h => ?_)
  · obtain ⟨r, c, ns, rest, rfl, _⟩ := h
    rfl
  obtain ⟨r, c, ns, rest, rfl, ⟨dx, t, hR, hT⟩, ok, k1, k2⟩ := h
  refine ⟨_, (pss_cons (ps_expr (pe_call (ok_check_cell T) (hr.mono (by decide)) rfl T.g_check_cell T.F_check_cell.kp T.b_check_cell .nil (passW (takes_of rfl rfl rfl rfl) (fun _ _ _ _ h => h)) (pa_cons (pv 1) pa_nil)))
      (pss_cons (ps_set (i := 2) sc_fixed_cells.nd rfl (Or.inl rfl) (pe_lstI pa_nil))
      (pss_cons (ps_for (passes_of rfl) rfl (pi_tup (pe_fld (pv 0) rfl)) (pg_name (i := 3) sc_fixed_cells.nd rfl (Or.inl rfl))
        (pss_cons (ps_set (i := 4) sc_fixed_cells.nd rfl (Or.inl rfl) (pe_callB (call_maxI rfl) (by rfl) T.z_max (by decide +kernel) (pa_cons pe_int (pa_cons (pe_op op_fdiv (pe_op op_add (pe_op op_mul pe_int (pv 3)) (pv 1)) (pe_op op_mul pe_int (pv 1))) pa_nil))))
      (pss_cons (ps_expr (PE.imp (pe_bm PySem.F.plainAttrs_list PySem.F.slot_list_extend PySem.F.type_list_extend mt_extendI (pv 2) (pa_cons (pe_op op_repI (pe_lstI (pa_cons pe_int pa_nil)) (pe_op op_sub (pv 4) pe_int)) pa_nil)) bml_imp))
      (pss_one (ps_expr (PE.imp (pe_bm PySem.F.plainAttrs_list PySem.F.slot_list_append PySem.F.type_list_append mt_appendI (pv 2) (pa_cons pe_int pa_nil)) bml_imp))))))
      (pss_cons (ps_expr (PE.imp (pe_bm PySem.F.plainAttrs_list PySem.F.slot_list_extend PySem.F.type_list_extend mt_extendI (pv 2) (pa_cons (pe_op op_repI (pe_lstI (pa_cons pe_int pa_nil)) (pe_op op_fdiv (pe_op op_add (pe_op op_mul pe_int (pe_fld (pv 0) rfl)) (pv 1)) (pe_op op_mul pe_int (pv 1)))) pa_nil)) bml_imp))
      (pss_one (ps_ret (pv 2))))))), ?_⟩
  try simp only [tSeq, tAsg, tVar, tC, tOp, rI0, rI, tUn, rU, tIfS, tTest, tRet, tRetN, tDrop, tCB, tCons, tNil, tLst, tLstI, tTup, gName, tB, tAnd, tOr, tNot, tAndV, tOrV, tNotV, tIf, tNext, tBreak, tCont, gSub, tCall, tCallN, tAug, ipI, tBML, tBML0, isL_IL, isL_lst, L2.start, List.map_cons, List.map_nil, List.length_cons, List.length_nil, List.cons_append, List.nil_append, List.getElem?_cons_succ, List.getElem?_cons_zero, Option.some.injEq, exists_eq_left', exists_eq_left, exists_and_left, V.int.injEq, V.ref.injEq, V.bl.injEq, V.str.injEq, List.set_cons_zero, List.set_cons_succ, List.cons.injEq, and_true, true_and, Nat.reduceAdd, Nat.reduceSub, List.replicate_succ, List.replicate_zero, rIxI, rIxH, rIxTH, rSetI, rSetH, rCatI, rRepI, rSlI, rAppendI, rExtendI, decide_eq_true_eq, upd_same, IL_inj, HO.lst.injEq, toInts_cons, toInts_nil, Option.map_some, if_true, if_false, Bool.true_eq_false, Bool.false_eq_true, Bool.not_true, Bool.not_false, Bool.not_eq_true', decide_eq_false_iff_not, atI_0, atI_1, atI_2, atI_3, atI_4, Int.reduceToNat, Int.reduceLT, Int.reduceLE, Int.reduceNeg, Int.reducePow, cast_lit, upd_upd, Int.reduceAdd, Int.reduceMul, Int.reduceSub, Nat.reduceLT, Nat.reduceLeDiff, cmul_r, cdiv_r, tSl, tPart, tNoPart, rEq, rNe, scal_nn, scal_ii, scal_bb, scal_ss, scal_is, scal_si, V.ty.injEq, and_assoc, tyH_non, tyH_bl, tyH_int, tyH_str, tyH_ref, tyO_lst, tyO_IL, tyO_tup, itO_lst, itO_tup, itO_IL, Dw.rIxD, rLenI, rLenH, rLenTH, rLenQ, rLenB, rListI, Dw.rListS, rIntI, rIntB, rSumI, rIsiD, rIsX, tCallS, tMakeS, tMake, tMakeC, tMakeSC, tFld, sFld, HO.ins.injEq, HO.tup.injEq, cxOf_K, nox_K, tr_K, suite_K, rTupleI, rAllB, rAnyB, BL_inj, tChain, wOnly, wAs, wMany, rEqI, rNeI, Dw.rMax2, rMin2, Dw.rIsN, rIsNotN, rStrIn, rStrNotIn, not_true_eq_false, not_false_eq_true, reduceCtorEq, cl_bool, cl_int, cl_str, cl_list, cl_tuple, isB_NoneType_bool, isB_NoneType_int, isB_NoneType_str, isB_NoneType_list, isB_NoneType_tuple, isB_bool_bool, isB_bool_int, isB_bool_str, isB_bool_list, isB_bool_tuple, isB_int_bool, isB_int_int, isB_int_str, isB_int_list, isB_int_tuple, isB_str_bool, isB_str_int, isB_str_str, isB_str_list, isB_str_tuple, isB_list_bool, isB_list_int, isB_list_str, isB_list_list, isB_list_tuple, isB_tuple_bool, isB_tuple_int, isB_tuple_str, isB_tuple_list, isB_tuple_tuple, Dw.rIxL, rListTI, tMakeK, rTupT, tPar, Dw.rSlCI, rIsB]
  refine ⟨c, rfl, fun oc => ?_, fun no => k2 no⟩
  obtain ⟨few, k1⟩ := k1 oc
  obtain ⟨c10, c1000⟩ := oc
  refine ⟨line_le (by decide), fun l hl0 => ?_⟩
  have s0 : Same H (upd H l (IL [])) := same_new hl0 _
  obtain ⟨I, hI⟩ : ∃ F : Nat → L2.St → Hp → Prop, F = (fun i σ H' => Same H H' ∧ H' l = some (IL (fixedP (ns.take i) c)) ∧ ∃ y z, σ = [some (.ref r), some (.int c), some (.ref l), y, z]) := ⟨_, rfl⟩
  refine ⟨_, rfl, r, _, dx, _, _, rfl, s0 _ _ hR, T.cl_Read, T.na_Read_intervals, rf_int t rest, t, rfl, ⟨_, .of (s0 _ _ hT)⟩, for_tup (xs := ns.map V.int) I (by rw [hI]; exact ⟨s0, upd_same, none, none, rfl⟩) ?_ ?_ ?_⟩
  · intro i σ H' hi h
    rw [hI] at h
    exact .of (h.1 _ _ hT)
  · intro i v σ H' hi h
    rw [hI] at h
    obtain ⟨s1, e1, y, z', rfl⟩ := h
    obtain ⟨z, rfl, hz⟩ := ints_at hi
    have hzr := ok.2.1 z (List.mem_of_getElem? hz)
    have hlt : i < ns.length := (List.getElem?_eq_some_iff.mp hz).1
    have hN : nCells z c ≤ 2002000 := by
      unfold nCells
      have : (2 * z + c) / (2 * c) ≤ (2 * z + c) := Int.ediv_le_self _ (by omega)
      omega
    have en : (2 * z + c) / (2 * c) = nCells z c := rfl
    have hm : 1 ≤ max 1 (nCells z c) := by omega
    have hlen := fixedP_take_len ns c (i + 1)
    rw [fixedP_more hz, List.length_append] at hlen
    have hol := oneCells_nat hm
    have nn := nCells_nn (t := rest) (c := c) ok.2.2.1 (by omega)
    unfold Few at few
    have cd : CDiv (2 * z + c) (2 * c) := ⟨by omega, by omega⟩
    have cm1 : CMul 2 z := .inl ⟨by decide, by decide⟩
    have cm2 : CMul 2 c := .inl ⟨by decide, by decide⟩
    try simp only [tSeq, tAsg, tVar, tC, tOp, rI0, rI, tUn, rU, tIfS, tTest, tRet, tRetN, tDrop, tCB, tCons, tNil, tLst, tLstI, tTup, gName, tB, tAnd, tOr, tNot, tAndV, tOrV, tNotV, tIf, tNext, tBreak, tCont, gSub, tCall, tCallN, tAug, ipI, tBML, tBML0, isL_IL, isL_lst, L2.start, List.map_cons, List.map_nil, List.length_cons, List.length_nil, List.cons_append, List.nil_append, List.getElem?_cons_succ, List.getElem?_cons_zero, Option.some.injEq, exists_eq_left', exists_eq_left, exists_and_left, V.int.injEq, V.ref.injEq, V.bl.injEq, V.str.injEq, List.set_cons_zero, List.set_cons_succ, List.cons.injEq, and_true, true_and, Nat.reduceAdd, Nat.reduceSub, List.replicate_succ, List.replicate_zero, rIxI, rIxH, rIxTH, rSetI, rSetH, rCatI, rRepI, rSlI, rAppendI, rExtendI, decide_eq_true_eq, upd_same, IL_inj, HO.lst.injEq, toInts_cons, toInts_nil, Option.map_some, if_true, if_false, Bool.true_eq_false, Bool.false_eq_true, Bool.not_true, Bool.not_false, Bool.not_eq_true', decide_eq_false_iff_not, atI_0, atI_1, atI_2, atI_3, atI_4, Int.reduceToNat, Int.reduceLT, Int.reduceLE, Int.reduceNeg, Int.reducePow, cast_lit, upd_upd, Int.reduceAdd, Int.reduceMul, Int.reduceSub, Nat.reduceLT, Nat.reduceLeDiff, cmul_r, cdiv_r, tSl, tPart, tNoPart, rEq, rNe, scal_nn, scal_ii, scal_bb, scal_ss, scal_is, scal_si, V.ty.injEq, and_assoc, tyH_non, tyH_bl, tyH_int, tyH_str, tyH_ref, tyO_lst, tyO_IL, tyO_tup, itO_lst, itO_tup, itO_IL, Dw.rIxD, rLenI, rLenH, rLenTH, rLenQ, rLenB, rListI, Dw.rListS, rIntI, rIntB, rSumI, rIsiD, rIsX, tCallS, tMakeS, tMake, tMakeC, tMakeSC, tFld, sFld, HO.ins.injEq, HO.tup.injEq, cxOf_K, nox_K, tr_K, suite_K, rTupleI, rAllB, rAnyB, BL_inj, tChain, wOnly, wAs, wMany, rEqI, rNeI, Dw.rMax2, rMin2, Dw.rIsN, rIsNotN, rStrIn, rStrNotIn, not_true_eq_false, not_false_eq_true, reduceCtorEq, cl_bool, cl_int, cl_str, cl_list, cl_tuple, isB_NoneType_bool, isB_NoneType_int, isB_NoneType_str, isB_NoneType_list, isB_NoneType_tuple, isB_bool_bool, isB_bool_int, isB_bool_str, isB_bool_list, isB_bool_tuple, isB_int_bool, isB_int_int, isB_int_str, isB_int_list, isB_int_tuple, isB_str_bool, isB_str_int, isB_str_str, isB_str_list, isB_str_tuple, isB_list_bool, isB_list_int, isB_list_str, isB_list_list, isB_list_tuple, isB_tuple_bool, isB_tuple_int, isB_tuple_str, isB_tuple_list, isB_tuple_tuple, Dw.rIxL, rListTI, tMakeK, rTupT, tPar, Dw.rSlCI, rIsB, e1, cd, cm1, cm2, en]
    refine ⟨line_le (by decide), fun u hu => ⟨by omega, by omega, line_le (by show 1 * _ ≤ _; omega), fun u2 hu2 => ?_⟩⟩
    have n1 : l ≠ u := ne_of_none e1 hu
    have hu2' : H' u2 = none := same_none (same_new hu _) hu2
    have n2 : l ≠ u2 := ne_of_none e1 hu2'
    try simp only [tSeq, tAsg, tVar, tC, tOp, rI0, rI, tUn, rU, tIfS, tTest, tRet, tRetN, tDrop, tCB, tCons, tNil, tLst, tLstI, tTup, gName, tB, tAnd, tOr, tNot, tAndV, tOrV, tNotV, tIf, tNext, tBreak, tCont, gSub, tCall, tCallN, tAug, ipI, tBML, tBML0, isL_IL, isL_lst, L2.start, List.map_cons, List.map_nil, List.length_cons, List.length_nil, List.cons_append, List.nil_append, List.getElem?_cons_succ, List.getElem?_cons_zero, Option.some.injEq, exists_eq_left', exists_eq_left, exists_and_left, V.int.injEq, V.ref.injEq, V.bl.injEq, V.str.injEq, List.set_cons_zero, List.set_cons_succ, List.cons.injEq, and_true, true_and, Nat.reduceAdd, Nat.reduceSub, List.replicate_succ, List.replicate_zero, rIxI, rIxH, rIxTH, rSetI, rSetH, rCatI, rRepI, rSlI, rAppendI, rExtendI, decide_eq_true_eq, upd_same, IL_inj, HO.lst.injEq, toInts_cons, toInts_nil, Option.map_some, if_true, if_false, Bool.true_eq_false, Bool.false_eq_true, Bool.not_true, Bool.not_false, Bool.not_eq_true', decide_eq_false_iff_not, atI_0, atI_1, atI_2, atI_3, atI_4, Int.reduceToNat, Int.reduceLT, Int.reduceLE, Int.reduceNeg, Int.reducePow, cast_lit, upd_upd, Int.reduceAdd, Int.reduceMul, Int.reduceSub, Nat.reduceLT, Nat.reduceLeDiff, cmul_r, cdiv_r, tSl, tPart, tNoPart, rEq, rNe, scal_nn, scal_ii, scal_bb, scal_ss, scal_is, scal_si, V.ty.injEq, and_assoc, tyH_non, tyH_bl, tyH_int, tyH_str, tyH_ref, tyO_lst, tyO_IL, tyO_tup, itO_lst, itO_tup, itO_IL, Dw.rIxD, rLenI, rLenH, rLenTH, rLenQ, rLenB, rListI, Dw.rListS, rIntI, rIntB, rSumI, rIsiD, rIsX, tCallS, tMakeS, tMake, tMakeC, tMakeSC, tFld, sFld, HO.ins.injEq, HO.tup.injEq, cxOf_K, nox_K, tr_K, suite_K, rTupleI, rAllB, rAnyB, BL_inj, tChain, wOnly, wAs, wMany, rEqI, rNeI, Dw.rMax2, rMin2, Dw.rIsN, rIsNotN, rStrIn, rStrNotIn, not_true_eq_false, not_false_eq_true, reduceCtorEq, cl_bool, cl_int, cl_str, cl_list, cl_tuple, isB_NoneType_bool, isB_NoneType_int, isB_NoneType_str, isB_NoneType_list, isB_NoneType_tuple, isB_bool_bool, isB_bool_int, isB_bool_str, isB_bool_list, isB_bool_tuple, isB_int_bool, isB_int_int, isB_int_str, isB_int_list, isB_int_tuple, isB_str_bool, isB_str_int, isB_str_str, isB_str_list, isB_str_tuple, isB_list_bool, isB_list_int, isB_list_str, isB_list_list, isB_list_tuple, isB_tuple_bool, isB_tuple_int, isB_tuple_str, isB_tuple_list, isB_tuple_tuple, Dw.rIxL, rListTI, tMakeK, rTupT, tPar, Dw.rSlCI, rIsB, upd_ne n1, upd_ne n2, e1, rep_zero]
    refine ⟨?_, ?_, ?_⟩
    · rw [List.length_replicate]
      exact line_le (by omega)
    · rw [List.length_append, List.length_replicate]
      exact line_lt (by omega)
    · rw [hI]
      refine ⟨fun b o hb => ?_, ?_, _, _, rfl⟩
      · rw [upd_ne (ne_of_none hb hl0)]
        exact same_new hu2 _ _ _ (same_new hu _ _ _ (s1 _ _ hb))
      · rw [upd_same, fixedP_more hz]
        unfold oneCells
        rw [List.append_assoc]
  · intro σ H' h
    rw [hI] at h
    obtain ⟨s1, e1, y, z', rfl⟩ := h
    rw [List.length_map, List.take_length] at e1
    try simp only [tSeq, tAsg, tVar, tC, tOp, rI0, rI, tUn, rU, tIfS, tTest, tRet, tRetN, tDrop, tCB, tCons, tNil, tLst, tLstI, tTup, gName, tB, tAnd, tOr, tNot, tAndV, tOrV, tNotV, tIf, tNext, tBreak, tCont, gSub, tCall, tCallN, tAug, ipI, tBML, tBML0, isL_IL, isL_lst, L2.start, List.map_cons, List.map_nil, List.length_cons, List.length_nil, List.cons_append, List.nil_append, List.getElem?_cons_succ, List.getElem?_cons_zero, Option.some.injEq, exists_eq_left', exists_eq_left, exists_and_left, V.int.injEq, V.ref.injEq, V.bl.injEq, V.str.injEq, List.set_cons_zero, List.set_cons_succ, List.cons.injEq, and_true, true_and, Nat.reduceAdd, Nat.reduceSub, List.replicate_succ, List.replicate_zero, rIxI, rIxH, rIxTH, rSetI, rSetH, rCatI, rRepI, rSlI, rAppendI, rExtendI, decide_eq_true_eq, upd_same, IL_inj, HO.lst.injEq, toInts_cons, toInts_nil, Option.map_some, if_true, if_false, Bool.true_eq_false, Bool.false_eq_true, Bool.not_true, Bool.not_false, Bool.not_eq_true', decide_eq_false_iff_not, atI_0, atI_1, atI_2, atI_3, atI_4, Int.reduceToNat, Int.reduceLT, Int.reduceLE, Int.reduceNeg, Int.reducePow, cast_lit, upd_upd, Int.reduceAdd, Int.reduceMul, Int.reduceSub, Nat.reduceLT, Nat.reduceLeDiff, cmul_r, cdiv_r, tSl, tPart, tNoPart, rEq, rNe, scal_nn, scal_ii, scal_bb, scal_ss, scal_is, scal_si, V.ty.injEq, and_assoc, tyH_non, tyH_bl, tyH_int, tyH_str, tyH_ref, tyO_lst, tyO_IL, tyO_tup, itO_lst, itO_tup, itO_IL, Dw.rIxD, rLenI, rLenH, rLenTH, rLenQ, rLenB, rListI, Dw.rListS, rIntI, rIntB, rSumI, rIsiD, rIsX, tCallS, tMakeS, tMake, tMakeC, tMakeSC, tFld, sFld, HO.ins.injEq, HO.tup.injEq, cxOf_K, nox_K, tr_K, suite_K, rTupleI, rAllB, rAnyB, BL_inj, tChain, wOnly, wAs, wMany, rEqI, rNeI, Dw.rMax2, rMin2, Dw.rIsN, rIsNotN, rStrIn, rStrNotIn, not_true_eq_false, not_false_eq_true, reduceCtorEq, cl_bool, cl_int, cl_str, cl_list, cl_tuple, isB_NoneType_bool, isB_NoneType_int, isB_NoneType_str, isB_NoneType_list, isB_NoneType_tuple, isB_bool_bool, isB_bool_int, isB_bool_str, isB_bool_list, isB_bool_tuple, isB_int_bool, isB_int_int, isB_int_str, isB_int_list, isB_int_tuple, isB_str_bool, isB_str_int, isB_str_str, isB_str_list, isB_str_tuple, isB_list_bool, isB_list_int, isB_list_str, isB_list_list, isB_list_tuple, isB_tuple_bool, isB_tuple_int, isB_tuple_str, isB_tuple_list, isB_tuple_tuple, Dw.rIxL, rListTI, tMakeK, rTupT, tPar, Dw.rSlCI, rIsB]
    have hR' := s1 _ _ hR
    have nn := nCells_nn (t := rest) (c := c) ok.2.2.1 (by omega)
    have en : (2 * rest + c) / (2 * c) = nCells rest c := rfl
    unfold Few at few
    have cd : CDiv (2 * rest + c) (2 * c) := ⟨by omega, by omega⟩
    have cm1 : CMul 2 rest := .inl ⟨by decide, by decide⟩
    have cm2 : CMul 2 c := .inl ⟨by decide, by decide⟩
    have cl := T.cl_Read
    have na := T.na_Read_rest
    have hl1 : isL (H' l) = true := by rw [e1]; rfl
    try simp only [tSeq, tAsg, tVar, tC, tOp, rI0, rI, tUn, rU, tIfS, tTest, tRet, tRetN, tDrop, tCB, tCons, tNil, tLst, tLstI, tTup, gName, tB, tAnd, tOr, tNot, tAndV, tOrV, tNotV, tIf, tNext, tBreak, tCont, gSub, tCall, tCallN, tAug, ipI, tBML, tBML0, isL_IL, isL_lst, L2.start, List.map_cons, List.map_nil, List.length_cons, List.length_nil, List.cons_append, List.nil_append, List.getElem?_cons_succ, List.getElem?_cons_zero, Option.some.injEq, exists_eq_left', exists_eq_left, exists_and_left, V.int.injEq, V.ref.injEq, V.bl.injEq, V.str.injEq, List.set_cons_zero, List.set_cons_succ, List.cons.injEq, and_true, true_and, Nat.reduceAdd, Nat.reduceSub, List.replicate_succ, List.replicate_zero, rIxI, rIxH, rIxTH, rSetI, rSetH, rCatI, rRepI, rSlI, rAppendI, rExtendI, decide_eq_true_eq, upd_same, IL_inj, HO.lst.injEq, toInts_cons, toInts_nil, Option.map_some, if_true, if_false, Bool.true_eq_false, Bool.false_eq_true, Bool.not_true, Bool.not_false, Bool.not_eq_true', decide_eq_false_iff_not, atI_0, atI_1, atI_2, atI_3, atI_4, Int.reduceToNat, Int.reduceLT, Int.reduceLE, Int.reduceNeg, Int.reducePow, cast_lit, upd_upd, Int.reduceAdd, Int.reduceMul, Int.reduceSub, Nat.reduceLT, Nat.reduceLeDiff, cmul_r, cdiv_r, tSl, tPart, tNoPart, rEq, rNe, scal_nn, scal_ii, scal_bb, scal_ss, scal_is, scal_si, V.ty.injEq, and_assoc, tyH_non, tyH_bl, tyH_int, tyH_str, tyH_ref, tyO_lst, tyO_IL, tyO_tup, itO_lst, itO_tup, itO_IL, Dw.rIxD, rLenI, rLenH, rLenTH, rLenQ, rLenB, rListI, Dw.rListS, rIntI, rIntB, rSumI, rIsiD, rIsX, tCallS, tMakeS, tMake, tMakeC, tMakeSC, tFld, sFld, HO.ins.injEq, HO.tup.injEq, cxOf_K, nox_K, tr_K, suite_K, rTupleI, rAllB, rAnyB, BL_inj, tChain, wOnly, wAs, wMany, rEqI, rNeI, Dw.rMax2, rMin2, Dw.rIsN, rIsNotN, rStrIn, rStrNotIn, not_true_eq_false, not_false_eq_true, reduceCtorEq, cl_bool, cl_int, cl_str, cl_list, cl_tuple, isB_NoneType_bool, isB_NoneType_int, isB_NoneType_str, isB_NoneType_list, isB_NoneType_tuple, isB_bool_bool, isB_bool_int, isB_bool_str, isB_bool_list, isB_bool_tuple, isB_int_bool, isB_int_int, isB_int_str, isB_int_list, isB_int_tuple, isB_str_bool, isB_str_int, isB_str_str, isB_str_list, isB_str_tuple, isB_list_bool, isB_list_int, isB_list_str, isB_list_list, isB_list_tuple, isB_tuple_bool, isB_tuple_int, isB_tuple_str, isB_tuple_list, isB_tuple_tuple, Dw.rIxL, rListTI, tMakeK, rTupT, tPar, Dw.rSlCI, rIsB, hl1]
    refine ⟨line_le (by decide), fun u hu => ?_⟩
    have hRu := same_new hu (IL [0]) _ _ hR'
    have n1 : l ≠ u := ne_of_none e1 hu
    try simp only [tSeq, tAsg, tVar, tC, tOp, rI0, rI, tUn, rU, tIfS, tTest, tRet, tRetN, tDrop, tCB, tCons, tNil, tLst, tLstI, tTup, gName, tB, tAnd, tOr, tNot, tAndV, tOrV, tNotV, tIf, tNext, tBreak, tCont, gSub, tCall, tCallN, tAug, ipI, tBML, tBML0, isL_IL, isL_lst, L2.start, List.map_cons, List.map_nil, List.length_cons, List.length_nil, List.cons_append, List.nil_append, List.getElem?_cons_succ, List.getElem?_cons_zero, Option.some.injEq, exists_eq_left', exists_eq_left, exists_and_left, V.int.injEq, V.ref.injEq, V.bl.injEq, V.str.injEq, List.set_cons_zero, List.set_cons_succ, List.cons.injEq, and_true, true_and, Nat.reduceAdd, Nat.reduceSub, List.replicate_succ, List.replicate_zero, rIxI, rIxH, rIxTH, rSetI, rSetH, rCatI, rRepI, rSlI, rAppendI, rExtendI, decide_eq_true_eq, upd_same, IL_inj, HO.lst.injEq, toInts_cons, toInts_nil, Option.map_some, if_true, if_false, Bool.true_eq_false, Bool.false_eq_true, Bool.not_true, Bool.not_false, Bool.not_eq_true', decide_eq_false_iff_not, atI_0, atI_1, atI_2, atI_3, atI_4, Int.reduceToNat, Int.reduceLT, Int.reduceLE, Int.reduceNeg, Int.reducePow, cast_lit, upd_upd, Int.reduceAdd, Int.reduceMul, Int.reduceSub, Nat.reduceLT, Nat.reduceLeDiff, cmul_r, cdiv_r, tSl, tPart, tNoPart, rEq, rNe, scal_nn, scal_ii, scal_bb, scal_ss, scal_is, scal_si, V.ty.injEq, and_assoc, tyH_non, tyH_bl, tyH_int, tyH_str, tyH_ref, tyO_lst, tyO_IL, tyO_tup, itO_lst, itO_tup, itO_IL, Dw.rIxD, rLenI, rLenH, rLenTH, rLenQ, rLenB, rListI, Dw.rListS, rIntI, rIntB, rSumI, rIsiD, rIsX, tCallS, tMakeS, tMake, tMakeC, tMakeSC, tFld, sFld, HO.ins.injEq, HO.tup.injEq, cxOf_K, nox_K, tr_K, suite_K, rTupleI, rAllB, rAnyB, BL_inj, tChain, wOnly, wAs, wMany, rEqI, rNeI, Dw.rMax2, rMin2, Dw.rIsN, rIsNotN, rStrIn, rStrNotIn, not_true_eq_false, not_false_eq_true, reduceCtorEq, cl_bool, cl_int, cl_str, cl_list, cl_tuple, isB_NoneType_bool, isB_NoneType_int, isB_NoneType_str, isB_NoneType_list, isB_NoneType_tuple, isB_bool_bool, isB_bool_int, isB_bool_str, isB_bool_list, isB_bool_tuple, isB_int_bool, isB_int_int, isB_int_str, isB_int_list, isB_int_tuple, isB_str_bool, isB_str_int, isB_str_str, isB_str_list, isB_str_tuple, isB_list_bool, isB_list_int, isB_list_str, isB_list_list, isB_list_tuple, isB_tuple_bool, isB_tuple_int, isB_tuple_str, isB_tuple_list, isB_tuple_tuple, Dw.rIxL, rListTI, tMakeK, rTupT, tPar, Dw.rSlCI, rIsB, hRu, cl, na, rf_rest, cm1, cm2, cd, en]
    refine ⟨by omega, by omega, line_le (by show 1 * _ ≤ _; omega), fun u2 hu2 => ?_⟩
    have hu2' : H' u2 = none := same_none (same_new hu _) hu2
    have n2 : l ≠ u2 := ne_of_none e1 hu2'
    try simp only [tSeq, tAsg, tVar, tC, tOp, rI0, rI, tUn, rU, tIfS, tTest, tRet, tRetN, tDrop, tCB, tCons, tNil, tLst, tLstI, tTup, gName, tB, tAnd, tOr, tNot, tAndV, tOrV, tNotV, tIf, tNext, tBreak, tCont, gSub, tCall, tCallN, tAug, ipI, tBML, tBML0, isL_IL, isL_lst, L2.start, List.map_cons, List.map_nil, List.length_cons, List.length_nil, List.cons_append, List.nil_append, List.getElem?_cons_succ, List.getElem?_cons_zero, Option.some.injEq, exists_eq_left', exists_eq_left, exists_and_left, V.int.injEq, V.ref.injEq, V.bl.injEq, V.str.injEq, List.set_cons_zero, List.set_cons_succ, List.cons.injEq, and_true, true_and, Nat.reduceAdd, Nat.reduceSub, List.replicate_succ, List.replicate_zero, rIxI, rIxH, rIxTH, rSetI, rSetH, rCatI, rRepI, rSlI, rAppendI, rExtendI, decide_eq_true_eq, upd_same, IL_inj, HO.lst.injEq, toInts_cons, toInts_nil, Option.map_some, if_true, if_false, Bool.true_eq_false, Bool.false_eq_true, Bool.not_true, Bool.not_false, Bool.not_eq_true', decide_eq_false_iff_not, atI_0, atI_1, atI_2, atI_3, atI_4, Int.reduceToNat, Int.reduceLT, Int.reduceLE, Int.reduceNeg, Int.reducePow, cast_lit, upd_upd, Int.reduceAdd, Int.reduceMul, Int.reduceSub, Nat.reduceLT, Nat.reduceLeDiff, cmul_r, cdiv_r, tSl, tPart, tNoPart, rEq, rNe, scal_nn, scal_ii, scal_bb, scal_ss, scal_is, scal_si, V.ty.injEq, and_assoc, tyH_non, tyH_bl, tyH_int, tyH_str, tyH_ref, tyO_lst, tyO_IL, tyO_tup, itO_lst, itO_tup, itO_IL, Dw.rIxD, rLenI, rLenH, rLenTH, rLenQ, rLenB, rListI, Dw.rListS, rIntI, rIntB, rSumI, rIsiD, rIsX, tCallS, tMakeS, tMake, tMakeC, tMakeSC, tFld, sFld, HO.ins.injEq, HO.tup.injEq, cxOf_K, nox_K, tr_K, suite_K, rTupleI, rAllB, rAnyB, BL_inj, tChain, wOnly, wAs, wMany, rEqI, rNeI, Dw.rMax2, rMin2, Dw.rIsN, rIsNotN, rStrIn, rStrNotIn, not_true_eq_false, not_false_eq_true, reduceCtorEq, cl_bool, cl_int, cl_str, cl_list, cl_tuple, isB_NoneType_bool, isB_NoneType_int, isB_NoneType_str, isB_NoneType_list, isB_NoneType_tuple, isB_bool_bool, isB_bool_int, isB_bool_str, isB_bool_list, isB_bool_tuple, isB_int_bool, isB_int_int, isB_int_str, isB_int_list, isB_int_tuple, isB_str_bool, isB_str_int, isB_str_str, isB_str_list, isB_str_tuple, isB_list_bool, isB_list_int, isB_list_str, isB_list_list, isB_list_tuple, isB_tuple_bool, isB_tuple_int, isB_tuple_str, isB_tuple_list, isB_tuple_tuple, Dw.rIxL, rListTI, tMakeK, rTupT, tPar, Dw.rSlCI, rIsB, upd_ne n1, upd_ne n2, e1, rep_zero]
    refine ⟨?_, k1 l _ (fun b o hb => ?_) hl0 ?_⟩
    · rw [List.length_replicate]
      exact line_le (by omega)
    · rw [upd_ne (ne_of_none hb hl0)]
      exact same_new hu2 _ _ _ (same_new hu _ _ _ (s1 _ _ hb))
    · rw [upd_same]
      rfl
end
section
variable {P : Program} {w : World} {K : PySem.W.Frag} {mg : Str → Option Value} {base : Heap} {A : Ad}
def spLaw (K : PySem.W.Frag) : Sp := fun vs H Q _ => ∃ (a : Addr) (ns : List Int), vs = [.ref a] ∧ SqL K H a (ns.map V.int) ∧ ns.length ≤ 63 ∧ ∀ H', Q (.bl true) H'
theorem ok_law (T : Tx K mg A) : FnOk P w K mg base CX0 7 A.f_law A.d_law ["script"] (spLaw K) := by
  refine T.F_law.ok sc_law (fun vs H Q E h => ?_) (fun cdv A' outer s H vs Q E hr h => ?_)
  · obtain ⟨a, ns, rfl, _⟩ := h
    rfl
  obtain ⟨a, ss, rfl, hS, hl, k⟩ := h
  refine ⟨_, (pss_cons (ps_set (i := 1) sc_law.nd rfl (Or.inr rfl) (pe_call (ok_law_draws T) (hr.mono (by decide)) rfl T.g_law_draws T.F_law_draws.kp T.b_law_draws .nil pass0 (pa_cons (pe_call (ok_law_cell T) (hr.mono (by decide)) rfl T.g_law_cell T.F_law_cell.kp T.b_law_cell .nil pass0 (pa_cons (pv 0) (pa_cons pe_int pa_nil))) (pa_cons pe_int pa_nil))))
      (pss_cons (ps_set (i := 2) sc_law.nd rfl (Or.inl rfl) (pe_call (ok_law_sectors T) (hr.mono (by decide)) rfl T.g_law_sectors T.F_law_sectors.kp T.b_law_sectors .nil pass0 (pa_cons (pv 1) (pa_cons pe_int (pa_cons (pe_op op_add pe_int (pe_op op_mod (pe_ix ix_listI (pv 1) pe_int (fun _ _ => rfl)) pe_int)) (pa_cons (pe_tup (pa_cons (pe_op op_mod (pe_ix ix_listI (pv 1) pe_int (fun _ _ => rfl)) pe_int) (pa_cons (pe_op op_mod (pe_ix ix_listI (pv 1) pe_int (fun _ _ => rfl)) pe_int) pa_nil))) pa_nil))))))
      (pss_cons (ps_set (i := 3) sc_law.nd rfl (Or.inl rfl) (pe_call (ok_track_cells T) (hr.mono (by decide)) rfl T.g_track_cells T.F_track_cells.kp T.b_track_cells T.v_track_cells pass0 (pa_cons (pe_call (ok_law_made T) (hr.mono (by decide)) rfl T.g_law_made T.F_law_made.kp T.b_law_made .nil pass0 (pa_cons (pv 2) pa_nil)) pa_nil)))
      (pss_cons (ps_set (i := 4) sc_law.nd rfl (Or.inl rfl) (pe_ix ix_listI (pe_lstI (pa_cons pe_int (pa_cons pe_int (pa_cons pe_int (pa_cons pe_int pa_nil))))) (pe_op op_mod (pe_ix ix_listI (pv 1) pe_int (fun _ _ => rfl)) pe_int) (fun _ _ => rfl)))
      (pss_cons (ps_set (i := 5) sc_law.nd rfl (Or.inr rfl) (pe_call (ok_flux_of T) (hr.mono (by decide)) rfl T.g_flux_of T.F_flux_of.kp T.b_flux_of .nil passL (pa_cons (pv 3) (pa_cons (pv 4) pa_nil))))
      (pss_cons (ps_set (i := 6) sc_law.nd rfl (Or.inr rfl) (pe_op op_fdiv (pe_op op_sub (pv 4) pe_int) pe_int))
      (pss_cons (ps_setLc (i := 7) (own := [("k", 8)]) (g := (gName 8)) (tt := tYes) rfl sc_law.nd rfl rfl (sw_true rfl rfl rfl (by decide +kernel)) (pi_range1 rfl T.z_range (pa_cons (pe_callB call_lenTH (by rfl) T.z_len (by decide +kernel) (pa_cons (pe_fld (pv 5) rfl) pa_nil)) pa_nil)) (blkOk_by (N := n_law) (sc := (defScope s_law)) (by decide +kernel)) (fun _ _ _ _ _ => (pg_name (i := 8) sc_law.nd rfl (Or.inl rfl))) (fun _ _ _ _ _ => pts_nil) (fun _ _ _ _ _ => (pe_op op_sub (pe_op op_add (pe_ix ix_tupH (pe_fldK (K := K) (pv 5) rfl (by rfl)) (pv 8) (fun _ _ => rfl)) (pe_op op_mod (pe_ix ix_listI (pv 1) (pe_op op_mod (pv 8) pe_int) (fun _ _ => rfl)) (pe_op op_add (pe_op op_mul pe_int (pv 6)) pe_int))) (pv 6))))
      (pss_cons (ps_set (i := 9) sc_law.nd rfl (Or.inl rfl) (pe_call (ok_found_sectors T) (hr.mono (by decide)) rfl T.g_found_sectors T.F_found_sectors.kp T.b_found_sectors .nil pass0 (pa_cons (pe_call (ok_fixed_cells T) (hr.mono (by decide)) rfl T.g_fixed_cells T.F_fixed_cells.kp T.b_fixed_cells .nil passL (pa_cons (pe_makeC conv_read T.mk_Read (ok_Readinit T) (hr.mono (by decide)) rfl T.gc_Read T.b_Readinit passL (pa_cons (pv 7) (pa_cons (pe_fld (pv 5) rfl) pa_nil))) (pa_cons (pv 4) pa_nil))) pa_nil)))
      (pss_cons (ps_if (pt_cmpR op_ne (pe_callB call_lenH (by rfl) T.z_len (by decide +kernel) (pa_cons (pv 9) pa_nil)) (pe_callB call_lenH (by rfl) T.z_len (by decide +kernel) (pa_cons (pv 2) pa_nil)) (nomark _)) (pss_one (ps_ret pe_bl)) pss_nil)
      (pss_cons (ps_for PassesOwn.never rfl (pi_range1 rfl T.z_range (pa_cons (pe_callB call_lenH (by rfl) T.z_len (by decide +kernel) (pa_cons (pv 9) pa_nil)) pa_nil)) (pg_name (i := 8) sc_law.nd rfl (Or.inl rfl))
        (pss_cons (ps_asg (pe_ix ix_listH (pv 2) (pv 8) (fun _ _ => rfl)) (pg_tup (n := 4) rfl (pgs_cons (pg_name (i := 10) sc_law.nd rfl (Or.inl rfl)) (pgs_cons (pg_name (i := 11) sc_law.nd rfl (Or.inl rfl)) (pgs_cons (pg_name (i := 12) sc_law.nd rfl (Or.inl rfl)) (pgs_cons (pg_name (i := 13) sc_law.nd rfl (Or.inl rfl)) pgs_nil))))))
      (pss_cons (ps_if (PW.pt (pw_or (pt_cmpR (op_neD hr.units) (pe_ix ix_seqD (pe_ix ix_listH (pv 9) (pv 8) (fun _ _ => rfl)) pe_int (fun _ _ => rfl)) (pv 10) (nomark _)) (pw_or (pt_cmpR op_eq (pe_ix ix_seqD (pe_ix ix_listH (pv 9) (pv 8) (fun _ _ => rfl)) pe_int (fun _ _ => rfl)) (pv 12) (nomark _)) (pw_or1 (pt_cmpR op_ne (pe_cmpR op_isNone (pe_ix ix_seqD (pe_ix ix_listH (pv 9) (pv 8) (fun _ _ => rfl)) pe_int (fun _ _ => rfl)) pe_non (nomark _)) (pe_cmpR op_isNone (pv 11) pe_non (nomark _)) (nomark _)))))) (pss_one (ps_ret pe_bl)) pss_nil)
      (pss_one (ps_if (PW.pt (pw_and (pt_cmpR op_notNone (pv 11) pe_non (nomark _)) (pw_and1 (PW.pt (pw_or (pt_not (pt_val (pe_call (ok_law_is_tuple T) (hr.mono (by decide)) rfl T.g_law_is_tuple T.F_law_is_tuple.kp T.b_law_is_tuple .nil pass0 (pa_cons (pe_ix ix_seqD (pe_ix ix_listH (pv 9) (pv 8) (fun _ _ => rfl)) pe_int (fun _ _ => rfl)) (pa_cons (pe_callTy call_tupleI (by rfl) T.z_tuple (by decide +kernel) (pa_cons (pv 11) pa_nil)) pa_nil))))) (pw_or1 (pt_cmpR op_eq (pe_ix ix_seqD (pe_ix ix_listH (pv 9) (pv 8) (fun _ _ => rfl)) pe_int (fun _ _ => rfl)) (pv 13) (nomark _)))))))) (pss_one (ps_ret pe_bl)) pss_nil)))))
      (pss_one (ps_ret pe_bl)))))))))))), ?_⟩
  try simp only [tSeq, tAsg, tVar, tC, tOp, rI0, rI, tUn, rU, tIfS, tTest, tRet, tRetN, tDrop, tCB, tCons, tNil, tLst, tLstI, tTup, gName, tB, tAnd, tOr, tNot, tAndV, tOrV, tNotV, tIf, tNext, tBreak, tCont, gSub, tCall, tCallN, tAug, ipI, tBML, tBML0, isL_IL, isL_lst, L2.start, List.map_cons, List.map_nil, List.length_cons, List.length_nil, List.cons_append, List.nil_append, List.getElem?_cons_succ, List.getElem?_cons_zero, Option.some.injEq, exists_eq_left', exists_eq_left, exists_and_left, V.int.injEq, V.ref.injEq, V.bl.injEq, V.str.injEq, List.set_cons_zero, List.set_cons_succ, List.cons.injEq, and_true, true_and, Nat.reduceAdd, Nat.reduceSub, List.replicate_succ, List.replicate_zero, rIxI, rIxH, rIxTH, rSetI, rSetH, rCatI, rRepI, rSlI, rAppendI, rExtendI, decide_eq_true_eq, upd_same, IL_inj, HO.lst.injEq, toInts_cons, toInts_nil, Option.map_some, if_true, if_false, Bool.true_eq_false, Bool.false_eq_true, Bool.not_true, Bool.not_false, Bool.not_eq_true', decide_eq_false_iff_not, atI_0, atI_1, atI_2, atI_3, atI_4, Int.reduceToNat, Int.reduceLT, Int.reduceLE, Int.reduceNeg, Int.reducePow, cast_lit, upd_upd, Int.reduceAdd, Int.reduceMul, Int.reduceSub, Nat.reduceLT, Nat.reduceLeDiff, cmul_r, cdiv_r, tSl, tPart, tNoPart, rEq, rNe, scal_nn, scal_ii, scal_bb, scal_ss, scal_is, scal_si, V.ty.injEq, and_assoc, tyH_non, tyH_bl, tyH_int, tyH_str, tyH_ref, tyO_lst, tyO_IL, tyO_tup, itO_lst, itO_tup, itO_IL, Dw.rIxD, rLenI, rLenH, rLenTH, rLenQ, rLenB, rListI, Dw.rListS, rIntI, rIntB, rSumI, rIsiD, rIsX, tCallS, tMakeS, tMake, tMakeC, tMakeSC, tFld, sFld, HO.ins.injEq, HO.tup.injEq, cxOf_K, nox_K, tr_K, suite_K, rTupleI, rAllB, rAnyB, BL_inj, tChain, wOnly, wAs, wMany, rEqI, rNeI, Dw.rMax2, rMin2, Dw.rIsN, rIsNotN, rStrIn, rStrNotIn, not_true_eq_false, not_false_eq_true, reduceCtorEq, cl_bool, cl_int, cl_str, cl_list, cl_tuple, isB_NoneType_bool, isB_NoneType_int, isB_NoneType_str, isB_NoneType_list, isB_NoneType_tuple, isB_bool_bool, isB_bool_int, isB_bool_str, isB_bool_list, isB_bool_tuple, isB_int_bool, isB_int_int, isB_int_str, isB_int_list, isB_int_tuple, isB_str_bool, isB_str_int, isB_str_str, isB_str_list, isB_str_tuple, isB_list_bool, isB_list_int, isB_list_str, isB_list_list, isB_list_tuple, isB_tuple_bool, isB_tuple_int, isB_tuple_str, isB_tuple_list, isB_tuple_tuple, rSlCI, iRng3, iRev, gCons, gNil, iZip, iEnum, tLc_eq, tFor_eq, iRng1, iRng2, iList, iTup, rSetD, iKeys, tDNewK, Int.reducePow, Int.reduceNeg, Dw.rIxL, rListTI, tMakeK, rTupT, tPar, Dw.rSlCI, rIsB]
  refine ⟨a, ss, 0, rfl, hS, by omega, fun z0 => ?_⟩
  try simp only [tSeq, tAsg, tVar, tC, tOp, rI0, rI, tUn, rU, tIfS, tTest, tRet, tRetN, tDrop, tCB, tCons, tNil, tLst, tLstI, tTup, gName, tB, tAnd, tOr, tNot, tAndV, tOrV, tNotV, tIf, tNext, tBreak, tCont, gSub, tCall, tCallN, tAug, ipI, tBML, tBML0, isL_IL, isL_lst, L2.start, List.map_cons, List.map_nil, List.length_cons, List.length_nil, List.cons_append, List.nil_append, List.getElem?_cons_succ, List.getElem?_cons_zero, Option.some.injEq, exists_eq_left', exists_eq_left, exists_and_left, V.int.injEq, V.ref.injEq, V.bl.injEq, V.str.injEq, List.set_cons_zero, List.set_cons_succ, List.cons.injEq, and_true, true_and, Nat.reduceAdd, Nat.reduceSub, List.replicate_succ, List.replicate_zero, rIxI, rIxH, rIxTH, rSetI, rSetH, rCatI, rRepI, rSlI, rAppendI, rExtendI, decide_eq_true_eq, upd_same, IL_inj, HO.lst.injEq, toInts_cons, toInts_nil, Option.map_some, if_true, if_false, Bool.true_eq_false, Bool.false_eq_true, Bool.not_true, Bool.not_false, Bool.not_eq_true', decide_eq_false_iff_not, atI_0, atI_1, atI_2, atI_3, atI_4, Int.reduceToNat, Int.reduceLT, Int.reduceLE, Int.reduceNeg, Int.reducePow, cast_lit, upd_upd, Int.reduceAdd, Int.reduceMul, Int.reduceSub, Nat.reduceLT, Nat.reduceLeDiff, cmul_r, cdiv_r, tSl, tPart, tNoPart, rEq, rNe, scal_nn, scal_ii, scal_bb, scal_ss, scal_is, scal_si, V.ty.injEq, and_assoc, tyH_non, tyH_bl, tyH_int, tyH_str, tyH_ref, tyO_lst, tyO_IL, tyO_tup, itO_lst, itO_tup, itO_IL, Dw.rIxD, rLenI, rLenH, rLenTH, rLenQ, rLenB, rListI, Dw.rListS, rIntI, rIntB, rSumI, rIsiD, rIsX, tCallS, tMakeS, tMake, tMakeC, tMakeSC, tFld, sFld, HO.ins.injEq, HO.tup.injEq, cxOf_K, nox_K, tr_K, suite_K, rTupleI, rAllB, rAnyB, BL_inj, tChain, wOnly, wAs, wMany, rEqI, rNeI, Dw.rMax2, rMin2, Dw.rIsN, rIsNotN, rStrIn, rStrNotIn, not_true_eq_false, not_false_eq_true, reduceCtorEq, cl_bool, cl_int, cl_str, cl_list, cl_tuple, isB_NoneType_bool, isB_NoneType_int, isB_NoneType_str, isB_NoneType_list, isB_NoneType_tuple, isB_bool_bool, isB_bool_int, isB_bool_str, isB_bool_list, isB_bool_tuple, isB_int_bool, isB_int_int, isB_int_str, isB_int_list, isB_int_tuple, isB_str_bool, isB_str_int, isB_str_str, isB_str_list, isB_str_tuple, isB_list_bool, isB_list_int, isB_list_str, isB_list_list, isB_list_tuple, isB_tuple_bool, isB_tuple_int, isB_tuple_str, isB_tuple_list, isB_tuple_tuple, rSlCI, iRng3, iRev, gCons, gNil, iZip, iEnum, tLc_eq, tFor_eq, iRng1, iRng2, iList, iTup, rSetD, iKeys, tDNewK, Int.reducePow, Int.reduceNeg, Dw.rIxL, rListTI, tMakeK, rTupT, tPar, Dw.rSlCI, rIsB]
  refine ⟨z0, 60, rfl, by omega, by omega, fun r ns H1 s1 nr e1 hl1 hd => ?_⟩
  have g : ∀ k : Nat, k < 60 → 0 ≤ ns.getD k 0 ∧ ns.getD k 0 < 4096 := fun k hk => hd.get (by omega)
  have g0 := g 0 (by omega)
  have g1 := g 1 (by omega)
  have g2 := g 2 (by omega)
  have g3 := g 3 (by omega)
  try simp only [tSeq, tAsg, tVar, tC, tOp, rI0, rI, tUn, rU, tIfS, tTest, tRet, tRetN, tDrop, tCB, tCons, tNil, tLst, tLstI, tTup, gName, tB, tAnd, tOr, tNot, tAndV, tOrV, tNotV, tIf, tNext, tBreak, tCont, gSub, tCall, tCallN, tAug, ipI, tBML, tBML0, isL_IL, isL_lst, L2.start, List.map_cons, List.map_nil, List.length_cons, List.length_nil, List.cons_append, List.nil_append, List.getElem?_cons_succ, List.getElem?_cons_zero, Option.some.injEq, exists_eq_left', exists_eq_left, exists_and_left, V.int.injEq, V.ref.injEq, V.bl.injEq, V.str.injEq, List.set_cons_zero, List.set_cons_succ, List.cons.injEq, and_true, true_and, Nat.reduceAdd, Nat.reduceSub, List.replicate_succ, List.replicate_zero, rIxI, rIxH, rIxTH, rSetI, rSetH, rCatI, rRepI, rSlI, rAppendI, rExtendI, decide_eq_true_eq, upd_same, IL_inj, HO.lst.injEq, toInts_cons, toInts_nil, Option.map_some, if_true, if_false, Bool.true_eq_false, Bool.false_eq_true, Bool.not_true, Bool.not_false, Bool.not_eq_true', decide_eq_false_iff_not, atI_0, atI_1, atI_2, atI_3, atI_4, Int.reduceToNat, Int.reduceLT, Int.reduceLE, Int.reduceNeg, Int.reducePow, cast_lit, upd_upd, Int.reduceAdd, Int.reduceMul, Int.reduceSub, Nat.reduceLT, Nat.reduceLeDiff, cmul_r, cdiv_r, tSl, tPart, tNoPart, rEq, rNe, scal_nn, scal_ii, scal_bb, scal_ss, scal_is, scal_si, V.ty.injEq, and_assoc, tyH_non, tyH_bl, tyH_int, tyH_str, tyH_ref, tyO_lst, tyO_IL, tyO_tup, itO_lst, itO_tup, itO_IL, Dw.rIxD, rLenI, rLenH, rLenTH, rLenQ, rLenB, rListI, Dw.rListS, rIntI, rIntB, rSumI, rIsiD, rIsX, tCallS, tMakeS, tMake, tMakeC, tMakeSC, tFld, sFld, HO.ins.injEq, HO.tup.injEq, cxOf_K, nox_K, tr_K, suite_K, rTupleI, rAllB, rAnyB, BL_inj, tChain, wOnly, wAs, wMany, rEqI, rNeI, Dw.rMax2, rMin2, Dw.rIsN, rIsNotN, rStrIn, rStrNotIn, not_true_eq_false, not_false_eq_true, reduceCtorEq, cl_bool, cl_int, cl_str, cl_list, cl_tuple, isB_NoneType_bool, isB_NoneType_int, isB_NoneType_str, isB_NoneType_list, isB_NoneType_tuple, isB_bool_bool, isB_bool_int, isB_bool_str, isB_bool_list, isB_bool_tuple, isB_int_bool, isB_int_int, isB_int_str, isB_int_list, isB_int_tuple, isB_str_bool, isB_str_int, isB_str_str, isB_str_list, isB_str_tuple, isB_list_bool, isB_list_int, isB_list_str, isB_list_list, isB_list_tuple, isB_tuple_bool, isB_tuple_int, isB_tuple_str, isB_tuple_list, isB_tuple_tuple, rSlCI, iRng3, iRev, gCons, gNil, iZip, iEnum, tLc_eq, tFor_eq, iRng1, iRng2, iList, iTup, rSetD, iKeys, tDNewK, Int.reducePow, Int.reduceNeg, Dw.rIxL, rListTI, tMakeK, rTupT, tPar, Dw.rSlCI, rIsB, e1, hl1]
  refine ⟨line_le (by decide), fun t1 ht1 => ?_⟩
  have q1 := same_new ht1 (.tup [V.int (ns.getD 1 0 % 3), V.int (ns.getD 2 0 % 2)])
  refine ⟨r, t1, ns, 4, 1 + ns.getD 0 0 % 2, _, _, rfl, q1 _ _ e1, hd, by omega, by omega, by omega, by omega, by omega, upd_same, by omega, by omega, by omega, by omega, fun u xs secs H2 s2 nu eu hA hok hlen => ?_⟩
  have e1b := s2 _ _ (q1 _ _ e1)
  try simp only [tSeq, tAsg, tVar, tC, tOp, rI0, rI, tUn, rU, tIfS, tTest, tRet, tRetN, tDrop, tCB, tCons, tNil, tLst, tLstI, tTup, gName, tB, tAnd, tOr, tNot, tAndV, tOrV, tNotV, tIf, tNext, tBreak, tCont, gSub, tCall, tCallN, tAug, ipI, tBML, tBML0, isL_IL, isL_lst, L2.start, List.map_cons, List.map_nil, List.length_cons, List.length_nil, List.cons_append, List.nil_append, List.getElem?_cons_succ, List.getElem?_cons_zero, Option.some.injEq, exists_eq_left', exists_eq_left, exists_and_left, V.int.injEq, V.ref.injEq, V.bl.injEq, V.str.injEq, List.set_cons_zero, List.set_cons_succ, List.cons.injEq, and_true, true_and, Nat.reduceAdd, Nat.reduceSub, List.replicate_succ, List.replicate_zero, rIxI, rIxH, rIxTH, rSetI, rSetH, rCatI, rRepI, rSlI, rAppendI, rExtendI, decide_eq_true_eq, upd_same, IL_inj, HO.lst.injEq, toInts_cons, toInts_nil, Option.map_some, if_true, if_false, Bool.true_eq_false, Bool.false_eq_true, Bool.not_true, Bool.not_false, Bool.not_eq_true', decide_eq_false_iff_not, atI_0, atI_1, atI_2, atI_3, atI_4, Int.reduceToNat, Int.reduceLT, Int.reduceLE, Int.reduceNeg, Int.reducePow, cast_lit, upd_upd, Int.reduceAdd, Int.reduceMul, Int.reduceSub, Nat.reduceLT, Nat.reduceLeDiff, cmul_r, cdiv_r, tSl, tPart, tNoPart, rEq, rNe, scal_nn, scal_ii, scal_bb, scal_ss, scal_is, scal_si, V.ty.injEq, and_assoc, tyH_non, tyH_bl, tyH_int, tyH_str, tyH_ref, tyO_lst, tyO_IL, tyO_tup, itO_lst, itO_tup, itO_IL, Dw.rIxD, rLenI, rLenH, rLenTH, rLenQ, rLenB, rListI, Dw.rListS, rIntI, rIntB, rSumI, rIsiD, rIsX, tCallS, tMakeS, tMake, tMakeC, tMakeSC, tFld, sFld, HO.ins.injEq, HO.tup.injEq, cxOf_K, nox_K, tr_K, suite_K, rTupleI, rAllB, rAnyB, BL_inj, tChain, wOnly, wAs, wMany, rEqI, rNeI, Dw.rMax2, rMin2, Dw.rIsN, rIsNotN, rStrIn, rStrNotIn, not_true_eq_false, not_false_eq_true, reduceCtorEq, cl_bool, cl_int, cl_str, cl_list, cl_tuple, isB_NoneType_bool, isB_NoneType_int, isB_NoneType_str, isB_NoneType_list, isB_NoneType_tuple, isB_bool_bool, isB_bool_int, isB_bool_str, isB_bool_list, isB_bool_tuple, isB_int_bool, isB_int_int, isB_int_str, isB_int_list, isB_int_tuple, isB_str_bool, isB_str_int, isB_str_str, isB_str_list, isB_str_tuple, isB_list_bool, isB_list_int, isB_list_str, isB_list_list, isB_list_tuple, isB_tuple_bool, isB_tuple_int, isB_tuple_str, isB_tuple_list, isB_tuple_tuple, rSlCI, iRng3, iRev, gCons, gNil, iZip, iEnum, tLc_eq, tFor_eq, iRng1, iRng2, iList, iTup, rSetD, iKeys, tDNewK, Int.reducePow, Int.reduceNeg, Dw.rIxL, rListTI, tMakeK, rTupT, tPar, Dw.rSlCI, rIsB]
  refine ⟨u, xs, secs, rfl, .of eu, hA, by omega, fun v ys H3 s3 nv ev hB => ?_⟩
  have e1c := s3 _ _ e1b
  have euc := s3 _ _ eu
  have hA3 := hA.imp fun x s h => RawAt.same s3 h
  have hxl := hA.1
  try simp only [tSeq, tAsg, tVar, tC, tOp, rI0, rI, tUn, rU, tIfS, tTest, tRet, tRetN, tDrop, tCB, tCons, tNil, tLst, tLstI, tTup, gName, tB, tAnd, tOr, tNot, tAndV, tOrV, tNotV, tIf, tNext, tBreak, tCont, gSub, tCall, tCallN, tAug, ipI, tBML, tBML0, isL_IL, isL_lst, L2.start, List.map_cons, List.map_nil, List.length_cons, List.length_nil, List.cons_append, List.nil_append, List.getElem?_cons_succ, List.getElem?_cons_zero, Option.some.injEq, exists_eq_left', exists_eq_left, exists_and_left, V.int.injEq, V.ref.injEq, V.bl.injEq, V.str.injEq, List.set_cons_zero, List.set_cons_succ, List.cons.injEq, and_true, true_and, Nat.reduceAdd, Nat.reduceSub, List.replicate_succ, List.replicate_zero, rIxI, rIxH, rIxTH, rSetI, rSetH, rCatI, rRepI, rSlI, rAppendI, rExtendI, decide_eq_true_eq, upd_same, IL_inj, HO.lst.injEq, toInts_cons, toInts_nil, Option.map_some, if_true, if_false, Bool.true_eq_false, Bool.false_eq_true, Bool.not_true, Bool.not_false, Bool.not_eq_true', decide_eq_false_iff_not, atI_0, atI_1, atI_2, atI_3, atI_4, Int.reduceToNat, Int.reduceLT, Int.reduceLE, Int.reduceNeg, Int.reducePow, cast_lit, upd_upd, Int.reduceAdd, Int.reduceMul, Int.reduceSub, Nat.reduceLT, Nat.reduceLeDiff, cmul_r, cdiv_r, tSl, tPart, tNoPart, rEq, rNe, scal_nn, scal_ii, scal_bb, scal_ss, scal_is, scal_si, V.ty.injEq, and_assoc, tyH_non, tyH_bl, tyH_int, tyH_str, tyH_ref, tyO_lst, tyO_IL, tyO_tup, itO_lst, itO_tup, itO_IL, Dw.rIxD, rLenI, rLenH, rLenTH, rLenQ, rLenB, rListI, Dw.rListS, rIntI, rIntB, rSumI, rIsiD, rIsX, tCallS, tMakeS, tMake, tMakeC, tMakeSC, tFld, sFld, HO.ins.injEq, HO.tup.injEq, cxOf_K, nox_K, tr_K, suite_K, rTupleI, rAllB, rAnyB, BL_inj, tChain, wOnly, wAs, wMany, rEqI, rNeI, Dw.rMax2, rMin2, Dw.rIsN, rIsNotN, rStrIn, rStrNotIn, not_true_eq_false, not_false_eq_true, reduceCtorEq, cl_bool, cl_int, cl_str, cl_list, cl_tuple, isB_NoneType_bool, isB_NoneType_int, isB_NoneType_str, isB_NoneType_list, isB_NoneType_tuple, isB_bool_bool, isB_bool_int, isB_bool_str, isB_bool_list, isB_bool_tuple, isB_int_bool, isB_int_int, isB_int_str, isB_int_list, isB_int_tuple, isB_str_bool, isB_str_int, isB_str_str, isB_str_list, isB_str_tuple, isB_list_bool, isB_list_int, isB_list_str, isB_list_list, isB_list_tuple, isB_tuple_bool, isB_tuple_int, isB_tuple_str, isB_tuple_list, isB_tuple_tuple, rSlCI, iRng3, iRev, gCons, gNil, iZip, iEnum, tLc_eq, tFor_eq, iRng1, iRng2, iList, iTup, rSetD, iKeys, tDNewK, Int.reducePow, Int.reduceNeg, Dw.rIxL, rListTI, tMakeK, rTupT, tPar, Dw.rSlCI, rIsB]
  refine ⟨v, ys, secs, 0, rfl, .of ev, hB, hok, by omega, by omega, fun cl H4 s4 n4 e4 => ?_⟩
  have eu4 := s4 _ _ euc
  have hA4 := hA3.imp fun x s h => RawAt.same s4 h
  have hfz := found_track (0 - (trackN secs : Int)).toNat hok
  have hbits := track_bits secs (0 - (trackN secs : Int)).toNat
  have hfx := fun c => track_flux (c := c) secs (0 - (trackN secs : Int)).toNat
  have hN := trackN_le hok
  have hclen : (trackZ secs ++ gapZ (0 - (trackN secs : Int)).toNat 0).length ≤ 20000 := by
    rw [List.length_append, trackZ_len (fun s hs => okSec_len (hok s hs)), gapZ_len]
    omega
  generalize trackZ secs ++ gapZ (0 - (trackN secs : Int)).toNat 0 = cells at e4 hfz hbits hclen hfx
  have e1d := s4 _ _ e1c
  refine ⟨line_le (by decide), fun w1 hw1 => ?_⟩
  have s5 := same_new hw1 (IL [10, 80, 1000, 11])
  generalize upd H4 w1 (IL [10, 80, 1000, 11]) = H5 at s5 ⊢
  have e1e := s5 _ _ e1d
  have e4e := s5 _ _ e4
  refine ⟨ns, e1e, by omega, by omega, by omega, ?_⟩
  generalize hc : [(10 : Int), 80, 1000, 11].getD (ns.getD 3 0 % 4).toNat 0 = c
  have oc : okCell c := by
    rw [← hc]
    exact pick4 (P := okCell) ⟨by omega, by omega⟩ ⟨by omega, by omega⟩ ⟨by omega, by omega⟩ ⟨by omega, by omega⟩ (by omega)
  clear hc
  obtain ⟨c10, c1000⟩ := id oc
  obtain ⟨hmul, hb2, hb3⟩ := hfx c
  obtain ⟨hback, _⟩ := flux_back_all (c := c) (by omega) hbits
  obtain ⟨hb1, _, _⟩ := flux_bound_all c cells
  have hfl := fixedP_len_bits (c := c) (by omega) hbits
  have hcn : 0 ≤ c * (fluxS c cells).2 ∧ c * (fluxS c cells).2 ≤ 4000 := by
    have a1 := Int.mul_nonneg (show 0 ≤ c by omega) hb2
    have a2 : c * (fluxS c cells).2 ≤ 1000 * 4 := Int.mul_le_mul c1000 (by omega) hb2 (by decide)
    omega
  have hms : ∀ t ∈ (fluxS c cells).1, 10 ≤ t ∧ t ≤ 4000 := fun t ht => by
    obtain ⟨m, m1, m2, rfl⟩ := hmul t ht
    have a1 : 10 * 1 ≤ c * m := Int.mul_le_mul c10 m1 (by decide) (by omega)
    have a2 : c * m ≤ 1000 * 4 := Int.mul_le_mul c1000 m2 (by omega) (by decide)
    omega
  have okr : OkRead (fluxS c cells).1 (c * (fluxS c cells).2) := ⟨by omega, fun t ht => by have := hms t ht; omega, hcn.1, by omega⟩
  have hnr : nCells (c * (fluxS c cells).2) c = (fluxS c cells).2 := by
    have := nCells_mul (c := c) (m := (fluxS c cells).2) (e := 0) (by omega) (by omega) (by omega)
    rw [Int.add_zero] at this
    exact this
  refine ⟨cl, c, cells, rfl, e4e, by omega, fun _ _ rd H6 s6 n6 hrd => ?_, fun _ no => absurd okr no, fun no => absurd oc no⟩
  obtain ⟨dx, t, hR, hT⟩ := hrd
  have e1f := s6 _ _ e1e
  have eu6 := s6 _ _ (s5 _ _ eu4)
  have hA6 := hA4.imp fun x s h => RawAt.same (s5.trans s6) h
  have ti_len : ((fluxS c cells).1.map V.int).length = (fluxS c cells).1.length := List.length_map _
  refine ⟨rd, rfl, _, dx, _, hR, T.cl_Read, T.na_Read_intervals, _, rf_int t _, t, rfl, _, hT, by omega, by omega, fun D hD => ?_⟩
  rw [Int.toNat_natCast, ti_len]
  generalize hmost : (c - 1) / 2 = most
  have hm : 2 * most < c ∧ 0 ≤ most := by omega
  have cmm : CMul 2 most := .inl ⟨by decide, by decide⟩
  generalize htt : (fluxS c cells).1 = ts at *
  generalize hrr : (fluxS c cells).2 = rr at *
  refine lc_rangeI (f := fun i => ts.getD i 0 + ns.getD (i % 60) 0 % (2 * most + 1) - most) (by omega) hD (fun _ => rfl) ?_ ?_
  · intro i H7 Q' hi s7 hq
    have e0 : (0 : Int) + (i : Int) = ((i : Nat) : Int) := by omega
    have gv : (ts.map V.int)[i]? = some (.int (ts.getD i 0)) := by rw [List.getElem?_map, List.getD_eq_getElem?_getD, List.getElem?_eq_getElem hi]; rfl
    have f1 := s7 _ _ e1f
    have fR := s7 _ _ hR
    have fT := s7 _ _ hT
    have e60 : ((i : Nat) : Int) % 60 = ((i % 60 : Nat) : Int) := by omega
    have hq2 := hq H7 (.refl _)
    have clr := T.cl_Read
    have nar := T.na_Read_intervals
    rw [e0]
    try simp only [tSeq, tAsg, tVar, tC, tOp, rI0, rI, tUn, rU, tIfS, tTest, tRet, tRetN, tDrop, tCB, tCons, tNil, tLst, tLstI, tTup, gName, tB, tAnd, tOr, tNot, tAndV, tOrV, tNotV, tIf, tNext, tBreak, tCont, gSub, tCall, tCallN, tAug, ipI, tBML, tBML0, isL_IL, isL_lst, L2.start, List.map_cons, List.map_nil, List.length_cons, List.length_nil, List.cons_append, List.nil_append, List.getElem?_cons_succ, List.getElem?_cons_zero, Option.some.injEq, exists_eq_left', exists_eq_left, exists_and_left, V.int.injEq, V.ref.injEq, V.bl.injEq, V.str.injEq, List.set_cons_zero, List.set_cons_succ, List.cons.injEq, and_true, true_and, Nat.reduceAdd, Nat.reduceSub, List.replicate_succ, List.replicate_zero, rIxI, rIxH, rIxTH, rSetI, rSetH, rCatI, rRepI, rSlI, rAppendI, rExtendI, decide_eq_true_eq, upd_same, IL_inj, HO.lst.injEq, toInts_cons, toInts_nil, Option.map_some, if_true, if_false, Bool.true_eq_false, Bool.false_eq_true, Bool.not_true, Bool.not_false, Bool.not_eq_true', decide_eq_false_iff_not, atI_0, atI_1, atI_2, atI_3, atI_4, Int.reduceToNat, Int.reduceLT, Int.reduceLE, Int.reduceNeg, Int.reducePow, cast_lit, upd_upd, Int.reduceAdd, Int.reduceMul, Int.reduceSub, Nat.reduceLT, Nat.reduceLeDiff, cmul_r, cdiv_r, tSl, tPart, tNoPart, rEq, rNe, scal_nn, scal_ii, scal_bb, scal_ss, scal_is, scal_si, V.ty.injEq, and_assoc, tyH_non, tyH_bl, tyH_int, tyH_str, tyH_ref, tyO_lst, tyO_IL, tyO_tup, itO_lst, itO_tup, itO_IL, Dw.rIxD, rLenI, rLenH, rLenTH, rLenQ, rLenB, rListI, Dw.rListS, rIntI, rIntB, rSumI, rIsiD, rIsX, tCallS, tMakeS, tMake, tMakeC, tMakeSC, tFld, sFld, HO.ins.injEq, HO.tup.injEq, cxOf_K, nox_K, tr_K, suite_K, rTupleI, rAllB, rAnyB, BL_inj, tChain, wOnly, wAs, wMany, rEqI, rNeI, Dw.rMax2, rMin2, Dw.rIsN, rIsNotN, rStrIn, rStrNotIn, not_true_eq_false, not_false_eq_true, reduceCtorEq, cl_bool, cl_int, cl_str, cl_list, cl_tuple, isB_NoneType_bool, isB_NoneType_int, isB_NoneType_str, isB_NoneType_list, isB_NoneType_tuple, isB_bool_bool, isB_bool_int, isB_bool_str, isB_bool_list, isB_bool_tuple, isB_int_bool, isB_int_int, isB_int_str, isB_int_list, isB_int_tuple, isB_str_bool, isB_str_int, isB_str_str, isB_str_list, isB_str_tuple, isB_list_bool, isB_list_int, isB_list_str, isB_list_list, isB_list_tuple, isB_tuple_bool, isB_tuple_int, isB_tuple_str, isB_tuple_list, isB_tuple_tuple, rSlCI, iRng3, iRev, gCons, gNil, iZip, iEnum, tLc_eq, tFor_eq, iRng1, iRng2, iList, iTup, rSetD, iKeys, tDNewK, Int.reducePow, Int.reduceNeg, Dw.rIxL, rListTI, tMakeK, rTupT, tPar, Dw.rSlCI, rIsB, wipe, f1, fR, fT, clr, nar, rf_int, atI_k, gv, hl1, cmm, e60, Int.toNat_natCast]
    exact ⟨by omega, by omega, by omega, hq2⟩
  · intro H7 s7 e7
    generalize hrw : ((List.range ts.length).map fun i : Nat => ts.getD i 0 + ns.getD (i % 60) 0 % (2 * most + 1) - most) = rows at e7
    have hrl : rows.length = ts.length := by rw [← hrw, List.length_map, List.length_range]
    have hrow : ∀ x ∈ rows, 1 ≤ x ∧ x ≤ 1000000 := fun x hx => by
      rw [← hrw] at hx
      obtain ⟨i, hi, rfl⟩ := List.mem_map.mp hx
      have hi := List.mem_range.mp hi
      have e1 : ts.getD i 0 ∈ ts := by rw [List.getD_eq_getElem?_getD, List.getElem?_eq_getElem hi]; exact List.getElem_mem _
      have h1 := hms _ e1
      obtain ⟨m, m1, m2, m3⟩ := hmul _ e1
      have : c * 1 ≤ c * m := Int.mul_le_mul_of_nonneg_left m1 (by omega)
      have md0 : 0 ≤ ns.getD (i % 60) 0 % (2 * most + 1) := Int.emod_nonneg _ (by omega)
      have md1 : ns.getD (i % 60) 0 % (2 * most + 1) < 2 * most + 1 := Int.emod_lt_of_pos _ (by omega)
      omega
    have hmap : rows.map (fun t => nCells t c) = ts.map (fun t => nCells t c) := by
      apply List.ext_getElem?
      intro i
      rw [List.getElem?_map, List.getElem?_map, ← hrw, List.getElem?_map]
      by_cases hi : i < ts.length
      · rw [List.getElem?_range hi, List.getElem?_eq_getElem hi]
        have e1 : ts.getD i 0 = ts[i] := by rw [List.getD_eq_getElem?_getD, List.getElem?_eq_getElem hi]; rfl
        obtain ⟨m, m1, m2, m3⟩ := hmul _ (List.getElem_mem hi)
        show some (nCells (ts.getD i 0 + _ - most) c) = some (nCells ts[i] c)
        rw [e1, m3]
        have md0 : 0 ≤ ns.getD (i % 60) 0 % (2 * most + 1) := Int.emod_nonneg _ (by omega)
        have md1 : ns.getD (i % 60) 0 % (2 * most + 1) < 2 * most + 1 := Int.emod_lt_of_pos _ (by omega)
        have a1 := nCells_mul (c := c) (m := m) (e := ns.getD (i % 60) 0 % (2 * most + 1) - most) (by omega) (by omega) (by omega)
        have a2 := nCells_mul (c := c) (m := m) (e := 0) (by omega) (by omega) (by omega)
        rw [Int.add_zero] at a2
        rw [show c * m + ns.getD (i % 60) 0 % (2 * most + 1) - most = c * m + (ns.getD (i % 60) 0 % (2 * most + 1) - most) by omega, a1, a2]
      · rw [List.getElem?_eq_none (by rw [List.length_range]; omega), List.getElem?_eq_none (by omega)]
        rfl
    have hfp := fixedP_congr hmap
    have okr2 : OkRead rows (c * rr) := ⟨by omega, hrow, hcn.1, by omega⟩
    have few2 : Few rows (c * rr) c := by
      unfold Few
      rw [hnr, hfp]
      omega
    have hfz2 : fixedZ rows (c * rr) c = cells := by
      have e1 : fixedZ rows (c * rr) c = fixedP rows c ++ List.replicate (nCells (c * rr) c).toNat 0 := rfl
      rw [e1, hnr, hfp]
      exact hback
    have fR := s7 _ _ hR
    have fT := s7 _ _ hT
    refine ⟨rd, rfl, _, dx, _, fR, T.cl_Read, T.na_Read_rest, _, rf_rest t _, ?_⟩
    refine ⟨D, rows, c * rr, rfl, e7, fun _ rd2 H8 s8 n8 hrd2 => ?_, fun no => absurd okr2 no⟩
    refine ⟨rd2, c, _, _, rfl, hrd2, okr2, fun _ => ⟨few2, fun o2 H9 s9 n9 e11 => ?_⟩, fun no => absurd oc no⟩
    rw [hfz2] at e11
    refine ⟨o2, cells, rfl, e11, hbits, by omega, fun FA fs H10 s10 n10 e10 hF10 => ?_⟩
    rw [hfz] at hF10
    have sA := s7.trans (s8.trans (s9.trans s10))
    have euA := sA _ _ eu6
    have hAA := hA6.imp fun x s h => RawAt.same sA h
    have hfl2 := hF10.1
    rw [dueM_len] at hfl2
    refine ⟨FA, rfl, fs, e10, xs, euA, ?_⟩
    rw [if_neg (by omega)]
    refine ⟨FA, rfl, fs, e10, by omega, by omega, ?_⟩
    rw [Int.toNat_natCast]
    obtain ⟨I, hI⟩ : ∃ F : Nat → L2.St → Hp → Prop, F = (fun i σ H' => Same H10 H' ∧ ∃ y8 y10 y11 y12 y13, σ = [some (V.ref a), some (V.ref r), some (V.ref u), some (V.ref cl), some (V.int c), some (V.ref rd), some (V.int most), some (V.ref D), y8, some (V.ref FA), y10, y11, y12, y13]) := ⟨_, rfl⟩
    refine forR I (by rw [hI]; exact ⟨.refl _, _, _, _, _, _, rfl⟩) ?_ ?_
    · intro i σ H11 hi h
      rw [hI] at h
      obtain ⟨s11, y8, y10, y11, y12, y13, rfl⟩ := h
      have hi2 : i < secs.length := by omega
      obtain ⟨⟨ad, da, aw, dw⟩, hs⟩ : ∃ s, secs[i]? = some s := ⟨_, List.getElem?_eq_getElem hi2⟩
      obtain ⟨x1, g1, t1, a1, d1, rfl, h11, h12, h13⟩ := (hAA.imp fun x s h => RawAt.same s11 h).at hs
      obtain ⟨x2, g2, t2, a2, d2, rfl, h21, h22, h23⟩ := (hF10.imp fun x s h => FndAt.same s11 h).at (dueM_at 256 hs)
      have e0 : (0 : Int) + (i : Int) = ((i : Nat) : Int) := by omega
      have euB := s11 _ _ euA
      have eFB := s11 _ _ e10
      simp only at h11 h12 h13
      have h21 : H11 t2 = some (.tup [.int (nxM 256 (secs.take i) : Nat), .ref a2, .bl (!aw), d2, .bl (da.isSome && !dw)]) := h21
      have h22 : H11 a2 = some (.tup (ad.map V.int)) := h22
      have h23 : DatT H11 d2 da := h23
      rw [e0]
      try simp only [tSeq, tAsg, tVar, tC, tOp, rI0, rI, tUn, rU, tIfS, tTest, tRet, tRetN, tDrop, tCB, tCons, tNil, tLst, tLstI, tTup, gName, tB, tAnd, tOr, tNot, tAndV, tOrV, tNotV, tIf, tNext, tBreak, tCont, gSub, tCall, tCallN, tAug, ipI, tBML, tBML0, isL_IL, isL_lst, L2.start, List.map_cons, List.map_nil, List.length_cons, List.length_nil, List.cons_append, List.nil_append, List.getElem?_cons_succ, List.getElem?_cons_zero, Option.some.injEq, exists_eq_left', exists_eq_left, exists_and_left, V.int.injEq, V.ref.injEq, V.bl.injEq, V.str.injEq, List.set_cons_zero, List.set_cons_succ, List.cons.injEq, and_true, true_and, Nat.reduceAdd, Nat.reduceSub, List.replicate_succ, List.replicate_zero, rIxI, rIxH, rIxTH, rSetI, rSetH, rCatI, rRepI, rSlI, rAppendI, rExtendI, decide_eq_true_eq, upd_same, IL_inj, HO.lst.injEq, toInts_cons, toInts_nil, Option.map_some, if_true, if_false, Bool.true_eq_false, Bool.false_eq_true, Bool.not_true, Bool.not_false, Bool.not_eq_true', decide_eq_false_iff_not, atI_0, atI_1, atI_2, atI_3, atI_4, Int.reduceToNat, Int.reduceLT, Int.reduceLE, Int.reduceNeg, Int.reducePow, cast_lit, upd_upd, Int.reduceAdd, Int.reduceMul, Int.reduceSub, Nat.reduceLT, Nat.reduceLeDiff, cmul_r, cdiv_r, tSl, tPart, tNoPart, rEq, rNe, scal_nn, scal_ii, scal_bb, scal_ss, scal_is, scal_si, V.ty.injEq, and_assoc, tyH_non, tyH_bl, tyH_int, tyH_str, tyH_ref, tyO_lst, tyO_IL, tyO_tup, itO_lst, itO_tup, itO_IL, Dw.rIxD, rLenI, rLenH, rLenTH, rLenQ, rLenB, rListI, Dw.rListS, rIntI, rIntB, rSumI, rIsiD, rIsX, tCallS, tMakeS, tMake, tMakeC, tMakeSC, tFld, sFld, HO.ins.injEq, HO.tup.injEq, cxOf_K, nox_K, tr_K, suite_K, rTupleI, rAllB, rAnyB, BL_inj, tChain, wOnly, wAs, wMany, rEqI, rNeI, Dw.rMax2, rMin2, Dw.rIsN, rIsNotN, rStrIn, rStrNotIn, not_true_eq_false, not_false_eq_true, reduceCtorEq, cl_bool, cl_int, cl_str, cl_list, cl_tuple, isB_NoneType_bool, isB_NoneType_int, isB_NoneType_str, isB_NoneType_list, isB_NoneType_tuple, isB_bool_bool, isB_bool_int, isB_bool_str, isB_bool_list, isB_bool_tuple, isB_int_bool, isB_int_int, isB_int_str, isB_int_list, isB_int_tuple, isB_str_bool, isB_str_int, isB_str_str, isB_str_list, isB_str_tuple, isB_list_bool, isB_list_int, isB_list_str, isB_list_list, isB_list_tuple, isB_tuple_bool, isB_tuple_int, isB_tuple_str, isB_tuple_list, isB_tuple_tuple, rSlCI, iRng3, iRev, gCons, gNil, iZip, iEnum, tLc_eq, tFor_eq, iRng1, iRng2, iList, iTup, rSetD, iKeys, tDNewK, Int.reducePow, Int.reduceNeg, Dw.rIxL, rListTI, tMakeK, rTupT, tPar, Dw.rSlCI, rIsB, euB, eFB, atI_k, g1, g2]
      refine ⟨t1, _, rfl, .of h11, rfl, .ref a1, _, rfl, d1, _, rfl, .bl aw, _, rfl, .bl dw, [], rfl, rfl, ?_⟩
      have hIn : ∀ H', Same H11 H' → I (i + 1) [some (V.ref a), some (V.ref r), some (V.ref u), some (V.ref cl), some (V.int c), some (V.ref rd), some (V.int most), some (V.ref D), some (V.int (i : Int)), some (V.ref FA), some (V.ref a1), some d1, some (V.bl aw), some (V.bl dw)] H' := fun H' s => by rw [hI]; exact ⟨s11.trans s, _, _, _, _, _, rfl⟩
      try simp only [tSeq, tAsg, tVar, tC, tOp, rI0, rI, tUn, rU, tIfS, tTest, tRet, tRetN, tDrop, tCB, tCons, tNil, tLst, tLstI, tTup, gName, tB, tAnd, tOr, tNot, tAndV, tOrV, tNotV, tIf, tNext, tBreak, tCont, gSub, tCall, tCallN, tAug, ipI, tBML, tBML0, isL_IL, isL_lst, L2.start, List.map_cons, List.map_nil, List.length_cons, List.length_nil, List.cons_append, List.nil_append, List.getElem?_cons_succ, List.getElem?_cons_zero, Option.some.injEq, exists_eq_left', exists_eq_left, exists_and_left, V.int.injEq, V.ref.injEq, V.bl.injEq, V.str.injEq, List.set_cons_zero, List.set_cons_succ, List.cons.injEq, and_true, true_and, Nat.reduceAdd, Nat.reduceSub, List.replicate_succ, List.replicate_zero, rIxI, rIxH, rIxTH, rSetI, rSetH, rCatI, rRepI, rSlI, rAppendI, rExtendI, decide_eq_true_eq, upd_same, IL_inj, HO.lst.injEq, toInts_cons, toInts_nil, Option.map_some, if_true, if_false, Bool.true_eq_false, Bool.false_eq_true, Bool.not_true, Bool.not_false, Bool.not_eq_true', decide_eq_false_iff_not, atI_0, atI_1, atI_2, atI_3, atI_4, Int.reduceToNat, Int.reduceLT, Int.reduceLE, Int.reduceNeg, Int.reducePow, cast_lit, upd_upd, Int.reduceAdd, Int.reduceMul, Int.reduceSub, Nat.reduceLT, Nat.reduceLeDiff, cmul_r, cdiv_r, tSl, tPart, tNoPart, rEq, rNe, scal_nn, scal_ii, scal_bb, scal_ss, scal_is, scal_si, V.ty.injEq, and_assoc, tyH_non, tyH_bl, tyH_int, tyH_str, tyH_ref, tyO_lst, tyO_IL, tyO_tup, itO_lst, itO_tup, itO_IL, Dw.rIxD, rLenI, rLenH, rLenTH, rLenQ, rLenB, rListI, Dw.rListS, rIntI, rIntB, rSumI, rIsiD, rIsX, tCallS, tMakeS, tMake, tMakeC, tMakeSC, tFld, sFld, HO.ins.injEq, HO.tup.injEq, cxOf_K, nox_K, tr_K, suite_K, rTupleI, rAllB, rAnyB, BL_inj, tChain, wOnly, wAs, wMany, rEqI, rNeI, Dw.rMax2, rMin2, Dw.rIsN, rIsNotN, rStrIn, rStrNotIn, not_true_eq_false, not_false_eq_true, reduceCtorEq, cl_bool, cl_int, cl_str, cl_list, cl_tuple, isB_NoneType_bool, isB_NoneType_int, isB_NoneType_str, isB_NoneType_list, isB_NoneType_tuple, isB_bool_bool, isB_bool_int, isB_bool_str, isB_bool_list, isB_bool_tuple, isB_int_bool, isB_int_int, isB_int_str, isB_int_list, isB_int_tuple, isB_str_bool, isB_str_int, isB_str_str, isB_str_list, isB_str_tuple, isB_list_bool, isB_list_int, isB_list_str, isB_list_list, isB_list_tuple, isB_tuple_bool, isB_tuple_int, isB_tuple_str, isB_tuple_list, isB_tuple_tuple, rSlCI, iRng3, iRev, gCons, gNil, iZip, iEnum, tLc_eq, tFor_eq, iRng1, iRng2, iList, iTup, rSetD, iKeys, tDNewK, Int.reducePow, Int.reduceNeg, Dw.rIxL, rListTI, tMakeK, rTupT, tPar, Dw.rSlCI, rIsB, euB, eFB, atI_k, g1, g2, h21]
      refine ⟨_, _, Dt.dp _ _ (dt_tupI h22), Dt.dp _ _ (dt_tupI h12), shaped_sh (.tup .ints), shaped_sh (.tup .ints), ?_⟩
      rw [PyData.eqv, eqvAll_ints, decide_eq_true rfl]
      refine ⟨_, rfl, ?_⟩
      rw [if_neg (by decide)]
      try simp only [tSeq, tAsg, tVar, tC, tOp, rI0, rI, tUn, rU, tIfS, tTest, tRet, tRetN, tDrop, tCB, tCons, tNil, tLst, tLstI, tTup, gName, tB, tAnd, tOr, tNot, tAndV, tOrV, tNotV, tIf, tNext, tBreak, tCont, gSub, tCall, tCallN, tAug, ipI, tBML, tBML0, isL_IL, isL_lst, L2.start, List.map_cons, List.map_nil, List.length_cons, List.length_nil, List.cons_append, List.nil_append, List.getElem?_cons_succ, List.getElem?_cons_zero, Option.some.injEq, exists_eq_left', exists_eq_left, exists_and_left, V.int.injEq, V.ref.injEq, V.bl.injEq, V.str.injEq, List.set_cons_zero, List.set_cons_succ, List.cons.injEq, and_true, true_and, Nat.reduceAdd, Nat.reduceSub, List.replicate_succ, List.replicate_zero, rIxI, rIxH, rIxTH, rSetI, rSetH, rCatI, rRepI, rSlI, rAppendI, rExtendI, decide_eq_true_eq, upd_same, IL_inj, HO.lst.injEq, toInts_cons, toInts_nil, Option.map_some, if_true, if_false, Bool.true_eq_false, Bool.false_eq_true, Bool.not_true, Bool.not_false, Bool.not_eq_true', decide_eq_false_iff_not, atI_0, atI_1, atI_2, atI_3, atI_4, Int.reduceToNat, Int.reduceLT, Int.reduceLE, Int.reduceNeg, Int.reducePow, cast_lit, upd_upd, Int.reduceAdd, Int.reduceMul, Int.reduceSub, Nat.reduceLT, Nat.reduceLeDiff, cmul_r, cdiv_r, tSl, tPart, tNoPart, rEq, rNe, scal_nn, scal_ii, scal_bb, scal_ss, scal_is, scal_si, V.ty.injEq, and_assoc, tyH_non, tyH_bl, tyH_int, tyH_str, tyH_ref, tyO_lst, tyO_IL, tyO_tup, itO_lst, itO_tup, itO_IL, Dw.rIxD, rLenI, rLenH, rLenTH, rLenQ, rLenB, rListI, Dw.rListS, rIntI, rIntB, rSumI, rIsiD, rIsX, tCallS, tMakeS, tMake, tMakeC, tMakeSC, tFld, sFld, HO.ins.injEq, HO.tup.injEq, cxOf_K, nox_K, tr_K, suite_K, rTupleI, rAllB, rAnyB, BL_inj, tChain, wOnly, wAs, wMany, rEqI, rNeI, Dw.rMax2, rMin2, Dw.rIsN, rIsNotN, rStrIn, rStrNotIn, not_true_eq_false, not_false_eq_true, reduceCtorEq, cl_bool, cl_int, cl_str, cl_list, cl_tuple, isB_NoneType_bool, isB_NoneType_int, isB_NoneType_str, isB_NoneType_list, isB_NoneType_tuple, isB_bool_bool, isB_bool_int, isB_bool_str, isB_bool_list, isB_bool_tuple, isB_int_bool, isB_int_int, isB_int_str, isB_int_list, isB_int_tuple, isB_str_bool, isB_str_int, isB_str_str, isB_str_list, isB_str_tuple, isB_list_bool, isB_list_int, isB_list_str, isB_list_list, isB_list_tuple, isB_tuple_bool, isB_tuple_int, isB_tuple_str, isB_tuple_list, isB_tuple_tuple, rSlCI, iRng3, iRev, gCons, gNil, iZip, iEnum, tLc_eq, tFor_eq, iRng1, iRng2, iList, iTup, rSetD, iKeys, tDNewK, Int.reducePow, Int.reduceNeg, Dw.rIxL, rListTI, tMakeK, rTupT, tPar, Dw.rSlCI, rIsB, euB, eFB, atI_k, g1, g2, h21, decide_true]
      have nb : ∀ b : Bool, ¬ ((!b) = b) := fun b h => by cases b <;> cases h
      rw [if_neg (nb aw)]
      rcases h13 with ⟨f1, f2⟩ | ⟨b1, n1, f1, f2, k1⟩
      · subst f2
        rcases h23 with ⟨q1, q2⟩ | ⟨b2, n2, q1, q2, k2⟩
        · subst q2
          rw [if_neg (fun h => h rfl), if_neg (fun h => h rfl)]
          exact hIn _ (.refl _)
        · rw [f1] at q1
          cases q1
      · subst f2
        rcases h23 with ⟨q1, q2⟩ | ⟨b2, n2, q1, q2, k2⟩
        · rw [f1] at q1
          cases q1
        · subst q2
          rw [f1] at q1
          cases q1
          rw [if_neg (fun h => h rfl), if_pos (fun h => by cases h)]
          refine ⟨b1, rfl, n1, k1, fun l nl => ?_⟩
          have sl := same_new nl (.tup (n1.map V.int))
          refine ⟨b2, l, n1, rfl, sl _ _ k2, upd_same, ?_⟩
          refine ⟨_, rfl, ?_⟩
          rw [if_neg (by decide)]
          refine ⟨fs, sl _ _ eFB, _, g2, t2, rfl, _, by rw [sl _ _ h21]; rfl, _, rfl, rfl, ?_⟩
          rw [if_neg]
          · exact hIn _ sl
          · intro h
            rw [f1] at h
            exact nb dw (by injection h)
    · intro σ H11 h
      rw [hI] at h
      obtain ⟨s11, y8, y10, y11, y12, y13, rfl⟩ := h
      try simp only [tSeq, tAsg, tVar, tC, tOp, rI0, rI, tUn, rU, tIfS, tTest, tRet, tRetN, tDrop, tCB, tCons, tNil, tLst, tLstI, tTup, gName, tB, tAnd, tOr, tNot, tAndV, tOrV, tNotV, tIf, tNext, tBreak, tCont, gSub, tCall, tCallN, tAug, ipI, tBML, tBML0, isL_IL, isL_lst, L2.start, List.map_cons, List.map_nil, List.length_cons, List.length_nil, List.cons_append, List.nil_append, List.getElem?_cons_succ, List.getElem?_cons_zero, Option.some.injEq, exists_eq_left', exists_eq_left, exists_and_left, V.int.injEq, V.ref.injEq, V.bl.injEq, V.str.injEq, List.set_cons_zero, List.set_cons_succ, List.cons.injEq, and_true, true_and, Nat.reduceAdd, Nat.reduceSub, List.replicate_succ, List.replicate_zero, rIxI, rIxH, rIxTH, rSetI, rSetH, rCatI, rRepI, rSlI, rAppendI, rExtendI, decide_eq_true_eq, upd_same, IL_inj, HO.lst.injEq, toInts_cons, toInts_nil, Option.map_some, if_true, if_false, Bool.true_eq_false, Bool.false_eq_true, Bool.not_true, Bool.not_false, Bool.not_eq_true', decide_eq_false_iff_not, atI_0, atI_1, atI_2, atI_3, atI_4, Int.reduceToNat, Int.reduceLT, Int.reduceLE, Int.reduceNeg, Int.reducePow, cast_lit, upd_upd, Int.reduceAdd, Int.reduceMul, Int.reduceSub, Nat.reduceLT, Nat.reduceLeDiff, cmul_r, cdiv_r, tSl, tPart, tNoPart, rEq, rNe, scal_nn, scal_ii, scal_bb, scal_ss, scal_is, scal_si, V.ty.injEq, and_assoc, tyH_non, tyH_bl, tyH_int, tyH_str, tyH_ref, tyO_lst, tyO_IL, tyO_tup, itO_lst, itO_tup, itO_IL, Dw.rIxD, rLenI, rLenH, rLenTH, rLenQ, rLenB, rListI, Dw.rListS, rIntI, rIntB, rSumI, rIsiD, rIsX, tCallS, tMakeS, tMake, tMakeC, tMakeSC, tFld, sFld, HO.ins.injEq, HO.tup.injEq, cxOf_K, nox_K, tr_K, suite_K, rTupleI, rAllB, rAnyB, BL_inj, tChain, wOnly, wAs, wMany, rEqI, rNeI, Dw.rMax2, rMin2, Dw.rIsN, rIsNotN, rStrIn, rStrNotIn, not_true_eq_false, not_false_eq_true, reduceCtorEq, cl_bool, cl_int, cl_str, cl_list, cl_tuple, isB_NoneType_bool, isB_NoneType_int, isB_NoneType_str, isB_NoneType_list, isB_NoneType_tuple, isB_bool_bool, isB_bool_int, isB_bool_str, isB_bool_list, isB_bool_tuple, isB_int_bool, isB_int_int, isB_int_str, isB_int_list, isB_int_tuple, isB_str_bool, isB_str_int, isB_str_str, isB_str_list, isB_str_tuple, isB_list_bool, isB_list_int, isB_list_str, isB_list_list, isB_list_tuple, isB_tuple_bool, isB_tuple_int, isB_tuple_str, isB_tuple_list, isB_tuple_tuple, rSlCI, iRng3, iRev, gCons, gNil, iZip, iEnum, tLc_eq, tFor_eq, iRng1, iRng2, iList, iTup, rSetD, iKeys, tDNewK, Int.reducePow, Int.reduceNeg, Dw.rIxL, rListTI, tMakeK, rTupT, tPar, Dw.rSlCI, rIsB]
      exact k _
end
theorem all_mk {l : PySem.W.OpenLaw} {w : World} {K : PySem.W.Frag} {h : Heap} {mg : Str → Option Value} {fa f1 f2 f3 f4 f5 f6 f7 f8 f9 f10 f11 f12 f13 f14 f15 f16 f17 f18 f19 f20 f21 f22 f23 f24 f25 f26 f27 f28 f29 f30 f31 f32 f33 f34 f35 f36 f37 f38 f39 f40 D11 D12 D13 D21 C_Sector C_Read C_MARK C_MARK_BYTES C_InvalidRead C_InvalidCell : Addr} (X : K.In h) (G : h.Ns mainGlobals mg) (hfa : mg "law" = some (.ref fa))
    {od1 an1 od2 an2 od3 an3 od4 an4 od5 an5 od6 an6 od7 an7 od8 an8 od9 an9 od10 an10 od11 an11 od12 an12 od13 an13 od14 an14 od15 an15 od16 an16 od17 an17 od18 an18 od19 an19 od20 an20 od21 an21 od22 an22 od23 an23 od24 an24 od25 an25 od26 an26 od27 an27 od28 an28 od29 an29 od30 an30 od31 an31 od32 an32 od33 an33 od34 an34 od35 an35 od36 an36 od37 an37 od38 an38 od39 an39 od40 an40 : Option Addr} {sl1 sl2 sl3 sl4 sl5 sl6 sl7 sl8 sl9 sl10 sl11 sl12 sl13 sl14 sl15 sl16 sl17 sl18 sl19 sl20 sl21 sl22 sl23 sl24 sl25 sl26 sl27 sl28 sl29 sl30 sl31 sl32 sl33 sl34 sl35 sl36 sl37 sl38 sl39 sl40 sl_MARK sl_MARK_BYTES : Array (Option Value)} {oc1 kV1 dc1 pm1 cd1 ct1 oc2 kV2 dc2 pm2 cd2 ct2 oc3 kV3 dc3 pm3 cd3 ct3 oc4 kV4 dc4 pm4 cd4 ct4 oc5 kV5 dc5 pm5 cd5 ct5 oc6 kV6 dc6 pm6 cd6 ct6 oc7 kV7 dc7 pm7 cd7 ct7 oc8 kV8 dc8 pm8 cd8 ct8 oc9 kV9 dc9 pm9 cd9 ct9 oc10 kV10 dc10 pm10 cd10 ct10 oc11 dc11 pm11 cd11 ct11 kd11_0 oc12 dc12 pm12 cd12 ct12 kd12_0 oc13 dc13 pm13 cd13 ct13 kd13_0 kd13_1 oc14 kV14 dc14 pm14 cd14 ct14 oc15 kV15 dc15 pm15 cd15 ct15 oc16 kV16 dc16 pm16 cd16 ct16 oc17 kV17 dc17 pm17 cd17 ct17 oc18 kV18 dc18 pm18 cd18 ct18 oc19 kV19 dc19 pm19 cd19 ct19 oc20 kV20 dc20 pm20 cd20 ct20 oc21 dc21 pm21 cd21 ct21 kd21_0 oc22 kV22 dc22 pm22 cd22 ct22 oc23 kV23 dc23 pm23 cd23 ct23 oc24 kV24 dc24 pm24 cd24 ct24 oc25 kV25 dc25 pm25 cd25 ct25 oc26 kV26 dc26 pm26 cd26 ct26 oc27 kV27 dc27 pm27 cd27 ct27 oc28 kV28 dc28 pm28 cd28 ct28 oc29 kV29 dc29 pm29 cd29 ct29 oc30 kV30 dc30 pm30 cd30 ct30 oc31 kV31 dc31 pm31 cd31 ct31 oc32 kV32 dc32 pm32 cd32 ct32 oc33 kV33 dc33 pm33 cd33 ct33 oc34 kV34 dc34 pm34 cd34 ct34 oc35 kV35 dc35 pm35 cd35 ct35 oc36 kV36 dc36 pm36 cd36 ct36 oc37 kV37 dc37 pm37 cd37 ct37 oc38 kV38 dc38 pm38 cd38 ct38 oc39 kV39 dc39 pm39 cd39 ct39 oc40 kV40 dc40 pm40 cd40 ct40 u_ADDRESS_BYTE u_DATA_BYTE u_GREATEST_SIZE u_MARKS_LENGTH u_ADDRESS_LENGTH u_FARTHEST_DATA u_MOST_INTERVALS u_MOST_TICKS u_LEAST_CELL u_GREATEST_CELL : Value} {tk_MARK_0 tk_MARK_1 tk_MARK_2 tk_MARK_3 tk_MARK_4 tk_MARK_5 tk_MARK_6 tk_MARK_7 tk_MARK_8 tk_MARK_9 tk_MARK_10 tk_MARK_11 tk_MARK_12 tk_MARK_13 tk_MARK_14 tk_MARK_15 tk_MARK_BYTES_0 tk_MARK_BYTES_1 tk_MARK_BYTES_2 : Tok} {nn_MARK nn_MARK_BYTES : Nat}
    (ac_Sector : PySem.W.nsIn K mainGlobals "Sector" = some (some (.ref C_Sector))) (pg_Sector : PySem.W.plainGet K C_Sector Str.empty = true) (hd_Sector : PySem.W.hasDictIn K C_Sector = true) (po_Sector : PySem.W.plainOver K C_Sector = true) (sa_Sector : PySem.W.findIn K (.ref C_Sector) "__setattr__" = some (some (.builtin "object.__setattr__"))) (mk_Sector : PySem.W.makesIn K C_Sector = true) (kc_Sector : PySem.W.keepIn K (.ref C_Sector) = true)
    (na_Sector_address : PySem.W.findIn K (.ref C_Sector) "address" = some none)
    (na_Sector_data : PySem.W.findIn K (.ref C_Sector) "data" = some none)
    (na_Sector_address_wrong : PySem.W.findIn K (.ref C_Sector) "address_wrong" = some none)
    (na_Sector_data_wrong : PySem.W.findIn K (.ref C_Sector) "data_wrong" = some none)
    (ac_Read : PySem.W.nsIn K mainGlobals "Read" = some (some (.ref C_Read))) (pg_Read : PySem.W.plainGet K C_Read Str.empty = true) (hd_Read : PySem.W.hasDictIn K C_Read = true) (po_Read : PySem.W.plainOver K C_Read = true) (sa_Read : PySem.W.findIn K (.ref C_Read) "__setattr__" = some (some (.builtin "object.__setattr__"))) (mk_Read : PySem.W.makesIn K C_Read = true) (kc_Read : PySem.W.keepIn K (.ref C_Read) = true)
    (na_Read_intervals : PySem.W.findIn K (.ref C_Read) "intervals" = some none)
    (na_Read_rest : PySem.W.findIn K (.ref C_Read) "rest" = some none)
    (cn_ADDRESS_BYTE : PySem.W.nsIn K mainGlobals "ADDRESS_BYTE" = some (some u_ADDRESS_BYTE)) (rl_ADDRESS_BYTE : RelV (.int 254) u_ADDRESS_BYTE)
    (cn_DATA_BYTE : PySem.W.nsIn K mainGlobals "DATA_BYTE" = some (some u_DATA_BYTE)) (rl_DATA_BYTE : RelV (.int 251) u_DATA_BYTE)
    (cn_GREATEST_SIZE : PySem.W.nsIn K mainGlobals "GREATEST_SIZE" = some (some u_GREATEST_SIZE)) (rl_GREATEST_SIZE : RelV (.int 5) u_GREATEST_SIZE)
    (cn_MARKS_LENGTH : PySem.W.nsIn K mainGlobals "MARKS_LENGTH" = some (some u_MARKS_LENGTH)) (rl_MARKS_LENGTH : RelV (.int 48) u_MARKS_LENGTH)
    (cn_ADDRESS_LENGTH : PySem.W.nsIn K mainGlobals "ADDRESS_LENGTH" = some (some u_ADDRESS_LENGTH)) (rl_ADDRESS_LENGTH : RelV (.int 7) u_ADDRESS_LENGTH)
    (cn_FARTHEST_DATA : PySem.W.nsIn K mainGlobals "FARTHEST_DATA" = some (some u_FARTHEST_DATA)) (rl_FARTHEST_DATA : RelV (.int 960) u_FARTHEST_DATA)
    (cn_MOST_INTERVALS : PySem.W.nsIn K mainGlobals "MOST_INTERVALS" = some (some u_MOST_INTERVALS)) (rl_MOST_INTERVALS : RelV (.int 60000) u_MOST_INTERVALS)
    (cn_MOST_TICKS : PySem.W.nsIn K mainGlobals "MOST_TICKS" = some (some u_MOST_TICKS)) (rl_MOST_TICKS : RelV (.int 1000000) u_MOST_TICKS)
    (cn_LEAST_CELL : PySem.W.nsIn K mainGlobals "LEAST_CELL" = some (some u_LEAST_CELL)) (rl_LEAST_CELL : RelV (.int 10) u_LEAST_CELL)
    (cn_GREATEST_CELL : PySem.W.nsIn K mainGlobals "GREATEST_CELL" = some (some u_GREATEST_CELL)) (rl_GREATEST_CELL : RelV (.int 1000) u_GREATEST_CELL)
    (an_MARK : PySem.W.nsIn K mainGlobals "MARK" = some (some (.ref C_MARK))) (lk_MARK : K.lookup C_MARK = some ⟨.type "tuple", none, .seq #[.int 0 tk_MARK_0, .int 1 tk_MARK_1, .int 0 tk_MARK_2, .int 0 tk_MARK_3, .int 0 tk_MARK_4, .int 1 tk_MARK_5, .int 0 tk_MARK_6, .int 0 tk_MARK_7, .int 1 tk_MARK_8, .int 0 tk_MARK_9, .int 0 tk_MARK_10, .int 0 tk_MARK_11, .int 1 tk_MARK_12, .int 0 tk_MARK_13, .int 0 tk_MARK_14, .int 1 tk_MARK_15] nn_MARK, sl_MARK⟩)
    (an_MARK_BYTES : PySem.W.nsIn K mainGlobals "MARK_BYTES" = some (some (.ref C_MARK_BYTES))) (lk_MARK_BYTES : K.lookup C_MARK_BYTES = some ⟨.type "tuple", none, .seq #[.int 161 tk_MARK_BYTES_0, .int 161 tk_MARK_BYTES_1, .int 161 tk_MARK_BYTES_2] nn_MARK_BYTES, sl_MARK_BYTES⟩)
    (a1 : PySem.W.nsIn K mainGlobals "byte_bits" = some (some (.ref f1))) (l1 : K.lookup f1 = some ⟨oc1, od1, .func (PySem.W.fnOf "byte_bits" "byte_bits" (defArgs s_byte_bits) (defBody s_byte_bits) (defScope s_byte_bits) .none kV1 dc1 pm1 an1 cd1 ct1), sl1⟩) (c1 : PySem.W.codeIn K cd1 "byte_bits" = true) (k1 : PySem.W.keepIn K (.ref f1) = true)
    (a2 : PySem.W.nsIn K mainGlobals "bits_byte" = some (some (.ref f2))) (l2 : K.lookup f2 = some ⟨oc2, od2, .func (PySem.W.fnOf "bits_byte" "bits_byte" (defArgs s_bits_byte) (defBody s_bits_byte) (defScope s_bits_byte) .none kV2 dc2 pm2 an2 cd2 ct2), sl2⟩) (c2 : PySem.W.codeIn K cd2 "bits_byte" = true) (k2 : PySem.W.keepIn K (.ref f2) = true)
    (a3 : PySem.W.nsIn K mainGlobals "are_bytes" = some (some (.ref f3))) (l3 : K.lookup f3 = some ⟨oc3, od3, .func (PySem.W.fnOf "are_bytes" "are_bytes" (defArgs s_are_bytes) (defBody s_are_bytes) (defScope s_are_bytes) .none kV3 dc3 pm3 an3 cd3 ct3), sl3⟩) (c3 : PySem.W.codeIn K cd3 "are_bytes" = true) (k3 : PySem.W.keepIn K (.ref f3) = true)
    (a4 : PySem.W.nsIn K mainGlobals "exclusive" = some (some (.ref f4))) (l4 : K.lookup f4 = some ⟨oc4, od4, .func (PySem.W.fnOf "exclusive" "exclusive" (defArgs s_exclusive) (defBody s_exclusive) (defScope s_exclusive) .none kV4 dc4 pm4 an4 cd4 ct4), sl4⟩) (c4 : PySem.W.codeIn K cd4 "exclusive" = true) (k4 : PySem.W.keepIn K (.ref f4) = true)
    (a5 : PySem.W.nsIn K mainGlobals "crc" = some (some (.ref f5))) (l5 : K.lookup f5 = some ⟨oc5, od5, .func (PySem.W.fnOf "crc" "crc" (defArgs s_crc) (defBody s_crc) (defScope s_crc) .none kV5 dc5 pm5 an5 cd5 ct5), sl5⟩) (c5 : PySem.W.codeIn K cd5 "crc" = true) (k5 : PySem.W.keepIn K (.ref f5) = true)
    (a6 : PySem.W.nsIn K mainGlobals "two_bytes" = some (some (.ref f6))) (l6 : K.lookup f6 = some ⟨oc6, od6, .func (PySem.W.fnOf "two_bytes" "two_bytes" (defArgs s_two_bytes) (defBody s_two_bytes) (defScope s_two_bytes) .none kV6 dc6 pm6 an6 cd6 ct6), sl6⟩) (c6 : PySem.W.codeIn K cd6 "two_bytes" = true) (k6 : PySem.W.keepIn K (.ref f6) = true)
    (a7 : PySem.W.nsIn K mainGlobals "all_bits" = some (some (.ref f7))) (l7 : K.lookup f7 = some ⟨oc7, od7, .func (PySem.W.fnOf "all_bits" "all_bits" (defArgs s_all_bits) (defBody s_all_bits) (defScope s_all_bits) .none kV7 dc7 pm7 an7 cd7 ct7), sl7⟩) (c7 : PySem.W.codeIn K cd7 "all_bits" = true) (k7 : PySem.W.keepIn K (.ref f7) = true)
    (a8 : PySem.W.nsIn K mainGlobals "bytes_of_bits" = some (some (.ref f8))) (l8 : K.lookup f8 = some ⟨oc8, od8, .func (PySem.W.fnOf "bytes_of_bits" "bytes_of_bits" (defArgs s_bytes_of_bits) (defBody s_bytes_of_bits) (defScope s_bytes_of_bits) .none kV8 dc8 pm8 an8 cd8 ct8), sl8⟩) (c8 : PySem.W.codeIn K cd8 "bytes_of_bits" = true) (k8 : PySem.W.keepIn K (.ref f8) = true)
    (a9 : PySem.W.nsIn K mainGlobals "whole_bytes" = some (some (.ref f9))) (l9 : K.lookup f9 = some ⟨oc9, od9, .func (PySem.W.fnOf "whole_bytes" "whole_bytes" (defArgs s_whole_bytes) (defBody s_whole_bytes) (defScope s_whole_bytes) .none kV9 dc9 pm9 an9 cd9 ct9), sl9⟩) (c9 : PySem.W.codeIn K cd9 "whole_bytes" = true) (k9 : PySem.W.keepIn K (.ref f9) = true)
    (a10 : PySem.W.nsIn K mainGlobals "mfm_clock" = some (some (.ref f10))) (l10 : K.lookup f10 = some ⟨oc10, od10, .func (PySem.W.fnOf "mfm_clock" "mfm_clock" (defArgs s_mfm_clock) (defBody s_mfm_clock) (defScope s_mfm_clock) .none kV10 dc10 pm10 an10 cd10 ct10), sl10⟩) (c10 : PySem.W.codeIn K cd10 "mfm_clock" = true) (k10 : PySem.W.keepIn K (.ref f10) = true)
    (a11 : PySem.W.nsIn K mainGlobals "mfm_cells" = some (some (.ref f11))) (l11 : K.lookup f11 = some ⟨oc11, od11, .func (PySem.W.fnOf "mfm_cells" "mfm_cells" (defArgs s_mfm_cells) (defBody s_mfm_cells) (defScope s_mfm_cells) .none (.ref D11) dc11 pm11 an11 cd11 ct11), sl11⟩) (c11 : PySem.W.codeIn K cd11 "mfm_cells" = true) (k11 : PySem.W.keepIn K (.ref f11) = true)
    (n11_0 : PySem.W.nsIn K D11 "before" = some (some kd11_0)) (m11_0 : RelV (.int 0) kd11_0)
    (a12 : PySem.W.nsIn K mainGlobals "read_mfm" = some (some (.ref f12))) (l12 : K.lookup f12 = some ⟨oc12, od12, .func (PySem.W.fnOf "read_mfm" "read_mfm" (defArgs s_read_mfm) (defBody s_read_mfm) (defScope s_read_mfm) .none (.ref D12) dc12 pm12 an12 cd12 ct12), sl12⟩) (c12 : PySem.W.codeIn K cd12 "read_mfm" = true) (k12 : PySem.W.keepIn K (.ref f12) = true)
    (n12_0 : PySem.W.nsIn K D12 "before" = some (some kd12_0)) (m12_0 : RelV (.int 0) kd12_0)
    (j13 : PySem.W.isFn K (.ref f13) = true)
    (a13 : PySem.W.findIn K (.ref C_Sector) "__init__" = some (some (.ref f13))) (l13 : K.lookup f13 = some ⟨oc13, od13, .func (PySem.W.fnOf "__init__" "Sector.__init__" (defArgs s_Sectorinit) (defBody s_Sectorinit) (defScope s_Sectorinit) .none (.ref D13) dc13 pm13 an13 cd13 ct13), sl13⟩) (c13 : PySem.W.codeIn K cd13 "Sector.__init__" = true) (k13 : PySem.W.keepIn K (.ref f13) = true)
    (n13_0 : PySem.W.nsIn K D13 "address_wrong" = some (some kd13_0)) (m13_0 : RelV (.bl false) kd13_0)
    (n13_1 : PySem.W.nsIn K D13 "data_wrong" = some (some kd13_1)) (m13_1 : RelV (.bl false) kd13_1)
    (j14 : PySem.W.isFn K (.ref f14) = true)
    (a14 : PySem.W.findIn K (.ref C_Sector) "__eq__" = some (some (.ref f14))) (l14 : K.lookup f14 = some ⟨oc14, od14, .func (PySem.W.fnOf "__eq__" "Sector.__eq__" (defArgs s_Sectoreq) (defBody s_Sectoreq) (defScope s_Sectoreq) .none kV14 dc14 pm14 an14 cd14 ct14), sl14⟩) (c14 : PySem.W.codeIn K cd14 "Sector.__eq__" = true) (k14 : PySem.W.keepIn K (.ref f14) = true)
    (a15 : PySem.W.nsIn K mainGlobals "data_length" = some (some (.ref f15))) (l15 : K.lookup f15 = some ⟨oc15, od15, .func (PySem.W.fnOf "data_length" "data_length" (defArgs s_data_length) (defBody s_data_length) (defScope s_data_length) .none kV15 dc15 pm15 an15 cd15 ct15), sl15⟩) (c15 : PySem.W.codeIn K cd15 "data_length" = true) (k15 : PySem.W.keepIn K (.ref f15) = true)
    (a16 : PySem.W.nsIn K mainGlobals "is_sector" = some (some (.ref f16))) (l16 : K.lookup f16 = some ⟨oc16, od16, .func (PySem.W.fnOf "is_sector" "is_sector" (defArgs s_is_sector) (defBody s_is_sector) (defScope s_is_sector) .none kV16 dc16 pm16 an16 cd16 ct16), sl16⟩) (c16 : PySem.W.codeIn K cd16 "is_sector" = true) (k16 : PySem.W.keepIn K (.ref f16) = true)
    (a17 : PySem.W.nsIn K mainGlobals "check_sectors" = some (some (.ref f17))) (l17 : K.lookup f17 = some ⟨oc17, od17, .func (PySem.W.fnOf "check_sectors" "check_sectors" (defArgs s_check_sectors) (defBody s_check_sectors) (defScope s_check_sectors) .none kV17 dc17 pm17 an17 cd17 ct17), sl17⟩) (c17 : PySem.W.codeIn K cd17 "check_sectors" = true) (k17 : PySem.W.keepIn K (.ref f17) = true)
    (a18 : PySem.W.nsIn K mainGlobals "track_bytes" = some (some (.ref f18))) (l18 : K.lookup f18 = some ⟨oc18, od18, .func (PySem.W.fnOf "track_bytes" "track_bytes" (defArgs s_track_bytes) (defBody s_track_bytes) (defScope s_track_bytes) .none kV18 dc18 pm18 an18 cd18 ct18), sl18⟩) (c18 : PySem.W.codeIn K cd18 "track_bytes" = true) (k18 : PySem.W.keepIn K (.ref f18) = true)
    (a19 : PySem.W.nsIn K mainGlobals "gap_cells" = some (some (.ref f19))) (l19 : K.lookup f19 = some ⟨oc19, od19, .func (PySem.W.fnOf "gap_cells" "gap_cells" (defArgs s_gap_cells) (defBody s_gap_cells) (defScope s_gap_cells) .none kV19 dc19 pm19 an19 cd19 ct19), sl19⟩) (c19 : PySem.W.codeIn K cd19 "gap_cells" = true) (k19 : PySem.W.keepIn K (.ref f19) = true)
    (a20 : PySem.W.nsIn K mainGlobals "field_cells" = some (some (.ref f20))) (l20 : K.lookup f20 = some ⟨oc20, od20, .func (PySem.W.fnOf "field_cells" "field_cells" (defArgs s_field_cells) (defBody s_field_cells) (defScope s_field_cells) .none kV20 dc20 pm20 an20 cd20 ct20), sl20⟩) (c20 : PySem.W.codeIn K cd20 "field_cells" = true) (k20 : PySem.W.keepIn K (.ref f20) = true)
    (a21 : PySem.W.nsIn K mainGlobals "track_cells" = some (some (.ref f21))) (l21 : K.lookup f21 = some ⟨oc21, od21, .func (PySem.W.fnOf "track_cells" "track_cells" (defArgs s_track_cells) (defBody s_track_cells) (defScope s_track_cells) .none (.ref D21) dc21 pm21 an21 cd21 ct21), sl21⟩) (c21 : PySem.W.codeIn K cd21 "track_cells" = true) (k21 : PySem.W.keepIn K (.ref f21) = true)
    (n21_0 : PySem.W.nsIn K D21 "length" = some (some kd21_0)) (m21_0 : RelV (.int 0) kd21_0)
    (a22 : PySem.W.nsIn K mainGlobals "mark_places" = some (some (.ref f22))) (l22 : K.lookup f22 = some ⟨oc22, od22, .func (PySem.W.fnOf "mark_places" "mark_places" (defArgs s_mark_places) (defBody s_mark_places) (defScope s_mark_places) .none kV22 dc22 pm22 an22 cd22 ct22), sl22⟩) (c22 : PySem.W.codeIn K cd22 "mark_places" = true) (k22 : PySem.W.keepIn K (.ref f22) = true)
    (a23 : PySem.W.nsIn K mainGlobals "read_behind" = some (some (.ref f23))) (l23 : K.lookup f23 = some ⟨oc23, od23, .func (PySem.W.fnOf "read_behind" "read_behind" (defArgs s_read_behind) (defBody s_read_behind) (defScope s_read_behind) .none kV23 dc23 pm23 an23 cd23 ct23), sl23⟩) (c23 : PySem.W.codeIn K cd23 "read_behind" = true) (k23 : PySem.W.keepIn K (.ref f23) = true)
    (a24 : PySem.W.nsIn K mainGlobals "crc_fits" = some (some (.ref f24))) (l24 : K.lookup f24 = some ⟨oc24, od24, .func (PySem.W.fnOf "crc_fits" "crc_fits" (defArgs s_crc_fits) (defBody s_crc_fits) (defScope s_crc_fits) .none kV24 dc24 pm24 an24 cd24 ct24), sl24⟩) (c24 : PySem.W.codeIn K cd24 "crc_fits" = true) (k24 : PySem.W.keepIn K (.ref f24) = true)
    (a25 : PySem.W.nsIn K mainGlobals "data_behind" = some (some (.ref f25))) (l25 : K.lookup f25 = some ⟨oc25, od25, .func (PySem.W.fnOf "data_behind" "data_behind" (defArgs s_data_behind) (defBody s_data_behind) (defScope s_data_behind) .none kV25 dc25 pm25 an25 cd25 ct25), sl25⟩) (c25 : PySem.W.codeIn K cd25 "data_behind" = true) (k25 : PySem.W.keepIn K (.ref f25) = true)
    (a26 : PySem.W.nsIn K mainGlobals "found_sectors" = some (some (.ref f26))) (l26 : K.lookup f26 = some ⟨oc26, od26, .func (PySem.W.fnOf "found_sectors" "found_sectors" (defArgs s_found_sectors) (defBody s_found_sectors) (defScope s_found_sectors) .none kV26 dc26 pm26 an26 cd26 ct26), sl26⟩) (c26 : PySem.W.codeIn K cd26 "found_sectors" = true) (k26 : PySem.W.keepIn K (.ref f26) = true)
    (j27 : PySem.W.isFn K (.ref f27) = true)
    (a27 : PySem.W.findIn K (.ref C_Read) "__init__" = some (some (.ref f27))) (l27 : K.lookup f27 = some ⟨oc27, od27, .func (PySem.W.fnOf "__init__" "Read.__init__" (defArgs s_Readinit) (defBody s_Readinit) (defScope s_Readinit) .none kV27 dc27 pm27 an27 cd27 ct27), sl27⟩) (c27 : PySem.W.codeIn K cd27 "Read.__init__" = true) (k27 : PySem.W.keepIn K (.ref f27) = true)
    (a28 : PySem.W.nsIn K mainGlobals "is_cell" = some (some (.ref f28))) (l28 : K.lookup f28 = some ⟨oc28, od28, .func (PySem.W.fnOf "is_cell" "is_cell" (defArgs s_is_cell) (defBody s_is_cell) (defScope s_is_cell) .none kV28 dc28 pm28 an28 cd28 ct28), sl28⟩) (c28 : PySem.W.codeIn K cd28 "is_cell" = true) (k28 : PySem.W.keepIn K (.ref f28) = true)
    (a29 : PySem.W.nsIn K mainGlobals "check_cell" = some (some (.ref f29))) (l29 : K.lookup f29 = some ⟨oc29, od29, .func (PySem.W.fnOf "check_cell" "check_cell" (defArgs s_check_cell) (defBody s_check_cell) (defScope s_check_cell) .none kV29 dc29 pm29 an29 cd29 ct29), sl29⟩) (c29 : PySem.W.codeIn K cd29 "check_cell" = true) (k29 : PySem.W.keepIn K (.ref f29) = true)
    (a30 : PySem.W.nsIn K mainGlobals "flux_of" = some (some (.ref f30))) (l30 : K.lookup f30 = some ⟨oc30, od30, .func (PySem.W.fnOf "flux_of" "flux_of" (defArgs s_flux_of) (defBody s_flux_of) (defScope s_flux_of) .none kV30 dc30 pm30 an30 cd30 ct30), sl30⟩) (c30 : PySem.W.codeIn K cd30 "flux_of" = true) (k30 : PySem.W.keepIn K (.ref f30) = true)
    (a31 : PySem.W.nsIn K mainGlobals "fixed_cells" = some (some (.ref f31))) (l31 : K.lookup f31 = some ⟨oc31, od31, .func (PySem.W.fnOf "fixed_cells" "fixed_cells" (defArgs s_fixed_cells) (defBody s_fixed_cells) (defScope s_fixed_cells) .none kV31 dc31 pm31 an31 cd31 ct31), sl31⟩) (c31 : PySem.W.codeIn K cd31 "fixed_cells" = true) (k31 : PySem.W.keepIn K (.ref f31) = true)
    (a32 : PySem.W.nsIn K mainGlobals "_law_cell" = some (some (.ref f32))) (l32 : K.lookup f32 = some ⟨oc32, od32, .func (PySem.W.fnOf "_law_cell" "_law_cell" (defArgs s_law_cell) (defBody s_law_cell) (defScope s_law_cell) .none kV32 dc32 pm32 an32 cd32 ct32), sl32⟩) (c32 : PySem.W.codeIn K cd32 "_law_cell" = true) (k32 : PySem.W.keepIn K (.ref f32) = true)
    (a33 : PySem.W.nsIn K mainGlobals "_law_draws" = some (some (.ref f33))) (l33 : K.lookup f33 = some ⟨oc33, od33, .func (PySem.W.fnOf "_law_draws" "_law_draws" (defArgs s_law_draws) (defBody s_law_draws) (defScope s_law_draws) .none kV33 dc33 pm33 an33 cd33 ct33), sl33⟩) (c33 : PySem.W.codeIn K cd33 "_law_draws" = true) (k33 : PySem.W.keepIn K (.ref f33) = true)
    (a34 : PySem.W.nsIn K mainGlobals "_law_is_int" = some (some (.ref f34))) (l34 : K.lookup f34 = some ⟨oc34, od34, .func (PySem.W.fnOf "_law_is_int" "_law_is_int" (defArgs s_law_is_int) (defBody s_law_is_int) (defScope s_law_is_int) .none kV34 dc34 pm34 an34 cd34 ct34), sl34⟩) (c34 : PySem.W.codeIn K cd34 "_law_is_int" = true) (k34 : PySem.W.keepIn K (.ref f34) = true)
    (a35 : PySem.W.nsIn K mainGlobals "_law_ints" = some (some (.ref f35))) (l35 : K.lookup f35 = some ⟨oc35, od35, .func (PySem.W.fnOf "_law_ints" "_law_ints" (defArgs s_law_ints) (defBody s_law_ints) (defScope s_law_ints) .none kV35 dc35 pm35 an35 cd35 ct35), sl35⟩) (c35 : PySem.W.codeIn K cd35 "_law_ints" = true) (k35 : PySem.W.keepIn K (.ref f35) = true)
    (a36 : PySem.W.nsIn K mainGlobals "_law_is_tuple" = some (some (.ref f36))) (l36 : K.lookup f36 = some ⟨oc36, od36, .func (PySem.W.fnOf "_law_is_tuple" "_law_is_tuple" (defArgs s_law_is_tuple) (defBody s_law_is_tuple) (defScope s_law_is_tuple) .none kV36 dc36 pm36 an36 cd36 ct36), sl36⟩) (c36 : PySem.W.codeIn K cd36 "_law_is_tuple" = true) (k36 : PySem.W.keepIn K (.ref f36) = true)
    (a37 : PySem.W.nsIn K mainGlobals "_law_data" = some (some (.ref f37))) (l37 : K.lookup f37 = some ⟨oc37, od37, .func (PySem.W.fnOf "_law_data" "_law_data" (defArgs s_law_data) (defBody s_law_data) (defScope s_law_data) .none kV37 dc37 pm37 an37 cd37 ct37), sl37⟩) (c37 : PySem.W.codeIn K cd37 "_law_data" = true) (k37 : PySem.W.keepIn K (.ref f37) = true)
    (a38 : PySem.W.nsIn K mainGlobals "_law_sectors" = some (some (.ref f38))) (l38 : K.lookup f38 = some ⟨oc38, od38, .func (PySem.W.fnOf "_law_sectors" "_law_sectors" (defArgs s_law_sectors) (defBody s_law_sectors) (defScope s_law_sectors) .none kV38 dc38 pm38 an38 cd38 ct38), sl38⟩) (c38 : PySem.W.codeIn K cd38 "_law_sectors" = true) (k38 : PySem.W.keepIn K (.ref f38) = true)
    (a39 : PySem.W.nsIn K mainGlobals "_law_made" = some (some (.ref f39))) (l39 : K.lookup f39 = some ⟨oc39, od39, .func (PySem.W.fnOf "_law_made" "_law_made" (defArgs s_law_made) (defBody s_law_made) (defScope s_law_made) .none kV39 dc39 pm39 an39 cd39 ct39), sl39⟩) (c39 : PySem.W.codeIn K cd39 "_law_made" = true) (k39 : PySem.W.keepIn K (.ref f39) = true)
    (a40 : PySem.W.nsIn K mainGlobals "law" = some (some (.ref f40))) (l40 : K.lookup f40 = some ⟨oc40, od40, .func (PySem.W.fnOf "law" "law" (defArgs s_law) (defBody s_law) (defScope s_law) .none kV40 dc40 pm40 an40 cd40 ct40), sl40⟩) (c40 : PySem.W.codeIn K cd40 "law" = true) (k40 : PySem.W.keepIn K (.ref f40) = true)
    (z_all : PySem.W.nsIn K mainGlobals "all" = some none)
    (z_bool : PySem.W.nsIn K mainGlobals "bool" = some none)
    (z_enumerate : PySem.W.nsIn K mainGlobals "enumerate" = some none)
    (z_int : PySem.W.nsIn K mainGlobals "int" = some none)
    (z_isinstance : PySem.W.nsIn K mainGlobals "isinstance" = some none)
    (z_len : PySem.W.nsIn K mainGlobals "len" = some none)
    (z_list : PySem.W.nsIn K mainGlobals "list" = some none)
    (z_max : PySem.W.nsIn K mainGlobals "max" = some none)
    (z_range : PySem.W.nsIn K mainGlobals "range" = some none)
    (z_tuple : PySem.W.nsIn K mainGlobals "tuple" = some none)
    (a_InvalidRead : PySem.W.nsIn K mainGlobals "InvalidRead" = some (some (.ref C_InvalidRead))) (x_InvalidRead : PySem.W.excIn K C_InvalidRead [.type "ValueError", .type "Exception", .type "BaseException", .type "object"] "ValueError.__new__" = true) (k_InvalidRead : PySem.W.keepIn K (.ref C_InvalidRead) = true) (b_InvalidRead : PySem.W.subIn K (.ref C_InvalidRead) (.type "BaseException") = some true) (t_InvalidRead : PySem.W.typeIn K (.ref C_InvalidRead) = some (.type "type")) (i_InvalidRead : PySem.W.isClsIn K C_InvalidRead = true) (s_InvalidRead : PySem.W.subIn K (.ref C_InvalidRead) (.ref C_InvalidRead) = some true)
    (a_InvalidCell : PySem.W.nsIn K mainGlobals "InvalidCell" = some (some (.ref C_InvalidCell))) (x_InvalidCell : PySem.W.excIn K C_InvalidCell [.type "ValueError", .type "Exception", .type "BaseException", .type "object"] "ValueError.__new__" = true) (k_InvalidCell : PySem.W.keepIn K (.ref C_InvalidCell) = true) (b_InvalidCell : PySem.W.subIn K (.ref C_InvalidCell) (.type "BaseException") = some true) (t_InvalidCell : PySem.W.typeIn K (.ref C_InvalidCell) = some (.type "type")) (i_InvalidCell : PySem.W.isClsIn K C_InvalidCell = true) (s_InvalidCell : PySem.W.subIn K (.ref C_InvalidCell) (.ref C_InvalidCell) = some true)
    (ia_Sector : PySem.W.findIn K (.ref C_Sector) "__class__" = some (some (.builtin "object.__class__"))) (im_Sector : PySem.W.mroIn K C_Sector (.type "object") = some true) (kit_Sector : PySem.W.kitOne K (.ref C_Sector) (.ref C_Sector) = some true)
    (hn_ : PySem.W.specialIn K (.builtin "object.__class__") "__get__" = some (some (.builtin "getset_descriptor.__get__"))) (ht_ : PySem.W.takesIn K (.builtin "object.__class__") = some true)
    : ∃ fd : FuncData, (∀ (s : Shared) (v : Value), BindsTo s fd ⟨[v], []⟩ [("script", v)]) ∧ ∀ base : Heap, K.In base → base.Ns mainGlobals mg → FnOk l.prog w K mg base CX0 7 fa fd ["script"] (spLaw K) := by
  have e := hfa.symm.trans (PySem.W.mg_of X G a40)
  cases e
  have F1 := fun_mk (st := s_byte_bits) l1 c1 k1
  have b1 := F1.binds (ps := ["value"]) fun _ _ _ _ _ _ us hl => match us, hl with | [_], _ => rfl
  have F2 := fun_mk (st := s_bits_byte) l2 c2 k2
  have b2 := F2.binds (ps := ["bits"]) fun _ _ _ _ _ _ us hl => match us, hl with | [_], _ => rfl
  have F3 := fun_mk (st := s_are_bytes) l3 c3 k3
  have b3 := F3.binds (ps := ["values"]) fun _ _ _ _ _ _ us hl => match us, hl with | [_], _ => rfl
  have F4 := fun_mk (st := s_exclusive) l4 c4 k4
  have b4 := F4.binds (ps := ["first", "second"]) fun _ _ _ _ _ _ us hl => match us, hl with | [_, _], _ => rfl
  have F5 := fun_mk (st := s_crc) l5 c5 k5
  have b5 := F5.binds (ps := ["values"]) fun _ _ _ _ _ _ us hl => match us, hl with | [_], _ => rfl
  have F6 := fun_mk (st := s_two_bytes) l6 c6 k6
  have b6 := F6.binds (ps := ["number"]) fun _ _ _ _ _ _ us hl => match us, hl with | [_], _ => rfl
  have F7 := fun_mk (st := s_all_bits) l7 c7 k7
  have b7 := F7.binds (ps := ["values"]) fun _ _ _ _ _ _ us hl => match us, hl with | [_], _ => rfl
  have F8 := fun_mk (st := s_bytes_of_bits) l8 c8 k8
  have b8 := F8.binds (ps := ["bits"]) fun _ _ _ _ _ _ us hl => match us, hl with | [_], _ => rfl
  have F9 := fun_mk (st := s_whole_bytes) l9 c9 k9
  have b9 := F9.binds (ps := ["cells", "count"]) fun _ _ _ _ _ _ us hl => match us, hl with | [_, _], _ => rfl
  have F10 := fun_mk (st := s_mfm_clock) l10 c10 k10
  have b10 := F10.binds (ps := ["last", "bit"]) fun _ _ _ _ _ _ us hl => match us, hl with | [_, _], _ => rfl
  have F11 : FunD K "mfm_cells" "mfm_cells" (defArgs s_mfm_cells) (defBody s_mfm_cells) (defScope s_mfm_cells) [] [("before", .int 0)] f11 (PySem.W.fnOf "mfm_cells" "mfm_cells" (defArgs s_mfm_cells) (defBody s_mfm_cells) (defScope s_mfm_cells) .none (.ref D11) dc11 pm11 an11 cd11 ct11) := ⟨⟨oc11, od11, .none, .ref D11, dc11, pm11, an11, cd11, ct11, sl11, rfl, l11, c11, .inl ⟨rfl, rfl⟩, .inr ⟨D11, rfl, fun q hq => by (rw [List.mem_singleton.mp hq]; exact ⟨_, n11_0, m11_0⟩)⟩⟩, k11⟩
  obtain ⟨ds11, v11, b11⟩ := F11.binds0 (ps := ["values", "before"]) 1 (by simp) rfl (fun D doc pm an cdv ct us ks h1 h2 => match us, ks, h1, h2 with | [_], [_], _, _ => ⟨_, _, _, _, _, _, rfl, rfl, rfl⟩)
  have kb11 : KBn K (PySem.W.fnOf "mfm_cells" "mfm_cells" (defArgs s_mfm_cells) (defBody s_mfm_cells) (defScope s_mfm_cells) .none (.ref D11) dc11 pm11 an11 cd11 ct11) ["values", "before"] 1 ["before"] (fun us ws => us ++ ws) (fun vs zs => vs ++ zs) := ⟨fun s us ws X h1 h2 => match us, ws, h1, h2 with | [_], [_], _, _ => .of_eq rfl, fun r1 r2 => r1.append r2⟩
  have F12 : FunD K "read_mfm" "read_mfm" (defArgs s_read_mfm) (defBody s_read_mfm) (defScope s_read_mfm) [] [("before", .int 0)] f12 (PySem.W.fnOf "read_mfm" "read_mfm" (defArgs s_read_mfm) (defBody s_read_mfm) (defScope s_read_mfm) .none (.ref D12) dc12 pm12 an12 cd12 ct12) := ⟨⟨oc12, od12, .none, .ref D12, dc12, pm12, an12, cd12, ct12, sl12, rfl, l12, c12, .inl ⟨rfl, rfl⟩, .inr ⟨D12, rfl, fun q hq => by (rw [List.mem_singleton.mp hq]; exact ⟨_, n12_0, m12_0⟩)⟩⟩, k12⟩
  obtain ⟨ds12, v12, b12⟩ := F12.binds0 (ps := ["cells", "before"]) 1 (by simp) rfl (fun D doc pm an cdv ct us ks h1 h2 => match us, ks, h1, h2 with | [_], [_], _, _ => ⟨_, _, _, _, _, _, rfl, rfl, rfl⟩)
  have kb12 : KBn K (PySem.W.fnOf "read_mfm" "read_mfm" (defArgs s_read_mfm) (defBody s_read_mfm) (defScope s_read_mfm) .none (.ref D12) dc12 pm12 an12 cd12 ct12) ["cells", "before"] 1 ["before"] (fun us ws => us ++ ws) (fun vs zs => vs ++ zs) := ⟨fun s us ws X h1 h2 => match us, ws, h1, h2 with | [_], [_], _, _ => .of_eq rfl, fun r1 r2 => r1.append r2⟩
  have F13 : FunD K "__init__" "Sector.__init__" (defArgs s_Sectorinit) (defBody s_Sectorinit) (defScope s_Sectorinit) [] [("address_wrong", .bl false), ("data_wrong", .bl false)] f13 (PySem.W.fnOf "__init__" "Sector.__init__" (defArgs s_Sectorinit) (defBody s_Sectorinit) (defScope s_Sectorinit) .none (.ref D13) dc13 pm13 an13 cd13 ct13) := ⟨⟨oc13, od13, .none, .ref D13, dc13, pm13, an13, cd13, ct13, sl13, rfl, l13, c13, .inl ⟨rfl, rfl⟩, .inr ⟨D13, rfl, fun q hq => match List.mem_cons.mp hq with | .inl h => by (rw [h]; exact ⟨_, n13_0, m13_0⟩) | .inr hq => by (rw [List.mem_singleton.mp hq]; exact ⟨_, n13_1, m13_1⟩)⟩⟩, k13⟩
  obtain ⟨ds13, v13, b13⟩ := F13.binds0 (ps := ["self", "address", "data", "address_wrong", "data_wrong"]) 3 (by simp) rfl (fun D doc pm an cdv ct us ks h1 h2 => match us, ks, h1, h2 with | [_, _, _], [_, _], _, _ => ⟨_, _, _, _, _, _, rfl, rfl, ⟨_, _, _, _, _, _, rfl, rfl, rfl⟩⟩)
  have kb13 : KBn K (PySem.W.fnOf "__init__" "Sector.__init__" (defArgs s_Sectorinit) (defBody s_Sectorinit) (defScope s_Sectorinit) .none (.ref D13) dc13 pm13 an13 cd13 ct13) ["self", "address", "data", "address_wrong", "data_wrong"] 3 ["address_wrong", "data_wrong"] (fun us ws => us ++ ws) (fun vs zs => vs ++ zs) := ⟨fun s us ws X h1 h2 => match us, ws, h1, h2 with | [_, _, _], [_, _], _, _ => .of_eq rfl, fun r1 r2 => r1.append r2⟩
  have F14 := fun_mk (st := s_Sectoreq) l14 c14 k14
  have b14 := F14.binds (ps := ["self", "other"]) fun _ _ _ _ _ _ us hl => match us, hl with | [_, _], _ => rfl
  have F15 := fun_mk (st := s_data_length) l15 c15 k15
  have b15 := F15.binds (ps := ["size"]) fun _ _ _ _ _ _ us hl => match us, hl with | [_], _ => rfl
  have F16 := fun_mk (st := s_is_sector) l16 c16 k16
  have b16 := F16.binds (ps := ["sector"]) fun _ _ _ _ _ _ us hl => match us, hl with | [_], _ => rfl
  have F17 := fun_mk (st := s_check_sectors) l17 c17 k17
  have b17 := F17.binds (ps := ["sectors"]) fun _ _ _ _ _ _ us hl => match us, hl with | [_], _ => rfl
  have F18 := fun_mk (st := s_track_bytes) l18 c18 k18
  have b18 := F18.binds (ps := ["sectors"]) fun _ _ _ _ _ _ us hl => match us, hl with | [_], _ => rfl
  have F19 := fun_mk (st := s_gap_cells) l19 c19 k19
  have b19 := F19.binds (ps := ["count", "before"]) fun _ _ _ _ _ _ us hl => match us, hl with | [_, _], _ => rfl
  have F20 := fun_mk (st := s_field_cells) l20 c20 k20
  have b20 := F20.binds (ps := ["values", "wrong"]) fun _ _ _ _ _ _ us hl => match us, hl with | [_, _], _ => rfl
  have F21 : FunD K "track_cells" "track_cells" (defArgs s_track_cells) (defBody s_track_cells) (defScope s_track_cells) [] [("length", .int 0)] f21 (PySem.W.fnOf "track_cells" "track_cells" (defArgs s_track_cells) (defBody s_track_cells) (defScope s_track_cells) .none (.ref D21) dc21 pm21 an21 cd21 ct21) := ⟨⟨oc21, od21, .none, .ref D21, dc21, pm21, an21, cd21, ct21, sl21, rfl, l21, c21, .inl ⟨rfl, rfl⟩, .inr ⟨D21, rfl, fun q hq => by (rw [List.mem_singleton.mp hq]; exact ⟨_, n21_0, m21_0⟩)⟩⟩, k21⟩
  obtain ⟨ds21, v21, b21⟩ := F21.binds0 (ps := ["sectors", "length"]) 1 (by simp) rfl (fun D doc pm an cdv ct us ks h1 h2 => match us, ks, h1, h2 with | [_], [_], _, _ => ⟨_, _, _, _, _, _, rfl, rfl, rfl⟩)
  have kb21 : KBn K (PySem.W.fnOf "track_cells" "track_cells" (defArgs s_track_cells) (defBody s_track_cells) (defScope s_track_cells) .none (.ref D21) dc21 pm21 an21 cd21 ct21) ["sectors", "length"] 1 ["length"] (fun us ws => us ++ ws) (fun vs zs => vs ++ zs) := ⟨fun s us ws X h1 h2 => match us, ws, h1, h2 with | [_], [_], _, _ => .of_eq rfl, fun r1 r2 => r1.append r2⟩
  have F22 := fun_mk (st := s_mark_places) l22 c22 k22
  have b22 := F22.binds (ps := ["cells"]) fun _ _ _ _ _ _ us hl => match us, hl with | [_], _ => rfl
  have F23 := fun_mk (st := s_read_behind) l23 c23 k23
  have b23 := F23.binds (ps := ["cells", "place", "count"]) fun _ _ _ _ _ _ us hl => match us, hl with | [_, _, _], _ => rfl
  have F24 := fun_mk (st := s_crc_fits) l24 c24 k24
  have b24 := F24.binds (ps := ["values"]) fun _ _ _ _ _ _ us hl => match us, hl with | [_], _ => rfl
  have F25 := fun_mk (st := s_data_behind) l25 c25 k25
  have b25 := F25.binds (ps := ["cells", "size", "end", "place"]) fun _ _ _ _ _ _ us hl => match us, hl with | [_, _, _, _], _ => rfl
  have F26 := fun_mk (st := s_found_sectors) l26 c26 k26
  have b26 := F26.binds (ps := ["cells"]) fun _ _ _ _ _ _ us hl => match us, hl with | [_], _ => rfl
  have F27 := fun_mk (st := s_Readinit) l27 c27 k27
  have b27 := F27.binds (ps := ["self", "intervals", "rest"]) fun _ _ _ _ _ _ us hl => match us, hl with | [_, _, _], _ => rfl
  have F28 := fun_mk (st := s_is_cell) l28 c28 k28
  have b28 := F28.binds (ps := ["cell"]) fun _ _ _ _ _ _ us hl => match us, hl with | [_], _ => rfl
  have F29 := fun_mk (st := s_check_cell) l29 c29 k29
  have b29 := F29.binds (ps := ["cell"]) fun _ _ _ _ _ _ us hl => match us, hl with | [_], _ => rfl
  have F30 := fun_mk (st := s_flux_of) l30 c30 k30
  have b30 := F30.binds (ps := ["cells", "cell"]) fun _ _ _ _ _ _ us hl => match us, hl with | [_, _], _ => rfl
  have F31 := fun_mk (st := s_fixed_cells) l31 c31 k31
  have b31 := F31.binds (ps := ["read", "cell"]) fun _ _ _ _ _ _ us hl => match us, hl with | [_, _], _ => rfl
  have F32 := fun_mk (st := s_law_cell) l32 c32 k32
  have b32 := F32.binds (ps := ["script", "k"]) fun _ _ _ _ _ _ us hl => match us, hl with | [_, _], _ => rfl
  have F33 := fun_mk (st := s_law_draws) l33 c33 k33
  have b33 := F33.binds (ps := ["cell", "count"]) fun _ _ _ _ _ _ us hl => match us, hl with | [_, _], _ => rfl
  have F34 := fun_mk (st := s_law_is_int) l34 c34 k34
  have b34 := F34.binds (ps := ["x"]) fun _ _ _ _ _ _ us hl => match us, hl with | [_], _ => rfl
  have F35 := fun_mk (st := s_law_ints) l35 c35 k35
  have b35 := F35.binds (ps := ["x", "kind"]) fun _ _ _ _ _ _ us hl => match us, hl with | [_, _], _ => rfl
  have F36 := fun_mk (st := s_law_is_tuple) l36 c36 k36
  have b36 := F36.binds (ps := ["x", "due"]) fun _ _ _ _ _ _ us hl => match us, hl with | [_, _], _ => rfl
  have F37 := fun_mk (st := s_law_data) l37 c37 k37
  have b37 := F37.binds (ps := ["draws", "at", "count"]) fun _ _ _ _ _ _ us hl => match us, hl with | [_, _, _], _ => rfl
  have F38 := fun_mk (st := s_law_sectors) l38 c38 k38
  have b38 := F38.binds (ps := ["draws", "at", "many", "track"]) fun _ _ _ _ _ _ us hl => match us, hl with | [_, _, _, _], _ => rfl
  have F39 := fun_mk (st := s_law_made) l39 c39 k39
  have b39 := F39.binds (ps := ["sectors"]) fun _ _ _ _ _ _ us hl => match us, hl with | [_], _ => rfl
  have F40 := fun_mk (st := s_law) l40 c40 k40
  have b40 := F40.binds (ps := ["script"]) fun _ _ _ _ _ _ us hl => match us, hl with | [_], _ => rfl
  have T : Tx K mg ⟨f1, _, f2, _, f3, _, f4, _, f5, _, f6, _, f7, _, f8, _, f9, _, f10, _, f11, _, ds11, f12, _, ds12, f13, _, ds13, f14, _, f15, _, f16, _, f17, _, f18, _, f19, _, f20, _, f21, _, ds21, f22, _, f23, _, f24, _, f25, _, f26, _, f27, _, f28, _, f29, _, f30, _, f31, _, f32, _, f33, _, f34, _, f35, _, f36, _, f37, _, f38, _, f39, _, fa, _, u_ADDRESS_BYTE, u_DATA_BYTE, u_GREATEST_SIZE, u_MARKS_LENGTH, u_ADDRESS_LENGTH, u_FARTHEST_DATA, u_MOST_INTERVALS, u_MOST_TICKS, u_LEAST_CELL, u_GREATEST_CELL, C_Sector, C_Read, C_InvalidRead, C_InvalidCell, C_MARK, C_MARK_BYTES⟩ := { F_byte_bits := F1, b_byte_bits := b1, g_byte_bits := PySem.W.mg_of X G a1, F_bits_byte := F2, b_bits_byte := b2, g_bits_byte := PySem.W.mg_of X G a2, F_are_bytes := F3, b_are_bytes := b3, g_are_bytes := PySem.W.mg_of X G a3, F_exclusive := F4, b_exclusive := b4, g_exclusive := PySem.W.mg_of X G a4, F_crc := F5, b_crc := b5, g_crc := PySem.W.mg_of X G a5, F_two_bytes := F6, b_two_bytes := b6, g_two_bytes := PySem.W.mg_of X G a6, F_all_bits := F7, b_all_bits := b7, g_all_bits := PySem.W.mg_of X G a7, F_bytes_of_bits := F8, b_bytes_of_bits := b8, g_bytes_of_bits := PySem.W.mg_of X G a8, F_whole_bytes := F9, b_whole_bytes := b9, g_whole_bytes := PySem.W.mg_of X G a9, F_mfm_clock := F10, b_mfm_clock := b10, g_mfm_clock := PySem.W.mg_of X G a10, F_mfm_cells := F11, b_mfm_cells := b11, g_mfm_cells := PySem.W.mg_of X G a11, v_mfm_cells := v11, kb_mfm_cells := kb11, F_read_mfm := F12, b_read_mfm := b12, g_read_mfm := PySem.W.mg_of X G a12, v_read_mfm := v12, kb_read_mfm := kb12, F_Sectorinit := F13, b_Sectorinit := b13, mk_Sector := ⟨mk_Sector, a13, j13, kc_Sector⟩, v_Sectorinit := v13, kb_Sectorinit := kb13, F_Sectoreq := F14, b_Sectoreq := b14, me_Sectoreq := ⟨a14, j14, k14⟩, F_data_length := F15, b_data_length := b15, g_data_length := PySem.W.mg_of X G a15, F_is_sector := F16, b_is_sector := b16, g_is_sector := PySem.W.mg_of X G a16, F_check_sectors := F17, b_check_sectors := b17, g_check_sectors := PySem.W.mg_of X G a17, F_track_bytes := F18, b_track_bytes := b18, g_track_bytes := PySem.W.mg_of X G a18, F_gap_cells := F19, b_gap_cells := b19, g_gap_cells := PySem.W.mg_of X G a19, F_field_cells := F20, b_field_cells := b20, g_field_cells := PySem.W.mg_of X G a20, F_track_cells := F21, b_track_cells := b21, g_track_cells := PySem.W.mg_of X G a21, v_track_cells := v21, kb_track_cells := kb21, F_mark_places := F22, b_mark_places := b22, g_mark_places := PySem.W.mg_of X G a22, F_read_behind := F23, b_read_behind := b23, g_read_behind := PySem.W.mg_of X G a23, F_crc_fits := F24, b_crc_fits := b24, g_crc_fits := PySem.W.mg_of X G a24, F_data_behind := F25, b_data_behind := b25, g_data_behind := PySem.W.mg_of X G a25, F_found_sectors := F26, b_found_sectors := b26, g_found_sectors := PySem.W.mg_of X G a26, F_Readinit := F27, b_Readinit := b27, mk_Read := ⟨mk_Read, a27, j27, kc_Read⟩, F_is_cell := F28, b_is_cell := b28, g_is_cell := PySem.W.mg_of X G a28, F_check_cell := F29, b_check_cell := b29, g_check_cell := PySem.W.mg_of X G a29, F_flux_of := F30, b_flux_of := b30, g_flux_of := PySem.W.mg_of X G a30, F_fixed_cells := F31, b_fixed_cells := b31, g_fixed_cells := PySem.W.mg_of X G a31, F_law_cell := F32, b_law_cell := b32, g_law_cell := PySem.W.mg_of X G a32, F_law_draws := F33, b_law_draws := b33, g_law_draws := PySem.W.mg_of X G a33, F_law_is_int := F34, b_law_is_int := b34, g_law_is_int := PySem.W.mg_of X G a34, F_law_ints := F35, b_law_ints := b35, g_law_ints := PySem.W.mg_of X G a35, F_law_is_tuple := F36, b_law_is_tuple := b36, g_law_is_tuple := PySem.W.mg_of X G a36, F_law_data := F37, b_law_data := b37, g_law_data := PySem.W.mg_of X G a37, F_law_sectors := F38, b_law_sectors := b38, g_law_sectors := PySem.W.mg_of X G a38, F_law_made := F39, b_law_made := b39, g_law_made := PySem.W.mg_of X G a39, F_law := F40, b_law := b40, g_law := PySem.W.mg_of X G a40, z_all := PySem.W.mg_none_of X G z_all, z_bool := PySem.W.mg_none_of X G z_bool, z_enumerate := PySem.W.mg_none_of X G z_enumerate, z_int := PySem.W.mg_none_of X G z_int, z_isinstance := PySem.W.mg_none_of X G z_isinstance, z_len := PySem.W.mg_none_of X G z_len, z_list := PySem.W.mg_none_of X G z_list, z_max := PySem.W.mg_none_of X G z_max, z_range := PySem.W.mg_none_of X G z_range, z_tuple := PySem.W.mg_none_of X G z_tuple, c_ADDRESS_BYTE := PySem.W.mg_of X G cn_ADDRESS_BYTE, r_ADDRESS_BYTE := rl_ADDRESS_BYTE, c_DATA_BYTE := PySem.W.mg_of X G cn_DATA_BYTE, r_DATA_BYTE := rl_DATA_BYTE, c_GREATEST_SIZE := PySem.W.mg_of X G cn_GREATEST_SIZE, r_GREATEST_SIZE := rl_GREATEST_SIZE, c_MARKS_LENGTH := PySem.W.mg_of X G cn_MARKS_LENGTH, r_MARKS_LENGTH := rl_MARKS_LENGTH, c_ADDRESS_LENGTH := PySem.W.mg_of X G cn_ADDRESS_LENGTH, r_ADDRESS_LENGTH := rl_ADDRESS_LENGTH, c_FARTHEST_DATA := PySem.W.mg_of X G cn_FARTHEST_DATA, r_FARTHEST_DATA := rl_FARTHEST_DATA, c_MOST_INTERVALS := PySem.W.mg_of X G cn_MOST_INTERVALS, r_MOST_INTERVALS := rl_MOST_INTERVALS, c_MOST_TICKS := PySem.W.mg_of X G cn_MOST_TICKS, r_MOST_TICKS := rl_MOST_TICKS, c_LEAST_CELL := PySem.W.mg_of X G cn_LEAST_CELL, r_LEAST_CELL := rl_LEAST_CELL, c_GREATEST_CELL := PySem.W.mg_of X G cn_GREATEST_CELL, r_GREATEST_CELL := rl_GREATEST_CELL, gc_Sector := PySem.W.mg_of X G ac_Sector, cl_Sector := ⟨pg_Sector, hd_Sector, po_Sector, sa_Sector⟩, na_Sector_address := na_Sector_address, na_Sector_data := na_Sector_data, na_Sector_address_wrong := na_Sector_address_wrong, na_Sector_data_wrong := na_Sector_data_wrong, gc_Read := PySem.W.mg_of X G ac_Read, cl_Read := ⟨pg_Read, hd_Read, po_Read, sa_Read⟩, na_Read_intervals := na_Read_intervals, na_Read_rest := na_Read_rest, x_InvalidRead := ⟨PySem.W.mg_of X G a_InvalidRead, x_InvalidRead, k_InvalidRead, b_InvalidRead, t_InvalidRead, exm_selfD b_InvalidRead i_InvalidRead t_InvalidRead s_InvalidRead⟩, x_InvalidCell := ⟨PySem.W.mg_of X G a_InvalidCell, x_InvalidCell, k_InvalidCell, b_InvalidCell, t_InvalidCell, exm_selfD b_InvalidCell i_InvalidCell t_InvalidCell s_InvalidCell⟩, ct_MARK := PySem.W.mg_of X G an_MARK, ty_MARK := ⟨_, lk_MARK, rfl, rfl⟩, tt_MARK := fun H => .inr ⟨_, _, _, lk_MARK, rfl, rfl, line_le (show 16 ≤ 16777216 by decide), (.cons ⟨_, rfl⟩ (.cons ⟨_, rfl⟩ (.cons ⟨_, rfl⟩ (.cons ⟨_, rfl⟩ (.cons ⟨_, rfl⟩ (.cons ⟨_, rfl⟩ (.cons ⟨_, rfl⟩ (.cons ⟨_, rfl⟩ (.cons ⟨_, rfl⟩ (.cons ⟨_, rfl⟩ (.cons ⟨_, rfl⟩ (.cons ⟨_, rfl⟩ (.cons ⟨_, rfl⟩ (.cons ⟨_, rfl⟩ (.cons ⟨_, rfl⟩ (.cons ⟨_, rfl⟩ .nil))))))))))))))))⟩, ct_MARK_BYTES := PySem.W.mg_of X G an_MARK_BYTES, ty_MARK_BYTES := ⟨_, lk_MARK_BYTES, rfl, rfl⟩, tt_MARK_BYTES := fun H => .inr ⟨_, _, _, lk_MARK_BYTES, rfl, rfl, line_le (show 3 ≤ 16777216 by decide), (.cons ⟨_, rfl⟩ (.cons ⟨_, rfl⟩ (.cons ⟨_, rfl⟩ .nil)))⟩, ic_Sector := ⟨⟨pg_Sector, hd_Sector, po_Sector, sa_Sector⟩, ia_Sector, hn_, ht_, im_Sector, kit_Sector⟩ }
  exact ⟨_, fun s v => .of_eq rfl, fun base _ _ => ok_law T⟩
end K20
open PySem PySem.W PyProof.Rows
set_option maxRecDepth 100000 in
set_option maxHeartbeats 0 in
theorem PySem.Challenge.cw_discwright_k20_whole_sectors_through_flu_holds : PySem.Challenge.rw_discwright_k20_whole_sectors_through_flu.Holds := by
  w_on; o_law; k_head; (case hw => w_witness2)
  k_fill
  refine L2.walk_of (l := PySem.Challenge.rw_discwright_k20_whole_sectors_through_flu) (n := 63) (k := 7) (x := "script") (CX := fun _ => L2.CX0) (sp := fun w => K20.spLaw _) rfl (by decide) rfl ⟨rfl, by decide, by decide⟩ (fun w h Y => PySem.W.kIn_of Y) ?F (fun _ _ a ns hl _ hS => ⟨a, ns, rfl, hS, hl, fun _ => rfl⟩) (fun _ _ _ _ _ h => h)
  case F =>
    intro w mg fa h KX G hmg
    refine' K20.all_mk KX G hmg ?ac_Sector ?pg_Sector ?hd_Sector ?po_Sector ?sa_Sector ?mk_Sector ?kc_Sector ?na_Sector_address ?na_Sector_data ?na_Sector_address_wrong ?na_Sector_data_wrong ?ac_Read ?pg_Read ?hd_Read ?po_Read ?sa_Read ?mk_Read ?kc_Read ?na_Read_intervals ?na_Read_rest ?cn_ADDRESS_BYTE ?rl_ADDRESS_BYTE ?cn_DATA_BYTE ?rl_DATA_BYTE ?cn_GREATEST_SIZE ?rl_GREATEST_SIZE ?cn_MARKS_LENGTH ?rl_MARKS_LENGTH ?cn_ADDRESS_LENGTH ?rl_ADDRESS_LENGTH ?cn_FARTHEST_DATA ?rl_FARTHEST_DATA ?cn_MOST_INTERVALS ?rl_MOST_INTERVALS ?cn_MOST_TICKS ?rl_MOST_TICKS ?cn_LEAST_CELL ?rl_LEAST_CELL ?cn_GREATEST_CELL ?rl_GREATEST_CELL ?an_MARK ?lk_MARK ?an_MARK_BYTES ?lk_MARK_BYTES ?a1 ?l1 ?c1 ?k1 ?a2 ?l2 ?c2 ?k2 ?a3 ?l3 ?c3 ?k3 ?a4 ?l4 ?c4 ?k4 ?a5 ?l5 ?c5 ?k5 ?a6 ?l6 ?c6 ?k6 ?a7 ?l7 ?c7 ?k7 ?a8 ?l8 ?c8 ?k8 ?a9 ?l9 ?c9 ?k9 ?a10 ?l10 ?c10 ?k10 ?a11 ?l11 ?c11 ?k11 ?n11_0 ?m11_0 ?a12 ?l12 ?c12 ?k12 ?n12_0 ?m12_0 ?j13 ?a13 ?l13 ?c13 ?k13 ?n13_0 ?m13_0 ?n13_1 ?m13_1 ?j14 ?a14 ?l14 ?c14 ?k14 ?a15 ?l15 ?c15 ?k15 ?a16 ?l16 ?c16 ?k16 ?a17 ?l17 ?c17 ?k17 ?a18 ?l18 ?c18 ?k18 ?a19 ?l19 ?c19 ?k19 ?a20 ?l20 ?c20 ?k20 ?a21 ?l21 ?c21 ?k21 ?n21_0 ?m21_0 ?a22 ?l22 ?c22 ?k22 ?a23 ?l23 ?c23 ?k23 ?a24 ?l24 ?c24 ?k24 ?a25 ?l25 ?c25 ?k25 ?a26 ?l26 ?c26 ?k26 ?j27 ?a27 ?l27 ?c27 ?k27 ?a28 ?l28 ?c28 ?k28 ?a29 ?l29 ?c29 ?k29 ?a30 ?l30 ?c30 ?k30 ?a31 ?l31 ?c31 ?k31 ?a32 ?l32 ?c32 ?k32 ?a33 ?l33 ?c33 ?k33 ?a34 ?l34 ?c34 ?k34 ?a35 ?l35 ?c35 ?k35 ?a36 ?l36 ?c36 ?k36 ?a37 ?l37 ?c37 ?k37 ?a38 ?l38 ?c38 ?k38 ?a39 ?l39 ?c39 ?k39 ?a40 ?l40 ?c40 ?k40 ?z_all ?z_bool ?z_enumerate ?z_int ?z_isinstance ?z_len ?z_list ?z_max ?z_range ?z_tuple ?a_InvalidRead ?x_InvalidRead ?k_InvalidRead ?b_InvalidRead ?t_InvalidRead ?i_InvalidRead ?s_InvalidRead ?a_InvalidCell ?x_InvalidCell ?k_InvalidCell ?b_InvalidCell ?t_InvalidCell ?i_InvalidCell ?s_InvalidCell ?ia_Sector ?im_Sector ?kit_Sector ?hn_ ?ht_
    (case ac_Sector => k_is)
    (case pg_Sector => k_is)
    (case hd_Sector => k_is)
    (case po_Sector => k_is)
    (case sa_Sector => k_is)
    (case mk_Sector => k_is)
    (case kc_Sector => k_is)
    (case na_Sector_address => k_is)
    (case na_Sector_data => k_is)
    (case na_Sector_address_wrong => k_is)
    (case na_Sector_data_wrong => k_is)
    (case ac_Read => k_is)
    (case pg_Read => k_is)
    (case hd_Read => k_is)
    (case po_Read => k_is)
    (case sa_Read => k_is)
    (case mk_Read => k_is)
    (case kc_Read => k_is)
    (case na_Read_intervals => k_is)
    (case na_Read_rest => k_is)
    (case cn_ADDRESS_BYTE => k_is)
    (case rl_ADDRESS_BYTE => first | exact ⟨_, rfl⟩ | rfl)
    (case cn_DATA_BYTE => k_is)
    (case rl_DATA_BYTE => first | exact ⟨_, rfl⟩ | rfl)
    (case cn_GREATEST_SIZE => k_is)
    (case rl_GREATEST_SIZE => first | exact ⟨_, rfl⟩ | rfl)
    (case cn_MARKS_LENGTH => k_is)
    (case rl_MARKS_LENGTH => first | exact ⟨_, rfl⟩ | rfl)
    (case cn_ADDRESS_LENGTH => k_is)
    (case rl_ADDRESS_LENGTH => first | exact ⟨_, rfl⟩ | rfl)
    (case cn_FARTHEST_DATA => k_is)
    (case rl_FARTHEST_DATA => first | exact ⟨_, rfl⟩ | rfl)
    (case cn_MOST_INTERVALS => k_is)
    (case rl_MOST_INTERVALS => first | exact ⟨_, rfl⟩ | rfl)
    (case cn_MOST_TICKS => k_is)
    (case rl_MOST_TICKS => first | exact ⟨_, rfl⟩ | rfl)
    (case cn_LEAST_CELL => k_is)
    (case rl_LEAST_CELL => first | exact ⟨_, rfl⟩ | rfl)
    (case cn_GREATEST_CELL => k_is)
    (case rl_GREATEST_CELL => first | exact ⟨_, rfl⟩ | rfl)
    (case an_MARK => k_is)
    (case lk_MARK => k_is)
    (case an_MARK_BYTES => k_is)
    (case lk_MARK_BYTES => k_is)
    (case a1 => k_is)
    (case l1 => k_is)
    (case c1 => k_is)
    (case k1 => k_is)
    (case a2 => k_is)
    (case l2 => k_is)
    (case c2 => k_is)
    (case k2 => k_is)
    (case a3 => k_is)
    (case l3 => k_is)
    (case c3 => k_is)
    (case k3 => k_is)
    (case a4 => k_is)
    (case l4 => k_is)
    (case c4 => k_is)
    (case k4 => k_is)
    (case a5 => k_is)
    (case l5 => k_is)
    (case c5 => k_is)
    (case k5 => k_is)
    (case a6 => k_is)
    (case l6 => k_is)
    (case c6 => k_is)
    (case k6 => k_is)
    (case a7 => k_is)
    (case l7 => k_is)
    (case c7 => k_is)
    (case k7 => k_is)
    (case a8 => k_is)
    (case l8 => k_is)
    (case c8 => k_is)
    (case k8 => k_is)
    (case a9 => k_is)
    (case l9 => k_is)
    (case c9 => k_is)
    (case k9 => k_is)
    (case a10 => k_is)
    (case l10 => k_is)
    (case c10 => k_is)
    (case k10 => k_is)
    (case a11 => k_is)
    (case l11 => k_is)
    (case c11 => k_is)
    (case k11 => k_is)
    (case n11_0 => k_is)
    (case m11_0 => first | exact ⟨_, rfl⟩ | rfl)
    (case a12 => k_is)
    (case l12 => k_is)
    (case c12 => k_is)
    (case k12 => k_is)
    (case n12_0 => k_is)
    (case m12_0 => first | exact ⟨_, rfl⟩ | rfl)
    (case a13 => k_is)
    (case j13 => k_is)
    (case l13 => k_is)
    (case c13 => k_is)
    (case k13 => k_is)
    (case n13_0 => k_is)
    (case m13_0 => first | exact ⟨_, rfl⟩ | rfl)
    (case n13_1 => k_is)
    (case m13_1 => first | exact ⟨_, rfl⟩ | rfl)
    (case a14 => k_is)
    (case j14 => k_is)
    (case l14 => k_is)
    (case c14 => k_is)
    (case k14 => k_is)
    (case a15 => k_is)
    (case l15 => k_is)
    (case c15 => k_is)
    (case k15 => k_is)
    (case a16 => k_is)
    (case l16 => k_is)
    (case c16 => k_is)
    (case k16 => k_is)
    (case a17 => k_is)
    (case l17 => k_is)
    (case c17 => k_is)
    (case k17 => k_is)
    (case a18 => k_is)
    (case l18 => k_is)
    (case c18 => k_is)
    (case k18 => k_is)
    (case a19 => k_is)
    (case l19 => k_is)
    (case c19 => k_is)
    (case k19 => k_is)
    (case a20 => k_is)
    (case l20 => k_is)
    (case c20 => k_is)
    (case k20 => k_is)
    (case a21 => k_is)
    (case l21 => k_is)
    (case c21 => k_is)
    (case k21 => k_is)
    (case n21_0 => k_is)
    (case m21_0 => first | exact ⟨_, rfl⟩ | rfl)
    (case a22 => k_is)
    (case l22 => k_is)
    (case c22 => k_is)
    (case k22 => k_is)
    (case a23 => k_is)
    (case l23 => k_is)
    (case c23 => k_is)
    (case k23 => k_is)
    (case a24 => k_is)
    (case l24 => k_is)
    (case c24 => k_is)
    (case k24 => k_is)
    (case a25 => k_is)
    (case l25 => k_is)
    (case c25 => k_is)
    (case k25 => k_is)
    (case a26 => k_is)
    (case l26 => k_is)
    (case c26 => k_is)
    (case k26 => k_is)
    (case a27 => k_is)
    (case j27 => k_is)
    (case l27 => k_is)
    (case c27 => k_is)
    (case k27 => k_is)
    (case a28 => k_is)
    (case l28 => k_is)
    (case c28 => k_is)
    (case k28 => k_is)
    (case a29 => k_is)
    (case l29 => k_is)
    (case c29 => k_is)
    (case k29 => k_is)
    (case a30 => k_is)
    (case l30 => k_is)
    (case c30 => k_is)
    (case k30 => k_is)
    (case a31 => k_is)
    (case l31 => k_is)
    (case c31 => k_is)
    (case k31 => k_is)
    (case a32 => k_is)
    (case l32 => k_is)
    (case c32 => k_is)
    (case k32 => k_is)
    (case a33 => k_is)
    (case l33 => k_is)
    (case c33 => k_is)
    (case k33 => k_is)
    (case a34 => k_is)
    (case l34 => k_is)
    (case c34 => k_is)
    (case k34 => k_is)
    (case a35 => k_is)
    (case l35 => k_is)
    (case c35 => k_is)
    (case k35 => k_is)
    (case a36 => k_is)
    (case l36 => k_is)
    (case c36 => k_is)
    (case k36 => k_is)
    (case a37 => k_is)
    (case l37 => k_is)
    (case c37 => k_is)
    (case k37 => k_is)
    (case a38 => k_is)
    (case l38 => k_is)
    (case c38 => k_is)
    (case k38 => k_is)
    (case a39 => k_is)
    (case l39 => k_is)
    (case c39 => k_is)
    (case k39 => k_is)
    (case a40 => k_is)
    (case l40 => k_is)
    (case c40 => k_is)
    (case k40 => k_is)
    (case z_all => k_is)
    (case z_bool => k_is)
    (case z_enumerate => k_is)
    (case z_int => k_is)
    (case z_isinstance => k_is)
    (case z_len => k_is)
    (case z_list => k_is)
    (case z_max => k_is)
    (case z_range => k_is)
    (case z_tuple => k_is)
    (case a_InvalidRead => k_is)
    (case x_InvalidRead => k_exc)
    (case k_InvalidRead => k_is)
    (case b_InvalidRead => k_is)
    (case t_InvalidRead => k_is)
    (case i_InvalidRead => k_is)
    (case s_InvalidRead => first | rfl | k_is)
    (case a_InvalidCell => k_is)
    (case x_InvalidCell => k_exc)
    (case k_InvalidCell => k_is)
    (case b_InvalidCell => k_is)
    (case t_InvalidCell => k_is)
    (case i_InvalidCell => k_is)
    (case s_InvalidCell => first | rfl | k_is)
    (case ia_Sector => k_is)
    (case im_Sector => k_is)
    (case kit_Sector => first | rfl | k_is)
    (case hn_ => k_is)
    (case ht_ => k_is)

