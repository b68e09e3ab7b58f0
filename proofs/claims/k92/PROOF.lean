import PyProof.Rows.All
import Wide.All
import OpenK.AllK
import Wide.FinOn
import HandS.ForMost
import HandS.IsInst
import HandS.Flow
import HandS.WideBits
import HandS.Defaults
import HandS.ExcInit
import KE.KExcSuper
import HandS.ExcField
import HandS.HotCalls
import HandS.Exc
import HandS.ExcOwn
import HandS.TryOnly
import HandS.TryMany
import HandS.WordsExc
import HandS.ExcIs
import KE.KExcIs
import HandS.SuiteRaise
import HandS.Walk
import HandS.Small
import HandS.Wide
import HandS.Style
import HandS.Strs
import HandS.SetFor
import HandS.Dict
import HandS.Codes
import HandS.OwnEq
import HandS.MakeKwOnly
import KE.KDictKeyed
import HandS.TupSets
import HandS.DictTup
import HandS.Conv
import HandS.More
import HandS.TupAny
import HandS.Zip
import HandS.Deep
import KE.GoesMore
import KE.KDictZip
import HandS.FStr
import HandS.StrMore
import HandS.Text
import PySem.Challenge.RW_discwright_k92_group_coded_tracks
set_option Elab.async false
set_option linter.all false
set_option maxRecDepth 100000
set_option maxHeartbeats 4000000
namespace Dw
open PySem PySem.Spec PyProof.Rows L2
/-! ### sizes -/
theorem line_le {n : Nat} (h : n ≤ 16777216) : n ≤ sizeLine := by rw [sizeLine_eq]; exact h
theorem line_lt {n : Nat} (h : n < 16777216) : n < sizeLine := by rw [sizeLine_eq]; exact h
/-! ### heaps -/
theorem same_new {H : Hp} {p : Addr} (h : H p = none) (o : HO) : Same H (upd H p o) := fun b u q => by rw [upd_ne (ne_of_none q h)]; exact q
/-- all but P stands as it was -/
def SameB (P : Addr) (H H' : Hp) : Prop := ∀ b o, b ≠ P → H b = some o → H' b = some o
theorem SameB.refl (P : Addr) (H : Hp) : SameB P H H := fun _ _ _ h => h
theorem SameB.trans {P : Addr} {H H1 H2 : Hp} (a : SameB P H H1) (b : SameB P H1 H2) : SameB P H H2 := fun x o n h => b x o n (a x o n h)
theorem Same.b {P : Addr} {H H' : Hp} (a : Same H H') : SameB P H H' := fun x o _ h => a x o h
theorem sameB_upd {P : Addr} {H : Hp} (o : HO) : SameB P H (upd H P o) := fun b u n q => by rw [upd_ne n]; exact q
/-- a ghost heap without P stands in what was changed at P alone -/
theorem Same.but {P : Addr} {G H H' : Hp} (g : Same G H) (n : G P = none) (s : SameB P H H') : Same G H' := fun b o q => s b o (ne_of_none q n) (g b o q)
theorem same_upd {G H : Hp} {p : Addr} {o : HO} (g : Same G H) : Same (upd G p o) (upd H p o) := fun b u q => by
  by_cases e : b = p
  · subst e
    rw [upd_same] at q ⊢
    exact q
  · rw [upd_ne e] at q ⊢
    exact g b u q
theorem same_none {G H : Hp} {p : Addr} (g : Same G H) (h : H p = none) : G p = none := by
  cases e : G p with
  | none => rfl
  | some o => rw [g p o e] at h; cases h
theorem upd_none {G : Hp} {p P : Addr} {o : HO} (n : G P = none) (ne : P ≠ p) : upd G p o P = none := by rw [upd_ne ne]; exact n
/-! ### the script -/
/-- the pool at p: the script's numbers at q, and four numbers -/
def PoolL (q : Addr) (a b c d : Int) : HO := .lst [.ref q, .int a, .int b, .int c, .int d]
def Pool (H : Hp) (p q : Addr) : Prop := ∃ (ns : List Int) (a b c d : Int), H p = some (PoolL q a b c d) ∧ H q = some (.lst (ns.map V.int)) ∧ 0 ≤ a ∧ ns.length ≤ 63
theorem Pool.same {H H' : Hp} {p q : Addr} (h : Pool H p q) (s : Same H H') : Pool H' p q := by
  obtain ⟨ns, a, b, c, d, h1, h2, h3⟩ := h
  exact ⟨ns, a, b, c, d, s _ _ h1, s _ _ h2, h3⟩
theorem Pool.there {H : Hp} {p q : Addr} (h : Pool H p q) : ∃ o, H p = some o := by
  obtain ⟨ns, a, b, c, d, h1, _⟩ := h
  exact ⟨_, h1⟩
theorem Pool.ne {H : Hp} {p q r : Addr} (h : Pool H p q) (n : H r = none) : p ≠ r := by
  obtain ⟨o, e⟩ := h.there
  exact ne_of_none e n
theorem Pool.ne2 {H : Hp} {p q r : Addr} (h : Pool H p q) (n : H r = none) : q ≠ r := by
  obtain ⟨ns, a, b, c, d, h1, h2, _⟩ := h
  exact ne_of_none h2 n
theorem pool_ne {H : Hp} {p q : Addr} {a b c d : Int} {ns : List Int} (h1 : H p = some (PoolL q a b c d)) (h2 : H q = some (.lst (ns.map V.int))) : q ≠ p := by
  refine ne_of h2 h1 fun e => ?_
  unfold PoolL at e
  injection e with e
  cases ns with
  | nil => cases e
  | cons x r => rw [List.map_cons] at e; injection e with e _; cases e
/-- a pool's numbers written anew -/
theorem Pool.put {H : Hp} {p q : Addr} {a b c d a' b' c' d' : Int} {ns : List Int} (h1 : H p = some (PoolL q a b c d)) (h2 : H q = some (.lst (ns.map V.int))) (h3 : 0 ≤ a') (h4 : ns.length ≤ 63) : Pool (upd H p (PoolL q a' b' c' d')) p q :=
  ⟨ns, a', b', c', d', upd_same, by rw [upd_ne (pool_ne h1 h2)]; exact h2, h3, h4⟩
/-! ### what the shared defs promise -/
def spPool (K : PySem.W.Frag) : Sp := fun vs H Q _ => ∃ (a : Addr) (ns : List Int), vs = [.ref a] ∧ SqL K H a (ns.map V.int) ∧ ns.length ≤ 63 ∧ ∀ p q H', Same H H' → H p = none → H q = none → Pool H' p q → Q (.ref p) H'
def spSpread : Sp := fun vs H Q _ => ∃ n : Int, vs = [.int n] ∧ ∀ m : Int, Q (.int m) H
def spDraw : Sp := fun vs H Q _ => ∃ (p q : Addr) (m : Int), vs = [.ref p, .int m] ∧ Pool H p q ∧ 0 < m ∧ m < 1073741824 ∧ ∀ r H', 0 ≤ r → r < m → Pool H' p q → SameB p H H' → Q (.int r) H'
/-- a def of whole numbers -/
def spI1 (C : Int → Prop) (g : Int → Int) : Sp := fun vs H Q _ => ∃ n : Int, vs = [.int n] ∧ C n ∧ Q (.int (g n)) H
def spI2 (C : Int → Int → Prop) (g : Int → Int → Int) : Sp := fun vs H Q _ => ∃ n m : Int, vs = [.int n, .int m] ∧ C n m ∧ Q (.int (g n m)) H

/-! ### rules by a stronger reading -/
section
variable {X : Cx}
theorem OpR.imp {f : Value → Value → Sem Value} {r r' : R2} (h : OpR X f r) (i : ∀ x y H Q, r' x y H Q → r x y H Q) : OpR X f r' := fun pins s σ H x y v u Q I rx ry q => h pins s σ H x y v u Q I rx ry (i _ _ _ _ q)
theorem CallR.imp {f : Value} {r r' : List V → Hp → VK → Prop} (h : CallR X f r) (i : ∀ xs H Q, r' xs H Q → r xs H Q) : CallR X f r' := fun pins s σ H xs us Q I r q => h pins s σ H xs us Q I r (i _ _ _ q)
theorem IxR.imp {r r' : R2} (h : IxR X r) (i : ∀ x y H Q, r' x y H Q → r x y H Q) : IxR X r' := fun a b pins s σ H x y v u Q I rx ry q => h a b pins s σ H x y v u Q I rx ry (i _ _ _ _ q)
theorem MtR.imp {id : String} {r r' : V → List V → Hp → VK → Prop} (h : MtR X id r) (i : ∀ x xs H Q, r' x xs H Q → r x xs H Q) : MtR X id r' := fun pins s σ H x xs v us Q I rx ry q => h pins s σ H x xs v us Q I rx ry (i _ _ _ _ q)
theorem SlR.imp {r r' : V → Option Int → Option Int → Hp → VK → Prop} (h : SlR X r) (i : ∀ x lo hi H Q, r' x lo hi H Q → r x lo hi H Q) : SlR X r' := fun pins s σ H x v vl vu lo hi sl Q I rx hs pl pu q => h pins s σ H x v vl vu lo hi sl Q I rx hs pl pu (i _ _ _ _ _ q)
theorem PE.imp {e : Expr} {t t' : TE} (h : PE X e t) (i : ∀ σ H Q, t' σ H Q → t σ H Q) : PE X e t' := ⟨fun pins s σ H Q I q => h.run pins s σ H Q I (i _ _ _ q)⟩
theorem PT.imp {e : Expr} {t t' : TT} (h : PT X e t) (i : ∀ σ H Q, t' σ H Q → t σ H Q) : PT X e t' := ⟨fun pins s σ H Q I q => h.run pins s σ H Q I (i _ _ _ q)⟩
theorem PS.imp {e : Stmt} {t t' : TS} (h : PS X e t) (i : ∀ D σ H, t' D σ H → t D σ H) : PS X e t' := ⟨fun pins s σ H D I q => h.run pins s σ H D I (i _ _ _ q)⟩
theorem PSet.imp {r r' : TSet} (h : PSet X r) (i : ∀ o k v H Q, r' o k v H Q → r o k v H Q) : PSet X r' := fun pins s σ H o k v ov iv u Q I ro ri rv q => h pins s σ H o k v ov iv u Q I ro ri rv (i _ _ _ _ _ q)
/-! ### lists of ints -/
def IL (ns : List Int) : HO := .lst (ns.map V.int)
theorem IL_inj {a b : List Int} : (IL a = IL b) = (a = b) := by
  apply propext
  constructor
  · intro h
    unfold IL at h
    injection h with h
    exact List.map_inj_right (fun x y e => V.int.inj e) |>.mp h
  · intro h
    rw [h]
def toInts : List V → Option (List Int)
  | [] => some []
  | .int i :: r => (toInts r).map (i :: ·)
  | _ => none
theorem toInts_eq : ∀ {xs : List V} {ns : List Int}, toInts xs = some ns → xs = ns.map V.int
  | [], ns, h => by
    unfold toInts at h
    cases h
    rfl
  | .int i :: r, ns, h => by
    unfold toInts at h
    cases e : toInts r with
    | none => rw [e] at h; cases h
    | some ms =>
      rw [e] at h
      cases h
      rw [List.map_cons, toInts_eq e]
  | .non :: _, _, h => by unfold toInts at h; cases h
  | .bl _ :: _, _, h => by unfold toInts at h; cases h
  | .str _ :: _, _, h => by unfold toInts at h; cases h
  | .byt _ :: _, _, h => by unfold toInts at h; cases h
  | .flt _ :: _, _, h => by unfold toInts at h; cases h
  | .ref _ :: _, _, h => by unfold toInts at h; cases h
  | .ty _ :: _, _, h => by unfold toInts at h; cases h
theorem toInts_cons {i : Int} {r : List V} : toInts (.int i :: r) = (toInts r).map (i :: ·) := rfl
theorem toInts_nil : toInts [] = some [] := rfl
def isL : Option HO → Bool
  | some (.lst _) => true
  | _ => false
theorem isL_IL {ns : List Int} : isL (some (IL ns)) = true := rfl
theorem isL_lst {xs : List V} : isL (some (.lst xs)) = true := rfl
theorem isL_of {o : Option HO} (h : isL o = true) : ∃ xs, o = some (.lst xs) := by
  cases o with
  | none => cases h
  | some u =>
    cases u with
    | lst xs => exact ⟨xs, rfl⟩
    | _ => cases h
def rCatI : R2 := fun x y H Q => ∃ l b xs zs, x = .ref l ∧ y = .ref b ∧ H l = some (IL xs) ∧ H b = some (IL zs) ∧ xs.length + zs.length ≤ sizeLine ∧ ∀ p, H p = none → Q (.ref p) (upd H p (IL (xs ++ zs)))
theorem op_catI : OpR X (binaryOp .Add) rCatI := OpR.imp op_cat fun x y H Q h => by
  obtain ⟨l, b, xs, zs, e1, e2, h1, h2, h3, q⟩ := h
  exact ⟨l, b, _, _, e1, e2, h1, h2, by rw [List.length_map, List.length_map]; exact h3, fun p hp => by rw [← List.map_append]; exact q p hp⟩
def rep (k : Int) (xs : List Int) : List Int := (List.replicate k.toNat xs).flatten
theorem rep_one (k : Int) (x : Int) : rep k [x] = List.replicate k.toNat x := by
  unfold rep
  generalize k.toNat = n
  induction n with
  | zero => rfl
  | succ n ih => rw [List.replicate_succ, List.flatten_cons, ih, List.replicate_succ]; rfl
def rRepI : R2 := fun x y H Q => ∃ l k xs, x = .ref l ∧ y = .int k ∧ H l = some (IL xs) ∧ (-(2 ^ 63) ≤ k ∧ k < 2 ^ 63 ∧ xs.length * k.toNat ≤ sizeLine) ∧ ∀ p, H p = none → Q (.ref p) (upd H p (IL (rep k xs)))
theorem map_rep (k : Nat) (xs : List Int) : (List.replicate k (xs.map V.int)).flatten = (List.replicate k xs).flatten.map V.int := by
  induction k with
  | zero => rfl
  | succ n ih => rw [List.replicate_succ, List.flatten_cons, ih, List.replicate_succ, List.flatten_cons, List.map_append]
theorem op_repI : OpR X (binaryOp .Mult) rRepI := OpR.imp op_rep fun x y H Q h => by
  obtain ⟨l, k, xs, e1, e2, h1, ⟨h2, h3, h4⟩, q⟩ := h
  exact ⟨l, k, _, e1, e2, h1, h2, h3, by rw [List.length_map]; exact h4, fun p hp => by rw [map_rep]; exact q p hp⟩
def rIxI : R2 := fun x y H Q => ∃ p ns i, x = .ref p ∧ y = .int i ∧ H p = some (IL ns) ∧ (0 ≤ i ∧ i < (ns.length : Int)) ∧ Q (.int (ns.getD i.toNat 0)) H
theorem atI_int {ns : List Int} {i : Int} (h0 : 0 ≤ i) (h1 : i < (ns.length : Int)) : atI (ns.map V.int) i = some (.int (ns.getD i.toNat 0)) := by
  have hk : i.toNat < ns.length := by omega
  have e : i = ((i.toNat : Nat) : Int) := by omega
  have q : atI (ns.map V.int) ((i.toNat : Nat) : Int) = some (.int (ns.getD i.toNat 0)) := atI_nat (by
    rw [List.getElem?_map, List.getElem?_eq_getElem hk, List.getD_eq_getElem?_getD, List.getElem?_eq_getElem hk]
    rfl)
  rw [← e] at q
  exact q
theorem ix_listI : IxR X rIxI := IxR.imp ix_list fun x y H Q h => by
  obtain ⟨p, ns, i, e1, e2, h1, ⟨h2, h3⟩, q⟩ := h
  exact ⟨p, _, i, _, e1, e2, .of h1, atI_int h2 h3, q⟩
def rIxH : R2 := fun x y H Q => ∃ p xs i v, x = .ref p ∧ y = .int i ∧ H p = some (.lst xs) ∧ atI xs i = some v ∧ Q v H
theorem ix_listH : IxR X rIxH := IxR.imp ix_list fun x y H Q h => by
  obtain ⟨p, xs, i, v, e1, e2, h1, h2, q⟩ := h
  exact ⟨p, _, i, _, e1, e2, .of h1, h2, q⟩
def rIxTH : R2 := fun x y H Q => ∃ p xs i v, x = .ref p ∧ y = .int i ∧ H p = some (.tup xs) ∧ atI xs i = some v ∧ Q v H
theorem ix_tupH : IxR X rIxTH := IxR.imp ix_tup fun x y H Q h => by
  obtain ⟨p, xs, i, v, e1, e2, h1, h2, q⟩ := h
  exact ⟨p, _, i, _, e1, e2, .of h1, h2, q⟩
def cutI (xs : List Int) (lo hi : Option Int) : List Int := (xs.drop (HT.sIx xs.length 0 lo)).take (HT.sIx xs.length xs.length hi - HT.sIx xs.length 0 lo)
theorem cutV_int (ns : List Int) (lo hi : Option Int) : cutV (ns.map V.int) lo hi = (cutI ns lo hi).map V.int := by
  unfold cutV cutI
  rw [List.length_map, List.map_take, List.map_drop]
def rSlI : V → Option Int → Option Int → Hp → VK → Prop := fun x lo hi H Q => ∃ a ns, x = .ref a ∧ H a = some (IL ns) ∧ ∀ p, H p = none → Q (.ref p) (upd H p (IL (cutI ns lo hi)))
theorem sl_listI : SlR X rSlI := SlR.imp sl_list fun x lo hi H Q h => by
  obtain ⟨a, ns, e1, h1, q⟩ := h
  exact ⟨a, _, e1, .of h1, fun p hp => by rw [cutV_int]; exact q p hp⟩
def rSlS (K : PySem.W.Frag) : V → Option Int → Option Int → Hp → VK → Prop := fun x lo hi H Q => ∃ a ns, x = .ref a ∧ SqL K H a (ns.map V.int) ∧ ∀ p, H p = none → Q (.ref p) (upd H p (IL (cutI ns lo hi)))
theorem sl_listS : SlR X (rSlS X.K) := SlR.imp sl_list fun x lo hi H Q h => by
  obtain ⟨a, ns, e1, h1, q⟩ := h
  exact ⟨a, _, e1, h1, fun p hp => by rw [cutV_int]; exact q p hp⟩
def rLenI : List V → Hp → VK → Prop := fun xs H Q => ∃ p ns, xs = [.ref p] ∧ H p = some (IL ns) ∧ Q (.int (ns.length : Int)) H
theorem call_lenI : CallR X (.builtin "len") rLenI := CallR.imp call_len_seq fun xs H Q h => by
  obtain ⟨p, ns, e, h1, q⟩ := h
  exact ⟨p, _, e, .inl (.of h1), by rw [List.length_map]; exact q⟩
def rLenH : List V → Hp → VK → Prop := fun xs H Q => ∃ p ys, xs = [.ref p] ∧ H p = some (.lst ys) ∧ Q (.int (ys.length : Int)) H
theorem call_lenH : CallR X (.builtin "len") rLenH := CallR.imp call_len_seq fun xs H Q h => by
  obtain ⟨p, ns, e, h1, q⟩ := h
  exact ⟨p, _, e, .inl (.of h1), q⟩
def rLenTH : List V → Hp → VK → Prop := fun xs H Q => ∃ p ys, xs = [.ref p] ∧ H p = some (.tup ys) ∧ Q (.int (ys.length : Int)) H
theorem call_lenTH : CallR X (.builtin "len") rLenTH := CallR.imp call_len_seq fun xs H Q h => by
  obtain ⟨p, ns, e, h1, q⟩ := h
  exact ⟨p, _, e, .inr (.of h1), q⟩
def rListI : List V → Hp → VK → Prop := fun xs H Q => ∃ p ns, xs = [.ref p] ∧ H p = some (IL ns) ∧ ∀ l, H l = none → Q (.ref l) (upd H l (IL ns))
theorem call_listI : CallR X (.type "list") rListI := CallR.imp call_list_of fun xs H Q h => by
  obtain ⟨p, ns, e, h1, q⟩ := h
  exact ⟨p, _, e, .inl (.of h1), q⟩
def rListS (K : PySem.W.Frag) : List V → Hp → VK → Prop := fun xs H Q => ∃ p ns, xs = [.ref p] ∧ SqL K H p (ns.map V.int) ∧ ∀ l, H l = none → Q (.ref l) (upd H l (IL ns))
theorem call_listS : CallR X (.type "list") (rListS X.K) := CallR.imp call_list_of fun xs H Q h => by
  obtain ⟨p, ns, e, h1, q⟩ := h
  exact ⟨p, _, e, .inl h1, q⟩
def rIntI : List V → Hp → VK → Prop := fun xs H Q => ∃ i, xs = [.int i] ∧ Q (.int i) H
theorem call_intI : CallR X (.type "int") rIntI := CallR.imp call_int1 fun xs H Q h => .inl h
def rIntB : List V → Hp → VK → Prop := fun xs H Q => ∃ k, xs = [.bl k] ∧ Q (.int (if k = true then 1 else 0)) H
theorem call_intB : CallR X (.type "int") rIntB := CallR.imp call_int1 fun xs H Q h => .inr h
def rSumI : List V → Hp → VK → Prop := fun xs H Q => ∃ p ns, xs = [.ref p] ∧ H p = some (IL ns) ∧ Q (.int ns.sum) H
theorem cr_sumI (hc : X.calm = true) : CallR X (.builtin "sum") rSumI := CallR.imp (cr_sum hc) fun xs H Q h => by
  obtain ⟨p, ns, e, h1, q⟩ := h
  exact ⟨p, _, e, .of h1, q⟩
def rAppendI : V → List V → Hp → VK → Prop := fun x vs H Q => ∃ l xs y, x = .ref l ∧ vs = [.int y] ∧ H l = some (IL xs) ∧ xs.length < sizeLine ∧ Q .non (upd H l (IL (xs ++ [y])))
theorem mt_appendI : MtR X "list.append" rAppendI := MtR.imp mt_append fun x vs H Q h => by
  obtain ⟨l, xs, y, e1, e2, h1, h2, q⟩ := h
  refine ⟨l, _, _, e1, e2, h1, by rw [List.length_map]; exact h2, ?_⟩
  have e : xs.map V.int ++ [V.int y] = (xs ++ [y]).map V.int := by rw [List.map_append]; rfl
  rw [e]
  exact q
def rExtendI : V → List V → Hp → VK → Prop := fun x vs H Q => ∃ l b xs zs, x = .ref l ∧ vs = [.ref b] ∧ H l = some (IL xs) ∧ H b = some (IL zs) ∧ xs.length + zs.length ≤ sizeLine ∧ Q .non (upd H l (IL (xs ++ zs)))
theorem mt_extendI : MtR X "list.extend" rExtendI := MtR.imp mt_extend fun x vs H Q h => by
  obtain ⟨l, b, xs, zs, e1, e2, h1, h2, h3, q⟩ := h
  exact ⟨l, b, _, _, e1, e2, h1, h2, by rw [List.length_map, List.length_map]; exact h3, by rw [← List.map_append]; exact q⟩
def rSetI : TSet := fun o i v H Q => ∃ p ns k y, o = .ref p ∧ i = .int k ∧ v = .int y ∧ H p = some (IL ns) ∧ (0 ≤ k ∧ k < (ns.length : Int)) ∧ Q (upd H p (IL (ns.set k.toNat y)))
theorem ixN_nn {n : Nat} {k : Int} (h0 : 0 ≤ k) (h1 : k < (n : Int)) : ixN n k = some k.toNat := by
  unfold ixN
  rw [if_pos h0, if_pos h1]
theorem set_listI : PSet X rSetI := PSet.imp set_list fun o i v H Q h => by
  obtain ⟨p, ns, k, y, e1, e2, e3, h1, ⟨h2, h3⟩, q⟩ := h
  refine ⟨p, _, k, k.toNat, e1, e2, h1, ixN_nn h2 (by rw [List.length_map]; exact h3), ?_⟩
  rw [e3, ← List.map_set]
  exact q
/-- xs[k] = v of any list at a written place -/
def rSetH : TSet := fun o i v H Q => ∃ p xs k, o = .ref p ∧ i = .int k ∧ H p = some (.lst xs) ∧ (0 ≤ k ∧ k < (xs.length : Int)) ∧ Q (upd H p (.lst (xs.set k.toNat v)))
theorem set_listH : PSet X rSetH := PSet.imp set_list fun o i v H Q h => by
  obtain ⟨p, xs, k, e1, e2, h1, ⟨h2, h3⟩, q⟩ := h
  exact ⟨p, _, k, k.toNat, e1, e2, h1, ixN_nn h2 h3, q⟩
/-! ### == of lists of ints -/
theorem dp_ints {K : PySem.W.Frag} {H : Hp} : ∀ ns : List Int, DpAll K H (ns.map V.int) (ns.map PyData.int)
  | [] => .nil
  | n :: r => .cons (.int n) (dp_ints r)
theorem dp_IL {K : PySem.W.Frag} {H : Hp} {p : Addr} {ns : List Int} (h : H p = some (IL ns)) : Dp K H (.ref p) (.list (ns.map PyData.int)) := .lst (.of h) (dp_ints ns)
theorem eqvAll_ints : ∀ ns ms : List Int, PyData.eqvAll (ns.map PyData.int) (ms.map PyData.int) = decide (ns = ms)
  | [], [] => by
    show PyData.eqvAll [] [] = _
    rw [PyData.eqvAll]
    rfl
  | [], _ :: _ => by
    show PyData.eqvAll [] (_ :: _) = _
    rw [PyData.eqvAll, decide_eq_false (fun e => by cases e)]
  | _ :: _, [] => by
    show PyData.eqvAll (_ :: _) [] = _
    rw [PyData.eqvAll, decide_eq_false (fun e => by cases e)]
  | n :: ns, m :: ms => by
    show PyData.eqvAll (.int n :: ns.map PyData.int) (.int m :: ms.map PyData.int) = _
    rw [PyData.eqvAll, eqvAll_ints ns ms, PyData.eqv]
    by_cases h : n = m
    · subst h
      by_cases h2 : ns = ms
      · subst h2; simp
      · rw [decide_eq_false h2, decide_eq_false (fun e => h2 (List.cons.inj e).2)]; simp
    · rw [decide_eq_false (fun e => h (List.cons.inj e).1)]
      have : (n == m) = false := by simp [h]
      rw [this]; rfl
theorem canLay_ints : ∀ ns : List Int, PyData.canLayAll0 (ns.map PyData.int) = true
  | [] => rfl
  | n :: ns => by
    show PyData.canLayAll0 (.int n :: ns.map PyData.int) = true
    rw [PyData.canLayAll0, canLay_ints ns]; rfl
theorem depthAll_ints : ∀ ns : List Int, PyData.depthAll (ns.map PyData.int) ≤ 1
  | [] => by decide
  | n :: ns => by
    show PyData.depthAll (.int n :: ns.map PyData.int) ≤ 1
    have := depthAll_ints ns
    simp only [PyData.depthAll, PyData.depth]
    omega
theorem shaped_ints (ns : List Int) : SeqAt.shaped (.list (ns.map PyData.int)) = true := by
  have h1 := canLay_ints ns
  have h2 := depthAll_ints ns
  unfold SeqAt.shaped
  rw [Bool.and_eq_true]
  refine ⟨by rw [PyData.canLay0]; exact h1, decide_eq_true ?_⟩
  simp only [PyData.depth]
  omega
def rEqI : R2 := fun x y H Q => ∃ p q ns ms, x = .ref p ∧ y = .ref q ∧ H p = some (IL ns) ∧ H q = some (IL ms) ∧ Q (.bl (decide (ns = ms))) H
theorem op_eqI (hu : X.A.units + 64 < cLine) : OpR X (compareOp .Eq) rEqI := OpR.imp (op_eqD hu) fun x y H Q h => by
  obtain ⟨p, q, ns, ms, rfl, rfl, h1, h2, k⟩ := h
  refine ⟨_, _, dp_IL h1, dp_IL h2, shaped_ints ns, shaped_ints ms, ?_⟩
  rw [PyData.eqv, eqvAll_ints]
  exact k
def rNeI : R2 := fun x y H Q => ∃ p q ns ms, x = .ref p ∧ y = .ref q ∧ H p = some (IL ns) ∧ H q = some (IL ms) ∧ Q (.bl (!decide (ns = ms))) H
theorem op_neI (hu : X.A.units + 64 < cLine) : OpR X (compareOp .NotEq) rNeI := OpR.imp (op_neD hu) fun x y H Q h => by
  obtain ⟨p, q, ns, ms, rfl, rfl, h1, h2, k⟩ := h
  refine ⟨_, _, dp_IL h1, dp_IL h2, shaped_ints ns, shaped_ints ms, ?_⟩
  rw [PyData.eqv, eqvAll_ints]
  exact k
/-! ### displays of ints, methods of lists -/
def rMax2 : List V → Hp → VK → Prop := fun xs H Q => ∃ i j, xs = [.int i, .int j] ∧ Q (.int (max i j)) H
def rMin2 : List V → Hp → VK → Prop := fun xs H Q => ∃ i j, xs = [.int i, .int j] ∧ Q (.int (min i j)) H
theorem max_if (i j : Int) : (if j > i then j else i) = max i j := by
  split <;> omega
theorem min_if (i j : Int) : (if j < i then j else i) = min i j := by
  split <;> omega
theorem call_maxI (hc : X.calm = true) : CallR X (.builtin "max") rMax2 := CallR.imp (call_max2 hc) fun xs H Q h => by
  obtain ⟨i, j, e, q⟩ := h
  exact ⟨i, j, e, by rw [max_if]; exact q⟩
theorem call_minI (hc : X.calm = true) : CallR X (.builtin "min") rMin2 := CallR.imp (call_min2 hc) fun xs H Q h => by
  obtain ⟨i, j, e, q⟩ := h
  exact ⟨i, j, e, by rw [min_if]; exact q⟩
def rIsN : R2 := fun x y H Q => y = V.non ∧ Q (.bl (decide (x = V.non))) H
def rIsNotN : R2 := fun x y H Q => y = V.non ∧ Q (.bl (!decide (x = V.non))) H
theorem op_isNone : OpR X (compareOp .Is) rIsN := op_isN
theorem op_notNone : OpR X (compareOp .IsNot) rIsNotN := op_notN
def rStrIn : R2 := fun x y H Q => ∃ i j, x = .str i ∧ y = .str j ∧ Q (.bl (!(Builtin.Str.occurrences j i 0 j.length 1).isEmpty)) H
theorem op_strIn : OpR X (compareOp .In) rStrIn := op_in_str
def rStrNotIn : R2 := fun x y H Q => ∃ i j, x = .str i ∧ y = .str j ∧ Q (.bl (!(!(Builtin.Str.occurrences j i 0 j.length 1).isEmpty))) H
theorem op_strNotIn : OpR X (compareOp .NotIn) rStrNotIn := op_notin_str
def tLstI (t : TA) : TE := fun σ H Q => t σ H fun xs H1 => ∃ ns, toInts xs = some ns ∧ ns.length ≤ sizeLine ∧ ∀ p, H1 p = none → Q (.ref p) (upd H1 p (IL ns))
theorem pe_lstI {es : List Expr} {t : TA} {pos : Pos} (h : PA X es t) : PE X (.List es pos) (tLstI t) := by
  refine ⟨fun pins s σ H Q I hq => ?_⟩
  refine wpAny_List_spliced (thn (h.run pos pins s σ H _ I hq) fun us s1 ⟨xs, H1, I1, r, ns, e, z, q⟩ => ?_)
  have e2 := toInts_eq e
  have z2 : xs.length ≤ sizeLine := by rw [e2, List.length_map]; exact z
  refine ⟨by rw [← r.length]; exact z2, ?_⟩
  have hf : H1 s1.heap.objs.size = none := I1.hok.fresh (Nat.le_refl _)
  have q' := q _ hf
  have e3 : IL ns = .lst xs := by unfold IL; rw [e2]
  rw [e3] at q'
  refine ⟨.ref s1.heap.objs.size, upd H1 s1.heap.objs.size (.lst xs), I1.laid (t' := s1.toks) (fun b u e => Heap.get?_push_of_some _ e) (Nat.le_refl _) ?_, rfl, q'⟩
  exact ⟨z2, us, 0, r, Heap.get?_push_size _ rfl⟩
/-- a method of a list that stands in a name: the slot i -/
def tBML (i : Nat) (r : V → List V → Hp → VK → Prop) (t : TA) : TE := fun σ H Q => ∃ p, σ[i]? = some (some (.ref p)) ∧ isL (H p) = true ∧ t σ H fun xs H2 => r (.ref p) xs H2 Q
theorem bml_imp {K : PySem.W.Frag} {i : Nat} {r : V → List V → Hp → VK → Prop} {t : TA} : ∀ σ H Q, tBML i r t σ H Q → tBM K "list" r (tVar i) t σ H Q := by
  intro σ H Q ⟨p, e, h, q⟩
  obtain ⟨xs, hx⟩ := isL_of h
  exact ⟨_, e, .inl ⟨rfl, _, .of hx⟩, q⟩
def tBML0 (i : Nat) (r : V → List V → Hp → VK → Prop) : TE := fun σ H Q => ∃ p, σ[i]? = some (some (.ref p)) ∧ isL (H p) = true ∧ r (.ref p) [] H Q
theorem bml0_imp {K : PySem.W.Frag} {i : Nat} {r : V → List V → Hp → VK → Prop} : ∀ σ H Q, tBML0 i r σ H Q → tBM0 K "list" r (tVar i) σ H Q := by
  intro σ H Q ⟨p, e, h, q⟩
  obtain ⟨xs, hx⟩ := isL_of h
  exact ⟨_, e, .inl ⟨rfl, _, .of hx⟩, q⟩
end
/-! ### written places and bounds -/
theorem atI_k {α : Type} (xs : List α) (k : Nat) : atI xs (k : Int) = xs[k]? := by
  unfold atI ixN
  rw [if_pos (Int.natCast_nonneg k)]
  by_cases h : k < xs.length
  · rw [if_pos (by omega), Int.toNat_natCast]; rfl
  · rw [if_neg (by omega), List.getElem?_eq_none (by omega)]; rfl
theorem atI_0 {α : Type} (xs : List α) : atI xs 0 = xs[0]? := atI_k xs 0
theorem atI_1 {α : Type} (xs : List α) : atI xs 1 = xs[1]? := atI_k xs 1
theorem atI_2 {α : Type} (xs : List α) : atI xs 2 = xs[2]? := atI_k xs 2
theorem atI_3 {α : Type} (xs : List α) : atI xs 3 = xs[3]? := atI_k xs 3
theorem atI_4 {α : Type} (xs : List α) : atI xs 4 = xs[4]? := atI_k xs 4
theorem cmul_r {i j : Int} (h1 : -18446744073709551616 < j) (h2 : j < 18446744073709551616) : CMul i j = True := eq_true (.inr ⟨h1, h2⟩)
theorem cmul_l {i j : Int} (h1 : -18446744073709551616 < i) (h2 : i < 18446744073709551616) : CMul i j = True := eq_true (.inl ⟨h1, h2⟩)
theorem cdiv_r {i j : Int} (h1 : 0 < j) (h2 : j < 1073741824) : CDiv i j = True := eq_true ⟨h1, h2⟩
theorem cast_lit (n : Nat) : ((no_index (OfNat.ofNat n) : Nat) : Int) = OfNat.ofNat n := rfl
/-! ### data that is tracked -/
mutual
inductive Dt (H : Hp) : V → PyData → Prop
  | non : Dt H .non .none
  | bl (b : Bool) : Dt H (.bl b) (.bool b)
  | int (i : Int) : Dt H (.int i) (.int i)
  | str (x : Str) : Dt H (.str x) (.str x)
  | lst {a : Addr} {xs : List V} {ds : List PyData} : H a = some (.lst xs) → DtAll H xs ds → Dt H (.ref a) (.list ds)
  | tup {a : Addr} {xs : List V} {ds : List PyData} : H a = some (.tup xs) → DtAll H xs ds → Dt H (.ref a) (.tuple ds)
inductive DtAll (H : Hp) : List V → List PyData → Prop
  | nil : DtAll H [] []
  | cons {v : V} {vs : List V} {d : PyData} {ds : List PyData} : Dt H v d → DtAll H vs ds → DtAll H (v :: vs) (d :: ds)
end
mutual
theorem Dt.same {H H' : Hp} (s : Same H H') : ∀ (d : PyData) (v : V), Dt H v d → Dt H' v d
  | .none, _, h => by cases h; exact .non
  | .bool b, _, h => by cases h; exact .bl b
  | .int i, _, h => by cases h; exact .int i
  | .str z, _, h => by cases h; exact .str z
  | .list ds, _, h => by cases h with | lst h1 h2 => exact .lst (s _ _ h1) (DtAll.same s ds _ h2)
  | .tuple ds, _, h => by cases h with | tup h1 h2 => exact .tup (s _ _ h1) (DtAll.same s ds _ h2)
  | .dict _, _, h => by cases h
theorem DtAll.same {H H' : Hp} (s : Same H H') : ∀ (ds : List PyData) (vs : List V), DtAll H vs ds → DtAll H' vs ds
  | [], _, h => by cases h; exact .nil
  | d :: ds, _, h => by cases h with | cons h1 h2 => exact .cons (Dt.same s d _ h1) (DtAll.same s ds _ h2)
end
mutual
theorem Dt.dp {K : PySem.W.Frag} {H : Hp} : ∀ (d : PyData) (v : V), Dt H v d → Dp K H v d
  | .none, _, h => by cases h; exact .non
  | .bool b, _, h => by cases h; exact .bl b
  | .int i, _, h => by cases h; exact .int i
  | .str z, _, h => by cases h; exact .str z
  | .list ds, _, h => by cases h with | lst h1 h2 => exact .lst (.of h1) (DtAll.dp ds _ h2)
  | .tuple ds, _, h => by cases h with | tup h1 h2 => exact .tup (.of h1) (DtAll.dp ds _ h2)
  | .dict _, _, h => by cases h
theorem DtAll.dp {K : PySem.W.Frag} {H : Hp} : ∀ (ds : List PyData) (vs : List V), DtAll H vs ds → DpAll K H vs ds
  | [], _, h => by cases h; exact .nil
  | d :: ds, _, h => by cases h with | cons h1 h2 => exact .cons (Dt.dp d _ h1) (DtAll.dp ds _ h2)
end
theorem dtAll_len {H : Hp} : ∀ {xs : List V} {ds : List PyData}, DtAll H xs ds → xs.length = ds.length
  | _, _, .nil => rfl
  | _, _, .cons _ t => by rw [List.length_cons, List.length_cons, dtAll_len t]
theorem dtAll_get {H : Hp} : ∀ {xs : List V} {ds : List PyData} {i : Nat}, DtAll H xs ds → i < ds.length → ∃ x d, xs[i]? = some x ∧ ds[i]? = some d ∧ Dt H x d
  | _, _, _, .nil, h => absurd h (Nat.not_lt_zero _)
  | _, _, 0, .cons a _, _ => ⟨_, _, rfl, rfl, a⟩
  | _, _, i + 1, .cons _ t, h => by
    obtain ⟨x, d, e1, e2, q⟩ := dtAll_get (i := i) t (Nat.lt_of_succ_lt_succ h)
    exact ⟨x, d, e1, e2, q⟩
theorem dt_ints {H : Hp} : ∀ ns : List Int, DtAll H (ns.map V.int) (ns.map PyData.int)
  | [] => .nil
  | n :: r => .cons (.int n) (dt_ints r)
theorem dt_IL {H : Hp} {p : Addr} {ns : List Int} (h : H p = some (IL ns)) : Dt H (.ref p) (.list (ns.map PyData.int)) := .lst h (dt_ints ns)
/-! ### isinstance of data -/
def tn : PyData → String
  | .none => "NoneType"
  | .bool _ => "bool"
  | .int _ => "int"
  | .str _ => "str"
  | .list _ => "list"
  | .tuple _ => "tuple"
  | .dict _ => "dict"
def tyO : Option HO → Option String
  | some (.lst _) => some "list"
  | some (.tup _) => some "tuple"
  | _ => none
def tyH (H : Hp) : V → Option String
  | .non => some "NoneType"
  | .bl _ => some "bool"
  | .int _ => some "int"
  | .str _ => some "str"
  | .ref a => tyO (H a)
  | _ => none
theorem tyH_non {H : Hp} : tyH H .non = some "NoneType" := rfl
theorem tyH_bl {H : Hp} {b : Bool} : tyH H (.bl b) = some "bool" := rfl
theorem tyH_int {H : Hp} {i : Int} : tyH H (.int i) = some "int" := rfl
theorem tyH_str {H : Hp} {x : Str} : tyH H (.str x) = some "str" := rfl
theorem tyH_ref {H : Hp} {a : Addr} : tyH H (.ref a) = tyO (H a) := rfl
theorem tyO_lst {xs : List V} : tyO (some (.lst xs)) = some "list" := rfl
theorem tyO_IL {xs : List Int} : tyO (some (IL xs)) = some "list" := rfl
theorem tyO_tup {xs : List V} : tyO (some (.tup xs)) = some "tuple" := rfl
theorem Dt.ty {H : Hp} {x : V} {d : PyData} (h : Dt H x d) : tyH H x = some (tn d) := by
  cases h with
  | non => rfl
  | bl b => rfl
  | int i => rfl
  | str z => rfl
  | lst h _ => rw [tyH_ref, h]; rfl
  | tup h _ => rw [tyH_ref, h]; rfl
theorem tyO_cases {o : Option HO} {t : String} (h : tyO o = some t) : (t = "list" ∧ ∃ xs, o = some (.lst xs)) ∨ (t = "tuple" ∧ ∃ xs, o = some (.tup xs)) := by
  cases o with
  | none => cases h
  | some u =>
    cases u with
    | lst xs => cases h; exact .inl ⟨rfl, xs, rfl⟩
    | tup xs => cases h; exact .inr ⟨rfl, xs, rfl⟩
    | _ => cases h
/-- isinstance(x, T), both built-in, by the name of x's type -/
def isB (a T : String) : Bool := a == T || (a == "bool" && T == "int")
def tyNames : List String := ["NoneType", "bool", "int", "str", "list", "tuple"]
def clNames : List String := ["bool", "int", "str", "list", "tuple"]
def isCl (T : String) : Bool := clNames.contains T
theorem isB_all : (tyNames.all fun a => clNames.all fun b => decide (kitB a b = some (isB a b))) = true := by decide +kernel
theorem isB_kit {a b : String} (h1 : a ∈ tyNames) (h2 : isCl b = true) : kitB a b = some (isB a b) := by
  have h := isB_all
  rw [List.all_eq_true] at h
  have h' := h a h1
  rw [List.all_eq_true] at h'
  exact of_decide_eq_true (h' b (List.contains_iff_mem.mp h2))
theorem tyH_x {K : PySem.W.Frag} {H : Hp} {x : V} {t : String} (h : tyH H x = some t) : TyX K H x (.type t) ∧ t ∈ tyNames := by
  cases x with
  | non => cases h; exact ⟨.base .non, by decide⟩
  | bl b => cases h; exact ⟨.base (.bl b), by decide⟩
  | int i => cases h; exact ⟨.base (.int i), by decide⟩
  | str z => cases h; exact ⟨.base (.str z), by decide⟩
  | ref a =>
    rcases tyO_cases h with ⟨rfl, xs, e⟩ | ⟨rfl, xs, e⟩
    · exact ⟨.base (.lst e), by decide⟩
    · exact ⟨.base (.tup e), by decide⟩
  | _ => cases h
def rIsiD : List V → Hp → VK → Prop := fun xs H Q => ∃ x T, xs = [x, .ty T] ∧ ∃ t, tyH H x = some t ∧ isCl T = true ∧ Q (.bl (isB t T)) H
theorem call_isiD {X : Cx} : CallR X (.builtin "isinstance") rIsiD := CallR.imp call_isi fun xs H Q h => by
  obtain ⟨x, T, rfl, t, ty, h2, q⟩ := h
  obtain ⟨h0, h1⟩ := tyH_x (K := X.K) ty
  exact ⟨x, .ty T, .type t, .type T, isB t T, rfl, .ty T, h0, kit_ty (isB_kit h1 h2), q⟩
theorem cl_bool : isCl "bool" = true := by decide
theorem cl_int : isCl "int" = true := by decide
theorem cl_str : isCl "str" = true := by decide
theorem cl_list : isCl "list" = true := by decide
theorem cl_tuple : isCl "tuple" = true := by decide
theorem isB_NoneType_bool : isB "NoneType" "bool" = false := by decide
theorem isB_NoneType_int : isB "NoneType" "int" = false := by decide
theorem isB_NoneType_str : isB "NoneType" "str" = false := by decide
theorem isB_NoneType_list : isB "NoneType" "list" = false := by decide
theorem isB_NoneType_tuple : isB "NoneType" "tuple" = false := by decide
theorem isB_bool_bool : isB "bool" "bool" = true := by decide
theorem isB_bool_int : isB "bool" "int" = true := by decide
theorem isB_bool_str : isB "bool" "str" = false := by decide
theorem isB_bool_list : isB "bool" "list" = false := by decide
theorem isB_bool_tuple : isB "bool" "tuple" = false := by decide
theorem isB_int_bool : isB "int" "bool" = false := by decide
theorem isB_int_int : isB "int" "int" = true := by decide
theorem isB_int_str : isB "int" "str" = false := by decide
theorem isB_int_list : isB "int" "list" = false := by decide
theorem isB_int_tuple : isB "int" "tuple" = false := by decide
theorem isB_str_bool : isB "str" "bool" = false := by decide
theorem isB_str_int : isB "str" "int" = false := by decide
theorem isB_str_str : isB "str" "str" = true := by decide
theorem isB_str_list : isB "str" "list" = false := by decide
theorem isB_str_tuple : isB "str" "tuple" = false := by decide
theorem isB_list_bool : isB "list" "bool" = false := by decide
theorem isB_list_int : isB "list" "int" = false := by decide
theorem isB_list_str : isB "list" "str" = false := by decide
theorem isB_list_list : isB "list" "list" = true := by decide
theorem isB_list_tuple : isB "list" "tuple" = false := by decide
theorem isB_tuple_bool : isB "tuple" "bool" = false := by decide
theorem isB_tuple_int : isB "tuple" "int" = false := by decide
theorem isB_tuple_str : isB "tuple" "str" = false := by decide
theorem isB_tuple_list : isB "tuple" "list" = false := by decide
theorem isB_tuple_tuple : isB "tuple" "tuple" = true := by decide
theorem scal_nn : scal .non .non = true := rfl
theorem scal_ii {a b : Int} : scal (.int a) (.int b) = true := rfl
theorem scal_bb {a b : Bool} : scal (.bl a) (.bl b) = true := rfl
theorem scal_ss {a b : Str} : scal (.str a) (.str b) = true := rfl
theorem scal_is {a : Int} {b : Str} : scal (.int a) (.str b) = true := rfl
theorem scal_si {a : Int} {b : Str} : scal (.str b) (.int a) = true := rfl
/-! ### lists and tuples that are tracked: their items -/
def itO : Option HO → Option (List V)
  | some (.lst xs) => some xs
  | some (.tup xs) => some xs
  | _ => none
theorem itO_lst {xs : List V} : itO (some (.lst xs)) = some xs := rfl
theorem itO_tup {xs : List V} : itO (some (.tup xs)) = some xs := rfl
theorem itO_IL {ns : List Int} : itO (some (IL ns)) = some (ns.map V.int) := rfl
theorem itO_cases {o : Option HO} {xs : List V} (h : itO o = some xs) : o = some (.lst xs) ∨ o = some (.tup xs) := by
  cases o with
  | none => cases h
  | some u =>
    cases u with
    | lst xs => cases h; exact .inl rfl
    | tup xs => cases h; exact .inr rfl
    | _ => cases h
def rLenQ : List V → Hp → VK → Prop := fun xs H Q => ∃ p ys, xs = [.ref p] ∧ itO (H p) = some ys ∧ Q (.int (ys.length : Int)) H
theorem call_lenQ {X : Cx} : CallR X (.builtin "len") rLenQ := CallR.imp call_len_seq fun xs H Q h => by
  obtain ⟨p, ys, e, h1, q⟩ := h
  rcases itO_cases h1 with h1 | h1
  · exact ⟨p, _, e, .inl (.of h1), q⟩
  · exact ⟨p, _, e, .inr (.of h1), q⟩
def rLenB : List V → Hp → VK → Prop := fun xs H Q => ∃ p ys, xs = [.ref p] ∧ itO (H p) = some ys ∧ (ys.length ≤ 16777216 → Q (.int (ys.length : Int)) H)
theorem call_lenB {X : Cx} : CallR X (.builtin "len") rLenB := fun pins s σ H xs us Q I r h => by
  obtain ⟨p, ys, e, h1, q⟩ := h
  refine call_lenQ pins s σ H xs us Q I r ⟨p, ys, e, h1, q ?_⟩
  rcases itO_cases h1 with h1 | h1
  · obtain ⟨_, _, _, z⟩ := I.list (.of h1)
    rw [sizeLine_eq] at z
    exact z
  · obtain ⟨_, _, _, z⟩ := I.tuple (.of h1)
    rw [sizeLine_eq] at z
    exact z
def rIxD : R2 := fun x y H Q => ∃ p xs i v, x = .ref p ∧ y = .int i ∧ itO (H p) = some xs ∧ atI xs i = some v ∧ Q v H
theorem ix_seqD {X : Cx} : IxR X rIxD := IxR.imp (ix_list.or ix_tup) fun x y H Q h => by
  obtain ⟨p, xs, i, v, e1, e2, h1, h2, q⟩ := h
  rcases itO_cases h1 with h1 | h1
  · exact .inl ⟨p, _, i, _, e1, e2, .of h1, h2, q⟩
  · exact .inr ⟨p, _, i, _, e1, e2, .of h1, h2, q⟩
/-- data that is told the same twice -/
def spSame (n : Nat) : Sp := fun vs H Q _ => ∃ (x y : V) (d : PyData), vs = [x, y] ∧ Dt H x d ∧ Dt H y d ∧ d.depth < n ∧ SeqAt.shaped d = true ∧ Q (.bl true) H
theorem depthAll_get : ∀ {ds : List PyData} {i : Nat} {d : PyData}, ds[i]? = some d → d.depth ≤ PyData.depthAll ds
  | [], _, _, h => by simp at h
  | a :: r, 0, d, h => by
    have e : a = d := Option.some.inj h
    subst e
    simp only [PyData.depthAll]
    omega
  | a :: r, i + 1, d, h => by
    have q := depthAll_get (ds := r) (i := i) (d := d) h
    simp only [PyData.depthAll]
    omega
theorem canLayAll_get : ∀ {ds : List PyData} {i : Nat} {d : PyData}, ds[i]? = some d → PyData.canLayAll0 ds = true → d.canLay0 = true
  | [], _, _, h, _ => by simp at h
  | a :: r, 0, d, h, c => by
    have e : a = d := Option.some.inj h
    subst e
    rw [PyData.canLayAll0, Bool.and_eq_true] at c
    exact c.1
  | a :: r, i + 1, d, h, c => by
    rw [PyData.canLayAll0, Bool.and_eq_true] at c
    exact canLayAll_get (ds := r) (i := i) (d := d) h c.2
theorem shaped_item {ds : List PyData} {i : Nat} {d : PyData} (h : ds[i]? = some d) (c : PyData.canLayAll0 ds = true) (k : PyData.depthAll ds + 1 ≤ 64) : SeqAt.shaped d = true := by
  unfold SeqAt.shaped
  rw [Bool.and_eq_true]
  refine ⟨canLayAll_get h c, decide_eq_true ?_⟩
  have := depthAll_get h
  omega
theorem none_fn {P : Program} {w : World} {K : PySem.W.Frag} {mg : Str → Option Value} {base : Heap} {CX : CXT} {f : Addr} {fd : FuncData} {ps : List Str} {sp : Sp} {k : Nat} (no : ∀ vs H Q E, ¬ sp vs H Q E) : FnOk P w K mg base CX k f fd ps sp :=
  ⟨fun vs H Q E h => absurd h (no vs H Q E), fun A outer s H args us vs Q E _ _ _ _ h => absurd h (no vs H Q E)⟩
end Dw

/-! a def that closes over its class: its first word calls the inherited start of an error -/
namespace Dw
open PySem PySem.Spec PyProof.Rows L2
/-- the context of such a def's body -/
def cxS (CX : CXT) (P : Program) (w : World) (K : PySem.W.Frag) (mg : Str → Option Value) (base : Heap) (N : List Str) (qual : Str) (scope : Scope) (f cda cc : Addr) (A : Around) (outer : List Env) (s : Shared) (H : Hp) (E : XK) : Cx where
  prog := P
  w := w
  K := K
  mg := mg
  base := base
  N := N
  A := A.deeper (PySem.W.ksEnv qual scope s.heap.objs.size f (.ref cda) cc)
  env := PySem.W.ksEnv qual scope s.heap.objs.size f (.ref cda) cc
  s_0 := s
  H_0 := H
  outer := outer
  stack := PySem.W.ksEnv qual scope s.heap.objs.size f (.ref cda) cc :: outer
  calm := true
  ex := []
  pn := []
  fn := fun x => decide (x ≠ Str.ofString "__class__")
  xe := fun e s' => wpAny (model P w) (A.deeper (PySem.W.ksEnv qual scope s.heap.objs.size f (.ref cda) cc)) (leaving (PySem.W.ksEnv qual scope s.heap.objs.size f (.ref cda) cc) e) (fun _ t => CX outer H s E e t) (fun e' t => CX outer H s E e' t) s'
theorem look_one {x : Str} {c d : Addr} (h : List.lookup x [(Str.ofString "__class__", c)] = some d) : x = Str.ofString "__class__" ∧ d = c := by
  by_cases e : x = Str.ofString "__class__"
  · subst e
    simp [List.lookup] at h
    exact ⟨rfl, h.symm⟩
  · have : (x == Str.ofString "__class__") = false := by simpa using e
    simp [List.lookup, this] at h
theorem look_rev {x : Str} {u : Value} : ∀ {ps : List Str} {us : List Value} {i : Nat}, ps.Nodup → ps[i]? = some x → us[i]? = some u → (ps.zip us).reverse.lookup x = some u := by
  intro ps
  induction ps with
  | nil => intro us i _ h; cases i <;> cases h
  | cons p ps ih =>
    intro us i nd h1 h2
    cases us with
    | nil => cases i <;> cases h2
    | cons v us =>
      rw [List.nodup_cons] at nd
      show (((p, v) :: ps.zip us).reverse).lookup x = some u
      rw [List.reverse_cons, List.lookup_append]
      cases i with
      | zero =>
        cases h1
        cases h2
        have hn : (ps.zip us).reverse.lookup x = none := by
          rw [List.lookup_eq_none_iff]
          intro q hq
          have hm := (List.of_mem_zip (List.mem_reverse.mp hq : (q.1, q.2) ∈ ps.zip us)).1
          have hne : x ≠ q.1 := fun e => nd.1 (by rw [e]; exact hm)
          simpa using hne
        rw [hn]
        simp [List.lookup]
      | succ i =>
        rw [ih nd.2 h1 h2]
        rfl
/-- what is asked of the def's names -/
structure SupS (N P : List Str) (sc : Scope) : Prop where
  kind : sc.kind = .function
  nd : N.Nodup
  pre : N.take P.length = P
  par : ∀ x ∈ P, sc.names.lookup x = some .local
  nocell : ∀ y ∈ sc.names, y.2 ≠ .cell
  nofree : ∀ y, sc.names.lookup y = some .free → y = Str.ofString "__class__"
theorem inv_sup {CX : CXT} {P : Program} {w : World} {K : PySem.W.Frag} {mg : Str → Option Value} {base : Heap} {N ps : List Str} {qual : Str} {scope : Scope} {f cda cc D : Addr} {A : Around} {outer : List Env} {s : Shared} {H : Hp} {E : XK} {us : List Value} {vs : List V} {h1 : Heap} {tk : Nat} {cl : Value} {cld : Option Addr} {csl : Array (Option Value)}
    (S : SupS N ps scope) (hd : A.handled = none) (e0 : Env0 P w K mg base A outer s H) (hl : vs.length = ps.length) (r : Vals vs us) (hcell : K.lookup cc = some ⟨cl, cld, .cell (some (.ref D)), csl⟩)
    (hns : h1.Ns s.heap.objs.size (fun x => (ps.zip us).reverse.lookup x)) (hk : ∀ b o, s.heap.get? b = some o → h1.get? b = some o) :
    Inv (cxS CX P w K mg base N qual scope f cda cc A outer s H E) [] (L2.start N vs) H { s with heap := h1, toks := tk } := by
  have hpl : ps.length ≤ N.length := by have := congrArg List.length S.pre; rw [List.length_take] at this; omega
  have hbc := e0.mod.kin _ _ hcell
  have hcc := hk _ _ (e0.bs _ _ hbc).1
  have noA : ∀ b : Addr, b ∉ ([] : List Addr) := fun b z => by cases z
  have hck : ∀ x c, (cxS CX P w K mg base N qual scope f cda cc A outer s H E).env.cells.lookup x = some c → x = Str.ofString "__class__" ∧ c = cc := fun x c h => look_one h
  refine ⟨⟨e0.mod, S.kind, rfl, rfl, Nat.le_refl _, fun x y c h1 h2 => by rw [(hck x c h1).1, (hck y c h2).1], fun x hx => ?_, fun x c hx h => ?_, fun _ => hd, Around.frames_deeper e0.frames, .inr ⟨rfl, rfl⟩, fun b z => absurd z (noA b), e0.bs, e0.bsz, fun b _ _ => noA b, fun b z => absurd z (noA b), e0.funs, e0.frf⟩,
    rfl, e0.bare, Un.kept hk, ⟨_, hns, fun i y v q1 q2 q3 => ?_⟩, fun x c h => ?_, e0.hok.fresh (Nat.le_refl _), fun x c h => ?_, fun p hp => (by cases hp), e0.hok.kept hk, ?_⟩
  · rcases hx with hx | hx
    · exact absurd rfl (S.nocell _ (PySem.mem_of_lookup hx))
    · rw [S.nofree x hx]
      exact ⟨cc, by simp [cxS, List.lookup]⟩
  · have hx : decide (x ≠ Str.ofString "__class__") = true := hx
    exact absurd (hck x c h).1 (of_decide_eq_true hx)
  · have hi : i < vs.length := by
      unfold L2.start at q2
      by_cases hi : i < vs.length
      · exact hi
      · rw [List.getElem?_append_right (by simpa using hi), List.getElem?_replicate] at q2
        split at q2 <;> cases q2
    have ha : vs[i]? = some v := by
      unfold L2.start at q2
      rw [List.getElem?_append_left (by simpa using hi), List.getElem?_map] at q2
      cases e : vs[i]? with
      | none => rw [e] at q2; cases q2
      | some a => rw [e] at q2; cases q2; rfl
    obtain ⟨u, hu, rv⟩ := r.get ha
    have hp : ps[i]? = some y := by
      have q1 : N[i]? = some y := q1
      rw [← S.pre, List.getElem?_take_of_lt (by omega)]
      exact q1
    have ndP : ps.Nodup := by rw [← S.pre]; exact S.nd.sublist (List.take_sublist _ _)
    exact ⟨u, rv, .inl ⟨S.par y (List.mem_of_getElem? hp), look_rev ndP hp hu⟩⟩
  · rw [(hck x c h).2]
    exact ⟨_, _, hcc, rfl⟩
  · rw [(hck x c h).2]
    exact (e0.bs _ _ hbc).2
  · unfold L2.start
    show _ = N.length
    rw [List.length_append, List.length_map, List.length_replicate]
    omega
/-- what is known of the class whose object is started -/
structure SupC (K : PySem.W.Frag) (C D : Addr) : Prop where
  oex : OexC K C
  sub : PySem.W.mroIn K C (.ref D) = some true
  init : PySem.W.ks_superIn K C D "__init__" = some (some (.builtin "ValueError.__init__"))
  val : PySem.W.subIn K (.ref C) (.type "ValueError") = some true
section
variable {P : Program} {w : World} {K : PySem.W.Frag} {mg : Str → Option Value} {base : Heap}
theorem fn_super {CX : CXT} {k : Nat} {f cda cc D : Addr} {name qual : Str} {params : Arguments} {rest : List Stmt} {scope : Scope} {dV kV doc pm ct oc ccl cl : Value} {an od cdd cld : Option Addr} {osl ccs csl : Array (Option Value)} {N ps : List Str} {sp : Sp} {e : Expr} {p0 p1 p2 p3 p4 : Pos} {vc : Array Value} {file : Str} {tf : Tok} {cdD : ClassData} {ar : Arg}
    (lk : K.lookup f = some ⟨oc, od, .func (PySem.W.ksFn name qual params (.Expr (.Call (.Attribute (.Call (.Name "super" p0) [] [] p1) "__init__" p2) [e] [] p3) p4 :: rest) scope dV kV doc pm an (.ref cda) ct cc), osl⟩)
    (hcd : PySem.W.codeIn K (.ref cda) qual = true) (hcode : K.lookup cda = some ⟨ccl, cdd, .fields vc, ccs⟩) (hvc : vc[2]? = some (.str file tf)) (hfile : ((P.main.file : Str) == file) = true)
    (hcell : K.lookup cc = some ⟨cl, cld, .cell (some (.ref D)), csl⟩) (hD : PySem.W.clsIn K D = some cdD) (hst : PySem.W.nsIn K cStatics "thirdparty.any" = some none)
    (har : (params.posonlyargs ++ params.args).head? = some ar) (hps : ps[0]? = some ar.arg) (htop : (P.main.scope.names.lookup ("super" : Str)).isSome = false) (hmg : mg "super" = none)
    (S : SupS N ps scope) (hsu : scope.names.lookup ("super" : Str) = some .globalImplicit) (hcl : scope.names.lookup ("__class__" : Str) = some .free) (hco : scope.isCoroutine = false) (hgen : scope.isGenerator = false)
    (hea : ∀ env, starEach [e] env = (false, eval e env) :: starEach [] env)
    (hev : ∀ A outer s H E, ∃ pl, eval (.Call (.Attribute (.Call (.Name "super" p0) [] [] p1) "__init__" p2) [e] [] p3) (cxS CX P w K mg base N qual scope f cda cc A outer s H E).env = (do
      let ov ← attributeBase (.Call (.Name "super" p0) [] [] p1) "__init__" (cxS CX P w K mg base N qual scope f cda cc A outer s H E).env (eval (.Call (.Name "super" p0) [] [] p1) (cxS CX P w K mg base N qual scope f cda cc A outer s H E).env)
      standAt p2.atName
      let (fu, first) ← holding [ov] (getMethod ov "__init__" pl)
      callWith p3 fu first (backTo p3 (starEach [e] (cxS CX P w K mg base N qual scope f cda cc A outer s H E).env)) []))
    (hsw : ∀ env, swapsWith (.Call (.Attribute (.Call (.Name "super" p0) [] [] p1) "__init__" p2) [e] [] p3) none p4.line env = pure false)
    (len : ∀ vs H Q E, sp vs H Q E → vs.length = ps.length)
    (hbody : ∀ (A : Around) (outer : List Env) (s : Shared) (H : Hp) (vs : List V) (Q : VK) (E : XK), Room k (A.deeper (PySem.W.ksEnv qual scope s.heap.objs.size f (.ref cda) cc)) → sp vs H Q E →
      ∃ x C ta ts, vs[0]? = some (.ref x) ∧ SupC K C D ∧ H x = some (exo x C none) ∧ PA (cxS CX P w K mg base N qual scope f cda cc A outer s H E) [e] ta ∧ PSs (cxS CX P w K mg base N qual scope f cda cc A outer s H E) rest ts ∧
        ta (L2.start N vs) H fun ws H1 => ws.length ≤ 1000 ∧ H1 x = some (exo x C none) ∧ ts { nx := fun _ H' => Q .non H', rt := Q } (L2.start N vs) H1) :
    FnOk P w K mg base CX (k + 1) f (PySem.W.ksFn name qual params (.Expr (.Call (.Attribute (.Call (.Name "super" p0) [] [] p1) "__init__" p2) [e] [] p3) p4 :: rest) scope dV kV doc pm an (.ref cda) ct cc) ps sp := by
  refine ⟨len, fun A outer s H args us vs Q E hr e0 hb r hsp => ?_⟩
  have hl := len _ _ _ _ hsp
  have hup : ∀ b o, base.get? b = some o → s.heap.get? b = some o := fun b o q => (e0.bs b o q).1
  have KX : K.In s.heap := e0.mod.kin.keeps hup
  obtain ⟨x, C, ta, ts, hx0, hC, hHx, hPA, hPS, hq⟩ := hbody A outer s H vs Q E (hr.deeper _) hsp
  have ndP : ps.Nodup := by rw [← S.pre]; exact S.nd.sublist (List.take_sublist _ _)
  refine ks_codeAny_call_defAt (binds := ps.zip us) hr.depth (KX _ _ lk) rfl (e0.mod.nolimit.keeps hup) (PySem.W.codeRec_of KX hcd) rfl hb S.nocell (fun q hq' => S.par _ (List.of_mem_zip (show (q.1, q.2) ∈ ps.zip us from hq')).1) (fun h1 hns hk => ?_) hco hgen S.kind
  have I : Inv (cxS CX P w K mg base N qual scope f cda cc A outer s H E) [] (L2.start N vs) H { s with heap := h1, toks := s.toks + (ps.zip us).length } := inv_sup S hr.hd e0 hl r hcell hns hk
  obtain ⟨en, hen⟩ : ∃ en, en = PySem.W.ksEnv qual scope s.heap.objs.size f (.ref cda) cc := ⟨_, rfl⟩
  obtain ⟨X, hX⟩ : ∃ X, X = cxS CX P w K mg base N qual scope f cda cc A outer s H E := ⟨_, rfl⟩
  obtain ⟨pl, hev⟩ := hev A outer s H E
  rw [← hX] at I hPA hPS hev
  have hXe : X.env = en := by rw [hX, hen]; rfl
  have hXA : X.A = A.deeper en := by rw [hX, hen]; rfl
  have hXP : X.prog = P ∧ X.w = w ∧ X.K = K := by rw [hX]; exact ⟨rfl, rfl, rfl⟩
  have hev2 := hev
  rw [hXe] at hev2
  show PySem.wpAt (model P w) (A.deeper (PySem.W.ksEnv qual scope s.heap.objs.size f (.ref cda) cc)) (.func _ (PySem.W.ksEnv qual scope s.heap.objs.size f (.ref cda) cc)) (execs _ (PySem.W.ksEnv qual scope s.heap.objs.size f (.ref cda) cc)) _ _ _
  rw [← hen]
  have hXx : ∀ (e : Value) (s' : Shared), X.xe e s' → wpAny (model P w) (A.deeper (PySem.W.ksEnv qual scope s.heap.objs.size f (.ref cda) cc)) (leaving (PySem.W.ksEnv qual scope s.heap.objs.size f (.ref cda) cc) e) (fun _ t => CX outer H s E e t) (fun e' t => CX outer H s E e' t) s' := fun e s' q => by
    rw [hX] at q
    exact q
  have fin : ∀ {σ' : L2.St} {H' : Hp} {v : V} {u : Value} {s' : Shared}, Inv X [] σ' H' s' → RelV v u → Q v H' → CE outer P w H s Q u s' := fun {σ' H' v u s'} J rv q => by
    rw [hX] at J
    exact ⟨v, H', J.os, J.bare, J.base, J.hok, rv, q⟩
  refine ks_wpAt_mono (Q := fun fl s' => SP X [] { nx := fun _ H' => Q .non H', rt := Q } fl s') (E := X.xe) ?_ (fun fl s' hs => ?_) hXx
  · refine ks_wpAt_execs_cons (ks_wpAt_Expr_any (ks_wpAt_MethodCall (pl := pl) ?_ hev2) (by rw [hen]; simp [interactive, S.kind]) (by rw [hen]; exact hsw _))
    obtain ⟨hXp, hXw, hXK⟩ := hXP
    have KX1 : K.In h1 := KX.keeps hk
    obtain ⟨oD, hD1, hD2⟩ : ∃ oD, h1.get? D = some oD ∧ oD.data = .cls cdD := by
      unfold PySem.W.clsIn at hD
      split at hD
      · rename_i ca cb ccd sl ho
        cases hD
        exact ⟨_, KX1 _ _ ho, rfl⟩
      · cases hD
    obtain ⟨mb, hb1, hb2⟩ := e0.mod.blt
    have hbk : ∀ b o, base.get? b = some o → h1.get? b = some o := fun b o q => hk _ _ (hup _ _ q)
    obtain ⟨t1, hox⟩ := exo_at I.hok hHx
    have hus0 : us[0]? = some (.ref x) := by
      obtain ⟨u, hu, rv⟩ := r.get hx0
      rw [hu]
      exact congrArg some rv
    have hself : (ps.zip us).reverse.lookup ar.arg = some (.ref x) := look_rev ndP hps hus0
    have hkar : scope.names.lookup ar.arg = some .local := S.par _ (List.mem_of_getElem? hps)
    refine ks_wpAt_super_base (f := f) (cc := cda) (by rw [hen]; exact hsu) (by rw [hen]; exact hcl) (by decide) (by rw [hen]) (KX1 _ _ lk) rfl har (by rw [hen]) (KX1 _ _ hcode) rfl hvc hfile htop ?_
    refine PySem.W.ks_loadName_global (by rw [hen]; exact S.kind) (by rw [hen]; exact hsu) (Calls.loadGlobal_builtin (by rw [hen]; exact e0.mod.glob.keeps hbk) hmg (by rw [hen]; exact hb1.keeps hbk) ((hb2 _ (by decide)).trans PyProof.Rows.Boot.«super») ⟨rfl, ?_⟩)
    refine wpAny_loadName_free (c := cc) (by rw [hen]; exact S.kind) (by rw [hen]; exact hcl) (by rw [hen]; simp [List.lookup]) ⟨_, KX1 _ _ hcell, rfl⟩ ?_
    refine wpAny_loadName_local (by rw [hen]; exact S.kind) (by rw [hen]; exact hkar) (by rw [hen]; exact hns) hself (ks_wpAny_isType_cls hD1 hD2 ⟨rfl, ?_⟩)
    refine ks_wpAny_call_super (C := C) hD1 hD2 hox rfl (fun c q => by cases q) (PySem.W.looks_mroIn KX1 hC.sub) (fun h2 hso k2 => ?_)
    have I2 := I.kept (h' := h2) (t' := s.toks + (ps.zip us).length) k2
    have KX2 : K.In h2 := KX1.keeps k2
    obtain ⟨nm, q, cN, cbs, bm, csn, csub, cab, ccol, cdd2, k0', k1', k2', k3', k5', hCl, hbm⟩ := hC.oex.cls
    have hcd2 : PySem.W.clsIn K C = some { name := nm, bases := cbs, mro := .ref C :: bm, ns := cN, qualname := q, hasDict := true, slotNames := csn, subclasses := csub, abstract := cab, collection := ccol, hasDel := false } := by
      unfold PySem.W.clsIn
      rw [hCl] <;> rfl
    have hxC : x ≠ C := fun z => by
      rw [z, KX1 _ _ hCl] at hox
      cases hox
    have hini := hC.init
    unfold PySem.W.ks_superIn at hini
    rw [hcd2] at hini
    have hox2 := k2 _ _ hox
    have hInst : PySem.W.InstAt h2 x { cls := .ref C, dict := none, data := .fields #[.ref t1, .none, .none, .none, .bool false, .none] } C none := ⟨hox2, rfl, rfl, trivial⟩
    have hIs : PySem.W.Looks (model P w) h2 (isInstance (.ref x) (.type "ValueError")) true := hInst.type.andThen (PySem.W.looks_subIn KX2 hC.val)
    have hmr : PySem.W.Looks (model P w) h2 (mroOf (.ref C)) (.ref C :: bm) := (PySem.W.looks_clsIn KX2 hcd2).andThen .now
    refine PySem.W.kxs_getMethod (x := x) (C := C) PySem.W.kxs_ValueError hso (PySem.W.looks_opaque KX2 hst) hmr rfl KX2 hini hIs hxC (by decide) ?_
    obtain ⟨mw, hmw⟩ : ∃ mw, mw = PySem.W.kxs_mw "ValueError.__init__" x := ⟨_, rfl⟩
    rw [← hmw]
    have k3 : ∀ b o, h2.get? b = some o → (h2.push mw).get? b = some o := fun b o z => Heap.get?_push_of_some _ z
    have I3 := I2.kept (h' := h2.push mw) (t' := s.toks + (ps.zip us).length + 1) k3
    have hgu : (h2.push mw).get? h2.objs.size = some mw := by
      rw [hmw]
      exact Heap.get?_push_at rfl rfl
    have I4 : Inv X [(h2.objs.size, mw)] (L2.start N vs) H _ := I3.pins_of fun p hp => by
      rw [List.mem_singleton.mp hp]
      exact ⟨hgu, I2.hok.fresh (Nat.le_refl _), Nat.ne_of_gt I2.lt, I2.nofs (Nat.le_refl _), fun v z => by rw [hmw] at z; cases z⟩
    show wpAny (model P w) (A.deeper en) (callWith p3 (.ref h2.objs.size) [] (backTo p3 (starEach [e] en)) []) _ _ _
    have hsp1 : starEach [e] en = (false, eval e en) :: starEach [] en := hea en
    have hpn : (backTo p3 (starEach [] en)).any (·.1) = false := rfl
    have hrun := hPA.run p3 _ _ (L2.start N vs) H _ I4 hq
    rw [hXe, hXA, hXp, hXw] at hrun
    rw [hsp1] at hrun ⊢
    refine PySem.W.kxs_callWith (i := "ValueError.__init__") (x := x) (by show (false || (backTo p3 (starEach [] en)).any (·.1)) = false; rw [hpn]; rfl) (Calls.evalArgs_plain (thn hrun fun us1 s4 hs4 => ?_))
    obtain ⟨ws, H5, I5, r5, hwl, hx5, hts⟩ := hs4
    have hpin := (I5.pin (h2.objs.size, mw) (List.mem_append_right _ (List.mem_singleton.mpr rfl))).1
    have hul : us1.length ≤ sizeLine := by
      rw [← Paired.length r5, sizeLine_eq]
      omega
    have I6 : Inv X [] (L2.start N vs) H5 s4 := I5.pins_of fun p hp => by cases hp
    have KX5 : K.In s4.heap := by
      have q := I6.kIn
      rw [hXK] at q
      exact q
    obtain ⟨t5, ho5⟩ := exo_at I6.hok hx5
    refine ⟨by rw [hmw] at hpin; exact hpin, ?_⟩
    show wpAny (model P w) (A.deeper en) (call (.ref h2.objs.size) us1) _ _ s4
    have FB := PySem.F.excBase_ValueError
    rw [hmw] at hpin
    obtain ⟨h4, g4, d4, t4, os4⟩ := s4
    refine wpAny_call (codeAny_of_tree ?_)
    show wpAny (model P w) (A.deeper en).in1 (callAny (.ref h2.objs.size) ⟨us1, []⟩) _ _ _
    unfold callAny
    refine wpAny_bind (wpAny_load hpin ?_)
    have isMw : (Value.type "method-wrapper" == Value.type "method" || Value.type "method-wrapper" == Value.type "builtin_function_or_method" || Value.type "method-wrapper" == Value.type "method-wrapper") = true := by decide
    simp only [PySem.W.kxs_mw, isMw, if_true]
    refine PySem.W.KFB.if_so (by decide) (wpAny_bind (PySem.W.check_bound_init FB.toExcCallFacts (KX5 _ _ hCl) ho5 rfl (wpAny_bind (wpAny_pure (wpAny_pure ⟨plainId_quiet FB.init.plain _, codeAny_builtin FB.initEntry ?_⟩)))))
    refine PySem.W.exc_init_tree (cls := .ref C) (t0 := t5) (dv := none) (c2 := .none) (c3 := .none) (b4 := .bool false) ho5 hul fun h6 k6 ho6 _ => ?_
    have J0 := I6.write (t' := t4) (x := x) (e := x) (o := exo x C none) (by rw [hx5]; exact True.intro) (.inl rfl) k6 ⟨_, ho6⟩ (exo_ok ho6)
    have eu : upd H5 x (exo x C none) = H5 := funext fun b => by
      by_cases hb : b = x
      · rw [hb, upd_same, hx5]
      · exact upd_ne hb
    rw [eu] at J0
    have hlast := hPS.run [] _ (L2.start N vs) H5 { nx := fun _ H' => Q .non H', rt := Q } J0 hts
    rw [hXe, hXA, hXp, hXw] at hlast
    exact wpAt_of_wpAny hlast
  · cases fl with
    | ret u =>
      obtain ⟨v, σ', H', J, rv, q⟩ := hs
      exact fin J rv q
    | next =>
      obtain ⟨σ', H', J, q⟩ := hs
      exact fin (v := V.non) (u := Value.none) J rfl q
    | brk =>
      obtain ⟨_, _, _, q⟩ := hs
      exact False.elim q
    | cont =>
      obtain ⟨_, _, _, q⟩ := hs
      exact False.elim q
end
/-- an error class with a start of its own, by the written part -/
def oexIn (K : PySem.W.Frag) (C : Addr) : Bool :=
  match K.lookup C with
  | some ⟨.type t, _, .cls cd, sl⟩ =>
    match cd.mro, sl.toList with
    | .ref C' :: bm, [_, _, _, _, some (.builtin n), _] => decide (t = "type") && (decide (C' = C) && (decide (n = "ValueError.__new__") && (!cd.hasDel && (cd.hasDict && PySem.HandSPX.refsVE bm))))
    | _, _ => false
  | _ => false
theorem oex_cls {K : PySem.W.Frag} {C : Addr} (h : oexIn K C = true) : ∃ nm q N bs bm sn sub ab col dd k0 k1 k2 k3 k5, K.lookup C = some (excClassObj nm q C N bs bm true sn sub ab col dd k0 k1 k2 k3 k5 "ValueError.__new__") ∧ PySem.HandSPX.refsVE bm = true := by
  unfold oexIn at h
  split at h
  · rename_i t dd cd sl ho
    split at h
    · rename_i C' bm k0 k1 k2 k3 n k5 hm hs
      rw [Bool.and_eq_true, Bool.and_eq_true, Bool.and_eq_true, Bool.and_eq_true, Bool.and_eq_true, decide_eq_true_eq, decide_eq_true_eq, decide_eq_true_eq, Bool.not_eq_true'] at h
      obtain ⟨rfl, rfl, rfl, hdel, hdict, hve⟩ := h
      obtain ⟨nm, bs, mro, ns, qn, hd, sn, sub, ab, col, del⟩ := cd
      dsimp only at hm hdel hdict
      subst hm hdel hdict
      have hsl : sl = #[k0, k1, k2, k3, some (.builtin "ValueError.__new__"), k5] := Array.toList_inj.mp hs
      subst hsl
      exact ⟨_, _, _, _, _, _, _, _, _, _, _, _, _, _, _, ho, hve⟩
    · cases h
  · cases h
/-- the program's own file, and that it has no super of its own -/
class SupP (P : Program) : Prop where
  fil : ((P.main.file : Str) == ("/claim/cut.py" : Str)) = true
  top : (P.main.scope.names.lookup ("super" : Str)).isSome = false
/-- an error class whose start is its own: what the top has written -/
structure SupX (K : PySem.W.Frag) (mg : Str → Option Value) (x qual : Str) (st : Stmt) (C f : Addr) (fd : FuncData) : Prop where
  ex : ∃ (oc kV doc pm ct ccl cl : Value) (od an cdd cld : Option Addr) (osl ccs csl : Array (Option Value)) (cda cc : Addr) (vc : Array Value) (tf : Tok) (cdD : ClassData), fd = PySem.W.ksFn "__init__" qual (defArgs st) (defBody st) (defScope st) .none kV doc pm an (.ref cda) ct cc ∧ K.lookup f = some ⟨oc, od, .func (PySem.W.ksFn "__init__" qual (defArgs st) (defBody st) (defScope st) .none kV doc pm an (.ref cda) ct cc), osl⟩ ∧ PySem.W.codeIn K (.ref cda) qual = true ∧
    K.lookup cda = some ⟨ccl, cdd, .fields vc, ccs⟩ ∧ vc[2]? = some (.str ("/claim/cut.py" : Str) tf) ∧ K.lookup cc = some ⟨cl, cld, .cell (some (.ref C)), csl⟩ ∧ PySem.W.clsIn K C = some cdD
  sta : PySem.W.nsIn K cStatics "thirdparty.any" = some none
  sup : mg "super" = none
  cls : SupC K C C
  ini : PySem.W.findIn K (.ref C) "__init__" = some (some (.ref f))
  typ : PySem.W.typeIn K (.ref f) = some (.type "function")
  g : mg x = some (.ref C)
  xf : XfC K C
  k : PySem.W.keepIn K (.ref C) = true
  b : PySem.W.subIn K (.ref C) (.type "BaseException") = some true
  t : PySem.W.typeIn K (.ref C) = some (.type "type")
  e : PySem.W.exmOne K (.ref C) (.ref C) = some true
  fld : PySem.W.findIn K (.ref C) "index" = some none
theorem sup_binds {K : PySem.W.Frag} {qual : Str} {st : Stmt} {kV doc pm ct : Value} {an : Option Addr} {cda cc : Addr} {ps : List Str}
    (h : ∀ us : List Value, us.length = ps.length → bindArgs (PySem.W.ksFn "__init__" qual (defArgs st) (defBody st) (defScope st) .none kV doc pm an (.ref cda) ct cc) ⟨us, []⟩ = pure (ps.zip us)) : Binds K (PySem.W.ksFn "__init__" qual (defArgs st) (defBody st) (defScope st) .none kV doc pm an (.ref cda) ct cc) ps [] := .all h
section
variable {P : Program} {w : World} {K : PySem.W.Frag} {mg : Str → Option Value} {base : Heap}
theorem SupX.ok [SupP P] {CX : CXT} {k : Nat} {C f : Addr} {fd : FuncData} {x qual : Str} {st : Stmt} {rest : List Stmt} {N ps : List Str} {sp : Sp} {e : Expr} {p0 p1 p2 p3 p4 : Pos} {ar : Arg}
    (F : SupX K mg x qual st C f fd) (hB : defBody st = .Expr (.Call (.Attribute (.Call (.Name "super" p0) [] [] p1) "__init__" p2) [e] [] p3) p4 :: rest)
    (har : ((defArgs st).posonlyargs ++ (defArgs st).args).head? = some ar) (hps : ps[0]? = some ar.arg)
    (S : SupS N ps (defScope st)) (hsu : (defScope st).names.lookup ("super" : Str) = some .globalImplicit) (hcl : (defScope st).names.lookup ("__class__" : Str) = some .free) (hco : (defScope st).isCoroutine = false) (hgen : (defScope st).isGenerator = false)
    (hea : ∀ env, starEach [e] env = (false, eval e env) :: starEach [] env)
    (hev : ∀ env : Env, env.scope = defScope st → ∃ pl, eval (.Call (.Attribute (.Call (.Name "super" p0) [] [] p1) "__init__" p2) [e] [] p3) env = (do
      let ov ← attributeBase (.Call (.Name "super" p0) [] [] p1) "__init__" env (eval (.Call (.Name "super" p0) [] [] p1) env)
      standAt p2.atName
      let (fu, first) ← holding [ov] (getMethod ov "__init__" pl)
      callWith p3 fu first (backTo p3 (starEach [e] env)) []))
    (hsw : ∀ env, swapsWith (.Call (.Attribute (.Call (.Name "super" p0) [] [] p1) "__init__" p2) [e] [] p3) none p4.line env = pure false)
    (len : ∀ vs H Q E, sp vs H Q E → vs.length = ps.length)
    (hbody : ∀ (cda cc : Addr) (A : Around) (outer : List Env) (s : Shared) (H : Hp) (vs : List V) (Q : VK) (E : XK), Room k (A.deeper (PySem.W.ksEnv qual (defScope st) s.heap.objs.size f (.ref cda) cc)) → sp vs H Q E →
      ∃ x ta ts, vs[0]? = some (.ref x) ∧ H x = some (exo x C none) ∧ PA (cxS CX P w K mg base N qual (defScope st) f cda cc A outer s H E) [e] ta ∧ PSs (cxS CX P w K mg base N qual (defScope st) f cda cc A outer s H E) rest ts ∧
        ta (L2.start N vs) H fun ws H1 => ws.length ≤ 1000 ∧ H1 x = some (exo x C none) ∧ ts { nx := fun _ H' => Q .non H', rt := Q } (L2.start N vs) H1) :
    FnOk P w K mg base CX (k + 1) f fd ps sp := by
  obtain ⟨oc, kV, doc, pm, ct, ccl, cl, od, an, cdd, cld, osl, ccs, csl, cda, cc, vc, tf, cdD, rfl, lk, hcd, hcode, hvc, hcell, hD⟩ := F.ex
  rw [hB] at lk ⊢
  exact fn_super lk hcd hcode hvc SupP.fil hcell hD F.sta har hps SupP.top F.sup S hsu hcl hco hgen hea (fun A outer s H E => hev _ rfl) hsw len fun A outer s H vs Q E hr hsp => by
    obtain ⟨y, ta, ts, q1, q2, q3⟩ := hbody cda cc A outer s H vs Q E hr hsp
    exact ⟨y, C, ta, ts, q1, F.cls, q2, q3⟩
end
/-- an error that is made where nothing is handled: its context is None -/
theorem pmk_oexN {X : Cx} {e : Expr} {es : List Expr} {ta : TA} {p pos : Pos} {CX : CXT} {x : Str} {C fI : Addr} {k : Nat} {fd : FuncData} {ps : List Str} {sp : Sp} {ds : List Value} {dvs : List V} (T : OexC X.K C) (iC : PySem.W.findIn X.K (.ref C) "__init__" = some (some (.ref fI))) (tI : PySem.W.typeIn X.K (.ref fI) = some (.type "function"))
    (F1 : FnOk X.prog X.w X.K X.mg X.base CX k fI fd ps sp) (hr : Room (k + 1) X.A) (hb : Binds X.K fd ps ds) (hd : Vals dvs ds) (hx : Passes CX X (fun _ _ _ => False)) (hg : Gl X x) (hm : X.mg x = some (.ref C)) (ha : PA X (e :: es) ta)
    (hdb : (x == ("__debug__" : Str)) = false := by decide) (he : starEach (e :: es) X.env = (false, eval e X.env) :: starEach es X.env := by rfl) (hpl : (backTo pos (starEach es X.env)).any (·.1) = false := by rfl) :
    L2N.PMk X (.Call (.Name x p) (e :: es) [] pos) (tMkO C sp dvs ta) := fun pn st σ Hh R In hh => by
  obtain ⟨n1, n2, cN, cb, bm, cs, cu, ca, co, cdd, j0, j1, j2, j3, j5, hcl, hve⟩ := T.cls
  refine wpAny_Call_Name_kw (ld_glob In hg hm (PySem.W.callWith_K (h₀ := X.base) In.ok.mod.kin T.kC (thn (ha.run pos pn st σ Hh _ In hh) fun uu t1 ⟨ww, G1, J1, rr, hlen, hsp⟩ => ⟨J1.kIn, ?_⟩) he hpl) hdb)
  show wpAny _ _ (call (Value.ref C) uu) _ _ _
  obtain ⟨h0, gg, dw, tn, oo⟩ := t1
  obtain ⟨n, hn0⟩ : ∃ n, n = h0.objs.size := ⟨_, rfl⟩
  have le1 : h0.objs.size ≤ n + 1 := by omega
  have none1 : G1 (n + 1) = none := J1.hok.fresh le1
  have hsp1 := hsp (n + 1) none1
  obtain ⟨h2, hh2⟩ : ∃ h2, h2 = (h0.push (PySem.W.kdv_tup uu)).push (PySem.HandSPX.excO C n) := ⟨_, rfl⟩
  have keep2 : ∀ b o, h0.get? b = some o → h2.get? b = some o := fun b o q => by
    rw [hh2]
    exact Heap.get?_push_of_some _ (Heap.get?_push_of_some _ q)
  have got2 : h2.get? (n + 1) = some (PySem.HandSPX.excO C n) := by
    rw [hh2, hn0]
    heap_get
  have J2 : Inv X pn σ (upd G1 (n + 1) (exo (n + 1) C none)) ⟨h2, gg, dw, tn, oo⟩ := J1.laid (t' := tn) (a := n + 1) (o := exo (n + 1) C none) (h' := h2) keep2 le1 (exo_ok got2)
  have vals2 : Vals (V.ref (n + 1) :: (ww ++ dvs)) (Value.ref (n + 1) :: (uu ++ ds)) := .cons rfl (rr.append hd)
  have len2 : (Value.ref (n + 1) :: uu ++ ds).length = ps.length := (vals2.length.symm.trans (F1.len _ _ _ _ hsp1) : _)
  have lenU : uu.length ≤ sizeLine := by
    rw [← Paired.length rr, sizeLine_eq]
    omega
  rw [hn0] at vals2 len2 J2 hsp1
  rw [hn0] at hh2
  rw [hh2] at J2 keep2
  refine wpAny_call (PySem.HandSPX.call_own F.excBase_ValueError (fun Y => PySem.HandSPX.refsVE_contains Y bm hve) (J1.kIn _ _ hcl) (PySem.W.looks_findIn J1.kIn iC) (fun me => PySem.W.bind_fn J1.kIn me tI) lenU
    (codeAny_mono (F1.run _ X.stack _ _ ⟨Value.ref (h0.objs.size + 1) :: uu, []⟩ (Value.ref (h0.objs.size + 1) :: (uu ++ ds)) _ _ (fun _ _ _ => False) (hr.make C uu []) (J2.env0.make C uu []) (hb _ (Value.ref (h0.objs.size + 1) :: uu) J2.kIn len2) vals2 hsp1) fun res t2 hres => ?_))
  cases res with
  | error er => exact hx pn σ _ _ er t2 J2 hres
  | ok fl =>
    cases fl with
    | ret u =>
      obtain ⟨v, H2, os2, bare2, un2, hok2, rv, ev, d, fs, ea, ed, hd1, qq⟩ := hres
      subst ev
      obtain ⟨h3, g3, d3, t3, o3⟩ := t2
      obtain ⟨t0, G, J3, kG, ge, hoe, na⟩ := mk_end0 (d2 := d3) (t2 := t3) J1 (Nat.le_succ _) keep2 un2 hok2 os2 bare2 ea ed hd1
      refine ⟨rv, h0.objs.size + 1, _, _, ⟨G, g3, d3, t3, o3⟩, _, .ref C, some d, rfl, J3, kG, ge, hoe, ⟨rfl, rfl, fun vs q => ?_⟩, rfl, rfl, na, rfl, bare2, raises_own T.exC T.tyC, qq⟩
      cases q
      rfl
    | next => exact False.elim hres
    | brk => exact False.elim hres
    | cont => exact False.elim hres
theorem takes0N {X : Cx} : L2N.Takes X (fun _ _ _ _ => False) := fun _ _ q => by
  obtain ⟨_, _, _, _, _, _, _, _, _, _, _, _, _, _, _, _, _, _, z⟩ := q
theorem hot_suite {X : Cx} {a : Addr} {oe : Obj} {cls : Value} {d : Option Addr} {pn : List (Addr × Obj)} (hz : L2N.Zn cls d oe) (hf : ∃ vs, oe.data = .fields vs) : L2H.HotC (X.suite a ((a, oe) :: pn)) := by
  obtain ⟨vs, h⟩ := hf
  exact ⟨(a, oe), ⟨rfl, vs, h, hz.2.2 vs h⟩, List.mem_cons_self⟩
theorem passH0 {X : Cx} {σ : L2.St} {E : XK} : PassesAt CX0 X σ E := fun _ _ _ _ _ _ h => h.elim
end Dw

namespace Dw
open PySem PySem.Spec PyProof.Rows L2
/-! ### the CRC, on natural numbers -/
/-- one bit -/
def stepB (n b : Nat) : Nat := (2 * n % 65536) ^^^ (if n / 32768 % 2 = b then 0 else 4129)
/-- one byte, bit by bit from the highest on -/
def byteB (n v : Nat) : Nat := (List.range 8).foldl (fun m k => stepB m (v / 2 ^ (7 - k) % 2)) n
/-- one byte, at once -/
def byteP (n v : Nat) : Nat :=
  let t := (n / 256) ^^^ v
  let u := t ^^^ (t / 16)
  ((((n * 256) ^^^ (u * 4096)) ^^^ (u * 32)) ^^^ u) % 65536
def crcN (vs : List Nat) : Nat := vs.foldl byteP 65535
theorem xor_lt {a b k : Nat} (h1 : a < 2 ^ k) (h2 : b < 2 ^ k) : a ^^^ b < 2 ^ k := Nat.xor_lt_two_pow h1 h2
theorem stepB_lt (n b : Nat) : stepB n b < 65536 := by
  unfold stepB
  refine xor_lt (k := 16) ?_ ?_
  · exact Nat.mod_lt _ (by decide)
  · split <;> decide
theorem byteP_lt (n v : Nat) : byteP n v < 65536 := Nat.mod_lt _ (by decide)
theorem mul2 (a b : Nat) : 2 * (a ^^^ b) = (2 * a) ^^^ (2 * b) := by
  have h := @Nat.shiftLeft_xor_distrib 1 a b
  simp only [Nat.shiftLeft_eq, Nat.pow_one] at h
  rw [Nat.mul_comm 2, Nat.mul_comm 2, Nat.mul_comm 2]
  exact h
theorem mulp (k a b : Nat) : (a ^^^ b) * 2 ^ k = (a * 2 ^ k) ^^^ (b * 2 ^ k) := by
  have h := @Nat.shiftLeft_xor_distrib k a b
  simp only [Nat.shiftLeft_eq] at h
  exact h
theorem divp (k a b : Nat) : (a ^^^ b) / 2 ^ k = (a / 2 ^ k) ^^^ (b / 2 ^ k) := by
  have h := @Nat.shiftRight_xor_distrib k a b
  simp only [Nat.shiftRight_eq_div_pow] at h
  exact h
theorem modp (k a b : Nat) : (a ^^^ b) % 2 ^ k = (a % 2 ^ k) ^^^ (b % 2 ^ k) := Nat.xor_mod_two_pow
theorem xor4 (a b c d : Nat) : (a ^^^ b) ^^^ (c ^^^ d) = (a ^^^ c) ^^^ (b ^^^ d) := by
  rw [Nat.xor_assoc, ← Nat.xor_assoc b c d, Nat.xor_comm b c, Nat.xor_assoc c b d, ← Nat.xor_assoc]
theorem bit_cases (n : Nat) : n % 2 = 0 ∨ n % 2 = 1 := by omega
theorem stepB_xor (n m b c : Nat) (hb : b < 2) (hc : c < 2) : stepB (n ^^^ m) (b ^^^ c) = stepB n b ^^^ stepB m c := by
  unfold stepB
  have e1 : 2 * (n ^^^ m) % 65536 = (2 * n % 65536) ^^^ (2 * m % 65536) := by rw [mul2]; exact modp 16 _ _
  have e2 : (n ^^^ m) / 32768 % 2 = (n / 32768 % 2) ^^^ (m / 32768 % 2) := by
    have q := divp 15 n m
    have q2 := modp 1 (n / 32768) (m / 32768)
    simp only [Nat.pow_one] at q2
    have : (n ^^^ m) / 32768 = (n / 32768) ^^^ (m / 32768) := q
    rw [this, q2]
  rw [e1, e2, xor4]
  congr 1
  have k1 : b = 0 ∨ b = 1 := by omega
  have k2 : c = 0 ∨ c = 1 := by omega
  rcases bit_cases (n / 32768) with h1 | h1 <;> rcases bit_cases (m / 32768) with h2 | h2 <;> rcases k1 with rfl | rfl <;> rcases k2 with rfl | rfl <;> rw [h1, h2] <;> decide
theorem bit_xor (v u k : Nat) : (v ^^^ u) / 2 ^ k % 2 = (v / 2 ^ k % 2) ^^^ (u / 2 ^ k % 2) := by
  rw [divp]
  have q2 := modp 1 (v / 2 ^ k) (u / 2 ^ k)
  simp only [Nat.pow_one] at q2
  exact q2
theorem fold_xor (v u : Nat) : ∀ (l : List Nat) (n m : Nat), l.foldl (fun m k => stepB m ((v ^^^ u) / 2 ^ (7 - k) % 2)) (n ^^^ m) = l.foldl (fun m k => stepB m (v / 2 ^ (7 - k) % 2)) n ^^^ l.foldl (fun m k => stepB m (u / 2 ^ (7 - k) % 2)) m
  | [], _, _ => rfl
  | k :: r, n, m => by
    rw [List.foldl_cons, List.foldl_cons, List.foldl_cons, bit_xor, stepB_xor _ _ _ _ (Nat.mod_lt _ (by decide)) (Nat.mod_lt _ (by decide))]
    exact fold_xor v u r _ _
theorem byteB_xor (n m v u : Nat) : byteB (n ^^^ m) (v ^^^ u) = byteB n v ^^^ byteB m u := fold_xor v u _ n m
theorem byteP_xor (n m v u : Nat) : byteP (n ^^^ m) (v ^^^ u) = byteP n v ^^^ byteP m u := by
  have d8 := divp 8 n m
  have e0 : (n ^^^ m) / 256 ^^^ (v ^^^ u) = (n / 256 ^^^ v) ^^^ (m / 256 ^^^ u) := by
    have : (n ^^^ m) / 256 = (n / 256) ^^^ (m / 256) := d8
    rw [this, xor4]
  unfold byteP
  simp only
  rw [e0]
  generalize n / 256 ^^^ v = t
  generalize m / 256 ^^^ u = s
  have d4 : (t ^^^ s) / 16 = (t / 16) ^^^ (s / 16) := divp 4 t s
  rw [d4, xor4 t s]
  generalize t ^^^ t / 16 = a
  generalize s ^^^ s / 16 = b
  have m8 : (n ^^^ m) * 256 = (n * 256) ^^^ (m * 256) := mulp 8 n m
  have m12 : (a ^^^ b) * 4096 = (a * 4096) ^^^ (b * 4096) := mulp 12 a b
  have m5 : (a ^^^ b) * 32 = (a * 32) ^^^ (b * 32) := mulp 5 a b
  have md : ∀ x y : Nat, (x ^^^ y) % 65536 = (x % 65536) ^^^ (y % 65536) := modp 16
  rw [m8, m12, m5, ← md, xor4 (n * 256), xor4 (n * 256 ^^^ a * 4096), xor4 ((n * 256 ^^^ a * 4096) ^^^ a * 32)]
theorem tab_hi : ((List.range 256).all fun h => byteB (h * 256) 0 == byteP (h * 256) 0) = true := by decide +kernel
theorem tab_lo : ((List.range 256).all fun h => byteB h 0 == byteP h 0) = true := by decide +kernel
theorem tab_v : ((List.range 256).all fun h => byteB 0 h == byteP 0 h) = true := by decide +kernel
theorem of_tab {f g : Nat → Nat} {n k : Nat} (h : ((List.range n).all fun h => f h == g h) = true) (hk : k < n) : f k = g k := by
  rw [List.all_eq_true] at h
  have := h k (List.mem_range.mpr hk)
  exact eq_of_beq this
theorem hi_lo {n : Nat} : n = (n / 256 * 256) ^^^ (n % 256) := by
  apply Nat.eq_of_testBit_eq
  intro i
  have e1 : n / 256 * 256 = (n >>> 8) <<< 8 := by rw [Nat.shiftLeft_eq, Nat.shiftRight_eq_div_pow]
  have e2 : n % 256 = n % 2 ^ 8 := rfl
  rw [Nat.testBit_xor, e1, e2, Nat.testBit_mod_two_pow, Nat.testBit_shiftLeft, Nat.testBit_shiftRight]
  by_cases h : i < 8
  · have : ¬ i ≥ 8 := by omega
    simp [h, this]
  · have : i ≥ 8 := by omega
    have e : 8 + (i - 8) = i := by omega
    simp [h, this, e]
theorem byte_eq {n v : Nat} (hn : n < 65536) (hv : v < 256) : byteB n v = byteP n v := by
  have e := @hi_lo n
  have z : v = 0 ^^^ v := by rw [Nat.zero_xor]
  have z0 : n = n ^^^ 0 := by rw [Nat.xor_zero]
  have a1 : byteB n v = byteB n 0 ^^^ byteB 0 v := by
    have := byteB_xor n 0 0 v
    rw [Nat.xor_zero, Nat.zero_xor] at this
    exact this
  have a2 : byteP n v = byteP n 0 ^^^ byteP 0 v := by
    have := byteP_xor n 0 0 v
    rw [Nat.xor_zero, Nat.zero_xor] at this
    exact this
  have b1 : byteB n 0 = byteB (n / 256 * 256) 0 ^^^ byteB (n % 256) 0 := by
    have := byteB_xor (n / 256 * 256) (n % 256) 0 0
    rw [← e] at this
    exact this
  have b2 : byteP n 0 = byteP (n / 256 * 256) 0 ^^^ byteP (n % 256) 0 := by
    have := byteP_xor (n / 256 * 256) (n % 256) 0 0
    rw [← e] at this
    exact this
  rw [a1, a2, b1, b2, of_tab (f := fun h => byteB (h * 256) 0) (g := fun h => byteP (h * 256) 0) tab_hi (show n / 256 < 256 by omega), of_tab (f := fun h => byteB h 0) (g := fun h => byteP h 0) tab_lo (show n % 256 < 256 by omega), of_tab (f := fun h => byteB 0 h) (g := fun h => byteP 0 h) tab_v hv]
/-! ### whole numbers as natural ones -/
theorem xorN (a b : Nat) : Builtin.bitXor (a : Int) (b : Int) = ((a ^^^ b : Nat) : Int) := by
  rw [Bits.bitXor_pp (Int.natCast_nonneg a) (Int.natCast_nonneg b), Int.toNat_natCast, Int.toNat_natCast]
theorem orN (a b : Nat) : Builtin.bitOr (a : Int) (b : Int) = ((a ||| b : Nat) : Int) := by
  rw [Bits.bitOr_pp (Int.natCast_nonneg a) (Int.natCast_nonneg b), Int.toNat_natCast, Int.toNat_natCast]
theorem andN (a b : Nat) : Builtin.bitAnd (a : Int) (b : Int) = ((a &&& b : Nat) : Int) := by
  rw [bitAnd_pp (Int.natCast_nonneg a) (Int.natCast_nonneg b), Int.toNat_natCast, Int.toNat_natCast]
theorem and65535 (a : Nat) : Builtin.bitAnd (a : Int) 65535 = ((a % 65536 : Nat) : Int) := by
  have h := Bits.bitAnd_mask 16 (Int.natCast_nonneg a)
  have e : (2 : Int) ^ 16 - 1 = 65535 := by decide
  rw [e] at h
  rw [h]
  have e2 : (2 : Int) ^ 16 = 65536 := by decide
  rw [e2]
  omega
theorem and1 (a : Nat) : Builtin.bitAnd (a : Int) 1 = ((a % 2 : Nat) : Int) := by
  have h := Bits.bitAnd_mask 1 (Int.natCast_nonneg a)
  have e : (2 : Int) ^ 1 - 1 = 1 := by decide
  rw [e] at h
  rw [h]
  have e2 : (2 : Int) ^ 1 = 2 := by decide
  rw [e2]
  omega
theorem and255 (a : Nat) : Builtin.bitAnd (a : Int) 255 = ((a % 256 : Nat) : Int) := by
  have h := Bits.bitAnd_mask 8 (Int.natCast_nonneg a)
  have e : (2 : Int) ^ 8 - 1 = 255 := by decide
  rw [e] at h
  rw [h]
  have e2 : (2 : Int) ^ 8 = 256 := by decide
  rw [e2]
  omega
/-- (a | b) - (a & b) -/
theorem or_sub_and (a b : Nat) : Builtin.bitOr (a : Int) (b : Int) - Builtin.bitAnd (a : Int) (b : Int) = ((a ^^^ b : Nat) : Int) := by
  rw [orN, andN]
  have h1 := Bits.nat_xor_add_and a b
  have h2 := nat_or_add_and a b
  omega
/-- a list of bytes -/
def Bytes (ns : List Int) : Prop := ∀ n ∈ ns, 0 ≤ n ∧ n < 256
def crcZ (ns : List Int) : Int := (crcN (ns.map Int.toNat) : Nat)
theorem crcN_lt : ∀ vs : List Nat, crcN vs < 65536 := by
  intro vs
  unfold crcN
  have : ∀ (l : List Nat) (n : Nat), n < 65536 → l.foldl byteP n < 65536 := by
    intro l
    induction l with
    | nil => intro n h; exact h
    | cons a r ih => intro n _; exact ih _ (byteP_lt _ _)
  exact this vs 65535 (by decide)
theorem crcZ_nn (ns : List Int) : 0 ≤ crcZ ns ∧ crcZ ns < 65536 := by
  have := crcN_lt (ns.map Int.toNat)
  unfold crcZ
  omega
theorem take_more {α : Type} : ∀ {l : List α} {i : Nat} {x : α}, l[i]? = some x → l.take (i + 1) = l.take i ++ [x]
  | [], i, x, h => by simp at h
  | a :: l, 0, x, h => by
    have e : a = x := Option.some.inj h
    subst e
    rfl
  | a :: l, i + 1, x, h => by
    have ih := take_more (l := l) (i := i) (x := x) h
    show a :: l.take (i + 1) = a :: l.take i ++ [x]
    rw [ih]
    rfl
theorem crcN_more {ns : List Int} {i : Nat} {v : Nat} (h : ns[i]? = some (v : Int)) : crcN ((ns.take (i + 1)).map Int.toNat) = byteP (crcN ((ns.take i).map Int.toNat)) v := by
  unfold crcN
  rw [take_more h, List.map_append, List.foldl_append]
  simp
theorem ints_at {ns : List Int} {i : Nat} {v : V} (h : (ns.map V.int)[i]? = some v) : ∃ z : Int, v = V.int z ∧ ns[i]? = some z := by
  rw [List.getElem?_map] at h
  cases e : ns[i]? with
  | none => rw [e] at h; cases h
  | some z => rw [e] at h; exact ⟨z, (Option.some.inj h).symm, rfl⟩
theorem bytes_at {ns : List Int} {i : Nat} {z : Int} (hb : Bytes ns) (h : ns[i]? = some z) : ∃ v : Nat, z = (v : Int) ∧ v < 256 := by
  have := hb z (List.mem_of_getElem? h)
  exact ⟨z.toNat, by omega, by omega⟩
def spCrc : Sp := fun vs H Q _ => ∃ (a : Addr) (ns : List Int), vs = [.ref a] ∧ H a = some (IL ns) ∧ Bytes ns ∧ Q (.int (crcZ ns)) H
end Dw
namespace Dw
open PySem PySem.Spec PyProof.Rows L2
theorem zdiv (a k : Nat) : (a : Int) / 2 ^ k = ((a / 2 ^ k : Nat) : Int) := by
  rw [two_pow_cast]
  exact (Int.natCast_ediv _ _).symm
theorem zmul (a k : Nat) : (a : Int) * 2 ^ k = ((a * 2 ^ k : Nat) : Int) := by
  rw [two_pow_cast]
  exact (Int.natCast_mul _ _).symm
def takenN (n v : Nat) : Nat := ((n / 256) ^^^ v) ^^^ (((n / 256) ^^^ v) / 16)
theorem takenZ (n v : Nat) : Builtin.bitXor (Builtin.bitXor ((n : Int) / 256) (v : Int)) (Builtin.bitXor ((n : Int) / 256) (v : Int) / 16) = ((takenN n v : Nat) : Int) := by
  have e1 : (n : Int) / 256 = ((n / 256 : Nat) : Int) := zdiv n 8
  rw [e1, xorN]
  have e2 : ((n / 256 ^^^ v : Nat) : Int) / 16 = (((n / 256 ^^^ v) / 16 : Nat) : Int) := zdiv _ 4
  rw [e2, xorN]
  rfl
theorem takenN_lt {n v : Nat} (hn : n < 65536) (hv : v < 256) : takenN n v < 256 := by
  unfold takenN
  have h1 : n / 256 ^^^ v < 2 ^ 8 := xor_lt (by omega) hv
  exact xor_lt (k := 8) h1 (by omega)
/-- the program's step on whole numbers -/
theorem stepZ (n v : Nat) : Builtin.bitAnd (Builtin.bitXor (Builtin.bitXor (Builtin.bitXor ((n : Int) * 256) ((takenN n v : Int) * 4096)) ((takenN n v : Int) * 32)) (takenN n v : Int)) 65535 = ((byteP n v : Nat) : Int) := by
  have e1 : (n : Int) * 256 = ((n * 256 : Nat) : Int) := zmul n 8
  have e2 : (takenN n v : Int) * 4096 = ((takenN n v * 4096 : Nat) : Int) := zmul _ 12
  have e3 : (takenN n v : Int) * 32 = ((takenN n v * 32 : Nat) : Int) := zmul _ 5
  rw [e1, e2, e3, xorN, xorN, xorN, and65535]
  rfl
end Dw
namespace Dw
open PySem PySem.Spec PyProof.Rows L2
theorem SameB.none {p q r : Addr} {H H' : Hp} (s : SameB p H H') (hP : Pool H' p q) (h : H' r = none) : H r = none := by
  cases e : H r with
  | none => rfl
  | some o =>
    by_cases q : r = p
    · subst q
      obtain ⟨u, hu⟩ := hP.there
      rw [hu] at h; cases h
    · rw [s r o q e] at h; cases h
theorem Pool.upd {H : Hp} {p q r : Addr} {o : HO} (h : Pool H p q) (n : H r = none) : Pool (upd H r o) p q := h.same (same_new n o)
theorem Pool.ups {H : Hp} {p q r : Addr} {o : HO} (h : Pool H p q) (n : p ≠ r) (n2 : q ≠ r) : Pool (L2.upd H r o) p q := by
  obtain ⟨ns, a, b, c, d, h1, h2, h3⟩ := h
  exact ⟨ns, a, b, c, d, by rw [upd_ne n]; exact h1, by rw [upd_ne n2]; exact h2, h3⟩
/-- [e for k in range(..)] of numbers that are drawn -/
theorem lc_pool {p q : Addr} {R : Int → Prop} {lo : Int} {n j : Nat} {te : TE} {vs : List Nat} {σ : L2.St} {H1 : Hp} {D : Addr} {Qd : Hp → Prop} (hn : n ≤ 16777215) (hP : Pool H1 p q) (hD : H1 D = none) (hw : ∀ v, wipe ((wipe σ vs).set j v) vs = wipe σ vs)
    (hte : ∀ i H3 (Q' : VK), i < n → Pool H3 p q → SameB p H1 H3 → (∀ v H4, R v → Pool H4 p q → SameB p H3 H4 → Q' (.int v) H4) → te ((wipe σ vs).set j (some (.int (lo + (i : Nat))))) H3 Q')
    (hd : ∀ ns H', ns.length = n → (∀ v ∈ ns, R v) → Pool H' p q → SameB p H1 H' → H' D = some (IL ns) → Qd H') :
    ∃ W : Nat → Nat → Hp → Prop, (∃ m, W 0 m (L2.upd H1 D (.lst []))) ∧ ∀ i m H, W i m H →
      ((Itr lo n).stop i H ∧ Qd H) ∨ ((Itr lo n).go i H ∧ ∃ Nx : Hp → Prop, (∀ H', Nx H' → ∃ m', m' < m ∧ W (i + 1) m' H') ∧ ∀ x H', (Itr lo n).yld i H x H' → gName j x (wipe σ vs) H' fun σ2 H2 => wipe σ2 vs = wipe σ vs ∧ tYes σ2 H2 fun b H3 =>
        if b = true then te σ2 H3 fun y H4 => ∃ acc, H4 D = some (.lst acc) ∧ acc.length < sizeLine ∧ Nx (L2.upd H4 D (.lst (acc ++ [y]))) else Nx H3) := by
  have hDp : p ≠ D := hP.ne hD
  have hDq : q ≠ D := hP.ne2 hD
  refine lc_range (lo := lo) (n := n) (fun i H' => Pool H' p q ∧ SameB p H1 H' ∧ ∃ ns : List Int, H' D = some (IL ns) ∧ ns.length = i ∧ ∀ v ∈ ns, R v) ⟨hP.upd hD, Same.b (same_new hD _), [], upd_same, rfl, fun v h => by cases h⟩ ?_ ?_
  · intro i H hi h
    obtain ⟨h1, h2, ns, h3, h4, h5⟩ := h
    refine ⟨hw _, ?_⟩
    simp only [tYes, if_true]
    refine hte i H _ hi h1 h2 fun v H4 hR hP4 hs => ?_
    have e : H4 D = some (IL ns) := hs D _ hDp.symm h3
    have ez : ns.map V.int ++ [V.int v] = (ns ++ [v]).map V.int := by rw [List.map_append]; rfl
    refine ⟨ns.map V.int, e, by rw [List.length_map, h4]; exact line_lt (by omega), hP4.ups hDp hDq, ?_, ns ++ [v], ?_, by rw [List.length_append, h4]; rfl, ?_⟩
    · intro b o nb hb
      rw [upd_ne (ne_of_none hb hD)]
      exact hs b o nb (h2 b o nb hb)
    · rw [upd_same, ez]
      rfl
    · intro x hx
      rcases List.mem_append.mp hx with hx | hx
      · exact h5 x hx
      · rw [List.mem_singleton.mp hx]; exact hR
  · intro H h
    obtain ⟨h1, h2, ns, h3, h4, h5⟩ := h
    exact hd ns H h4 h5 h1 h2 h3
/-- drawn bytes: a new list -/
def spSomeBytes : Sp := fun vs H Q _ => ∃ (p q : Addr) (m : Int), vs = [.ref p, .int m] ∧ Pool H p q ∧ 0 ≤ m ∧ m < 100000 ∧ ∀ r ns H', Pool H' p q → SameB p H H' → H r = none → H' r = some (IL ns) → Bytes ns → (ns.length : Int) ≤ m → Q (.ref r) H'
def spOr : Sp := fun vs H Q _ => ∃ a b : Nat, vs = [.int a, .int b] ∧ Q (.int ((a ^^^ b : Nat) : Int)) H
end Dw
namespace Dw
open PySem PySem.Spec PyProof.Rows L2
/-- the first k bits of a byte -/
def byteK (n v k : Nat) : Nat := (List.range k).foldl (fun m k => stepB m (v / 2 ^ (7 - k) % 2)) n
theorem byteK_succ (n v k : Nat) : byteK n v (k + 1) = stepB (byteK n v k) (v / 2 ^ (7 - k) % 2) := by
  unfold byteK
  rw [List.range_succ, List.foldl_append]
  rfl
theorem byteK_lt {n v : Nat} (hn : n < 65536) : ∀ k, byteK n v k < 65536
  | 0 => hn
  | k + 1 => by rw [byteK_succ]; exact stepB_lt _ _
theorem stepB_ne {n b : Nat} (h : n / 32768 % 2 ≠ b) : (2 * n % 65536) ^^^ 4129 = stepB n b := by
  unfold stepB
  rw [if_neg h]
theorem stepB_eq {n b : Nat} (h : n / 32768 % 2 = b) : 2 * n % 65536 = stepB n b := by
  unfold stepB
  rw [if_pos h, Nat.xor_zero]
end Dw
namespace Dw
open PySem PySem.Spec PyProof.Rows L2
theorem dep_int (i : Int) : (PyData.int i).depth < 8 := by simp only [PyData.depth]; decide
theorem sh_int (i : Int) : SeqAt.shaped (PyData.int i) = true := by
  unfold SeqAt.shaped
  simp only [PyData.depth, PyData.canLay0]
  rfl
theorem same_int {i : Int} {H : Hp} {Q : VK} {E : XK} (q : Q (.bl true) H) : spSame 8 [.int i, .int i] H Q E := ⟨_, _, .int i, rfl, .int i, .int i, dep_int i, sh_int i, q⟩
theorem dep_ints (ns : List Int) : (PyData.list (ns.map PyData.int)).depth < 8 := by
  have := depthAll_ints ns
  simp only [PyData.depth]
  omega
theorem same_IL {ns : List Int} {r u : Addr} {H : Hp} {Q : VK} {E : XK} (h1 : H r = some (IL ns)) (h2 : H u = some (IL ns)) (q : Q (.bl true) H) : spSame 8 [.ref r, .ref u] H Q E :=
  ⟨_, _, _, rfl, dt_IL h1, dt_IL h2, dep_ints ns, shaped_ints ns, q⟩
end Dw
namespace Dw
open PySem PySem.Spec PyProof.Rows L2
/-! ### bits -/
/-- the eight bits of a byte, the highest first -/
def bits8 (v : Nat) : List Int := [((v / 128 % 2 : Nat) : Int), ((v / 64 % 2 : Nat) : Int), ((v / 32 % 2 : Nat) : Int), ((v / 16 % 2 : Nat) : Int), ((v / 8 % 2 : Nat) : Int), ((v / 4 % 2 : Nat) : Int), ((v / 2 % 2 : Nat) : Int), ((v % 2 : Nat) : Int)]
def spByteBits : Sp := fun vs H Q _ => ∃ v : Nat, vs = [.int (v : Int)] ∧ v < 256 ∧ ∀ r H', Same H H' → H r = none → H' r = some (IL (bits8 v)) → Q (.ref r) H'
end Dw


namespace Dw
open PySem PySem.Spec PyProof.Rows L2
theorem Same.seqT {K : PySem.W.Frag} {H H' : Hp} {a : Addr} {xs : List V} (e : Same H H') (h : SqT K H a xs) : SqT K H' a xs := by
  rcases h with (h | ⟨o, h⟩) | h
  · exact .inl (.inl (e _ _ h))
  · exact .inl (.inr ⟨o, e _ _ h⟩)
  · exact .inr h
/-! ### comprehensions whose items are ints that hang on the place alone (with a test: F) -/
theorem lc_rangeI {lo : Int} {n : Nat} {f : Nat → Int} {j : Nat} {te : TE} {vs : List Nat} {σ : L2.St} {H1 : Hp} {D : Addr} {Qd : Hp → Prop} (hn : n ≤ 16777215) (hD : H1 D = none) (hw : ∀ v, wipe ((wipe σ vs).set j v) vs = wipe σ vs)
    (hte : ∀ i H3 (Q' : VK), i < n → Same H1 H3 → (∀ H4, Same H3 H4 → Q' (.int (f i)) H4) → te ((wipe σ vs).set j (some (.int (lo + (i : Nat))))) H3 Q')
    (hd : ∀ H', Same H1 H' → H' D = some (IL ((List.range n).map f)) → Qd H') :
    ∃ W : Nat → Nat → Hp → Prop, (∃ m, W 0 m (L2.upd H1 D (.lst []))) ∧ ∀ i m H, W i m H →
      ((Itr lo n).stop i H ∧ Qd H) ∨ ((Itr lo n).go i H ∧ ∃ Nx : Hp → Prop, (∀ H', Nx H' → ∃ m', m' < m ∧ W (i + 1) m' H') ∧ ∀ x H', (Itr lo n).yld i H x H' → gName j x (wipe σ vs) H' fun σ2 H2 => wipe σ2 vs = wipe σ vs ∧ tYes σ2 H2 fun b H3 =>
        if b = true then te σ2 H3 fun y H4 => ∃ acc, H4 D = some (.lst acc) ∧ acc.length < sizeLine ∧ Nx (L2.upd H4 D (.lst (acc ++ [y]))) else Nx H3) := by
  refine lc_range (lo := lo) (n := n) (fun i H' => Same H1 H' ∧ H' D = some (IL ((List.range i).map f))) ⟨same_new hD _, upd_same⟩ ?_ ?_
  · intro i H hi h
    obtain ⟨h1, h2⟩ := h
    refine ⟨hw _, ?_⟩
    simp only [tYes, if_true]
    refine hte i H _ hi h1 fun H4 hs => ?_
    have hlt : i < n := hi
    have e : H4 D = some (IL ((List.range i).map f)) := hs D _ h2
    have ez : ((List.range i).map f).map V.int ++ [V.int (f i)] = ((List.range (i + 1)).map f).map V.int := by rw [List.range_succ, List.map_append, List.map_append]; rfl
    refine ⟨_, e, by rw [List.length_map, List.length_map, List.length_range]; exact line_lt (by omega), fun b o hb => ?_, ?_⟩
    · rw [upd_ne (ne_of_none hb hD)]
      exact hs _ _ (h1 b o hb)
    · rw [upd_same, ez]
      rfl
  · intro H h
    exact hd H h.1 h.2
theorem lc_rangeF {lo : Int} {n : Nat} {f : Nat → Int} {kp : Nat → Bool} {tt : TT} {j : Nat} {te : TE} {vs : List Nat} {σ : L2.St} {H1 : Hp} {D : Addr} {Qd : Hp → Prop} (hn : n ≤ 16777215) (hD : H1 D = none) (hw : ∀ v, wipe ((wipe σ vs).set j v) vs = wipe σ vs)
    (htt : ∀ i H3 (Q' : Bool → Hp → Prop), i < n → Same H1 H3 → (∀ H4, Same H3 H4 → Q' (kp i) H4) → tt ((wipe σ vs).set j (some (.int (lo + (i : Nat))))) H3 Q')
    (hte : ∀ i H3 (Q' : VK), i < n → kp i = true → Same H1 H3 → (∀ H4, Same H3 H4 → Q' (.int (f i)) H4) → te ((wipe σ vs).set j (some (.int (lo + (i : Nat))))) H3 Q')
    (hd : ∀ H', Same H1 H' → H' D = some (IL (((List.range n).filter kp).map f)) → Qd H') :
    ∃ W : Nat → Nat → Hp → Prop, (∃ m, W 0 m (L2.upd H1 D (.lst []))) ∧ ∀ i m H, W i m H →
      ((Itr lo n).stop i H ∧ Qd H) ∨ ((Itr lo n).go i H ∧ ∃ Nx : Hp → Prop, (∀ H', Nx H' → ∃ m', m' < m ∧ W (i + 1) m' H') ∧ ∀ x H', (Itr lo n).yld i H x H' → gName j x (wipe σ vs) H' fun σ2 H2 => wipe σ2 vs = wipe σ vs ∧ tt σ2 H2 fun b H3 =>
        if b = true then te σ2 H3 fun y H4 => ∃ acc, H4 D = some (.lst acc) ∧ acc.length < sizeLine ∧ Nx (L2.upd H4 D (.lst (acc ++ [y]))) else Nx H3) := by
  refine lc_range (lo := lo) (n := n) (fun i H' => Same H1 H' ∧ H' D = some (IL (((List.range i).filter kp).map f))) ⟨same_new hD _, upd_same⟩ ?_ ?_
  · intro i H hi h
    obtain ⟨h1, h2⟩ := h
    refine ⟨hw _, ?_⟩
    refine htt i H _ hi h1 fun H4 hs => ?_
    have hlt : i < n := hi
    by_cases c : kp i = true
    · rw [if_pos c]
      refine hte i H4 _ hi c (h1.trans hs) fun H5 hs5 => ?_
      have e : H5 D = some (IL (((List.range i).filter kp).map f)) := hs5 D _ (hs D _ h2)
      have ez : (((List.range i).filter kp).map f).map V.int ++ [V.int (f i)] = (((List.range (i + 1)).filter kp).map f).map V.int := by
        rw [List.range_succ, List.filter_append, List.map_append, List.map_append]
        simp [c]
      refine ⟨_, e, ?_, fun b o hb => ?_, ?_⟩
      · rw [List.length_map, List.length_map]
        have := List.length_filter_le kp (List.range i)
        rw [List.length_range] at this
        exact line_lt (by omega)
      · rw [upd_ne (ne_of_none hb hD)]
        exact hs5 _ _ (hs _ _ (h1 b o hb))
      · rw [upd_same, ez]
        rfl
    · rw [if_neg c]
      refine ⟨h1.trans hs, ?_⟩
      rw [hs D _ h2, List.range_succ, List.filter_append]
      simp [c]
  · intro H h
    exact hd H h.1 h.2
theorem lc_listI {K : PySem.W.Frag} {a : Addr} {xs : List V} {f : Nat → Int} {j : Nat} {te : TE} {vs : List Nat} {σ : L2.St} {H1 : Hp} {D : Addr} {Qd : Hp → Prop} (hn : xs.length ≤ 16777215) (hS : SqL K H1 a xs) (hD : H1 D = none) (hw : ∀ v, wipe ((wipe σ vs).set j v) vs = wipe σ vs)
    (hte : ∀ i x H3 (Q' : VK), xs[i]? = some x → Same H1 H3 → (∀ H4, Same H3 H4 → Q' (.int (f i)) H4) → te ((wipe σ vs).set j (some (x))) H3 Q')
    (hd : ∀ H', Same H1 H' → H' D = some (IL ((List.range xs.length).map f)) → Qd H') :
    ∃ W : Nat → Nat → Hp → Prop, (∃ m, W 0 m (L2.upd H1 D (.lst []))) ∧ ∀ i m H, W i m H →
      ((Itl K a).stop i H ∧ Qd H) ∨ ((Itl K a).go i H ∧ ∃ Nx : Hp → Prop, (∀ H', Nx H' → ∃ m', m' < m ∧ W (i + 1) m' H') ∧ ∀ x H', (Itl K a).yld i H x H' → gName j x (wipe σ vs) H' fun σ2 H2 => wipe σ2 vs = wipe σ vs ∧ tYes σ2 H2 fun b H3 =>
        if b = true then te σ2 H3 fun y H4 => ∃ acc, H4 D = some (.lst acc) ∧ acc.length < sizeLine ∧ Nx (L2.upd H4 D (.lst (acc ++ [y]))) else Nx H3) := by
  refine lc_list (K := K) (a := a) (xs := xs) (fun i H' => Same H1 H' ∧ H' D = some (IL ((List.range i).map f))) ⟨same_new hD _, upd_same⟩ (fun i H' _ h => ?_) ?_ ?_
  · exact Same.seq h.1 hS
  · intro i x H hi h
    obtain ⟨h1, h2⟩ := h
    refine ⟨hw _, ?_⟩
    simp only [tYes, if_true]
    refine hte i _ H _ hi h1 fun H4 hs => ?_
    have hlt : i < xs.length := (List.getElem?_eq_some_iff.mp hi).1
    have e : H4 D = some (IL ((List.range i).map f)) := hs D _ h2
    have ez : ((List.range i).map f).map V.int ++ [V.int (f i)] = ((List.range (i + 1)).map f).map V.int := by rw [List.range_succ, List.map_append, List.map_append]; rfl
    refine ⟨_, e, by rw [List.length_map, List.length_map, List.length_range]; exact line_lt (by omega), fun b o hb => ?_, ?_⟩
    · rw [upd_ne (ne_of_none hb hD)]
      exact hs _ _ (h1 b o hb)
    · rw [upd_same, ez]
      rfl
  · intro H h
    exact hd H h.1 h.2
theorem lc_listF {K : PySem.W.Frag} {a : Addr} {xs : List V} {f : Nat → Int} {kp : Nat → Bool} {tt : TT} {j : Nat} {te : TE} {vs : List Nat} {σ : L2.St} {H1 : Hp} {D : Addr} {Qd : Hp → Prop} (hn : xs.length ≤ 16777215) (hS : SqL K H1 a xs) (hD : H1 D = none) (hw : ∀ v, wipe ((wipe σ vs).set j v) vs = wipe σ vs)
    (htt : ∀ i x H3 (Q' : Bool → Hp → Prop), xs[i]? = some x → Same H1 H3 → (∀ H4, Same H3 H4 → Q' (kp i) H4) → tt ((wipe σ vs).set j (some (x))) H3 Q')
    (hte : ∀ i x H3 (Q' : VK), xs[i]? = some x → kp i = true → Same H1 H3 → (∀ H4, Same H3 H4 → Q' (.int (f i)) H4) → te ((wipe σ vs).set j (some (x))) H3 Q')
    (hd : ∀ H', Same H1 H' → H' D = some (IL (((List.range xs.length).filter kp).map f)) → Qd H') :
    ∃ W : Nat → Nat → Hp → Prop, (∃ m, W 0 m (L2.upd H1 D (.lst []))) ∧ ∀ i m H, W i m H →
      ((Itl K a).stop i H ∧ Qd H) ∨ ((Itl K a).go i H ∧ ∃ Nx : Hp → Prop, (∀ H', Nx H' → ∃ m', m' < m ∧ W (i + 1) m' H') ∧ ∀ x H', (Itl K a).yld i H x H' → gName j x (wipe σ vs) H' fun σ2 H2 => wipe σ2 vs = wipe σ vs ∧ tt σ2 H2 fun b H3 =>
        if b = true then te σ2 H3 fun y H4 => ∃ acc, H4 D = some (.lst acc) ∧ acc.length < sizeLine ∧ Nx (L2.upd H4 D (.lst (acc ++ [y]))) else Nx H3) := by
  refine lc_list (K := K) (a := a) (xs := xs) (fun i H' => Same H1 H' ∧ H' D = some (IL (((List.range i).filter kp).map f))) ⟨same_new hD _, upd_same⟩ (fun i H' _ h => ?_) ?_ ?_
  · exact Same.seq h.1 hS
  · intro i x H hi h
    obtain ⟨h1, h2⟩ := h
    refine ⟨hw _, ?_⟩
    refine htt i _ H _ hi h1 fun H4 hs => ?_
    have hlt : i < xs.length := (List.getElem?_eq_some_iff.mp hi).1
    by_cases c : kp i = true
    · rw [if_pos c]
      refine hte i _ H4 _ hi c (h1.trans hs) fun H5 hs5 => ?_
      have e : H5 D = some (IL (((List.range i).filter kp).map f)) := hs5 D _ (hs D _ h2)
      have ez : (((List.range i).filter kp).map f).map V.int ++ [V.int (f i)] = (((List.range (i + 1)).filter kp).map f).map V.int := by
        rw [List.range_succ, List.filter_append, List.map_append, List.map_append]
        simp [c]
      refine ⟨_, e, ?_, fun b o hb => ?_, ?_⟩
      · rw [List.length_map, List.length_map]
        have := List.length_filter_le kp (List.range i)
        rw [List.length_range] at this
        exact line_lt (by omega)
      · rw [upd_ne (ne_of_none hb hD)]
        exact hs5 _ _ (hs _ _ (h1 b o hb))
      · rw [upd_same, ez]
        rfl
    · rw [if_neg c]
      refine ⟨h1.trans hs, ?_⟩
      rw [hs D _ h2, List.range_succ, List.filter_append]
      simp [c]
  · intro H h
    exact hd H h.1 h.2
theorem lc_tupI {K : PySem.W.Frag} {a : Addr} {xs : List V} {f : Nat → Int} {j : Nat} {te : TE} {vs : List Nat} {σ : L2.St} {H1 : Hp} {D : Addr} {Qd : Hp → Prop} (hn : xs.length ≤ 16777215) (hS : SqT K H1 a xs) (hD : H1 D = none) (hw : ∀ v, wipe ((wipe σ vs).set j v) vs = wipe σ vs)
    (hte : ∀ i x H3 (Q' : VK), xs[i]? = some x → Same H1 H3 → (∀ H4, Same H3 H4 → Q' (.int (f i)) H4) → te ((wipe σ vs).set j (some (x))) H3 Q')
    (hd : ∀ H', Same H1 H' → H' D = some (IL ((List.range xs.length).map f)) → Qd H') :
    ∃ W : Nat → Nat → Hp → Prop, (∃ m, W 0 m (L2.upd H1 D (.lst []))) ∧ ∀ i m H, W i m H →
      ((Itt K a).stop i H ∧ Qd H) ∨ ((Itt K a).go i H ∧ ∃ Nx : Hp → Prop, (∀ H', Nx H' → ∃ m', m' < m ∧ W (i + 1) m' H') ∧ ∀ x H', (Itt K a).yld i H x H' → gName j x (wipe σ vs) H' fun σ2 H2 => wipe σ2 vs = wipe σ vs ∧ tYes σ2 H2 fun b H3 =>
        if b = true then te σ2 H3 fun y H4 => ∃ acc, H4 D = some (.lst acc) ∧ acc.length < sizeLine ∧ Nx (L2.upd H4 D (.lst (acc ++ [y]))) else Nx H3) := by
  refine lc_tup (K := K) (a := a) (xs := xs) (fun i H' => Same H1 H' ∧ H' D = some (IL ((List.range i).map f))) ⟨same_new hD _, upd_same⟩ (fun i H' _ h => ?_) ?_ ?_
  · exact Same.seqT h.1 hS
  · intro i x H hi h
    obtain ⟨h1, h2⟩ := h
    refine ⟨hw _, ?_⟩
    simp only [tYes, if_true]
    refine hte i _ H _ hi h1 fun H4 hs => ?_
    have hlt : i < xs.length := (List.getElem?_eq_some_iff.mp hi).1
    have e : H4 D = some (IL ((List.range i).map f)) := hs D _ h2
    have ez : ((List.range i).map f).map V.int ++ [V.int (f i)] = ((List.range (i + 1)).map f).map V.int := by rw [List.range_succ, List.map_append, List.map_append]; rfl
    refine ⟨_, e, by rw [List.length_map, List.length_map, List.length_range]; exact line_lt (by omega), fun b o hb => ?_, ?_⟩
    · rw [upd_ne (ne_of_none hb hD)]
      exact hs _ _ (h1 b o hb)
    · rw [upd_same, ez]
      rfl
  · intro H h
    exact hd H h.1 h.2
theorem lc_tupF {K : PySem.W.Frag} {a : Addr} {xs : List V} {f : Nat → Int} {kp : Nat → Bool} {tt : TT} {j : Nat} {te : TE} {vs : List Nat} {σ : L2.St} {H1 : Hp} {D : Addr} {Qd : Hp → Prop} (hn : xs.length ≤ 16777215) (hS : SqT K H1 a xs) (hD : H1 D = none) (hw : ∀ v, wipe ((wipe σ vs).set j v) vs = wipe σ vs)
    (htt : ∀ i x H3 (Q' : Bool → Hp → Prop), xs[i]? = some x → Same H1 H3 → (∀ H4, Same H3 H4 → Q' (kp i) H4) → tt ((wipe σ vs).set j (some (x))) H3 Q')
    (hte : ∀ i x H3 (Q' : VK), xs[i]? = some x → kp i = true → Same H1 H3 → (∀ H4, Same H3 H4 → Q' (.int (f i)) H4) → te ((wipe σ vs).set j (some (x))) H3 Q')
    (hd : ∀ H', Same H1 H' → H' D = some (IL (((List.range xs.length).filter kp).map f)) → Qd H') :
    ∃ W : Nat → Nat → Hp → Prop, (∃ m, W 0 m (L2.upd H1 D (.lst []))) ∧ ∀ i m H, W i m H →
      ((Itt K a).stop i H ∧ Qd H) ∨ ((Itt K a).go i H ∧ ∃ Nx : Hp → Prop, (∀ H', Nx H' → ∃ m', m' < m ∧ W (i + 1) m' H') ∧ ∀ x H', (Itt K a).yld i H x H' → gName j x (wipe σ vs) H' fun σ2 H2 => wipe σ2 vs = wipe σ vs ∧ tt σ2 H2 fun b H3 =>
        if b = true then te σ2 H3 fun y H4 => ∃ acc, H4 D = some (.lst acc) ∧ acc.length < sizeLine ∧ Nx (L2.upd H4 D (.lst (acc ++ [y]))) else Nx H3) := by
  refine lc_tup (K := K) (a := a) (xs := xs) (fun i H' => Same H1 H' ∧ H' D = some (IL (((List.range i).filter kp).map f))) ⟨same_new hD _, upd_same⟩ (fun i H' _ h => ?_) ?_ ?_
  · exact Same.seqT h.1 hS
  · intro i x H hi h
    obtain ⟨h1, h2⟩ := h
    refine ⟨hw _, ?_⟩
    refine htt i _ H _ hi h1 fun H4 hs => ?_
    have hlt : i < xs.length := (List.getElem?_eq_some_iff.mp hi).1
    by_cases c : kp i = true
    · rw [if_pos c]
      refine hte i _ H4 _ hi c (h1.trans hs) fun H5 hs5 => ?_
      have e : H5 D = some (IL (((List.range i).filter kp).map f)) := hs5 D _ (hs D _ h2)
      have ez : (((List.range i).filter kp).map f).map V.int ++ [V.int (f i)] = (((List.range (i + 1)).filter kp).map f).map V.int := by
        rw [List.range_succ, List.filter_append, List.map_append, List.map_append]
        simp [c]
      refine ⟨_, e, ?_, fun b o hb => ?_, ?_⟩
      · rw [List.length_map, List.length_map]
        have := List.length_filter_le kp (List.range i)
        rw [List.length_range] at this
        exact line_lt (by omega)
      · rw [upd_ne (ne_of_none hb hD)]
        exact hs5 _ _ (hs _ _ (h1 b o hb))
      · rw [upd_same, ez]
        rfl
    · rw [if_neg c]
      refine ⟨h1.trans hs, ?_⟩
      rw [hs D _ h2, List.range_succ, List.filter_append]
      simp [c]
  · intro H h
    exact hd H h.1 h.2
/-! ### .. any values -/
theorem lc_rangeV {lo : Int} {n : Nat} {f : Nat → V} {j : Nat} {te : TE} {vs : List Nat} {σ : L2.St} {H1 : Hp} {D : Addr} {Qd : Hp → Prop} (hn : n ≤ 16777215) (hD : H1 D = none) (hw : ∀ v, wipe ((wipe σ vs).set j v) vs = wipe σ vs)
    (hte : ∀ i H3 (Q' : VK), i < n → Same H1 H3 → (∀ H4, Same H3 H4 → Q' (f i) H4) → te ((wipe σ vs).set j (some (.int (lo + (i : Nat))))) H3 Q')
    (hd : ∀ H', Same H1 H' → H' D = some (.lst ((List.range n).map f)) → Qd H') :
    ∃ W : Nat → Nat → Hp → Prop, (∃ m, W 0 m (L2.upd H1 D (.lst []))) ∧ ∀ i m H, W i m H →
      ((Itr lo n).stop i H ∧ Qd H) ∨ ((Itr lo n).go i H ∧ ∃ Nx : Hp → Prop, (∀ H', Nx H' → ∃ m', m' < m ∧ W (i + 1) m' H') ∧ ∀ x H', (Itr lo n).yld i H x H' → gName j x (wipe σ vs) H' fun σ2 H2 => wipe σ2 vs = wipe σ vs ∧ tYes σ2 H2 fun b H3 =>
        if b = true then te σ2 H3 fun y H4 => ∃ acc, H4 D = some (.lst acc) ∧ acc.length < sizeLine ∧ Nx (L2.upd H4 D (.lst (acc ++ [y]))) else Nx H3) := by
  refine lc_range (lo := lo) (n := n) (fun i H' => Same H1 H' ∧ H' D = some (.lst ((List.range i).map f))) ⟨same_new hD _, upd_same⟩ ?_ ?_
  · intro i H hi h
    obtain ⟨h1, h2⟩ := h
    refine ⟨hw _, ?_⟩
    simp only [tYes, if_true]
    refine hte i H _ hi h1 fun H4 hs => ?_
    have hlt : i < n := hi
    have e : H4 D = some (.lst ((List.range i).map f)) := hs D _ h2
    have ez : ((List.range i).map f) ++ [f i] = ((List.range (i + 1)).map f) := by rw [List.range_succ, List.map_append]; rfl
    refine ⟨_, e, by rw [List.length_map, List.length_range]; exact line_lt (by omega), fun b o hb => ?_, ?_⟩
    · rw [upd_ne (ne_of_none hb hD)]
      exact hs _ _ (h1 b o hb)
    · rw [upd_same, ez]
  · intro H h
    exact hd H h.1 h.2
theorem lc_rangeVF {lo : Int} {n : Nat} {f : Nat → V} {kp : Nat → Bool} {tt : TT} {j : Nat} {te : TE} {vs : List Nat} {σ : L2.St} {H1 : Hp} {D : Addr} {Qd : Hp → Prop} (hn : n ≤ 16777215) (hD : H1 D = none) (hw : ∀ v, wipe ((wipe σ vs).set j v) vs = wipe σ vs)
    (htt : ∀ i H3 (Q' : Bool → Hp → Prop), i < n → Same H1 H3 → (∀ H4, Same H3 H4 → Q' (kp i) H4) → tt ((wipe σ vs).set j (some (.int (lo + (i : Nat))))) H3 Q')
    (hte : ∀ i H3 (Q' : VK), i < n → kp i = true → Same H1 H3 → (∀ H4, Same H3 H4 → Q' (f i) H4) → te ((wipe σ vs).set j (some (.int (lo + (i : Nat))))) H3 Q')
    (hd : ∀ H', Same H1 H' → H' D = some (.lst (((List.range n).filter kp).map f)) → Qd H') :
    ∃ W : Nat → Nat → Hp → Prop, (∃ m, W 0 m (L2.upd H1 D (.lst []))) ∧ ∀ i m H, W i m H →
      ((Itr lo n).stop i H ∧ Qd H) ∨ ((Itr lo n).go i H ∧ ∃ Nx : Hp → Prop, (∀ H', Nx H' → ∃ m', m' < m ∧ W (i + 1) m' H') ∧ ∀ x H', (Itr lo n).yld i H x H' → gName j x (wipe σ vs) H' fun σ2 H2 => wipe σ2 vs = wipe σ vs ∧ tt σ2 H2 fun b H3 =>
        if b = true then te σ2 H3 fun y H4 => ∃ acc, H4 D = some (.lst acc) ∧ acc.length < sizeLine ∧ Nx (L2.upd H4 D (.lst (acc ++ [y]))) else Nx H3) := by
  refine lc_range (lo := lo) (n := n) (fun i H' => Same H1 H' ∧ H' D = some (.lst (((List.range i).filter kp).map f))) ⟨same_new hD _, upd_same⟩ ?_ ?_
  · intro i H hi h
    obtain ⟨h1, h2⟩ := h
    refine ⟨hw _, ?_⟩
    refine htt i H _ hi h1 fun H4 hs => ?_
    have hlt : i < n := hi
    by_cases c : kp i = true
    · rw [if_pos c]
      refine hte i H4 _ hi c (h1.trans hs) fun H5 hs5 => ?_
      have e : H5 D = some (.lst (((List.range i).filter kp).map f)) := hs5 D _ (hs D _ h2)
      have ez : (((List.range i).filter kp).map f) ++ [f i] = (((List.range (i + 1)).filter kp).map f) := by
        rw [List.range_succ, List.filter_append, List.map_append]
        simp [c]
      refine ⟨_, e, ?_, fun b o hb => ?_, ?_⟩
      · rw [List.length_map]
        have := List.length_filter_le kp (List.range i)
        rw [List.length_range] at this
        exact line_lt (by omega)
      · rw [upd_ne (ne_of_none hb hD)]
        exact hs5 _ _ (hs _ _ (h1 b o hb))
      · rw [upd_same, ez]
    · rw [if_neg c]
      refine ⟨h1.trans hs, ?_⟩
      rw [hs D _ h2, List.range_succ, List.filter_append]
      simp [c]
  · intro H h
    exact hd H h.1 h.2
theorem lc_listV {K : PySem.W.Frag} {a : Addr} {xs : List V} {f : Nat → V} {j : Nat} {te : TE} {vs : List Nat} {σ : L2.St} {H1 : Hp} {D : Addr} {Qd : Hp → Prop} (hn : xs.length ≤ 16777215) (hS : SqL K H1 a xs) (hD : H1 D = none) (hw : ∀ v, wipe ((wipe σ vs).set j v) vs = wipe σ vs)
    (hte : ∀ i x H3 (Q' : VK), xs[i]? = some x → Same H1 H3 → (∀ H4, Same H3 H4 → Q' (f i) H4) → te ((wipe σ vs).set j (some (x))) H3 Q')
    (hd : ∀ H', Same H1 H' → H' D = some (.lst ((List.range xs.length).map f)) → Qd H') :
    ∃ W : Nat → Nat → Hp → Prop, (∃ m, W 0 m (L2.upd H1 D (.lst []))) ∧ ∀ i m H, W i m H →
      ((Itl K a).stop i H ∧ Qd H) ∨ ((Itl K a).go i H ∧ ∃ Nx : Hp → Prop, (∀ H', Nx H' → ∃ m', m' < m ∧ W (i + 1) m' H') ∧ ∀ x H', (Itl K a).yld i H x H' → gName j x (wipe σ vs) H' fun σ2 H2 => wipe σ2 vs = wipe σ vs ∧ tYes σ2 H2 fun b H3 =>
        if b = true then te σ2 H3 fun y H4 => ∃ acc, H4 D = some (.lst acc) ∧ acc.length < sizeLine ∧ Nx (L2.upd H4 D (.lst (acc ++ [y]))) else Nx H3) := by
  refine lc_list (K := K) (a := a) (xs := xs) (fun i H' => Same H1 H' ∧ H' D = some (.lst ((List.range i).map f))) ⟨same_new hD _, upd_same⟩ (fun i H' _ h => ?_) ?_ ?_
  · exact Same.seq h.1 hS
  · intro i x H hi h
    obtain ⟨h1, h2⟩ := h
    refine ⟨hw _, ?_⟩
    simp only [tYes, if_true]
    refine hte i _ H _ hi h1 fun H4 hs => ?_
    have hlt : i < xs.length := (List.getElem?_eq_some_iff.mp hi).1
    have e : H4 D = some (.lst ((List.range i).map f)) := hs D _ h2
    have ez : ((List.range i).map f) ++ [f i] = ((List.range (i + 1)).map f) := by rw [List.range_succ, List.map_append]; rfl
    refine ⟨_, e, by rw [List.length_map, List.length_range]; exact line_lt (by omega), fun b o hb => ?_, ?_⟩
    · rw [upd_ne (ne_of_none hb hD)]
      exact hs _ _ (h1 b o hb)
    · rw [upd_same, ez]
  · intro H h
    exact hd H h.1 h.2
theorem lc_listVF {K : PySem.W.Frag} {a : Addr} {xs : List V} {f : Nat → V} {kp : Nat → Bool} {tt : TT} {j : Nat} {te : TE} {vs : List Nat} {σ : L2.St} {H1 : Hp} {D : Addr} {Qd : Hp → Prop} (hn : xs.length ≤ 16777215) (hS : SqL K H1 a xs) (hD : H1 D = none) (hw : ∀ v, wipe ((wipe σ vs).set j v) vs = wipe σ vs)
    (htt : ∀ i x H3 (Q' : Bool → Hp → Prop), xs[i]? = some x → Same H1 H3 → (∀ H4, Same H3 H4 → Q' (kp i) H4) → tt ((wipe σ vs).set j (some (x))) H3 Q')
    (hte : ∀ i x H3 (Q' : VK), xs[i]? = some x → kp i = true → Same H1 H3 → (∀ H4, Same H3 H4 → Q' (f i) H4) → te ((wipe σ vs).set j (some (x))) H3 Q')
    (hd : ∀ H', Same H1 H' → H' D = some (.lst (((List.range xs.length).filter kp).map f)) → Qd H') :
    ∃ W : Nat → Nat → Hp → Prop, (∃ m, W 0 m (L2.upd H1 D (.lst []))) ∧ ∀ i m H, W i m H →
      ((Itl K a).stop i H ∧ Qd H) ∨ ((Itl K a).go i H ∧ ∃ Nx : Hp → Prop, (∀ H', Nx H' → ∃ m', m' < m ∧ W (i + 1) m' H') ∧ ∀ x H', (Itl K a).yld i H x H' → gName j x (wipe σ vs) H' fun σ2 H2 => wipe σ2 vs = wipe σ vs ∧ tt σ2 H2 fun b H3 =>
        if b = true then te σ2 H3 fun y H4 => ∃ acc, H4 D = some (.lst acc) ∧ acc.length < sizeLine ∧ Nx (L2.upd H4 D (.lst (acc ++ [y]))) else Nx H3) := by
  refine lc_list (K := K) (a := a) (xs := xs) (fun i H' => Same H1 H' ∧ H' D = some (.lst (((List.range i).filter kp).map f))) ⟨same_new hD _, upd_same⟩ (fun i H' _ h => ?_) ?_ ?_
  · exact Same.seq h.1 hS
  · intro i x H hi h
    obtain ⟨h1, h2⟩ := h
    refine ⟨hw _, ?_⟩
    refine htt i _ H _ hi h1 fun H4 hs => ?_
    have hlt : i < xs.length := (List.getElem?_eq_some_iff.mp hi).1
    by_cases c : kp i = true
    · rw [if_pos c]
      refine hte i _ H4 _ hi c (h1.trans hs) fun H5 hs5 => ?_
      have e : H5 D = some (.lst (((List.range i).filter kp).map f)) := hs5 D _ (hs D _ h2)
      have ez : (((List.range i).filter kp).map f) ++ [f i] = (((List.range (i + 1)).filter kp).map f) := by
        rw [List.range_succ, List.filter_append, List.map_append]
        simp [c]
      refine ⟨_, e, ?_, fun b o hb => ?_, ?_⟩
      · rw [List.length_map]
        have := List.length_filter_le kp (List.range i)
        rw [List.length_range] at this
        exact line_lt (by omega)
      · rw [upd_ne (ne_of_none hb hD)]
        exact hs5 _ _ (hs _ _ (h1 b o hb))
      · rw [upd_same, ez]
    · rw [if_neg c]
      refine ⟨h1.trans hs, ?_⟩
      rw [hs D _ h2, List.range_succ, List.filter_append]
      simp [c]
  · intro H h
    exact hd H h.1 h.2
theorem lc_tupV {K : PySem.W.Frag} {a : Addr} {xs : List V} {f : Nat → V} {j : Nat} {te : TE} {vs : List Nat} {σ : L2.St} {H1 : Hp} {D : Addr} {Qd : Hp → Prop} (hn : xs.length ≤ 16777215) (hS : SqT K H1 a xs) (hD : H1 D = none) (hw : ∀ v, wipe ((wipe σ vs).set j v) vs = wipe σ vs)
    (hte : ∀ i x H3 (Q' : VK), xs[i]? = some x → Same H1 H3 → (∀ H4, Same H3 H4 → Q' (f i) H4) → te ((wipe σ vs).set j (some (x))) H3 Q')
    (hd : ∀ H', Same H1 H' → H' D = some (.lst ((List.range xs.length).map f)) → Qd H') :
    ∃ W : Nat → Nat → Hp → Prop, (∃ m, W 0 m (L2.upd H1 D (.lst []))) ∧ ∀ i m H, W i m H →
      ((Itt K a).stop i H ∧ Qd H) ∨ ((Itt K a).go i H ∧ ∃ Nx : Hp → Prop, (∀ H', Nx H' → ∃ m', m' < m ∧ W (i + 1) m' H') ∧ ∀ x H', (Itt K a).yld i H x H' → gName j x (wipe σ vs) H' fun σ2 H2 => wipe σ2 vs = wipe σ vs ∧ tYes σ2 H2 fun b H3 =>
        if b = true then te σ2 H3 fun y H4 => ∃ acc, H4 D = some (.lst acc) ∧ acc.length < sizeLine ∧ Nx (L2.upd H4 D (.lst (acc ++ [y]))) else Nx H3) := by
  refine lc_tup (K := K) (a := a) (xs := xs) (fun i H' => Same H1 H' ∧ H' D = some (.lst ((List.range i).map f))) ⟨same_new hD _, upd_same⟩ (fun i H' _ h => ?_) ?_ ?_
  · exact Same.seqT h.1 hS
  · intro i x H hi h
    obtain ⟨h1, h2⟩ := h
    refine ⟨hw _, ?_⟩
    simp only [tYes, if_true]
    refine hte i _ H _ hi h1 fun H4 hs => ?_
    have hlt : i < xs.length := (List.getElem?_eq_some_iff.mp hi).1
    have e : H4 D = some (.lst ((List.range i).map f)) := hs D _ h2
    have ez : ((List.range i).map f) ++ [f i] = ((List.range (i + 1)).map f) := by rw [List.range_succ, List.map_append]; rfl
    refine ⟨_, e, by rw [List.length_map, List.length_range]; exact line_lt (by omega), fun b o hb => ?_, ?_⟩
    · rw [upd_ne (ne_of_none hb hD)]
      exact hs _ _ (h1 b o hb)
    · rw [upd_same, ez]
  · intro H h
    exact hd H h.1 h.2
theorem lc_tupVF {K : PySem.W.Frag} {a : Addr} {xs : List V} {f : Nat → V} {kp : Nat → Bool} {tt : TT} {j : Nat} {te : TE} {vs : List Nat} {σ : L2.St} {H1 : Hp} {D : Addr} {Qd : Hp → Prop} (hn : xs.length ≤ 16777215) (hS : SqT K H1 a xs) (hD : H1 D = none) (hw : ∀ v, wipe ((wipe σ vs).set j v) vs = wipe σ vs)
    (htt : ∀ i x H3 (Q' : Bool → Hp → Prop), xs[i]? = some x → Same H1 H3 → (∀ H4, Same H3 H4 → Q' (kp i) H4) → tt ((wipe σ vs).set j (some (x))) H3 Q')
    (hte : ∀ i x H3 (Q' : VK), xs[i]? = some x → kp i = true → Same H1 H3 → (∀ H4, Same H3 H4 → Q' (f i) H4) → te ((wipe σ vs).set j (some (x))) H3 Q')
    (hd : ∀ H', Same H1 H' → H' D = some (.lst (((List.range xs.length).filter kp).map f)) → Qd H') :
    ∃ W : Nat → Nat → Hp → Prop, (∃ m, W 0 m (L2.upd H1 D (.lst []))) ∧ ∀ i m H, W i m H →
      ((Itt K a).stop i H ∧ Qd H) ∨ ((Itt K a).go i H ∧ ∃ Nx : Hp → Prop, (∀ H', Nx H' → ∃ m', m' < m ∧ W (i + 1) m' H') ∧ ∀ x H', (Itt K a).yld i H x H' → gName j x (wipe σ vs) H' fun σ2 H2 => wipe σ2 vs = wipe σ vs ∧ tt σ2 H2 fun b H3 =>
        if b = true then te σ2 H3 fun y H4 => ∃ acc, H4 D = some (.lst acc) ∧ acc.length < sizeLine ∧ Nx (L2.upd H4 D (.lst (acc ++ [y]))) else Nx H3) := by
  refine lc_tup (K := K) (a := a) (xs := xs) (fun i H' => Same H1 H' ∧ H' D = some (.lst (((List.range i).filter kp).map f))) ⟨same_new hD _, upd_same⟩ (fun i H' _ h => ?_) ?_ ?_
  · exact Same.seqT h.1 hS
  · intro i x H hi h
    obtain ⟨h1, h2⟩ := h
    refine ⟨hw _, ?_⟩
    refine htt i _ H _ hi h1 fun H4 hs => ?_
    have hlt : i < xs.length := (List.getElem?_eq_some_iff.mp hi).1
    by_cases c : kp i = true
    · rw [if_pos c]
      refine hte i _ H4 _ hi c (h1.trans hs) fun H5 hs5 => ?_
      have e : H5 D = some (.lst (((List.range i).filter kp).map f)) := hs5 D _ (hs D _ h2)
      have ez : (((List.range i).filter kp).map f) ++ [f i] = (((List.range (i + 1)).filter kp).map f) := by
        rw [List.range_succ, List.filter_append, List.map_append]
        simp [c]
      refine ⟨_, e, ?_, fun b o hb => ?_, ?_⟩
      · rw [List.length_map]
        have := List.length_filter_le kp (List.range i)
        rw [List.length_range] at this
        exact line_lt (by omega)
      · rw [upd_ne (ne_of_none hb hD)]
        exact hs5 _ _ (hs _ _ (h1 b o hb))
      · rw [upd_same, ez]
    · rw [if_neg c]
      refine ⟨h1.trans hs, ?_⟩
      rw [hs D _ h2, List.range_succ, List.filter_append]
      simp [c]
  · intro H h
    exact hd H h.1 h.2
def BL (bs : List Bool) : HO := .lst (bs.map V.bl)
def rAllB : List V → Hp → VK → Prop := fun vs H Q => ∃ (a : Addr) (bs : List Bool), vs = [V.ref a] ∧ H a = some (BL bs) ∧ Q (.bl (bs.all id)) H
def rAnyB : List V → Hp → VK → Prop := fun vs H Q => ∃ (a : Addr) (bs : List Bool), vs = [V.ref a] ∧ H a = some (BL bs) ∧ Q (.bl (bs.any id)) H
theorem cr_allB {X : Cx} (hc : X.calm = true) : CallR X (.builtin "all") rAllB := CallR.imp (cr_all hc) fun xs H Q h => by
  obtain ⟨a, bs, e, h1, q⟩ := h
  exact ⟨a, bs, e, .of h1, q⟩
theorem cr_anyB {X : Cx} (hc : X.calm = true) : CallR X (.builtin "any") rAnyB := CallR.imp (cr_any hc) fun xs H Q h => by
  obtain ⟨a, bs, e, h1, q⟩ := h
  exact ⟨a, bs, e, .of h1, q⟩
theorem BL_inj {a b : List Bool} : (BL a = BL b) = (a = b) := by
  apply propext
  constructor
  · intro h
    unfold BL at h
    injection h with h
    exact List.map_inj_right (fun x y e => V.bl.inj e) |>.mp h
  · intro h
    rw [h]
theorem BL_of {H : Hp} {D : Addr} {n : Nat} {f : Nat → Bool} (h : H D = some (.lst ((List.range n).map fun i => V.bl (f i)))) : H D = some (BL ((List.range n).map f)) := by
  rw [h]
  unfold BL
  rw [List.map_map]
  rfl
/-- all of the items of a list, by their places -/
theorem all_items {ns : List Int} {p : Int → Bool} : (((List.range ns.length).map fun i => p (ns.getD i 0)).all id) = ns.all p := by
  induction ns with
  | nil => rfl
  | cons n r ih =>
    rw [List.length_cons, List.range_succ_eq_map, List.map_cons, List.map_map, List.all_cons, List.all_cons, ← ih]
    rfl
end Dw

namespace Dw
open PySem PySem.Spec PyProof.Rows L2
/-- what the top says of an own error class over ValueError, without an __init__ of its own -/
structure ExcF (K : PySem.W.Frag) (mg : Str → Option Value) (x : Str) (C : Addr) : Prop where
  g : mg x = some (.ref C)
  x : PySem.W.excIn K C [.type "ValueError", .type "Exception", .type "BaseException", .type "object"] "ValueError.__new__" = true
  k : PySem.W.keepIn K (.ref C) = true
  b : PySem.W.subIn K (.ref C) (.type "BaseException") = some true
  t : PySem.W.typeIn K (.ref C) = some (.type "type")
  e : PySem.W.exmOne K (.ref C) (.ref C) = some true
theorem exm_selfD {K : PySem.W.Frag} {S : Addr} (h1 : PySem.W.subIn K (.ref S) (.type "BaseException") = some true) (h2 : PySem.W.isClsIn K S = true) (h3 : PySem.W.typeIn K (.ref S) = some (.type "type")) (h4 : PySem.W.subIn K (.ref S) (.ref S) = some true) :
    PySem.W.exmOne K (.ref S) (.ref S) = some true := by
  have e1 : (PySem.W.subIn K (.ref S) (.type "BaseException") == some true) = true := by rw [h1] <;> rfl
  have e2 : ((PySem.W.clsIn K S).isSome && PySem.W.typeIn K (.ref S) == some (.type "type")) = true := by
    have h2' : (PySem.W.clsIn K S).isSome = true := h2
    rw [h2', h3] <;> rfl
  show (if (PySem.W.subIn K (.ref S) (.type "BaseException") == some true) = true then (if ((PySem.W.clsIn K S).isSome && PySem.W.typeIn K (.ref S) == some (.type "type")) = true then PySem.W.subIn K (.ref S) (.ref S) else none) else none) = some true
  rw [if_pos e1, if_pos e2]
  exact h4
/-- an error of another class C, asked for the class S -/
theorem exm_otherD {K : PySem.W.Frag} {C S : Addr} {b : Bool} (h1 : PySem.W.subIn K (.ref S) (.type "BaseException") = some true) (h2 : PySem.W.isClsIn K S = true) (h3 : PySem.W.typeIn K (.ref S) = some (.type "type")) (h4 : PySem.W.subIn K (.ref C) (.ref S) = some b) :
    PySem.W.exmOne K (.ref C) (.ref S) = some b := by
  have e1 : (PySem.W.subIn K (.ref S) (.type "BaseException") == some true) = true := by rw [h1] <;> rfl
  have e2 : ((PySem.W.clsIn K S).isSome && PySem.W.typeIn K (.ref S) == some (.type "type")) = true := by
    have h2' : (PySem.W.clsIn K S).isSome = true := h2
    rw [h2', h3] <;> rfl
  show (if (PySem.W.subIn K (.ref S) (.type "BaseException") == some true) = true then (if ((PySem.W.clsIn K S).isSome && PySem.W.typeIn K (.ref S) == some (.type "type")) = true then PySem.W.subIn K (.ref C) (.ref S) else none) else none) = some b
  rw [if_pos e1, if_pos e2]
  exact h4
/-- isinstance(e, c) of a caught error: its class is told by the reading -/
def rIsX (K : PySem.W.Frag) (D a : Addr) (cls : Value) (d : Option Addr) : List V → Hp → VK → Prop := fun xs H Q => cls = .ref D ∧ d = none ∧ ∃ (c : Addr) (b : Bool), xs = [.ref a, .ref c] ∧ PySem.W.kitOne K (.ref D) (.ref c) = some b ∧ Q (.bl b) H
theorem call_isX {X : Cx} {a D : Addr} {oe : Obj} {pn : List (Addr × Obj)} {cls : Value} {d : Option Addr} (C : ExcC X.K D) (hz : Zc cls d oe) (hf : ∃ vs, oe.data = .fields vs) : CallR (X.suite a ((a, oe) :: pn)) (.builtin "isinstance") (rIsX X.K D a cls d) := by
  intro pins s σ H xs us Q I r h
  obtain ⟨rfl, rfl, c, b, e, k, q⟩ := h
  exact call_isE C hz hf pins s σ H xs us Q I r ⟨.ref c, .ref c, b, e, fun u hu => hu, k, q⟩
/-! ### C(..) within a try -/
section
variable {X : Cx} {CX : CXT} {k : Nat} {f C : Addr} {fd : FuncData} {ps : List Str} {sp : Sp} {E : L2.St → XK} {x : Str} {p pos : Pos} {e : Expr} {es : List Expr} {t : TA}
theorem run_makeS {pins : List (Addr × Obj)} {σ : L2.St} {H : Hp} {s : Shared} {Q : VK} {us : List Value} {vs : List V} (M : Mk X.K C f) (F : FnOk X.prog X.w X.K X.mg X.base CX k f fd ps sp) (hr : Room (k + 1) X.A) (hb : Binds X.K fd ps [])
    (hx : PassesAt CX X σ (E σ)) (I : Inv X pins σ H s) (r : Vals vs us)
    (h : ∀ x dx, H x = none → H dx = none → dx ≠ x → sp (.ref x :: vs) (upd (upd H dx (.own x)) x (.ins C dx [])) (fun v H2 => v = .non ∧ Q (.ref x) H2) (E σ)) :
    wpAny (model X.prog X.w) X.A (call (.ref C) us) (EP X pins σ Q) X.xe s := by
  have hq := h (s.heap.objs.size + 1) s.heap.objs.size (I.hok.fresh (Nat.le_succ _)) (I.hok.fresh (Nat.le_refl _)) (Nat.ne_of_lt (Nat.lt_succ_self _))
  have I2 := Inv.made (C := C) I
  have r2 : Vals (V.ref (s.heap.objs.size + 1) :: vs) (Value.ref (s.heap.objs.size + 1) :: us) := .cons rfl r
  have hl : ((Value.ref (s.heap.objs.size + 1) :: us) ++ []).length = ps.length := by
    have e := r2.length
    rw [F.len _ _ _ _ hq] at e
    rw [List.append_nil]
    exact e.symm
  have bt : BindsTo _ fd ⟨Value.ref (s.heap.objs.size + 1) :: us, []⟩ (ps.zip ((Value.ref (s.heap.objs.size + 1) :: us) ++ [])) := hb _ (Value.ref (s.heap.objs.size + 1) :: us) I2.kIn hl
  rw [List.append_nil] at bt
  refine wpAny_call (make_map (f := f) I.kIn M.makes M.init (beq_iff_eq.mp M.fn) (codeAny_mono (F.run _ X.stack _ _ ⟨Value.ref (s.heap.objs.size + 1) :: us, []⟩ (Value.ref (s.heap.objs.size + 1) :: us) _ _ (E σ) (hr.make C us [])
    (I2.env0.make C us []) bt r2 hq) fun r s' hq' => ?_))
  cases r with
  | error e => exact hx pins _ _ e s' I2 hq'
  | ok fl =>
    cases fl with
    | ret u =>
      obtain ⟨v, H', I3, rv, ev, q3⟩ := I2.after hq'
      subst ev
      exact ⟨rv, ⟨V.ref (s.heap.objs.size + 1), H', I3, rfl, q3⟩⟩
    | next => exact False.elim hq'
    | brk => exact False.elim hq'
    | cont => exact False.elim hq'
def tMakeS (C : Addr) (sp : Sp) (E : L2.St → XK) (t : TA) : TE := fun σ H Q => t σ H fun vs H1 => ∀ x dx, H1 x = none → H1 dx = none → dx ≠ x →
  sp (.ref x :: vs) (upd (upd H1 dx (.own x)) x (.ins C dx [])) (fun v H2 => v = .non ∧ Q (.ref x) H2) (E σ)
theorem pe_makeS (M : Mk X.K C f) (F : FnOk X.prog X.w X.K X.mg X.base CX k f fd ps sp) (hr : Room (k + 1) X.A) (hg : Gl X x) (hm : X.mg x = some (.ref C)) (hb : Binds X.K fd ps []) (hx : ∀ σ, PassesAt CX X σ (E σ))
    (ha : PA X (e :: es) t) (hdb : (x == ("__debug__" : Str)) = false := by decide) (he : starEach (e :: es) X.env = (false, eval e X.env) :: starEach es X.env := by rfl) (hpl : (backTo pos (starEach es X.env)).any (·.1) = false := by rfl) :
    PE X (.Call (.Name x p) (e :: es) [] pos) (tMakeS C sp E t) := by
  refine ⟨fun pins s σ H Q I h => ?_⟩
  refine wpAny_Call_Name_kw (ld_glob I hg hm ?_ hdb)
  refine PySem.W.callWith_K (h₀ := X.base) I.ok.mod.kin M.kp (thn (ha.run pos pins s σ H _ I h) fun us s1 ⟨vs, H1, I1, r, q⟩ => ⟨I1.kIn, ?_⟩) he hpl
  exact run_makeS M F hr hb (hx σ) I1 r q
/-! ### C(..) by a promise of the whole: conv turns it into that of __init__ at the new instance -/
def Conv (C : Addr) (sp rd : Sp) : Prop := ∀ vs H Q E, rd vs H Q E → ∀ x dx, H x = none → H dx = none → dx ≠ x → sp (.ref x :: vs) (upd (upd H dx (.own x)) x (.ins C dx [])) (fun v H2 => v = .non ∧ Q (.ref x) H2) E
def tMakeC (rd : Sp) (E : XK) (t : TA) : TE := fun σ H Q => t σ H fun vs H1 => rd vs H1 Q E
theorem pe_makeC {rd : Sp} {E : XK} (cv : Conv C sp rd) (M : Mk X.K C f) (F : FnOk X.prog X.w X.K X.mg X.base CX k f fd ps sp) (hr : Room (k + 1) X.A) (hg : Gl X x) (hm : X.mg x = some (.ref C)) (hb : Binds X.K fd ps []) (hx : Passes CX X E)
    (ha : PA X (e :: es) t) (hdb : (x == ("__debug__" : Str)) = false := by decide) (he : starEach (e :: es) X.env = (false, eval e X.env) :: starEach es X.env := by rfl) (hpl : (backTo pos (starEach es X.env)).any (·.1) = false := by rfl) :
    PE X (.Call (.Name x p) (e :: es) [] pos) (tMakeC rd E t) := by
  refine ⟨fun pins s σ H Q I h => ?_⟩
  refine wpAny_Call_Name_kw (ld_glob I hg hm ?_ hdb)
  refine PySem.W.callWith_K (h₀ := X.base) I.ok.mod.kin M.kp (thn (ha.run pos pins s σ H _ I h) fun us s1 ⟨vs, H1, I1, r, q⟩ => ⟨I1.kIn, ?_⟩) he hpl
  refine run_make (dvs := []) (ds := []) M F hr hb .nil hx I1 r ?_
  rw [List.append_nil]
  exact cv vs H1 Q E q
def tMakeSC (rd : Sp) (E : L2.St → XK) (t : TA) : TE := fun σ H Q => t σ H fun vs H1 => rd vs H1 Q (E σ)
theorem pe_makeSC {rd : Sp} (cv : Conv C sp rd) (M : Mk X.K C f) (F : FnOk X.prog X.w X.K X.mg X.base CX k f fd ps sp) (hr : Room (k + 1) X.A) (hg : Gl X x) (hm : X.mg x = some (.ref C)) (hb : Binds X.K fd ps []) (hx : ∀ σ, PassesAt CX X σ (E σ))
    (ha : PA X (e :: es) t) (hdb : (x == ("__debug__" : Str)) = false := by decide) (he : starEach (e :: es) X.env = (false, eval e X.env) :: starEach es X.env := by rfl) (hpl : (backTo pos (starEach es X.env)).any (·.1) = false := by rfl) :
    PE X (.Call (.Name x p) (e :: es) [] pos) (tMakeSC rd E t) := by
  refine ⟨fun pins s σ H Q I h => ?_⟩
  refine wpAny_Call_Name_kw (ld_glob I hg hm ?_ hdb)
  refine PySem.W.callWith_K (h₀ := X.base) I.ok.mod.kin M.kp (thn (ha.run pos pins s σ H _ I h) fun us s1 ⟨vs, H1, I1, r, q⟩ => ⟨I1.kIn, ?_⟩) he hpl
  exact run_makeS M F hr hb (hx σ) I1 r (cv vs H1 Q (E σ) q)
/-- what a caller's own wish takes of a callee that may raise -/
theorem passW {X : Cx} {W : WX} (tk : Takes X W) {E : XK} (hW : ∀ cls d σ H, E cls d H → W cls d σ H) : Passes (L2.CX X.prog X.w) X E := passes_call tk hW
end
theorem cxOf_K {CX : CXT} {P : Program} {w : World} {K : PySem.W.Frag} {mg : Str → Option Value} {base : Heap} {N : List Str} {qual : Str} {scope : Scope} {f : Addr} {cd : Value} {A : Around} {outer : List Env} {s : Shared} {H : Hp} {E : XK} :
    (cxOf CX P w K mg base N qual scope f cd A outer s H E).K = K := rfl
theorem nox_K {X : Cx} : X.nox.K = X.K := rfl
theorem tr_K {X : Cx} {pn : List (Addr × Obj)} {xe : Value → Shared → Prop} : (X.tr pn xe).K = X.K := rfl
theorem suite_K {X : Cx} {a : Addr} {pn : List (Addr × Obj)} : (X.suite a pn).K = X.K := rfl
end Dw

/-! Sy: isinstance of a caught error that has fields -/
namespace Dw
open PySem PySem.Spec PyProof.Rows L2
def rIsXD (K : PySem.W.Frag) (D a : Addr) (cls : Value) (d : Option Addr) : List V → Hp → VK → Prop := fun xs H Q => cls = .ref D ∧ (∃ dd fs, d = some dd ∧ H dd = some (.xd fs)) ∧ ∃ (c : Addr) (b : Bool), xs = [.ref a, .ref c] ∧ PySem.W.kitOne K (.ref D) (.ref c) = some b ∧ Q (.bl b) H
theorem call_isXD {X : Cx} {a D : Addr} {oe : Obj} {pn : List (Addr × Obj)} {cls : Value} {d : Option Addr} (C : ExcC X.K D) (hz : Zc cls d oe) (hf : ∃ vs, oe.data = .fields vs) : CallR (X.suite a ((a, oe) :: pn)) (.builtin "isinstance") (rIsXD X.K D a cls d) := by
  intro pins s σ H xs us Q I r h
  obtain ⟨rfl, ⟨dd, fs, rfl, ea⟩, c, b, rfl, k, q⟩ := h
  obtain ⟨hget, _⟩ := I.pin (a, oe) (List.mem_append.mpr (.inl List.mem_cons_self))
  obtain ⟨vs, hv⟩ := hf
  have hx : ObjOk X.prog X.w H s.heap dd (.xd fs) := I.hok dd _ ea
  obtain ⟨mA, hns, hr⟩ := hx
  obtain ⟨od, ho, hl⟩ := lookIn_ns hns
  have J : PySem.W.InstAt s.heap a oe D (some od) := ⟨hget, hz.1, by unfold PySem.W.notCls; rw [hv] <;> rfl, by rw [hz.2]; exact ho⟩
  have hcl : (PySem.W.clsIn X.K D).isSome = true := by
    have h := C.hd
    unfold PySem.W.hasDictIn at h
    cases e : PySem.W.clsIn X.K D with
    | none => rw [e] at h; cases h
    | some cd => rfl
  have Z := PySem.W.kitx_exc (x := a) (ox := oe) (od := some od) hcl C.hg C.hk C.hs C.ha C.hn C.ht C.hm
  cases r with
  | cons rx rr =>
    cases rr with
    | cons rt rr =>
      cases rr
      cases rx
      cases rt
      exact PySem.W.kia_one Z I.kIn J k (fun z => nomatch z) fun tk => ⟨.bl b, H, I.kept (t' := tk) fun _ _ z => z, rfl, q⟩
end Dw

/-! defs whose exceptions are caught by a suite that raises -/
namespace Dw
open PySem PySem.Spec PyProof.Rows L2
theorem passLN {X : Cx} : Passes (L2N.CX X.prog X.w) X E0 := fun _ _ _ _ _ _ _ h => by
  obtain ⟨_, _, _, _, _, _, _, _, _, _, _, _, z⟩ := h
  exact z.elim
theorem okN {P : Program} {w : World} {K : PySem.W.Frag} {mg : Str → Option Value} {base : Heap} {x qual : Str} {st : Stmt} {f : Addr} {fd : FuncData} {N ps : List Str} {k : Nat} {sp : Sp} (F : Fun K x qual st f fd) (S : FnScope N ps (defScope st)) (len : ∀ vs H Q E, sp vs H Q E → vs.length = ps.length)
    (hbody : ∀ (cdv : Value) (A : Around) (outer : List Env) (s : Shared) (H : Hp) (vs : List V) (Q : VK) (E : XK), Room k (A.deeper (envOfC qual (defScope st) s.heap.objs.size f cdv)) → sp vs H Q E →
      ∃ t, PSs (cxOf (L2N.CX P w) P w K mg base N qual (defScope st) f cdv A outer s H E) (defBody st) t ∧ t { nx := fun _ H' => Q .non H', rt := Q } (start N vs) H) : FnOk P w K mg base (L2N.CX P w) (k + 1) f fd ps sp := by
  obtain ⟨oc, od, kV, doc, pm, an, cdv, ct, osl, rfl, lk, hcd⟩ := F.ex
  exact fn_of lk hcd S len fun A outer s H vs Q E hr hsp => hbody cdv A outer s H vs Q E hr hsp
end Dw

namespace Dw
open PySem PySem.Spec PyProof.Rows L2
/-! ### the laws' own small defs -/
def rTupleI : List V → Hp → VK → Prop := fun xs H Q => ∃ p ns, xs = [.ref p] ∧ H p = some (IL ns) ∧ ∀ l, H l = none → Q (.ref l) (upd H l (.tup (ns.map V.int)))
theorem call_tupleI {X : Cx} : CallR X (.type "tuple") rTupleI := CallR.imp call_tuple_of fun xs H Q h => by
  obtain ⟨p, ns, e, h1, q⟩ := h
  exact ⟨p, _, e, .inl ⟨.of h1, q⟩⟩
/-- an item of the script, or 0 -/
def spCell (K : PySem.W.Frag) : Sp := fun vs H Q _ => ∃ (a : Addr) (ns : List Int) (k : Int), vs = [.ref a, .int k] ∧ SqL K H a (ns.map V.int) ∧ 0 ≤ k ∧ ∀ z, Q (.int z) H
def D12 (ns : List Int) : Prop := ∀ z ∈ ns, 0 ≤ z ∧ z < 4096
def spDraws : Sp := fun vs H Q _ => ∃ (c n : Int), vs = [.int c, .int n] ∧ 0 ≤ n ∧ n ≤ 1000 ∧ ∀ r ns H', Same H H' → H r = none → H' r = some (IL ns) → (ns.length : Int) = n → D12 ns → Q (.ref r) H'
def spIsInt : Sp := fun vs H Q _ => ∃ i : Int, vs = [.int i] ∧ Q (.bl true) H
def spInts : Sp := fun vs H Q _ => ∃ (p : Addr) (ns : List Int), ((vs = [.ref p, .str "list"] ∧ H p = some (IL ns)) ∨ (vs = [.ref p, .str "tuple"] ∧ H p = some (.tup (ns.map V.int)))) ∧ Q (.bl true) H
def spIsList : Sp := fun vs H Q _ => ∃ (p u : Addr) (ns : List Int), vs = [.ref p, .ref u] ∧ H p = some (IL ns) ∧ H u = some (IL ns) ∧ Q (.bl true) H
def spIsTuple : Sp := fun vs H Q _ => ∃ (p u : Addr) (ns : List Int), vs = [.ref p, .ref u] ∧ H p = some (.tup (ns.map V.int)) ∧ H u = some (.tup (ns.map V.int)) ∧ Q (.bl true) H
def spIsNumber : Sp := fun vs H Q _ => ∃ i : Int, vs = [.int i, .int i] ∧ Q (.bl true) H
theorem getD_mem {ns : List Int} {k : Nat} (h : k < ns.length) : ns.getD k 0 ∈ ns := by
  rw [List.getD_eq_getElem?_getD, List.getElem?_eq_getElem h]
  exact List.getElem_mem h
theorem D12.get {ns : List Int} (h : D12 ns) {k : Nat} (hk : k < ns.length) : 0 ≤ ns.getD k 0 ∧ ns.getD k 0 < 4096 := h _ (getD_mem hk)
/-! ### reads -/
def readF (t : Addr) (r : Int) : List (Str × V) := [("intervals", .ref t), ("rest", .int r)]
theorem rf_int (t : Addr) (r : Int) : List.lookup ("intervals" : Str) (readF t r) = some (.ref t) := by
  unfold readF
  simp [List.lookup]
theorem rf_rest (t : Addr) (r : Int) : List.lookup ("rest" : Str) (readF t r) = some (.int r) := by
  have e : (("rest" : Str) == ("intervals" : Str)) = false := by decide +kernel
  unfold readF
  simp [List.lookup, e]
theorem rf_put (t : Addr) (r : Int) : putF "rest" (.int r) (putF "intervals" (.ref t) []) = readF t r := by
  have e : ¬ ("intervals" : Str) = "rest" := by decide +kernel
  show putF "rest" (.int r) [("intervals", .ref t)] = _
  unfold putF
  rw [if_neg e]
  rfl
def OkRead (ns : List Int) (rest : Int) : Prop := ns.length ≤ 60000 ∧ (∀ t ∈ ns, 1 ≤ t ∧ t ≤ 1000000) ∧ 0 ≤ rest ∧ rest ≤ 1000000
/-- a read at r -/
def RdAt (C : Addr) (H : Hp) (r : Addr) (ns : List Int) (rest : Int) : Prop := ∃ dx t, H r = some (.ins C dx (readF t rest)) ∧ H t = some (.tup (ns.map V.int))
theorem RdAt.same {C : Addr} {H H' : Hp} {r : Addr} {ns : List Int} {rest : Int} (h : RdAt C H r ns rest) (s : Same H H') : RdAt C H' r ns rest := by
  obtain ⟨dx, t, h1, h2⟩ := h
  exact ⟨dx, t, s _ _ h1, s _ _ h2⟩
def spReadInit (C CE : Addr) : Sp := fun vs H Q E => ∃ (x dx a : Addr) (ns : List Int) (rest : Int), vs = [.ref x, .ref a, .int rest] ∧ H x = some (.ins C dx []) ∧ H a = some (IL ns) ∧
  (OkRead ns rest → ∀ t H', H x ≠ none → SameB x H H' → H t = none → H' x = some (.ins C dx (readF t rest)) → H' t = some (.tup (ns.map V.int)) → Q .non H') ∧
  (¬ OkRead ns rest → ∀ H', Same H H' → E (.ref CE) none H')
/-- Read(intervals, rest) -/
def spRead (C CE : Addr) : Sp := fun vs H Q E => ∃ (a : Addr) (ns : List Int) (rest : Int), vs = [.ref a, .int rest] ∧ H a = some (IL ns) ∧
  (OkRead ns rest → ∀ r H', Same H H' → H r = none → RdAt C H' r ns rest → Q (.ref r) H') ∧ (¬ OkRead ns rest → ∀ H', Same H H' → E (.ref CE) none H')
theorem conv_read {C CE : Addr} : Conv C (spReadInit C CE) (spRead C CE) := by
  intro vs H Q E ⟨a, ns, rest, e, hA, h1, h2⟩ x dx nx nd ne
  subst e
  have s0 : Same H (upd H dx (.own x)) := same_new nd _
  have nx' : upd H dx (.own x) x = none := by rw [upd_ne ne.symm]; exact nx
  have s1 : Same (upd H dx (.own x)) (upd (upd H dx (.own x)) x (.ins C dx [])) := same_new nx' _
  have s := s0.trans s1
  refine ⟨x, dx, a, ns, rest, rfl, upd_same, s _ _ hA, fun ok t H' _ sb nt e1 e2 => ⟨rfl, h1 ok x H' (fun b o hb => sb b o (ne_of_none hb nx) (s b o hb)) nx ⟨dx, t, e1, e2⟩⟩, fun no H' sH => h2 no H' (s.trans sH)⟩
def okCell (c : Int) : Prop := 10 ≤ c ∧ c ≤ 1000
def spIsCell : Sp := fun vs H Q _ => ∃ c : Int, vs = [.int c] ∧ Q (.bl (decide (10 ≤ c) && decide (c ≤ 1000))) H
def spCheckCell (CE : Addr) : Sp := fun vs H Q E => ∃ c : Int, vs = [.int c] ∧ (okCell c → Q .non H) ∧ (¬ okCell c → E (.ref CE) none H)
/-! ### the fixed clock -/
/-- how many cells t ticks stand for -/
def nCells (t c : Int) : Int := (2 * t + c) / (2 * c)
def oneCells (n : Int) : List Int := List.replicate (n - 1).toNat 0 ++ [1]
def fixedZ (ns : List Int) (rest c : Int) : List Int := (ns.map fun t => oneCells (max 1 (nCells t c))).flatten ++ List.replicate (nCells rest c).toNat 0
def fixedP (ns : List Int) (c : Int) : List Int := (ns.map fun t => oneCells (max 1 (nCells t c))).flatten
theorem fixedP_more {ns : List Int} {i : Nat} {t c : Int} (h : ns[i]? = some t) : fixedP (ns.take (i + 1)) c = fixedP (ns.take i) c ++ oneCells (max 1 (nCells t c)) := by
  unfold fixedP
  rw [take_more h, List.map_append, List.flatten_append]
  simp
theorem oneCells_len {n : Int} (h : 1 ≤ n) : ((oneCells n).length : Int) = n := by
  unfold oneCells
  rw [List.length_append, List.length_replicate]
  show (((n - 1).toNat + 1 : Nat) : Int) = n
  omega
/-- the sum of the counts stays small -/
def Few (ns : List Int) (rest c : Int) : Prop := ((fixedP ns c).length : Int) + nCells rest c ≤ 16000000
def spFixed (C CE : Addr) : Sp := fun vs H Q E => ∃ (r : Addr) (c : Int) (ns : List Int) (rest : Int), vs = [.ref r, .int c] ∧ RdAt C H r ns rest ∧ OkRead ns rest ∧
  (okCell c → Few ns rest c ∧ ∀ u H', Same H H' → H u = none → H' u = some (IL (fixedZ ns rest c)) → Q (.ref u) H') ∧ (¬ okCell c → E (.ref CE) none H)
theorem take_len_le {α : Type} (l : List α) (i : Nat) : (l.take i).length ≤ l.length := by rw [List.length_take]; exact Nat.min_le_right _ _
theorem fixedP_take_len (ns : List Int) (c : Int) (i : Nat) : (fixedP (ns.take i) c).length ≤ (fixedP ns c).length := by
  have e : fixedP ns c = fixedP (ns.take i) c ++ fixedP (ns.drop i) c := by
    unfold fixedP
    rw [← List.flatten_append, ← List.map_append, List.take_append_drop]
  rw [e, List.length_append]
  omega
end Dw
namespace Dw
theorem ite_t {c : Bool} {A B : Prop} (hc : c = true) (h : A) : if c = true then A else B := by
  rw [if_pos hc]
  exact h
theorem ite_f {c : Bool} {A B : Prop} (hc : c = false) (h : B) : if c = true then A else B := by
  rw [hc, if_neg Bool.false_ne_true]
  exact h
end Dw
namespace Dw
open PySem PySem.Spec PyProof.Rows L2
theorem fld_of {K : PySem.W.Frag} {C dx r t : Addr} {rest : Int} {H : Hp} {i : Nat} {σ : L2.St} {Q : VK} (hσ : σ[i]? = some (some (.ref r))) (hR : H r = some (.ins C dx (readF t rest))) (cl : Cls K C) (na : NoAttr K C "intervals") (q : Q (.ref t) H) : tFld K (tVar i) "intervals" σ H Q :=
  ⟨_, hσ, r, C, dx, _, _, rfl, hR, cl, na, rf_int t rest, q⟩
theorem fld_rest {K : PySem.W.Frag} {C dx r t : Addr} {rest : Int} {H : Hp} {i : Nat} {σ : L2.St} {Q : VK} (hσ : σ[i]? = some (some (.ref r))) (hR : H r = some (.ins C dx (readF t rest))) (cl : Cls K C) (na : NoAttr K C "rest") (q : Q (.int rest) H) : tFld K (tVar i) "rest" σ H Q :=
  ⟨_, hσ, r, C, dx, _, _, rfl, hR, cl, na, rf_rest t rest, q⟩
theorem upd_self {H : Hp} {a : Addr} {o u : HO} : upd (upd H a o) a u a = some u := upd_same
theorem rep_zero (n : Int) : rep n [0] = List.replicate n.toNat 0 := rep_one n 0
theorem nCells_nn {t c : Int} (ht : 0 ≤ t) (hc : 0 < c) : 0 ≤ nCells t c := Int.ediv_nonneg (by omega) (by omega)
end Dw
namespace Dw
open PySem PySem.Spec PyProof.Rows L2
theorem oneCells_nat {n : Int} (h : 1 ≤ n) : (oneCells n).length = (n - 1).toNat + 1 := by
  unfold oneCells
  rw [List.length_append, List.length_replicate]
  rfl
end Dw
namespace Dw
theorem pick2 {P : Int → Prop} {a b : Int} (ha : P a) (hb : P b) {i : Nat} (h : i < 2) : P ([a, b].getD i 0) := by
  match i, h with
  | 0, _ => exact ha
  | 1, _ => exact hb
theorem pick3 {P : Int → Prop} {a b c : Int} (ha : P a) (hb : P b) (hc : P c) {i : Nat} (h : i < 3) : P ([a, b, c].getD i 0) := by
  match i, h with
  | 0, _ => exact ha
  | 1, _ => exact hb
  | 2, _ => exact hc
theorem pick4 {P : Int → Prop} {a b c d : Int} (ha : P a) (hb : P b) (hc : P c) (hd : P d) {i : Nat} (h : i < 4) : P ([a, b, c, d].getD i 0) := by
  match i, h with
  | 0, _ => exact ha
  | 1, _ => exact hb
  | 2, _ => exact hc
  | 3, _ => exact hd
end Dw
namespace Dw
open PySem PySem.Spec PyProof.Rows L2
theorem fixedP_len_le {c : Int} {M : Nat} (hM : 1 ≤ M) : ∀ {ns : List Int}, (∀ t ∈ ns, nCells t c ≤ (M : Int)) → (fixedP ns c).length ≤ ns.length * M
  | [], _ => Nat.zero_le _
  | t :: r, h => by
    have ih := fixedP_len_le (c := c) hM (ns := r) fun x hx => h x (List.mem_cons_of_mem _ hx)
    have ht := h t List.mem_cons_self
    have e : fixedP (t :: r) c = oneCells (max 1 (nCells t c)) ++ fixedP r c := by
      unfold fixedP
      rw [List.map_cons, List.flatten_cons]
    rw [e, List.length_append, oneCells_nat (by omega), List.length_cons, Nat.succ_mul]
    omega
theorem nCells_le {t c m : Int} (hc : 0 < c) (h : t ≤ m * c) : nCells t c ≤ m := by
  unfold nCells
  have : (2 * t + c) / (2 * c) < m + 1 := Int.ediv_lt_of_lt_mul (by omega) (by
    have e1 : (m + 1) * (2 * c) = 2 * (m * c) + 2 * c := by rw [Int.add_mul, Int.one_mul, Int.mul_left_comm]
    rw [e1]
    omega)
  omega
theorem oneCells_split (n : Int) : List.replicate (n - 1).toNat 0 ++ [1] = oneCells n := rfl
end Dw
namespace Dw
open PySem PySem.Spec PyProof.Rows L2
/-! ### cells as flux -/
def fluxT (c : Int) (s : List Int × Int) (b : Int) : List Int × Int := if b = 1 then (s.1 ++ [c * (s.2 + 1)], 0) else (s.1, s.2 + 1)
def fluxS (c : Int) (cells : List Int) : List Int × Int := cells.foldl (fluxT c) ([], 0)
theorem fluxS_more {c : Int} {cells : List Int} {i : Nat} {b : Int} (h : cells[i]? = some b) : fluxS c (cells.take (i + 1)) = fluxT c (fluxS c (cells.take i)) b := by
  unfold fluxS
  rw [take_more h, List.foldl_append]
  rfl
theorem fluxT_len {c : Int} (s : List Int × Int) (b : Int) : (fluxT c s b).1.length ≤ s.1.length + 1 ∧ 0 ≤ (fluxT c s b).2 ∨ s.2 < 0 := by
  unfold fluxT
  by_cases h : b = 1
  · rw [if_pos h]
    exact .inl ⟨by rw [List.length_append]; exact Nat.le_refl _, Int.le_refl 0⟩
  · rw [if_neg h]
    by_cases h2 : s.2 < 0
    · exact .inr h2
    · exact .inl ⟨Nat.le_succ _, by show 0 ≤ s.2 + 1; omega⟩
theorem fluxS_bound (c : Int) (cells : List Int) : ∀ i, i ≤ cells.length → (fluxS c (cells.take i)).1.length ≤ i ∧ 0 ≤ (fluxS c (cells.take i)).2 ∧ (fluxS c (cells.take i)).2 ≤ i
  | 0, _ => ⟨Nat.le_refl _, Int.le_refl _, Int.le_refl _⟩
  | i + 1, h => by
    obtain ⟨h1, h2, h3⟩ := fluxS_bound c cells i (by omega)
    have e : cells[i]? = some (cells[i]'(by omega)) := List.getElem?_eq_getElem (by omega)
    rw [fluxS_more e]
    unfold fluxT
    split
    · refine ⟨by rw [List.length_append]; show _ + 1 ≤ _; omega, Int.le_refl _, by show (0 : Int) ≤ _; omega⟩
    · exact ⟨by show (fluxS c (List.take i cells)).1.length ≤ i + 1; omega, by show 0 ≤ (fluxS c (List.take i cells)).2 + 1; omega, by show (fluxS c (List.take i cells)).2 + 1 ≤ ((i + 1 : Nat) : Int); omega⟩
def spFlux (C CE CR : Addr) : Sp := fun vs H Q E => ∃ (a : Addr) (c : Int) (cells : List Int), vs = [.ref a, .int c] ∧ H a = some (IL cells) ∧ cells.length ≤ 1000000 ∧
  (okCell c → OkRead (fluxS c cells).1 (c * (fluxS c cells).2) → ∀ r H', Same H H' → H r = none → RdAt C H' r (fluxS c cells).1 (c * (fluxS c cells).2) → Q (.ref r) H') ∧
  (okCell c → ¬ OkRead (fluxS c cells).1 (c * (fluxS c cells).2) → ∀ H', Same H H' → E (.ref CR) none H') ∧ (¬ okCell c → E (.ref CE) none H)
/-! ### ints that are only known to be of a kind -/
theorem lc_rangeP {R : Int → Prop} {lo : Int} {n : Nat} {j : Nat} {te : TE} {vs : List Nat} {σ : L2.St} {H1 : Hp} {D : Addr} {Qd : Hp → Prop} (hn : n ≤ 16777215) (hD : H1 D = none) (hw : ∀ v, wipe ((wipe σ vs).set j v) vs = wipe σ vs)
    (hte : ∀ i H3 (Q' : VK), i < n → Same H1 H3 → (∀ v H4, R v → Same H3 H4 → Q' (.int v) H4) → te ((wipe σ vs).set j (some (.int (lo + (i : Nat))))) H3 Q')
    (hd : ∀ ns H', ns.length = n → (∀ v ∈ ns, R v) → Same H1 H' → H' D = some (IL ns) → Qd H') :
    ∃ W : Nat → Nat → Hp → Prop, (∃ m, W 0 m (L2.upd H1 D (.lst []))) ∧ ∀ i m H, W i m H →
      ((Itr lo n).stop i H ∧ Qd H) ∨ ((Itr lo n).go i H ∧ ∃ Nx : Hp → Prop, (∀ H', Nx H' → ∃ m', m' < m ∧ W (i + 1) m' H') ∧ ∀ x H', (Itr lo n).yld i H x H' → gName j x (wipe σ vs) H' fun σ2 H2 => wipe σ2 vs = wipe σ vs ∧ tYes σ2 H2 fun b H3 =>
        if b = true then te σ2 H3 fun y H4 => ∃ acc, H4 D = some (.lst acc) ∧ acc.length < sizeLine ∧ Nx (L2.upd H4 D (.lst (acc ++ [y]))) else Nx H3) := by
  refine lc_range (lo := lo) (n := n) (fun i H' => Same H1 H' ∧ ∃ ns : List Int, H' D = some (IL ns) ∧ ns.length = i ∧ ∀ v ∈ ns, R v) ⟨same_new hD _, [], upd_same, rfl, fun v h => by cases h⟩ ?_ ?_
  · intro i H hi h
    obtain ⟨h1, ns, h3, h4, h5⟩ := h
    refine ⟨hw _, ?_⟩
    simp only [tYes, if_true]
    refine hte i H _ hi h1 fun v H4 hR hs => ?_
    have e : H4 D = some (IL ns) := hs D _ h3
    have ez : ns.map V.int ++ [V.int v] = (ns ++ [v]).map V.int := by rw [List.map_append]; rfl
    refine ⟨ns.map V.int, e, by rw [List.length_map, h4]; exact line_lt (by omega), fun b o hb => ?_, ns ++ [v], ?_, by rw [List.length_append, h4]; rfl, ?_⟩
    · rw [upd_ne (ne_of_none hb hD)]
      exact hs _ _ (h1 b o hb)
    · rw [upd_same, ez]
      rfl
    · intro x hx
      rcases List.mem_append.mp hx with hx | hx
      · exact h5 x hx
      · rw [List.mem_singleton.mp hx]; exact hR
  · intro H h
    obtain ⟨h1, ns, h3, h4, h5⟩ := h
    exact hd ns H h4 h5 h1 h3
end Dw

namespace Dw
open PySem PySem.Spec PyProof.Rows L2
/-! ### bits, FM, MFM -/
/-- a def of one list of ints that hands back a new one -/
def spL1 (C : List Int → Prop) (f : List Int → List Int) : Sp := fun vs H Q _ => ∃ (a : Addr) (ns : List Int), vs = [.ref a] ∧ H a = some (IL ns) ∧ C ns ∧ ∀ r H', Same H H' → H r = none → H' r = some (IL (f ns)) → Q (.ref r) H'
def CB (ns : List Int) : Prop := Bytes ns ∧ ns.length ≤ 100000
def bitsOf (ns : List Int) : List Int := (ns.map fun n => bits8 n.toNat).flatten
theorem bits8_len (v : Nat) : (bits8 v).length = 8 := rfl
theorem bitsOf_len : ∀ ns : List Int, (bitsOf ns).length = 8 * ns.length
  | [] => rfl
  | n :: r => by
    unfold bitsOf
    rw [List.map_cons, List.flatten_cons, List.length_append, bits8_len]
    have := bitsOf_len r
    unfold bitsOf at this
    rw [this, List.length_cons]
    omega
theorem bitsOf_more {ns : List Int} {i v : Nat} (h : ns[i]? = some (v : Int)) : bitsOf (ns.take (i + 1)) = bitsOf (ns.take i) ++ bits8 v := by
  unfold bitsOf
  rw [take_more h, List.map_append, List.flatten_append]
  simp
/-- each bit behind a 1 -/
def fmZ (bs : List Int) : List Int := (bs.map fun b => [1, b]).flatten
theorem fmZ_len : ∀ bs : List Int, (fmZ bs).length = 2 * bs.length
  | [] => rfl
  | n :: r => by
    unfold fmZ
    rw [List.map_cons, List.flatten_cons, List.length_append]
    have := fmZ_len r
    unfold fmZ at this
    rw [this, List.length_cons]
    show 2 + 2 * r.length = 2 * (r.length + 1)
    omega
theorem fmZ_more {bs : List Int} {i : Nat} {b : Int} (h : bs[i]? = some b) : fmZ (bs.take (i + 1)) = fmZ (bs.take i) ++ [1, b] := by
  unfold fmZ
  rw [take_more h, List.map_append, List.flatten_append]
  simp
def clk (last b : Int) : Int := if last = 0 ∧ b = 0 then 1 else 0
/-- the bit behind a beginning of a list -/
def lastOf (before : Int) (bs : List Int) : Int := bs.getLastD before
def mfmZ (before : Int) (bs : List Int) : List Int := (List.range bs.length).flatMap fun i => [clk (lastOf before (bs.take i)) (bs.getD i 0), bs.getD i 0]
/-- the loop's way: cells so far -/
def mfmF (before : Int) : List Int → List Int
  | [] => []
  | b :: r => clk before b :: b :: mfmF b r
theorem mfmF_len : ∀ (before : Int) (bs : List Int), (mfmF before bs).length = 2 * bs.length
  | _, [] => rfl
  | _, b :: r => by
    show (mfmF b r).length + 1 + 1 = 2 * (r.length + 1)
    rw [mfmF_len b r]
    omega
theorem mfmF_append : ∀ (before : Int) (bs cs : List Int), mfmF before (bs ++ cs) = mfmF before bs ++ mfmF (lastOf before bs) cs
  | _, [], _ => rfl
  | before, b :: r, cs => by
    show clk before b :: b :: mfmF b (r ++ cs) = clk before b :: b :: (mfmF b r ++ mfmF (lastOf before (b :: r)) cs)
    rw [mfmF_append b r cs]
    have : lastOf before (b :: r) = lastOf b r := by
      unfold lastOf
      cases r with
      | nil => rfl
      | cons x t => simp [List.getLastD]
    rw [this]
theorem mfmF_more {before : Int} {bs : List Int} {i : Nat} {b : Int} (h : bs[i]? = some b) : mfmF before (bs.take (i + 1)) = mfmF before (bs.take i) ++ [clk (lastOf before (bs.take i)) b, b] := by
  rw [take_more h, mfmF_append]
  rfl
theorem lastOf_more {before : Int} {bs : List Int} {i : Nat} {b : Int} (h : bs[i]? = some b) : lastOf before (bs.take (i + 1)) = b := by
  rw [take_more h]
  unfold lastOf
  simp
def spClk : Sp := fun vs H Q _ => ∃ a b : Int, vs = [.int a, .int b] ∧ Q (.int (clk a b)) H
def spMfm : Sp := fun vs H Q _ => ∃ (a : Addr) (ns : List Int) (b : Int), vs = [.ref a, .int b] ∧ H a = some (IL ns) ∧ CB ns ∧ ∀ r H', Same H H' → H r = none → H' r = some (IL (mfmF b (bitsOf ns))) → Q (.ref r) H'
theorem bit_div (v k : Nat) : Builtin.bitAnd ((v : Int) / 2 ^ k) 1 = ((v / 2 ^ k % 2 : Nat) : Int) := by rw [zdiv, and1]
end Dw
namespace Dw
open PySem PySem.Spec PyProof.Rows L2
def Bits (bs : List Int) : Prop := ∀ b ∈ bs, b = 0 ∨ b = 1
theorem bits8_bits (v : Nat) : Bits (bits8 v) := by
  intro b hb
  unfold bits8 at hb
  simp only [List.mem_cons, List.not_mem_nil, or_false] at hb
  rcases hb with h | h | h | h | h | h | h | h <;> (subst h; omega)
theorem bitsOf_bits : ∀ ns : List Int, Bits (bitsOf ns)
  | [] => fun b hb => by cases hb
  | n :: r => fun b hb => by
    unfold bitsOf at hb
    rw [List.map_cons, List.flatten_cons] at hb
    rcases List.mem_append.mp hb with hb | hb
    · exact bits8_bits _ b hb
    · exact bitsOf_bits r b hb
theorem bits_at {bs : List Int} {i : Nat} {z : Int} (h : Bits bs) (hz : bs[i]? = some z) : z = 0 ∨ z = 1 := h z (List.mem_of_getElem? hz)
theorem lastOf_bit {before : Int} {bs : List Int} (h0 : before = 0 ∨ before = 1) (h : Bits bs) : lastOf before bs = 0 ∨ lastOf before bs = 1 := by
  unfold lastOf
  cases bs with
  | nil => exact h0
  | cons b r =>
    have : (b :: r).getLastD before ∈ (b :: r) := by
      rw [List.getLastD_cons]
      cases r with
      | nil => exact List.mem_cons_self
      | cons x t =>
        have e : (x :: t).getLastD b = (x :: t).getLast (List.cons_ne_nil _ _) := by simp [List.getLastD]
        rw [e]
        exact List.mem_cons_of_mem _ (List.getLast_mem _)
    exact h _ this
theorem take_bits {bs : List Int} {k : Nat} (h : Bits bs) : Bits (bs.take k) := fun b hb => h b (List.mem_of_mem_take hb)
/-- int(last + bit == 0) -/
theorem clk_sum {a b : Int} (ha : a = 0 ∨ a = 1) (hb : b = 0 ∨ b = 1) : (if a + b = 0 then (1 : Int) else 0) = clk a b := by
  unfold clk
  rcases ha with rfl | rfl <;> rcases hb with rfl | rfl <;> decide
theorem dtl3 {H : Hp} {x y z : V} {d e f : PyData} (h1 : Dt H x d) (h2 : Dt H y e) (h3 : Dt H z f) : DtAll H [x, y, z] [d, e, f] := .cons h1 (.cons h2 (.cons h3 .nil))
theorem shaped_list3 {d e f : PyData} (h1 : d.canLay0 = true) (h2 : e.canLay0 = true) (h3 : f.canLay0 = true) (k1 : d.depth ≤ 6) (k2 : e.depth ≤ 6) (k3 : f.depth ≤ 6) : SeqAt.shaped (.list [d, e, f]) = true ∧ (PyData.list [d, e, f]).depth < 8 := by
  unfold SeqAt.shaped
  simp only [PyData.canLay0, PyData.canLayAll0, PyData.depth, PyData.depthAll, h1, h2, h3, Bool.and_true, Bool.true_and, decide_eq_true_eq]
  have : max d.depth (max e.depth (max f.depth 0)) ≤ 6 := by
    rw [Nat.max_le, Nat.max_le, Nat.max_le]
    exact ⟨k1, k2, k3, Nat.zero_le _⟩
  exact ⟨decide_eq_true (Nat.le_trans (Nat.succ_le_succ this) (by decide)), Nat.lt_of_le_of_lt (Nat.succ_le_succ this) (by decide)⟩
theorem lay_ints (ns : List Int) : (PyData.list (ns.map PyData.int)).canLay0 = true := by rw [PyData.canLay0]; exact canLay_ints ns
theorem dep6_ints (ns : List Int) : (PyData.list (ns.map PyData.int)).depth ≤ 6 := by
  have := depthAll_ints ns
  simp only [PyData.depth]
  omega
end Dw
namespace Dw
open PySem PySem.Spec PyProof.Rows L2
theorem IL_ne {H : Hp} {a b x : Addr} {ns : List Int} {r : List V} (h1 : H a = some (IL ns)) (h2 : H b = some (.lst (.ref x :: r))) : a ≠ b := by
  refine ne_of h1 h2 fun e => ?_
  unfold IL at e
  injection e with e
  cases ns with
  | nil => cases e
  | cons x t => rw [List.map_cons] at e; injection e with e _; cases e
theorem Pool.ne_len {H : Hp} {p q b : Addr} {xs : List V} (h : Pool H p q) (h2 : H b = some (.lst xs)) (hx : xs.length ≠ 5) : p ≠ b := by
  obtain ⟨ns, a, b', c, d, e, _⟩ := h
  refine ne_of e h2 fun z => hx ?_
  unfold PoolL at z
  injection z with z
  rw [← z]
  rfl
theorem Pool.ne_ref {H : Hp} {p q b x : Addr} {r : List V} (h : Pool H p q) (h2 : H b = some (.lst (.ref x :: r))) : q ≠ b := by
  obtain ⟨ns, a, b', c, d, e, e2, _⟩ := h
  exact IL_ne (ns := ns) e2 h2
end Dw

namespace Dw
open PySem PySem.Spec PyProof.Rows L2
theorem nCells_mul {c m e : Int} (hc : 0 < c) (h1 : -c < 2 * e) (h2 : 2 * e < c) : nCells (c * m + e) c = m := by
  unfold nCells
  have e1 : 2 * (c * m + e) + c = (2 * e + c) + m * (2 * c) := by
    have : m * (2 * c) = 2 * (c * m) := by rw [Int.mul_left_comm, Int.mul_comm m c]
    rw [this]
    omega
  rw [e1, Int.add_mul_ediv_right _ _ (by omega), Int.ediv_eq_zero_of_lt (by omega) (by omega)]
  omega
theorem fixedP_congr {c : Int} {ns ms : List Int} (h : ns.map (fun t => nCells t c) = ms.map (fun t => nCells t c)) : fixedP ns c = fixedP ms c := by
  have e : ∀ l : List Int, fixedP l c = ((l.map fun t => nCells t c).map fun n => oneCells (max 1 n)).flatten := by
    intro l
    unfold fixedP
    rw [List.map_map]
    rfl
  rw [e, e, h]
theorem fixedP_append (ns ms : List Int) (c : Int) : fixedP (ns ++ ms) c = fixedP ns c ++ fixedP ms c := by
  unfold fixedP
  rw [List.map_append, List.flatten_append]
theorem replicate_snoc0 (n : Nat) : List.replicate (n + 1) (0 : Int) = List.replicate n 0 ++ [0] := by
  rw [List.replicate_succ']
/-- the clock gives the cells again, behind any beginning -/
theorem flux_back {c : Int} (hc : 0 < c) {cells : List Int} (hb : Bits cells) : ∀ i, i ≤ cells.length →
    fixedP (fluxS c (cells.take i)).1 c ++ List.replicate (fluxS c (cells.take i)).2.toNat 0 = cells.take i ∧ (∀ t ∈ (fluxS c (cells.take i)).1, ∃ m : Int, 1 ≤ m ∧ m ≤ i ∧ t = c * m)
  | 0, _ => ⟨rfl, fun t h => by cases h⟩
  | i + 1, h => by
    obtain ⟨h1, h2⟩ := flux_back hc hb i (by omega)
    have hbd := fluxS_bound c cells i (by omega)
    have e : cells[i]? = some (cells[i]'(by omega)) := List.getElem?_eq_getElem (by omega)
    have hbit := bits_at hb e
    generalize cells[i]'(by omega) = b at e hbit
    rw [fluxS_more e, take_more e]
    generalize fluxS c (cells.take i) = s at h1 h2 hbd
    obtain ⟨is, n⟩ := s
    simp only at h1 h2 hbd ⊢
    unfold fluxT
    rcases hbit with rfl | rfl
    · rw [if_neg (by decide)]
      refine ⟨?_, fun t ht => ?_⟩
      · have : (n + 1).toNat = n.toNat + 1 := by omega
        show fixedP is c ++ List.replicate (n + 1).toNat 0 = _
        rw [this, replicate_snoc0, ← List.append_assoc, h1]
      · obtain ⟨m, m1, m2, m3⟩ := h2 t ht
        exact ⟨m, m1, by omega, m3⟩
    · rw [if_pos rfl]
      have hn : nCells (c * (n + 1)) c = n + 1 := by
        have := nCells_mul (c := c) (m := n + 1) (e := 0) hc (by omega) (by omega)
        rw [Int.add_zero] at this
        exact this
      refine ⟨?_, fun t ht => ?_⟩
      · show fixedP (is ++ [c * (n + 1)]) c ++ List.replicate (0 : Int).toNat 0 = _
        have e1 : fixedP [c * (n + 1)] c = List.replicate n.toNat 0 ++ [1] := by
          unfold fixedP
          rw [List.map_cons, List.map_nil, List.flatten_cons, List.flatten_nil, List.append_nil, hn]
          have : max 1 (n + 1) = n + 1 := by omega
          rw [this]
          unfold oneCells
          have : (n + 1 - 1).toNat = n.toNat := by omega
          rw [this]
        rw [fixedP_append, e1, ← h1]
        simp
      · rcases List.mem_append.mp ht with ht | ht
        · obtain ⟨m, m1, m2, m3⟩ := h2 t ht
          exact ⟨m, m1, by omega, m3⟩
        · rw [List.mem_singleton.mp ht]
          exact ⟨n + 1, by omega, by omega, rfl⟩
theorem flux_back_all {c : Int} (hc : 0 < c) {cells : List Int} (hb : Bits cells) :
    fixedP (fluxS c cells).1 c ++ List.replicate (fluxS c cells).2.toNat 0 = cells ∧ (∀ t ∈ (fluxS c cells).1, ∃ m : Int, 1 ≤ m ∧ m ≤ cells.length ∧ t = c * m) := by
  have h := flux_back hc hb cells.length (Nat.le_refl _)
  rw [List.take_length] at h
  exact h
theorem flux_bound_all (c : Int) (cells : List Int) : (fluxS c cells).1.length ≤ cells.length ∧ 0 ≤ (fluxS c cells).2 ∧ (fluxS c cells).2 ≤ cells.length := by
  have h := fluxS_bound c cells cells.length (Nat.le_refl _)
  rw [List.take_length] at h
  exact h
theorem fixedP_len_bits {c : Int} (hc : 0 < c) {cells : List Int} (hb : Bits cells) : (fixedP (fluxS c cells).1 c).length ≤ cells.length := by
  have h := (flux_back_all hc hb).1
  have e : (fixedP (fluxS c cells).1 c ++ List.replicate (fluxS c cells).2.toNat 0).length = cells.length := by rw [h]
  rw [List.length_append] at e
  omega
end Dw
namespace Dw
open PySem PySem.Spec PyProof.Rows L2
/-! ### the following clock -/
def folN (t p : Int) : Int := max 1 ((32 * t + p) / (2 * p))
def folP (t p c : Int) : Int := min (max (p + (16 * t - folN t p * p) / (8 * folN t p)) (12 * c)) (20 * c)
def folT (c : Int) (s : Int × List Int) (t : Int) : Int × List Int := (folP t s.1 c, s.2 ++ oneCells (folN t s.1))
def folS (c : Int) (ns : List Int) : Int × List Int := ns.foldl (folT c) (16 * c, [])
def folR (rest p : Int) : Int := (32 * rest + p) / (2 * p)
def followZ (ns : List Int) (rest c : Int) : List Int := (folS c ns).2 ++ List.replicate (folR rest (folS c ns).1).toNat 0
theorem folS_more {c : Int} {ns : List Int} {i : Nat} {t : Int} (h : ns[i]? = some t) : folS c (ns.take (i + 1)) = folT c (folS c (ns.take i)) t := by
  unfold folS
  rw [take_more h, List.foldl_append]
  rfl
theorem folS_period {c : Int} (hc : 0 < c) (ns : List Int) : 12 * c ≤ (folS c ns).1 ∧ (folS c ns).1 ≤ 20 * c := by
  have : ∀ (l : List Int) (s : Int × List Int), 12 * c ≤ s.1 → s.1 ≤ 20 * c → 12 * c ≤ (l.foldl (folT c) s).1 ∧ (l.foldl (folT c) s).1 ≤ 20 * c := by
    intro l
    induction l with
    | nil => intro s h1 h2; exact ⟨h1, h2⟩
    | cons t r ih =>
      intro s _ _
      refine ih _ ?_ ?_
      · show 12 * c ≤ folP t s.1 c
        unfold folP
        omega
      · show folP t s.1 c ≤ 20 * c
        unfold folP
        omega
  exact this ns _ (by show 12 * c ≤ 16 * c; omega) (by show 16 * c ≤ 20 * c; omega)
theorem folS_len {c : Int} (ns : List Int) (i : Nat) : (folS c (ns.take i)).2.length ≤ (folS c ns).2.length := by
  have : ∀ (l : List Int) (s : Int × List Int), s.2.length ≤ (l.foldl (folT c) s).2.length := by
    intro l
    induction l with
    | nil => intro s; exact Nat.le_refl _
    | cons t r ih =>
      intro s
      refine Nat.le_trans ?_ (ih _)
      show s.2.length ≤ (s.2 ++ oneCells _).length
      rw [List.length_append]
      omega
  have e : folS c ns = (ns.drop i).foldl (folT c) (folS c (ns.take i)) := by
    unfold folS
    rw [← List.foldl_append, List.take_append_drop]
  rw [e]
  exact this _ _
theorem folN_le {t p m : Int} (hp : 0 < p) (h1 : 1 ≤ m) (h : 32 * t + p < (m + 1) * (2 * p)) : folN t p ≤ m := by
  unfold folN
  have : (32 * t + p) / (2 * p) < m + 1 := Int.ediv_lt_of_lt_mul (by omega) h
  omega
def FewF (ns : List Int) (rest c : Int) : Prop := ((folS c ns).2.length : Int) + folR rest (folS c ns).1 ≤ 16000000
theorem folR_nn {t p : Int} (ht : 0 ≤ t) (hp : 0 < p) : 0 ≤ folR t p := Int.ediv_nonneg (by omega) (by omega)
def spFollow (C CE : Addr) : Sp := fun vs H Q E => ∃ (r : Addr) (c : Int) (ns : List Int) (rest : Int), vs = [.ref r, .int c] ∧ RdAt C H r ns rest ∧ OkRead ns rest ∧
  (okCell c → FewF ns rest c ∧ ∀ u H', Same H H' → H u = none → H' u = some (IL (followZ ns rest c)) → Q (.ref u) H') ∧ (¬ okCell c → E (.ref CE) none H)
end Dw
namespace Dw
theorem folS_len_le {c : Int} (hc : 0 < c) {ns : List Int} (h : ∀ t ∈ ns, t ≤ 6 * c) : (folS c ns).2.length ≤ 8 * ns.length := by
  have : ∀ (l : List Int) (s : Int × List Int), (∀ t ∈ l, t ≤ 6 * c) → 12 * c ≤ s.1 → s.1 ≤ 20 * c → (l.foldl (folT c) s).2.length ≤ s.2.length + 8 * l.length := by
    intro l
    induction l with
    | nil => intro s _ _ _; exact Nat.le_refl _
    | cons t r ih =>
      intro s hl h1 h2
      have ht := hl t List.mem_cons_self
      have hN : folN t s.1 ≤ 8 := folN_le (by omega) (by decide) (by omega)
      have hN1 : 1 ≤ folN t s.1 := by unfold folN; omega
      have := ih (folT c s t) (fun x hx => hl x (List.mem_cons_of_mem _ hx)) (by show 12 * c ≤ folP t s.1 c; unfold folP; omega) (by show folP t s.1 c ≤ 20 * c; unfold folP; omega)
      refine Nat.le_trans this ?_
      show (s.2 ++ oneCells (folN t s.1)).length + _ ≤ _
      rw [List.length_append, oneCells_nat hN1, List.length_cons]
      omega
  have := this ns (16 * c, []) h (by show 12 * c ≤ 16 * c; omega) (by show 16 * c ≤ 20 * c; omega)
  have e : ([] : List Int).length + 8 * ns.length = 8 * ns.length := by simp
  rw [← e]
  exact this
end Dw

namespace Dw
open PySem PySem.Spec PyProof.Rows L2
/-! ### loops under a name, so that a symbolic run stops in front of them -/
def LcW (J : It) (g : TG) (tt : TT) (te : TE) (vs : List Nat) (σ : L2.St) (H1 : Hp) (D : Addr) (Qd : Hp → Prop) : Prop :=
  ∃ W : Nat → Nat → Hp → Prop, (∃ m, W 0 m (L2.upd H1 D (.lst []))) ∧ ∀ i m H, W i m H →
    (J.stop i H ∧ Qd H) ∨ (J.go i H ∧ ∃ Nx : Hp → Prop, (∀ H', Nx H' → ∃ m', m' < m ∧ W (i + 1) m' H') ∧ ∀ x H', J.yld i H x H' → g x (wipe σ vs) H' fun σ2 H2 => wipe σ2 vs = wipe σ vs ∧ tt σ2 H2 fun b H3 =>
        if b = true then te σ2 H3 fun y H4 => ∃ acc, H4 D = some (.lst acc) ∧ acc.length < sizeLine ∧ Nx (L2.upd H4 D (.lst (acc ++ [y]))) else Nx H3)
theorem tLc_eq {wi : TI} {g : TG} {tt : TT} {te : TE} {vs : List Nat} {σ : L2.St} {H : Hp} {Q : VK} :
    tLc wi g tt te vs σ H Q = wi σ H fun J H1 => ∀ D, H1 D = none → LcW J g tt te vs σ H1 D fun H' => Q (.ref D) H' := rfl
def ForW (J : It) (g : TG) (tb : TS) (D : Ends) (σ : L2.St) (H1 : Hp) : Prop := ∃ W : Nat → Nat → L2.St → Hp → Prop, (∃ m, W 0 m σ H1) ∧ ∀ i m σ H, W i m σ H →
  (J.stop i H ∧ D.nx σ H) ∨ (J.go i H ∧ ∃ N : L2.St → Hp → Prop, (∀ σ' H', N σ' H' → ∃ m', m' < m ∧ W (i + 1) m' σ' H') ∧ ∀ x H', J.yld i H x H' → g x σ H' fun σ2 H2 => tb { D with nx := N, ct := N, bk := D.nx } σ2 H2)
theorem tFor_eq {wi : TI} {g : TG} {tb : TS} {D : Ends} {σ : L2.St} {H : Hp} : tFor wi g tb D σ H = wi σ H fun J H1 => ForW J g tb D σ H1 := rfl
end Dw

namespace Dw
open PySem PySem.Spec PyProof.Rows L2
/-! ### lists of lists of ints -/
def RowsAt (H : Hp) (p : Addr) (rs : List (List Int)) : Prop := ∃ as : List Addr, H p = some (.lst (as.map V.ref)) ∧ as.length = rs.length ∧ ∀ i a, as[i]? = some a → H a = some (IL (rs.getD i []))
theorem RowsAt.same {H H' : Hp} {p : Addr} {rs : List (List Int)} (h : RowsAt H p rs) (s : Same H H') : RowsAt H' p rs := by
  obtain ⟨as, h1, h2, h3⟩ := h
  exact ⟨as, s _ _ h1, h2, fun i a e => s _ _ (h3 i a e)⟩
theorem refs_at {as : List Addr} {i : Nat} {x : V} (h : (as.map V.ref)[i]? = some x) : ∃ a, as[i]? = some a ∧ x = .ref a := by
  rw [List.getElem?_map] at h
  cases hh : as[i]? with
  | none => rw [hh] at h; cases h
  | some a => rw [hh] at h; exact ⟨a, rfl, (Option.some.inj h).symm⟩
/-- the lists of lists as data -/
def LL (rs : List (List Int)) : List PyData := rs.map fun r => .list (r.map PyData.int)
theorem dp_LL {K : PySem.W.Frag} {H : Hp} : ∀ (as : List Addr) (rs : List (List Int)), as.length = rs.length → (∀ i a, as[i]? = some a → H a = some (IL (rs.getD i []))) → DpAll K H (as.map V.ref) (LL rs)
  | [], [], _, _ => .nil
  | a :: as, r :: rs, hl, h => .cons (dp_IL (h 0 a rfl)) (dp_LL as rs (by simpa using hl) fun i a e => h (i + 1) a e)
  | [], _ :: _, hl, _ => by simp at hl
  | _ :: _, [], hl, _ => by simp at hl
theorem RowsAt.dp {K : PySem.W.Frag} {H : Hp} {p : Addr} {rs : List (List Int)} (h : RowsAt H p rs) : Dp K H (.ref p) (.list (LL rs)) := by
  obtain ⟨as, h1, h2, h3⟩ := h
  exact .lst (.of h1) (dp_LL as rs h2 h3)
theorem dt_LL {H : Hp} : ∀ (as : List Addr) (rs : List (List Int)), as.length = rs.length → (∀ i a, as[i]? = some a → H a = some (IL (rs.getD i []))) → DtAll H (as.map V.ref) (LL rs)
  | [], [], _, _ => .nil
  | a :: as, r :: rs, hl, h => .cons (dt_IL (h 0 a rfl)) (dt_LL as rs (by simpa using hl) fun i a e => h (i + 1) a e)
  | [], _ :: _, hl, _ => by simp at hl
  | _ :: _, [], hl, _ => by simp at hl
theorem RowsAt.dt {H : Hp} {p : Addr} {rs : List (List Int)} (h : RowsAt H p rs) : Dt H (.ref p) (.list (LL rs)) := by
  obtain ⟨as, h1, h2, h3⟩ := h
  exact .lst h1 (dt_LL as rs h2 h3)
theorem LL_lay : ∀ rs : List (List Int), PyData.canLayAll0 (LL rs) = true
  | [] => rfl
  | r :: rs => by
    show PyData.canLayAll0 (.list (r.map PyData.int) :: LL rs) = true
    rw [PyData.canLayAll0, LL_lay rs, PyData.canLay0, canLay_ints r]
    rfl
theorem LL_depth : ∀ rs : List (List Int), PyData.depthAll (LL rs) ≤ 3
  | [] => by decide
  | r :: rs => by
    show PyData.depthAll (.list (r.map PyData.int) :: LL rs) ≤ 3
    have h1 := LL_depth rs
    have h2 := Dw.depthAll_ints r
    simp only [PyData.depthAll, PyData.depth]
    omega
theorem shaped_LL (rs : List (List Int)) : SeqAt.shaped (.list (LL rs)) = true := by
  have h1 := LL_lay rs
  have h2 := LL_depth rs
  unfold SeqAt.shaped
  rw [Bool.and_eq_true]
  refine ⟨by rw [PyData.canLay0]; exact h1, decide_eq_true ?_⟩
  simp only [PyData.depth]
  omega
theorem eqvAll_LL : ∀ rs ts : List (List Int), PyData.eqvAll (LL rs) (LL ts) = decide (rs = ts)
  | [], [] => by
    show PyData.eqvAll [] [] = _
    rw [PyData.eqvAll]
    rfl
  | [], _ :: _ => by
    show PyData.eqvAll [] (_ :: _) = _
    rw [PyData.eqvAll, decide_eq_false (fun e => by cases e)]
  | _ :: _, [] => by
    show PyData.eqvAll (_ :: _) [] = _
    rw [PyData.eqvAll, decide_eq_false (fun e => by cases e)]
  | r :: rs, t :: ts => by
    show PyData.eqvAll (.list (r.map PyData.int) :: LL rs) (.list (t.map PyData.int) :: LL ts) = _
    rw [PyData.eqvAll, eqvAll_LL rs ts, PyData.eqv, eqvAll_ints]
    by_cases h : r = t
    · subst h
      by_cases h2 : rs = ts
      · subst h2; simp
      · rw [decide_eq_false h2, decide_eq_false (fun e => h2 (List.cons.inj e).2)]; simp
    · rw [decide_eq_false h, decide_eq_false (fun e => h (List.cons.inj e).1)]
      rfl
theorem RowsAt.push {H : Hp} {p u : Addr} {as : List Addr} {rs : List (List Int)} {r : List Int} (h1 : H p = some (.lst (as.map V.ref))) (h2 : as.length = rs.length) (h3 : ∀ i a, as[i]? = some a → H a = some (IL (rs.getD i []))) (hu : H u = some (IL r)) (n : u ≠ p) :
    RowsAt (upd H p (.lst (as.map V.ref ++ [.ref u]))) p (rs ++ [r]) := by
  refine ⟨as ++ [u], by rw [upd_same, List.map_append]; rfl, by rw [List.length_append, List.length_append, h2]; rfl, fun i a e => ?_⟩
  by_cases hi : i < as.length
  · rw [List.getElem?_append_left hi] at e
    have e3 := h3 i a e
    have na : a ≠ p := fun q => by
      subst q
      rw [h1] at e3
      unfold IL at e3
      injection e3 with e3
      injection e3 with e3
      cases as with
      | nil => simp at hi
      | cons b bs =>
        cases hr : rs.getD i [] with
        | nil => rw [hr] at e3; cases e3
        | cons c cs => rw [hr] at e3; cases e3
    rw [upd_ne na, e3]
    rw [List.getD_eq_getElem?_getD, List.getD_eq_getElem?_getD, List.getElem?_append_left (by omega)]
  · have hi' : i = as.length := by
      have := (List.getElem?_eq_some_iff.mp e).1
      rw [List.length_append] at this
      simp at this
      omega
    subst hi'
    rw [List.getElem?_append_right (Nat.le_refl _), Nat.sub_self] at e
    cases e
    rw [upd_ne n, hu, List.getD_eq_getElem?_getD, List.getElem?_append_right (by omega), h2, Nat.sub_self]
    rfl
/-- all but P stands: rows that are not at P -/
theorem RowsAt.sameB {P : Addr} {H H' : Hp} {p : Addr} {rs : List (List Int)} (h : RowsAt H p rs) (s : SameB P H H') (n : p ≠ P) (hn : ∀ ns, H P ≠ some (IL ns)) : RowsAt H' p rs := by
  obtain ⟨as, h1, h2, h3⟩ := h
  exact ⟨as, s _ _ n h1, h2, fun i a e => s _ _ (fun q => by subst q; exact hn _ (h3 i _ e)) (h3 i a e)⟩
theorem Pool.nIL {H : Hp} {p q : Addr} (h : Pool H p q) (ns : List Int) : H p ≠ some (IL ns) := by
  obtain ⟨ss, a, b, c, d, h1, _⟩ := h
  rw [h1]
  intro e
  unfold PoolL IL at e
  injection e with e
  injection e with e
  cases ns with
  | nil => cases e
  | cons n r => rw [List.map_cons] at e; injection e with e _; cases e
theorem RowsAt.pool {H H' : Hp} {P q p : Addr} {rs : List (List Int)} (h : RowsAt H p rs) (hP : Pool H P q) (s : SameB P H H') (n : p ≠ P) : RowsAt H' p rs := h.sameB s n hP.nIL
theorem RowsAt.len {H : Hp} {p : Addr} {rs : List (List Int)} (h : RowsAt H p rs) : ∃ xs, H p = some (.lst xs) ∧ xs.length = rs.length := by
  obtain ⟨as, h1, h2, _⟩ := h
  exact ⟨_, h1, by rw [List.length_map, h2]⟩
/-- [[..] for j in range(n)] of drawn lists -/
theorem lc_rowsP {p q : Addr} {R : List Int → Prop} {lo : Int} {n j : Nat} {te : TE} {vs : List Nat} {σ : L2.St} {H1 : Hp} {D : Addr} {Qd : Hp → Prop} (hn : n ≤ 16777215) (hP : Pool H1 p q) (hD : H1 D = none) (hw : ∀ v, wipe ((wipe σ vs).set j v) vs = wipe σ vs)
    (hte : ∀ i H3 (Q' : VK), i < n → Pool H3 p q → SameB p H1 H3 → (∀ u r H4, R r → Pool H4 p q → SameB p H3 H4 → H3 u = none → H4 u = some (IL r) → Q' (.ref u) H4) → te ((wipe σ vs).set j (some (.int (lo + (i : Nat))))) H3 Q')
    (hd : ∀ rs H', rs.length = n → (∀ r ∈ rs, R r) → Pool H' p q → SameB p H1 H' → RowsAt H' D rs → Qd H') :
    LcW (Itr lo n) (gName j) tYes te vs σ H1 D Qd := by
  have hDp : p ≠ D := hP.ne hD
  have hDq : q ≠ D := hP.ne2 hD
  refine lc_range (lo := lo) (n := n) (fun i H' => Pool H' p q ∧ SameB p H1 H' ∧ ∃ rs : List (List Int), RowsAt H' D rs ∧ rs.length = i ∧ ∀ r ∈ rs, R r) ⟨hP.upd hD, Same.b (same_new hD _), [], ⟨[], upd_same, rfl, fun i a h => by simp at h⟩, rfl, fun v h => by cases h⟩ ?_ ?_
  · intro i H hi h
    obtain ⟨h1, h2, rs, h3, h4, h5⟩ := h
    refine ⟨hw _, ?_⟩
    simp only [tYes, if_true]
    refine hte i H _ hi h1 h2 fun u r H4 hR hP4 hs hu eu => ?_
    have h6 := h3.pool h1 hs hDp.symm
    obtain ⟨as, k1, k2, k3⟩ := h6
    obtain ⟨xs, m1, _⟩ := h3.len
    have nu : u ≠ D := fun e => by subst e; rw [m1] at hu; cases hu
    refine ⟨as.map V.ref, k1, by rw [List.length_map, k2, h4]; exact line_lt (by omega), hP4.ups hDp hDq, ?_, rs ++ [r], RowsAt.push k1 k2 k3 eu nu, by rw [List.length_append, h4]; rfl, ?_⟩
    · intro b o nb hb
      rw [upd_ne (ne_of_none hb hD)]
      exact hs b o nb (h2 b o nb hb)
    · intro x hx
      rcases List.mem_append.mp hx with hx | hx
      · exact h5 x hx
      · rw [List.mem_singleton.mp hx]; exact hR
  · intro H h
    obtain ⟨h1, h2, rs, h3, h4, h5⟩ := h
    exact hd rs H h4 h5 h1 h2 h3
/-- [f(x, y) for x, y in zip(xs, ys)] -/
theorem lc_zipI {K : PySem.W.Frag} {a b : Addr} {xs ys : List Int} {f : Int → Int → Int} {i1 i2 : Nat} {te : TE} {vs : List Nat} {σ : L2.St} {H1 : Hp} {D : Addr} {Qd : Hp → Prop} (hn : xs.length ≤ 16777215) (hx : H1 a = some (IL xs)) (hy : H1 b = some (IL ys)) (hD : H1 D = none)
    (hw : ∀ v w, wipe (((wipe σ vs).set i1 v).set i2 w) vs = wipe σ vs)
    (hte : ∀ (i : Nat) x y H3 (Q' : VK), xs[i]? = some x → ys[i]? = some y → Same H1 H3 → (∀ H4, Same H3 H4 → Q' (.int (f x y)) H4) → te (((wipe σ vs).set i1 (some (.int x))).set i2 (some (.int y))) H3 Q')
    (hd : ∀ H', Same H1 H' → H' D = some (IL (List.zipWith f xs ys)) → Qd H') :
    LcW (Itz K a b) (gTup K 2 (gCons (gName i1) (gCons (gName i2) gNil))) tYes te vs σ H1 D Qd := by
  have hl : (List.zipWith f xs ys).length = min (xs.map V.int).length (ys.map V.int).length := by rw [List.length_zipWith, List.length_map, List.length_map]
  refine lc_it (walk_zip (K := K) (a := a) (b := b) (xs := xs.map V.int) (ys := ys.map V.int) hl) (fun i H' => Same H1 H' ∧ H' D = some (IL ((List.zipWith f xs ys).take i))) ⟨same_new hD _, upd_same⟩ (fun i H _ h => ⟨.of (h.1 _ _ hx), .of (h.1 _ _ hy)⟩) ?_ ?_
  · intro i x H H' hi h hy'
    obtain ⟨h1, h2⟩ := h
    obtain ⟨t, x, y, rfl, nt, rfl, ex, ey⟩ := hy'
    obtain ⟨x, rfl, fx⟩ := ints_at ex
    obtain ⟨y, rfl, fy⟩ := ints_at ey
    refine ⟨t, _, rfl, .of upd_same, rfl, V.int x, [V.int y], rfl, V.int y, [], rfl, rfl, hw _ _, ?_⟩
    simp only [tYes, if_true]
    refine hte i x y _ _ fx fy (h1.trans (same_new nt _)) fun H4 hs => ?_
    have e4 : H4 D = some (IL ((List.zipWith f xs ys).take i)) := hs _ _ (same_new nt _ _ _ h2)
    have em : (List.zipWith f xs ys)[i]? = some (f x y) := by rw [List.getElem?_zipWith, fx, fy]
    refine ⟨_, e4, ?_, fun c o hc => ?_, ?_⟩
    · rw [List.length_map]
      have := List.length_take_le i (List.zipWith f xs ys)
      have h3 : (List.zipWith f xs ys).length ≤ xs.length := by rw [List.length_zipWith]; omega
      have := List.length_take_le' i (List.zipWith f xs ys)
      exact line_lt (by omega)
    · rw [upd_ne (ne_of_none hc hD)]
      exact hs _ _ (same_new nt _ _ _ (h1 _ _ hc))
    · rw [upd_same, take_more em]
      unfold IL
      rw [List.map_append]
      rfl
  · intro H h
    rw [List.take_length] at h
    exact hd H h.1 h.2
theorem any_rng {n : Nat} {f : Nat → Bool} : (((List.range n).map f).any id = true) ↔ ∃ i, i < n ∧ f i = true := by
  rw [List.any_map, List.any_eq_true]
  constructor
  · rintro ⟨i, hi, e⟩
    exact ⟨i, List.mem_range.mp hi, e⟩
  · rintro ⟨i, hi, e⟩
    exact ⟨i, List.mem_range.mpr hi, e⟩
/-! ### data of a small depth -/
def Shal (d : PyData) (k : Nat) : Prop := PyData.canLay0 d = true ∧ d.depth ≤ k
def ShalAll (ds : List PyData) (k : Nat) : Prop := PyData.canLayAll0 ds = true ∧ PyData.depthAll ds ≤ k
theorem Shal.int {i : Int} {k : Nat} : Shal (.int i) (k + 1) := ⟨by simp only [PyData.canLay0], by simp only [PyData.depth]; omega⟩
theorem Shal.bl {i : Bool} {k : Nat} : Shal (.bool i) (k + 1) := ⟨by simp only [PyData.canLay0], by simp only [PyData.depth]; omega⟩
theorem Shal.non {k : Nat} : Shal .none (k + 1) := ⟨by simp only [PyData.canLay0], by simp only [PyData.depth]; omega⟩
theorem ShalAll.ints {ns : List Int} {k : Nat} : ShalAll (ns.map PyData.int) (k + 1) := ⟨canLay_ints ns, by have := Dw.depthAll_ints ns; omega⟩
theorem ShalAll.nil {k : Nat} : ShalAll [] (k + 1) := ⟨by simp only [PyData.canLayAll0], by simp only [PyData.depthAll]; omega⟩
theorem ShalAll.cons {d : PyData} {ds : List PyData} {k : Nat} (a : Shal d k) (b : ShalAll ds k) : ShalAll (d :: ds) k := ⟨by rw [PyData.canLayAll0, a.1, b.1]; rfl, by
  have h1 := a.2
  have h2 := b.2
  simp only [PyData.depthAll]
  omega⟩
theorem Shal.list {ds : List PyData} {k : Nat} (a : ShalAll ds k) : Shal (.list ds) (k + 1) := ⟨by rw [PyData.canLay0]; exact a.1, by have := a.2; simp only [PyData.depth]; omega⟩
theorem Shal.tup {ds : List PyData} {k : Nat} (a : ShalAll ds k) : Shal (.tuple ds) (k + 1) := ⟨by rw [PyData.canLay0]; exact a.1, by have := a.2; simp only [PyData.depth]; omega⟩
theorem same_of {d : PyData} {x y : V} {H : Hp} {Q : VK} {E : XK} (hs : Shal d 7) (hx : Dt H x d) (hy : Dt H y d) (q : Q (.bl true) H) : spSame 8 [x, y] H Q E :=
  ⟨x, y, d, rfl, hx, hy, by have := hs.2; omega, by
    unfold SeqAt.shaped
    rw [Bool.and_eq_true]
    exact ⟨hs.1, decide_eq_true (by have := hs.2; omega)⟩, q⟩
theorem nat_of {z : Int} (h : 0 ≤ z) : ∃ n : Nat, z = (n : Int) := ⟨z.toNat, by omega⟩
theorem ins_at {α : Type} {l : List α} {i j : Nat} {x : α} (hi : i ≤ l.length) : (l.take i ++ [x] ++ l.drop i)[j]? = if j < i then l[j]? else if j = i then some x else l[j - 1]? := by
  have e1 : (l.take i).length = i := by rw [List.length_take]; omega
  by_cases h : j < i
  · rw [if_pos h, List.append_assoc, List.getElem?_append_left (by omega), List.getElem?_take_of_lt h]
  · rw [if_neg h]
    by_cases h2 : j = i
    · rw [if_pos h2, List.append_assoc, List.getElem?_append_right (by omega), e1, h2, Nat.sub_self]
      rfl
    · rw [if_neg h2, List.getElem?_append_right (by rw [List.length_append, e1]; simp; omega), List.length_append, e1, List.getElem?_drop]
      simp only [List.length_cons, List.length_nil]
      congr 1
      omega
theorem RowsAt.ins {H : Hp} {p u : Addr} {as : List Addr} {rs : List (List Int)} {r : List Int} {i : Nat} (hi : i ≤ as.length) (h1 : H p = some (.lst (as.map V.ref))) (h2 : as.length = rs.length) (h3 : ∀ i a, as[i]? = some a → H a = some (IL (rs.getD i []))) (hu : H u = some (IL r)) (n : u ≠ p) :
    RowsAt (upd H p (.lst ((as.map V.ref).take i ++ [.ref u] ++ (as.map V.ref).drop i))) p (rs.take i ++ [r] ++ rs.drop i) := by
  have nas : ∀ i a, as[i]? = some a → a ≠ p := fun i a e q => by
    subst q
    have e3 := h3 i _ e
    rw [h1] at e3
    unfold IL at e3
    injection e3 with e3
    injection e3 with e3
    cases as with
    | nil => simp at e
    | cons b bs =>
      cases hr : rs.getD i [] with
      | nil => rw [hr] at e3; cases e3
      | cons c cs => rw [hr] at e3; cases e3
  refine ⟨as.take i ++ [u] ++ as.drop i, by rw [upd_same, List.map_append, List.map_append, List.map_take, List.map_drop]; rfl, by simp only [List.length_append, List.length_take, List.length_drop, List.length_cons, List.length_nil, h2], fun j a e => ?_⟩
  rw [ins_at hi] at e
  rw [List.getD_eq_getElem?_getD, ins_at (by omega)]
  by_cases c : j < i
  · rw [if_pos c] at e ⊢
    rw [upd_ne (nas _ _ e), h3 _ _ e, List.getD_eq_getElem?_getD]
  · rw [if_neg c] at e ⊢
    by_cases c2 : j = i
    · rw [if_pos c2] at e ⊢
      cases e
      rw [upd_ne n, hu]
      rfl
    · rw [if_neg c2] at e ⊢
      rw [upd_ne (nas _ _ e), h3 _ _ e, List.getD_eq_getElem?_getD]
/-- [list(row) for row in rows] -/
theorem lc_copyRows {K : PySem.W.Frag} {p : Addr} {rs : List (List Int)} {j : Nat} {te : TE} {vs : List Nat} {σ : L2.St} {H1 : Hp} {D : Addr} {Qd : Hp → Prop} (hn : rs.length ≤ 16777215) (hR : RowsAt H1 p rs) (hD : H1 D = none) (hw : ∀ v, wipe ((wipe σ vs).set j v) vs = wipe σ vs)
    (hte : ∀ i a H3 (Q' : VK), i < rs.length → Same H1 H3 → H3 a = some (IL (rs.getD i [])) → (∀ u, H3 u = none → Q' (.ref u) (L2.upd H3 u (IL (rs.getD i [])))) → te ((wipe σ vs).set j (some (.ref a))) H3 Q')
    (hd : ∀ H', Same H1 H' → RowsAt H' D rs → Qd H') :
    LcW (Itl K p) (gName j) tYes te vs σ H1 D Qd := by
  obtain ⟨as, hp, hl, ha⟩ := hR
  refine lc_list (K := K) (a := p) (xs := as.map V.ref) (fun i H' => Same H1 H' ∧ RowsAt H' D (rs.take i)) ⟨same_new hD _, [], upd_same, by simp, fun j b h => by simp at h⟩ (fun i H' _ h => Same.seq h.1 (.of hp)) ?_ ?_
  · intro i x H' hx h
    obtain ⟨s7, cs, e7, hl7, hcs⟩ := h
    refine ⟨hw _, ?_⟩
    simp only [tYes, if_true]
    obtain ⟨a, hai, rfl⟩ := refs_at hx
    have hlt : i < as.length := (List.getElem?_eq_some_iff.mp hai).1
    have e8 := s7 _ _ (ha i a hai)
    refine hte i a H' _ (by omega) s7 e8 fun u hu => ?_
    have nu : D ≠ u := ne_of_none e7 hu
    have hP := RowsAt.push (H := L2.upd H' u (IL (rs.getD i []))) (p := D) (u := u) (as := cs) (rs := rs.take i) (r := rs.getD i []) (by rw [upd_ne nu]; exact e7) hl7 (fun j b e => same_new hu _ _ _ (hcs j b e)) upd_same nu.symm
    have et : rs.take (i + 1) = rs.take i ++ [rs.getD i []] := by
      rw [List.take_succ, List.getD_eq_getElem?_getD, List.getElem?_eq_getElem (by omega)]
      rfl
    have hcl : cs.length ≤ rs.length := by
      rw [hl7, List.length_take]
      omega
    refine ⟨_, by rw [upd_ne nu]; exact e7, by rw [List.length_map]; exact line_lt (by omega), fun b o hb' => ?_, ?_⟩
    · rw [upd_ne (ne_of_none hb' hD)]
      exact same_new hu _ _ _ (s7 _ _ hb')
    · rw [et]
      exact hP
  · intro H6 h
    obtain ⟨s7, hR6⟩ := h
    rw [List.length_map, hl, List.take_length] at hR6
    exact hd H6 s7 hR6
end Dw

namespace Dw
open PySem PySem.Spec PyProof.Rows L2
/-! ### numbers as digits of the base 128 -/
def digs (n : Nat) : List Int := if h : n > 127 then (128 + ((n % 128 : Nat) : Int)) :: digs (n / 128) else [(n : Int)]
termination_by n
decreasing_by omega
theorem digs_big {n : Nat} (h : n > 127) : digs n = (128 + ((n % 128 : Nat) : Int)) :: digs (n / 128) := by
  rw [digs, dif_pos h]
theorem digs_small {n : Nat} (h : ¬ n > 127) : digs n = [(n : Int)] := by
  rw [digs, dif_neg h]
theorem digs_len : ∀ (k n : Nat), n < 128 ^ (k + 1) → (digs n).length ≤ k + 1
  | 0, n, h => by
    rw [digs_small (by omega)]
    exact Nat.le_refl _
  | k + 1, n, h => by
    by_cases c : n > 127
    · rw [digs_big c, List.length_cons]
      have := digs_len k (n / 128) (by
        rw [Nat.div_lt_iff_lt_mul (by decide)]
        rw [Nat.pow_succ] at h
        exact h)
      omega
    · rw [digs_small c]
      exact Nat.le_add_left _ _
/-- how many digits there are in front of the last one -/
def lead : List Int → Nat
  | [] => 0
  | x :: r => if x > 127 then lead r + 1 else 0
def valD (ds : List Int) : Int := ds.foldr (fun d acc => acc * 128 + d % 128) 0
theorem valD_snoc : ∀ (ds : List Int) (x : Int), valD (ds ++ [x]) = valD ds + 128 ^ ds.length * (x % 128)
  | [], x => by
    show 0 * 128 + x % 128 = 0 + 128 ^ 0 * (x % 128)
    simp
  | d :: r, x => by
    have ih := valD_snoc r x
    show valD (r ++ [x]) * 128 + d % 128 = valD r * 128 + d % 128 + 128 ^ (r.length + 1) * (x % 128)
    rw [ih, Int.add_mul, Int.pow_succ, Int.mul_right_comm]
    omega
theorem lead_le : ∀ ns : List Int, lead ns ≤ ns.length
  | [] => Nat.le_refl _
  | x :: r => by
    have := lead_le r
    show (if x > 127 then lead r + 1 else 0) ≤ r.length + 1
    split <;> omega
theorem lead_at : ∀ {ns : List Int} {i : Nat}, i < lead ns → ∃ x, ns[i]? = some x ∧ x > 127
  | [], _, h => absurd h (Nat.not_lt_zero _)
  | x :: r, i, h => by
    unfold lead at h
    by_cases c : x > 127
    · rw [if_pos c] at h
      cases i with
      | zero => exact ⟨x, rfl, c⟩
      | succ i => exact lead_at (ns := r) (i := i) (by omega)
    · rw [if_neg c] at h
      exact absurd h (Nat.not_lt_zero _)
theorem lead_stop : ∀ {ns : List Int} {x : Int}, ns[lead ns]? = some x → ¬ x > 127
  | [], _, h => by cases h
  | y :: r, x, h => by
    unfold lead at h
    by_cases c : y > 127
    · rw [if_pos c, List.getElem?_cons_succ] at h
      exact lead_stop h
    · rw [if_neg c] at h
      cases h
      exact c
theorem lead_eq {ns : List Int} {i : Nat} {x : Int} (h1 : i ≤ lead ns) (h2 : ns[i]? = some x) (h3 : ¬ x > 127) : lead ns = i := by
  apply Classical.byContradiction
  intro c
  obtain ⟨y, e, hy⟩ := lead_at (ns := ns) (i := i) (by omega)
  rw [h2] at e
  cases e
  exact h3 hy
theorem lead_digs : ∀ (n : Nat) (r : List Int), lead (digs n ++ r) + 1 = (digs n).length := by
  intro n
  induction n using Nat.strongRecOn with
  | ind n ih =>
    intro r
    by_cases c : n > 127
    · rw [digs_big c, List.cons_append, List.length_cons]
      unfold lead
      rw [if_pos (by omega), ih (n / 128) (by omega) r]
    · rw [digs_small c]
      show lead ((n : Int) :: r) + 1 = 1
      unfold lead
      rw [if_neg (by omega)]
theorem val_digs : ∀ n : Nat, valD (digs n) = (n : Int) := by
  intro n
  induction n using Nat.strongRecOn with
  | ind n ih =>
    by_cases c : n > 127
    · rw [digs_big c]
      show valD (digs (n / 128)) * 128 + (128 + ((n % 128 : Nat) : Int)) % 128 = _
      rw [ih (n / 128) (by omega)]
      omega
    · rw [digs_small c]
      show 0 * 128 + (n : Int) % 128 = _
      omega
theorem last_digs : ∀ n : Nat, 1 < (digs n).length → (digs n).getD ((digs n).length - 1) 0 ≠ 0 := by
  intro n
  induction n using Nat.strongRecOn with
  | ind n ih =>
    intro h
    by_cases c : n > 127
    · have hl : 0 < (digs (n / 128)).length := by
        have := lead_digs (n / 128) []
        omega
      rw [digs_big c, List.length_cons]
      have e : (digs (n / 128)).length + 1 - 1 = ((digs (n / 128)).length - 1) + 1 := by omega
      rw [e, List.getD_cons_succ]
      by_cases h2 : 1 < (digs (n / 128)).length
      · exact ih (n / 128) (by omega) h2
      · have c2 : ¬ n / 128 > 127 := fun c2 => by
          rw [digs_big c2, List.length_cons] at h2
          have := lead_digs (n / 128 / 128) []
          omega
        rw [digs_small c2]
        show ((n / 128 : Nat) : Int) ≠ 0
        omega
    · rw [digs_small c] at h
      exact absurd h (Nat.lt_irrefl _)
/-- the number that begins at a place, and the place behind it -/
def rdZ (ns : List Int) (i : Nat) : Option (Int × Nat) :=
  let m := lead (ns.drop i)
  if i + m < ns.length ∧ ¬ (0 < m ∧ ns.getD (i + m) 0 = 0) then some (valD ((ns.drop i).take (m + 1)), i + m + 1) else none
theorem rd_digs (pre : List Int) (n : Nat) (r : List Int) : rdZ (pre ++ digs n ++ r) pre.length = some ((n : Int), pre.length + (digs n).length) := by
  have hd : (pre ++ digs n ++ r).drop pre.length = digs n ++ r := by
    rw [List.append_assoc, List.drop_left]
  have hl := lead_digs n r
  have hg : ∀ i, (pre ++ digs n ++ r).getD (pre.length + i) 0 = (digs n ++ r).getD i 0 := fun i => by
    rw [List.append_assoc, List.getD_eq_getElem?_getD, List.getElem?_append_right (by omega), List.getD_eq_getElem?_getD]
    congr 2
    omega
  unfold rdZ
  simp only [hd, hg]
  rw [if_pos]
  · have e : lead (digs n ++ r) + 1 = (digs n).length := hl
    rw [e, List.take_left, val_digs, ← e]
    rfl
  · refine ⟨by rw [List.length_append, List.length_append]; omega, fun ⟨h1, h2⟩ => ?_⟩
    have e : lead (digs n ++ r) = (digs n).length - 1 := by omega
    rw [e, List.getD_eq_getElem?_getD, List.getElem?_append_left (by omega), ← List.getD_eq_getElem?_getD] at h2
    exact last_digs n (by omega) h2
theorem cdivW_r {i j : Int} (h1 : 0 < j) (h2 : j < 18446744073709551616) : CDivW i j = True := eq_true ⟨h1, by
  have h3 : j.natAbs < 2 ^ 64 := by omega
  have h4 : j.natAbs ≠ 0 := by omega
  have := (Nat.log2_lt h4).mpr h3
  omega⟩
def spDrawW : Sp := fun vs H Q _ => ∃ (p q : Addr) (m : Int), vs = [.ref p, .int m] ∧ Pool H p q ∧ 0 < m ∧ m < 18446744073709551616 ∧ ∀ r H', 0 ≤ r → r < m → Pool H' p q → SameB p H H' → Q (.int r) H'
theorem drawW {vs : List V} {H : Hp} {Q : VK} {E : XK} (h : spDraw vs H Q E) : spDrawW vs H Q E := by
  obtain ⟨p, q, m, e, h1, h2, h3, k⟩ := h
  exact ⟨p, q, m, e, h1, h2, by omega, k⟩
def spWriteNumber : Sp := fun vs H Q _ => ∃ n : Nat, vs = [.int n] ∧ n < 128 ^ 100 ∧ ∀ D H', Same H H' → H D = none → H' D = some (IL (digs n)) → Q (.ref D) H'
def spReadNumber (CE : Addr) : Sp := fun vs H Q E => ∃ (a : Addr) (ns : List Int) (i : Nat), vs = [.ref a, .int i] ∧ H a = some (IL ns) ∧ ns.length ≤ 1000000 ∧
  (∀ v k, rdZ ns i = some (v, k) → ∀ t H', Same H H' → H t = none → H' t = some (.tup [.int v, .int (k : Int)]) → Q (.ref t) H') ∧ (rdZ ns i = none → ∀ H', Same H H' → E (.ref CE) none H')
theorem cutI_nat {ns : List Int} {i j : Nat} (h : i ≤ j) (h2 : j ≤ ns.length) : cutI ns (some (i : Int)) (some (j : Int)) = (ns.drop i).take (j - i) := by
  unfold cutI
  rw [HT.sIx_nat, HT.sIx_nat, Nat.min_eq_left h2, Nat.min_eq_left (Nat.le_trans h h2)]
theorem valD_drop {ds : List Int} {t : Nat} {x : Int} (h : t < ds.length) (hx : ds[ds.length - 1 - t]? = some x) : valD (ds.drop (ds.length - (t + 1))) = valD (ds.drop (ds.length - t)) * 128 + x % 128 := by
  have h1 : ds.length - (t + 1) < ds.length := by omega
  have e : ds.length - (t + 1) + 1 = ds.length - t := by omega
  have e2 : ds.length - 1 - t = ds.length - (t + 1) := by omega
  rw [e2, List.getElem?_eq_getElem h1] at hx
  rw [List.drop_eq_getElem_cons h1, e, Option.some.inj hx]
  rfl
end Dw

namespace Dw
open PySem PySem.Spec PyProof.Rows L2
/-! ### xs[lo:hi:c] of a list, c written and positive -/
def picks {α : Type} (xs : List α) (lo hi : Option Int) (c : Int) : List α :=
  (sliceRange (sliceBounds lo hi (some c) xs.length).1 (sliceBounds lo hi (some c) xs.length).2.1 (sliceBounds lo hi (some c) xs.length).2.2).filterMap (xs[·]?)
theorem vals_pick {xs : List V} {us : List Value} (r : Vals xs us) : ∀ is : List Nat, Vals (is.filterMap (xs[·]?)) (is.filterMap (us[·]?))
  | [] => .nil
  | i :: is => by
    have ih := vals_pick r is
    rw [List.filterMap_cons, List.filterMap_cons]
    cases e : xs[i]? with
    | none =>
      rw [Vals.none_of r e]
      exact ih
    | some x =>
      obtain ⟨u, eu, ru⟩ := Vals.get r e
      rw [eu]
      exact .cons ru ih
theorem picks_map {α β : Type} (f : α → β) (xs : List α) (lo hi : Option Int) (c : Int) : picks (xs.map f) lo hi c = (picks xs lo hi c).map f := by
  unfold picks
  rw [List.length_map, List.map_filterMap]
  congr 1
  funext i
  rw [List.getElem?_map]
/-- what is asked, by values: any reading that gives this -/
def SlcOk (K : PySem.W.Frag) (c : Int) (rd : V → Option Int → Option Int → Hp → VK → Prop) : Prop := ∀ x l u H Q, rd x l u H Q → ∃ a xs, x = .ref a ∧ SqL K H a xs ∧ ∀ p, H p = none → Q (.ref p) (upd H p (.lst (picks xs l u c)))
def rSlCI (c : Int) : V → Option Int → Option Int → Hp → VK → Prop := fun x l u H Q => ∃ a ns, x = .ref a ∧ H a = some (IL ns) ∧ ∀ p, H p = none → Q (.ref p) (upd H p (IL (picks ns l u c)))
theorem slcI {K : PySem.W.Frag} {c : Int} : SlcOk K c (rSlCI c) := fun x l u H Q h => by
  obtain ⟨a, ns, e, h1, q⟩ := h
  refine ⟨a, _, e, .of h1, fun p hp => ?_⟩
  rw [picks_map]
  exact q p hp
section
variable {X : Cx}
theorem pe_sliceC {e : Expr} {lo hi : Option Expr} {te : TE} {tl th : TO} {rd : V → Option Int → Option Int → Hp → VK → Prop} {c : Int} {k : Nat} {p1 p3 pos : Pos} (ok : SlcOk X.K c rd) (hc : (some c : Option Int) ≠ some 0) (he : PE X e te) (hl : PO X lo tl) (hu : PO X hi th) :
    PE X (.Subscript e (.Slice lo hi (some (.Constant (.int c) k p1)) p3) pos) (tSl rd te tl th) := by
  refine ⟨fun pins s σ H Q I h => ?_⟩
  refine Subscript_ (thn (he.run pins s σ H _ I h) fun v s1 ⟨x, H1, I1, r1, q1⟩ => ?_)
  have hst : PO X (some (.Constant (.int c) k p1)) (tPart (tC (.int c))) := po_some pe_int
  refine wpAny_Slice (thn (hl.run pins s1 σ H1 _ I1 q1) fun vl s2 ⟨l, H2, I2, pl, q2⟩ => ?_)
  refine thn (hu.run pins s2 σ H2 _ I2 q2) fun vu s3 ⟨u, H3, I3, pu, q3⟩ => ?_
  obtain ⟨a, xs, ex, hx, q⟩ := ok _ _ _ _ _ q3
  subst ex
  cases r1
  refine thn (hst.run pins s3 σ H3 (fun o H4 => o = some c ∧ H4 = H3) I3 ⟨c, rfl, rfl, rfl⟩) fun vs s4 ⟨o, H4, I4, ps, eo, e4⟩ => ?_
  subst eo e4
  have I5 : Inv X pins σ H4 { s4 with heap := s4.heap.push { cls := .type "slice", data := .fields #[vl, vu, vs] } } := I4.kept (t' := s4.toks) fun b ob q => Heap.get?_push_of_some _ q
  obtain ⟨its, r, ht, hz⟩ := I5.list hx
  have hlen := r.length
  show wpAny (model X.prog X.w) X.A (subscriptTail e (.Slice lo hi (some (.Constant (.int c) k p1)) p3) (.ref a) (.ref s4.heap.objs.size)) (EP X pins σ Q) X.xe { s4 with heap := s4.heap.push { cls := .type "slice", data := .fields #[vl, vu, vs] } }
  refine tail_any (ops := [.ref a, .ref s4.heap.objs.size]) ht.isList.typeIs (PySem.slot_list_getitem.lookup) ?_ (by with_unfolding_all rfl)
  refine wpAny_getItem_list_slice ht.isList (Heap.IsSliceOf.new _ vl vu vs) pl pu ps hc ?_ (by rw [List.size_toArray]; omega)
  have ep : slicePick its.toArray l u (some c) = (picks its l u c).toArray := by
    unfold slicePick picks
    rw [List.size_toArray]
    congr 2
    funext i
    exact List.getElem?_toArray ..
  rw [ep]
  have hle := slicePick_size_le its.toArray l u (some c)
  rw [ep, List.size_toArray, List.size_toArray] at hle
  have hv : Vals (picks xs l u c) (picks its l u c) := by
    unfold picks
    rw [hlen]
    exact vals_pick r _
  refine ⟨.ref _, _, I5.laid (t' := s4.toks) (o := .lst (picks xs l u c)) (fun b ob q => Heap.get?_push_of_some _ q) (Nat.le_refl _) ?_, rfl, q _ (I5.hok.fresh (Nat.le_refl _))⟩
  exact ⟨by rw [hv.length]; omega, _, 0, hv, Heap.get?_push_size _ rfl⟩
end
/-! every c-th one -/
theorem filterMap_some {α β : Type} {g : α → Option β} {h : α → β} : ∀ {l : List α}, (∀ i ∈ l, g i = some (h i)) → l.filterMap g = l.map h
  | [], _ => rfl
  | x :: r, q => by
    rw [List.filterMap_cons, q x List.mem_cons_self, List.map_cons, filterMap_some fun i hi => q i (List.mem_cons_of_mem _ hi)]
theorem range_pick {ns : List Int} {a c n : Nat} (hc : 0 < c) (ha : a ≤ n) (hn : n ≤ ns.length) :
    (sliceRange (a : Int) (n : Int) (c : Int)).filterMap (ns[·]?) = (List.range ((n - a + c - 1) / c)).map fun i => ns.getD (a + c * i) 0 := by
  have hcount : (if (c : Int) > 0 then (if (a : Int) < (n : Int) then ((n : Int) - (a : Int) + (c : Int) - 1) / (c : Int) else 0) else (if (a : Int) > (n : Int) then ((a : Int) - (n : Int) - (c : Int) - 1) / (-(c : Int)) else 0)).toNat = (n - a + c - 1) / c := by
    rw [if_pos (by omega)]
    by_cases h : a < n
    · rw [if_pos (by omega)]
      have e : (n : Int) - (a : Int) + (c : Int) - 1 = ((n - a + c - 1 : Nat) : Int) := by omega
      rw [e, ← Int.natCast_ediv, Int.toNat_natCast]
    · rw [if_neg (by omega)]
      have e : n - a + c - 1 = c - 1 := by omega
      rw [e, Nat.div_eq_of_lt (by omega)]
      rfl
  unfold sliceRange
  simp only
  rw [hcount, List.filterMap_map]
  refine filterMap_some fun i hi => ?_
  rw [List.mem_range] at hi
  have h1 : c * ((n - a + c - 1) / c) ≤ n - a + c - 1 := Nat.mul_div_le _ _
  have h2 : c * (i + 1) ≤ c * ((n - a + c - 1) / c) := Nat.mul_le_mul_left c hi
  rw [Nat.mul_add, Nat.mul_one] at h2
  have h3 : a + c * i < ns.length := by omega
  have e : ((a : Int) + (c : Int) * (i : Int)).toNat = a + c * i := by
    have : (c : Int) * (i : Int) = ((c * i : Nat) : Int) := by rw [Int.natCast_mul]
    omega
  simp only [Function.comp]
  rw [e, List.getElem?_eq_getElem h3, List.getD_eq_getElem?_getD, List.getElem?_eq_getElem h3]
  rfl
theorem range_none {ns : List Int} {a b c : Int} (hc : 0 < c) (h : b ≤ a) : (sliceRange a b c).filterMap (ns[·]?) = [] := by
  unfold sliceRange
  simp only
  rw [if_pos hc, if_neg (by omega)]
  rfl
theorem picks_to {ns : List Int} {a c n : Nat} (hc : 0 < c) (hn : n ≤ ns.length) :
    picks ns (some (a : Int)) (some (n : Int)) (c : Int) = (List.range ((n - a + c - 1) / c)).map fun i => ns.getD (a + c * i) 0 := by
  have hb : sliceBounds (some (a : Int)) (some (n : Int)) (some (c : Int)) ns.length = (((min a ns.length : Nat) : Int), (n : Int), (c : Int)) := by
    have h1 : (c : Int) > 0 := by omega
    have h2 : ¬ (a : Int) < 0 := by omega
    have h3 : ¬ (n : Int) < 0 := by omega
    simp only [sliceBounds, Option.getD_some, h1, h2, h3, if_true, if_false]
    congr 1
    · omega
    · congr 1
      omega
  unfold picks
  rw [hb]
  by_cases ha : a ≤ n
  · have e : min a ns.length = a := by omega
    rw [e]
    exact range_pick hc ha hn
  · simp only
    rw [range_none (by omega) (by omega)]
    have e : n - a + c - 1 = c - 1 := by omega
    rw [e, Nat.div_eq_of_lt (by omega)]
    rfl
theorem picks_from {ns : List Int} {a c : Nat} (hc : 0 < c) :
    picks ns (some (a : Int)) none (c : Int) = (List.range ((ns.length - a + c - 1) / c)).map fun i => ns.getD (a + c * i) 0 := by
  have hb : sliceBounds (some (a : Int)) none (some (c : Int)) ns.length = (((min a ns.length : Nat) : Int), (ns.length : Int), (c : Int)) := by
    have h1 : (c : Int) > 0 := by omega
    have h2 : ¬ (a : Int) < 0 := by omega
    simp only [sliceBounds, Option.getD_some, h1, h2, if_true, if_false]
    congr 1
    omega
  unfold picks
  rw [hb]
  by_cases ha : a ≤ ns.length
  · have e : min a ns.length = a := by omega
    rw [e]
    exact range_pick hc ha (Nat.le_refl _)
  · simp only
    rw [range_none (by omega) (by omega)]
    have e : ns.length - a + c - 1 = c - 1 := by omega
    rw [e, Nat.div_eq_of_lt (by omega)]
    rfl
/-! ### reading cells -/
def evens (cs : List Int) (n : Nat) : List Int := (List.range n).map fun i => cs.getD (2 * i) 0
def odds (cs : List Int) (n : Nat) : List Int := (List.range n).map fun i => cs.getD (2 * i + 1) 0
theorem evens_len (cs : List Int) (n : Nat) : (evens cs n).length = n := by unfold evens; rw [List.length_map, List.length_range]
theorem odds_len (cs : List Int) (n : Nat) : (odds cs n).length = n := by unfold odds; rw [List.length_map, List.length_range]
theorem evens_get {cs : List Int} {n i : Nat} (h : i < n) : (evens cs n).getD i 0 = cs.getD (2 * i) 0 := by
  unfold evens
  rw [List.getD_eq_getElem?_getD, List.getElem?_map, List.getElem?_range h]
  rfl
theorem odds_get {cs : List Int} {n i : Nat} (h : i < n) : (odds cs n).getD i 0 = cs.getD (2 * i + 1) 0 := by
  unfold odds
  rw [List.getD_eq_getElem?_getD, List.getElem?_map, List.getElem?_range h]
  rfl
theorem getD_take {cs : List Int} {n i : Nat} (h : i < n) : (cs.take n).getD i 0 = cs.getD i 0 := by
  rw [List.getD_eq_getElem?_getD, List.getD_eq_getElem?_getD, List.getElem?_take_of_lt h]
theorem whole_even {cs : List Int} {n : Nat} (h : 2 * n ≤ cs.length) : picks (cs.take (2 * n)) (some 0) none 2 = evens cs n := by
  have e := picks_from (ns := cs.take (2 * n)) (a := 0) (c := 2) (by decide)
  have hl : (cs.take (2 * n)).length = 2 * n := by rw [List.length_take]; omega
  rw [hl] at e
  have e2 : (2 * n - 0 + 2 - 1) / 2 = n := by omega
  rw [e2] at e
  refine e.trans ?_
  unfold evens
  refine List.map_congr_left fun i hi => ?_
  rw [List.mem_range] at hi
  rw [Nat.zero_add, getD_take (by omega)]
theorem whole_odd {cs : List Int} {n : Nat} (h : 2 * n ≤ cs.length) : picks (cs.take (2 * n)) (some 1) none 2 = odds cs n := by
  have e := picks_from (ns := cs.take (2 * n)) (a := 1) (c := 2) (by decide)
  have hl : (cs.take (2 * n)).length = 2 * n := by rw [List.length_take]; omega
  rw [hl] at e
  have e2 : (2 * n - 1 + 2 - 1) / 2 = n := by omega
  rw [e2] at e
  refine e.trans ?_
  unfold odds
  refine List.map_congr_left fun i hi => ?_
  rw [List.mem_range] at hi
  rw [getD_take (by omega), Nat.add_comm]
theorem part_even {cs : List Int} {n : Nat} (h : 2 * n ≤ cs.length) : picks cs (some 0) (some ((2 * n : Nat) : Int)) 2 = evens cs n := by
  have e := picks_to (ns := cs) (a := 0) (c := 2) (n := 2 * n) (by decide) h
  have e2 : (2 * n - 0 + 2 - 1) / 2 = n := by omega
  rw [e2] at e
  refine e.trans ?_
  unfold evens
  refine List.map_congr_left fun i hi => ?_
  rw [Nat.zero_add]
theorem part_odd {cs : List Int} {n : Nat} (h : 2 * n ≤ cs.length) : picks cs (some 1) (some ((2 * n : Nat) : Int)) 2 = odds cs n := by
  have e := picks_to (ns := cs) (a := 1) (c := 2) (n := 2 * n) (by decide) h
  have e2 : (2 * n - 1 + 2 - 1) / 2 = n := by omega
  rw [e2] at e
  refine e.trans ?_
  unfold odds
  refine List.map_congr_left fun i hi => ?_
  rw [Nat.add_comm]
def byteZ (ns : List Int) : Int := ns.foldl (fun v b => 2 * v + b) 0
theorem byteZ_more {ns : List Int} {i : Nat} {b : Int} (h : ns[i]? = some b) : byteZ (ns.take (i + 1)) = 2 * byteZ (ns.take i) + b := by
  unfold byteZ
  rw [List.take_succ, h, List.foldl_append]
  rfl
theorem byteZ_bits8 {v : Nat} (hv : v < 256) : byteZ (bits8 v) = (v : Int) := by
  unfold byteZ bits8
  simp only [List.foldl_cons, List.foldl_nil]
  omega
/-- bytes of eight bits each -/
def bytesZ (ns : List Int) : List Int := (List.range (ns.length / 8)).map fun k => byteZ ((ns.drop (8 * k)).take 8)
def fmF (cl : List Int) : List Int := ((List.range cl.length).filter fun i => !decide (cl.getD i 0 = 1)).map fun i : Nat => (i : Int)
def lastB (before : Int) (bs : List Int) (i : Nat) : Int := if i = 0 then before else bs.getD (i - 1) 0
def mfmT (before : Int) (cl bs : List Int) (i : Nat) : Bool := !decide (cl.getD i 0 = clk (lastB before bs i) (bs.getD i 0))
def mfmFa (before : Int) (cl bs : List Int) : List Int := ((List.range cl.length).filter (mfmT before cl bs)).map fun i : Nat => (i : Int)
def spReadFm : Sp := fun vs H Q _ => ∃ (a : Addr) (cs : List Int), vs = [.ref a] ∧ H a = some (IL cs) ∧ cs.length ≤ 1000000 ∧
  ∀ t b f H', Same H H' → H t = none → H' t = some (.tup [.ref b, .ref f]) → H' b = some (IL (bytesZ (odds cs (8 * (cs.length / 16))))) → H' f = some (IL (fmF (evens cs (8 * (cs.length / 16))))) → Q (.ref t) H'
def spReadMfm : Sp := fun vs H Q _ => ∃ (a : Addr) (cs : List Int) (before : Int), vs = [.ref a, .int before] ∧ H a = some (IL cs) ∧ cs.length ≤ 1000000 ∧
  ∀ t b f H', Same H H' → H t = none → H' t = some (.tup [.ref b, .ref f]) → H' b = some (IL (bytesZ (odds cs (8 * (cs.length / 16))))) → H' f = some (IL (mfmFa before (evens cs (8 * (cs.length / 16))) (odds cs (8 * (cs.length / 16))))) → Q (.ref t) H'
def spWhole : Sp := fun vs H Q _ => ∃ (a : Addr) (cs : List Int) (c : Nat), vs = [.ref a, .int (c : Int)] ∧ H a = some (IL cs) ∧ cs.length ≤ 1000000 ∧ 0 < c ∧ c < 1000 ∧ ∀ D H', Same H H' → H D = none → H' D = some (IL (cs.take (cs.length / c * c))) → Q (.ref D) H'
def spBytesOf : Sp := fun vs H Q _ => ∃ (a : Addr) (cs : List Int), vs = [.ref a] ∧ H a = some (IL cs) ∧ cs.length ≤ 1000000 ∧ cs.length % 8 = 0 ∧ ∀ D H', Same H H' → H D = none → H' D = some (IL (bytesZ cs)) → Q (.ref D) H'
def spBitsByte : Sp := fun vs H Q _ => ∃ (a : Addr) (ns : List Int), vs = [.ref a] ∧ H a = some (IL ns) ∧ Q (.int (byteZ ns)) H
def spMfmClock : Sp := fun vs H Q _ => ∃ (l b : Int), vs = [.int l, .int b] ∧ Q (.int (clk l b)) H
/-- [i for i, x in enumerate(xs) if ..] -/
theorem lc_enumF {K : PySem.W.Frag} {a : Addr} {xs : List Int} {kp : Nat → Bool} {i1 i2 : Nat} {tt : TT} {te : TE} {vs : List Nat} {σ : L2.St} {H1 : Hp} {D : Addr} {Qd : Hp → Prop} (hn : xs.length ≤ 16777215) (hx : H1 a = some (IL xs)) (hD : H1 D = none)
    (hw : ∀ v w, wipe (((wipe σ vs).set i1 v).set i2 w) vs = wipe σ vs)
    (htt : ∀ (i : Nat) x H3 (Q' : Bool → Hp → Prop), xs[i]? = some x → Same H1 H3 → (∀ H4, Same H3 H4 → Q' (kp i) H4) → tt (((wipe σ vs).set i1 (some (.int (i : Int)))).set i2 (some (.int x))) H3 Q')
    (hte : ∀ (i : Nat) x H3 (Q' : VK), xs[i]? = some x → Same H1 H3 → (∀ H4, Same H3 H4 → Q' (.int (i : Int)) H4) → te (((wipe σ vs).set i1 (some (.int (i : Int)))).set i2 (some (.int x))) H3 Q')
    (hd : ∀ H', Same H1 H' → H' D = some (IL (((List.range xs.length).filter kp).map fun i : Nat => (i : Int))) → Qd H') :
    LcW (Ite K a) (gTup K 2 (gCons (gName i1) (gCons (gName i2) gNil))) tt te vs σ H1 D Qd := by
  have wk := walk_enum (K := K) (a := a) (xs := xs.map V.int)
  rw [List.length_map] at wk
  refine lc_it wk (fun i H' => Same H1 H' ∧ H' D = some (IL (((List.range i).filter kp).map fun i : Nat => (i : Int)))) ⟨same_new hD _, upd_same⟩ (fun i H _ h => .of (h.1 _ _ hx)) ?_ ?_
  · intro i x H H' hi h hy
    obtain ⟨h1, h2⟩ := h
    obtain ⟨t, x, y, rfl, nt, rfl, ex, ey⟩ := hy
    cases ex
    obtain ⟨y, rfl, fy⟩ := ints_at ey
    have s1 := h1.trans (same_new nt (.tup [V.int (i : Int), V.int y]))
    refine ⟨t, _, rfl, .of upd_same, rfl, V.int (i : Int), [V.int y], rfl, V.int y, [], rfl, rfl, hw _ _, ?_⟩
    refine htt i y _ _ fy s1 fun H4 s4 => ?_
    have e4 : H4 D = some (IL (((List.range i).filter kp).map fun i : Nat => (i : Int))) := s4 _ _ (same_new nt _ _ _ h2)
    have hle := List.length_filter_le kp (List.range i)
    rw [List.length_range] at hle
    by_cases c : kp i = true
    · rw [if_pos c]
      refine hte i y _ _ fy (s1.trans s4) fun H5 s5 => ?_
      refine ⟨_, s5 _ _ e4, by rw [List.length_map, List.length_map]; exact line_lt (by omega), fun b o hb => ?_, ?_⟩
      · rw [upd_ne (ne_of_none hb hD)]
        exact s5 _ _ (s4 _ _ (s1 _ _ hb))
      · rw [upd_same, List.range_succ, List.filter_append, List.map_append]
        unfold IL
        rw [List.map_append]
        simp [c]
    · rw [if_neg c]
      refine ⟨s1.trans s4, ?_⟩
      rw [e4, List.range_succ, List.filter_append]
      simp [c]
  · intro H h
    exact hd H h.1 h.2
/-- [e for k in range(lo, hi, c)], ints by the place alone -/
theorem lc_rangeCI {lo c : Int} {n : Nat} {f : Nat → Int} {j : Nat} {te : TE} {vs : List Nat} {σ : L2.St} {H1 : Hp} {D : Addr} {Qd : Hp → Prop} (hn : n ≤ 16777215) (hD : H1 D = none) (hw : ∀ v, wipe ((wipe σ vs).set j v) vs = wipe σ vs)
    (hte : ∀ i H3 (Q' : VK), i < n → Same H1 H3 → (∀ H4, Same H3 H4 → Q' (.int (f i)) H4) → te ((wipe σ vs).set j (some (.int (lo + (i : Nat) * c)))) H3 Q')
    (hd : ∀ H', Same H1 H' → H' D = some (IL ((List.range n).map f)) → Qd H') : LcW (Itc lo c n) (gName j) tYes te vs σ H1 D Qd := by
  refine lc_it (walk_rangeC (lo := lo) (c := c) (n := n)) (fun i H' => Same H1 H' ∧ H' D = some (IL ((List.range i).map f))) ⟨same_new hD _, upd_same⟩ (fun i H _ h => trivial) ?_ ?_
  · intro i x H H' hi h hy
    obtain ⟨h1, h2⟩ := h
    obtain ⟨rfl, rfl⟩ := hy
    refine ⟨hw _, ?_⟩
    simp only [tYes, if_true]
    refine hte i _ _ hi h1 fun H4 hs => ?_
    have e := hs D _ h2
    refine ⟨_, e, by rw [List.length_map, List.length_map, List.length_range]; exact line_lt (by omega), fun b o hb => ?_, ?_⟩
    · rw [upd_ne (ne_of_none hb hD)]
      exact hs _ _ (h1 b o hb)
    · rw [upd_same, List.range_succ, List.map_append]
      unfold IL
      rw [List.map_append]
      rfl
  · intro H h
    exact hd H h.1 h.2
/-- range(0, a length, c) -/
theorem rgC_len {len c : Nat} (hc : 0 < c) (hc2 : c < 1073741824) (hl : len ≤ 16777216) : RgC 0 (len : Int) (c : Int) ((len + c - 1) / c) := by
  have e : Builtin.Range.rangeSize 0 (len : Int) (c : Int) = (((len + c - 1) / c : Nat) : Int) := by
    rw [PyProof.Rows.rangeSize_pos (by omega) (by omega), Int.natCast_ediv]
    congr 1
    omega
  have hq : (len + c - 1) / c ≤ len := by
    cases len with
    | zero => rw [Nat.div_eq_of_lt (by omega)]; exact Nat.le_refl _
    | succ n =>
      refine Nat.div_le_of_le_mul ?_
      have : c * (n + 1) = c * n + c := Nat.mul_succ c n
      have h2 : n ≤ c * n := Nat.le_mul_of_pos_left n hc
      omega
  refine ⟨by omega, by omega, ?_, e⟩
  unfold Builtin.Range.small
  rw [e]
  have h3 : (((len + c - 1) / c : Nat) : Int) * (c : Int) ≤ (len : Int) + (c : Int) - 1 := by
    have := Nat.div_mul_le_self (len + c - 1) c
    rw [← Int.natCast_mul]
    omega
  generalize (len + c - 1) / c = n at *
  simp only [Builtin.Range.rangeFitsLong, Bool.and_eq_true, Bool.or_eq_true, decide_eq_true_eq, beq_iff_eq]
  rw [if_pos (by omega), Bool.and_eq_true, decide_eq_true_eq, decide_eq_true_eq]
  exact ⟨by omega, .inr (by omega)⟩
/-! for loops, by the name ForW -/
theorem forR {lo : Int} {n : Nat} {g : TG} {tb : TS} {D : Ends} {σ : L2.St} {H : Hp} (Pv : Nat → L2.St → Hp → Prop) (h0 : Pv 0 σ H)
    (hs : ∀ i σ H, i < n → Pv i σ H → g (.int (lo + i)) σ H fun σ2 H2 => tb { D with nx := Pv (i + 1), ct := Pv (i + 1), bk := D.nx } σ2 H2) (hd : ∀ σ H, Pv n σ H → D.nx σ H) : ForW (Itr lo n) g tb D σ H := for_range Pv h0 hs hd
theorem forL {K : PySem.W.Frag} {a : Addr} {xs : List V} {g : TG} {tb : TS} {D : Ends} {σ : L2.St} {H : Hp} (Pv : Nat → L2.St → Hp → Prop) (h0 : Pv 0 σ H) (hl : ∀ i σ H, i ≤ xs.length → Pv i σ H → SqL K H a xs)
    (hs : ∀ i x σ H, xs[i]? = some x → Pv i σ H → g x σ H fun σ2 H2 => tb { D with nx := Pv (i + 1), ct := Pv (i + 1), bk := D.nx } σ2 H2) (hd : ∀ σ H, Pv xs.length σ H → D.nx σ H) : ForW (Itl K a) g tb D σ H := for_list Pv h0 hl hs hd
end Dw

namespace Dw
open PySem PySem.Spec PyProof.Rows L2
/-- the place of a whole number in a tuple of whole numbers, where it first stands -/
def rTupIxI (K : PySem.W.Frag) : V → List V → Hp → VK → Prop := fun x xs H Q => ∃ (p : Addr) (ns : List Int) (k : Int) (j : Nat), x = .ref p ∧ xs = [.int k] ∧ SqT K H p (ns.map V.int) ∧ ns[j]? = some k ∧ (∀ m, m < j → ns[m]? ≠ some k) ∧ Q (.int (j : Int)) H
theorem mt_tupIndexI {X : Cx} : MtR X "tuple.index" (rTupIxI X.K) := by
  intro pins s σ H x args v us Q inv rx rargs want
  obtain ⟨p, ns, k, j, rfl, rfl, isT, at_j, before, goal⟩ := want
  cases rx
  obtain ⟨u, rfl, t, rfl⟩ := rargs.one
  obtain ⟨its, rel, ⟨⟨cl, dd, dat, sl⟩, found, hcl, n, hdat⟩, small⟩ := inv.tuple isT
  simp only at hcl hdat
  subst hcl hdat
  have are := ints_of_vals rel
  have size : its.toArray.size = ns.length := by rw [List.size_toArray, ← rel.length, List.length_map]
  have jlt := (List.getElem?_eq_some_iff.mp at_j).1
  have item : ∀ (m : Nat) (hm : m < its.toArray.size), ∃ tm, its.toArray[m] = Value.int (ns[m]'(by omega)) tm := by
    intro m hm
    obtain ⟨tm, e⟩ := are.get m _ (List.getElem?_eq_getElem (show m < ns.length by omega))
    exact ⟨tm, by simpa using (List.getElem?_eq_some_iff.mp e).2⟩
  refine call_meets PySem.F.slot_tuple_index ⟨_, found, rfl⟩ PySem.F.entry_tuple_index (PySem.F.args_tuple_index_2 _ _)
    (TI.tuple_indexAt p its.toArray n dd sl (.int k t) (eqk k) j (by omega) ?_ ?_) ⟨found, fun y hy => (eqk_gives are y (by simpa using hy)).at _ _, ⟨.int (j : Int), H, inv.tok _, ⟨_, rfl⟩, goal⟩⟩
  · obtain ⟨tm, e⟩ := item j (by omega)
    rw [e]
    have : ns[j] = k := (List.getElem?_eq_some_iff.mp at_j).2
    rw [this]
    exact beq_self_eq_true k
  · intro m hm hmj
    obtain ⟨tm, e⟩ := item m hm
    rw [e]
    refine beq_eq_false_iff_ne.mpr fun same => before m hmj ?_
    rw [List.getElem?_eq_getElem (show m < ns.length by omega), same]
/-! ### the group code -/
def GC : List Int := [9, 10, 11, 13, 14, 15, 18, 19, 21, 22, 23, 25, 26, 27, 29, 30]
def codeZ (n : Nat) : List Int := (bits8 (GC.getD n 0).toNat).drop 3
def gcrZ (ns : List Int) : List Int := (ns.map fun n => codeZ (n.toNat / 16) ++ codeZ (n.toNat % 16)).flatten
theorem codeZ_len {n : Nat} (h : n < 16) : (codeZ n).length = 5 := by
  unfold codeZ
  rw [List.length_drop, bits8_len]
theorem gcrZ_more {ns : List Int} {i v : Nat} (h : ns[i]? = some (v : Int)) : gcrZ (ns.take (i + 1)) = gcrZ (ns.take i) ++ codeZ (v / 16) ++ codeZ (v % 16) := by
  unfold gcrZ
  rw [take_more h, List.map_append, List.flatten_append]
  simp
theorem gcrZ_len : ∀ ns : List Int, Bytes ns → (gcrZ ns).length = 10 * ns.length
  | [], _ => rfl
  | n :: r, h => by
    have ih := gcrZ_len r fun x hx => h x (List.mem_cons_of_mem _ hx)
    have hn := h n List.mem_cons_self
    unfold gcrZ at ih ⊢
    rw [List.map_cons, List.flatten_cons, List.length_append, List.length_append, ih, codeZ_len (by omega), codeZ_len (by omega), List.length_cons]
    omega
def idxG (c : Int) : Int := if c ∈ GC then ((GC.idxOf c : Nat) : Int) else 0
def grp (cs : List Int) (i : Nat) : List Int := (cs.drop (5 * i)).take 5
def numG (cs : List Int) (i : Nat) : Int := idxG (byteZ (grp cs i))
def badG (cs : List Int) (i : Nat) : Bool := !decide (byteZ (grp cs i) ∈ GC)
def numsG (cs : List Int) (n : Nat) : List Int := (List.range n).map (numG cs)
def faultsG (cs : List Int) (n : Nat) : List Int := ((List.range n).filter (badG cs)).map fun i : Nat => (i : Int)
def valsG (cs : List Int) (n : Nat) : List Int := (List.range n).map fun k => 16 * numG cs (2 * k) + numG cs (2 * k + 1)
theorem faultsG_more {cs : List Int} {i : Nat} : faultsG cs (i + 1) = faultsG cs i ++ (if badG cs i = true then [(i : Int)] else []) := by
  unfold faultsG
  rw [List.range_succ, List.filter_append, List.map_append]
  cases h : badG cs i with
  | true => rw [List.filter_cons_of_pos h, if_pos rfl]; rfl
  | false => rw [List.filter_cons_of_neg (by rw [h]; decide), if_neg (by decide)]; rfl
theorem faultsG_len (cs : List Int) (n : Nat) : (faultsG cs n).length ≤ n := by
  unfold faultsG
  rw [List.length_map]
  have := List.length_filter_le (badG cs) (List.range n)
  rw [List.length_range] at this
  exact this
theorem numsG_more {cs : List Int} {i : Nat} : numsG cs (i + 1) = numsG cs i ++ [numG cs i] := by
  unfold numsG
  rw [List.range_succ, List.map_append]
  rfl
theorem numsG_len (cs : List Int) (n : Nat) : (numsG cs n).length = n := by
  unfold numsG
  rw [List.length_map, List.length_range]
theorem numsG_get {cs : List Int} {n i : Nat} (h : i < n) : (numsG cs n).getD i 0 = numG cs i := by
  unfold numsG
  rw [List.getD_eq_getElem?_getD, List.getElem?_map, List.getElem?_range h]
  rfl
theorem all_even {cs : List Int} {n : Nat} (h : cs.length = 2 * n) : picks cs (some 0) none 2 = evens cs n := by
  have e := whole_even (cs := cs) (n := n) (by omega)
  rw [List.take_of_length_le (by omega)] at e
  exact e
theorem all_odd {cs : List Int} {n : Nat} (h : cs.length = 2 * n) : picks cs (some 1) none 2 = odds cs n := by
  have e := whole_odd (cs := cs) (n := n) (by omega)
  rw [List.take_of_length_le (by omega)] at e
  exact e
theorem zip_vals {cs : List Int} {n : Nat} : List.zipWith (fun h l => 16 * h + l) (evens (numsG cs (2 * n)) n) (odds (numsG cs (2 * n)) n) = valsG cs n := by
  unfold evens odds valsG
  rw [List.zipWith_map, List.zipWith_self]
  refine List.map_congr_left fun i hi => ?_
  rw [List.mem_range] at hi
  rw [numsG_get (by omega), numsG_get (by omega)]
theorem idx_first {c : Int} {ns : List Int} (h : c ∈ ns) : ns[ns.idxOf c]? = some c ∧ ∀ m, m < ns.idxOf c → ns[m]? ≠ some c := by
  have hl := List.idxOf_lt_length_of_mem h
  refine ⟨by rw [List.getElem?_eq_getElem hl, List.getElem_idxOf], fun m hm e => ?_⟩
  have hm2 : m < ns.length := by omega
  rw [List.getElem?_eq_getElem hm2] at e
  have := List.not_of_lt_findIdx (p := fun x => x == c) (xs := ns) (i := m) (by exact hm)
  rw [Option.some.inj e] at this
  simp at this
theorem inV_int {c : Int} : ∀ ns : List Int, inV (.int c) (ns.map V.int) = decide (c ∈ ns)
  | [] => rfl
  | y :: r => by
    have ih := inV_int (c := c) r
    unfold inV at ih ⊢
    rw [List.map_cons, List.any_cons, ih]
    have e : eqV (.int y) (.int c) = decide (c = y) := by
      show (y == c) = _
      by_cases h : c = y
      · subst h; simp
      · rw [decide_eq_false h]
        have : ¬ y = c := fun q => h q.symm
        simp [this]
    rw [e, ← Bool.decide_or, decide_eq_decide, List.mem_cons]
theorem flat_int : ∀ l : List Int, (l.map V.int).all flatV = true
  | [] => rfl
  | y :: r => by
    rw [List.map_cons, List.all_cons, flat_int r]
    rfl
def spGcrCode : Sp := fun vs H Q _ => ∃ n : Nat, vs = [.int n] ∧ n < 16 ∧ ∀ D H', Same H H' → H D = none → H' D = some (IL (codeZ n)) → Q (.ref D) H'
def spGcrCells : Sp := fun vs H Q _ => ∃ (a : Addr) (ns : List Int), vs = [.ref a] ∧ H a = some (IL ns) ∧ Bytes ns ∧ ns.length ≤ 100000 ∧ ∀ D H', Same H H' → H D = none → H' D = some (IL (gcrZ ns)) → Q (.ref D) H'
def spReadGcr : Sp := fun vs H Q _ => ∃ (a : Addr) (cs : List Int), vs = [.ref a] ∧ H a = some (IL cs) ∧ cs.length ≤ 1000000 ∧
  ∀ t b f H', Same H H' → H t = none → H' t = some (.tup [.ref b, .ref f]) → H' b = some (IL (valsG cs (cs.length / 10))) → H' f = some (IL (faultsG cs (2 * (cs.length / 10)))) → Q (.ref t) H'
theorem room65 {k : Nat} {A : Around} (hr : Room k A) : A.units + 65 < cLine := by
  have := hr.un
  omega
theorem RowsAt.isL {H : Hp} {p : Addr} {rs : List (List Int)} (h : RowsAt H p rs) : Dw.isL (H p) = true := by
  obtain ⟨as, e, _⟩ := h
  rw [e]
  rfl
end Dw

namespace Dw
open PySem PySem.Spec PyProof.Rows L2
/-! ### no long runs -/
def okR (v : Int) (k : Nat) : Nat → List Int → Bool
  | n, [] => decide (n < k)
  | n, b :: r => decide (n < k) && okR v k (if b = v then n + 1 else 0) r
def endR (v : Int) : Nat → List Int → Nat
  | n, [] => n
  | n, b :: r => endR v (if b = v then n + 1 else 0) r
theorem okR_append (v : Int) (k : Nat) : ∀ (xs ys : List Int) (n : Nat), okR v k n xs = true → okR v k (endR v n xs) ys = true → okR v k n (xs ++ ys) = true
  | [], _, _, _, h => h
  | x :: xs, ys, n, h1, h2 => by
    unfold okR at h1
    rw [Bool.and_eq_true] at h1
    show (decide (n < k) && okR v k (if x = v then n + 1 else 0) (xs ++ ys)) = true
    rw [Bool.and_eq_true]
    exact ⟨h1.1, okR_append v k xs ys _ h1.2 h2⟩
theorem endR_append (v : Int) : ∀ (xs ys : List Int) (n : Nat), endR v n (xs ++ ys) = endR v (endR v n xs) ys
  | [], _, _ => rfl
  | x :: xs, ys, n => endR_append v xs ys _
theorem okR_lt {v : Int} {k n : Nat} : ∀ {xs : List Int}, okR v k n xs = true → n < k
  | [], h => of_decide_eq_true h
  | x :: xs, h => by
    unfold okR at h
    rw [Bool.and_eq_true] at h
    exact of_decide_eq_true h.1
theorem okR_rep {v : Int} {k : Nat} : ∀ (m n : Nat) {ys : List Int}, okR v k n (List.replicate m v ++ ys) = true → n + m < k
  | 0, n, ys, h => okR_lt h
  | m + 1, n, ys, h => by
    rw [List.replicate_succ, List.cons_append] at h
    unfold okR at h
    rw [Bool.and_eq_true, if_pos rfl] at h
    have := okR_rep m (n + 1) h.2
    omega
theorem okR_drop {v : Int} {k : Nat} : ∀ (i n : Nat) {xs : List Int}, okR v k n xs = true → ∃ n', okR v k n' (xs.drop i) = true
  | 0, n, xs, h => ⟨n, h⟩
  | i + 1, n, [], h => ⟨n, h⟩
  | i + 1, n, x :: xs, h => by
    unfold okR at h
    rw [Bool.and_eq_true] at h
    exact okR_drop i _ h.2
theorem no_run {v : Int} {k n : Nat} {xs : List Int} (h : okR v k n xs = true) (i : Nat) : (xs.drop i).take k ≠ List.replicate k v := by
  intro e
  obtain ⟨n', h2⟩ := okR_drop i n h
  rw [← List.take_append_drop k (xs.drop i), e] at h2
  have := okR_rep k n' h2
  omega
/-! ### texts of bits -/
def strB (b : Int) : Str := Str.ofString (toString b)
def txtB (cs : List Int) : Str := Txt.join (Str.ofString "") (cs.map strB)
theorem joinL_nil : ∀ parts : List (List Nat), TL.joinL [] parts = parts.flatten
  | [] => rfl
  | [p] => by
    show p = p ++ []
    rw [List.append_nil]
  | p :: q :: r => by
    show p ++ ([] ++ TL.joinL [] (q :: r)) = _
    rw [List.nil_append, joinL_nil (q :: r)]
    rfl
theorem tl_strB {b : Int} (h : b = 0 ∨ b = 1) : TL.tl (strB b) = [(48 + b).toNat] := by
  rcases h with rfl | rfl <;> decide +kernel
theorem tl_txtB {cs : List Int} (h : ∀ b ∈ cs, b = 0 ∨ b = 1) : TL.tl (txtB cs) = cs.map fun b => (48 + b).toNat := by
  have e : TL.tl (txtB cs) = TL.joinL (TL.tl (Str.ofString "")) ((cs.map strB).map TL.tl) := by rw [show txtB cs = Str.join (Str.ofString "") (cs.map strB) from TL.join_eq _ _]; exact TL.tl_join _ _
  have e0 : TL.tl (Str.ofString "") = [] := rfl
  rw [e, e0, joinL_nil, List.map_map]
  induction cs with
  | nil => rfl
  | cons b r ih =>
    rw [List.map_cons, List.flatten_cons, ih (fun x hx => h x (List.mem_cons_of_mem _ hx)) (by rw [show txtB r = Str.join (Str.ofString "") (r.map strB) from TL.join_eq _ _]; exact TL.tl_join _ _), List.map_cons]
    show TL.tl (strB b) ++ _ = _
    rw [tl_strB (h b List.mem_cons_self)]
    rfl
theorem codes_inj {v : Int} (hv : v = 0 ∨ v = 1) : ∀ {xs : List Int} {k : Nat}, (∀ b ∈ xs, b = 0 ∨ b = 1) → xs.map (fun b => (48 + b).toNat) = List.replicate k (48 + v).toNat → xs = List.replicate k v
  | [], 0, _, _ => rfl
  | [], k + 1, _, h => by rw [List.replicate_succ] at h; cases h
  | x :: xs, 0, _, h => by cases h
  | x :: xs, k + 1, hb, h => by
    rw [List.map_cons, List.replicate_succ] at h
    have h1 := (List.cons.inj h).1
    have h2 := codes_inj hv (fun b hb' => hb b (List.mem_cons_of_mem _ hb')) (List.cons.inj h).2
    have hx := hb x List.mem_cons_self
    have : x = v := by omega
    rw [h2, this, List.replicate_succ]
theorem not_in {v : Int} (hv : v = 0 ∨ v = 1) {k : Nat} {cs : List Int} {sub : Str} (hb : ∀ b ∈ cs, b = 0 ∨ b = 1) (hs : TL.tl sub = List.replicate k (48 + v).toNat) (h : okR v k 0 cs = true) :
    (!(Builtin.Str.occurrences (txtB cs) sub 0 (txtB cs).length 1).isEmpty) = false := by
  cases c : (!(Builtin.Str.occurrences (txtB cs) sub 0 (txtB cs).length 1).isEmpty) with
  | false => rfl
  | true =>
    obtain ⟨i, hi, hsub⟩ := (StrLaws.found_iff _ _).mp c
    rw [StrLaws.subAt_eq] at hsub
    have e := eq_of_beq hsub
    have e1 : (txtB cs).cps.toList = cs.map fun b => (48 + b).toNat := tl_txtB hb
    have e2 : sub.cps.toList = List.replicate k (48 + v).toNat := hs
    have e3 : sub.length = k := by
      have : sub.cps.toList.length = k := by rw [e2, List.length_replicate]
      exact this
    rw [e1, e2, e3, ← List.map_drop, ← List.map_take] at e
    have := codes_inj hv (fun b hb' => hb b (List.mem_of_mem_drop (List.mem_of_mem_take hb'))) e
    exact absurd this (no_run h i)
theorem txtB_len {cs : List Int} (h : ∀ b ∈ cs, b = 0 ∨ b = 1) : (txtB cs).length = cs.length := by
  have e := congrArg List.length (tl_txtB h)
  rw [List.length_map] at e
  exact e
/-! ### the group code: its runs, and back -/
theorem runs0 : ∀ a, a < 16 → ∀ n, n < 2 → okR 0 3 n (codeZ a) = true ∧ endR 0 n (codeZ a) < 2 := by decide +kernel
theorem runs1 : ∀ a, a < 16 → ∀ n, n < 5 → okR 1 9 n (codeZ a) = true ∧ endR 1 n (codeZ a) < 5 := by decide +kernel
theorem gcr_runs {v : Int} {k m : Nat} (hm : m ≤ k) (h : ∀ a, a < 16 → ∀ n, n < m → okR v k n (codeZ a) = true ∧ endR v n (codeZ a) < m) : ∀ (ns : List Int) (n : Nat), Bytes ns → n < m → okR v k n (gcrZ ns) = true
  | [], n, _, hn => by
    show decide (n < k) = true
    exact decide_eq_true (by omega)
  | x :: r, n, hb, hn => by
    have hx := hb x List.mem_cons_self
    have e : gcrZ (x :: r) = codeZ (x.toNat / 16) ++ (codeZ (x.toNat % 16) ++ gcrZ r) := by
      unfold gcrZ
      rw [List.map_cons, List.flatten_cons, List.append_assoc]
    obtain ⟨a1, a2⟩ := h (x.toNat / 16) (by omega) n hn
    obtain ⟨b1, b2⟩ := h (x.toNat % 16) (by omega) _ a2
    rw [e]
    exact okR_append v k _ _ n a1 (okR_append v k _ _ _ b1 (gcr_runs hm h r _ (fun y hy => hb y (List.mem_cons_of_mem _ hy)) b2))
theorem back5 : ∀ a, a < 16 → byteZ (codeZ a) ∈ GC ∧ idxG (byteZ (codeZ a)) = (a : Int) := by decide +kernel
theorem grp_zero {a : Nat} (ha : a < 16) (L : List Int) : grp (codeZ a ++ L) 0 = codeZ a := by
  unfold grp
  rw [Nat.mul_zero, List.drop_zero]
  exact List.take_left' (codeZ_len ha)
theorem grp_succ {a : Nat} (ha : a < 16) (L : List Int) (i : Nat) : grp (codeZ a ++ L) (i + 1) = grp L i := by
  unfold grp
  have e : 5 * (i + 1) = (codeZ a).length + 5 * i := by rw [codeZ_len ha]; omega
  rw [e, List.drop_append, List.drop_eq_nil_of_le (by omega), List.nil_append, Nat.add_sub_cancel_left]
theorem gcr_groups : ∀ (ns : List Int) (rest : List Int), Bytes ns → ∀ k, k < ns.length → ∃ v : Nat, ns[k]? = some (v : Int) ∧ v < 256 ∧ grp (gcrZ ns ++ rest) (2 * k) = codeZ (v / 16) ∧ grp (gcrZ ns ++ rest) (2 * k + 1) = codeZ (v % 16)
  | [], _, _, k, h => absurd h (Nat.not_lt_zero _)
  | x :: r, rest, hb, k, h => by
    have hx := hb x List.mem_cons_self
    have e : gcrZ (x :: r) ++ rest = codeZ (x.toNat / 16) ++ (codeZ (x.toNat % 16) ++ (gcrZ r ++ rest)) := by
      unfold gcrZ
      rw [List.map_cons, List.flatten_cons]
      simp only [List.append_assoc]
    have h1 : x.toNat / 16 < 16 := by omega
    have h2 : x.toNat % 16 < 16 := by omega
    rw [e]
    cases k with
    | zero =>
      refine ⟨x.toNat, by show some x = _; congr 1; omega, by omega, grp_zero h1 _, ?_⟩
      rw [Nat.mul_zero, grp_succ h1, grp_zero h2]
    | succ k =>
      obtain ⟨v, q1, q2, q3, q4⟩ := gcr_groups r rest (fun y hy => hb y (List.mem_cons_of_mem _ hy)) k (by simpa using h)
      have e1 : 2 * (k + 1) = (2 * k + 1) + 1 := by omega
      refine ⟨v, q1, q2, ?_, ?_⟩
      · rw [e1, grp_succ h1, grp_succ h2]
        exact q3
      · rw [e1, grp_succ h1, grp_succ h2]
        exact q4
theorem gcr_vals {ns rest : List Int} (hb : Bytes ns) : valsG (gcrZ ns ++ rest) ns.length = ns := by
  unfold valsG
  apply List.ext_getElem
  · rw [List.length_map, List.length_range]
  · intro k h1 h2
    rw [List.getElem_map, List.getElem_range]
    obtain ⟨v, q1, q2, q3, q4⟩ := gcr_groups ns rest hb k h2
    unfold numG
    rw [q3, q4, (back5 _ (by omega)).2, (back5 _ (by omega)).2]
    rw [List.getElem?_eq_getElem h2] at q1
    rw [Option.some.inj q1]
    omega
theorem gcr_faults {ns rest : List Int} (hb : Bytes ns) : faultsG (gcrZ ns ++ rest) (2 * ns.length) = [] := by
  unfold faultsG
  have : (List.range (2 * ns.length)).filter (badG (gcrZ ns ++ rest)) = [] := by
    refine List.filter_eq_nil_iff.mpr fun i hi => ?_
    rw [List.mem_range] at hi
    obtain ⟨v, q1, q2, q3, q4⟩ := gcr_groups ns rest hb (i / 2) (by omega)
    unfold badG
    have : i = 2 * (i / 2) ∨ i = 2 * (i / 2) + 1 := by omega
    rcases this with e | e
    · rw [e, q3, decide_eq_true (back5 _ (by omega)).1]
      decide
    · rw [e, q4, decide_eq_true (back5 _ (by omega)).1]
      decide
  rw [this]
  rfl
/-! ### FM and MFM, and back -/
theorem evens_cons (x y : Int) (L : List Int) (n : Nat) : evens (x :: y :: L) (n + 1) = x :: evens L n := by
  unfold evens
  rw [List.range_succ_eq_map, List.map_cons, List.map_map]
  congr 1
theorem odds_cons (x y : Int) (L : List Int) (n : Nat) : odds (x :: y :: L) (n + 1) = y :: odds L n := by
  unfold odds
  rw [List.range_succ_eq_map, List.map_cons, List.map_map]
  congr 1
theorem fm_odds : ∀ bs rest : List Int, odds (fmZ bs ++ rest) bs.length = bs
  | [], _ => rfl
  | b :: r, rest => by
    have e : fmZ (b :: r) ++ rest = 1 :: b :: (fmZ r ++ rest) := rfl
    rw [e, List.length_cons, odds_cons, fm_odds r rest]
theorem fm_evens : ∀ bs rest : List Int, evens (fmZ bs ++ rest) bs.length = List.replicate bs.length 1
  | [], _ => rfl
  | b :: r, rest => by
    have e : fmZ (b :: r) ++ rest = 1 :: b :: (fmZ r ++ rest) := rfl
    rw [e, List.length_cons, evens_cons, fm_evens r rest, List.replicate_succ]
theorem mfm_odds : ∀ (l : Int) (bs rest : List Int), odds (mfmF l bs ++ rest) bs.length = bs
  | _, [], _ => rfl
  | l, b :: r, rest => by
    have e : mfmF l (b :: r) ++ rest = clk l b :: b :: (mfmF b r ++ rest) := rfl
    rw [e, List.length_cons, odds_cons, mfm_odds b r rest]
theorem mfm_evens : ∀ (l : Int) (bs rest : List Int) (i : Nat), i < bs.length → (evens (mfmF l bs ++ rest) bs.length).getD i 0 = clk (lastB l bs i) (bs.getD i 0)
  | _, [], _, _, h => absurd h (Nat.not_lt_zero _)
  | l, b :: r, rest, i, h => by
    have e : mfmF l (b :: r) ++ rest = clk l b :: b :: (mfmF b r ++ rest) := rfl
    rw [e, List.length_cons, evens_cons]
    cases i with
    | zero => rfl
    | succ i =>
      rw [List.getD_cons_succ, mfm_evens b r rest i (by simpa using h), List.getD_cons_succ]
      congr 1
      cases i with
      | zero => rfl
      | succ i => rfl
theorem fm_faults (n : Nat) : fmF (List.replicate n 1) = [] := by
  unfold fmF
  have : (List.range (List.replicate n (1 : Int)).length).filter (fun i => !decide ((List.replicate n (1 : Int)).getD i 0 = 1)) = [] := by
    refine List.filter_eq_nil_iff.mpr fun i hi => ?_
    rw [List.mem_range, List.length_replicate] at hi
    have : (List.replicate n (1 : Int)).getD i 0 = 1 := by
      rw [List.getD_eq_getElem?_getD, List.getElem?_replicate, if_pos hi]
      rfl
    rw [this]
    decide
  rw [this]
  rfl
theorem mfm_faults (l : Int) (bs rest : List Int) : mfmFa l (evens (mfmF l bs ++ rest) bs.length) bs = [] := by
  unfold mfmFa
  have : (List.range (evens (mfmF l bs ++ rest) bs.length).length).filter (mfmT l (evens (mfmF l bs ++ rest) bs.length) bs) = [] := by
    refine List.filter_eq_nil_iff.mpr fun i hi => ?_
    rw [List.mem_range, evens_len] at hi
    unfold mfmT
    rw [mfm_evens l bs rest i hi, decide_eq_true rfl]
    decide
  rw [this]
  rfl
theorem bytes_bits : ∀ ns : List Int, Bytes ns → bytesZ (bitsOf ns) = ns
  | [], _ => rfl
  | x :: r, hb => by
    have hx := hb x List.mem_cons_self
    have ih := bytes_bits r fun y hy => hb y (List.mem_cons_of_mem _ hy)
    have e : bitsOf (x :: r) = bits8 x.toNat ++ bitsOf r := rfl
    have hl : (bits8 x.toNat ++ bitsOf r).length / 8 = (bitsOf r).length / 8 + 1 := by rw [List.length_append, bits8_len]; omega
    unfold bytesZ at ih ⊢
    rw [e, hl, List.range_succ_eq_map, List.map_cons, List.map_map]
    have e0 : byteZ (((bits8 x.toNat ++ bitsOf r).drop (8 * 0)).take 8) = x := by
      rw [Nat.mul_zero, List.drop_zero, List.take_left' (bits8_len _), byteZ_bits8 (by omega)]
      omega
    rw [e0]
    refine congrArg (x :: ·) (Eq.trans ?_ ih)
    refine List.map_congr_left fun k _ => ?_
    simp only [Function.comp]
    have e8 : 8 * (k + 1) = (bits8 x.toNat).length + 8 * k := by rw [bits8_len]; omega
    rw [Nat.succ_eq_add_one, e8, List.drop_append, List.drop_eq_nil_of_le (by omega), List.nil_append, Nat.add_sub_cancel_left]
theorem mfm0 : ∀ l : Nat, l < 2 → ∀ b : Nat, b < 2 → ∀ n : Nat, n < 3 → (l = 1 ∧ n ≠ 0) ∨ (okR 0 4 n [clk (l : Nat) (b : Nat), (b : Nat)] = true ∧ (endR 0 n [clk (l : Nat) (b : Nat), (b : Nat)] < 3 ∧ (b ≠ 1 ∨ endR 0 n [clk (l : Nat) (b : Nat), (b : Nat)] = 0))) := by
  have t : ((List.range 2).all fun l => (List.range 2).all fun b => (List.range 3).all fun n => (decide (l = 1) && decide (n ≠ 0)) || (okR 0 4 n [clk (l : Nat) (b : Nat), (b : Nat)] && (decide (endR 0 n [clk (l : Nat) (b : Nat), (b : Nat)] < 3) && (decide (b ≠ 1) || decide (endR 0 n [clk (l : Nat) (b : Nat), (b : Nat)] = 0))))) = true := by decide +kernel
  simp only [List.all_eq_true, List.mem_range, Bool.or_eq_true, Bool.and_eq_true, decide_eq_true_eq] at t
  exact t
theorem mfm1 : ∀ l : Nat, l < 2 → ∀ b : Nat, b < 2 → okR 1 2 l [clk (l : Nat) (b : Nat), (b : Nat)] = true ∧ endR 1 l [clk (l : Nat) (b : Nat), (b : Nat)] = b := by decide +kernel
theorem mfm_run0 : ∀ (bs : List Int) (l n : Nat), (∀ b ∈ bs, b = 0 ∨ b = 1) → l < 2 → n < 3 → (l = 1 → n = 0) → okR 0 4 n (mfmF (l : Int) bs) = true
  | [], l, n, _, _, hn, _ => decide_eq_true (by omega)
  | b :: r, l, n, hb, hl, hn, hln => by
    obtain ⟨m, hm, rfl⟩ : ∃ m : Nat, m < 2 ∧ b = (m : Int) := by
      rcases hb b List.mem_cons_self with rfl | rfl
      · exact ⟨0, by decide, rfl⟩
      · exact ⟨1, by decide, rfl⟩
    obtain ⟨h1, h2, h3⟩ := (mfm0 l hl m hm n hn).resolve_left fun h => h.2 (hln h.1)
    exact okR_append 0 4 [clk (l : Int) (m : Int), (m : Int)] (mfmF (m : Int) r) n h1 (mfm_run0 r m _ (fun x hx => hb x (List.mem_cons_of_mem _ hx)) hm h2 fun e => h3.resolve_left fun q => q e)
theorem mfm_run1 : ∀ (bs : List Int) (l : Nat), (∀ b ∈ bs, b = 0 ∨ b = 1) → l < 2 → okR 1 2 l (mfmF (l : Int) bs) = true
  | [], l, _, hl => decide_eq_true (by omega)
  | b :: r, l, hb, hl => by
    obtain ⟨m, hm, rfl⟩ : ∃ m : Nat, m < 2 ∧ b = (m : Int) := by
      rcases hb b List.mem_cons_self with rfl | rfl
      · exact ⟨0, by decide, rfl⟩
      · exact ⟨1, by decide, rfl⟩
    obtain ⟨h1, h2⟩ := mfm1 l hl m hm
    refine okR_append 1 2 [clk (l : Int) (m : Int), (m : Int)] (mfmF (m : Int) r) l h1 ?_
    rw [h2]
    exact mfm_run1 r m (fun x hx => hb x (List.mem_cons_of_mem _ hx)) hm
def rRepS : R2 := fun x y H Q => ∃ i n, x = .str i ∧ y = .int n ∧ MulOk i n ∧ Q (.str (Txt.mul i n)) H
theorem op_rep_str : OpR X (binaryOp .Mult) rRepS := by
  intro pins s σ H x y v u Q I rx ry h
  obtain ⟨i, j, rfl, rfl, hz, q⟩ := h
  obtain ⟨t, rfl⟩ := rx
  obtain ⟨t', rfl⟩ := ry
  exact SB.mul hz (fun t' tk => ⟨.str (Txt.mul i j), H, I.tok _, ⟨_, rfl⟩, q⟩)
theorem nine_ok : MulOk (Str.ofString "1") 9 := by
  refine ⟨by decide, fun _ _ => by decide, fun _ _ => by decide⟩
theorem nine : TL.tl (Txt.mul (Str.ofString "1") 9) = List.replicate 9 (48 + (1 : Int)).toNat := by decide +kernel
theorem three0 : TL.tl (Str.ofString "000") = List.replicate 3 (48 + (0 : Int)).toNat := by decide +kernel
theorem four0 : TL.tl (Str.ofString "0000") = List.replicate 4 (48 + (0 : Int)).toNat := by decide +kernel
theorem two1 : TL.tl (Str.ofString "11") = List.replicate 2 (48 + (1 : Int)).toNat := by decide +kernel
end Dw

namespace Dw
open PySem PySem.Spec PyProof.Rows L2
/-! ### comprehensions over the int keys of a locked dict -/
theorem key_at {kvs : List (Key × V)} {ks : List Int} (hk : kvs.map (·.1) = ks.map Sum.inl) {i : Nat} {k : Key} {v : V} (h : kvs[i]? = some (k, v)) : ∃ z, ks[i]? = some z ∧ k = .inl z := by
  have e : (kvs.map (·.1))[i]? = some k := by rw [List.getElem?_map, h]; rfl
  rw [hk, List.getElem?_map] at e
  obtain ⟨z, hz, e2⟩ := Option.map_eq_some_iff.mp e
  exact ⟨z, hz, e2.symm⟩
theorem lc_keys {d : Addr} {o : Obj} {kvs : List (Key × V)} {ks : List Int} {p : Int → Bool} {g : Int → V} {tt : TT} {j : Nat} {te : TE} {vs : List Nat} {σ : L2.St} {H1 : Hp} {D : Addr} {Qd : Hp → Prop} (hk : kvs.map (·.1) = ks.map Sum.inl) (hn : ks.length ≤ 16777215) (hF : H1 d = some (.frz o (.dK kvs))) (hD : H1 D = none) (hw : ∀ v, wipe ((wipe σ vs).set j v) vs = wipe σ vs)
    (htt : ∀ k H3 (Q' : Bool → Hp → Prop), k ∈ ks → Same H1 H3 → (∀ H4, Same H3 H4 → Q' (p k) H4) → tt ((wipe σ vs).set j (some (.int k))) H3 Q')
    (hte : ∀ k H3 (Q' : VK), k ∈ ks → Same H1 H3 → (∀ H4, Same H3 H4 → Q' (g k) H4) → te ((wipe σ vs).set j (some (.int k))) H3 Q')
    (hd : ∀ H', Same H1 H' → H' D = some (.lst ((ks.filter p).map g)) → Qd H') : LcW (Itk d o kvs) (gName j) tt te vs σ H1 D Qd := by
  have kl : kvs.length = ks.length := by
    have := congrArg List.length hk
    rwa [List.length_map, List.length_map] at this
  refine lc_it walk_keys (fun i H' => Same H1 H' ∧ H' D = some (.lst (((ks.take i).filter p).map g))) ⟨same_new hD _, upd_same⟩ (fun i H _ h => h.1 _ _ hF) ?_ ?_
  · intro i x H H' hi h hy
    obtain ⟨h1, h2⟩ := h
    obtain ⟨rfl, ky, v, hkv, rfl⟩ := hy
    obtain ⟨z, hz, rfl⟩ := key_at hk hkv
    have hm := List.mem_of_getElem? hz
    refine ⟨hw _, ?_⟩
    refine htt z H' _ hm h1 fun H4 s4 => ?_
    have h4 := s4 _ _ h2
    by_cases c : p z = true
    · rw [if_pos c]
      refine hte z H4 _ hm (h1.trans s4) fun H5 s5 => ?_
      have h5 := s5 _ _ h4
      refine ⟨_, h5, ?_, ?_⟩
      · rw [List.length_map]
        have q1 := List.length_filter_le p (ks.take i)
        rw [List.length_take] at q1
        exact line_lt (by omega)
      · refine ⟨fun b ob hb => ?_, ?_⟩
        · rw [upd_ne (ne_of_none hb hD)]
          exact s5 _ _ (s4 _ _ (h1 _ _ hb))
        · rw [upd_same, take_more hz, List.filter_append, List.map_append, List.filter_cons_of_pos c]
          rfl
    · rw [if_neg c]
      refine ⟨h1.trans s4, ?_⟩
      rw [h4, take_more hz, List.filter_append, List.filter_cons_of_neg c, List.filter_nil, List.append_nil]
  · intro H h
    rw [kl, List.take_length] at h
    exact hd H h.1 h.2
theorem lc_intsF {K : PySem.W.Frag} {a : Addr} {ks : List Int} {p : Int → Bool} {g : Int → V} {tt : TT} {j : Nat} {te : TE} {vs : List Nat} {σ : L2.St} {H1 : Hp} {D : Addr} {Qd : Hp → Prop} (hn : ks.length ≤ 16777215) (hA : H1 a = some (IL ks)) (hD : H1 D = none) (hw : ∀ v, wipe ((wipe σ vs).set j v) vs = wipe σ vs)
    (htt : ∀ k H3 (Q' : Bool → Hp → Prop), k ∈ ks → Same H1 H3 → (∀ H4, Same H3 H4 → Q' (p k) H4) → tt ((wipe σ vs).set j (some (.int k))) H3 Q')
    (hte : ∀ k H3 (Q' : VK), k ∈ ks → Same H1 H3 → (∀ H4, Same H3 H4 → Q' (g k) H4) → te ((wipe σ vs).set j (some (.int k))) H3 Q')
    (hd : ∀ H', Same H1 H' → H' D = some (.lst ((ks.filter p).map g)) → Qd H') : LcW (Itl K a) (gName j) tt te vs σ H1 D Qd := by
  refine lc_list (K := K) (a := a) (xs := ks.map V.int) (fun i H' => Same H1 H' ∧ H' D = some (.lst (((ks.take i).filter p).map g))) ⟨same_new hD _, upd_same⟩ (fun i H _ h => .of (h.1 _ _ hA)) ?_ ?_
  · intro i x H hi h
    obtain ⟨h1, h2⟩ := h
    obtain ⟨z, rfl, hz⟩ := ints_at hi
    have hm := List.mem_of_getElem? hz
    refine ⟨hw _, ?_⟩
    refine htt z H _ hm h1 fun H4 s4 => ?_
    have h4 := s4 _ _ h2
    by_cases c : p z = true
    · rw [if_pos c]
      refine hte z H4 _ hm (h1.trans s4) fun H5 s5 => ?_
      have h5 := s5 _ _ h4
      refine ⟨_, h5, ?_, ?_⟩
      · rw [List.length_map]
        have q1 := List.length_filter_le p (ks.take i)
        rw [List.length_take] at q1
        exact line_lt (by omega)
      · refine ⟨fun b ob hb => ?_, ?_⟩
        · rw [upd_ne (ne_of_none hb hD)]
          exact s5 _ _ (s4 _ _ (h1 _ _ hb))
        · rw [upd_same, take_more hz, List.filter_append, List.map_append, List.filter_cons_of_pos c]
          rfl
    · rw [if_neg c]
      refine ⟨h1.trans s4, ?_⟩
      rw [h4, take_more hz, List.filter_append, List.filter_cons_of_neg c, List.filter_nil, List.append_nil]
  · intro H h
    rw [List.length_map, List.take_length] at h
    exact hd H h.1 h.2
theorem lc_rangeR {lo : Int} {n j : Nat} {R : Nat → V → Prop} {te : TE} {vs : List Nat} {σ : L2.St} {H1 : Hp} {D : Addr} {Qd : Hp → Prop} (hn : n ≤ 16777215) (hD : H1 D = none) (hw : ∀ v, wipe ((wipe σ vs).set j v) vs = wipe σ vs)
    (hte : ∀ i H3 (Q' : VK), i < n → Same H1 H3 → (∀ v H4, R i v → Same H3 H4 → Q' v H4) → te ((wipe σ vs).set j (some (.int (lo + (i : Nat))))) H3 Q')
    (hd : ∀ xs H', Same H1 H' → H' D = some (.lst xs) → xs.length = n → (∀ i v, xs[i]? = some v → R i v) → Qd H') : LcW (Itr lo n) (gName j) tYes te vs σ H1 D Qd := by
  refine lc_range (lo := lo) (n := n) (fun i H' => Same H1 H' ∧ ∃ xs : List V, H' D = some (.lst xs) ∧ xs.length = i ∧ ∀ i v, xs[i]? = some v → R i v) ⟨same_new hD _, [], upd_same, rfl, fun i v h => by simp at h⟩ ?_ ?_
  · intro i H hi h
    obtain ⟨h1, xs, h2, h3, h4⟩ := h
    refine ⟨hw _, ?_⟩
    simp only [tYes, if_true]
    refine hte i H _ hi h1 fun v H4 hR s4 => ?_
    refine ⟨xs, s4 _ _ h2, line_lt (by omega), fun b o hb => ?_, xs ++ [v], upd_same, by rw [List.length_append, h3]; rfl, fun k x hx => ?_⟩
    · rw [upd_ne (ne_of_none hb hD)]
      exact s4 _ _ (h1 _ _ hb)
    · by_cases c : k < xs.length
      · rw [List.getElem?_append_left c] at hx
        exact h4 k x hx
      · rw [List.getElem?_append_right (by omega)] at hx
        have : k - xs.length = 0 := by
          cases q : k - xs.length with
          | zero => rfl
          | succ m => rw [q] at hx; simp at hx
        rw [this] at hx
        have e : k = i := by omega
        rw [e, ← Option.some.inj hx]
        exact hR
  · intro H h
    obtain ⟨h1, xs, h2, h3, h4⟩ := h
    exact hd xs H h1 h2 h3 h4
/-! ### how often each value stands in a list -/
def keysOf (ns : List Int) : List Int := ns.foldl (fun ks v => if v ∈ ks then ks else ks ++ [v]) []
theorem keys_ok : ∀ (ns ks : List Int), ks.Nodup → (ns.foldl (fun ks v => if v ∈ ks then ks else ks ++ [v]) ks).Nodup ∧ ∀ z, z ∈ ns.foldl (fun ks v => if v ∈ ks then ks else ks ++ [v]) ks ↔ z ∈ ks ∨ z ∈ ns
  | [], ks, h => ⟨h, fun z => by simp⟩
  | v :: r, ks, h => by
    rw [List.foldl_cons]
    by_cases c : v ∈ ks
    · rw [if_pos c]
      obtain ⟨h1, h2⟩ := keys_ok r ks h
      refine ⟨h1, fun z => ?_⟩
      rw [h2, List.mem_cons]
      constructor
      · rintro (h | h)
        · exact .inl h
        · exact .inr (.inr h)
      · rintro (h | rfl | h)
        · exact .inl h
        · exact .inl c
        · exact .inr h
    · rw [if_neg c]
      obtain ⟨h1, h2⟩ := keys_ok r (ks ++ [v]) (by
        rw [List.nodup_append]
        refine ⟨h, by simp, fun a ha b hb => ?_⟩
        rw [List.mem_singleton] at hb
        exact fun e => c (hb ▸ e ▸ ha))
      refine ⟨h1, fun z => ?_⟩
      rw [h2, List.mem_append, List.mem_singleton, List.mem_cons]
      constructor
      · rintro ((h | h) | h)
        · exact .inl h
        · exact .inr (.inl h)
        · exact .inr (.inr h)
      · rintro (h | h | h)
        · exact .inl (.inl h)
        · exact .inl (.inr h)
        · exact .inr h
theorem keysOf_nodup (ns : List Int) : (keysOf ns).Nodup := (keys_ok ns [] List.nodup_nil).1
theorem mem_keysOf {ns : List Int} {z : Int} : z ∈ keysOf ns ↔ z ∈ ns := by
  unfold keysOf
  rw [(keys_ok ns [] List.nodup_nil).2]
  simp
theorem keysOf_len (ns : List Int) : (keysOf ns).length ≤ ns.length := by
  have h : ∀ (ns ks : List Int), (ns.foldl (fun ks v => if v ∈ ks then ks else ks ++ [v]) ks).length ≤ ks.length + ns.length := by
    intro ns
    induction ns with
    | nil => intro ks; exact Nat.le_refl _
    | cons v r ih =>
      intro ks
      rw [List.foldl_cons]
      refine Nat.le_trans (ih _) ?_
      rw [List.length_cons]
      split
      · omega
      · rw [List.length_append]; simp; omega
  have h2 := h ns []
  rw [List.length_nil, Nat.zero_add] at h2
  exact h2
theorem keysOf_more {ns : List Int} {i : Nat} {v : Int} (h : ns[i]? = some v) : keysOf (ns.take (i + 1)) = if v ∈ keysOf (ns.take i) then keysOf (ns.take i) else keysOf (ns.take i) ++ [v] := by
  unfold keysOf
  rw [take_more h, List.foldl_append]
  rfl
def kvC (ns : List Int) : List (Key × V) := (keysOf ns).map fun z => (.inl z, .int ((ns.count z : Nat) : Int))
theorem kvC_keys (ns : List Int) : (kvC ns).map (·.1) = (keysOf ns).map Sum.inl := by
  unfold kvC
  rw [List.map_map]
  rfl
theorem kvC_len (ns : List Int) : (kvC ns).length = (keysOf ns).length := List.length_map _
theorem valV_map (f : Int → V) (z : Int) : ∀ ks : List Int, valV (ks.map fun z => ((Sum.inl z : Key), f z)) (.inl z) = if z ∈ ks then some (f z) else none
  | [] => rfl
  | k :: r => by
    rw [List.map_cons]
    by_cases c : k = z
    · subst c
      rw [valV_pos rfl, if_pos List.mem_cons_self]
    · rw [valV_neg (fun e => c (Sum.inl.inj e)), valV_map f z r]
      have : (z ∈ k :: r) ↔ z ∈ r := by
        rw [List.mem_cons]
        exact ⟨fun h => h.resolve_left fun e => c e.symm, .inr⟩
      by_cases c2 : z ∈ r
      · rw [if_pos c2, if_pos (this.mpr c2)]
      · rw [if_neg c2, if_neg fun h => c2 (this.mp h)]
theorem valV_kvC (ns : List Int) (z : Int) : valV (kvC ns) (.inl z) = if z ∈ ns then some (.int ((ns.count z : Nat) : Int)) else none := by
  unfold kvC
  rw [valV_map]
  by_cases c : z ∈ ns
  · rw [if_pos c, if_pos (mem_keysOf.mpr c)]
  · rw [if_neg c, if_neg fun h => c (mem_keysOf.mp h)]
theorem getD_kvC (ns : List Int) (z : Int) : (valV (kvC ns) (.inl z)).getD (.int 0) = .int ((ns.count z : Nat) : Int) := by
  rw [valV_kvC]
  by_cases c : z ∈ ns
  · rw [if_pos c]; rfl
  · rw [if_neg c, List.count_eq_zero_of_not_mem c]; rfl
theorem putK_kvC {ns : List Int} {i : Nat} {v : Int} (h : ns[i]? = some v) : putK (kvC (ns.take i)) (.inl v) (.int (((ns.take i).count v : Nat) + 1 : Int)) = kvC (ns.take (i + 1)) := by
  have hc : ∀ z, (ns.take (i + 1)).count z = (ns.take i).count z + if v = z then 1 else 0 := fun z => by
    rw [take_more h, List.count_append]
    congr 1
    rw [List.count_cons, List.count_nil]
    by_cases e : v = z
    · subst e; simp
    · simp [e]
  by_cases c : v ∈ keysOf (ns.take i)
  · have hany : ((kvC (ns.take i)).any fun kv => decide (kv.1 = Sum.inl v)) = true := by
      rw [List.any_eq_true]
      exact ⟨_, List.mem_map.mpr ⟨v, c, rfl⟩, decide_eq_true rfl⟩
    unfold putK
    rw [if_pos hany]
    unfold kvC
    rw [keysOf_more h, if_pos c, List.map_map]
    refine List.map_congr_left fun z hz => ?_
    simp only [Function.comp]
    rw [hc z]
    by_cases e : z = v
    · subst e
      rw [if_pos rfl, if_pos rfl]
      rfl
    · rw [if_neg fun q => e (Sum.inl.inj q), if_neg fun q => e q.symm]
      rfl
  · rw [putK_new _ (by rw [valV_kvC, if_neg fun m => c (mem_keysOf.mpr m)])]
    unfold kvC
    rw [keysOf_more h, if_neg c, List.map_append]
    congr 1
    · refine List.map_congr_left fun z hz => ?_
      rw [hc z, if_neg fun q => c (by rw [q]; exact hz)]
      rfl
    · show [((Sum.inl v : Key), V.int (((ns.take i).count v : Nat) + 1 : Int))] = [((Sum.inl v : Key), V.int (((ns.take (i + 1)).count v : Nat) : Int))]
      rw [hc v, if_pos rfl]
      rfl
/-! ### the winner -/
def topOf (ns : List Int) (m : Int) : List Int := (keysOf ns).filter fun z => decide (((ns.count z : Nat) : Int) = m)
/-- what one place of a merged dump is -/
def mergedV (ns : List Int) (v : V) : Prop := ∃ m : Int, (∃ z ∈ ns, ((ns.count z : Nat) : Int) = m) ∧ (∀ z ∈ ns, ((ns.count z : Nat) : Int) ≤ m) ∧ v = if (topOf ns m).length = 1 then .int ((topOf ns m).getD 0 0) else .non
theorem merged_of {ns : List Int} {m : Int} (h1 : ∃ z ∈ ns, ((ns.count z : Nat) : Int) = m) (h2 : ∀ z ∈ ns, ((ns.count z : Nat) : Int) ≤ m) {best : List Int} (hp : best.Pairwise (· < ·)) (hb : ∀ z, z ∈ best ↔ z ∈ ns ∧ ((ns.count z : Nat) : Int) = m) {v : V} (hv : mergedV ns v) :
    v = if best.length = 1 then .int (best.getD 0 0) else .non := by
  obtain ⟨m2, ⟨z2, a1, a2⟩, a3, rfl⟩ := hv
  obtain ⟨z1, b1, b2⟩ := h1
  have hm : m2 = m := by
    have q1 := h2 z2 a1
    have q2 := a3 z1 b1
    omega
  subst hm
  have hmem : ∀ z, z ∈ topOf ns m2 ↔ z ∈ best := fun z => by
    unfold topOf
    rw [List.mem_filter, decide_eq_true_eq, mem_keysOf, hb]
  have hnd : (topOf ns m2).Nodup := (keysOf_nodup ns).filter _
  have hnb : best.Nodup := hp.imp fun h => by omega
  have perm : (topOf ns m2).Perm best := (List.perm_ext_iff_of_nodup hnd hnb).mpr hmem
  rw [perm.length_eq]
  by_cases c : best.length = 1
  · rw [if_pos c, if_pos c]
    match best, c with
    | [b], _ =>
      rw [List.perm_singleton.mp perm]
  · rw [if_neg c, if_neg c]
end Dw

/-! sums of tuples, an own __eq__ that may be False, isinstance of an own instance -/
namespace Dw
open PySem PySem.Spec PyProof.Rows L2
section
variable {prog : Program} {w : World} {A : Around} {E : Value → Shared → Prop} {s : Shared} {l : Addr} {xs : Array (Int × Tok)}
theorem sum_tupW {Q : Value → Shared → Prop} (hh : A.handled = none) (hl : s.heap.IsTuple l (intItems xs))
    (h : ∀ h' tk t', (∀ b o, s.heap.get? b = some o → h'.get? b = some o) → Q (.int (preSum (numAt xs) xs.size) t') { s with heap := h', toks := tk }) :
    wpAny (model prog w) A (call (.builtin "sum") [.ref l]) Q E s := by
  have hlt : l < s.heap.objs.size := by
    obtain ⟨_, e, _⟩ := hl
    exact Heap.lt_size e
  refine call_sum_walkG (wpAny_pyIter_tuple hl ?_)
  refine ⟨_, [s.heap.objs.size, l], [s.heap.objs.size], _, _, _, numAt xs, rfl, Walks.tuple (A := A.in1) hh _ l (Nat.ne_of_lt hlt) (intItems xs), ⟨⟨_, Heap.get?_push_size _ rfl, rfl, rfl⟩, hl.push _⟩, fun b hb => ?_, (fun _ _ => intItems_at), fun h' tk t' hk => ?_⟩
  · show b < (s.heap.push _).objs.size
    rw [Heap.size_push]
    simp only [List.mem_cons, List.not_mem_nil, or_false] at hb
    rcases hb with rfl | rfl
    · exact Nat.lt_succ_self _
    · exact Nat.lt_succ_of_lt hlt
  · have := h h' tk t' fun b o e => hk b o (fun hm => by
      have hb := Heap.lt_size e
      rw [List.mem_singleton.mp hm] at hb
      exact Nat.lt_irrefl _ hb) (Heap.get?_push_of_some _ e)
    simpa [intItems] using this
end
def rSumT (K : PySem.W.Frag) : List V → Hp → VK → Prop := fun vs H Q => ∃ (a : Addr) (ns : List Int), vs = [V.ref a] ∧ SqT K H a (ns.map V.int) ∧ Q (.int ns.sum) H
section
variable {X : Cx}
theorem cr_sumT (hc : X.calm = true) : CallR X (.builtin "sum") (rSumT X.K) := by
  intro pins s σ H vs us Q I r h
  obtain ⟨a, ns, rfl, hs, q⟩ := h
  obtain ⟨its, rv, hl, _⟩ := I.tuple hs
  rw [Vals.ref1 r]
  obtain ⟨xs, e⟩ := rv.ints.allInts.items
  have hn : numsOf (intItems xs).toList = ns := by
    rw [← e]
    exact rv.ints.numsOf
  rw [nums_intItems] at hn
  rw [e] at hl
  refine sum_tupW (I.ok.hd hc) hl fun h' tk t' hk => ?_
  rw [preSum_eq, List.take_of_length_le (by simp), hn]
  exact ⟨.int _, H, I.kept hk, ⟨_, rfl⟩, q⟩
def rEqOwn (C : Addr) (sp : Sp) : R2 := fun x y H Q => ∃ a b dx dy fs gs, x = .ref a ∧ y = .ref b ∧ H a = some (.ins C dx fs) ∧ H b = some (.ins C dy gs) ∧ sp [.ref a, .ref b] H (fun v H' => ∃ k, v = .bl k ∧ Q v H') E0
theorem op_eqOwn {n : Nat} {C f : Addr} {fd : FuncData} {ps : List Str} {sp : Sp} (M : Meth X.K C "__eq__" f) (F : FnOk X.prog X.w X.K X.mg X.base CX0 n f fd ps sp) (hb : Binds X.K fd ps []) (hr : Room n X.A) : OpR X (compareOp .Eq) (rEqOwn C sp) := by
  intro pins s σ H x y v u Q I rx ry hq
  obtain ⟨a, b, dx, dy, fs, gs, rfl, rfl, ha, hb', hsp⟩ := hq
  show wpAny (model X.prog X.w) X.A (richCompare .Eq v u) (EP X pins σ Q) X.xe s
  cases rx
  cases ry
  obtain ⟨mA, J, _⟩ := ins_get I.hok ha
  obtain ⟨mB, J', _⟩ := ins_get I.hok hb'
  obtain ⟨od, J, _⟩ := J.look
  obtain ⟨od', J', _⟩ := J'.look
  obtain ⟨m, hF⟩ := I.fr
  refine PySem.W.cmp_K (op := .Eq) (tb := .ref C) hr.units0 hF I.ok.mod.kin J J'.type (by simp [PySem.W.notFirst]) M.at_ M.fn ?_
  refine wpAny_mono (run_fn (us := [.ref a, .ref b]) (vs := [.ref a, .ref b]) (dvs := []) F hr hb .nil pass0 I (.cons rfl (.cons rfl .nil)) hsp) (fun v s' q => ?_) fun _ _ e => e
  obtain ⟨z, H', I', rz, k, ez, q⟩ := q
  subst ez
  cases rz
  exact ⟨.bl k, H', I', rfl, q⟩
def rIsC (C : Addr) : List V → Hp → VK → Prop := fun xs H Q => ∃ a dx fs, xs = [.ref a, .ref C] ∧ H a = some (.ins C dx fs) ∧ Q (.bl true) H
theorem call_isOwn {C : Addr} (c : C8.InsC X.K C) : CallR X (.builtin "isinstance") (rIsC C) := C8.call_isC c
end
end Dw

/-! != by an own __eq__ -/
namespace Dw
open PySem PySem.Spec PyProof.Rows L2
section
variable {X : Cx}
def rNeOwn (C : Addr) (sp : Sp) : R2 := fun x y H Q => ∃ a b dx dy fs gs, x = .ref a ∧ y = .ref b ∧ H a = some (.ins C dx fs) ∧ H b = some (.ins C dy gs) ∧ sp [.ref a, .ref b] H (fun v H' => ∃ k, v = .bl k ∧ Q (.bl (!k)) H') E0
/-- the call of the own __eq__, one builtin further in -/
theorem run_in1 {n : Nat} {f : Addr} {fd : FuncData} {ps : List Str} {sp : Sp} {A : Around} {pins : List (Addr × Obj)} {σ : L2.St} {H : Hp} {s : Shared} {a b : Addr} {R : VK} (Fn : FnOk X.prog X.w X.K X.mg X.base CX0 n f fd ps sp) (hb : Binds X.K fd ps []) (hr : Room n A) (hA : A.frames = X.A.frames) (I : Inv X pins σ H s)
    (hsp : sp [.ref a, .ref b] H R E0) : wpAny (model X.prog X.w) A (call (.ref f) [.ref a, .ref b]) (EP X pins σ R) X.xe s := by
  have e0 : Env0 X.prog X.w X.K X.mg X.base A X.stack s H := by
    have e := I.env0
    exact ⟨by rw [hA]; exact e.frames, e.mod, e.bs, e.bsz, e.funs, e.frf, e.hok, e.bare⟩
  have hl := Fn.len _ _ _ _ hsp
  refine wpAny_call (codeAny_mono (Fn.run A X.stack s H ⟨[.ref a, .ref b], []⟩ [.ref a, .ref b] [.ref a, .ref b] R E0 hr e0 (by
    have := hb s [.ref a, .ref b] I.kIn (by simpa using hl)
    simpa using this) (.cons rfl (.cons rfl .nil)) hsp) fun r s' hq => ?_)
  match r, hq with
  | .error e, hq => exact pass0 pins σ H s e s' I hq
  | .ok (.ret v), hq => exact I.after hq
/-- tuple(t), t a tuple -/
def rTupT (K : PySem.W.Frag) : List V → Hp → VK → Prop := fun xs H Q => ∃ p ys, xs = [V.ref p] ∧ SqT K H p ys ∧ Q (.ref p) H
theorem call_tupTT : CallR X (.type "tuple") (rTupT X.K) := by
  intro pins s σ H xs us Q I r h
  obtain ⟨p, ys, e, h1, q⟩ := h
  exact call_tuple_of pins s σ H xs us Q I r ⟨p, ys, e, .inr ⟨h1, q⟩⟩
theorem op_neOwn {n : Nat} {C f : Addr} {fd : FuncData} {ps : List Str} {sp : Sp} (M : Meth X.K C "__eq__" f) (hne : PySem.W.findIn X.K (.ref C) "__ne__" = some (some (.builtin "object.__ne__"))) (hob : PySem.W.mroIn X.K C (.type "object") = some true)
    (F : FnOk X.prog X.w X.K X.mg X.base CX0 n f fd ps sp) (hb : Binds X.K fd ps []) (hr : Room (n + 4) X.A) : OpR X (compareOp .NotEq) (rNeOwn C sp) := by
  intro pins s σ H x y v u Q I rx ry hq
  obtain ⟨a, b, dx, dy, fs, gs, rfl, rfl, ha, hb', hsp⟩ := hq
  show wpAny (model X.prog X.w) X.A (richCompare .NotEq v u) (EP X pins σ Q) X.xe s
  cases rx
  cases ry
  obtain ⟨mA, J, _⟩ := ins_get I.hok ha
  obtain ⟨mB, J', _⟩ := ins_get I.hok hb'
  obtain ⟨od, J, _⟩ := J.look
  obtain ⟨od', J', _⟩ := J'.look
  have one : wpAny (model X.prog X.w) X.A (tryCompare (.ref a) "__ne__" (.ref b)) (fun r s' => ∃ v, r = some v ∧ EP X pins σ Q v s') X.xe s := by
    have S := PySem.F.cmp_object.ne
    have kin := I.kIn
    have hi : PySem.W.Looks (model X.prog X.w) s.heap (isInstance (.ref a) (.type "object")) true := J.type.andThen (PySem.W.looks_mroIn kin hob)
    have hcall : wpAny (model X.prog X.w) X.A (call (.builtin "object.__ne__") [.ref a, .ref b]) (fun v s' => v ≠ .notImplemented ∧ EP X pins σ Q v s') X.xe s := by
      refine wpAny_call (codeAny_call_builtin S.plain PySem.F.cmpEntry_ne (PySem.W.check_slot PySem.F.cmpKind_ne PySem.F.cmpSplit_ne hi (PySem.F.cmpArgs_ne _ _) ?_))
      unfold Builtin.«object.__ne__»
      refine wpAny_bind (wpAny_of_eq (a := (Value.ref a, [Value.ref b])) (by rfl) ?_)
      dsimp only
      refine wpAny_bind (wpAny_cRoomFor (hr.in1 (k := n + 3)).units0 ?_)
      refine wpAny_bind (PySem.W.ifBound_K kin J M.at_ M.fn (wpAny_mono (run_in1 F hb ((hr.in1 (k := n + 3)).mono (by omega)) rfl I hsp) (fun v s' q => ?_) fun _ _ e => e))
      obtain ⟨z, H', I', rz, k, ez, q⟩ := q
      subst ez
      cases rz
      show wpAny _ _ (truthy (.bool k) >>= fun t => ret (.bool (!t))) _ _ _
      refine wpAny_bind (wpAny_of_eq (a := k) (by rfl) ?_)
      exact wpAny_pure ⟨(fun e => by cases e), .bl (!k), H', I', rfl, q⟩
    unfold tryCompare
    refine wpAny_bind ?_
    simp only [callSpecialIfBound?, bindSpecialIfBound?]
    refine wpAny_holding (wpAny_bind (wpAny_bind (wpAny_bind (J.type.here ((PySem.W.looks_findIn kin hne).here ?_)))))
    simp only [S.bind]
    refine wpAny_bind (wpAny_askSetting (wpAny_ite ?_))
    have fin : wpAny (model X.prog X.w) X.A (call (.builtin "object.__ne__") ([.ref a] ++ [.ref b]) >>= fun v => pure (some v)) (fun r s' => wpAny (model X.prog X.w) X.A
          (match r with
            | some Value.notImplemented => pure none
            | none => pure none
            | some v => pure (some v)) (fun r s' => ∃ v, r = some v ∧ EP X pins σ Q v s') X.xe s') X.xe s := by
      refine wpAny_bind (wpAny_mono hcall (fun v s' hv => wpAny_pure ?_) fun _ _ e => e)
      obtain ⟨h1, h2⟩ := hv
      cases v <;> first | exact absurd rfl h1 | exact wpAny_pure ⟨_, rfl, h2⟩
    split
    · exact wpAny_bind (wpAny_pure (wpAny_pure fin))
    · exact wpAny_tryCatch (wpAny_bind (wpAny_pure (wpAny_pure fin)))
  unfold richCompare
  simp only [oneThing_ref]
  refine wpAny_holding (wpAny_bind (wpAny_cRoomFor hr.units0 ?_))
  refine wpAny_bind (J.type.here (wpAny_bind (J'.type.here ?_)))
  rw [if_neg (by simp)]
  refine wpAny_bind (wpAny_pure ?_)
  simp only [Bool.false_eq_true, if_false]
  refine wpAny_bind (wpAny_mono one (fun r s' z => ?_) fun _ _ e => e)
  obtain ⟨v, rfl, hq⟩ := z
  exact wpAny_pure hq
end
end Dw

/-! changes of patches -/
namespace Dw
open PySem PySem.Spec PyProof.Rows L2
abbrev Ch := Int × List Int × List Int
def ChAt (H : Hp) (x : V) (c : Ch) : Prop := ∃ t o n, x = .ref t ∧ H t = some (.tup [.int c.1, .ref o, .ref n]) ∧ H o = some (.tup (c.2.1.map V.int)) ∧ H n = some (.tup (c.2.2.map V.int))
def ChsAt (H : Hp) (xs : List V) (cs : List Ch) : Prop := xs.length = cs.length ∧ ∀ (i : Nat) x, xs[i]? = some x → ∃ c, cs[i]? = some c ∧ ChAt H x c
theorem ChAt.same {H H' : Hp} {x : V} {c : Ch} (s : Same H H') (h : ChAt H x c) : ChAt H' x c := by
  obtain ⟨t, o, n, e, h1, h2, h3⟩ := h
  exact ⟨t, o, n, e, s _ _ h1, s _ _ h2, s _ _ h3⟩
theorem ChsAt.same {H H' : Hp} {xs : List V} {cs : List Ch} (s : Same H H') (h : ChsAt H xs cs) : ChsAt H' xs cs :=
  ⟨h.1, fun i x e => let ⟨c, h1, h2⟩ := h.2 i x e; ⟨c, h1, h2.same s⟩⟩
theorem ChsAt.nil {H : Hp} : ChsAt H [] [] := ⟨rfl, fun i x e => by simp at e⟩
theorem ChsAt.push {H : Hp} {xs : List V} {cs : List Ch} {x : V} {c : Ch} (h : ChsAt H xs cs) (hx : ChAt H x c) : ChsAt H (xs ++ [x]) (cs ++ [c]) := by
  refine ⟨by rw [List.length_append, List.length_append, h.1]; rfl, fun i y e => ?_⟩
  by_cases hi : i < xs.length
  · rw [List.getElem?_append_left hi] at e
    obtain ⟨d, h1, h2⟩ := h.2 i y e
    exact ⟨d, by rw [List.getElem?_append_left (by rw [← h.1]; exact hi)]; exact h1, h2⟩
  · rw [List.getElem?_append_right (by omega)] at e
    have h0 : i - xs.length = 0 := by
      cases q : i - xs.length with
      | zero => rfl
      | succ m => rw [q] at e; simp at e
    rw [h0] at e
    cases e
    refine ⟨c, ?_, hx⟩
    have hc := h.1
    have e2 : i = cs.length := by omega
    rw [e2, List.getElem?_append_right (Nat.le_refl _), Nat.sub_self]
    rfl
theorem ChAt.ups {H : Hp} {D : Addr} {u o' : HO} {x : V} {c : Ch} (hD : H D = some u) (hn : ∀ xs, u ≠ .tup xs) (h : ChAt H x c) : ChAt (upd H D o') x c := by
  obtain ⟨t, o, n, e, h1, h2, h3⟩ := h
  have ne : ∀ {a : Addr} {xs : List V}, H a = some (.tup xs) → a ≠ D := fun ha e => by
    subst e
    rw [hD] at ha
    exact hn _ (Option.some.inj ha)
  exact ⟨t, o, n, e, by rw [upd_ne (ne h1)]; exact h1, by rw [upd_ne (ne h2)]; exact h2, by rw [upd_ne (ne h3)]; exact h3⟩
theorem ChsAt.ups {H : Hp} {D : Addr} {u o' : HO} {xs : List V} {cs : List Ch} (hD : H D = some u) (hn : ∀ xs, u ≠ .tup xs) (h : ChsAt H xs cs) : ChsAt (upd H D o') xs cs :=
  ⟨h.1, fun i x e => let ⟨c, h1, h2⟩ := h.2 i x e; ⟨c, h1, h2.ups hD hn⟩⟩
def Fit : Int → List Ch → Prop
  | _, [] => True
  | l, c :: r => l ≤ c.1 ∧ Bytes c.2.1 ∧ Bytes c.2.2 ∧ c.2.1.length ≤ 4 ∧ c.2.2.length ≤ 4 ∧ c.2.1 ≠ c.2.2 ∧ Fit (c.1 + c.2.1.length + 1) r
def opp : Int → List Ch → List Ch
  | _, [] => []
  | s, c :: r => (c.1 + s, c.2.2, c.2.1) :: opp (s + c.2.2.length - c.2.1.length) r
theorem opp_len : ∀ (cs : List Ch) (s : Int), (opp s cs).length = cs.length
  | [], _ => rfl
  | c :: r, s => by show (opp _ r).length + 1 = r.length + 1; rw [opp_len r]
theorem opp_opp : ∀ (cs : List Ch) (s : Int), opp (-s) (opp s cs) = cs
  | [], _ => rfl
  | c :: r, s => by
    show (c.1 + s + -s, c.2.1, c.2.2) :: opp (-s + c.2.1.length - c.2.2.length) (opp (s + c.2.2.length - c.2.1.length) r) = c :: r
    have e : -s + (c.2.1.length : Int) - c.2.2.length = -(s + c.2.2.length - c.2.1.length) := by omega
    have e2 : c.1 + s + -s = c.1 := by omega
    rw [e, opp_opp r, e2]
theorem Fit.opp : ∀ (cs : List Ch) (l s : Int), Fit l cs → Fit (l + s) (Dw.opp s cs)
  | [], _, _, _ => trivial
  | c :: r, l, s, h => by
    obtain ⟨h1, h2, h3, h4, h5, h6, h7⟩ := h
    refine ⟨by show l + s ≤ c.1 + s; omega, h3, h2, h5, h4, Ne.symm h6, ?_⟩
    have := Fit.opp r _ (s + c.2.2.length - c.2.1.length) h7
    have e : c.1 + (c.2.1.length : Int) + 1 + (s + c.2.2.length - c.2.1.length) = c.1 + s + c.2.2.length + 1 := by omega
    rw [e] at this
    exact this
def chD (c : Ch) : PyData := .tuple [.int c.1, .tuple (c.2.1.map PyData.int), .tuple (c.2.2.map PyData.int)]
theorem chs_shal : ∀ cs : List Ch, ShalAll (cs.map chD) 6
  | [] => .nil
  | c :: r => .cons (.tup (.cons .int (.cons (.tup .ints) (.cons (.tup .ints) .nil)))) (chs_shal r)
theorem shaped_of {d : PyData} (hs : Shal d 7) : SeqAt.shaped d = true := by
  unfold SeqAt.shaped
  rw [Bool.and_eq_true]
  exact ⟨hs.1, decide_eq_true (by have := hs.2; omega)⟩
theorem eqvAll_chs : ∀ cs ds : List Ch, PyData.eqvAll (cs.map chD) (ds.map chD) = decide (cs = ds)
  | [], [] => by
    show PyData.eqvAll [] [] = _
    rw [PyData.eqvAll]
    rfl
  | [], _ :: _ => by
    show PyData.eqvAll [] (_ :: _) = _
    rw [PyData.eqvAll, decide_eq_false (fun e => by cases e)]
  | _ :: _, [] => by
    show PyData.eqvAll (_ :: _) [] = _
    rw [PyData.eqvAll, decide_eq_false (fun e => by cases e)]
  | (z, o, n) :: r, (z2, o2, n2) :: t => by
    show PyData.eqvAll (.tuple [.int z, .tuple (o.map PyData.int), .tuple (n.map PyData.int)] :: r.map chD) (.tuple [.int z2, .tuple (o2.map PyData.int), .tuple (n2.map PyData.int)] :: t.map chD) = _
    rw [PyData.eqvAll, eqvAll_chs r t, PyData.eqv, PyData.eqvAll, PyData.eqv, PyData.eqvAll, PyData.eqv, eqvAll_ints, PyData.eqvAll, PyData.eqv, eqvAll_ints, PyData.eqvAll, Bool.eq_iff_iff]
    simp only [Bool.and_eq_true, decide_eq_true_eq, beq_iff_eq, List.cons.injEq, Prod.mk.injEq]
    constructor
    · rintro ⟨⟨h1, h2, h3, _⟩, h4⟩
      exact ⟨⟨h1, h2, h3⟩, h4⟩
    · rintro ⟨⟨h1, h2, h3⟩, h4⟩
      exact ⟨⟨h1, h2, h3, trivial⟩, h4⟩
theorem dt_tupI {H : Hp} {p : Addr} {ns : List Int} (h : H p = some (.tup (ns.map V.int))) : Dt H (.ref p) (.tuple (ns.map PyData.int)) := .tup h (dt_ints ns)
theorem ChAt.dt {H : Hp} {x : V} {c : Ch} (h : ChAt H x c) : Dt H x (chD c) := by
  obtain ⟨t, o, n, rfl, h1, h2, h3⟩ := h
  exact .tup h1 (.cons (.int _) (.cons (dt_tupI h2) (.cons (dt_tupI h3) .nil)))
theorem ChsAt.dt {H : Hp} : ∀ {xs : List V} {cs : List Ch}, ChsAt H xs cs → DtAll H xs (cs.map chD)
  | [], [], _ => .nil
  | [], _ :: _, h => by have := h.1; simp at this
  | _ :: _, [], h => by have := h.1; simp at this
  | x :: r, c :: t, h => by
    obtain ⟨d, hd, hx⟩ := h.2 0 x rfl
    cases hd
    exact .cons hx.dt (ChsAt.dt ⟨by have := h.1; simpa using this, fun i y e => h.2 (i + 1) y e⟩)
def PatchAt (C : Addr) (H : Hp) (x : Addr) (cs : List Ch) : Prop := ∃ dx t xs, H x = some (.ins C dx [("changes", .ref t)]) ∧ H t = some (.tup xs) ∧ ChsAt H xs cs
theorem PatchAt.same {C : Addr} {H H' : Hp} {x : Addr} {cs : List Ch} (s : Same H H') (h : PatchAt C H x cs) : PatchAt C H' x cs := by
  obtain ⟨dx, t, xs, h1, h2, h3⟩ := h
  exact ⟨dx, t, xs, s _ _ h1, s _ _ h2, h3.same s⟩
def spPatchInit (C : Addr) : Sp := fun vs H Q _ => ∃ (x dx a : Addr) (xs : List V) (cs : List Ch), vs = [.ref x, .ref a] ∧ H x = some (.ins C dx []) ∧ H a = some (.lst xs) ∧ ChsAt H xs cs ∧ cs.length ≤ 100 ∧ Fit 0 cs ∧
  ∀ H', SameB x H H' → (∃ t ys, H' x = some (.ins C dx [("changes", .ref t)]) ∧ H' t = some (.tup ys) ∧ ChsAt H' ys cs) → Q .non H'
def spPatch (C : Addr) : Sp := fun vs H Q _ => ∃ (a : Addr) (xs : List V) (cs : List Ch), vs = [.ref a] ∧ H a = some (.lst xs) ∧ ChsAt H xs cs ∧ cs.length ≤ 100 ∧ Fit 0 cs ∧
  ∀ r H', Same H H' → H r = none → PatchAt C H' r cs → Q (.ref r) H'
theorem conv_patch {C : Addr} : Conv C (spPatchInit C) (spPatch C) := by
  intro vs H Q E ⟨a, xs, cs, e, hA, hC, hl, hF, h1⟩ x dx nx nd ne
  subst e
  have s0 : Same H (upd H dx (.own x)) := same_new nd _
  have nx' : upd H dx (.own x) x = none := by rw [upd_ne ne.symm]; exact nx
  have s1 : Same (upd H dx (.own x)) (upd (upd H dx (.own x)) x (.ins C dx [])) := same_new nx' _
  have s := s0.trans s1
  refine ⟨x, dx, a, xs, cs, rfl, upd_same, s _ _ hA, hC.same s, hl, hF, fun H' sb h => ⟨rfl, h1 x H' (fun b o hb => sb b o (ne_of_none hb nx) (s b o hb)) nx ?_⟩⟩
  obtain ⟨t, ys, e1, e2, e3⟩ := h
  exact ⟨dx, t, ys, e1, e2, e3⟩
def spEqP (C : Addr) : Sp := fun vs H Q _ => ∃ (x y : Addr) (cs ds : List Ch), vs = [.ref x, .ref y] ∧ PatchAt C H x cs ∧ PatchAt C H y ds ∧ Q (.bl (decide (cs = ds))) H
def spOpp (C : Addr) : Sp := fun vs H Q _ => ∃ (x : Addr) (cs : List Ch), vs = [.ref x] ∧ PatchAt C H x cs ∧ cs.length ≤ 100 ∧ Fit 0 cs ∧ ∀ r H', Same H H' → H r = none → PatchAt C H' r (opp 0 cs) → Q (.ref r) H'
theorem ChsAt.pool {H H' : Hp} {p q : Addr} {xs : List V} {cs : List Ch} (hP : Pool H p q) (s : SameB p H H') (h : ChsAt H xs cs) : ChsAt H' xs cs := by
  obtain ⟨ns, a, b, c, d, hp, _⟩ := hP
  have ne : ∀ {r : Addr} {ys : List V}, H r = some (.tup ys) → r ≠ p := fun hr e => by
    subst e
    rw [hp] at hr
    cases hr
  refine ⟨h.1, fun i x e => ?_⟩
  obtain ⟨c, h1, t, o, n, e1, q1, q2, q3⟩ := h.2 i x e
  exact ⟨c, h1, t, o, n, e1, s _ _ (ne q1) q1, s _ _ (ne q2) q2, s _ _ (ne q3) q3⟩
theorem Fit.more : ∀ (cs : List Ch) (l : Int) (c d : Ch), Fit l (cs ++ [c]) → c.1 + c.2.1.length + 1 ≤ d.1 → Bytes d.2.1 → Bytes d.2.2 → d.2.1.length ≤ 4 → d.2.2.length ≤ 4 → d.2.1 ≠ d.2.2 → Fit l (cs ++ [c] ++ [d])
  | [], l, c, d, h, h1, h2, h3, h4, h5, h6 => by
    obtain ⟨g1, g2, g3, g4, g5, g6, _⟩ := h
    exact ⟨g1, g2, g3, g4, g5, g6, h1, h2, h3, h4, h5, h6, trivial⟩
  | b :: r, l, c, d, h, h1, h2, h3, h4, h5, h6 => by
    obtain ⟨g1, g2, g3, g4, g5, g6, g7⟩ := h
    exact ⟨g1, g2, g3, g4, g5, g6, Fit.more r _ c d g7 h1 h2 h3 h4 h5 h6⟩
end Dw

/-! tracks as they are written: sectors, fields, gaps -/
namespace Dw
open PySem PySem.Spec PyProof.Rows L2
/-! ### small readings -/
/-- xs[-1] of a list of ints -/
def rIxL : R2 := fun x y H Q => ∃ p ns, x = .ref p ∧ y = .int (-1) ∧ H p = some (IL ns) ∧ ns ≠ [] ∧ Q (.int (ns.getLastD 0)) H
theorem ix_listL {X : Cx} : IxR X rIxL := IxR.imp ix_listH fun x y H Q h => by
  obtain ⟨p, ns, e1, e2, h1, h2, q⟩ := h
  refine ⟨p, ns.map V.int, -1, _, e1, e2, h1, ?_, q⟩
  have e : ns = ns.dropLast ++ [ns.getLastD 0] := by
    rw [List.getLastD_eq_getLast?, List.getLast?_eq_some_getLast h2]
    exact (List.dropLast_concat_getLast h2).symm
  rw [e, List.map_append]
  simp only [List.map_cons, List.map_nil]
  rw [atI_last]
  simp
/-- list(t) of a tuple of ints -/
def rListTI (K : PySem.W.Frag) : List V → Hp → VK → Prop := fun xs H Q => ∃ p ns, xs = [.ref p] ∧ SqT K H p (ns.map V.int) ∧ ∀ l, H l = none → Q (.ref l) (upd H l (IL ns))
theorem call_listTI {X : Cx} : CallR X (.type "list") (rListTI X.K) := CallR.imp call_list_of fun xs H Q h => by
  obtain ⟨p, ns, e, h1, q⟩ := h
  exact ⟨p, _, e, .inr h1, q⟩
/-! ### sectors -/
abbrev Sec := List Int × Option (List Int) × Bool × Bool
def dataV (da : Option (List Int)) : PyData := match da with | none => .none | some ns => .tuple (ns.map PyData.int)
/-- a value that is None or a list of ints -/
def DatL (H : Hp) (v : V) (da : Option (List Int)) : Prop := (da = none ∧ v = .non) ∨ ∃ a ns, da = some ns ∧ v = .ref a ∧ H a = some (IL ns)
/-- .. or a tuple of ints -/
def DatT (H : Hp) (v : V) (da : Option (List Int)) : Prop := (da = none ∧ v = .non) ∨ ∃ a ns, da = some ns ∧ v = .ref a ∧ H a = some (.tup (ns.map V.int))
theorem DatL.same {H H' : Hp} {v : V} {da : Option (List Int)} (s : Same H H') (h : DatL H v da) : DatL H' v da := by
  rcases h with h | ⟨a, ns, e1, e2, e3⟩
  · exact .inl h
  · exact .inr ⟨a, ns, e1, e2, s _ _ e3⟩
theorem DatT.same {H H' : Hp} {v : V} {da : Option (List Int)} (s : Same H H') (h : DatT H v da) : DatT H' v da := by
  rcases h with h | ⟨a, ns, e1, e2, e3⟩
  · exact .inl h
  · exact .inr ⟨a, ns, e1, e2, s _ _ e3⟩
theorem DatT.dt {H : Hp} {v : V} {da : Option (List Int)} (h : DatT H v da) : Dt H v (dataV da) := by
  rcases h with ⟨rfl, rfl⟩ | ⟨a, ns, rfl, rfl, h⟩
  · exact .non
  · exact dt_tupI h
theorem shal_data {da : Option (List Int)} {k : Nat} : Shal (dataV da) (k + 2) := by
  cases da with
  | none => exact .non
  | some ns => exact .tup .ints
theorem eqv_data (a b : Option (List Int)) : PyData.eqv (dataV a) (dataV b) = decide (a = b) := by
  cases a with
  | none =>
    cases b with
    | none => rw [decide_eq_true rfl]; rfl
    | some y => rw [decide_eq_false (fun e => by cases e)]; rfl
  | some x =>
    cases b with
    | none => rw [decide_eq_false (fun e => by cases e)]; rfl
    | some y =>
      show PyData.eqv (.tuple (x.map PyData.int)) (.tuple (y.map PyData.int)) = _
      rw [PyData.eqv, eqvAll_ints]
      by_cases c : x = y
      · rw [decide_eq_true c, decide_eq_true (congrArg some c)]
      · rw [decide_eq_false c, decide_eq_false (fun e => c (Option.some.inj e))]
theorem all_bytes {ns : List Int} (h : Bytes ns) : (ns.all fun z => decide (0 ≤ z) && decide (z ≤ 255)) = true := by
  rw [List.all_eq_true]
  intro y hy
  have := h y hy
  rw [decide_eq_true this.1, decide_eq_true (by omega)]
  rfl
theorem putF_le (x : Str) (v : V) : ∀ fs : List (Str × V), (putF x v fs).length ≤ fs.length + 1
  | [] => Nat.le_refl _
  | (y, u) :: r => by
    unfold putF
    split
    · exact Nat.le_succ _
    · have := putF_le x v r
      simp only [List.length_cons]
      omega
/-- the plan of a sector: a tuple of four -/
def RawAt (H : Hp) (x : V) (s : Sec) : Prop := ∃ t ta v, x = .ref t ∧ H t = some (.tup [.ref ta, v, .bl s.2.2.1, .bl s.2.2.2]) ∧ H ta = some (.tup (s.1.map V.int)) ∧ DatL H v s.2.1
theorem RawAt.same {H H' : Hp} {x : V} {s : Sec} (e : Same H H') (h : RawAt H x s) : RawAt H' x s := by
  obtain ⟨t, ta, v, h0, h1, h2, h3⟩ := h
  exact ⟨t, ta, v, h0, e _ _ h1, e _ _ h2, h3.same e⟩
def secF (ta : Addr) (v : V) (aw dw : Bool) : List (Str × V) := [("address", .ref ta), ("data", v), ("address_wrong", .bl aw), ("data_wrong", .bl dw)]
theorem sf_address {ta : Addr} {v : V} {aw dw : Bool} : List.lookup ("address" : Str) (secF ta v aw dw) = some (.ref ta) := by
  unfold secF
  simp [List.lookup]
theorem sf_data {ta : Addr} {v : V} {aw dw : Bool} : List.lookup ("data" : Str) (secF ta v aw dw) = some v := by
  have e1 : (("data" : Str) == ("address" : Str)) = false := by decide +kernel
  unfold secF
  simp [List.lookup, e1]
theorem sf_aw {ta : Addr} {v : V} {aw dw : Bool} : List.lookup ("address_wrong" : Str) (secF ta v aw dw) = some (.bl aw) := by
  have e1 : (("address_wrong" : Str) == ("address" : Str)) = false := by decide +kernel
  have e2 : (("address_wrong" : Str) == ("data" : Str)) = false := by decide +kernel
  unfold secF
  simp [List.lookup, e1, e2]
theorem sf_dw {ta : Addr} {v : V} {aw dw : Bool} : List.lookup ("data_wrong" : Str) (secF ta v aw dw) = some (.bl dw) := by
  have e1 : (("data_wrong" : Str) == ("address" : Str)) = false := by decide +kernel
  have e2 : (("data_wrong" : Str) == ("data" : Str)) = false := by decide +kernel
  have e3 : (("data_wrong" : Str) == ("address_wrong" : Str)) = false := by decide +kernel
  unfold secF
  simp [List.lookup, e1, e2, e3]
theorem sf_put {ta : Addr} {v : V} {aw dw : Bool} : putF "data_wrong" (.bl dw) (putF "address_wrong" (.bl aw) (putF "data" v (putF "address" (.ref ta) []))) = secF ta v aw dw := by
  have e1 : ¬ ("address" : Str) = "data" := by decide +kernel
  have e2 : ¬ ("address" : Str) = "address_wrong" := by decide +kernel
  have e3 : ¬ ("address" : Str) = "data_wrong" := by decide +kernel
  have e4 : ¬ ("data" : Str) = "address_wrong" := by decide +kernel
  have e5 : ¬ ("data" : Str) = "data_wrong" := by decide +kernel
  have e6 : ¬ ("address_wrong" : Str) = "data_wrong" := by decide +kernel
  simp [putF, secF, e1, e2, e3, e4, e5, e6]
/-- a Sector -/
def SecAt (C : Addr) (H : Hp) (x : V) (s : Sec) : Prop := ∃ p dx ta v, x = .ref p ∧ H p = some (.ins C dx (secF ta v s.2.2.1 s.2.2.2)) ∧ H ta = some (.tup (s.1.map V.int)) ∧ DatT H v s.2.1
theorem SecAt.same {C : Addr} {H H' : Hp} {x : V} {s : Sec} (e : Same H H') (h : SecAt C H x s) : SecAt C H' x s := by
  obtain ⟨t, dx, ta, v, h0, h1, h2, h3⟩ := h
  exact ⟨t, dx, ta, v, h0, e _ _ h1, e _ _ h2, h3.same e⟩
/-- things told one by one -/
def AllAt {α : Type} (R : V → α → Prop) (xs : List V) (ss : List α) : Prop := xs.length = ss.length ∧ ∀ (i : Nat) x, xs[i]? = some x → ∃ s, ss[i]? = some s ∧ R x s
theorem AllAt.imp {α : Type} {R R' : V → α → Prop} {xs : List V} {ss : List α} (h : AllAt R xs ss) (i : ∀ x s, R x s → R' x s) : AllAt R' xs ss := ⟨h.1, fun j x e => let ⟨s, h1, h2⟩ := h.2 j x e; ⟨s, h1, i _ _ h2⟩⟩
theorem AllAt.nil {α : Type} {R : V → α → Prop} : AllAt R [] ([] : List α) := ⟨rfl, fun i x e => by simp at e⟩
theorem AllAt.push {α : Type} {R : V → α → Prop} {xs : List V} {ss : List α} {x : V} {s : α} (h : AllAt R xs ss) (hx : R x s) : AllAt R (xs ++ [x]) (ss ++ [s]) := by
  refine ⟨by rw [List.length_append, List.length_append, h.1]; rfl, fun i y e => ?_⟩
  by_cases hi : i < xs.length
  · rw [List.getElem?_append_left hi] at e
    obtain ⟨c, h1, h2⟩ := h.2 i y e
    exact ⟨c, by rw [List.getElem?_append_left (h.1 ▸ hi)]; exact h1, h2⟩
  · have hi' : i = xs.length := by
      have := (List.getElem?_eq_some_iff.mp e).1
      rw [List.length_append] at this
      simp at this
      omega
    subst hi'
    rw [List.getElem?_append_right (Nat.le_refl _), Nat.sub_self] at e
    cases e
    exact ⟨s, by rw [h.1, List.getElem?_append_right (Nat.le_refl _), Nat.sub_self]; rfl, hx⟩
theorem AllAt.at {α : Type} {R : V → α → Prop} {xs : List V} {ss : List α} (h : AllAt R xs ss) {i : Nat} {s : α} (e : ss[i]? = some s) : ∃ x, xs[i]? = some x ∧ R x s := by
  have hl := (List.getElem?_eq_some_iff.mp e).1
  have hx : xs[i]? = some (xs[i]'(by have := h.1; omega)) := List.getElem?_eq_getElem _
  obtain ⟨s', h1, h2⟩ := h.2 i _ hx
  rw [e] at h1
  cases h1
  exact ⟨_, hx, h2⟩
/-- what a sector may be -/
def OkSec (s : Sec) : Prop := ∃ a b c d : Int, s.1 = [a, b, c, d] ∧ Bytes s.1 ∧ d ≤ 5 ∧ ∀ ns, s.2.1 = some ns → ns.length = 16 * 2 ^ d.toNat ∧ Bytes ns
/-! ### cells -/
def markZ : List Int := [0, 1, 0, 0, 0, 1, 0, 0, 1, 0, 0, 0, 1, 0, 0, 1]
def marksZ : List Int := markZ ++ markZ ++ markZ
def gapZ (n : Nat) (b : Int) : List Int := mfmF b (bitsOf (List.replicate n 78))
def pairZ (c : Int) : List Int := [c / 256, c % 256]
def chkZ (ns : List Int) (w : Bool) : Int := if w = true then crcZ ([161, 161, 161] ++ ns) + 1 - 2 * (crcZ ([161, 161, 161] ++ ns) % 2) else crcZ ([161, 161, 161] ++ ns)
theorem chkZ_nn (ns : List Int) (w : Bool) : 0 ≤ chkZ ns w ∧ chkZ ns w < 65536 := by
  have h := crcZ_nn ([161, 161, 161] ++ ns)
  unfold chkZ
  split
  · omega
  · exact h
theorem pairZ_bytes {c : Int} (h : 0 ≤ c ∧ c < 65536) : Bytes (pairZ c) := by
  intro x hx
  unfold pairZ at hx
  simp only [List.mem_cons, List.not_mem_nil, or_false] at hx
  rcases hx with rfl | rfl <;> omega
def fieldZ (ns : List Int) (w : Bool) : List Int := mfmF 0 (bitsOf (List.replicate 6 0)) ++ marksZ ++ mfmF 1 (bitsOf (ns ++ pairZ (chkZ ns w)))
def secStep (cells : List Int) (s : Sec) : List Int :=
  let c1 := cells ++ fieldZ (254 :: s.1) s.2.2.1
  let c2 := c1 ++ gapZ 8 (c1.getLastD 0)
  let c3 := match s.2.1 with | none => c2 | some d => c2 ++ fieldZ (251 :: d) s.2.2.2
  c3 ++ gapZ 8 (c3.getLastD 0)
/-- the data field behind c2, if there is one -/
def datC (c2 : List Int) (da : Option (List Int)) (dw : Bool) : List Int := match da with | none => c2 | some d => c2 ++ fieldZ (251 :: d) dw
theorem secStep_eq (Z ad : List Int) (da : Option (List Int)) (aw dw : Bool) : secStep Z (ad, da, aw, dw) = datC (Z ++ fieldZ (254 :: ad) aw ++ gapZ 8 ((Z ++ fieldZ (254 :: ad) aw).getLastD 0)) da dw ++ gapZ 8 ((datC (Z ++ fieldZ (254 :: ad) aw ++ gapZ 8 ((Z ++ fieldZ (254 :: ad) aw).getLastD 0)) da dw).getLastD 0) := by
  cases da <;> rfl
def trackZ (ss : List Sec) : List Int := ss.foldl secStep (gapZ 10 0)
theorem trackZ_more {ss : List Sec} {i : Nat} {s : Sec} (h : ss[i]? = some s) : trackZ (ss.take (i + 1)) = secStep (trackZ (ss.take i)) s := by
  unfold trackZ
  rw [take_more h, List.foldl_append]
  rfl
theorem gapZ_len (n : Nat) (b : Int) : (gapZ n b).length = 16 * n := by
  unfold gapZ
  rw [mfmF_len, bitsOf_len, List.length_replicate]
  omega
theorem fieldZ_len (ns : List Int) (w : Bool) : (fieldZ ns w).length = 16 * (11 + ns.length) := by
  unfold fieldZ
  rw [List.length_append, List.length_append, mfmF_len, mfmF_len, bitsOf_len, bitsOf_len, List.length_append, List.length_replicate]
  show 2 * (8 * 6) + 48 + 2 * (8 * (ns.length + 2)) = _
  omega
/-- bytes of a sector -/
def secN (s : Sec) : Nat := 32 + match s.2.1 with | none => 0 | some d => 12 + d.length
def trackN (ss : List Sec) : Nat := ss.foldl (fun n s => n + secN s) 10
theorem trackN_more {ss : List Sec} {i : Nat} {s : Sec} (h : ss[i]? = some s) : trackN (ss.take (i + 1)) = trackN (ss.take i) + secN s := by
  unfold trackN
  rw [take_more h, List.foldl_append]
  rfl
theorem secStep_len (cells : List Int) (s : Sec) (h : s.1.length = 4) : (secStep cells s).length = cells.length + 16 * secN s := by
  unfold secStep secN
  simp only
  cases s.2.1 with
  | none =>
    simp only [List.length_append, gapZ_len, fieldZ_len, List.length_cons, h]
    try omega
  | some d =>
    simp only [List.length_append, gapZ_len, fieldZ_len, List.length_cons, h]
    omega
theorem trackZ_len {ss : List Sec} (h : ∀ s ∈ ss, s.1.length = 4) : (trackZ ss).length = 16 * trackN ss := by
  have key : ∀ (ss : List Sec) (c : List Int) (n : Nat), (∀ s ∈ ss, s.1.length = 4) → c.length = 16 * n → (ss.foldl secStep c).length = 16 * ss.foldl (fun n s => n + secN s) n := by
    intro ss
    induction ss with
    | nil => intro c n _ h; exact h
    | cons s r ih =>
      intro c n h h2
      rw [List.foldl_cons, List.foldl_cons]
      refine ih _ _ (fun s hs => h s (List.mem_cons_of_mem _ hs)) ?_
      rw [secStep_len _ _ (h s List.mem_cons_self), h2]
      omega
  exact key ss _ _ h (gapZ_len _ _)
theorem okSec_len {s : Sec} (h : OkSec s) : s.1.length = 4 := by
  obtain ⟨a, b, c, d, e, _⟩ := h
  rw [e]
  rfl
theorem okSec_n {s : Sec} (h : OkSec s) : secN s ≤ 556 := by
  obtain ⟨a, b, c, d, e, hb, hd, h⟩ := h
  unfold secN
  cases h2 : s.2.1 with
  | none => decide
  | some ns =>
    have h3 := (h ns h2).1
    have h4 : 2 ^ d.toNat ≤ 2 ^ 5 := Nat.pow_le_pow_right (by decide) (by omega)
    simp only
    omega
theorem trackN_le {ss : List Sec} (h : ∀ s ∈ ss, OkSec s) : trackN ss ≤ 10 + 556 * ss.length := by
  have key : ∀ (ss : List Sec) (n : Nat), (∀ s ∈ ss, OkSec s) → ss.foldl (fun n s => n + secN s) n ≤ n + 556 * ss.length := by
    intro ss
    induction ss with
    | nil => intro n _; exact Nat.le_refl _
    | cons s r ih =>
      intro n h
      have h1 := ih (n + secN s) fun s hs => h s (List.mem_cons_of_mem _ hs)
      have h2 := okSec_n (h s List.mem_cons_self)
      rw [List.foldl_cons, List.length_cons]
      omega
  exact key ss 10 h
theorem take_all {α : Type} {P : α → Prop} {l : List α} (h : ∀ x ∈ l, P x) (i : Nat) : ∀ x ∈ l.take i, P x := fun x hx => h x (List.mem_of_mem_take hx)
theorem xor1 (n : Nat) : ((n ^^^ 1 : Nat) : Int) = (n : Int) + 1 - 2 * ((n : Int) % 2) := by
  have h := Nat.xor_mod_two_pow (a := n) (b := 1) (n := 1)
  have h2 : (n ^^^ 1) / 2 = n / 2 := by rw [Nat.xor_div_two]; simp
  have h3 : (n ^^^ 1) % 2 = (n % 2) ^^^ 1 := h
  have h4 : n % 2 = 0 ∨ n % 2 = 1 := by omega
  rcases h4 with h4 | h4 <;> rw [h4] at h3
  · have h5 : (n ^^^ 1) % 2 = 1 := h3
    omega
  · have h5 : (n ^^^ 1) % 2 = 0 := h3
    omega
theorem chk_xor (ns : List Int) : ((crcN (161 :: 161 :: 161 :: ns.map Int.toNat) ^^^ 1 : Nat) : Int) = chkZ ns true := by
  rw [xor1]
  rfl
theorem rep3_mark : rep 3 markZ = marksZ := by decide
theorem bytes_rep {n : Nat} {z : Int} (h : 0 ≤ z ∧ z < 256) : Bytes (List.replicate n z) := fun x hx => by
  rw [(List.mem_replicate.mp hx).2]
  exact h
theorem Bytes.app {a b : List Int} (h1 : Bytes a) (h2 : Bytes b) : Bytes (a ++ b) := fun x hx => by
  rcases List.mem_append.mp hx with h | h
  · exact h1 x h
  · exact h2 x h
theorem Bytes.one {z : Int} (h : 0 ≤ z ∧ z < 256) : Bytes [z] := fun x hx => by
  rw [List.mem_singleton.mp hx]
  exact h
/-! ### the law's own CRC -/
theorem flip_bit (n k : Nat) : ((n ^^^ 2 ^ k : Nat) : Int) = (n : Int) + 2 ^ k - 2 * 2 ^ k * ((n : Int) / 2 ^ k % 2) := by
  have e1 : (n ^^^ 2 ^ k) / 2 ^ k = (n / 2 ^ k) ^^^ 1 := by
    rw [divp, Nat.div_self (Nat.two_pow_pos k)]
  have e2 : (n ^^^ 2 ^ k) % 2 ^ k = n % 2 ^ k := by
    rw [modp, Nat.mod_self, Nat.xor_zero]
  have h1 := Nat.div_add_mod (n ^^^ 2 ^ k) (2 ^ k)
  have h2 := Nat.div_add_mod n (2 ^ k)
  rw [e1, e2] at h1
  have h3 := xor1 (n / 2 ^ k)
  have e3 : (n : Int) / 2 ^ k = ((n / 2 ^ k : Nat) : Int) := zdiv n k
  rw [e3]
  have h1' : (2 ^ k : Int) * (((n / 2 ^ k) ^^^ 1 : Nat) : Int) + ((n % 2 ^ k : Nat) : Int) = ((n ^^^ 2 ^ k : Nat) : Int) := by
    rw [← h1]; simp
  have h2' : (2 ^ k : Int) * ((n / 2 ^ k : Nat) : Int) + ((n % 2 ^ k : Nat) : Int) = (n : Int) := by
    conv => rhs; rw [← h2]
    simp
  rw [h3] at h1'
  rw [← h1', ← h2']
  generalize (2 ^ k : Int) = p
  generalize ((n / 2 ^ k : Nat) : Int) = q
  generalize ((n % 2 ^ k : Nat) : Int) = r
  generalize q % 2 = s
  have : p * (q + 1 - 2 * s) = p * q + p - 2 * p * s := by
    rw [Int.mul_sub, Int.mul_add, Int.mul_one, ← Int.mul_assoc, Int.mul_comm p 2]
  omega
def flipsN (m i : Nat) : Nat := ([1, 32, 4096].take i).foldl (· ^^^ ·) m
theorem flips3 (m : Nat) : flipsN m 3 = m ^^^ 4129 := by
  show ((m ^^^ 1) ^^^ 32) ^^^ 4096 = _
  rw [Nat.xor_assoc, Nat.xor_assoc]
  exact congrArg (m ^^^ ·) (by decide)
theorem bits8_get (v k : Nat) (h : k < 8) : (bits8 v)[k]? = some ((v / 2 ^ (7 - k) % 2 : Nat) : Int) := by
  match k, h with
  | 0, _ => rfl
  | 1, _ => rfl
  | 2, _ => rfl
  | 3, _ => rfl
  | 4, _ => rfl
  | 5, _ => rfl
  | 6, _ => rfl
  | 7, _ => simp [bits8]
theorem bits8_int (v : Nat) : [(v : Int) / 128 % 2, (v : Int) / 64 % 2, (v : Int) / 32 % 2, (v : Int) / 16 % 2, (v : Int) / 8 % 2, (v : Int) / 4 % 2, (v : Int) / 2 % 2, (v : Int) % 2] = bits8 v := by
  simp [bits8]
theorem mfmF_snoc (b : Int) (xs : List Int) (y : Int) : mfmF b (xs ++ [y]) = mfmF b xs ++ [clk (lastOf b xs) y, y] := by
  rw [mfmF_append]
  rfl
theorem lastOf_snoc (b : Int) (xs : List Int) (y : Int) : lastOf b (xs ++ [y]) = y := by
  unfold lastOf
  simp
/-! ### the last cell -/
theorem getLastD_append {a b : List Int} {x : Int} (h : b ≠ []) : (a ++ b).getLastD x = b.getLastD x := by
  rw [List.getLastD_eq_getLast?, List.getLastD_eq_getLast?, List.getLast?_append, List.getLast?_eq_some_getLast h]
  rfl
theorem mfmF_last : ∀ (b : Int) (bs : List Int) (x : Int), bs ≠ [] → (mfmF b bs).getLastD x = bs.getLastD x
  | _, [], _, h => absurd rfl h
  | b, [c], x, _ => rfl
  | b, c :: d :: r, x, _ => by
    have ih := mfmF_last c (d :: r) x (by simp)
    show (clk b c :: c :: mfmF c (d :: r)).getLastD x = _
    have e : mfmF c (d :: r) ≠ [] := by
      show clk c d :: d :: mfmF d r ≠ []
      simp
    have e2 : (clk b c :: c :: mfmF c (d :: r)) = [clk b c, c] ++ mfmF c (d :: r) := rfl
    rw [e2, getLastD_append e, ih]
    simp [List.getLastD]
theorem bitsOf_append (a b : List Int) : bitsOf (a ++ b) = bitsOf a ++ bitsOf b := by
  unfold bitsOf
  rw [List.map_append, List.flatten_append]
theorem gapZ_last {n : Nat} {b x : Int} (h : 0 < n) : (gapZ n b).getLastD x = 0 := by
  obtain ⟨m, rfl⟩ : ∃ m, n = m + 1 := ⟨n - 1, by omega⟩
  have e : bitsOf (List.replicate (m + 1) 78) = bitsOf (List.replicate m 78) ++ bits8 78 := by
    rw [List.replicate_succ', bitsOf_append]
    rfl
  unfold gapZ
  rw [mfmF_last _ _ _ (by rw [e]; simp [bits8]), e, getLastD_append (by simp [bits8])]
  rfl
theorem secStep_last (cells : List Int) (s : Sec) (x : Int) : (secStep cells s).getLastD x = 0 := by
  unfold secStep
  simp only
  have g : ∀ b, gapZ 8 b ≠ [] := fun b e => by
    have := gapZ_len 8 b
    rw [e] at this
    cases this
  rw [getLastD_append (g _), gapZ_last (by decide)]
theorem trackZ_last (ss : List Sec) (x : Int) : (trackZ ss).getLastD x = 0 := by
  have key : ∀ (ss : List Sec) (c : List Int), c.getLastD x = 0 → (ss.foldl secStep c).getLastD x = 0 := by
    intro ss
    induction ss with
    | nil => intro c h; exact h
    | cons s r ih => intro c _; rw [List.foldl_cons]; exact ih _ (secStep_last _ _ _)
  exact key ss _ (gapZ_last (by decide))
theorem trackZ_ne (ss : List Sec) : trackZ ss ≠ [] := fun e => by
  have h := trackZ_last ss 1
  rw [e] at h
  cases h
end Dw
namespace Dw
open PySem PySem.Spec PyProof.Rows L2
def lputZ (cs ns : List Int) : List Int := cs ++ mfmF (cs.getLastD 0) (bitsOf ns)
theorem lput_len (cs ns : List Int) : (lputZ cs ns).length = cs.length + 16 * ns.length := by
  unfold lputZ
  rw [List.length_append, mfmF_len, bitsOf_len]
  omega
theorem lfield_eq {cs ns : List Int} {wr : Bool} (h : cs.getLastD 0 = 0) : lputZ (lputZ cs [0, 0, 0, 0, 0, 0] ++ marksZ) (ns ++ pairZ (chkZ ns wr)) = cs ++ fieldZ ns wr := by
  have e1 : (lputZ cs [0, 0, 0, 0, 0, 0] ++ marksZ).getLastD 0 = 1 := by
    rw [getLastD_append (by decide)]
    rfl
  unfold lputZ at e1 ⊢
  rw [e1, h]
  unfold fieldZ
  simp only [List.append_assoc]
  rfl
theorem lput_gap {cs : List Int} {n : Nat} : lputZ cs (List.replicate n 78) = cs ++ gapZ n (cs.getLastD 0) := rfl
theorem flip1 (n : Nat) : ((n ^^^ 1 : Nat) : Int) = (n : Int) + 1 - 2 * ((n : Int) / 1 % 2) := flip_bit n 0
theorem flip32 (n : Nat) : ((n ^^^ 32 : Nat) : Int) = (n : Int) + 32 - 64 * ((n : Int) / 32 % 2) := flip_bit n 5
theorem flip4096 (n : Nat) : ((n ^^^ 4096 : Nat) : Int) = (n : Int) + 4096 - 8192 * ((n : Int) / 4096 % 2) := flip_bit n 12
def spCrcS : Sp := fun vs H Q _ => ∃ (a : Addr) (ns : List Int), vs = [.ref a] ∧ H a = some (IL ns) ∧ Bytes ns ∧ ∀ H', Same H H' → Q (.int (crcZ ns)) H'
end Dw
namespace Dw
open PySem PySem.Spec PyProof.Rows L2
theorem SecAt.ups {C D : Addr} {H : Hp} {xs : List V} {o : HO} {x : V} {s : Sec} (hD : H D = some (.lst xs)) (h : SecAt C H x s) : SecAt C (upd H D o) x s := by
  obtain ⟨p, dx, ta, v, rfl, h1, h2, h3⟩ := h
  have n1 : p ≠ D := fun e => by subst e; rw [h1] at hD; cases hD
  have n2 : ta ≠ D := fun e => by subst e; rw [h2] at hD; cases hD
  refine ⟨p, dx, ta, v, rfl, by rw [upd_ne n1]; exact h1, by rw [upd_ne n2]; exact h2, ?_⟩
  rcases h3 with h3 | ⟨a, ns, e1, e2, e3⟩
  · exact .inl h3
  · have n3 : a ≠ D := fun e => by subst e; rw [e3] at hD; cases hD
    exact .inr ⟨a, ns, e1, e2, by rw [upd_ne n3]; exact e3⟩
theorem RawAt.ups {D : Addr} {H : Hp} {xs : List V} {o : HO} {x : V} {s : Sec} (hD : H D = some (.lst xs)) (hr : ∀ y ∈ xs, ∃ a, y = .ref a) (hn : ∀ ns, s.2.1 = some ns → ns ≠ []) (h : RawAt H x s) : RawAt (upd H D o) x s := by
  obtain ⟨p, ta, v, rfl, h1, h2, h3⟩ := h
  have n1 : p ≠ D := fun e => by subst e; rw [h1] at hD; cases hD
  have n2 : ta ≠ D := fun e => by subst e; rw [h2] at hD; cases hD
  refine ⟨p, ta, v, rfl, by rw [upd_ne n1]; exact h1, by rw [upd_ne n2]; exact h2, ?_⟩
  rcases h3 with h3 | ⟨a, ns, e1, e2, e3⟩
  · exact .inl h3
  · have n3 : a ≠ D := fun e => by
      subst e
      rw [e3] at hD
      unfold IL at hD
      injection hD with hD
      injection hD with hD
      cases ns with
      | nil => exact hn _ e1 rfl
      | cons n r =>
        rw [List.map_cons] at hD
        obtain ⟨b, hb⟩ := hr (V.int n) (by rw [← hD]; exact List.mem_cons_self)
        cases hb
    exact .inr ⟨a, ns, e1, e2, by rw [upd_ne n3]; exact e3⟩
theorem RawAt.refs {H : Hp} {xs : List V} {ss : List Sec} (h : AllAt (RawAt H) xs ss) : ∀ y ∈ xs, ∃ a, y = V.ref a := fun y hy => by
  obtain ⟨i, hi, rfl⟩ := List.getElem_of_mem hy
  obtain ⟨s, _, p, _, _, e, _⟩ := h.2 i _ (List.getElem?_eq_getElem hi)
  exact ⟨p, e⟩
theorem okSec_ne {s : Sec} (h : OkSec s) : ∀ ns, s.2.1 = some ns → ns ≠ [] := fun ns e e2 => by
  obtain ⟨a, b, c, d, _, _, _, h4⟩ := h
  have h5 := (h4 ns e).1
  rw [e2] at h5
  have : 0 < 2 ^ d.toNat := Nat.two_pow_pos _
  simp at h5
  omega
end Dw

/-! dicts whose keys are pairs of a tuple of ints and an int -/
namespace Dw
open PySem PySem.Spec PyProof.Rows L2
abbrev NKey := List Int × Int
def nkOf (k : NKey) : NestedKey := .tup [.tup (k.1.map NestedKey.num), .num k.2]
theorem nums_inj : ∀ {a b : List Int}, a.map NestedKey.num = b.map NestedKey.num → a = b
  | [], [], _ => rfl
  | [], _ :: _, e => by simp at e
  | _ :: _, [], e => by simp at e
  | x :: xs, y :: ys, e => by
    rw [List.map_cons, List.map_cons] at e
    injection e with e1 e2
    injection e1 with e3
    rw [e3, nums_inj e2]
theorem nkOf_inj {a b : NKey} (h : nkOf a = nkOf b) : a = b := by
  obtain ⟨a1, a2⟩ := a
  obtain ⟨b1, b2⟩ := b
  unfold nkOf at h
  injection h with h
  injection h with h1 h2
  injection h1 with h1
  injection h2 with h2
  injection h2 with h2
  have h1 : a1 = b1 := nums_inj h1
  have h2 : a2 = b2 := h2
  rw [h1, h2]
theorem depth_nums : ∀ ns : List Int, NestedKey.depthAll (ns.map NestedKey.num) = 0
  | [] => by rw [List.map_nil, NestedKey.depthAll]
  | n :: ns => by rw [List.map_cons, NestedKey.depthAll, NestedKey.depth, depth_nums ns] <;> rfl
theorem nkOf_depth (k : NKey) : (nkOf k).depth ≤ 8 := by
  unfold nkOf
  rw [NestedKey.depth, NestedKey.depthAll, NestedKey.depthAll, NestedKey.depthAll, NestedKey.depth, NestedKey.depth, depth_nums]
  decide
abbrev NEnt := NKey × Addr × V
def NR : List NEnt → List (NestedKey × Addr × Value) → Prop := Paired fun p q => nkOf p.1 = q.1 ∧ p.2.1 = q.2.1 ∧ RelV p.2.2 q.2.2
def nkv (xs : List NEnt) : List (NKey × V) := xs.map fun x => (x.1, x.2.2)
def putN (xs : List NEnt) (k : NKey) (b : Addr) (v : V) : List NEnt := if (valV (nkv xs) k).isSome = true then xs.map (fun x => if x.1 = k then (x.1, x.2.1, v) else x) else xs ++ [(k, b, v)]
theorem NR.val {xs : List NEnt} {ys : List (NestedKey × Addr × Value)} (r : NR xs ys) (k : NKey) : RelO (valV (nkv xs) k) ((atKey ys (nkOf k)).map (·.2)) := by
  unfold NR at r
  unfold nkv
  induction r with
  | nil => exact True.intro
  | @cons p q ps qs h t ih =>
    obtain ⟨h1, _, h2⟩ := h
    rw [List.map_cons]
    by_cases e : p.1 = k
    · have e' : q.1 = nkOf k := by rw [← h1, e]
      have b : atKey (q :: qs) (nkOf k) = some q.2 := by simp [atKey, List.find?_cons, e']
      rw [valV_pos (p := (p.1, p.2.2)) e, b]; exact h2
    · have e' : ¬ q.1 = nkOf k := fun z => e (nkOf_inj (h1.trans z))
      have b : atKey (q :: qs) (nkOf k) = atKey qs (nkOf k) := by simp [atKey, List.find?_cons, e']
      rw [valV_neg (p := (p.1, p.2.2)) e, b]; exact ih
theorem NR.put {xs : List NEnt} {ys : List (NestedKey × Addr × Value)} (r : NR xs ys) (k : NKey) {b : Addr} {y : V} {u : Value} (ry : RelV y u) : NR (putN xs k b y) (storedH ys (nkOf k) b u) := by
  have e : (valV (nkv xs) k).isSome = (atKey ys (nkOf k)).isSome := by rw [(r.val k).isSome_eq, Option.isSome_map]
  unfold putN storedH
  rw [e]
  by_cases q : (atKey ys (nkOf k)).isSome = true
  · rw [if_pos q, if_pos q]
    clear e q
    unfold NR at r ⊢
    induction r with
    | nil => exact .nil
    | @cons p q ps qs h t ih =>
      rw [List.map_cons, List.map_cons]
      refine .cons ?_ ih
      obtain ⟨h1, h2, h3⟩ := h
      unfold putAt
      by_cases e : p.1 = k
      · rw [if_pos e, if_pos (by rw [← h1, e])]
        exact ⟨h1, h2, ry⟩
      · rw [if_neg e, if_neg (fun z => e (nkOf_inj (h1.trans z)))]
        exact ⟨h1, h2, h3⟩
  · rw [if_neg q, if_neg q]; exact Paired.snoc r ⟨rfl, rfl, ry⟩
theorem NR.length {xs : List NEnt} {ys : List (NestedKey × Addr × Value)} (r : NR xs ys) : xs.length = ys.length := Paired.length r
def entN (w : World) (x : NestedKey × Addr × Value) : DictEntry := ⟨x.1.hash w, .ref x.2.1, x.2.2⟩
def NDO (w : World) (a : Addr) (xs : List NEnt) : HO := .ext fun h => xs.length ≤ sizeLine ∧ (a == sysModules) = false ∧ ∃ ys, NR xs ys ∧ ∃ o es ep, h.get? a = some o ∧ o.ExactDict ∧ o.data = .dict es ep ∧ es.toList = ys.map (entN w) ∧ (ys.map (·.1)).Nodup
/-- at b stands the key k -/
def KeyN (H : Hp) (k : NKey) (b : Addr) : Prop := ∃ t, H b = some (.tup [.ref t, .int k.2]) ∧ H t = some (.tup (k.1.map V.int))
theorem KeyN.same {H H' : Hp} {k : NKey} {b : Addr} (s : ∀ c xs, H c = some (.tup xs) → H' c = some (.tup xs)) (h : KeyN H k b) : KeyN H' k b := by
  obtain ⟨t, h1, h2⟩ := h
  exact ⟨t, s _ _ h1, s _ _ h2⟩
structure DN (w : World) (H : Hp) (a : Addr) (xs : List NEnt) : Prop where
  at_ : H a = some (NDO w a xs)
  key : ∀ x ∈ xs, KeyN H x.1 x.2.1
theorem DN.same {w : World} {H H' : Hp} {a : Addr} {xs : List NEnt} (s : Same H H') (h : DN w H a xs) : DN w H' a xs := ⟨s _ _ h.at_, fun x hx => (h.key x hx).same fun c ys e => s _ _ e⟩
theorem DN.upd {w : World} {H : Hp} {a D : Addr} {xs : List NEnt} {zs : List V} {o : HO} (h : DN w H a xs) (hD : H D = some (.lst zs)) : DN w (upd H D o) a xs := by
  have hs : ∀ c u, H c = some u → u ≠ .lst zs → L2.upd H D o c = some u := fun c u e n => by
    rw [upd_ne (fun z => by subst z; rw [hD] at e; exact n (Option.some.inj e).symm)]
    exact e
  exact ⟨hs _ _ h.at_ (fun z => by unfold NDO at z; cases z), fun x hx => (h.key x hx).same fun c ys e => hs _ _ e (fun z => by cases z)⟩
theorem Same.ndT {w : World} {H : Hp} {D : Addr} {kvs : List (List L2.Key × V)} {o : HO} {a : Addr} {xs : List NEnt} (h : DN w H a xs) (hD : H D = some (.dT kvs)) : DN w (L2.upd H D o) a xs := by
  have hs : ∀ c u, H c = some u → u ≠ .dT kvs → L2.upd H D o c = some u := fun c u e n => by
    rw [upd_ne (fun z => by subst z; rw [hD] at e; exact n (Option.some.inj e).symm)]
    exact e
  exact ⟨hs _ _ h.at_ (fun z => by unfold NDO at z; cases z), fun x hx => (h.key x hx).same fun c ys e => hs _ _ e (fun z => by cases z)⟩
section
variable {P : Program} {w : World} {H : Hp} {h : Heap} {a b : Addr}
theorem tup_at {xs : List V} (ok : HOk P w H h) (e : H a = some (.tup xs)) : ∃ o its n, h.get? a = some o ∧ o.cls = .type "tuple" ∧ o.data = .seq its n ∧ Vals xs its.toList := by
  obtain ⟨_, its, r, o, h1, h2, n, h3⟩ := (show ObjOk P w H h a (.tup xs) from ok a _ e)
  exact ⟨o, its.toArray, n, h1, h2, h3, by simpa using r⟩
theorem nested_ints {h : Heap} : ∀ {ns : List Int} {us : List Value}, Vals (ns.map V.int) us → NestedAll h (ns.map NestedKey.num) us
  | [], _, r => by rw [List.map_nil] at r; cases r; exact .nil
  | n :: ns, _, r => by
    rw [List.map_cons] at r
    cases r with
    | cons r1 t =>
      obtain ⟨tk, e⟩ := (show ∃ t, _ = Value.int n t from r1)
      subst e
      exact .cons (.int n tk) (nested_ints t)
theorem key_n {k : NKey} (ok : HOk P w H h) (e : KeyN H k b) : (nestedKind P w).is h (nkOf k) b := by
  obtain ⟨t, e1, e2⟩ := e
  obtain ⟨o, its, n, h1, h2, h3, h4⟩ := tup_at ok e1
  obtain ⟨o', its', n', k1, k2, k3, k4⟩ := tup_at ok e2
  refine ⟨.tup h1 h2 h3 ?_, nkOf_depth k⟩
  generalize its.toList = us at h4
  obtain ⟨u1, u2, rfl, r1, r2⟩ := vals2 h4
  cases (show u1 = Value.ref t from r1)
  obtain ⟨tk, e⟩ := (show ∃ tk, u2 = Value.int k.2 tk from r2)
  subst e
  exact .cons (.tup k1 k2 k3 (nested_ints k4)) (.cons (.int _ _) .nil)
theorem nd_of {xs : List NEnt} (ok : HOk P w H h) (e : DN w H a xs) : xs.length ≤ sizeLine ∧ (a == sysModules) = false ∧ ∃ ys, NR xs ys ∧ h.DictOfH (nestedKind P w) a ys := by
  obtain ⟨⟨z, y, ys, r, o, es, ep, h1, h2, h3, h4, h5⟩, _⟩ := (show ObjOk P w H h a (NDO w a xs) from ok a _ e.at_)
  refine ⟨z, y, ys, r, o, es, ep, h1, h2, h3, h4, fun x hx => ?_, h5⟩
  have hk := e.key
  have all : ∀ {l : List NEnt} {m : List (NestedKey × Addr × Value)}, NR l m → (∀ x ∈ l, KeyN H x.1 x.2.1) → ∀ x ∈ m, (nestedKind P w).is h x.1 x.2.1 := by
    intro l m q hl
    unfold NR at q
    induction q with
    | nil => intro x hx; exact nomatch hx
    | @cons p q ps qs hq t ih =>
      intro x hx
      rcases List.mem_cons.mp hx with e | hx
      · subst e
        rw [← hq.1, ← hq.2.1]
        exact key_n ok (hl p List.mem_cons_self)
      · exact ih (fun y hy => hl y (List.mem_cons_of_mem _ hy)) x hx
  exact all r hk x hx
theorem nd_new {H' : Hp} {h' : Heap} {xs : List NEnt} {ys : List (NestedKey × Addr × Value)} (z : xs.length ≤ sizeLine) (hd : (a == sysModules) = false) (r : NR xs ys) (dd : h'.DictOfH (nestedKind P w) a ys) : ObjOk P w H' h' a (NDO w a xs) := by
  obtain ⟨o, es, ep, h1, h2, h3, h4, _, h5⟩ := dd
  refine ⟨⟨z, hd, ys, r, o, es, ep, h1, h2, h3, h4, h5⟩, ⟨o, h1⟩, fun g1 g2 hg k => ?_⟩
  obtain ⟨z, hd, ys, r, o, es, ep, h1, hrest⟩ := hg
  exact ⟨z, hd, ys, r, o, es, ep, k _ h1, hrest⟩
theorem NR.nodup {xs : List NEnt} {ys : List (NestedKey × Addr × Value)} (r : NR xs ys) (h : (ys.map (·.1)).Nodup) : (xs.map (·.1)).Nodup := by
  unfold NR at r
  induction r with
  | nil => exact List.nodup_nil
  | @cons p q ps qs hq t ih =>
    rw [List.map_cons, List.nodup_cons] at h ⊢
    refine ⟨fun hm => h.1 ?_, ih h.2⟩
    obtain ⟨x, hx, e⟩ := List.mem_map.mp hm
    have all : ∀ {l : List NEnt} {m : List (NestedKey × Addr × Value)}, NR l m → x ∈ l → nkOf x.1 ∈ m.map (·.1) := by
      intro l m q hl
      unfold NR at q
      induction q with
      | nil => exact nomatch hl
      | @cons p q ps qs hq t ih =>
        rw [List.map_cons]
        rcases List.mem_cons.mp hl with e | hx
        · rw [e, hq.1]; exact List.mem_cons_self
        · exact List.mem_cons_of_mem _ (ih hx)
    rw [← hq.1, ← e]
    exact all t hx
end
theorem hu10_of {A : Around} {k : Nat} (hr : Room k A) : A.units + 10 < cLine := Nat.lt_of_le_of_lt (Nat.add_le_add_left (by decide : 10 ≤ 64) _) hr.units
/-! ### rules -/
section
variable {X : Cx}
theorem ne_sys {pins : List (Addr × Obj)} {σ : L2.St} {H : Hp} {s : Shared} (I : Inv X pins σ H s) : (s.heap.objs.size == sysModules) = false := beq_eq_false_iff_ne.mpr (Nat.ne_of_gt I.big)
/-- {} as such a dict -/
def tNewN (w : World) : TE := fun _ H Q => ∀ D, H D = none → Q (.ref D) (upd H D (NDO w D []))
theorem pe_newN {pos : Pos} : PE X (.Dict [] [] pos) (tNewN X.w) := by
  refine ⟨fun pins s σ H Q I q => ?_⟩
  refine wpAny_Dict_empty ⟨.ref s.heap.objs.size, _, ?_, rfl, q _ (I.hok.fresh (Nat.le_refl _))⟩
  exact I.laid (a := s.heap.objs.size) (o := NDO X.w s.heap.objs.size []) (h' := s.heap.push { cls := .type "dict", data := .dict #[] }) (t' := s.toks) (fun _ _ q => Heap.get?_push_of_some _ q) (Nat.le_refl _)
    (nd_new (P := X.prog) (Nat.zero_le _) (ne_sys I) (show NR [] [] from .nil) (Heap.DictOfH.new s.heap))
/-- d.setdefault(k, x) -/
def tSetN (w : World) (td ty tx : TE) : TE := fun σ H Q => td σ H fun x H1 => ∃ a xs, x = .ref a ∧ DN w H1 a xs ∧ ty σ H1 fun y H2 => tx σ H2 fun z H3 => ∃ xs k b, DN w H3 a xs ∧ y = .ref b ∧ KeyN H3 k b ∧ xs.length < sizeLine ∧
  (∀ v, valV (nkv xs) k = some v → Q v H3) ∧ (valV (nkv xs) k = none → Q z (upd H3 a (NDO w a (xs ++ [(k, b, z)]))))
theorem nd_is {pins : List (Addr × Obj)} {σ : L2.St} {H : Hp} {s : Shared} {a : Addr} {xs : List NEnt} (I : Inv X pins σ H s) (d : DN X.w H a xs) : s.TypeIs (.ref a) "dict" ∧ (∀ b, Value.ref a = .ref b → ∃ ob, s.heap.get? b = some ob ∧ ob.dict = none) := by
  obtain ⟨_, hd, vs, _, dd⟩ := nd_of I.hok d
  refine ⟨dd.typeIs, fun b q => ?_⟩
  cases q
  obtain ⟨ob, _, _, h1, h2, _⟩ := dd
  exact ⟨ob, h1, h2.2.1⟩
variable {o e f : Expr} {apos cpos : Pos} {td ty tx : TE}
theorem pe_setN (hu : X.A.units + 10 < cLine) (ho : PE X o td) (he : PE X e ty) (hf : PE X f tx) (m : M2 X o "setdefault" apos e f cpos) : PE X (.Call (.Attribute o "setdefault" apos) [e, f] [] cpos) (tSetN X.w td ty tx) := by
  refine ⟨fun pins s σ H Q I h => ?_⟩
  refine wpAny_Call_method m.base m.few m.line PySem.F.plainAttrs_dict PySem.F.slot_dict_setdefault PySem.F.type_dict_setdefault (thn (ho.run pins s σ H _ I h) fun u s1 ⟨x, H1, I1, rx, a, xs, ex, d, q1⟩ => ?_)
  subst ex
  obtain rfl : u = Value.ref a := rx
  obtain ⟨t1, t2⟩ := nd_is I1 d
  refine ⟨t1, t2, ?_⟩
  rw [m.trees]
  refine Calls.callWith_builtin rfl (Calls.evalArgs_plain (Calls.spliced_cons (thn (he.run pins s1 σ H1 _ I1 q1) fun iv s2 ⟨y, H2, I2, ry, q2⟩ =>
    Calls.spliced_cons (thn (hf.run pins s2 σ H2 _ I2 q2) fun fv s3 ⟨z, H3, I3, rz, xs, k, b, d3, ey, hk, hl, g1, g2⟩ => Calls.spliced_nil ?_))))
  subst ey
  cases (show iv = Value.ref b from ry)
  obtain ⟨zl, hd, ys, rel, dd⟩ := nd_of I3.hok d3
  refine call_setdefault_heap (knd := nestedKind X.prog X.w) (k := nkOf k) (by show X.A.in1.units + 8 < cLine; rw [Around.in1_units]; omega) (key_n I3.hok hk) hd dd (fun p hp => ?_) (fun hn h' dd' hs => ?_) (by rw [← rel.length]; exact zl)
  · have r := rel.val k
    rw [hp] at r
    obtain ⟨v0, ev, rv⟩ : ∃ v0, valV (nkv xs) k = some v0 ∧ RelV v0 p.2 := by
      cases ev : valV (nkv xs) k with
      | none =>
        rw [ev] at r
        exact (show False from r).elim
      | some v0 =>
        rw [ev] at r
        exact ⟨v0, rfl, r⟩
    exact ⟨v0, H3, I3.tok _, rv, g1 v0 ev⟩
  · have r := rel.val k
    rw [hn] at r
    have ev : valV (nkv xs) k = none := by
      cases ev : valV (nkv xs) k with
      | none => rfl
      | some v0 =>
        rw [ev] at r
        exact (show False from r).elim
    have hp := rel.put k (b := b) rz
    have ep : putN xs k b z = xs ++ [(k, b, z)] := by unfold putN; rw [ev]; exact if_neg (by decide)
    rw [ep] at hp
    have he : ∃ q, h'.get? a = some q := let ⟨q, _, _, hq, _⟩ := dd'; ⟨q, hq⟩
    refine ⟨z, _, ?_, rz, g2 ev⟩
    exact d_write I3 (by rw [d3.at_]; exact True.intro) hs he (nd_new (by rw [List.length_append]; show xs.length + 1 ≤ _; omega) hd hp dd')
/-- d[k], there -/
def tGetN (w : World) (td ty : TE) : TE := fun σ H Q => td σ H fun x H1 => ty σ H1 fun y H2 => ∃ a b xs k v, x = .ref a ∧ y = .ref b ∧ DN w H2 a xs ∧ KeyN H2 k b ∧ valV (nkv xs) k = some v ∧ Q v H2
theorem pe_getN {i : Expr} {pos : Pos} (hu : X.A.units + 10 < cLine) (ho : PE X o td) (hi : PE X i ty) (hs : NoSl i) : PE X (.Subscript o i pos) (tGetN X.w td ty) := by
  refine ⟨fun pins s σ H Q I h => ?_⟩
  refine subD_of PySem.F.slot_dict_getitem.lookup hs (thn (ho.run pins s σ H _ I h) fun u s1 ⟨x, H1, I1, rx, q1⟩ => thn (hi.run pins s1 σ H1 _ I1 q1) fun iv s2 ⟨y, H2, I2, ry, a, b, xs, k, v, ex, ey, d2, hk, hv, q2⟩ => ?_)
  subst ex ey
  obtain rfl : u = Value.ref a := rx
  obtain rfl : iv = Value.ref b := ry
  obtain ⟨zl, hd, ys, rel, dd⟩ := nd_of I2.hok d2
  have r := rel.val k
  rw [hv] at r
  cases hp : atKey ys (nkOf k) with
  | none =>
    rw [hp] at r
    exact (show False from r).elim
  | some p =>
    rw [hp] at r
    exact ⟨dd.typeIs, wpAny_getItem_heap (knd := nestedKind X.prog X.w) (k := nkOf k) (by show X.A.in1.units + 8 < cLine; rw [Around.in1_units]; omega) (key_n I2.hok hk) dd hp ⟨v, H2, I2.tok _, r, q2⟩⟩
end
/-! ### sorted(d) -/
def flatN (k : NKey) : List Int := k.1 ++ [k.2]
/-- the value is such a key -/
def KeyIn (h : Heap) (v : Value) (k : NKey) : Prop := ∃ b t its vs tk, v = .ref b ∧ IsTup h b #[.ref t, .int k.2 tk] ∧ IsTup h t its ∧ its.toList = vs ∧ IntsAre vs k.1
def keyOfV (h : Heap) (v : Value) : List Int := match v with
  | .ref a => match h.get? a with
    | some o => match o.data with
      | .seq xs _ => TS.intsOf h (xs.getD 0 .none) ++ [numOf (xs.getD 1 .none)]
      | _ => []
    | none => []
  | _ => []
theorem KeyIn.key {h : Heap} {v : Value} {k : NKey} (x : KeyIn h v k) : keyOfV h v = flatN k := by
  obtain ⟨b, t, its, vs, tk, rfl, ⟨o, ho, hc, n, hd⟩, ht, rfl, hi⟩ := x
  have e : TS.intsOf h (.ref t) = k.1 := TS.TupInts.ints ⟨t, its, rfl, ht, hi⟩
  simp only [keyOfV, ho, hd]
  show TS.intsOf h (Value.ref t) ++ [k.2] = _
  rw [e]
  rfl
theorem KeyIn.keeps {h h' : Heap} {v : Value} {k : NKey} (x : KeyIn h v k) (kp : ∀ b o, h.get? b = some o → o.cls = .type "tuple" → h'.get? b = some o) : KeyIn h' v k := by
  obtain ⟨b, t, its, vs, tk, e, ⟨o, ho, hc, hd⟩, ⟨o', ho', hc', hd'⟩, e2, hi⟩ := x
  exact ⟨b, t, its, vs, tk, e, ⟨o, kp _ _ ho hc, hc, hd⟩, ⟨o', kp _ _ ho' hc', hc', hd'⟩, e2, hi⟩
theorem code_lex {B : Int} : ∀ (xs ys : List Int) (c d : Int), xs.length = ys.length → TS.Bd B (xs ++ [c]) → TS.Bd B (ys ++ [d]) → decide (TS.code B (xs ++ [c]) < TS.code B (ys ++ [d])) = if xs = ys then decide (c < d) else HT.lexLt xs ys
  | [], [], c, d, _, _, _ => by
    rw [if_pos rfl]
    refine decide_eq_decide.mpr ?_
    show c * B ^ 0 + 0 < d * B ^ 0 + 0 ↔ _
    rw [Int.pow_zero, Int.mul_one, Int.mul_one, Int.add_zero, Int.add_zero]
  | x :: xs, y :: ys, c, d, hl, h1, h2 => by
    have hl' : xs.length = ys.length := by simpa using hl
    have hl2 : (xs ++ [c]).length = (ys ++ [d]).length := by rw [List.length_append, List.length_append, hl']; rfl
    have h1 : TS.Bd B (x :: (xs ++ [c])) := h1
    have h2 : TS.Bd B (y :: (ys ++ [d])) := h2
    show decide (TS.code B (x :: (xs ++ [c])) < TS.code B (y :: (ys ++ [d]))) = _
    rw [HT.lexLt_cons]
    by_cases e : x = y
    · subst e
      have ih := code_lex xs ys c d hl' h1.tail h2.tail
      rw [decide_eq_decide.mpr (TS.code_same hl2), ih, if_pos rfl]
      by_cases e2 : xs = ys
      · rw [if_pos e2, if_pos (by rw [e2])]
      · rw [if_neg e2, if_neg (fun z => e2 (by injection z))]
    · rw [if_neg e, if_neg (fun z => e (by injection z))]
      refine decide_eq_decide.mpr ⟨fun z => ?_, fun z => TS.code_lt hl2 h1.tail h2.tail z⟩
      rcases Int.lt_trichotomy x y with q | q | q
      · exact q
      · exact absurd q e
      · have := TS.code_lt hl2.symm h2.tail h1.tail q
        omega
section
variable {prog : Program} {w : World} {A : Around} {E : Value → Shared → Prop} {s : Shared}
theorem ints_key {h : Heap} {t : Addr} {its : Array Value} {ns : List Int} (ht : IsTup h t its) (hi : IntsAre its.toList ns) : IsTupleKey (intKind prog w) h ns t := by
  obtain ⟨o, ho, hc, n, hd⟩ := ht
  refine ⟨o, its, n, ho, hc, hd, ?_⟩
  generalize its.toList = us at hi
  induction hi with
  | nil => exact .nil
  | cons q u hy ih => exact .cons (by simp [intKind, Value.isInt]) ih
theorem firsts_n {h : Heap} : ∀ vs : List Value, (∀ v ∈ vs, ∃ k, KeyIn h v k) → ∃ fs, PySem.W.KatTups h vs fs ∧ fs.length = vs.length ∧ ∀ f ∈ fs, ∃ t o, f = Value.ref t ∧ h.get? t = some o ∧ o.cls = .type "tuple"
  | [], _ => ⟨[], PySem.W.KatTups.nil, rfl, fun f hf => by simp at hf⟩
  | v :: vs, x => by
    obtain ⟨fs, k, hl, hi⟩ := firsts_n vs fun u hu => x u (List.mem_cons_of_mem _ hu)
    obtain ⟨ky, b, t, its, us, tk, rfl, ⟨o, ho, hc, n, hdt⟩, ⟨o', ho', hc', _⟩, _, _⟩ := x v (List.mem_cons_self ..)
    refine ⟨.ref t :: fs, PySem.W.KatTups.cons ho hc hdt rfl k, by simp [hl], ?_⟩
    intro f hf
    rcases List.mem_cons.mp hf with rfl | hf
    · exact ⟨t, o', rfl, ho', hc'⟩
    · exact hi f hf
theorem kind_n {B : Int} {d : Nat} {vs : List Value} (hu : A.units < cLine) (h2 : 2 ≤ vs.length) (x : ∀ v ∈ vs, ∃ k, KeyIn s.heap v k ∧ k.1.length = d ∧ TS.Bd B (flatN k)) (r : Value → Int) (hr : ∀ v ∈ vs, r v = TS.code B (keyOfV s.heap v)) (Q : SortKind → Shared → Prop)
    (h : ∀ κ, TS.Cmp prog w A s κ (pairsOf vs) r → Q κ s) : wpAny (model prog w) A (keyKind' vs.toArray) Q E s := by
  obtain ⟨fs, k, hl, hi⟩ := firsts_n vs fun v hv => let ⟨k, q, _⟩ := x v hv; ⟨k, q⟩
  refine PySem.W.kat_kind (T := Value.type "tuple") k (by omega) (fun f hf => ?_) rfl (h _ ?_)
  · obtain ⟨q, o, rfl, ho, hc⟩ := hi f hf
    have z : PySem.W.Looks (model prog w) s.heap (typeOf (.ref q)) o.cls := (PySem.W.Looks.ld ho).andThen .now
    rw [hc] at z
    exact z
  · have hb : (Value.type "tuple" != Value.type "tuple") = false := by first | rfl | decide | simp
    rw [hb]
    intro p q hp hq Q' E' hQ
    rw [pairsOf_toList] at hp hq
    have mp := (mem_zip_self hp).2
    have mq := (mem_zip_self hq).2
    obtain ⟨y, py, ly, by_⟩ := x _ mp
    obtain ⟨z, pz, lz, bz⟩ := x _ mq
    have hQ' : Q' (if y.1 = z.1 then decide (y.2 < z.2) else HT.lexLt y.1 z.1) s := by
      have e := code_lex y.1 z.1 y.2 z.2 (by omega) by_ bz
      rw [← e]
      have e2 : decide (r p.1 < r q.1) = decide (TS.code B (y.1 ++ [y.2]) < TS.code B (z.1 ++ [z.2])) := by rw [hr _ mp, hr _ mq, py.key, pz.key] <;> rfl
      rw [← e2]
      exact hQ
    obtain ⟨b, t, its, us, tk, e1, ⟨o, ho, hc, n, hd⟩, ht, rfl, hi1⟩ := py
    obtain ⟨b', t', its', us', tk', e2, ⟨o', ho', hc', n', hd'⟩, ht', rfl, hi2⟩ := pz
    rw [e1, e2]
    refine PySem.W.kat_lt ho hd ho' hd' ?_
    show PySem.W.KatLex prog w A false false Q' [(Value.ref t, Value.ref t'), (Value.int y.2 tk, Value.int z.2 tk')] 0 s
    by_cases e : y.1 = z.1
    · rw [if_pos e] at hQ'
      refine PySem.W.kat_cons (wpAny_eqBool_tuple hu (ints_key ht hi1) (ints_key ht' hi2) ?_)
      rw [decide_eq_true e]
      refine PySem.W.kat_yes (PySem.W.kat_cons (wpAny_eqBool_int ?_))
      by_cases e3 : y.2 = z.2
      · rw [show (y.2 == z.2) = true from beq_iff_eq.mpr e3]
        have irr : decide (y.2 < z.2) = false := decide_eq_false (by omega)
        rw [irr] at hQ'
        exact PySem.W.kat_yes (PySem.W.kat_nil hQ')
      · rw [show (y.2 == z.2) = false from beq_eq_false_iff_ne.mpr e3]
        exact PySem.W.kat_no (TS.oneLt_ints _ hQ')
    · rw [if_neg e] at hQ'
      refine PySem.W.kat_cons (wpAny_eqBool_tuple hu (ints_key ht hi1) (ints_key ht' hi2) ?_)
      rw [decide_eq_false e]
      refine PySem.W.kat_no ?_
      show wpAny _ _ (oneLt' false _ _) _ _ _
      exact PySem.W.kat_one _ _ (HT.lt_tupInts ht ht' hi1 hi2 hu hQ')
end
section
variable {X : Cx}
theorem ints_vals : ∀ {ns : List Int} {us : List Value}, Vals (ns.map V.int) us → IntsAre us ns
  | [], _, r => by rw [List.map_nil] at r; cases r; exact .nil
  | n :: ns, _, r => by
    rw [List.map_cons] at r
    cases r with
    | cons r1 t =>
      obtain ⟨tk, e⟩ := (show ∃ t, _ = Value.int n t from r1)
      subst e
      exact .cons n tk (ints_vals t)
theorem keyIn_of {P : Program} {w : World} {H : Hp} {h : Heap} {k : NKey} {b : Addr} (ok : HOk P w H h) (e : KeyN H k b) : KeyIn h (.ref b) k := by
  obtain ⟨t, e1, e2⟩ := e
  obtain ⟨_, its, r, o, h1, h2, n, h3⟩ := (show ObjOk P w H h b (.tup _) from ok b _ e1)
  obtain ⟨_, its', r', o', k1, k2, n', k3⟩ := (show ObjOk P w H h t (.tup _) from ok t _ e2)
  obtain ⟨u1, u2, rfl, r1, r2⟩ := vals2 r
  cases (show u1 = Value.ref t from r1)
  obtain ⟨tk, e⟩ := (show ∃ tk, u2 = Value.int k.2 tk from r2)
  subst e
  exact ⟨b, t, its'.toArray, its', tk, rfl, ⟨o, h1, h2, n, h3⟩, ⟨o', k1, k2, n', k3⟩, by simp, ints_vals r'⟩
def rSortN (w : World) : List V → Hp → VK → Prop := fun vs H Q => ∃ (a : Addr) (xs : List NEnt) (d : Nat) (B : Int), vs = [.ref a] ∧ DN w H a xs ∧ xs.length < 64 ∧ (∀ x ∈ xs, x.1.1.length = d ∧ TS.Bd B (flatN x.1)) ∧
  ∀ (ys : List NEnt) (p : Addr), ys.Perm xs → ys.Pairwise (fun x y => TS.code B (flatN x.1) ≤ TS.code B (flatN y.1)) → H p = none → Q (.ref p) (upd H p (.lst (ys.map fun y => V.ref y.2.1)))
theorem nr_refs : ∀ {xs : List NEnt} {ys : List (NestedKey × Addr × Value)}, NR xs ys → xs.map (fun x => Value.ref x.2.1) = ys.map (fun y => Value.ref y.2.1) := by
  intro xs ys r
  unfold NR at r
  induction r with
  | nil => rfl
  | cons h t ih => rw [List.map_cons, List.map_cons, ih, h.2.1]
theorem zip_refs : ∀ xs : List NEnt, xs.map (fun x => (Value.ref x.2.1, Value.ref x.2.1)) = (xs.map fun x => Value.ref x.2.1).zip (xs.map fun x => Value.ref x.2.1)
  | [] => rfl
  | x :: xs => by rw [List.map_cons, List.map_cons, List.zip_cons_cons, zip_refs xs]
theorem call_sortedN (hcalm : X.calm = true) (hu : X.A.units + 10 < cLine) : CallR X (.builtin "sorted") (rSortN X.w) := by
  intro pins s σ H xs us Q I r q
  obtain ⟨a, xs, d, B, rfl, hd, h64, hB, q⟩ := q
  obtain rfl := Vals.ref1 r
  obtain ⟨zl, hsys, ys, rel, o, es, ep, ho, hx, hdat, hes, his, hn⟩ := nd_of I.hok hd
  have l1 : xs.length = ys.length := rel.length
  have l2 : es.size = ys.length := size_of_entries hes
  refine Calls.call_function_entry PyProof.Rows.kind_sorted PyProof.Rows.plain_sorted PyProof.Rows.entry_sorted (PyProof.Rows.args_sorted1 _) ?_
  unfold Builtin.«sorted»
  refine wpAny_bind (m := checkCount "sorted" 1 1 _) (wpAny_pure ?_)
  refine wpAny_bind (PySem.W.kdu_collect (A := X.A.in1) (kdl_raw hsys hx hdat) (I.ok.hd hcalm) ho (by omega) fun h' tk acc hk hacc => ?_)
  have ea : acc.toList = xs.map fun x => Value.ref x.2.1 := by
    rw [nr_refs rel]
    have hl : acc.toList.length = ys.length := by rw [Array.length_toList, hacc.1]; exact l2
    apply List.ext_getElem?
    intro j
    rw [List.getElem?_map]
    cases hj : acc.toList[j]? with
    | none =>
      have h1 := List.getElem?_eq_none_iff.mp hj
      rw [List.getElem?_eq_none (by omega)]
      all_goals rfl
    | some v =>
      obtain ⟨en, hen, hv⟩ := hacc.2 j v (by rw [← Array.getElem?_toList]; exact hj)
      have qe := entry_at hes j
      rw [hen] at qe
      cases hb : ys[j]? with
      | none =>
        rw [hb] at qe
        exact nomatch (show some en = none from qe)
      | some b =>
        rw [hb] at qe
        have e2 : en = entryOfKey (nestedKind X.prog X.w) b := Option.some.inj qe
        rw [hv, e2]
        all_goals rfl
  have hal : acc.toList.length = xs.length := by rw [ea, List.length_map]
  have I1 : Inv X pins σ H { s with heap := h', toks := tk } := I.kept hk
  refine wpAny_bind (wpAny_newList ?_ (by rw [hal, sizeLine_eq]; omega))
  have hoL : (h'.push (seqObj "list" acc.toList.toArray 0)).get? h'.objs.size = some (seqObj "list" acc.toList.toArray 0) := Heap.get?_push_size _ rfl
  show wpAny _ _ _ _ _ { s with heap := h'.push (seqObj "list" acc.toList.toArray 0), toks := tk }
  generalize hh2 : h'.push (seqObj "list" acc.toList.toArray 0) = h2 at hoL ⊢
  have ka : ∀ b o, h'.get? b = some o → h2.get? b = some o := fun b o e => by rw [← hh2]; exact Heap.get?_push_of_some _ e
  have kb : ∀ b o, s.heap.get? b = some o → h2.get? b = some o := fun b o e => ka b o (hk b o e)
  rw [ea] at hoL
  have kin : ∀ x ∈ xs, KeyIn (TS.midHeap h2 h'.objs.size (xs.map fun x => Value.ref x.2.1)) (.ref x.2.1) x.1 := fun x hx => (keyIn_of I.hok (hd.key x hx)).keeps fun b o e _ => TS.midHeap_old (Nat.ne_of_lt (Heap.lt_size (hk _ _ e))) (kb _ _ e)
  refine wpAny_bind (wpAny_holding (wpAny_call_entry PyProof.Rows.slot_list_sort ⟨_, hoL, rfl⟩ PyProof.Rows.entry_list_sort
    (SK.plain_sort (s := { s with heap := h2, toks := tk }) (r := fun v => TS.code B (keyOfV (TS.midHeap h2 h'.objs.size (xs.map fun x => Value.ref x.2.1)) v)) hoL (by rw [List.length_map]; omega) (fun h2' Qk hQk => ?_) fun ps out o1 o2 o3 => ⟨.none, rfl, ?_⟩) (PyProof.Rows.args_list_sort _)))
  · refine kind_n (s := { s with heap := TS.midHeap h2 h'.objs.size (xs.map fun x => Value.ref x.2.1), toks := tk }) (B := B) (d := d) (by show X.A.units + 1 + 1 < cLine; omega) h2' (fun v hv => ?_) _ (fun v hv => rfl) Qk hQk
    obtain ⟨x, hx, rfl⟩ := List.mem_map.mp hv
    exact ⟨x.1, kin x hx, hB x hx⟩
  · obtain ⟨zs, pz, ez⟩ := perm_lift (fun x : NEnt => (Value.ref x.2.1, Value.ref x.2.1)) o2 xs (zip_refs xs)
    have hout : out.toList = zs.map fun z => Value.ref z.2.1 := by
      rw [o1, ← ez, List.map_map]
      all_goals rfl
    have hsort : zs.Pairwise (fun x y => TS.code B (flatN x.1) ≤ TS.code B (flatN y.1)) := by
      rw [← ez, List.pairwise_map] at o3
      refine List.Pairwise.imp_of_mem (fun {x y} hx hy h => ?_) o3
      have e1 := (kin x (pz.mem_iff.mp hx)).key
      have e2 := (kin y (pz.mem_iff.mp hy)).key
      have h : TS.code B (keyOfV (TS.midHeap h2 h'.objs.size (xs.map fun x => Value.ref x.2.1)) (.ref x.2.1)) ≤ TS.code B (keyOfV (TS.midHeap h2 h'.objs.size (xs.map fun x => Value.ref x.2.1)) (.ref y.2.1)) := h
      rw [e1, e2] at h
      exact h
    obtain ⟨eF, heF⟩ := PyProof.Rows.sortedHeap_at (vs := xs.map fun x => Value.ref x.2.1) (out := out) hoL
    have hlen : (zs.map fun z => V.ref z.2.1).length ≤ sizeLine := by
      rw [List.length_map, pz.length_eq, sizeLine_eq]
      omega
    have rv : Vals (zs.map fun z => V.ref z.2.1) out.toList := by
      rw [hout]
      exact vals_maps (fun z : NEnt => V.ref z.2.1) (fun z => Value.ref z.2.1) zs fun _ _ => rfl
    refine wpAny_pure ⟨_, rfl, .ref h'.objs.size, upd H h'.objs.size (.lst (zs.map fun z => V.ref z.2.1)), I1.laid (t' := tk) (fun b u e => ?_) (Nat.le_refl _)
      (show ObjOk X.prog X.w _ _ _ (.lst (zs.map fun z => V.ref z.2.1)) from ⟨hlen, out.toList, eF, rv, heF⟩), rfl, q zs _ pz hsort (I1.hok.fresh (Nat.le_refl _))⟩
    have hb : b < h'.objs.size := Heap.lt_size e
    rw [PyProof.Rows.sortedHeap_old (Nat.ne_of_lt hb) (Heap.lt_size (ka _ _ e))]
    exact ka _ _ e
end
end Dw
namespace Dw
open PySem PySem.Spec PyProof.Rows L2
section
variable {X : Cx} {o e f i : Expr} {apos cpos pos : Pos} {td ty tx : TE} {w : World}
theorem pe_newNw (hw : X.w = w) : PE X (.Dict [] [] pos) (tNewN w) := by subst hw; exact pe_newN
theorem pe_setNw (hw : X.w = w) (hu : X.A.units + 10 < cLine) (ho : PE X o td) (he : PE X e ty) (hf : PE X f tx) (m : M2 X o "setdefault" apos e f cpos) : PE X (.Call (.Attribute o "setdefault" apos) [e, f] [] cpos) (tSetN w td ty tx) := by subst hw; exact pe_setN hu ho he hf m
theorem pe_getNw (hw : X.w = w) (hu : X.A.units + 10 < cLine) (ho : PE X o td) (hi : PE X i ty) (hs : NoSl i) : PE X (.Subscript o i pos) (tGetN w td ty) := by subst hw; exact pe_getN hu ho hi hs
theorem call_sortedNw (hw : X.w = w) (hcalm : X.calm = true) (hu : X.A.units + 10 < cLine) : CallR X (.builtin "sorted") (rSortN w) := by subst hw; exact call_sortedN hcalm hu
end
end Dw

/-! discs of blocks -/
namespace Dw
open PySem PySem.Spec PyProof.Rows L2
/-- a walk over a list or a tuple -/
def iSeqA (K : PySem.W.Frag) (tl : TE) : TI := fun σ H R => tl σ H fun x H1 => ∃ a xs, x = .ref a ∧ ((SqL K H1 a xs ∧ R (Itl K a) H1) ∨ (SqT K H1 a xs ∧ R (Itt K a) H1))
theorem pi_seqA {X : Cx} {tg l : Expr} {tl : TE} (hl : PE X l tl) : PI X tg l (iSeqA X.K tl) := by
  refine ⟨fun pins s σ H R I h => ?_⟩
  refine thn (hl.run pins s σ H _ I h) fun v s1 ⟨x, H1, I1, r1, q1⟩ => ?_
  obtain ⟨a, xs, e, q⟩ := q1
  subst e
  cases r1
  have fin : ∀ b ∈ [s1.heap.objs.size], b = s1.heap.objs.size := fun b hb => by simpa using hb
  rcases q with ⟨hq, q⟩ | ⟨hq, q⟩
  · obtain ⟨its, rv, p, hz⟩ := I1.list hq
    refine wpAny_pyIter_list p.isList ?_
    refine ⟨s1.heap.objs.size, [s1.heap.objs.size], _, _, H1, rfl, I1.kept (t' := s1.toks) fun b o e => Heap.get?_push_of_some _ e, turn_list a _, ⟨_, Heap.get?_push_size _ rfl, rfl, rfl⟩, fun b hb => ?_, q⟩
    have e := fin b hb
    subst e
    exact I1.fpOk (Nat.le_refl _) (I1.hok.fresh (Nat.le_refl _))
  · obtain ⟨its, rv, p, hz⟩ := I1.tuple hq
    refine wpAny_pyIter_tuple (show s1.heap.IsTuple a its.toArray from p) ?_
    refine ⟨s1.heap.objs.size, [s1.heap.objs.size], _, _, H1, rfl, I1.kept (t' := s1.toks) fun b o e => Heap.get?_push_of_some _ e, turn_tuple a _, ⟨_, Heap.get?_push_size _ rfl, rfl, rfl⟩, fun b hb => ?_, q⟩
    have e := fin b hb
    subst e
    exact I1.fpOk (Nat.le_refl _) (I1.hok.fresh (Nat.le_refl _))
/-- tuple(x) of a list or a tuple -/
def rTupleA (K : PySem.W.Frag) : List V → Hp → VK → Prop := fun xs H Q => ∃ p ys, xs = [.ref p] ∧ ((SqL K H p ys ∧ ∀ l, H l = none → Q (.ref l) (upd H l (.tup ys))) ∨ (SqT K H p ys ∧ Q (.ref p) H))
theorem call_tupleA {X : Cx} : CallR X (.type "tuple") (rTupleA X.K) := call_tuple_of
/-- an expression that is read in one of two ways, whichever the wish takes -/
def tOrE (t1 t2 : TE) : TE := fun σ H Q => t1 σ H Q ∨ t2 σ H Q
theorem pe_or {X : Cx} {e : Expr} {t1 t2 : TE} (h1 : PE X e t1) (h2 : PE X e t2) : PE X e (tOrE t1 t2) := ⟨fun pins s σ H Q I h => h.elim (fun h => h1.run pins s σ H Q I h) (fun h => h2.run pins s σ H Q I h)⟩
/-! ### blocks -/
abbrev Bk := Option (List Int)
/-- a block: None, a list or a tuple of ints -/
def BkAt (H : Hp) (x : V) (b : Bk) : Prop := (x = .non ∧ b = none) ∨ ∃ p ns, x = .ref p ∧ b = some ns ∧ (H p = some (IL ns) ∨ H p = some (.tup (ns.map V.int)))
/-- a block as a disc keeps it -/
def TkAt (H : Hp) (x : V) (b : Bk) : Prop := (x = .non ∧ b = none) ∨ ∃ p ns, x = .ref p ∧ b = some ns ∧ H p = some (.tup (ns.map V.int))
theorem BkAt.same {H H' : Hp} {x : V} {b : Bk} (s : Same H H') (h : BkAt H x b) : BkAt H' x b := by
  rcases h with h | ⟨p, ns, e1, e2, h⟩
  · exact .inl h
  · exact .inr ⟨p, ns, e1, e2, h.imp (s _ _) (s _ _)⟩
theorem TkAt.same {H H' : Hp} {x : V} {b : Bk} (s : Same H H') (h : TkAt H x b) : TkAt H' x b := by
  rcases h with h | ⟨p, ns, e1, e2, h⟩
  · exact .inl h
  · exact .inr ⟨p, ns, e1, e2, s _ _ h⟩
theorem TkAt.bk {H : Hp} {x : V} {b : Bk} (h : TkAt H x b) : BkAt H x b := by
  rcases h with h | ⟨p, ns, e1, e2, h⟩
  · exact .inl h
  · exact .inr ⟨p, ns, e1, e2, .inr h⟩
/-- a list or a tuple of ints -/
def LsAt (H : Hp) (x : V) (ns : List Int) : Prop := ∃ p, x = .ref p ∧ (H p = some (IL ns) ∨ H p = some (.tup (ns.map V.int)))
theorem LsAt.same {H H' : Hp} {x : V} {b : List Int} (s : Same H H') (h : LsAt H x b) : LsAt H' x b := by
  obtain ⟨p, e1, h⟩ := h
  exact ⟨p, e1, h.imp (s _ _) (s _ _)⟩
/-- the blocks that are there -/
def ths (bs : List Bk) : List (List Int) := bs.filterMap id
theorem ths_mem {bs : List Bk} {ns : List Int} : ns ∈ ths bs ↔ some ns ∈ bs := by
  unfold ths
  rw [List.mem_filterMap]
  exact ⟨fun ⟨b, h, e⟩ => by cases e; exact h, fun h => ⟨_, h, rfl⟩⟩
theorem ths_more {bs : List Bk} {i : Nat} {b : Bk} (h : bs[i]? = some b) : ths (bs.take (i + 1)) = match b with | none => ths (bs.take i) | some ns => ths (bs.take i) ++ [ns] := by
  unfold ths
  rw [take_more h, List.filterMap_append]
  cases b with
  | none => simp
  | some ns => simp
theorem all_g {ts : List (List Int)} {z : Nat} : (ts.map fun ns => decide (ns.length = z) && ns.all fun z => decide (0 ≤ z) && decide (z ≤ 255)).all id = true ↔ ∀ ns ∈ ts, ns.length = z ∧ Bytes ns := by
  rw [List.all_map, List.all_eq_true]
  constructor
  · intro h ns hn
    have h2 := h ns hn
    simp only [Function.comp, id, Bool.and_eq_true, decide_eq_true_eq, List.all_eq_true] at h2
    exact ⟨h2.1, fun x hx => by have := h2.2 x hx; omega⟩
  · intro h ns hn
    have h2 := h ns hn
    simp only [Function.comp, id, Bool.and_eq_true, decide_eq_true_eq, List.all_eq_true]
    exact ⟨h2.1, fun x hx => by have := h2.2 x hx; omega⟩
theorem BkAt.upx {H : Hp} {x : Addr} {C dx : Addr} {fs : List (Str × V)} {o : HO} {v : V} {b : Bk} (hx : H x = some (.ins C dx fs)) (h : BkAt H v b) : BkAt (upd H x o) v b := by
  rcases h with h | ⟨p, ns, e1, e2, h⟩
  · exact .inl h
  · have n : p ≠ x := fun q => by subst q; rw [hx] at h; rcases h with h | h <;> cases h
    exact .inr ⟨p, ns, e1, e2, by rw [upd_ne n]; exact h⟩
theorem BkAt.upn {H : Hp} {D : Addr} {o : HO} {v : V} {b : Bk} (n : v ≠ .ref D) (h : BkAt H v b) : BkAt (upd H D o) v b := by
  rcases h with h | ⟨p, ns, e1, e2, h⟩
  · exact .inl h
  · have n2 : p ≠ D := fun q => n (by rw [e1, q])
    exact .inr ⟨p, ns, e1, e2, by rw [upd_ne n2]; exact h⟩
theorem TkAt.ups {D : Addr} {H : Hp} {xs : List V} {o : HO} {x : V} {b : Bk} (hD : H D = some (.lst xs)) (h : TkAt H x b) : TkAt (upd H D o) x b := by
  rcases h with h | ⟨p, ns, e1, e2, h⟩
  · exact .inl h
  · have n : p ≠ D := fun q => by subst q; rw [h] at hD; cases hD
    exact .inr ⟨p, ns, e1, e2, by rw [upd_ne n]; exact h⟩
theorem TkAt.upx {H : Hp} {x : Addr} {C dx : Addr} {fs : List (Str × V)} {o : HO} {v : V} {b : Bk} (hx : H x = some (.ins C dx fs)) (h : TkAt H v b) : TkAt (upd H x o) v b := by
  rcases h with h | ⟨p, ns, e1, e2, h⟩
  · exact .inl h
  · have n : p ≠ x := fun q => by subst q; rw [hx] at h; cases h
    exact .inr ⟨p, ns, e1, e2, by rw [upd_ne n]; exact h⟩
/-- a disc that is right -/
def okSz (z : Nat) : Bool := z == 16 || z == 32 || z == 64 || z == 128 || z == 256 || z == 512
def OkDisc (z : Nat) (bs : List Bk) : Prop := bs.length ≤ 2000 ∧ okSz z = true ∧ (∃ ns, some ns ∈ bs) ∧ ∀ ns, some ns ∈ bs → ns.length = z ∧ Bytes ns
def DiscAt (C : Addr) (H : Hp) (r : Addr) (z : Nat) (bs : List Bk) : Prop := ∃ dx t xs, H r = some (.ins C dx [("size", .int z), ("_blocks", .ref t)]) ∧ H t = some (.tup xs) ∧ AllAt (TkAt H) xs bs
theorem DiscAt.same {C : Addr} {H H' : Hp} {r : Addr} {z : Nat} {bs : List Bk} (s : Same H H') (h : DiscAt C H r z bs) : DiscAt C H' r z bs := by
  obtain ⟨dx, t, xs, h1, h2, h3⟩ := h
  exact ⟨dx, t, xs, s _ _ h1, s _ _ h2, h3.imp fun _ _ h => h.same s⟩
/-! ### zip of two tuples -/
def YZT (xs ys : List V) : Nat → Hp → V → Hp → Prop := fun i H v H' => ∃ T x y, v = .ref T ∧ H T = none ∧ H' = upd H T (.tup [x, y]) ∧ xs[i]? = some x ∧ ys[i]? = some y
theorem walk_zipT {K : PySem.W.Frag} {a b : Addr} {xs ys : List V} {n : Nat} (hn : n = min xs.length ys.length) : Walk (RZ.ItzT K a b) n (fun H => SqT K H a xs ∧ SqT K H b ys) (YZT xs ys) := by
  subst hn
  refine ⟨fun i _ hi q => ?_, fun _ q => ⟨xs, ys, q.1, q.2, by omega⟩, fun i H v H' _ q y => ?_⟩
  · have h1 : i < xs.length := by omega
    have h2 : i < ys.length := by omega
    exact ⟨xs, ys, xs[i], ys[i], q.1, q.2, List.getElem?_eq_getElem h1, List.getElem?_eq_getElem h2⟩
  · obtain ⟨T, x, y, h1, h2, h5, h6, h7⟩ := y
    exact ⟨T, x, y, h1, h2, h5, h6 xs q.1, h7 ys q.2⟩
theorem atI_lastI {ns : List Int} (h : 0 < ns.length) : atI (ns.map V.int) (-1) = some (.int (ns.getD (ns.length - 1) 0)) := by
  have hk : ns.length - 1 < ns.length := by omega
  unfold atI ixN
  rw [List.length_map, if_neg (by decide), if_pos (by omega)]
  show (ns.map V.int)[(-1 + (ns.length : Int)).toNat]? = _
  rw [show (-1 + (ns.length : Int)).toNat = ns.length - 1 by omega, List.getElem?_map, List.getElem?_eq_getElem hk, List.getD_eq_getElem?_getD, List.getElem?_eq_getElem hk]
  rfl
def ascZ (ns : List Int) : Bool := (List.range (ns.length - 1)).all fun i => decide (ns.getD i 0 < ns.getD (i + 1) 0)
/-- a group of a plan for n blocks -/
def okGr (n : Nat) (ns : List Int) : Bool := decide (2 ≤ ns.length) && (ascZ ns && (decide (0 ≤ ns.getD 0 0) && decide (ns.getD (ns.length - 1) 0 < n)))
/-- a tuple of ints -/
def TupI (H : Hp) (v : V) (ns : List Int) : Prop := ∃ p, v = .ref p ∧ H p = some (.tup (ns.map V.int))
theorem TupI.same {H H' : Hp} {v : V} {ns : List Int} (s : Same H H') (h : TupI H v ns) : TupI H' v ns := by
  obtain ⟨p, e, h⟩ := h
  exact ⟨p, e, s _ _ h⟩
def okPlan (n : Nat) (gs : List (List Int)) : Bool := gs.all (okGr n)
def spDiscInit (C CE : Addr) : Sp := fun vs H Q E => ∃ (x dx a : Addr) (xs : List V) (bs : List Bk), vs = [.ref x, .ref a] ∧ H x = some (.ins C dx []) ∧ H a = some (.lst xs) ∧ AllAt (BkAt H) xs bs ∧ bs.length ≤ 10000 ∧ (∀ ns, some ns ∈ bs → ns.length ≤ 10000) ∧
  (∀ z, OkDisc z bs → ∀ H', SameB x H H' → (∃ t ys, H' x = some (.ins C dx [("size", .int z), ("_blocks", .ref t)]) ∧ H' t = some (.tup ys) ∧ AllAt (TkAt H') ys bs) → Q .non H') ∧ ((∀ z, ¬ OkDisc z bs) → ∀ H', Same H H' → E (.ref CE) none H')
def spDisc (C CE : Addr) : Sp := fun vs H Q E => ∃ (a : Addr) (xs : List V) (bs : List Bk), vs = [.ref a] ∧ H a = some (.lst xs) ∧ AllAt (BkAt H) xs bs ∧ bs.length ≤ 10000 ∧ (∀ ns, some ns ∈ bs → ns.length ≤ 10000) ∧
  (∀ z, OkDisc z bs → ∀ r H', Same H H' → H r = none → DiscAt C H' r z bs → Q (.ref r) H') ∧ ((∀ z, ¬ OkDisc z bs) → ∀ H', Same H H' → E (.ref CE) none H')
theorem conv_disc {C CE : Addr} : Conv C (spDiscInit C CE) (spDisc C CE) := by
  intro vs H Q E ⟨a, xs, bs, e, hA, hB, hl, hl2, h1, h2⟩ x dx nx nd ne
  subst e
  have s0 : Same H (upd H dx (.own x)) := same_new nd _
  have nx' : upd H dx (.own x) x = none := by rw [upd_ne ne.symm]; exact nx
  have s1 : Same (upd H dx (.own x)) (upd (upd H dx (.own x)) x (.ins C dx [])) := same_new nx' _
  have s := s0.trans s1
  refine ⟨x, dx, a, xs, bs, rfl, upd_same, s _ _ hA, hB.imp fun _ _ h => BkAt.same s h, hl, hl2, fun z hz H' sb h => ⟨rfl, h1 z hz x H' (fun b o hb => sb b o (ne_of_none hb nx) (s b o hb)) nx ?_⟩, fun hz H' hs => h2 hz _ (s.trans hs)⟩
  obtain ⟨t, ys, e1, e2, e3⟩ := h
  exact ⟨dx, t, ys, e1, e2, e3⟩
/-! ### discs in work -/
def WorkAt (C : Addr) (H : Hp) (r d m : Addr) (kvs : List (Key × V)) : Prop := ∃ dx, H r = some (.ins C dx [("disc", .ref d), ("_changed", .ref m)]) ∧ H m = some (.dK kvs)
/-- what a disc in work gives for each block: ws -/
def WorkBs (C CB : Addr) (H : Hp) (r d m : Addr) (kvs : List (Key × V)) (z : Nat) (ws : List Bk) : Prop := ∃ bs : List Bk, WorkAt C H r d m kvs ∧ DiscAt CB H d z bs ∧ ws.length = bs.length ∧
  ∀ i < bs.length, (∃ a ns, valV kvs (.inl (i : Int)) = some (.ref a) ∧ H a = some (IL ns) ∧ ws[i]? = some (some ns)) ∨ (valV kvs (.inl (i : Int)) = none ∧ ws[i]? = bs[i]?)
theorem WorkBs.same {C CB : Addr} {H H' : Hp} {r d m : Addr} {kvs : List (Key × V)} {z : Nat} {ws : List Bk} (s : Same H H') (h : WorkBs C CB H r d m kvs z ws) : WorkBs C CB H' r d m kvs z ws := by
  obtain ⟨bs, ⟨dx, h1, h2⟩, h3, h4, h5⟩ := h
  refine ⟨bs, ⟨dx, s _ _ h1, s _ _ h2⟩, h3.same s, h4, fun i hi => ?_⟩
  rcases h5 i hi with ⟨a, ns, e1, e2, e3⟩ | h
  · exact .inl ⟨a, ns, e1, s _ _ e2, e3⟩
  · exact .inr h
def spWorkBlock (C CB : Addr) : Sp := fun vs H Q _ => ∃ (x d m : Addr) (kvs : List (Key × V)) (z : Nat) (ws : List Bk) (i : Nat) (b : Bk), vs = [.ref x, .int i] ∧ WorkBs C CB H x d m kvs z ws ∧ ws[i]? = some b ∧
  (b = none → Q .non H) ∧ (∀ ns, b = some ns → ∀ D, H D = none → Q (.ref D) (upd H D (IL ns)))
theorem DiscAt.sameD {C : Addr} {H H' : Hp} {r m : Addr} {z : Nat} {bs : List Bk} {kvs : List (Key × V)} (hm : H m = some (.dK kvs)) (s : SameB m H H') (h : DiscAt C H r z bs) : DiscAt C H' r z bs := by
  obtain ⟨dx, t, xs, h1, h2, h3⟩ := h
  have n1 : r ≠ m := fun e => by subst e; rw [h1] at hm; cases hm
  have n2 : t ≠ m := fun e => by subst e; rw [h2] at hm; cases hm
  refine ⟨dx, t, xs, s _ _ n1 h1, s _ _ n2 h2, h3.imp fun v b h => ?_⟩
  rcases h with h | ⟨p, ns, e1, e2, h⟩
  · exact .inl h
  · have n3 : p ≠ m := fun e => by subst e; rw [h] at hm; cases hm
    exact .inr ⟨p, ns, e1, e2, s _ _ n3 h⟩
theorem WorkBs.new {C CB : Addr} {H : Hp} {r d m dx : Addr} {z : Nat} {bs : List Bk} (h1 : H r = some (.ins C dx [("disc", .ref d), ("_changed", .ref m)])) (h2 : H m = some (.dK [])) (h3 : DiscAt CB H d z bs) : WorkBs C CB H r d m [] z bs :=
  ⟨bs, ⟨dx, h1, h2⟩, h3, rfl, fun i hi => .inr ⟨rfl, rfl⟩⟩
theorem WorkBs.put {C CB : Addr} {H H' : Hp} {r d m l : Addr} {kvs : List (Key × V)} {z : Nat} {ws : List Bk} {i : Nat} {ns : List Int} (h : WorkBs C CB H r d m kvs z ws) (hi : i < ws.length) (hl : H l = none) (sb : SameB m H H') (e1 : H' l = some (IL ns))
    (e2 : H' m = some (.dK (putK kvs (.inl (i : Int)) (.ref l)))) : WorkBs C CB H' r d m (putK kvs (.inl (i : Int)) (.ref l)) z (ws.set i (some ns)) := by
  obtain ⟨bs, ⟨dx, h1, h2⟩, h3, h4, h5⟩ := h
  have n1 : r ≠ m := fun e => by subst e; rw [h1] at h2; cases h2
  refine ⟨bs, ⟨dx, sb _ _ n1 h1, e2⟩, h3.sameD h2 sb, by rw [List.length_set, h4], fun j hj => ?_⟩
  by_cases c : i = j
  · subst c
    refine .inl ⟨l, ns, by rw [valV_put, if_pos rfl], e1, ?_⟩
    rw [List.getElem?_set_self hi]
  · have c2 : ¬ (Sum.inl (j : Int) : Key) = Sum.inl (i : Int) := fun e => c (by have := Sum.inl.inj e; omega)
    rw [valV_put, if_neg c2, List.getElem?_set_ne c]
    rcases h5 j hj with ⟨a, ms, q1, q2, q3⟩ | q
    · have n2 : a ≠ m := fun e => by subst e; rw [q2] at h2; cases h2
      exact .inl ⟨a, ms, q1, sb _ _ n2 q2, q3⟩
    · exact .inr q
/-- the places of the blocks that are missing -/
def missZ (bs : List Bk) (n : Nat) : List Int := ((List.range n).filter fun i => decide (bs[i]? = some none)).map fun i : Nat => (i : Int)
theorem missZ_more (bs : List Bk) (n : Nat) : missZ bs (n + 1) = if bs[n]? = some none then missZ bs n ++ [(n : Int)] else missZ bs n := by
  unfold missZ
  rw [List.range_succ, List.filter_append, List.map_append]
  split
  · rename_i e
    simp [e]
  · rename_i e
    simp [e]
theorem missZ_len (bs : List Bk) (n : Nat) : (missZ bs n).length ≤ n := by
  unfold missZ
  rw [List.length_map]
  have := List.length_filter_le (fun i => decide (bs[i]? = some none)) (List.range n)
  rw [List.length_range] at this
  exact this
theorem okGr_of {n : Nat} {ns : List Int} (hp : ns.Pairwise (· < ·)) (hb : ∀ v ∈ ns, 0 ≤ v ∧ v < n) (h2 : 2 ≤ ns.length) : okGr n ns = true := by
  have g : ∀ i (h : i < ns.length), ns.getD i 0 = ns[i] := fun i h => by rw [List.getD_eq_getElem?_getD, List.getElem?_eq_getElem h]; rfl
  unfold okGr
  rw [decide_eq_true h2, Bool.true_and]
  have ha : ascZ ns = true := by
    unfold ascZ
    rw [List.all_eq_true]
    intro i hi
    have hi := List.mem_range.mp hi
    rw [decide_eq_true_eq, g i (by omega), g (i + 1) (by omega)]
    exact List.pairwise_iff_getElem.mp hp i (i + 1) (by omega) (by omega) (by omega)
  rw [ha, Bool.true_and, g 0 (by omega), g (ns.length - 1) (by omega), decide_eq_true (hb _ (List.getElem_mem _)).1, Bool.true_and, decide_eq_true (hb _ (List.getElem_mem _)).2]
theorem TupI.ups {D : Addr} {H : Hp} {xs : List V} {o : HO} {v : V} {ns : List Int} (hD : H D = some (.lst xs)) (h : TupI H v ns) : TupI (upd H D o) v ns := by
  obtain ⟨p, e, h⟩ := h
  have n : p ≠ D := fun q => by subst q; rw [h] at hD; cases hD
  exact ⟨p, e, by rw [upd_ne n]; exact h⟩
theorem TupI.pool {H H' : Hp} {p q : Addr} {v : V} {ns : List Int} (hP : Pool H p q) (s : SameB p H H') (h : TupI H v ns) : TupI H' v ns := by
  obtain ⟨t, e, h⟩ := h
  have n : t ≠ p := fun z => by
    subst z
    obtain ⟨a, b, c, d, ns, h1, _⟩ := hP
    rw [h] at h1
    cases h1
  exact ⟨t, e, s _ _ n h⟩
theorem okPlan_app {n : Nat} {gs : List (List Int)} {g : List Int} (h : okPlan n gs = true) (hg : okGr n g = true) : okPlan n (gs ++ [g]) = true := by
  unfold okPlan at *
  rw [List.all_append, h, Bool.true_and]
  simp [hg]
end Dw

/-! comprehensions over any walk: what is made, item by item -/
namespace Dw
open PySem PySem.Spec PyProof.Rows L2
theorem lc_all {α : Type} {J : It} {n : Nat} {G : Hp → Prop} {Y : Nat → Hp → V → Hp → Prop} (w : Walk J n G Y) {g : TG} {te : TE} {vs : List Nat} {σ : L2.St} {H1 : Hp} {D : Addr} {Qd : Hp → Prop} (R : Hp → V → α → Prop) (ss : List α)
    (hn : n ≤ 16777215) (hD : H1 D = none) (hl : ss.length = n) (hG : ∀ H', Same H1 H' → G H')
    (hR : ∀ H H' v s, Same H H' → R H v s → R H' v s)
    (hu : ∀ H ys v s o, H D = some (.lst ys) → v ≠ .ref D → R H v s → R (L2.upd H D o) v s)
    (hte : ∀ i x s H3 H' (Q' : VK) ys, i < n → Y i H3 x H' → ss[i]? = some s → Same H1 H3 → H3 D = some (.lst ys) → (∀ y H4, Same H3 H4 → y ≠ .ref D → R H4 y s → Q' y H4) → g x (wipe σ vs) H' fun σ2 H2 => wipe σ2 vs = wipe σ vs ∧ te σ2 H2 Q')
    (hd : ∀ ys H', Same H1 H' → H' D = some (.lst ys) → AllAt (R H') ys ss → Qd H') : LcW J g tYes te vs σ H1 D Qd := by
  refine lc_it w (fun i H' => Same H1 H' ∧ ∃ ys, H' D = some (.lst ys) ∧ AllAt (fun v s => R H' v s ∧ v ≠ .ref D) ys (ss.take i)) ⟨same_new hD _, [], upd_same, .nil⟩ (fun i H' _ h => hG H' h.1) ?_ ?_
  · intro i x H3 H' hi h hy
    obtain ⟨s1, ys, e1, hys⟩ := h
    have hs : ss[i]? = some (ss[i]'(by omega)) := List.getElem?_eq_getElem (by omega)
    have hyl := hys.1
    rw [List.length_take] at hyl
    simp only [tYes, if_true]
    refine hte i x _ H3 H' _ ys hi hy hs s1 e1 fun y H4 s4 hy4 hr => ?_
    refine ⟨ys, s4 _ _ e1, line_lt (by omega), fun b o hb => by rw [upd_ne (ne_of_none hb hD)]; exact s4 _ _ (s1 b o hb), ys ++ [y], upd_same, ?_⟩
    rw [take_more hs]
    exact (hys.imp fun v s h => ⟨hu _ _ _ _ _ (s4 _ _ e1) h.2 (hR _ _ _ _ s4 h.1), h.2⟩).push ⟨hu _ _ _ _ _ (s4 _ _ e1) hy4 hr, hy4⟩
  · intro H' h
    obtain ⟨s1, ys, e1, hys⟩ := h
    rw [← hl, List.take_length] at hys
    exact hd ys H' s1 e1 (hys.imp fun _ _ h => h.1)
/-- the same where the pool is drawn from -/
theorem lc_allP {α : Type} {J : It} {n : Nat} {G : Hp → Prop} {Y : Nat → Hp → V → Hp → Prop} (w : Walk J n G Y) {p q : Addr} {g : TG} {te : TE} {vs : List Nat} {σ : L2.St} {H1 : Hp} {D : Addr} {Qd : Hp → Prop} (R : Hp → V → α → Prop) (T : Nat → α → Prop)
    (hn : n ≤ 16777215) (hP : Pool H1 p q) (hD : H1 D = none) (hG : ∀ H', SameB p H1 H' → G H')
    (hR : ∀ H H' v s, Pool H p q → SameB p H H' → R H v s → R H' v s)
    (hu : ∀ H ys v s o, H D = some (.lst ys) → v ≠ .ref D → R H v s → R (L2.upd H D o) v s)
    (hte : ∀ i x H3 H' (Q' : VK) ys, i < n → Y i H3 x H' → Pool H3 p q → SameB p H1 H3 → H3 D = some (.lst ys) → p ≠ D → (∀ y s H4, T i s → Pool H4 p q → SameB p H3 H4 → y ≠ .ref D → R H4 y s → Q' y H4) → g x (wipe σ vs) H' fun σ2 H2 => wipe σ2 vs = wipe σ vs ∧ te σ2 H2 Q')
    (hd : ∀ ys ss H', Pool H' p q → SameB p H1 H' → H' D = some (.lst ys) → ss.length = n → (∀ (i : Nat) s, ss[i]? = some s → T i s) → AllAt (R H') ys ss → Qd H') : LcW J g tYes te vs σ H1 D Qd := by
  have hDp : p ≠ D := hP.ne hD
  have hDq : q ≠ D := hP.ne2 hD
  refine lc_it w (fun i H' => Pool H' p q ∧ SameB p H1 H' ∧ ∃ ys ss, H' D = some (.lst ys) ∧ ss.length = i ∧ (∀ (i : Nat) s, ss[i]? = some s → T i s) ∧ AllAt (fun v s => R H' v s ∧ v ≠ .ref D) ys ss) ⟨hP.upd hD, Same.b (same_new hD _), [], [], upd_same, rfl, fun i s h => by simp at h, .nil⟩ (fun i H' _ h => hG H' h.2.1) ?_ ?_
  · intro i x H3 H' hi h hy
    obtain ⟨hP3, s1, ys, ss, e1, hsl, hT, hys⟩ := h
    have hyl := hys.1
    simp only [tYes, if_true]
    refine hte i x H3 H' _ ys hi hy hP3 s1 e1 hDp fun y s H4 hTs hP4 s4 hy4 hr => ?_
    have e4 := s4 _ _ hDp.symm e1
    refine ⟨ys, e4, line_lt (by omega), hP4.ups hDp hDq, fun b o hn hb => by rw [upd_ne (ne_of_none hb hD)]; exact s4 _ _ hn (s1 b o hn hb), ys ++ [y], ss ++ [s], upd_same, by rw [List.length_append, hsl]; rfl, ?_, ?_⟩
    · intro j t hj
      by_cases c : j < ss.length
      · rw [List.getElem?_append_left c] at hj
        exact hT j t hj
      · have hj2 := (List.getElem?_eq_some_iff.mp hj).1
        rw [List.length_append] at hj2
        simp only [List.length_cons, List.length_nil] at hj2
        have e : j = ss.length := by omega
        subst e
        rw [List.getElem?_append_right (Nat.le_refl _), Nat.sub_self] at hj
        cases hj
        rw [hsl]
        exact hTs
    · exact (hys.imp fun v s h => ⟨hu _ _ _ _ _ e4 h.2 (hR _ _ _ _ hP3 s4 h.1), h.2⟩).push ⟨hu _ _ _ _ _ e4 hy4 hr, hy4⟩
  · intro H' h
    obtain ⟨hP3, s1, ys, ss, e1, hsl, hT, hys⟩ := h
    exact hd ys ss H' hP3 s1 e1 hsl hT (hys.imp fun _ _ h => h.1)
theorem AllAt.get {α : Type} {R : V → α → Prop} {xs : List V} {ss : List α} (h : AllAt R xs ss) {i : Nat} (hi : i < ss.length) : ∃ x, xs[i]? = some x ∧ R x ss[i] := by
  obtain ⟨x, e, r⟩ := h.at (List.getElem?_eq_getElem hi)
  exact ⟨x, e, r⟩
theorem AllAt.set {α : Type} {R : V → α → Prop} {xs : List V} {ss : List α} {x : V} {s : α} (h : AllAt R xs ss) (i : Nat) (r : R x s) : AllAt R (xs.set i x) (ss.set i s) := by
  refine ⟨by rw [List.length_set, List.length_set, h.1], fun j y e => ?_⟩
  have hj := (List.getElem?_eq_some_iff.mp e).1
  rw [List.length_set] at hj
  by_cases c : i = j
  · subst c
    rw [List.getElem?_set_self hj] at e
    cases e
    exact ⟨s, by rw [List.getElem?_set_self (by rw [← h.1]; exact hj)], r⟩
  · rw [List.getElem?_set_ne c] at e
    obtain ⟨t, h1, h2⟩ := h.2 j y e
    exact ⟨t, by rw [List.getElem?_set_ne c]; exact h1, h2⟩
theorem AllAt.take {α : Type} {R : V → α → Prop} {xs : List V} {ss : List α} (h : AllAt R xs ss) (n : Nat) : AllAt R (xs.take n) (ss.take n) := by
  refine ⟨by rw [List.length_take, List.length_take, h.1], fun j y e => ?_⟩
  have hj := (List.getElem?_eq_some_iff.mp e).1
  rw [List.length_take] at hj
  rw [List.getElem?_take_of_lt (by omega)] at e
  obtain ⟨t, h1, h2⟩ := h.2 j y e
  exact ⟨t, by rw [List.getElem?_take_of_lt (by omega)]; exact h1, h2⟩
theorem AllAt.app {α : Type} {R : V → α → Prop} {xs ys : List V} {ss ts : List α} (h : AllAt R xs ss) (k : AllAt R ys ts) : AllAt R (xs ++ ys) (ss ++ ts) := by
  refine ⟨by rw [List.length_append, List.length_append, h.1, k.1], fun j y e => ?_⟩
  by_cases c : j < xs.length
  · rw [List.getElem?_append_left c] at e
    rw [List.getElem?_append_left (by rw [← h.1]; exact c)]
    exact h.2 j y e
  · rw [List.getElem?_append_right (by omega)] at e
    rw [List.getElem?_append_right (by rw [← h.1]; omega), ← h.1]
    exact k.2 _ y e
theorem cutV_butlast {xs : List V} : cutV xs none (some (-1)) = xs.dropLast := by
  unfold cutV
  rw [List.dropLast_eq_take]
  show (xs.drop (HT.sIx xs.length 0 none)).take (HT.sIx xs.length xs.length (some (-1)) - HT.sIx xs.length 0 none) = _
  have h0 : HT.sIx xs.length 0 none = 0 := rfl
  have h1 : HT.sIx xs.length xs.length (some (-1)) = xs.length - 1 := by
    unfold HT.sIx
    simp
    omega
  rw [h0, h1]
  rfl
theorem atI_last {xs : List V} {v : V} (h : xs.getLast? = some v) : atI xs (-1) = some v := by
  have hz : xs ≠ [] := fun e => by rw [e] at h; cases h
  have hk : 0 < xs.length := List.length_pos_iff.mpr hz
  unfold atI ixN
  rw [if_neg (by decide), if_pos (by omega)]
  show xs[(-1 + (xs.length : Int)).toNat]? = _
  rw [show (-1 + (xs.length : Int)).toNat = xs.length - 1 by omega, ← h, List.getLast?_eq_getElem?]
/-! ### blocks that are lists -/
def LkAt (H : Hp) (x : V) (b : Bk) : Prop := (x = .non ∧ b = none) ∨ ∃ p ns, x = .ref p ∧ b = some ns ∧ H p = some (IL ns)
theorem LkAt.same {H H' : Hp} {x : V} {b : Bk} (s : Same H H') (h : LkAt H x b) : LkAt H' x b := by
  rcases h with h | ⟨p, ns, e1, e2, h⟩
  · exact .inl h
  · exact .inr ⟨p, ns, e1, e2, s _ _ h⟩
theorem LkAt.bk {H : Hp} {x : V} {b : Bk} (h : LkAt H x b) : BkAt H x b := by
  rcases h with h | ⟨p, ns, e1, e2, h⟩
  · exact .inl h
  · exact .inr ⟨p, ns, e1, e2, .inl h⟩
theorem LkAt.upn {H : Hp} {D : Addr} {o : HO} {v : V} {b : Bk} (n : v ≠ .ref D) (h : LkAt H v b) : LkAt (L2.upd H D o) v b := by
  rcases h with h | ⟨p, ns, e1, e2, h⟩
  · exact .inl h
  · have n2 : p ≠ D := fun q => n (by rw [e1, q])
    exact .inr ⟨p, ns, e1, e2, by rw [upd_ne n2]; exact h⟩
theorem LkAt.pool {H H' : Hp} {p q : Addr} {v : V} {b : Bk} (hP : Pool H p q) (s : SameB p H H') (h : LkAt H v b) : LkAt H' v b := by
  rcases h with h | ⟨t, ns, e1, e2, h⟩
  · exact .inl h
  · have n2 : t ≠ p := fun q => hP.nIL ns (by rw [← q]; exact h)
    exact .inr ⟨t, ns, e1, e2, s _ _ n2 h⟩
/-- no inner list is the outer one -/
theorem LkAt.out {H : Hp} {D : Addr} {xs : List V} {bs : List Bk} {v : V} {b : Bk} (hD : H D = some (.lst xs)) (hx : AllAt (LkAt H) xs bs) (h0 : 0 < bs.length) (h : LkAt H v b) : v ≠ .ref D := by
  intro e
  subst e
  rcases h with ⟨h, _⟩ | ⟨t, ns, e1, e2, h⟩
  · cases h
  · cases e1
    rw [h] at hD
    unfold IL at hD
    injection hD with hD
    injection hD with hD
    obtain ⟨x0, f0, r0⟩ := hx.get h0
    rw [← hD, List.getElem?_map] at f0
    cases hn : ns[0]? with
    | none => rw [hn] at f0; cases f0
    | some z =>
      rw [hn] at f0
      cases f0
      rcases r0 with ⟨c, _⟩ | ⟨_, _, c, _⟩ <;> cases c
def bkD (b : Bk) : PyData := match b with | none => .none | some ns => .list (ns.map PyData.int)
theorem LkAt.dt {H : Hp} {v : V} {b : Bk} (h : LkAt H v b) : Dt H v (bkD b) := by
  rcases h with ⟨rfl, rfl⟩ | ⟨t, ns, rfl, rfl, h⟩
  · exact .non
  · exact dt_IL h
theorem AllAt.dt {α : Type} {H : Hp} {R : V → α → Prop} {f : α → PyData} (hf : ∀ v s, R v s → Dt H v (f s)) : ∀ {xs : List V} {ss : List α}, AllAt R xs ss → DtAll H xs (ss.map f)
  | [], [], _ => .nil
  | x :: xs, s :: ss, h => by
    obtain ⟨t, ht, hr⟩ := h.2 0 x rfl
    cases ht
    exact .cons (hf _ _ hr) (AllAt.dt hf ⟨by have := h.1; simpa using this, fun j y e => h.2 (j + 1) y e⟩)
  | [], _ :: _, h => by have := h.1; simp at this
  | _ :: _, [], h => by have := h.1; simp at this
theorem shal_bk {b : Bk} {k : Nat} : Shal (bkD b) (k + 2) := by
  cases b with
  | none => exact .non
  | some ns => exact .list .ints
theorem shal_map {α : Type} {f : α → PyData} {k : Nat} (hf : ∀ a, Shal (f a) (k + 1)) : ∀ ss : List α, ShalAll (ss.map f) (k + 1)
  | [] => .nil
  | a :: r => .cons (hf a) (shal_map hf r)
theorem shaped_sh {d : PyData} (hs : Shal d 7) : SeqAt.shaped d = true := by
  unfold SeqAt.shaped
  rw [Bool.and_eq_true]
  exact ⟨hs.1, decide_eq_true (by have := hs.2; omega)⟩
theorem any_none (bs : List Bk) : ((bs.map bkD).any fun z => PyData.eqv z .none) = decide (none ∈ bs) := by
  rw [Bool.eq_iff_iff, List.any_map, List.any_eq_true, decide_eq_true_eq]
  constructor
  · rintro ⟨b, hb, e⟩
    cases b with
    | none => exact hb
    | some ns =>
      simp only [Function.comp, bkD] at e
      rw [PyData.eqv] at e <;> first | cases e | (intros; nofun)
  · intro h
    refine ⟨none, h, ?_⟩
    simp only [Function.comp, bkD]
    rw [PyData.eqv]
/-- None (not) in a list of blocks -/
theorem notIn_blocks {K : PySem.W.Frag} {H : Hp} {D : Addr} {xs : List V} {bs : List Bk} {Q : VK} (hD : H D = some (.lst xs)) (hx : AllAt (LkAt H) xs bs) (q : Q (.bl (!decide (none ∈ bs))) H) : rNotInD K .non (.ref D) H Q := by
  have hd : Dt H (.ref D) (.list (bs.map bkD)) := .lst hD (AllAt.dt (fun _ _ h => h.dt) hx)
  exact ⟨.none, bs.map bkD, .non, hd.dp, shaped_sh .non, shaped_sh (.list (shal_map (fun a => shal_bk (k := 4)) bs)), by rw [any_none]; exact q⟩
theorem in_blocks {K : PySem.W.Frag} {H : Hp} {D : Addr} {xs : List V} {bs : List Bk} {Q : VK} (hD : H D = some (.lst xs)) (hx : AllAt (LkAt H) xs bs) (q : Q (.bl (decide (none ∈ bs))) H) : rInD K .non (.ref D) H Q := by
  have hd : Dt H (.ref D) (.list (bs.map bkD)) := .lst hD (AllAt.dt (fun _ _ h => h.dt) hx)
  exact ⟨.none, bs.map bkD, .non, hd.dp, shaped_sh .non, shaped_sh (.list (shal_map (fun a => shal_bk (k := 4)) bs)), by rw [any_none]; exact q⟩
/-- blocks at places -/
def gets (bs : List Bk) (ns : List Int) : List Bk := ns.map fun i => bs.getD i.toNat none
def raw (bs : List Bk) : List (List Int) := bs.map fun b => b.getD []
theorem rows_of {H : Hp} {D : Addr} {xs : List V} {bs : List Bk} (hD : H D = some (.lst xs)) (hx : AllAt (LkAt H) xs bs) (hn : none ∉ bs) : RowsAt H D (raw bs) := by
  have h : ∀ (xs : List V) (bs : List Bk), AllAt (LkAt H) xs bs → none ∉ bs → ∃ as : List Addr, xs = as.map V.ref ∧ as.length = (raw bs).length ∧ ∀ i a, as[i]? = some a → H a = some (IL ((raw bs).getD i [])) := by
    intro xs
    induction xs with
    | nil =>
      intro bs h _
      have : bs = [] := List.eq_nil_of_length_eq_zero h.1.symm
      subst this
      exact ⟨[], rfl, rfl, fun i a e => by simp at e⟩
    | cons x xs ih =>
      intro bs h hn
      rcases bs with _ | ⟨b, bs⟩
      · have := h.1; simp at this
      obtain ⟨t, ht, hr⟩ := h.2 0 x rfl
      cases ht
      obtain ⟨as, e1, e2, e3⟩ := ih bs ⟨by have := h.1; simpa using this, fun j y e => h.2 (j + 1) y e⟩ (fun m => hn (List.mem_cons_of_mem _ m))
      rcases hr with ⟨_, rfl⟩ | ⟨p, ns, rfl, rfl, hp⟩
      · exact absurd List.mem_cons_self hn
      · refine ⟨p :: as, by rw [e1]; rfl, by simp [raw] at e2 ⊢; exact e2, fun i a e => ?_⟩
        cases i with
        | zero => cases e; exact hp
        | succ i => exact e3 i a e
  obtain ⟨as, rfl, e2, e3⟩ := h xs bs hx hn
  exact ⟨as, hD, e2, e3⟩
theorem memDL {α : Type} {l : List α} {x : α} (h : x ∈ l.dropLast) : x ∈ l := (List.dropLast_sublist l).subset h
/-- the indexes below n that k picks -/
def pickZ (k : Nat → Bool) (n : Nat) : List Int := ((List.range n).filter k).map fun i : Nat => (i : Int)
theorem pickZ_more (k : Nat → Bool) (n : Nat) : pickZ k (n + 1) = if k n = true then pickZ k n ++ [(n : Int)] else pickZ k n := by
  unfold pickZ
  rw [List.range_succ, List.filter_append, List.map_append]
  split
  · rename_i e
    rw [List.filter_cons_of_pos e]
    rfl
  · rename_i e
    rw [List.filter_cons_of_neg e]
    simp
theorem pickZ_len (k : Nat → Bool) (n : Nat) : (pickZ k n).length ≤ n := by
  unfold pickZ
  rw [List.length_map]
  have := List.length_filter_le k (List.range n)
  rw [List.length_range] at this
  exact this
theorem room70 {k : Nat} {A : Around} (hr : Room k A) : A.units + 70 < cLine := by
  have := hr.un
  omega
theorem pe_fldK {X : Cx} {K : PySem.W.Frag} {e : Expr} {ta : TE} {f : Str} {pos : Pos} (he : PE X e ta) (hb : attributeBase e f X.env (eval e X.env) = eval e X.env) (hK : X.K = K) : PE X (.Attribute e f pos) (tFld K ta f) := by
  subst hK
  exact pe_fld he hb
end Dw

/-! sectors found on a track -/
namespace Dw
open PySem PySem.Spec PyProof.Rows L2
def cutA (cs : List Int) (a n : Nat) : List Int := (cs.drop a).take n
theorem sIx_nat (n d m : Nat) : HT.sIx n d (some ((m : Nat) : Int)) = min m n := HT.sIx_nat ..
theorem cutI_any (ns : List Int) (a b : Nat) (h : a ≤ b) : cutI ns (some (a : Int)) (some (b : Int)) = cutA ns a (b - a) := by
  unfold cutI cutA
  rw [sIx_nat, sIx_nat]
  by_cases c : a ≤ ns.length
  · rw [Nat.min_eq_left c]
    by_cases d : b ≤ ns.length
    · rw [Nat.min_eq_left d]
    · rw [Nat.min_eq_right (by omega), List.take_of_length_le (by rw [List.length_drop]; omega), List.take_of_length_le (by rw [List.length_drop]; omega)]
  · rw [Nat.min_eq_right (by omega : ns.length ≤ a), List.drop_of_length_le (Nat.le_refl _), List.drop_of_length_le (by omega), List.take_nil, List.take_nil]
theorem cutI_to2 (ns : List Int) : cutI ns none (some (-2)) = ns.take (ns.length - 2) := by
  unfold cutI
  have h1 : HT.sIx ns.length ns.length (some (-2)) = ns.length - 2 := by
    unfold HT.sIx
    simp
    omega
  rw [h1]
  show (ns.drop 0).take (ns.length - 2 - 0) = _
  rw [List.drop_zero, Nat.sub_zero]
theorem cutI_last2 (ns : List Int) : cutI ns (some (-2)) none = ns.drop (ns.length - 2) := by
  unfold cutI
  have h1 : HT.sIx ns.length 0 (some (-2)) = ns.length - 2 := by
    unfold HT.sIx
    simp
    omega
  rw [h1]
  show (ns.drop (ns.length - 2)).take (ns.length - (ns.length - 2)) = _
  rw [List.take_of_length_le (by rw [List.length_drop]; omega)]
theorem cutI_from1 (ns : List Int) (b : Nat) (h : 1 ≤ b) : cutI ns (some 1) (some (b : Int)) = (ns.drop 1).take (b - 1) := cutI_any ns 1 b h
/-- the places of marks, from a place on -/
def mkFrom (cs : List Int) (a : Nat) : List Nat := if h : a + 48 ≤ cs.length then (if cutA cs a 48 = marksZ then a :: mkFrom cs (a + 48) else mkFrom cs (a + 1)) else []
termination_by cs.length + 1 - a
theorem mkFrom_yes {cs : List Int} {a : Nat} (h : a + 48 ≤ cs.length) (m : cutA cs a 48 = marksZ) : mkFrom cs a = a :: mkFrom cs (a + 48) := by
  rw [mkFrom, dif_pos h, if_pos m]
theorem mkFrom_no {cs : List Int} {a : Nat} (h : a + 48 ≤ cs.length) (m : ¬ cutA cs a 48 = marksZ) : mkFrom cs a = mkFrom cs (a + 1) := by
  rw [mkFrom, dif_pos h, if_neg m]
theorem mkFrom_end {cs : List Int} {a : Nat} (h : ¬ a + 48 ≤ cs.length) : mkFrom cs a = [] := by
  rw [mkFrom, dif_neg h]
def NL (ns : List Nat) : List Int := ns.map fun n : Nat => (n : Int)
def mkZ (cs : List Int) : List Nat := mkFrom cs 0
theorem mkFrom_len (cs : List Int) : ∀ (k a : Nat), cs.length + 1 - a ≤ k → (mkFrom cs a).length ≤ cs.length + 1 - a
  | 0, a, h => by rw [mkFrom_end (by omega)]; exact Nat.zero_le _
  | k + 1, a, h => by
    by_cases c : a + 48 ≤ cs.length
    · by_cases m : cutA cs a 48 = marksZ
      · rw [mkFrom_yes c m]
        have := mkFrom_len cs k (a + 48) (by omega)
        rw [List.length_cons]
        omega
      · rw [mkFrom_no c m]
        have := mkFrom_len cs k (a + 1) (by omega)
        omega
    · rw [mkFrom_end c]; exact Nat.zero_le _
theorem mkZ_len (cs : List Int) : (mkZ cs).length ≤ cs.length + 1 := mkFrom_len cs _ 0 (Nat.le_refl _)
theorem mkFrom_in (cs : List Int) : ∀ (k a : Nat), cs.length + 1 - a ≤ k → ∀ p ∈ mkFrom cs a, a ≤ p ∧ p + 48 ≤ cs.length
  | 0, a, h, p, hp => by rw [mkFrom_end (by omega)] at hp; cases hp
  | k + 1, a, h, p, hp => by
    by_cases c : a + 48 ≤ cs.length
    · by_cases m : cutA cs a 48 = marksZ
      · rw [mkFrom_yes c m] at hp
        rcases List.mem_cons.mp hp with e | e
        · subst e; exact ⟨Nat.le_refl _, c⟩
        · have := mkFrom_in cs k (a + 48) (by omega) p e
          omega
      · rw [mkFrom_no c m] at hp
        have := mkFrom_in cs k (a + 1) (by omega) p hp
        omega
    · rw [mkFrom_end c] at hp; cases hp
theorem mkZ_in {cs : List Int} {p : Nat} (h : p ∈ mkZ cs) : p + 48 ≤ cs.length := (mkFrom_in cs _ 0 (Nat.le_refl _) p h).2
/-- what is read behind a mark -/
def behC (cs : List Int) (p n : Nat) : List Int := cutA cs (p + 48) (16 * n)
def valsB (cs : List Int) : List Int := bytesZ (odds cs (8 * (cs.length / 16)))
def faultB (cs : List Int) : List Int := mfmFa 1 (evens cs (8 * (cs.length / 16))) (odds cs (8 * (cs.length / 16)))
theorem bytesZ_len (ns : List Int) : (bytesZ ns).length = ns.length / 8 := by
  unfold bytesZ
  rw [List.length_map, List.length_range]
theorem valsB_len (cs : List Int) : (valsB cs).length = cs.length / 16 := by
  unfold valsB
  rw [bytesZ_len, odds_len]
  omega
theorem behC_len (cs : List Int) (p n : Nat) : (behC cs p n).length ≤ 16 * n := List.length_take_le _ _
theorem byteZ_bound : ∀ ns : List Int, Bits ns → 0 ≤ byteZ ns ∧ byteZ ns < 2 ^ ns.length := by
  have : ∀ (ns : List Int) (acc : Int) (k : Nat), Bits ns → 0 ≤ acc → acc < 2 ^ k → 0 ≤ ns.foldl (fun v b => 2 * v + b) acc ∧ ns.foldl (fun v b => 2 * v + b) acc < 2 ^ (k + ns.length) := by
    intro ns
    induction ns with
    | nil => intro acc k _ h0 h1; exact ⟨h0, h1⟩
    | cons b r ih =>
      intro acc k hb h0 h1
      have hb0 := hb b List.mem_cons_self
      have h2 : (2 : Int) ^ (k + 1) = 2 * 2 ^ k := by rw [Int.pow_succ, Int.mul_comm]
      have := ih (2 * acc + b) (k + 1) (fun x hx => hb x (List.mem_cons_of_mem _ hx)) (by omega) (by rw [h2]; omega)
      rw [show k + (b :: r).length = k + 1 + r.length by rw [List.length_cons]; omega]
      exact this
  intro ns h
  have := this ns 0 0 h (by omega) (by decide)
  rw [Nat.zero_add] at this
  exact this
theorem bytesZ_bytes {ns : List Int} (h : Bits ns) : Bytes (bytesZ ns) := by
  intro x hx
  unfold bytesZ at hx
  obtain ⟨k, hk, rfl⟩ := List.mem_map.mp hx
  have hl : ((ns.drop (8 * k)).take 8).length ≤ 8 := List.length_take_le _ _
  have hb : Bits ((ns.drop (8 * k)).take 8) := fun b hb => h b (List.mem_of_mem_drop (List.mem_of_mem_take hb))
  have := byteZ_bound _ hb
  have h8 : (2 : Int) ^ ((ns.drop (8 * k)).take 8).length ≤ 2 ^ 8 := by
    have := Nat.pow_le_pow_right (n := 2) (by decide) hl
    exact_mod_cast this
  omega
theorem odds_bits {cs : List Int} {n : Nat} (h : Bits cs) (hn : 2 * n ≤ cs.length) : Bits (odds cs n) := by
  intro x hx
  unfold odds at hx
  obtain ⟨k, hk, rfl⟩ := List.mem_map.mp hx
  have := List.mem_range.mp hk
  rw [List.getD_eq_getElem?_getD, List.getElem?_eq_getElem (by omega)]
  exact h _ (List.getElem_mem _)
theorem cutA_bits {cs : List Int} {a n : Nat} (h : Bits cs) : Bits (cutA cs a n) := fun b hb => h b (List.mem_of_mem_drop (List.mem_of_mem_take hb))
theorem valsB_bytes {cs : List Int} (h : Bits cs) : Bytes (valsB cs) := bytesZ_bytes (odds_bits h (by omega))
def fitsZ (vs : List Int) : Bool := decide (pairZ (crcZ ([161, 161, 161] ++ vs.take (vs.length - 2))) = vs.drop (vs.length - 2))
abbrev Dta := Option (List Int) × Bool
def dtaOf (sz : Nat) (part : List Int) : Dta :=
  if (valsB part).length < 16 * 2 ^ sz + 3 ∨ (valsB part).getD 0 0 ≠ 251 then (none, false) else (some (((valsB part).drop 1).take (16 * 2 ^ sz)), (faultB part).isEmpty && fitsZ (valsB part))
def behZ (cs : List Int) (sz : Int) (e p : Nat) : Dta :=
  if 5 < sz ∨ p < e ∨ e + 960 < p then (none, false) else dtaOf sz.toNat (behC cs p (16 * 2 ^ sz.toNat + 3))
abbrev Fnd := Nat × List Int × Bool × Option (List Int) × Bool
def FndAt (H : Hp) (x : V) (f : Fnd) : Prop := ∃ t ta v, x = .ref t ∧ H t = some (.tup [.int f.1, .ref ta, .bl f.2.2.1, v, .bl f.2.2.2.2]) ∧ H ta = some (.tup (f.2.1.map V.int)) ∧ DatT H v f.2.2.2.1
theorem FndAt.same {H H' : Hp} {x : V} {f : Fnd} (s : Same H H') (h : FndAt H x f) : FndAt H' x f := by
  obtain ⟨t, ta, v, e, h1, h2, h3⟩ := h
  exact ⟨t, ta, v, e, s _ _ h1, s _ _ h2, h3.same s⟩
theorem DatT.ups {H : Hp} {D : Addr} {xs : List V} {o : HO} {v : V} {da : Option (List Int)} (hD : H D = some (.lst xs)) (h : DatT H v da) : DatT (L2.upd H D o) v da := by
  rcases h with h | ⟨a, ns, e1, e2, h⟩
  · exact .inl h
  · exact .inr ⟨a, ns, e1, e2, by rw [upd_ne (fun q => by subst q; rw [h] at hD; cases hD)]; exact h⟩
theorem FndAt.ups {H : Hp} {D : Addr} {xs : List V} {o : HO} {x : V} {f : Fnd} (hD : H D = some (.lst xs)) (h : FndAt H x f) : FndAt (L2.upd H D o) x f := by
  obtain ⟨t, ta, v, e, h1, h2, h3⟩ := h
  have n1 : t ≠ D := fun q => by subst q; rw [h1] at hD; cases hD
  have n2 : ta ≠ D := fun q => by subst q; rw [h2] at hD; cases hD
  exact ⟨t, ta, v, e, by rw [upd_ne n1]; exact h1, by rw [upd_ne n2]; exact h2, h3.ups hD⟩
def dataBeh (cs : List Int) (ps : List Nat) (i : Nat) (sz : Int) : Dta := if i + 1 < ps.length then behZ cs sz (ps.getD i 0 + 160) (ps.getD (i + 1) 0) else (none, false)
def fndAt (cs : List Int) (ps : List Nat) (i : Nat) : Option Fnd :=
  let vs := valsB (behC cs (ps.getD i 0) 7)
  if vs.length < 7 ∨ vs.getD 0 0 ≠ 254 then none else
    some (ps.getD i 0, (vs.drop 1).take 4, fitsZ vs, dataBeh cs ps i (vs.getD 4 0))
def fndTo (cs : List Int) (ps : List Nat) (n : Nat) : List Fnd := (List.range n).filterMap (fndAt cs ps)
theorem fndTo_more (cs : List Int) (ps : List Nat) (n : Nat) : fndTo cs ps (n + 1) = match fndAt cs ps n with | none => fndTo cs ps n | some f => fndTo cs ps n ++ [f] := by
  unfold fndTo
  rw [List.range_succ, List.filterMap_append]
  cases h : fndAt cs ps n with
  | none => simp [h]
  | some f => simp [h]
theorem fndTo_len (cs : List Int) (ps : List Nat) (n : Nat) : (fndTo cs ps n).length ≤ n := by
  unfold fndTo
  have := List.length_filterMap_le (fndAt cs ps) (List.range n)
  rw [List.length_range] at this
  exact this
def foundZ (cs : List Int) : List Fnd := fndTo cs (mkZ cs) (mkZ cs).length
end Dw

/-! marks of written tracks -/
namespace Dw
open PySem PySem.Spec PyProof.Rows L2
/-- the pairs where a clock is missing -/
def vio (l : Int) : List Int → Nat → List Nat
  | c :: d :: r, k => (if l = 0 ∧ c = 0 ∧ d = 0 then [k] else []) ++ vio d r (k + 1)
  | [_], _ => []
  | [], _ => []
theorem vio_append : ∀ (xs : List Int) (l : Int) (ys : List Int) (k : Nat), xs.length % 2 = 0 → vio l (xs ++ ys) k = vio l xs k ++ vio (xs.getLastD l) ys (k + xs.length / 2)
  | [], l, ys, k, _ => rfl
  | [x], l, ys, k, h => by simp at h
  | c :: d :: r, l, ys, k, h => by
    have h2 : r.length % 2 = 0 := by
      rw [List.length_cons, List.length_cons] at h
      omega
    show _ ++ vio d (r ++ ys) (k + 1) = (_ ++ vio d r (k + 1)) ++ _
    rw [vio_append r d ys (k + 1) h2, List.append_assoc]
    have e1 : (c :: d :: r).getLastD l = r.getLastD d := by rw [List.getLastD_cons, List.getLastD_cons]
    have e2 : k + (c :: d :: r).length / 2 = k + 1 + r.length / 2 := by
      rw [List.length_cons, List.length_cons]
      omega
    rw [e1, e2]
theorem vio_mfm : ∀ (bs : List Int) (l : Int) (k : Nat), vio l (mfmF l bs) k = []
  | [], _, _ => rfl
  | b :: r, l, k => by
    show (if l = 0 ∧ clk l b = 0 ∧ b = 0 then [k] else []) ++ vio b (mfmF b r) (k + 1) = []
    rw [vio_mfm r b (k + 1), if_neg]
    · rfl
    · rintro ⟨h1, h2, h3⟩
      unfold clk at h2
      rw [if_pos ⟨h1, h3⟩] at h2
      cases h2
theorem vio_marks (l : Int) (k : Nat) : vio l marksZ k = [k + 5, k + 13, k + 21] := by
  simp [marksZ, markZ, vio]
theorem vio_mem : ∀ (i : Nat) (cs : List Int) (l : Int) (k : Nat), (i = 0 → l = 0) → (0 < i → cs[2 * i - 1]? = some 0) → cs[2 * i]? = some 0 → cs[2 * i + 1]? = some 0 → k + i ∈ vio l cs k
  | 0, cs, l, k, h0, _, h2, h3 => by
    match cs, h2, h3 with
    | c :: d :: r, h2, h3 =>
      cases h2
      cases h3
      show k ∈ (if l = 0 ∧ (0 : Int) = 0 ∧ (0 : Int) = 0 then [k] else []) ++ _
      rw [if_pos ⟨h0 rfl, rfl, rfl⟩]
      exact List.mem_append_left _ List.mem_cons_self
    | [c], h2, h3 => cases h3
  | i + 1, cs, l, k, _, h1, h2, h3 => by
    match cs, h1, h2, h3 with
    | c :: d :: r, h1, h2, h3 =>
      have h1 := h1 (Nat.succ_pos i)
      refine List.mem_append_right _ ?_
      rw [show k + (i + 1) = k + 1 + i by omega]
      refine vio_mem i r d (k + 1) (fun e => ?_) (fun e => ?_) ?_ ?_
      · subst e
        exact Option.some.inj h1
      · rw [show 2 * (i + 1) - 1 = (2 * i - 1) + 1 + 1 by omega] at h1
        exact h1
      · rw [show 2 * (i + 1) = 2 * i + 1 + 1 by omega] at h2
        exact h2
      · rw [show 2 * (i + 1) + 1 = 2 * i + 1 + 1 + 1 by omega] at h3
        exact h3
    | [c], h1, h2, h3 => cases h3
    | [], h1, h2, h3 => cases h3
/-- marks with the bytes behind each -/
def partZ (P : List Int) : List Int := marksZ ++ mfmF 1 (bitsOf P)
def partsZ (Ps : List (List Int)) : List Int := Ps.flatMap partZ
def plc (n : Nat) : List (List Int) → List Nat
  | [] => []
  | P :: r => n :: plc (n + 48 + 16 * P.length) r
theorem partZ_len (P : List Int) : (partZ P).length = 48 + 16 * P.length := by
  unfold partZ
  rw [List.length_append, mfmF_len, bitsOf_len]
  show 48 + _ = _
  omega
theorem marksZ_last (l : Int) : marksZ.getLastD l = 1 := rfl
theorem marksZ_len : marksZ.length = 48 := rfl
theorem vio_parts : ∀ (Ps : List (List Int)) (l : Int) (k : Nat), vio l (partsZ Ps) k = (plc (2 * k) Ps).flatMap fun p => [p / 2 + 5, p / 2 + 13, p / 2 + 21]
  | [], _, _ => rfl
  | P :: r, l, k => by
    have e : partsZ (P :: r) = marksZ ++ (mfmF 1 (bitsOf P) ++ partsZ r) := by
      unfold partsZ
      rw [List.flatMap_cons]
      unfold partZ
      rw [List.append_assoc]
    rw [e, vio_append _ _ _ _ (by decide), vio_marks, marksZ_last, vio_append _ _ _ _ (by rw [mfmF_len]; omega), vio_mfm, List.nil_append, vio_parts r, marksZ_len, mfmF_len, bitsOf_len]
    rw [show 2 * (k + 48 / 2 + 2 * (8 * P.length) / 2) = 2 * k + 48 + 16 * P.length by omega]
    show _ = (2 * k :: plc (2 * k + 48 + 16 * P.length) r).flatMap _
    rw [List.flatMap_cons, show 2 * k / 2 = k by omega]
theorem plc_in : ∀ (Ps : List (List Int)) (n : Nat), (∀ P ∈ Ps, 0 < P.length) → ∀ p ∈ plc n Ps, n ≤ p ∧ p + 48 ≤ n + (partsZ Ps).length
  | [], n, _, p, hp => by cases hp
  | P :: r, n, hP, p, hp => by
    have hl : (partsZ (P :: r)).length = 48 + 16 * P.length + (partsZ r).length := by
      unfold partsZ
      rw [List.flatMap_cons, List.length_append, partZ_len]
    rcases List.mem_cons.mp hp with h | h
    · subst h
      omega
    · have := plc_in r _ (fun Q hQ => hP Q (List.mem_cons_of_mem _ hQ)) p h
      omega
theorem plc_gap : ∀ (Ps : List (List Int)) (n : Nat), (∀ P ∈ Ps, 0 < P.length) → (plc n Ps).Pairwise fun a b => a + 64 ≤ b
  | [], _, _ => .nil
  | P :: r, n, hP => by
    refine List.pairwise_cons.mpr ⟨fun p hp => ?_, plc_gap r _ fun Q hQ => hP Q (List.mem_cons_of_mem _ hQ)⟩
    have := plc_in r _ (fun Q hQ => hP Q (List.mem_cons_of_mem _ hQ)) p hp
    have := hP P List.mem_cons_self
    omega
theorem plc_mod : ∀ (Ps : List (List Int)) (n : Nat), n % 16 = 0 → ∀ p ∈ plc n Ps, p % 16 = 0
  | [], _, _, p, hp => by cases hp
  | P :: r, n, hn, p, hp => by
    rcases List.mem_cons.mp hp with h | h
    · subst h; exact hn
    · exact plc_mod r _ (by omega) p h
theorem plc_mark : ∀ (Ps : List (List Int)) (pre : List Int), ∀ p ∈ plc pre.length Ps, cutA (pre ++ partsZ Ps) p 48 = marksZ
  | [], _, p, hp => by cases hp
  | P :: r, pre, p, hp => by
    have e : pre ++ partsZ (P :: r) = pre ++ partZ P ++ partsZ r := by
      unfold partsZ
      rw [List.flatMap_cons, List.append_assoc]
    rcases List.mem_cons.mp hp with h | h
    · subst h
      rw [e]
      unfold cutA
      rw [List.append_assoc, List.drop_left]
      unfold partZ
      rw [List.append_assoc, show (48 : Nat) = marksZ.length from rfl, List.take_left]
    · rw [e]
      have hl : pre.length + 48 + 16 * P.length = (pre ++ partZ P).length := by
        rw [List.length_append, partZ_len]
        omega
      rw [hl] at h
      exact plc_mark r (pre ++ partZ P) p h
theorem cut_cell {cs : List Int} {a i : Nat} (h : cutA cs a 48 = marksZ) (hi : i < 48) : cs[a + i]? = marksZ[i]? := by
  rw [← h]
  unfold cutA
  rw [List.getElem?_take_of_lt hi, List.getElem?_drop]
theorem gap_two {ps : List Nat} (h : ps.Pairwise fun a b => a + 64 ≤ b) {a b : Nat} (ha : a ∈ ps) (hb : b ∈ ps) : a = b ∨ a + 64 ≤ b ∨ b + 64 ≤ a := by
  obtain ⟨i, hi, rfl⟩ := List.mem_iff_getElem.mp ha
  obtain ⟨j, hj, rfl⟩ := List.mem_iff_getElem.mp hb
  rcases Nat.lt_trichotomy i j with c | c | c
  · exact .inr (.inl (List.pairwise_iff_getElem.mp h i j hi hj c))
  · subst c; exact .inl rfl
  · exact .inr (.inr (List.pairwise_iff_getElem.mp h j i hj hi c))
/-- a mark stands nowhere else -/
theorem mark_at {P0 : List Int} {Ps : List (List Int)} (hP : ∀ P ∈ Ps, 0 < P.length) {a : Nat} (h : cutA (mfmF 0 (bitsOf P0) ++ partsZ Ps) a 48 = marksZ) : a ∈ plc (16 * P0.length) Ps := by
  have hv : vio 0 (mfmF 0 (bitsOf P0) ++ partsZ Ps) 0 = (plc (16 * P0.length) Ps).flatMap fun p => [p / 2 + 5, p / 2 + 13, p / 2 + 21] := by
    rw [vio_append _ _ _ _ (by rw [mfmF_len]; omega), vio_mfm, List.nil_append, vio_parts, mfmF_len, bitsOf_len]
    rw [show 2 * (0 + 2 * (8 * P0.length) / 2) = 16 * P0.length by omega]
  have hg := plc_gap Ps (16 * P0.length) hP
  have hm := plc_mod Ps (16 * P0.length) (by omega)
  have hk : ∀ p ∈ plc (16 * P0.length) Ps, cutA (mfmF 0 (bitsOf P0) ++ partsZ Ps) p 48 = marksZ := fun p hp => by
    refine plc_mark Ps (mfmF 0 (bitsOf P0)) p ?_
    rw [mfmF_len, bitsOf_len, show 2 * (8 * P0.length) = 16 * P0.length by omega]
    exact hp
  generalize mfmF 0 (bitsOf P0) ++ partsZ Ps = cs at *
  generalize plc (16 * P0.length) Ps = ps at *
  have hc : ∀ i z, i < 48 → marksZ[i]? = some z → cs[a + i]? = some z := fun i z hi hz => by rw [cut_cell h hi, hz]
  have inV : ∀ i, 0 < i → cs[2 * i - 1]? = some 0 → cs[2 * i]? = some 0 → cs[2 * i + 1]? = some 0 → ∃ p ∈ ps, i = p / 2 + 5 ∨ i = p / 2 + 13 ∨ i = p / 2 + 21 := by
    intro i h0 h1 h2 h3
    have := vio_mem i cs 0 0 (fun e => by omega) (fun _ => h1) h2 h3
    rw [hv, Nat.zero_add] at this
    obtain ⟨p, hp, hq⟩ := List.mem_flatMap.mp this
    refine ⟨p, hp, ?_⟩
    simpa using hq
  by_cases ev : a % 2 = 0
  · obtain ⟨b, rfl⟩ : ∃ b, a = 2 * b := ⟨a / 2, by omega⟩
    have v1 := inV (b + 5) (by omega) (by rw [show 2 * (b + 5) - 1 = 2 * b + 9 by omega]; exact hc 9 0 (by decide) rfl) (by rw [show 2 * (b + 5) = 2 * b + 10 by omega]; exact hc 10 0 (by decide) rfl) (by rw [show 2 * (b + 5) + 1 = 2 * b + 11 by omega]; exact hc 11 0 (by decide) rfl)
    have v2 := inV (b + 13) (by omega) (by rw [show 2 * (b + 13) - 1 = 2 * b + 25 by omega]; exact hc 25 0 (by decide) rfl) (by rw [show 2 * (b + 13) = 2 * b + 26 by omega]; exact hc 26 0 (by decide) rfl) (by rw [show 2 * (b + 13) + 1 = 2 * b + 27 by omega]; exact hc 27 0 (by decide) rfl)
    have v3 := inV (b + 21) (by omega) (by rw [show 2 * (b + 21) - 1 = 2 * b + 41 by omega]; exact hc 41 0 (by decide) rfl) (by rw [show 2 * (b + 21) = 2 * b + 42 by omega]; exact hc 42 0 (by decide) rfl) (by rw [show 2 * (b + 21) + 1 = 2 * b + 43 by omega]; exact hc 43 0 (by decide) rfl)
    obtain ⟨p1, hp1, e1⟩ := v1
    obtain ⟨p2, hp2, e2⟩ := v2
    obtain ⟨p3, hp3, e3⟩ := v3
    have m1 := hm p1 hp1
    have m2 := hm p2 hp2
    have m3 := hm p3 hp3
    have g12 := gap_two hg hp1 hp2
    have g13 := gap_two hg hp1 hp3
    have : 2 * b = p1 := by omega
    rw [this]
    exact hp1
  · exfalso
    obtain ⟨b, rfl⟩ : ∃ b, a = 2 * b + 1 := ⟨a / 2, by omega⟩
    have v1 := inV (b + 2) (by omega) (by rw [show 2 * (b + 2) - 1 = 2 * b + 1 + 2 by omega]; exact hc 2 0 (by decide) rfl) (by rw [show 2 * (b + 2) = 2 * b + 1 + 3 by omega]; exact hc 3 0 (by decide) rfl) (by rw [show 2 * (b + 2) + 1 = 2 * b + 1 + 4 by omega]; exact hc 4 0 (by decide) rfl)
    have v2 := inV (b + 10) (by omega) (by rw [show 2 * (b + 10) - 1 = 2 * b + 1 + 18 by omega]; exact hc 18 0 (by decide) rfl) (by rw [show 2 * (b + 10) = 2 * b + 1 + 19 by omega]; exact hc 19 0 (by decide) rfl) (by rw [show 2 * (b + 10) + 1 = 2 * b + 1 + 20 by omega]; exact hc 20 0 (by decide) rfl)
    have v3 := inV (b + 18) (by omega) (by rw [show 2 * (b + 18) - 1 = 2 * b + 1 + 34 by omega]; exact hc 34 0 (by decide) rfl) (by rw [show 2 * (b + 18) = 2 * b + 1 + 35 by omega]; exact hc 35 0 (by decide) rfl) (by rw [show 2 * (b + 18) + 1 = 2 * b + 1 + 36 by omega]; exact hc 36 0 (by decide) rfl)
    obtain ⟨p1, hp1, e1⟩ := v1
    obtain ⟨p2, hp2, e2⟩ := v2
    obtain ⟨p3, hp3, e3⟩ := v3
    have m1 := hm p1 hp1
    have m2 := hm p2 hp2
    have m3 := hm p3 hp3
    have g12 := gap_two hg hp1 hp2
    have g13 := gap_two hg hp1 hp3
    have e : p1 = 2 * b - 6 ∧ 3 ≤ b := by omega
    have c1 : cs[p1 + 17]? = some 1 := by rw [cut_cell (hk p1 hp1) (by decide)]; rfl
    have c2 : cs[2 * b + 1 + 10]? = some 0 := hc 10 0 (by decide) rfl
    rw [show p1 + 17 = 2 * b + 1 + 10 by omega, c2] at c1
    cases c1
/-- where marks stand at known places only -/
theorem mkFrom_eq {cs : List Int} {ps : List Nat} (hg : ps.Pairwise fun a b => a + 64 ≤ b) (hin : ∀ p ∈ ps, p + 48 ≤ cs.length ∧ cutA cs p 48 = marksZ) (hon : ∀ a, cutA cs a 48 = marksZ → a ∈ ps) :
    ∀ (k a : Nat) (qs rs : List Nat), cs.length + 1 - a ≤ k → ps = qs ++ rs → (∀ q ∈ qs, q + 48 ≤ a) → (∀ r ∈ rs, a ≤ r) → mkFrom cs a = rs
  | 0, a, qs, rs, hk, he, _, hr => by
    rw [mkFrom_end (by omega)]
    cases rs with
    | nil => rfl
    | cons r rs =>
      have h1 := hr r List.mem_cons_self
      have h2 := (hin r (by rw [he]; simp)).1
      omega
  | k + 1, a, qs, rs, hk, he, hq, hr => by
    by_cases c : a + 48 ≤ cs.length
    · by_cases m : cutA cs a 48 = marksZ
      · rw [mkFrom_yes c m]
        have ha := hon a m
        rw [he] at ha
        rcases List.mem_append.mp ha with h | h
        · have := hq a h
          omega
        · cases rs with
          | nil => cases h
          | cons r rs =>
            rw [he] at hg
            have hgr := (List.pairwise_append.mp hg).2.1
            have hr1 := List.pairwise_cons.mp hgr
            have e : r = a := by
              rcases List.mem_cons.mp h with h | h
              · exact h.symm
              · have h1 := hr1.1 a h
                have h2 := hr r List.mem_cons_self
                omega
            subst e
            rw [mkFrom_eq (by rw [he]; exact hg) hin hon k (r + 48) (qs ++ [r]) rs (by omega) (by rw [he]; simp) (fun q h => ?_) (fun s h => ?_)]
            · rcases List.mem_append.mp h with h | h
              · have := hq q h
                omega
              · rw [List.mem_singleton.mp h]
                exact Nat.le_refl _
            · have := hr1.1 s h
              omega
      · rw [mkFrom_no c m]
        refine mkFrom_eq hg hin hon k (a + 1) qs rs (by omega) he (fun q h => by have := hq q h; omega) fun r h => ?_
        have h1 := hr r h
        have h2 : r ≠ a := fun e => m (e ▸ (hin r (by rw [he]; exact List.mem_append_right _ h)).2)
        omega
    · rw [mkFrom_end c]
      cases rs with
      | nil => rfl
      | cons r rs =>
        have h1 := hr r List.mem_cons_self
        have h2 := (hin r (by rw [he]; simp)).1
        omega
theorem mk_stream {P0 : List Int} {Ps : List (List Int)} (hP : ∀ P ∈ Ps, 0 < P.length) : mkZ (mfmF 0 (bitsOf P0) ++ partsZ Ps) = plc (16 * P0.length) Ps := by
  have hl : (mfmF 0 (bitsOf P0)).length = 16 * P0.length := by rw [mfmF_len, bitsOf_len]; omega
  refine mkFrom_eq (plc_gap Ps _ hP) (fun p hp => ⟨?_, ?_⟩) (fun a h => mark_at hP h) _ 0 [] _ (Nat.le_refl _) rfl (fun q h => by cases h) (fun r _ => Nat.zero_le _)
  · have := (plc_in Ps _ hP p hp).2
    rw [List.length_append, hl]
    exact this
  · rw [← hl] at hp
    exact plc_mark Ps _ p hp
end Dw

/-! what is found on written tracks -/
namespace Dw
open PySem PySem.Spec PyProof.Rows L2
theorem mfmB_len (b : Int) (Q : List Int) : (mfmF b (bitsOf Q)).length = 16 * Q.length := by rw [mfmF_len, bitsOf_len]; omega
theorem vals_mfm {Q : List Int} (hb : Bytes Q) : valsB (mfmF 1 (bitsOf Q)) = Q ∧ faultB (mfmF 1 (bitsOf Q)) = [] := by
  have hl : 8 * ((mfmF 1 (bitsOf Q)).length / 16) = (bitsOf Q).length := by rw [mfmB_len, bitsOf_len]; omega
  have h1 := mfm_odds 1 (bitsOf Q) []
  have h2 := mfm_faults 1 (bitsOf Q) []
  rw [List.append_nil] at h1 h2
  unfold valsB faultB
  rw [hl, h1, h2]
  exact ⟨bytes_bits Q hb, rfl⟩
theorem mfm_split (b : Int) (X Y : List Int) : mfmF b (bitsOf (X ++ Y)) = mfmF b (bitsOf X) ++ mfmF (lastOf b (bitsOf X)) (bitsOf Y) := by
  rw [bitsOf_append, mfmF_append]
theorem beh_part {pre P rest : List Int} {n : Nat} (hn : n ≤ P.length) : behC (pre ++ (partZ P ++ rest)) pre.length n = mfmF 1 (bitsOf (P.take n)) := by
  unfold behC cutA
  rw [← List.drop_drop, List.drop_left]
  unfold partZ
  rw [List.append_assoc, show (48 : Nat) = marksZ.length from rfl, List.drop_left]
  have e : mfmF 1 (bitsOf P) = mfmF 1 (bitsOf (P.take n)) ++ mfmF (lastOf 1 (bitsOf (P.take n))) (bitsOf (P.drop n)) := by rw [← mfm_split, List.take_append_drop]
  have hl : 16 * n = (mfmF 1 (bitsOf (P.take n))).length := by rw [mfmB_len, List.length_take]; omega
  rw [e, List.append_assoc, hl, List.take_left]
theorem vals_first {b : Int} {R : List Int} (hb : 0 ≤ b ∧ b < 256) : (valsB (mfmF 1 (bitsOf [b]) ++ R)).getD 0 0 = b := by
  have hl : (mfmF 1 (bitsOf [b]) ++ R).length = 16 + R.length := by rw [List.length_append, mfmB_len]; rfl
  have h1 := mfm_odds 1 (bitsOf [b]) R
  have h8 : (bitsOf [b]).length = 8 := by rw [bitsOf_len]; rfl
  rw [h8] at h1
  obtain ⟨v, rfl⟩ := nat_of hb.1
  have hbits : bitsOf [(v : Int)] = bits8 v := by unfold bitsOf; simp
  unfold valsB bytesZ
  rw [odds_len, hl]
  have hm : 8 * ((16 + R.length) / 16) / 8 = (R.length / 16) + 1 := by omega
  rw [hm, List.range_succ_eq_map, List.map_cons]
  show byteZ (((odds (mfmF 1 (bitsOf [(v : Int)]) ++ R) (8 * ((16 + R.length) / 16))).drop (8 * 0)).take 8) = (v : Int)
  have ho : (odds (mfmF 1 (bitsOf [(v : Int)]) ++ R) (8 * ((16 + R.length) / 16))).take 8 = odds (mfmF 1 (bitsOf [(v : Int)]) ++ R) 8 := by
    unfold odds
    rw [← List.map_take, List.take_range]
    rw [Nat.min_eq_left (by omega)]
  show byteZ ((odds (mfmF 1 (bitsOf [(v : Int)]) ++ R) (8 * ((16 + R.length) / 16))).take 8) = (v : Int)
  rw [ho, h1, hbits]
  exact byteZ_bits8 (by omega)
theorem beh_first {pre P rest : List Int} {n : Nat} {b : Int} (h0 : P[0]? = some b) (hn : 0 < n) (hb : 0 ≤ b ∧ b < 256) : (valsB (behC (pre ++ (partZ P ++ rest)) pre.length n)).getD 0 0 = b := by
  have hP : 0 < P.length := (List.getElem?_eq_some_iff.mp h0).1
  obtain ⟨R, hR⟩ : ∃ R, behC (pre ++ (partZ P ++ rest)) pre.length n = mfmF 1 (bitsOf [b]) ++ R := by
    have h1 := beh_part (pre := pre) (rest := rest) (P := P) (n := 1) hP
    have e1 : P.take 1 = [b] := by
      cases P with
      | nil => cases h0
      | cons x r => cases h0; rfl
    rw [e1] at h1
    refine ⟨(behC (pre ++ (partZ P ++ rest)) pre.length n).drop 16, ?_⟩
    rw [← h1]
    have e2 : behC (pre ++ (partZ P ++ rest)) pre.length 1 = (behC (pre ++ (partZ P ++ rest)) pre.length n).take 16 := by
      unfold behC cutA
      rw [List.take_take, Nat.min_eq_left (by omega)]
    rw [e2, List.take_append_drop]
  rw [hR]
  exact vals_first hb
theorem pairZ_inj {a b : Int} (h : pairZ a = pairZ b) : a = b := by
  unfold pairZ at h
  injection h with h1 h2
  injection h2 with h2 _
  omega
theorem fits_eq (ns : List Int) (w : Bool) : fitsZ (ns ++ pairZ (chkZ ns w)) = !w := by
  unfold fitsZ
  have hl : (ns ++ pairZ (chkZ ns w)).length - 2 = ns.length := by rw [List.length_append]; show ns.length + 2 - 2 = _; omega
  rw [hl, List.take_left, List.drop_left]
  cases w with
  | false => exact decide_eq_true rfl
  | true =>
    refine decide_eq_false fun h => ?_
    have := pairZ_inj h
    unfold chkZ at this
    rw [if_pos rfl] at this
    omega
/-- list of marks, each with the next one -/
def fnd1 (cs : List Int) (p : Nat) (nx : Option Nat) : Option Fnd :=
  let vs := valsB (behC cs p 7)
  if vs.length < 7 ∨ vs.getD 0 0 ≠ 254 then none else
    some (p, (vs.drop 1).take 4, fitsZ vs, match nx with | some q => behZ cs (vs.getD 4 0) (p + 160) q | none => (none, false))
def fndL (cs : List Int) : List Nat → List Fnd
  | [] => []
  | p :: r => (match fnd1 cs p r.head? with | none => [] | some f => [f]) ++ fndL cs r
theorem fnd1_at (cs : List Int) (ps : List Nat) (i : Nat) (h : i < ps.length) : fndAt cs ps i = fnd1 cs (ps.getD i 0) (ps[i + 1]?) := by
  have hd : ∀ z, dataBeh cs ps i z = (match ps[i + 1]? with | some q => behZ cs z (ps.getD i 0 + 160) q | none => (none, false)) := fun z => by
    unfold dataBeh
    by_cases c : i + 1 < ps.length
    · rw [if_pos c, List.getElem?_eq_getElem c, List.getD_eq_getElem?_getD (i := i + 1), List.getElem?_eq_getElem c]
      rfl
    · rw [if_neg c, List.getElem?_eq_none (by omega)]
  unfold fndAt fnd1
  simp only [hd]
theorem fm_congr {β : Type} {f g : Nat → Option β} : ∀ l : List Nat, (∀ a ∈ l, f a = g a) → l.filterMap f = l.filterMap g
  | [], _ => rfl
  | a :: r, h => by rw [List.filterMap_cons, List.filterMap_cons, h a List.mem_cons_self, fm_congr r fun b hb => h b (List.mem_cons_of_mem _ hb)]
theorem fndL_eq (cs : List Int) : ∀ ps : List Nat, fndTo cs ps ps.length = fndL cs ps
  | [] => rfl
  | p :: r => by
    have ih := fndL_eq cs r
    unfold fndTo at ih ⊢
    rw [List.length_cons, List.range_succ_eq_map, List.filterMap_cons, List.filterMap_map]
    have e0 : fndAt cs (p :: r) 0 = fnd1 cs p r.head? := by
      rw [fnd1_at cs (p :: r) 0 (by simp)]
      cases r <;> rfl
    have es : (List.range r.length).filterMap (fndAt cs (p :: r) ∘ Nat.succ) = (List.range r.length).filterMap (fndAt cs r) := by
      refine fm_congr _ fun i hi => ?_
      have hi := List.mem_range.mp hi
      show fndAt cs (p :: r) (i + 1) = fndAt cs r i
      rw [fnd1_at cs (p :: r) (i + 1) (by rw [List.length_cons]; omega), fnd1_at cs r i hi]
      rfl
    rw [e0, es, ih]
    rw [fndL]
    cases fnd1 cs p r.head? <;> rfl
/-- bytes up to the next mark -/
def tb (r : List Sec) (g : Nat) : List Int := match r with | [] => List.replicate g 78 | _ :: _ => List.replicate 6 0
def adP (s : Sec) : List Int := 254 :: s.1 ++ pairZ (chkZ (254 :: s.1) s.2.2.1)
def daP (d : List Int) (w : Bool) : List Int := 251 :: d ++ pairZ (chkZ (251 :: d) w)
def pays : List Sec → Nat → List (List Int)
  | [], _ => []
  | s :: r, g => match s.2.1 with
    | none => (adP s ++ (List.replicate 8 78 ++ (List.replicate 8 78 ++ tb r g))) :: pays r g
    | some d => (adP s ++ (List.replicate 8 78 ++ List.replicate 6 0)) :: (daP d s.2.2.2 ++ (List.replicate 8 78 ++ tb r g)) :: pays r g
def dueM (n : Nat) : List Sec → List Fnd
  | [] => []
  | s :: r => (n, s.1, !s.2.2.1, s.2.1, s.2.1.isSome && !s.2.2.2) :: dueM (n + 160 + 128 + 128 + (match s.2.1 with | none => 0 | some d => 96 + 16 * (6 + d.length)) + 96) r
theorem pays_pos : ∀ (ss : List Sec) (g : Nat), ∀ P ∈ pays ss g, 0 < P.length
  | [], _, P, h => by cases h
  | (ad, da, aw, dw) :: r, g, P, h => by
    cases da with
    | none =>
      rcases List.mem_cons.mp h with h | h
      · subst h; simp [adP]
      · exact pays_pos r g P h
    | some d =>
      rcases List.mem_cons.mp h with h | h
      · subst h; simp [adP]
      · rcases List.mem_cons.mp h with h | h
        · subst h; simp [daP]
        · exact pays_pos r g P h
theorem lastOf_gap (b : Int) (X : List Int) : lastOf b (bitsOf (X ++ List.replicate 8 78)) = 0 := by
  rw [bitsOf_append]
  unfold lastOf
  rw [getLastD_append (by decide)]
  rfl
theorem mfmB_last (b x : Int) (Q : List Int) (h : Q ≠ []) : (mfmF b (bitsOf Q)).getLastD x = lastOf b (bitsOf Q) := by
  have hne : bitsOf Q ≠ [] := fun e => h (by have := congrArg List.length e; rw [bitsOf_len] at this; exact List.eq_nil_of_length_eq_zero (by have h0 : ([] : List Int).length = 0 := rfl; omega))
  rw [mfmF_last _ _ _ hne]
  unfold lastOf
  rw [List.getLastD_eq_getLast?, List.getLastD_eq_getLast?, List.getLast?_eq_some_getLast hne]
  rfl
theorem field_gap {Z ns : List Int} {w : Bool} (T : List Int) : fieldZ ns w ++ gapZ 8 ((Z ++ fieldZ ns w).getLastD 0) ++ mfmF 0 (bitsOf T) = mfmF 0 (bitsOf (List.replicate 6 0)) ++ partZ (ns ++ pairZ (chkZ ns w) ++ (List.replicate 8 78 ++ T)) := by
  have hne : ns ++ pairZ (chkZ ns w) ≠ [] := by unfold pairZ; simp
  have hl : (Z ++ fieldZ ns w).getLastD 0 = lastOf 1 (bitsOf (ns ++ pairZ (chkZ ns w))) := by
    rw [getLastD_append (by unfold fieldZ; simp [marksZ, markZ])]
    unfold fieldZ
    rw [getLastD_append (by
      intro e
      have := congrArg List.length e
      rw [mfmB_len, List.length_append] at this
      simp [pairZ] at this), mfmB_last _ _ _ hne]
  rw [hl]
  unfold partZ
  rw [mfm_split 1 (ns ++ pairZ (chkZ ns w)), mfm_split _ (List.replicate 8 78) T]
  have hz : lastOf (lastOf 1 (bitsOf (ns ++ pairZ (chkZ ns w)))) (bitsOf (List.replicate 8 78)) = 0 := lastOf_gap _ []
  rw [hz]
  unfold fieldZ gapZ
  simp only [List.append_assoc]
theorem stream_from (g : Nat) : ∀ (ss : List Sec) (Z : List Int), Z.getLastD 0 = 0 → ss.foldl secStep Z ++ gapZ g 0 = Z ++ (mfmF 0 (bitsOf (tb ss g)) ++ partsZ (pays ss g))
  | [], Z, _ => by
    show Z ++ gapZ g 0 = Z ++ (mfmF 0 (bitsOf (List.replicate g 78)) ++ [])
    rw [List.append_nil]
    rfl
  | (ad, da, aw, dw) :: r, Z, hZ => by
    have hs := secStep_last Z (ad, da, aw, dw) 0
    show r.foldl secStep (secStep Z (ad, da, aw, dw)) ++ gapZ g 0 = _
    rw [stream_from g r _ hs]
    show _ = Z ++ (mfmF 0 (bitsOf (List.replicate 6 0)) ++ partsZ (pays ((ad, da, aw, dw) :: r) g))
    cases da with
    | none =>
      have e1 : secStep Z (ad, none, aw, dw) = Z ++ (fieldZ (254 :: ad) aw ++ gapZ 8 ((Z ++ fieldZ (254 :: ad) aw).getLastD 0) ++ mfmF 0 (bitsOf (List.replicate 8 78))) := by
        have hlz : ∀ x, (Z ++ fieldZ (254 :: ad) aw ++ gapZ 8 x).getLastD 0 = 0 := fun x => by
          rw [getLastD_append (by intro e; have := congrArg List.length e; rw [gapZ_len] at this; cases this), gapZ_last (by decide)]
        rw [secStep_eq]
        simp only [show ∀ X, datC X none dw = X from fun _ => rfl, hlz]
        simp only [List.append_assoc]
        rfl
      rw [e1, field_gap]
      have e2 : partsZ (pays ((ad, none, aw, dw) :: r) g) = partZ (adP (ad, none, aw, dw) ++ (List.replicate 8 78 ++ (List.replicate 8 78 ++ tb r g))) ++ partsZ (pays r g) := rfl
      rw [e2]
      have e3 : partZ (254 :: ad ++ pairZ (chkZ (254 :: ad) aw) ++ (List.replicate 8 78 ++ List.replicate 8 78)) ++ mfmF 0 (bitsOf (tb r g)) = partZ (adP (ad, none, aw, dw) ++ (List.replicate 8 78 ++ (List.replicate 8 78 ++ tb r g))) := by
        unfold partZ
        have e4 : adP (ad, none, aw, dw) ++ (List.replicate 8 78 ++ (List.replicate 8 78 ++ tb r g)) = (254 :: ad ++ pairZ (chkZ (254 :: ad) aw) ++ (List.replicate 8 78 ++ List.replicate 8 78)) ++ tb r g := by
          unfold adP
          simp only [List.append_assoc]
        rw [e4, mfm_split 1 _ (tb r g), ← List.append_assoc (254 :: ad ++ pairZ (chkZ (254 :: ad) aw)), lastOf_gap, List.append_assoc]
      rw [← e3]
      simp only [List.append_assoc]
    | some d =>
      have e1 : secStep Z (ad, some d, aw, dw) = Z ++ (fieldZ (254 :: ad) aw ++ gapZ 8 ((Z ++ fieldZ (254 :: ad) aw).getLastD 0)) ++ (fieldZ (251 :: d) dw ++ gapZ 8 ((Z ++ (fieldZ (254 :: ad) aw ++ gapZ 8 ((Z ++ fieldZ (254 :: ad) aw).getLastD 0)) ++ fieldZ (251 :: d) dw).getLastD 0)) := by
        rw [secStep_eq]
        unfold datC
        simp only [List.append_assoc]
      rw [e1]
      have f2 := field_gap (Z := Z ++ (fieldZ (254 :: ad) aw ++ gapZ 8 ((Z ++ fieldZ (254 :: ad) aw).getLastD 0))) (ns := 251 :: d) (w := dw) (tb r g)
      have f1 := field_gap (Z := Z) (ns := 254 :: ad) (w := aw) (List.replicate 6 0)
      generalize gapZ 8 ((Z ++ (fieldZ (254 :: ad) aw ++ gapZ 8 ((Z ++ fieldZ (254 :: ad) aw).getLastD 0)) ++ fieldZ (251 :: d) dw).getLastD 0) = G2 at f2 ⊢
      generalize gapZ 8 ((Z ++ fieldZ (254 :: ad) aw).getLastD 0) = G1 at f1 ⊢
      have e2 : partsZ (pays ((ad, some d, aw, dw) :: r) g) = partZ (adP (ad, some d, aw, dw) ++ (List.replicate 8 78 ++ List.replicate 6 0)) ++ (partZ (daP d dw ++ (List.replicate 8 78 ++ tb r g)) ++ partsZ (pays r g)) := rfl
      have e3 : adP (ad, some d, aw, dw) = 254 :: ad ++ pairZ (chkZ (254 :: ad) aw) := rfl
      have e4 : daP d dw = 251 :: d ++ pairZ (chkZ (251 :: d) dw) := rfl
      rw [e2, e3, e4]
      calc Z ++ (fieldZ (254 :: ad) aw ++ G1) ++ (fieldZ (251 :: d) dw ++ G2) ++ (mfmF 0 (bitsOf (tb r g)) ++ partsZ (pays r g))
          = Z ++ (fieldZ (254 :: ad) aw ++ G1 ++ ((fieldZ (251 :: d) dw ++ G2 ++ mfmF 0 (bitsOf (tb r g))) ++ partsZ (pays r g))) := by simp only [List.append_assoc]
        _ = Z ++ ((fieldZ (254 :: ad) aw ++ G1 ++ mfmF 0 (bitsOf (List.replicate 6 0))) ++ (partZ (251 :: d ++ pairZ (chkZ (251 :: d) dw) ++ (List.replicate 8 78 ++ tb r g)) ++ partsZ (pays r g))) := by rw [f2]; simp only [List.append_assoc]
        _ = _ := by rw [f1]; simp only [List.append_assoc]
theorem stream_track (ss : List Sec) (g : Nat) : trackZ ss ++ gapZ g 0 = mfmF 0 (bitsOf (List.replicate 10 78 ++ tb ss g)) ++ partsZ (pays ss g) := by
  unfold trackZ
  rw [stream_from g ss (gapZ 10 0) (gapZ_last (by decide)), mfm_split]
  have : lastOf 0 (bitsOf (List.replicate 10 78)) = 0 := by decide
  rw [this, List.append_assoc]
  rfl
theorem adP_len {s : Sec} (h : s.1.length = 4) : (adP s).length = 7 := by
  unfold adP pairZ
  simp [h]
theorem pairZ_by (ns : List Int) (w : Bool) : Bytes (pairZ (chkZ ns w)) := pairZ_bytes (chkZ_nn ns w)
theorem bytes_cons {x : Int} {ns : List Int} (h : 0 ≤ x ∧ x < 256) (hn : Bytes ns) : Bytes (x :: ns) := fun y hy => by
  rcases List.mem_cons.mp hy with e | e
  · subst e; exact h
  · exact hn y e
theorem adP_bytes {s : Sec} (h : Bytes s.1) : Bytes (adP s) := Bytes.app (bytes_cons (by omega) h) (pairZ_by _ _)
theorem daP_bytes {d : List Int} {w : Bool} (h : Bytes d) : Bytes (daP d w) := Bytes.app (bytes_cons (by omega) h) (pairZ_by _ _)
theorem pays_head (s : Sec) (r : List Sec) (g : Nat) : ∃ P rest, pays (s :: r) g = P :: rest ∧ P[0]? = some 254 := by
  obtain ⟨ad, da, aw, dw⟩ := s
  cases da with
  | none => exact ⟨_, _, rfl, rfl⟩
  | some d => exact ⟨_, _, rfl, rfl⟩
theorem due_stream (g : Nat) : ∀ (ss : List Sec) (pre : List Int), (∀ s ∈ ss, OkSec s) → fndL (pre ++ partsZ (pays ss g)) (plc pre.length (pays ss g)) = dueM pre.length ss
  | [], pre, _ => rfl
  | (ad, da, aw, dw) :: r, pre, hok => by
    have hok0 := hok _ List.mem_cons_self
    have h4 := okSec_len hok0
    obtain ⟨a, b, c, z, had, hbad, hz5, hda⟩ := hok0
    have h4 : ad.length = 4 := h4
    have hbad : Bytes ad := hbad
    have hokr : ∀ s ∈ r, OkSec s := fun s hs => hok s (List.mem_cons_of_mem _ hs)
    have had : ad = [a, b, c, z] := had
    have hzb := hbad z (by rw [had]; simp)
    have hal : (adP (ad, da, aw, dw)).length = 7 := adP_len h4
    have hab : Bytes (adP (ad, da, aw, dw)) := adP_bytes hbad
    have hfit : fitsZ (adP (ad, da, aw, dw)) = !aw := fits_eq (254 :: ad) aw
    have h14 : ((adP (ad, da, aw, dw)).drop 1).take 4 = ad := by
      unfold adP
      show (ad ++ pairZ _).take 4 = ad
      rw [← h4, List.take_left]
    have hg4 : (adP (ad, da, aw, dw)).getD 4 0 = z := by
      unfold adP
      rw [had]
      rfl
    have hg0 : (adP (ad, da, aw, dw)).getD 0 0 = 254 := rfl
    have hread : ∀ (X rest : List Int), valsB (behC (pre ++ (partZ (adP (ad, da, aw, dw) ++ X) ++ rest)) pre.length 7) = adP (ad, da, aw, dw) := fun X rest => by
      rw [beh_part (by rw [List.length_append]; omega), ← hal, List.take_left]
      exact (vals_mfm hab).1
    cases da with
    | none =>
      have ep : pays ((ad, none, aw, dw) :: r) g = (adP (ad, none, aw, dw) ++ (List.replicate 8 78 ++ (List.replicate 8 78 ++ tb r g))) :: pays r g := rfl
      have es : partsZ (pays ((ad, none, aw, dw) :: r) g) = partZ (adP (ad, none, aw, dw) ++ (List.replicate 8 78 ++ (List.replicate 8 78 ++ tb r g))) ++ partsZ (pays r g) := rfl
      have hrd := hread (List.replicate 8 78 ++ (List.replicate 8 78 ++ tb r g)) (partsZ (pays r g))
      rw [es, ep]
      show (match fnd1 _ pre.length (plc (pre.length + 48 + 16 * _) (pays r g)).head? with | none => [] | some f => [f]) ++ fndL _ (plc (pre.length + 48 + 16 * _) (pays r g)) = _
      have hPl : (pre ++ partZ (adP (ad, none, aw, dw) ++ (List.replicate 8 78 ++ (List.replicate 8 78 ++ tb r g)))).length = pre.length + 48 + 16 * (adP (ad, none, aw, dw) ++ (List.replicate 8 78 ++ (List.replicate 8 78 ++ tb r g))).length := by
        rw [List.length_append, partZ_len]
        omega
      have ih := due_stream g r (pre ++ partZ (adP (ad, none, aw, dw) ++ (List.replicate 8 78 ++ (List.replicate 8 78 ++ tb r g)))) hokr
      rw [hPl, List.append_assoc] at ih
      rw [ih]
      have hnx : (match (plc (pre.length + 48 + 16 * (adP (ad, none, aw, dw) ++ (List.replicate 8 78 ++ (List.replicate 8 78 ++ tb r g))).length) (pays r g)).head? with | some q => behZ (pre ++ (partZ (adP (ad, none, aw, dw) ++ (List.replicate 8 78 ++ (List.replicate 8 78 ++ tb r g))) ++ partsZ (pays r g))) z (pre.length + 160) q | none => (none, false)) = ((none, false) : Dta) := by
        cases r with
        | nil => rfl
        | cons s2 r2 =>
          obtain ⟨P, rest, e1, e2⟩ := pays_head s2 r2 g
          rw [e1]
          show behZ _ z (pre.length + 160) (pre.length + 48 + 16 * _) = _
          unfold behZ
          split
          · rfl
          · unfold dtaOf
            have e3 : partsZ (P :: rest) = partZ P ++ partsZ rest := rfl
            have hf := beh_first (pre := pre ++ partZ (adP (ad, none, aw, dw) ++ (List.replicate 8 78 ++ (List.replicate 8 78 ++ tb (s2 :: r2) g)))) (P := P) (rest := partsZ rest) (n := 16 * 2 ^ z.toNat + 3) e2 (by omega) (by omega)
            rw [hPl, List.append_assoc, ← e3] at hf
            rw [if_pos (.inr (by rw [hf]; decide))]
      have e1 : fnd1 (pre ++ (partZ (adP (ad, none, aw, dw) ++ (List.replicate 8 78 ++ (List.replicate 8 78 ++ tb r g))) ++ partsZ (pays r g))) pre.length (plc (pre.length + 48 + 16 * (adP (ad, none, aw, dw) ++ (List.replicate 8 78 ++ (List.replicate 8 78 ++ tb r g))).length) (pays r g)).head? = some (pre.length, ad, !aw, none, false) := by
        unfold fnd1
        simp only [hrd]
        rw [if_neg (by rw [hal, hg0]; decide), h14, hfit, hg4, hnx]
      rw [e1]
      show (pre.length, ad, !aw, none, false) :: dueM _ r = (pre.length, ad, !aw, none, false) :: dueM (pre.length + 160 + 128 + 128 + 0 + 96) r
      cases r with
      | nil => rfl
      | cons s2 r2 =>
        have : pre.length + 48 + 16 * (adP (ad, none, aw, dw) ++ (List.replicate 8 78 ++ (List.replicate 8 78 ++ tb (s2 :: r2) g))).length = pre.length + 160 + 128 + 128 + 0 + 96 := by
          rw [List.length_append, hal]
          simp [tb] <;> omega
        rw [this]
    | some d =>
      obtain ⟨hdl, hdb⟩ := hda d rfl
      have hdl : d.length = 16 * 2 ^ z.toNat := hdl
      have ep : pays ((ad, some d, aw, dw) :: r) g = (adP (ad, some d, aw, dw) ++ (List.replicate 8 78 ++ List.replicate 6 0)) :: (daP d dw ++ (List.replicate 8 78 ++ tb r g)) :: pays r g := rfl
      have es : partsZ (pays ((ad, some d, aw, dw) :: r) g) = partZ (adP (ad, some d, aw, dw) ++ (List.replicate 8 78 ++ List.replicate 6 0)) ++ (partZ (daP d dw ++ (List.replicate 8 78 ++ tb r g)) ++ partsZ (pays r g)) := rfl
      have hrd := hread (List.replicate 8 78 ++ List.replicate 6 0) (partZ (daP d dw ++ (List.replicate 8 78 ++ tb r g)) ++ partsZ (pays r g))
      have hAl : (adP (ad, some d, aw, dw) ++ (List.replicate 8 78 ++ List.replicate 6 0)).length = 21 := by
        rw [List.length_append, hal]
        rfl
      have hq : (pre ++ partZ (adP (ad, some d, aw, dw) ++ (List.replicate 8 78 ++ List.replicate 6 0))).length = pre.length + 48 + 16 * 21 := by
        rw [List.length_append, partZ_len, hAl]
        try omega
      have hdl2 : (daP d dw).length = d.length + 3 := by unfold daP pairZ; simp
      have hdpb : Bytes (daP d dw) := daP_bytes hdb
      have hbd : ∀ n, n ≤ (daP d dw ++ (List.replicate 8 78 ++ tb r g)).length → behC (pre ++ (partZ (adP (ad, some d, aw, dw) ++ (List.replicate 8 78 ++ List.replicate 6 0)) ++ (partZ (daP d dw ++ (List.replicate 8 78 ++ tb r g)) ++ partsZ (pays r g)))) (pre.length + 48 + 16 * 21) n = mfmF 1 (bitsOf ((daP d dw ++ (List.replicate 8 78 ++ tb r g)).take n)) := fun n hn => by
        have := beh_part (pre := pre ++ partZ (adP (ad, some d, aw, dw) ++ (List.replicate 8 78 ++ List.replicate 6 0))) (P := daP d dw ++ (List.replicate 8 78 ++ tb r g)) (rest := partsZ (pays r g)) hn
        rw [hq, List.append_assoc] at this
        exact this
      rw [es, ep]
      show (match fnd1 _ pre.length (some (pre.length + 48 + 16 * (adP (ad, some d, aw, dw) ++ (List.replicate 8 78 ++ List.replicate 6 0)).length)) with | none => [] | some f => [f]) ++ ((match fnd1 _ (pre.length + 48 + 16 * (adP (ad, some d, aw, dw) ++ (List.replicate 8 78 ++ List.replicate 6 0)).length) (plc (pre.length + 48 + 16 * (adP (ad, some d, aw, dw) ++ (List.replicate 8 78 ++ List.replicate 6 0)).length + 48 + 16 * (daP d dw ++ (List.replicate 8 78 ++ tb r g)).length) (pays r g)).head? with | none => [] | some f => [f]) ++ fndL _ (plc (pre.length + 48 + 16 * (adP (ad, some d, aw, dw) ++ (List.replicate 8 78 ++ List.replicate 6 0)).length + 48 + 16 * (daP d dw ++ (List.replicate 8 78 ++ tb r g)).length) (pays r g))) = _
      rw [hAl]
      have hPl : (pre ++ (partZ (adP (ad, some d, aw, dw) ++ (List.replicate 8 78 ++ List.replicate 6 0)) ++ partZ (daP d dw ++ (List.replicate 8 78 ++ tb r g)))).length = pre.length + 48 + 16 * 21 + 48 + 16 * (daP d dw ++ (List.replicate 8 78 ++ tb r g)).length := by
        rw [List.length_append, List.length_append, partZ_len, partZ_len, hAl]
        omega
      have ih := due_stream g r (pre ++ (partZ (adP (ad, some d, aw, dw) ++ (List.replicate 8 78 ++ List.replicate 6 0)) ++ partZ (daP d dw ++ (List.replicate 8 78 ++ tb r g)))) hokr
      rw [hPl, List.append_assoc, List.append_assoc] at ih
      rw [ih]
      have h7 : 7 ≤ (daP d dw ++ (List.replicate 8 78 ++ tb r g)).length := by
        rw [List.length_append, List.length_append, List.length_replicate]
        omega
      have e2 : ∀ nx, fnd1 (pre ++ (partZ (adP (ad, some d, aw, dw) ++ (List.replicate 8 78 ++ List.replicate 6 0)) ++ (partZ (daP d dw ++ (List.replicate 8 78 ++ tb r g)) ++ partsZ (pays r g)))) (pre.length + 48 + 16 * 21) nx = none := fun nx => by
        unfold fnd1
        have hv : (valsB (behC (pre ++ (partZ (adP (ad, some d, aw, dw) ++ (List.replicate 8 78 ++ List.replicate 6 0)) ++ (partZ (daP d dw ++ (List.replicate 8 78 ++ tb r g)) ++ partsZ (pays r g)))) (pre.length + 48 + 16 * 21) 7)).getD 0 0 = 251 := by
          have := beh_first (pre := pre ++ partZ (adP (ad, some d, aw, dw) ++ (List.replicate 8 78 ++ List.replicate 6 0))) (P := daP d dw ++ (List.replicate 8 78 ++ tb r g)) (rest := partsZ (pays r g)) (n := 7) (b := 251) rfl (by decide) (by decide)
          rw [hq, List.append_assoc] at this
          exact this
        rw [if_pos (.inr (by rw [hv]; decide))]
      have hbz : behZ (pre ++ (partZ (adP (ad, some d, aw, dw) ++ (List.replicate 8 78 ++ List.replicate 6 0)) ++ (partZ (daP d dw ++ (List.replicate 8 78 ++ tb r g)) ++ partsZ (pays r g)))) z (pre.length + 160) (pre.length + 48 + 16 * 21) = (some d, !dw) := by
        unfold behZ
        rw [if_neg (by omega), ← hdl, hbd _ (by rw [List.length_append]; omega)]
        have ht : (daP d dw ++ (List.replicate 8 78 ++ tb r g)).take (d.length + 3) = daP d dw := by rw [← hdl2, List.take_left]
        have hv := vals_mfm hdpb
        unfold dtaOf
        rw [ht, hv.1, hv.2, ← hdl, if_neg (by rw [hdl2]; intro h; rcases h with h | h; · omega
                                              · exact h rfl)]
        have hd1 : ((daP d dw).drop 1).take d.length = d := by
          unfold daP
          show (d ++ pairZ _).take d.length = d
          rw [List.take_left]
        rw [hd1]
        have : fitsZ (daP d dw) = !dw := fits_eq (251 :: d) dw
        rw [this]
        rfl
      have e1 : fnd1 (pre ++ (partZ (adP (ad, some d, aw, dw) ++ (List.replicate 8 78 ++ List.replicate 6 0)) ++ (partZ (daP d dw ++ (List.replicate 8 78 ++ tb r g)) ++ partsZ (pays r g)))) pre.length (some (pre.length + 48 + 16 * 21)) = some (pre.length, ad, !aw, some d, !dw) := by
        unfold fnd1
        simp only [hrd]
        rw [if_neg (by rw [hal, hg0]; decide), h14, hfit, hg4, hbz]
      rw [e1, e2]
      show (pre.length, ad, !aw, some d, !dw) :: dueM _ r = (pre.length, ad, !aw, some d, true && !dw) :: dueM (pre.length + 160 + 128 + 128 + (96 + 16 * (6 + d.length)) + 96) r
      rw [Bool.true_and]
      cases r with
      | nil => rfl
      | cons s2 r2 =>
        have : pre.length + 48 + 16 * 21 + 48 + 16 * (daP d dw ++ (List.replicate 8 78 ++ tb (s2 :: r2) g)).length = pre.length + 160 + 128 + 128 + (96 + 16 * (6 + d.length)) + 96 := by
          rw [List.length_append, hdl2]
          simp [tb] <;> omega
        rw [this]
theorem found_track {ss : List Sec} (g : Nat) (hok : ∀ s ∈ ss, OkSec s) : foundZ (trackZ ss ++ gapZ g 0) = dueM 256 ss := by
  unfold foundZ
  rw [stream_track, mk_stream (pays_pos ss g), fndL_eq]
  cases ss with
  | nil => rfl
  | cons s r =>
    have h := due_stream g (s :: r) (mfmF 0 (bitsOf (List.replicate 10 78 ++ tb (s :: r) g))) hok
    have hl : (mfmF 0 (bitsOf (List.replicate 10 78 ++ tb (s :: r) g))).length = 256 := by rw [mfmB_len]; rfl
    have hl2 : 16 * (List.replicate 10 78 ++ tb (s :: r) g).length = 256 := rfl
    rw [hl] at h
    rw [hl2]
    exact h
def nx1 (n : Nat) (s : Sec) : Nat := n + 160 + 128 + 128 + (match s.2.1 with | none => 0 | some d => 96 + 16 * (6 + d.length)) + 96
def nxM (n : Nat) (ss : List Sec) : Nat := ss.foldl nx1 n
def due1 (n : Nat) (s : Sec) : Fnd := (n, s.1, !s.2.2.1, s.2.1, s.2.1.isSome && !s.2.2.2)
theorem dueM_app : ∀ (ss : List Sec) (n : Nat) (t : List Sec), dueM n (ss ++ t) = dueM n ss ++ dueM (nxM n ss) t
  | [], _, _ => rfl
  | s :: r, n, t => by
    have ih := dueM_app r (nx1 n s) t
    show due1 n s :: dueM (nx1 n s) (r ++ t) = due1 n s :: (dueM (nx1 n s) r ++ dueM (nxM (nx1 n s) r) t)
    rw [ih]
theorem dueM_more {ss : List Sec} {n i : Nat} {s : Sec} (h : ss[i]? = some s) : dueM n (ss.take (i + 1)) = dueM n (ss.take i) ++ [due1 (nxM n (ss.take i)) s] := by
  rw [take_more h, dueM_app]
  rfl
theorem nxM_more {ss : List Sec} {n i : Nat} {s : Sec} (h : ss[i]? = some s) : nxM n (ss.take (i + 1)) = nx1 (nxM n (ss.take i)) s := by
  unfold nxM
  rw [take_more h, List.foldl_append]
  rfl
theorem dueM_len : ∀ (ss : List Sec) (n : Nat), (dueM n ss).length = ss.length
  | [], _ => rfl
  | s :: r, n => by
    show (dueM _ r).length + 1 = _
    rw [dueM_len r, List.length_cons]
theorem mfmF_bits : ∀ (b : Int) (bs : List Int), (b = 0 ∨ b = 1) → Bits bs → Bits (mfmF b bs)
  | _, [], _, _ => fun x hx => by cases hx
  | b, c :: r, hb, hc => fun x hx => by
    have hc0 := hc c List.mem_cons_self
    rcases List.mem_cons.mp hx with e | e
    · subst e
      unfold clk
      split
      · exact .inr rfl
      · exact .inl rfl
    · rcases List.mem_cons.mp e with e | e
      · subst e; exact hc0
      · exact mfmF_bits c r hc0 (fun y hy => hc y (List.mem_cons_of_mem _ hy)) x e
theorem Bits.app {a b : List Int} (h1 : Bits a) (h2 : Bits b) : Bits (a ++ b) := fun x hx => (List.mem_append.mp hx).elim (h1 x) (h2 x)
theorem marks_bits : Bits marksZ := by
  intro x hx
  have : marksZ.all (fun x => x == 0 || x == 1) = true := by decide
  have := List.all_eq_true.mp this x hx
  simpa using this
theorem parts_bits : ∀ Ps : List (List Int), Bits (partsZ Ps)
  | [] => fun x hx => by cases hx
  | P :: r => by
    show Bits (partZ P ++ partsZ r)
    exact Bits.app (Bits.app marks_bits (mfmF_bits 1 _ (.inr rfl) (bitsOf_bits P))) (parts_bits r)
theorem track_bits (ss : List Sec) (g : Nat) : Bits (trackZ ss ++ gapZ g 0) := by
  rw [stream_track]
  exact Bits.app (mfmF_bits 0 _ (.inl rfl) (bitsOf_bits _)) (parts_bits _)
end Dw

/-! a track that is cut off -/
namespace Dw
open PySem PySem.Spec PyProof.Rows L2
theorem cutA_take {cs : List Int} {m a n : Nat} : cutA (cs.take m) a n = (cs.drop a).take (min n (m - a)) := by
  unfold cutA
  rw [List.drop_take, List.take_take]
theorem cutA_take_in {cs : List Int} {m a n : Nat} (h : a + n ≤ m) : cutA (cs.take m) a n = cutA cs a n := by
  rw [cutA_take, Nat.min_eq_left (by omega)]
  rfl
theorem mk_cut {P0 : List Int} {Ps : List (List Int)} (hP : ∀ P ∈ Ps, 0 < P.length) {m : Nat} (hm : ∀ p ∈ plc (16 * P0.length) Ps, p + 48 ≤ m) : mkZ ((mfmF 0 (bitsOf P0) ++ partsZ Ps).take m) = plc (16 * P0.length) Ps := by
  have hl : (mfmF 0 (bitsOf P0)).length = 16 * P0.length := by rw [mfmF_len, bitsOf_len]; omega
  have hin : ∀ p ∈ plc (16 * P0.length) Ps, p + 48 ≤ ((mfmF 0 (bitsOf P0) ++ partsZ Ps).take m).length := fun p hp => by
    have h1 := (plc_in Ps _ hP p hp).2
    have h2 := hm p hp
    rw [List.length_take, List.length_append, hl]
    omega
  refine mkFrom_eq (plc_gap Ps _ hP) (fun p hp => ⟨hin p hp, ?_⟩) (fun a h => ?_) _ 0 [] _ (Nat.le_refl _) rfl (fun q h => by cases h) (fun r _ => Nat.zero_le _)
  · rw [cutA_take_in (hm p hp)]
    rw [← hl] at hp
    exact plc_mark Ps _ p hp
  · refine mark_at hP ?_
    have h48 := congrArg List.length h
    rw [cutA_take, List.length_take, marksZ_len] at h48
    rw [← cutA_take_in (m := m) (by omega)]
    exact h
theorem found_cut {s : Sec} {d : List Int} (hok : OkSec s) (hd : s.2.1 = some d) {c : Nat} (hc : c ≤ 39) :
    foundZ ((trackZ [s]).take ((trackZ [s]).length - 128 - c)) = [(256, s.1, !s.2.2.1, if c = 0 then (some d, !s.2.2.2) else (none, false))] := by
  obtain ⟨ad, da, aw, dw⟩ := s
  have hd : da = some d := hd
  subst hd
  have h4 : ad.length = 4 := okSec_len hok
  obtain ⟨a, b, c3, z, had, hbad, hz5, hda⟩ := hok
  have hbad : Bytes ad := hbad
  have had : ad = [a, b, c3, z] := had
  obtain ⟨hdl, hdb⟩ := hda d rfl
  have hdl : d.length = 16 * 2 ^ z.toNat := hdl
  have hzb := hbad z (by rw [had]; simp)
  have h2z : 1 ≤ 2 ^ z.toNat := Nat.one_le_two_pow
  have e0 : trackZ [(ad, some d, aw, dw)] = mfmF 0 (bitsOf (List.replicate 10 78 ++ List.replicate 6 0)) ++ partsZ (pays [(ad, some d, aw, dw)] 0) := by
    have := stream_track [(ad, some d, aw, dw)] 0
    rw [show gapZ 0 0 = [] from rfl, List.append_nil] at this
    exact this
  have es : partsZ (pays [(ad, some d, aw, dw)] 0) = partZ (adP (ad, some d, aw, dw) ++ (List.replicate 8 78 ++ List.replicate 6 0)) ++ partZ (daP d dw ++ List.replicate 8 78) := by
    show partZ (adP (ad, some d, aw, dw) ++ (List.replicate 8 78 ++ List.replicate 6 0)) ++ (partZ (daP d dw ++ (List.replicate 8 78 ++ [])) ++ []) = _
    rw [List.append_nil, List.append_nil]
  have hal : (adP (ad, some d, aw, dw)).length = 7 := adP_len h4
  have hab : Bytes (adP (ad, some d, aw, dw)) := adP_bytes hbad
  have hfit : fitsZ (adP (ad, some d, aw, dw)) = !aw := fits_eq (254 :: ad) aw
  have h14 : ((adP (ad, some d, aw, dw)).drop 1).take 4 = ad := by
    unfold adP
    show (ad ++ pairZ _).take 4 = ad
    rw [← h4, List.take_left]
  have hg4 : (adP (ad, some d, aw, dw)).getD 4 0 = z := by
    unfold adP
    rw [had]
    rfl
  have hAl : (adP (ad, some d, aw, dw) ++ (List.replicate 8 78 ++ List.replicate 6 0)).length = 21 := by
    rw [List.length_append, hal]
    rfl
  have hdl2 : (daP d dw).length = d.length + 3 := by unfold daP pairZ; simp
  have hdpb : Bytes (daP d dw) := daP_bytes hdb
  have hpl : plc (16 * (List.replicate 10 (78 : Int) ++ List.replicate 6 0).length) (pays [(ad, some d, aw, dw)] 0) = [256, 640] := by
    show [256, 256 + 48 + 16 * (adP (ad, some d, aw, dw) ++ (List.replicate 8 78 ++ List.replicate 6 0)).length] = _
    rw [hAl]
  have hpre : (mfmF 0 (bitsOf (List.replicate 10 (78 : Int) ++ List.replicate 6 0))).length = 256 := by rw [mfmB_len]; rfl
  have hlen : (trackZ [(ad, some d, aw, dw)]).length = 688 + 16 * (d.length + 11) := by
    rw [e0, es, List.length_append, List.length_append, partZ_len, partZ_len, hAl, hpre, List.length_append, hdl2, List.length_replicate]
    omega
  have hm1 : ∀ p ∈ plc (16 * (List.replicate 10 (78 : Int) ++ List.replicate 6 0).length) (pays [(ad, some d, aw, dw)] 0), p + 48 ≤ (trackZ [(ad, some d, aw, dw)]).length - 128 - c := by
    rw [hpl, hlen]
    intro p hp
    have : p = 256 ∨ p = 640 := by simpa using hp
    omega
  have hmk := mk_cut (pays_pos [(ad, some d, aw, dw)] 0) hm1
  rw [← e0, hpl] at hmk
  unfold foundZ
  rw [hmk, fndL_eq]
  have hread : behC (trackZ [(ad, some d, aw, dw)]) 256 7 = mfmF 1 (bitsOf (adP (ad, some d, aw, dw))) := by
    rw [e0, es, ← hpre, beh_part (by rw [hAl]; decide), ← hal, List.take_left]
  have hq : (mfmF 0 (bitsOf (List.replicate 10 (78 : Int) ++ List.replicate 6 0)) ++ partZ (adP (ad, some d, aw, dw) ++ (List.replicate 8 78 ++ List.replicate 6 0))).length = 640 := by
    rw [List.length_append, partZ_len, hAl, hpre]
  have hbd : ∀ n, n ≤ (daP d dw ++ List.replicate 8 78).length → behC (trackZ [(ad, some d, aw, dw)]) 640 n = mfmF 1 (bitsOf ((daP d dw ++ List.replicate 8 78).take n)) := fun n hn => by
    have := beh_part (pre := mfmF 0 (bitsOf (List.replicate 10 (78 : Int) ++ List.replicate 6 0)) ++ partZ (adP (ad, some d, aw, dw) ++ (List.replicate 8 78 ++ List.replicate 6 0))) (P := daP d dw ++ List.replicate 8 78) (rest := []) hn
    rw [hq, List.append_nil, List.append_assoc] at this
    rw [e0, es]
    exact this
  rw [hlen]
  generalize trackZ [(ad, some d, aw, dw)] = cs at *
  have hr1 : behC (cs.take (688 + 16 * (d.length + 11) - 128 - c)) 256 7 = mfmF 1 (bitsOf (adP (ad, some d, aw, dw))) := by
    rw [← hread]
    exact cutA_take_in (by omega)
  have hr2 : (valsB (behC (cs.take (688 + 16 * (d.length + 11) - 128 - c)) 640 7)).getD 0 0 = 251 := by
    have e : behC (cs.take (688 + 16 * (d.length + 11) - 128 - c)) 640 7 = behC cs 640 7 := cutA_take_in (by omega)
    rw [e, hbd 7 (by rw [List.length_append, List.length_replicate]; omega)]
    have hb7 : Bytes ((daP d dw ++ List.replicate 8 78).take 7) := fun x hx => by
      rcases List.mem_append.mp (List.mem_of_mem_take hx) with h | h
      · exact hdpb x h
      · have := List.eq_of_mem_replicate h
        omega
    rw [(vals_mfm hb7).1]
    rfl
  have hr3 : behZ (cs.take (688 + 16 * (d.length + 11) - 128 - c)) z (256 + 160) 640 = if c = 0 then (some d, !dw) else (none, false) := by
    unfold behZ
    rw [if_neg (by omega), ← hdl]
    have hb3 := hbd (d.length + 3) (by rw [List.length_append]; omega)
    have ht : (daP d dw ++ List.replicate 8 78).take (d.length + 3) = daP d dw := by rw [← hdl2, List.take_left]
    rw [ht] at hb3
    have e : behC (cs.take (688 + 16 * (d.length + 11) - 128 - c)) 640 (d.length + 3) = (mfmF 1 (bitsOf (daP d dw))).take (16 * (d.length + 3) - c) := by
      rw [← hb3]
      unfold behC
      rw [cutA_take]
      unfold cutA
      rw [List.take_take]
      congr 1
      omega
    rw [e]
    by_cases c0 : c = 0
    · subst c0
      rw [if_pos rfl, List.take_of_length_le (by rw [mfmB_len, hdl2]; omega)]
      have hv := vals_mfm hdpb
      have hx : ¬ ((daP d dw).length < d.length + 3 ∨ (daP d dw).getD 0 0 ≠ 251) := fun h => by
        rcases h with h | h
        · omega
        · exact h rfl
      unfold dtaOf
      rw [hv.1, hv.2, ← hdl, if_neg hx]
      have hd1 : ((daP d dw).drop 1).take d.length = d := by
        unfold daP
        show (d ++ pairZ _).take d.length = d
        rw [List.take_left]
      have : fitsZ (daP d dw) = !dw := fits_eq (251 :: d) dw
      rw [hd1, this]
      rfl
    · rw [if_neg c0]
      unfold dtaOf
      rw [valsB_len, List.length_take, mfmB_len, hdl2, ← hdl, if_pos (.inl (by omega))]
  have f1 : fnd1 (cs.take (688 + 16 * (d.length + 11) - 128 - c)) 256 (some 640) = some (256, ad, !aw, if c = 0 then (some d, !dw) else (none, false)) := by
    unfold fnd1
    have hv := vals_mfm hab
    rw [hr1, hv.1]
    show (if (adP (ad, some d, aw, dw)).length < 7 ∨ (adP (ad, some d, aw, dw)).getD 0 0 ≠ 254 then none else some (256, ((adP (ad, some d, aw, dw)).drop 1).take 4, fitsZ (adP (ad, some d, aw, dw)), behZ (cs.take (688 + 16 * (d.length + 11) - 128 - c)) ((adP (ad, some d, aw, dw)).getD 4 0) (256 + 160) 640)) = _
    rw [if_neg (fun h => h.elim (fun h => by omega) (fun h => h rfl)), h14, hfit, hg4, hr3]
  have f2 : fnd1 (cs.take (688 + 16 * (d.length + 11) - 128 - c)) 640 none = none := by
    unfold fnd1
    rw [if_pos (.inr (by rw [hr2]; decide))]
  show (match fnd1 (cs.take (688 + 16 * (d.length + 11) - 128 - c)) 256 (some 640) with | none => [] | some f => [f]) ++ ((match fnd1 (cs.take (688 + 16 * (d.length + 11) - 128 - c)) 640 none with | none => [] | some f => [f]) ++ []) = _
  rw [f1, f2]
  rfl
theorem cutI_upto (ns : List Int) (b : Nat) : cutI ns none (some (b : Int)) = ns.take b := by
  unfold cutI
  rw [sIx_nat]
  show (ns.drop 0).take (min b ns.length - 0) = _
  rw [List.drop_zero, Nat.sub_zero]
  by_cases h : b ≤ ns.length
  · rw [Nat.min_eq_left h]
  · rw [Nat.min_eq_right (by omega), List.take_of_length_le (Nat.le_refl _), List.take_of_length_le (by omega)]
theorem dueM_at : ∀ {ss : List Sec} {i : Nat} {s : Sec} (n : Nat), ss[i]? = some s → (dueM n ss)[i]? = some (due1 (nxM n (ss.take i)) s)
  | [], _, _, _, h => by simp at h
  | t :: r, 0, s, n, h => by
    have h : t = s := Option.some.inj h
    subst h
    rfl
  | t :: r, i + 1, s, n, h => dueM_at (ss := r) (nx1 n t) h
def SmSec (s : Sec) : Prop := OkSec s ∧ ∀ d, s.2.1 = some d → d.length ≤ 32
theorem smSec_n {s : Sec} (h : SmSec s) : secN s ≤ 76 := by
  unfold secN
  cases hd : s.2.1 with
  | none => show 32 + 0 ≤ 76; decide
  | some d =>
    have := h.2 d hd
    show 32 + (12 + d.length) ≤ 76
    omega
theorem trackN_sm {ss : List Sec} (h : ∀ s ∈ ss, SmSec s) : trackN ss ≤ 10 + 76 * ss.length := by
  have : ∀ (l : List Sec) (n : Nat), (∀ s ∈ l, SmSec s) → l.foldl (fun n s => n + secN s) n ≤ n + 76 * l.length := by
    intro l
    induction l with
    | nil => intro n _; exact Nat.le_refl _
    | cons s r ih =>
      intro n hl
      have h1 := ih (n + secN s) fun t ht => hl t (List.mem_cons_of_mem _ ht)
      have h2 := smSec_n (hl s List.mem_cons_self)
      rw [List.length_cons]
      show List.foldl _ (n + secN s) r ≤ _
      omega
  exact this ss 10 h
end Dw

/-! tracks as flux -/
namespace Dw
open PySem PySem.Spec PyProof.Rows L2
theorem mfm_end0 : ∀ (bs : List Int) (l n : Nat), (∀ b ∈ bs, b = 0 ∨ b = 1) → l < 2 → n < 3 → (l = 1 → n = 0) → endR 0 n (mfmF (l : Int) bs) < 3
  | [], l, n, _, _, hn, _ => hn
  | b :: r, l, n, hb, hl, hn, hln => by
    obtain ⟨m, hm, rfl⟩ : ∃ m : Nat, m < 2 ∧ b = (m : Int) := by
      rcases hb b List.mem_cons_self with rfl | rfl
      · exact ⟨0, by decide, rfl⟩
      · exact ⟨1, by decide, rfl⟩
    obtain ⟨h1, h2, h3⟩ := (mfm0 l hl m hm n hn).resolve_left fun h => h.2 (hln h.1)
    have e : mfmF (l : Int) ((m : Int) :: r) = [clk (l : Int) (m : Int), (m : Int)] ++ mfmF (m : Int) r := rfl
    rw [e, endR_append]
    exact mfm_end0 r m _ (fun x hx => hb x (List.mem_cons_of_mem _ hx)) hm h2 fun e => h3.resolve_left fun q => q e
theorem marks_run : ∀ n, n < 3 → okR 0 4 n marksZ = true ∧ endR 0 n marksZ = 0 := by decide +kernel
theorem parts_run : ∀ (Ps : List (List Int)) (n : Nat), n < 3 → okR 0 4 n (partsZ Ps) = true
  | [], n, h => decide_eq_true (by omega)
  | P :: r, n, h => by
    have hm := marks_run n h
    have h1 := mfm_run0 (bitsOf P) 1 0 (bitsOf_bits P) (by decide) (by decide) (fun _ => rfl)
    have h2 := mfm_end0 (bitsOf P) 1 0 (bitsOf_bits P) (by decide) (by decide) (fun _ => rfl)
    have e : partsZ (P :: r) = marksZ ++ (mfmF 1 (bitsOf P) ++ partsZ r) := by
      unfold partsZ
      rw [List.flatMap_cons]
      unfold partZ
      rw [List.append_assoc]
    rw [e]
    refine okR_append _ _ _ _ _ hm.1 ?_
    rw [hm.2]
    exact okR_append _ _ _ _ _ h1 (parts_run r _ h2)
theorem track_run (ss : List Sec) (g : Nat) : okR 0 4 0 (trackZ ss ++ gapZ g 0) = true := by
  rw [stream_track]
  have h1 := mfm_run0 (bitsOf (List.replicate 10 78 ++ tb ss g)) 0 0 (bitsOf_bits _) (by decide) (by decide) (fun _ => rfl)
  have h2 := mfm_end0 (bitsOf (List.replicate 10 78 ++ tb ss g)) 0 0 (bitsOf_bits _) (by decide) (by decide) (fun _ => rfl)
  exact okR_append _ _ _ _ _ h1 (parts_run _ _ h2)
theorem flux_runs {c : Int} {k : Nat} : ∀ (cells : List Int) (n : Nat) (acc : List Int), Bits cells → okR 0 k n cells = true → (∀ t ∈ acc, ∃ m : Int, 1 ≤ m ∧ m ≤ k ∧ t = c * m) →
    (∀ t ∈ (cells.foldl (fluxT c) (acc, (n : Int))).1, ∃ m : Int, 1 ≤ m ∧ m ≤ k ∧ t = c * m) ∧ 0 ≤ (cells.foldl (fluxT c) (acc, (n : Int))).2 ∧ (cells.foldl (fluxT c) (acc, (n : Int))).2 < k
  | [], n, acc, _, h, ha => ⟨ha, by show 0 ≤ (n : Int); omega, by have := of_decide_eq_true (show decide (n < k) = true from h); show (n : Int) < k; omega⟩
  | b :: r, n, acc, hb, h, ha => by
    have h : (decide (n < k) && okR 0 k (if b = 0 then n + 1 else 0) r) = true := h
    rw [Bool.and_eq_true, decide_eq_true_eq] at h
    have hbr : Bits r := fun x hx => hb x (List.mem_cons_of_mem _ hx)
    rcases hb b List.mem_cons_self with rfl | rfl
    · have := flux_runs r (n + 1) acc hbr h.2 ha
      exact this
    · refine flux_runs r 0 (acc ++ [c * ((n : Int) + 1)]) hbr h.2 fun t ht => ?_
      rcases List.mem_append.mp ht with h1 | h1
      · exact ha t h1
      · exact ⟨(n : Int) + 1, by omega, by omega, List.mem_singleton.mp h1⟩
theorem track_flux {c : Int} (ss : List Sec) (g : Nat) : (∀ t ∈ (fluxS c (trackZ ss ++ gapZ g 0)).1, ∃ m : Int, 1 ≤ m ∧ m ≤ 4 ∧ t = c * m) ∧ 0 ≤ (fluxS c (trackZ ss ++ gapZ g 0)).2 ∧ (fluxS c (trackZ ss ++ gapZ g 0)).2 < 4 :=
  flux_runs (k := 4) _ 0 [] (track_bits ss g) (track_run ss g) (fun t h => by cases h)
end Dw

/-! views of sectors -/
namespace Dw
open PySem PySem.Spec PyProof.Rows L2
theorem if_yes {c : Prop} [Decidable c] {G S : Prop} (h : c) (s : S) : if c then S else G := by rw [if_pos h]; exact s
theorem if_no {c : Prop} [Decidable c] {G S : Prop} (h : ¬ c) (s : G) : if c then S else G := by rw [if_neg h]; exact s
/-! ### comprehensions with a test, item by item -/
theorem lc_allF {α β : Type} {J : It} {n : Nat} {G : Hp → Prop} {Y : Nat → Hp → V → Hp → Prop} (w : Walk J n G Y) {g : TG} {tt : TT} {te : TE} {vs : List Nat} {σ : L2.St} {H1 : Hp} {D : Addr} {Qd : Hp → Prop} (R : Hp → V → β → Prop) (ss : List α) (p : α → Bool) (f : α → β)
    (hn : n ≤ 16777215) (hD : H1 D = none) (hl : ss.length = n) (hG : ∀ H', Same H1 H' → G H')
    (hR : ∀ H H' v s, Same H H' → R H v s → R H' v s)
    (hu : ∀ H ys v s o, H D = some (.lst ys) → v ≠ .ref D → R H v s → R (L2.upd H D o) v s)
    (hte : ∀ i x s H3 H' (Q' : VK) (N : Hp → Prop) ys, i < n → Y i H3 x H' → ss[i]? = some s → Same H1 H3 → H3 D = some (.lst ys) → (∀ y H4, p s = true → Same H3 H4 → y ≠ .ref D → R H4 y (f s) → Q' y H4) → (∀ H4, p s = false → Same H3 H4 → N H4) → g x (wipe σ vs) H' fun σ2 H2 => wipe σ2 vs = wipe σ vs ∧ tt σ2 H2 fun b H3 => if b = true then te σ2 H3 Q' else N H3)
    (hd : ∀ ys H', Same H1 H' → H' D = some (.lst ys) → AllAt (R H') ys ((ss.filter p).map f) → Qd H') : LcW J g tt te vs σ H1 D Qd := by
  refine lc_it w (fun i H' => Same H1 H' ∧ ∃ ys, H' D = some (.lst ys) ∧ AllAt (fun v s => R H' v s ∧ v ≠ .ref D) ys (((ss.take i).filter p).map f)) ⟨same_new hD _, [], upd_same, .nil⟩ (fun i H' _ h => hG H' h.1) ?_ ?_
  · intro i x H3 H' hi h hy
    obtain ⟨s1, ys, e1, hys⟩ := h
    have hs : ss[i]? = some (ss[i]'(by omega)) := List.getElem?_eq_getElem (by omega)
    have hyl := hys.1
    rw [List.length_map] at hyl
    have hfl : ((ss.take i).filter p).length ≤ i := Nat.le_trans (List.length_filter_le _ _) (List.length_take_le _ _)
    have hmo : ((ss.take (i + 1)).filter p).map f = ((ss.take i).filter p).map f ++ (if p (ss[i]'(by omega)) = true then [f (ss[i]'(by omega))] else []) := by
      rw [take_more hs, List.filter_append, List.map_append]
      by_cases c : p (ss[i]'(by omega)) = true
      · rw [if_pos c, List.filter_cons, if_pos c]
        rfl
      · rw [if_neg c, List.filter_cons, if_neg c]
        rfl
    refine hte i x _ H3 H' _ _ ys hi hy hs s1 e1 (fun y H4 hp s4 hy4 hr => ?_) fun H4 hp s4 => ?_
    · refine ⟨ys, s4 _ _ e1, line_lt (by omega), fun b o hb => by rw [upd_ne (ne_of_none hb hD)]; exact s4 _ _ (s1 b o hb), ys ++ [y], upd_same, ?_⟩
      rw [hmo, if_pos hp]
      exact (hys.imp fun v s h => ⟨hu _ _ _ _ _ (s4 _ _ e1) h.2 (hR _ _ _ _ s4 h.1), h.2⟩).push ⟨hu _ _ _ _ _ (s4 _ _ e1) hy4 hr, hy4⟩
    · refine ⟨s1.trans s4, ys, s4 _ _ e1, ?_⟩
      rw [hmo, if_neg (by rw [hp]; decide), List.append_nil]
      exact hys.imp fun v s h => ⟨hR _ _ _ _ s4 h.1, h.2⟩
  · intro H' h
    obtain ⟨s1, ys, e1, hys⟩ := h
    rw [← hl, List.take_length] at hys
    exact hd ys H' s1 e1 (hys.imp fun _ _ h => h.1)
/-! ### the data -/
abbrev View := Nat × Fnd
abbrev VW := List (NKey × List View)
/-- how many good sectors with that address -/
def cntA (fs : List Fnd) (ad : List Int) : Nat := (fs.filter fun f => f.2.2.1 && decide (f.2.1 = ad)).length
def ensV (vw : VW) (k : NKey) : VW := if (vw.any fun v => decide (v.1 = k)) = true then vw else vw ++ [(k, [])]
def appV (vw : VW) (k : NKey) (x : View) : VW := vw.map fun v => if v.1 = k then (v.1, v.2 ++ [x]) else v
def addV (vw : VW) (k : NKey) (x : View) : VW := appV (ensV vw k) k x
def stepV (i : Nat) (vw : VW) (fs : List Fnd) (f : Fnd) : VW := if f.2.2.1 = true then addV vw (f.2.1, (cntA fs f.2.1 : Int)) (i, f) else vw
def rowTo (i : Nat) (vw : VW) (fs : List Fnd) : Nat → VW
  | 0 => vw
  | n + 1 => match fs[n]? with
    | some f => stepV i (rowTo i vw fs n) (fs.take n) f
    | none => rowTo i vw fs n
def viewsTo (fss : List (List Fnd)) : Nat → VW
  | 0 => []
  | n + 1 => match fss[n]? with
    | some fs => rowTo n (viewsTo fss n) fs fs.length
    | none => viewsTo fss n
def viewsZ (fss : List (List Fnd)) : VW := viewsTo fss fss.length
/-- a view in the heap -/
def VAt (H : Hp) (y : V) (x : View) : Prop := ∃ t q, y = .ref t ∧ H t = some (.tup [.int (x.1 : Int), q]) ∧ FndAt H q x.2
theorem VAt.same {H H' : Hp} {y : V} {x : View} (s : Same H H') (h : VAt H y x) : VAt H' y x := by
  obtain ⟨t, q, e, h1, h2⟩ := h
  exact ⟨t, q, e, s _ _ h1, h2.same s⟩
/-- what is no dict of ints or tuples stays -/
def Kp (H H' : Hp) : Prop := ∀ c o, H c = some o → (∀ kvs, o ≠ .dT kvs) → H' c = some o
theorem Same.kp {H H' : Hp} (s : Same H H') : Kp H H' := fun c o h _ => s c o h
theorem Kp.trans {H H1 H2 : Hp} (a : Kp H H1) (b : Kp H1 H2) : Kp H H2 := fun c o h n => b c o (a c o h n) n
theorem Kp.upd {H : Hp} {D : Addr} {kvs : List (List L2.Key × V)} (o : HO) (h : H D = some (.dT kvs)) : Kp H (L2.upd H D o) := fun c u hc n => by
  rw [upd_ne (fun z => by subst z; rw [h] at hc; exact n kvs (Option.some.inj hc).symm)]
  exact hc
theorem DatT.kp {H H' : Hp} {v : V} {da : Option (List Int)} (s : Kp H H') (h : DatT H v da) : DatT H' v da := by
  rcases h with h | ⟨a, ns, e1, e2, e3⟩
  · exact .inl h
  · exact .inr ⟨a, ns, e1, e2, s _ _ e3 (fun _ z => by cases z)⟩
theorem FndAt.kp {H H' : Hp} {x : V} {f : Fnd} (s : Kp H H') (h : FndAt H x f) : FndAt H' x f := by
  obtain ⟨t, ta, v, e, h1, h2, h3⟩ := h
  exact ⟨t, ta, v, e, s _ _ h1 (fun _ z => by cases z), s _ _ h2 (fun _ z => by cases z), h3.kp s⟩
theorem VAt.kp {H H' : Hp} {y : V} {x : View} (s : Kp H H') (h : VAt H y x) : VAt H' y x := by
  obtain ⟨t, q, e, h1, h2⟩ := h
  exact ⟨t, q, e, s _ _ h1 (fun _ z => by cases z), h2.kp s⟩
theorem VAt.ups {H : Hp} {D : Addr} {xs : List V} {o : HO} {y : V} {x : View} (hD : H D = some (.lst xs)) (h : VAt H y x) : VAt (L2.upd H D o) y x := by
  obtain ⟨t, q, e, h1, h2⟩ := h
  exact ⟨t, q, e, by rw [upd_ne (fun z => by subst z; rw [h1] at hD; cases hD)]; exact h1, h2.ups hD⟩
theorem VAt.upx {H : Hp} {D : Addr} {φ : Heap → Prop} {o : HO} {y : V} {x : View} (hD : H D = some (.ext φ)) (h : VAt H y x) : VAt (L2.upd H D o) y x := by
  have hs : ∀ c u, H c = some (.tup u) → L2.upd H D o c = some (.tup u) := fun c u e => by
    rw [upd_ne (fun z => by subst z; rw [hD] at e; cases e)]
    exact e
  obtain ⟨t, q, e, h1, t2, ta, v, e2, h2, h3, h4⟩ := h
  refine ⟨t, q, e, hs _ _ h1, t2, ta, v, e2, hs _ _ h2, hs _ _ h3, ?_⟩
  rcases h4 with h | ⟨a, ns, e1, e2, e3⟩
  · exact .inl h
  · exact .inr ⟨a, ns, e1, e2, hs _ _ e3⟩
/-- the views in the heap -/
structure VwX (w : World) (H : Hp) (D : Addr) (xs : List NEnt) (vw : VW) : Prop where
  dn : DN w H D xs
  nd : (xs.map (·.1)).Nodup
  inj : ∀ (i j : Nat) (x y : NEnt), xs[i]? = some x → xs[j]? = some y → x.2.2 = y.2.2 → i = j
  len : xs.length = vw.length
  row : ∀ (j : Nat) (x : NEnt), xs[j]? = some x → ∃ (v : NKey × List View) (l : Addr) (ys : List V), vw[j]? = some v ∧ x.1 = v.1 ∧ x.2.2 = .ref l ∧ H l = some (.lst ys) ∧ AllAt (VAt H) ys v.2
theorem VwX.kp {w : World} {H H' : Hp} {D : Addr} {xs : List NEnt} {vw : VW} (s : Kp H H') (h : VwX w H D xs vw) : VwX w H' D xs vw where
  dn := ⟨s _ _ h.dn.at_ (fun _ z => by unfold NDO at z; cases z), fun x hx => (h.dn.key x hx).same fun c ys e => s _ _ e (fun _ z => by cases z)⟩
  nd := h.nd
  inj := h.inj
  len := h.len
  row := fun j x hj => by
    obtain ⟨v, l, ys, h1, h2, h3, h4, h5⟩ := h.row j x hj
    exact ⟨v, l, ys, h1, h2, h3, s _ _ h4 (fun _ z => by cases z), h5.imp fun _ _ h => h.kp s⟩
theorem VwX.nil {w : World} {H : Hp} {D : Addr} (h : H D = some (NDO w D [])) : VwX w H D [] [] := ⟨⟨h, fun x hx => by cases hx⟩, List.nodup_nil, fun i j x y h => by simp at h, rfl, fun j x h => by simp at h⟩
theorem nkv_at {xs : List NEnt} (nd : (xs.map (·.1)).Nodup) : ∀ {j : Nat} {x : NEnt}, xs[j]? = some x → valV (nkv xs) x.1 = some x.2.2 := by
  induction xs with
  | nil => intro j x h; simp at h
  | cons p ps ih =>
    intro j x h
    rw [List.map_cons, List.nodup_cons] at nd
    unfold nkv
    rw [List.map_cons]
    cases j with
    | zero =>
      rw [List.getElem?_cons_zero] at h
      cases h
      exact valV_pos (p := (p.1, p.2.2)) rfl
    | succ j =>
      rw [List.getElem?_cons_succ] at h
      have hm : x.1 ∈ ps.map (·.1) := List.mem_map_of_mem (List.mem_of_getElem? h)
      rw [valV_neg (p := (p.1, p.2.2)) (fun e => nd.1 (by rw [show p.1 = x.1 from e]; exact hm))]
      exact ih nd.2 h
theorem nkv_some {xs : List NEnt} {k : NKey} {v : V} (h : valV (nkv xs) k = some v) : ∃ (j : Nat) (x : NEnt), xs[j]? = some x ∧ x.1 = k ∧ x.2.2 = v := by
  induction xs with
  | nil => cases h
  | cons p ps ih =>
    unfold nkv at h
    rw [List.map_cons] at h
    by_cases e : p.1 = k
    · rw [valV_pos (p := (p.1, p.2.2)) e] at h
      cases h
      exact ⟨0, p, rfl, e, rfl⟩
    · rw [valV_neg (p := (p.1, p.2.2)) e] at h
      obtain ⟨j, x, h1, h2, h3⟩ := ih h
      exact ⟨j + 1, x, by simpa using h1, h2, h3⟩
theorem nkv_none {xs : List NEnt} {k : NKey} (h : valV (nkv xs) k = none) : ∀ x ∈ xs, ¬ x.1 = k := by
  induction xs with
  | nil => intro x hx; cases hx
  | cons p ps ih =>
    unfold nkv at h
    rw [List.map_cons] at h
    intro x hx e
    by_cases e2 : p.1 = k
    · rw [valV_pos (p := (p.1, p.2.2)) e2] at h
      cases h
    · rw [valV_neg (p := (p.1, p.2.2)) e2] at h
      rcases List.mem_cons.mp hx with rfl | hx
      · exact e2 e
      · exact ih h x hx e
/-- which key is there -/
theorem VwX.any {w : World} {H : Hp} {D : Addr} {xs : List NEnt} {vw : VW} (h : VwX w H D xs vw) (k : NKey) : (vw.any fun v => decide (v.1 = k)) = (valV (nkv xs) k).isSome := by
  cases e : valV (nkv xs) k with
  | some v =>
    obtain ⟨j, x, h1, h2, h3⟩ := nkv_some e
    obtain ⟨u, l, ys, g1, g2, _⟩ := h.row j x h1
    show _ = true
    rw [List.any_eq_true]
    exact ⟨u, List.mem_of_getElem? g1, decide_eq_true (by rw [← g2, h2])⟩
  | none =>
    have hn := nkv_none e
    show _ = false
    rw [List.any_eq_false]
    intro u hu
    obtain ⟨j, hj⟩ := List.mem_iff_getElem?.mp hu
    have hlt : j < xs.length := by rw [h.len]; exact (List.getElem?_eq_some_iff.mp hj).1
    obtain ⟨u', l, ys, g1, g2, _⟩ := h.row j _ (List.getElem?_eq_getElem hlt)
    rw [hj] at g1
    cases g1
    rw [← g2, decide_eq_true_eq]
    exact hn _ (List.getElem_mem hlt)
/-- a key that is new, with an empty list -/
theorem VwX.add {w : World} {H0 H : Hp} {D l b : Addr} {xs : List NEnt} {vw : VW} {k : NKey} (h0 : VwX w H0 D xs vw) (hl0 : H0 l = none) (s : Same H0 H) (hk : KeyN H k b) (hl : H l = some (.lst [])) (hn : valV (nkv xs) k = none) :
    VwX w (L2.upd H D (NDO w D (xs ++ [(k, b, .ref l)]))) D (xs ++ [(k, b, .ref l)]) (ensV vw k) := by
  have h := h0.kp (Same.kp s)
  have hD := h.dn.at_
  have e : ensV vw k = vw ++ [(k, [])] := by
    unfold ensV
    rw [h.any, hn]
    exact if_neg (by decide)
  rw [e]
  have hup : ∀ c u, H c = some u → (∀ φ, u ≠ .ext φ) → L2.upd H D (NDO w D (xs ++ [(k, b, .ref l)])) c = some u := fun c u q n => by
    rw [upd_ne (fun z => by subst z; rw [hD] at q; unfold NDO at q; exact n _ (Option.some.inj q).symm)]
    exact q
  refine ⟨⟨upd_same, fun x hx => ?_⟩, ?_, ?_, by rw [List.length_append, List.length_append, h.len]; rfl, ?_⟩
  · rcases List.mem_append.mp hx with hx | hx
    · exact (h.dn.key x hx).same fun c ys q => hup _ _ q (fun _ z => by cases z)
    · rw [List.mem_singleton] at hx
      subst hx
      exact hk.same fun c ys q => hup _ _ q (fun _ z => by cases z)
  · rw [List.map_append, List.nodup_append]
    refine ⟨h.nd, by simp, ?_⟩
    intro x hx y hy
    simp only [List.map_cons, List.map_nil, List.mem_singleton] at hy
    subst hy
    obtain ⟨z, hz, rfl⟩ := List.mem_map.mp hx
    exact nkv_none hn z hz
  · have old : ∀ (i : Nat) x, xs[i]? = some x → x.2.2 ≠ .ref l := fun i x hx q => by
      obtain ⟨v, l', ys, _, _, g3, g4, _⟩ := h0.row i x hx
      rw [g3] at q
      cases q
      rw [hl0] at g4
      cases g4
    intro i j x y hi hj q
    by_cases ci : i < xs.length
    · rw [List.getElem?_append_left ci] at hi
      by_cases cj : j < xs.length
      · rw [List.getElem?_append_left cj] at hj
        exact h.inj i j x y hi hj q
      · rw [List.getElem?_append_right (by omega)] at hj
        have : j - xs.length = 0 := by
          have := (List.getElem?_eq_some_iff.mp hj).1
          simp at this
          omega
        rw [this] at hj
        cases hj
        exact absurd q (old i x hi)
    · rw [List.getElem?_append_right (by omega)] at hi
      have e1 : i - xs.length = 0 := by
        have := (List.getElem?_eq_some_iff.mp hi).1
        simp at this
        omega
      rw [e1] at hi
      cases hi
      by_cases cj : j < xs.length
      · rw [List.getElem?_append_left cj] at hj
        exact absurd q.symm (old j y hj)
      · rw [List.getElem?_append_right (by omega)] at hj
        have := (List.getElem?_eq_some_iff.mp hj).1
        simp at this
        omega
  · intro j x hj
    by_cases cj : j < xs.length
    · rw [List.getElem?_append_left cj] at hj
      obtain ⟨v, l', ys, g1, g2, g3, g4, g5⟩ := h.row j x hj
      refine ⟨v, l', ys, by rw [List.getElem?_append_left (by rw [← h.len]; exact cj)]; exact g1, g2, g3, hup _ _ g4 (fun _ z => by cases z), g5.imp fun _ _ q => VAt.upx (by rw [hD]; rfl) q⟩
    · rw [List.getElem?_append_right (by omega)] at hj
      have e1 : j - xs.length = 0 := by
        have := (List.getElem?_eq_some_iff.mp hj).1
        simp at this
        omega
      rw [e1] at hj
      cases hj
      exact ⟨(k, []), l, [], by rw [List.getElem?_append_right (by rw [← h.len]; omega), ← h.len, e1]; rfl, rfl, rfl, hup _ _ hl (fun _ z => by cases z), .nil⟩
/-- a view more behind a key that is there -/
theorem VwX.app {w : World} {H : Hp} {D l : Addr} {xs : List NEnt} {vw : VW} {k : NKey} {ys : List V} {y : V} {vi : View} (h : VwX w H D xs vw) (hv : valV (nkv xs) k = some (.ref l)) (hl : H l = some (.lst ys)) (hy : VAt H y vi) :
    VwX w (L2.upd H l (.lst (ys ++ [y]))) D xs (appV vw k vi) := by
  obtain ⟨i, x, h1, h2, h3⟩ := nkv_some hv
  refine ⟨h.dn.upd hl, h.nd, h.inj, by unfold appV; rw [List.length_map, h.len], fun j z hj => ?_⟩
  obtain ⟨v, l', zs, g1, g2, g3, g4, g5⟩ := h.row j z hj
  unfold appV
  rw [List.getElem?_map, g1]
  by_cases c : j = i
  · subst c
    rw [h1] at hj
    cases hj
    rw [h3] at g3
    cases g3
    rw [hl] at g4
    cases g4
    refine ⟨_, l, ys ++ [y], rfl, ?_, h3, upd_same, ?_⟩
    · show x.1 = (if v.1 = k then (v.1, v.2 ++ [vi]) else v).1
      rw [if_pos (by rw [← g2, h2])]
      exact g2
    · show AllAt _ _ (if v.1 = k then (v.1, v.2 ++ [vi]) else v).2
      rw [if_pos (by rw [← g2, h2])]
      exact (g5.imp fun _ _ q => VAt.ups hl q).push (VAt.ups hl hy)
  · have ne : ¬ v.1 = k := fun q => by
      have hm := h.nd
      have q1 : (xs.map (·.1))[j]? = some k := by rw [List.getElem?_map, hj, ← q, ← g2]; rfl
      have q2 : (xs.map (·.1))[i]? = some k := by rw [List.getElem?_map, h1, ← h2]; rfl
      exact c ((List.getElem?_inj (List.getElem?_eq_some_iff.mp q1).1 hm).mp (q1.trans q2.symm))
    have nl : l' ≠ l := fun q => by
      subst q
      exact c (h.inj j i z x hj h1 (by rw [g3, h3]))
    refine ⟨_, l', zs, rfl, ?_, g3, by rw [upd_ne nl]; exact g4, ?_⟩
    · show z.1 = (if v.1 = k then (v.1, v.2 ++ [vi]) else v).1
      rw [if_neg ne]
      exact g2
    · show AllAt _ _ (if v.1 = k then (v.1, v.2 ++ [vi]) else v).2
      rw [if_neg ne]
      exact g5.imp fun _ _ q => VAt.ups hl q
theorem ensV_there {w : World} {H : Hp} {D : Addr} {xs : List NEnt} {vw : VW} {k : NKey} {v : V} (h : VwX w H D xs vw) (e : valV (nkv xs) k = some v) : ensV vw k = vw := by
  unfold ensV
  rw [h.any, e]
  exact if_pos rfl
theorem cntA_more {fs : List Fnd} {n : Nat} {f : Fnd} (h : fs[n]? = some f) (ad : List Int) : cntA (fs.take (n + 1)) ad = cntA (fs.take n) ad + (if f.2.2.1 = true ∧ f.2.1 = ad then 1 else 0) := by
  unfold cntA
  rw [take_more h, List.filter_append, List.length_append, List.filter_cons, List.filter_nil]
  by_cases c : f.2.2.1 = true ∧ f.2.1 = ad
  · rw [if_pos c, if_pos (by rw [c.1, decide_eq_true c.2]; rfl)]
    rfl
  · rw [if_neg c, if_neg (fun q => by rw [Bool.and_eq_true, decide_eq_true_eq] at q; exact c q)]
    rfl
end Dw
namespace Dw
open PySem PySem.Spec PyProof.Rows L2
/-! ### votes -/
def votN (ns : List Int) (w : Int) : Nat := (ns.filter fun v => decide (Builtin.bitAnd v w ≠ 0)).length
def vbW : List Int := [128, 64, 32, 16, 8, 4, 2, 1]
def vbB (ns : List Int) (w : Int) : Int := if 2 * votN ns w > ns.length then 1 else 0
/-- the byte that is voted -/
def vbZ (ns : List Int) : Option Int := if (vbW.all fun w => decide (2 * votN ns w ≠ ns.length)) = true then some (byteZ (vbW.map (vbB ns))) else none
/-- an int or None -/
def VIs (v : V) (o : Option Int) : Prop := (o = none ∧ v = .non) ∨ ∃ n, o = some n ∧ v = .int n
def spVByte : Sp := fun vs H Q _ => ∃ (a : Addr) (ns : List Int), vs = [.ref a] ∧ H a = some (IL ns) ∧ ns.length ≤ 10000 ∧ ∀ v H', Same H H' → VIs v (vbZ ns) → Q v H'
end Dw
namespace Dw
open PySem PySem.Spec PyProof.Rows L2
/-- a tuple of ints -/
def TupAt (H : Hp) (v : V) (ns : List Int) : Prop := ∃ a, v = .ref a ∧ H a = some (.tup (ns.map V.int))
theorem TupAt.same {H H' : Hp} {v : V} {ns : List Int} (s : Same H H') (h : TupAt H v ns) : TupAt H' v ns := by
  obtain ⟨a, e, h⟩ := h
  exact ⟨a, e, s _ _ h⟩
def vdL (ls : List (List Int)) : List (Option Int) := (List.range (ls.getD 0 []).length).map fun j => vbZ (ls.map fun l => l.getD j 0)
/-- the data that are voted -/
def vdZ (ls : List (List Int)) : Option (List Int) := if ((vdL ls).all fun o => o.isSome) = true then some ((vdL ls).map fun o => o.getD 0) else none
def spVData : Sp := fun vs H Q _ => ∃ (a : Addr) (xs : List V) (ls : List (List Int)), vs = [.ref a] ∧ H a = some (.lst xs) ∧ AllAt (TupAt H) xs ls ∧ ls.length ≤ 10000 ∧ (∀ l ∈ ls, l.length = (ls.getD 0 []).length ∧ l.length ≤ 100000) ∧ ls ≠ [] ∧
  ∀ v H', Same H H' → DatT H' v (vdZ ls) → Q v H'
end Dw
namespace Dw
open PySem PySem.Spec PyProof.Rows L2
/-- an outcome: its word, its data -/
abbrev Oc := Str × Option (List Int)
def OcAt (H : Hp) (v : V) (o : Oc) : Prop := ∃ t, v = .ref t ∧ ((o.2 = none ∧ H t = some (.tup [.str o.1])) ∨ ∃ q ns, o.2 = some ns ∧ H t = some (.tup [.str o.1, .ref q]) ∧ H q = some (.tup (ns.map V.int)))
theorem OcAt.same {H H' : Hp} {v : V} {o : Oc} (s : Same H H') (h : OcAt H v o) : OcAt H' v o := by
  obtain ⟨t, e, h⟩ := h
  refine ⟨t, e, ?_⟩
  rcases h with ⟨h1, h2⟩ | ⟨q, ns, h1, h2, h3⟩
  · exact .inl ⟨h1, s _ _ h2⟩
  · exact .inr ⟨q, ns, h1, s _ _ h2, s _ _ h3⟩
def goodsZ (fs : List Fnd) : List (List Int) := (fs.filter fun f => f.2.2.2.2).map fun f => f.2.2.2.1.getD []
def listsZ (fs : List Fnd) : List (List Int) := (fs.filter fun f => f.2.2.2.1.isSome).map fun f => f.2.2.2.1.getD []
def ocZ (fs : List Fnd) : Oc := match goodsZ fs with
  | g :: r => if ((g :: r).all fun d => decide (d = g)) = true then ("good", some g) else ("unsteady", none)
  | [] => if 1 < (listsZ fs).length then (match vdZ (listsZ fs) with | some d => ("voted", some d) | none => ("lost", none)) else ("lost", none)
/-- views that may be put together -/
def OkFs (fs : List Fnd) : Prop := fs.length ≤ 10000 ∧ ∃ n, n ≤ 100000 ∧ ∀ f ∈ fs, (f.2.2.2.2 = true → f.2.2.2.1.isSome = true) ∧ ∀ d, f.2.2.2.1 = some d → d.length = n
def spOc : Sp := fun vs H Q _ => ∃ (a : Addr) (xs : List V) (fs : List Fnd), vs = [.ref a] ∧ H a = some (.lst xs) ∧ AllAt (FndAt H) xs fs ∧ OkFs fs ∧ ∀ v H', Same H H' → OcAt H' v (ocZ fs) → Q v H'
end Dw
namespace Dw
open PySem PySem.Spec PyProof.Rows L2
/-- a read that stands for these cells at the cell c -/
def RdC (C : Addr) (H : Hp) (c : Int) (v : V) (cs : List Int) : Prop := ∃ r ns rest, v = .ref r ∧ RdAt C H r ns rest ∧ OkRead ns rest ∧ Few ns rest c ∧ fixedZ ns rest c = cs
/-- a list of found sectors -/
def FLAt (H : Hp) (v : V) (fs : List Fnd) : Prop := ∃ l ys, v = .ref l ∧ H l = some (.lst ys) ∧ AllAt (FndAt H) ys fs
theorem FLAt.same {H H' : Hp} {v : V} {fs : List Fnd} (s : Same H H') (h : FLAt H v fs) : FLAt H' v fs := by
  obtain ⟨l, ys, e, h1, h2⟩ := h
  exact ⟨l, ys, e, s _ _ h1, h2.imp fun _ _ h => h.same s⟩
def spSbr (C CE : Addr) : Sp := fun vs H Q _ => ∃ (a : Addr) (c : Int) (xs : List V) (css : List (List Int)), vs = [.ref a, .int c] ∧ H a = some (.lst xs) ∧ AllAt (RdC C H c) xs css ∧ css.length ≤ 1000 ∧ okCell c ∧ (∀ cs ∈ css, Bits cs ∧ cs.length ≤ 1000000) ∧
  ∀ u ys H', Same H H' → H u = none → H' u = some (.lst ys) → AllAt (FLAt H') ys (css.map foundZ) → Q (.ref u) H'
end Dw
namespace Dw
open PySem PySem.Spec PyProof.Rows L2
def spViews (w : World) (C : Addr) : Sp := fun vs H Q _ => ∃ (a : Addr) (c : Int) (xs : List V) (css : List (List Int)), vs = [.ref a, .int c] ∧ H a = some (.lst xs) ∧ AllAt (RdC C H c) xs css ∧ css.length ≤ 1000 ∧ okCell c ∧ (∀ cs ∈ css, Bits cs ∧ cs.length ≤ 1000000) ∧
  (∀ cs ∈ css, (foundZ cs).length ≤ 1000) ∧ ∀ D ns H', Same H H' → VwX w H' D ns (viewsZ (css.map foundZ)) → Q (.ref D) H'
end Dw
namespace Dw
open PySem PySem.Spec PyProof.Rows L2
theorem ext_but {D : Addr} {H H' : Hp} {φ : Heap → Prop} (hD : H D = some (.ext φ)) (s : SameB D H H') {c : Addr} {o : HO} (h : H c = some o) (n : ∀ ψ, o ≠ .ext ψ) : H' c = some o := s c o (fun z => by subst z; rw [hD] at h; exact n φ (Option.some.inj h).symm) h
theorem FndAt.but {D : Addr} {H H' : Hp} {φ : Heap → Prop} {v : V} {f : Fnd} (hD : H D = some (.ext φ)) (s : SameB D H H') (h : FndAt H v f) : FndAt H' v f := by
  obtain ⟨t, ta, v, e, h1, h2, h3⟩ := h
  refine ⟨t, ta, v, e, ext_but hD s h1 (fun _ z => by cases z), ext_but hD s h2 (fun _ z => by cases z), ?_⟩
  rcases h3 with h | ⟨a, ns, e1, e2, e3⟩
  · exact .inl h
  · exact .inr ⟨a, ns, e1, e2, ext_but hD s e3 (fun _ z => by cases z)⟩
end Dw
namespace Dw
open PySem PySem.Spec PyProof.Rows L2
def BV (vw : VW) (n : Nat) : Prop := vw.length ≤ n ∧ ∀ v ∈ vw, v.2.length ≤ n
theorem BV.mono {vw : VW} {n m : Nat} (h : BV vw n) (hl : n ≤ m) : BV vw m := ⟨Nat.le_trans h.1 hl, fun v hv => Nat.le_trans (h.2 v hv) hl⟩
theorem BV.step {vw : VW} {n i : Nat} {fs : List Fnd} {f : Fnd} (h : BV vw n) : BV (stepV i vw fs f) (n + 1) := by
  unfold stepV
  by_cases c : f.2.2.1 = true
  · rw [if_pos c]
    have he : ∀ k, BV (ensV vw k) (n + 1) := fun k => by
      unfold ensV
      by_cases c : (vw.any fun v => decide (v.1 = k)) = true
      · rw [if_pos c]
        exact h.mono (Nat.le_succ _)
      · rw [if_neg c]
        refine ⟨by rw [List.length_append]; have := h.1; show _ + 1 ≤ _; omega, fun v hv => ?_⟩
        rcases List.mem_append.mp hv with hv | hv
        · exact Nat.le_succ_of_le (h.2 v hv)
        · rw [List.mem_singleton] at hv
          subst hv
          exact Nat.zero_le _
    have hs : ∀ k, ∀ v ∈ ensV vw k, v.2.length ≤ n := fun k v hv => by
      unfold ensV at hv
      by_cases c : (vw.any fun v => decide (v.1 = k)) = true
      · rw [if_pos c] at hv
        exact h.2 v hv
      · rw [if_neg c] at hv
        rcases List.mem_append.mp hv with hv | hv
        · exact h.2 v hv
        · rw [List.mem_singleton] at hv
          subst hv
          exact Nat.zero_le _
    unfold addV appV
    refine ⟨by rw [List.length_map]; exact (he _).1, fun v hv => ?_⟩
    obtain ⟨u, hu, rfl⟩ := List.mem_map.mp hv
    have := hs _ u hu
    by_cases c : u.1 = (f.2.1, (cntA fs f.2.1 : Int))
    · rw [if_pos c]
      show (u.2 ++ [_]).length ≤ _
      rw [List.length_append]
      show _ + 1 ≤ _
      omega
    · rw [if_neg c]
      omega
  · rw [if_neg c]
    exact h.mono (Nat.le_succ _)
theorem BV.row {vw : VW} {n i : Nat} {fs : List Fnd} (h : BV vw n) : ∀ m, BV (rowTo i vw fs m) (n + m)
  | 0 => h
  | m + 1 => by
    have ih := BV.row (i := i) (fs := fs) h m
    show BV (match fs[m]? with | some f => stepV i (rowTo i vw fs m) (fs.take m) f | none => rowTo i vw fs m) _
    cases fs[m]? with
    | none => exact ih.mono (by omega)
    | some f => exact ih.step
theorem BV.views {fss : List (List Fnd)} (h : ∀ fs ∈ fss, fs.length ≤ 1000) : ∀ n, BV (viewsTo fss n) (1000 * n)
  | 0 => ⟨Nat.le_refl _, fun v hv => by cases hv⟩
  | n + 1 => by
    have ih := BV.views h n
    show BV (match fss[n]? with | some fs => rowTo n (viewsTo fss n) fs fs.length | none => viewsTo fss n) _
    cases hf : fss[n]? with
    | none => exact ih.mono (by omega)
    | some fs => exact (ih.row fs.length).mono (by have := h fs (List.mem_of_getElem? hf); omega)
end Dw
namespace Dw
open PySem PySem.Spec PyProof.Rows L2
theorem inls_inj : ∀ {a b : List Int}, (a.map Sum.inl : List L2.Key) = b.map Sum.inl → a = b
  | [], [], _ => rfl
  | [], _ :: _, e => by simp at e
  | _ :: _, [], e => by simp at e
  | x :: xs, y :: ys, e => by
    rw [List.map_cons, List.map_cons] at e
    injection e with e1 e2
    injection e1 with e3
    rw [e3, inls_inj e2]
end Dw
namespace Dw
open PySem PySem.Spec PyProof.Rows L2
/-- a key's tuple and its outcome -/
def KoAt (H : Hp) (v : V) (x : NKey × Oc) : Prop := ∃ t b o, v = .ref t ∧ H t = some (.tup [.ref b, o]) ∧ KeyN H x.1 b ∧ OcAt H o x.2
theorem KoAt.same {H H' : Hp} {v : V} {x : NKey × Oc} (s : Same H H') (h : KoAt H v x) : KoAt H' v x := by
  obtain ⟨t, b, o, e, h1, h2, h3⟩ := h
  exact ⟨t, b, o, e, s _ _ h1, h2.same (fun c ys q => s _ _ q), h3.same s⟩
def fsOf (v : NKey × List View) : List Fnd := v.2.map fun x => x.2
def spOutcomes (C : Addr) : Sp := fun vs H Q _ => ∃ (a : Addr) (c : Int) (xs : List V) (css : List (List Int)), vs = [.ref a, .int c] ∧ H a = some (.lst xs) ∧ AllAt (RdC C H c) xs css ∧ css.length ≤ 1000 ∧ okCell c ∧ (∀ cs ∈ css, Bits cs ∧ cs.length ≤ 1000000) ∧
  (∀ cs ∈ css, (foundZ cs).length ≤ 1000) ∧ (viewsZ (css.map foundZ)).length < 64 ∧ (∀ v ∈ viewsZ (css.map foundZ), v.1.1.length = 4 ∧ TS.Bd 256 (flatN v.1)) ∧ (∀ v ∈ viewsZ (css.map foundZ), OkFs (fsOf v)) ∧
  ∀ (u : Addr) (ys : List V) (os : VW) (H' : Hp), Same H H' → H u = none → H' u = some (.lst ys) → os.Perm (viewsZ (css.map foundZ)) → os.Pairwise (fun x y => TS.code 256 (flatN x.1) ≤ TS.code 256 (flatN y.1)) → AllAt (KoAt H') ys (os.map fun v => (v.1, ocZ (fsOf v))) → Q (.ref u) H'
end Dw
namespace Dw
open PySem PySem.Spec PyProof.Rows L2
theorem KoAt.ups {H : Hp} {D : Addr} {ys : List V} {o : HO} {v : V} {x : NKey × Oc} (hD : H D = some (.lst ys)) (h : KoAt H v x) : KoAt (L2.upd H D o) v x := by
  have hup : ∀ b zs, H b = some (.tup zs) → L2.upd H D o b = some (.tup zs) := fun b zs z => by
    rw [upd_ne (fun e => by subst e; rw [hD] at z; cases z)]
    exact z
  obtain ⟨t, b, q, e, h1, h2, t2, e2, h3⟩ := h
  refine ⟨t, b, q, e, hup _ _ h1, h2.same fun c ys z => hup _ _ z, t2, e2, ?_⟩
  rcases h3 with ⟨f1, f2⟩ | ⟨q2, ns, f1, f2, f3⟩
  · exact .inl ⟨f1, hup _ _ f2⟩
  · exact .inr ⟨q2, ns, f1, hup _ _ f2, hup _ _ f3⟩
end Dw
namespace Dw
open PySem PySem.Spec PyProof.Rows L2
def spLXor : Sp := fun vs H Q _ => ∃ (a b : Nat), vs = [.int (a : Int), .int (b : Int)] ∧ a < 65536 ∧ b < 65536 ∧ ∀ H', Same H H' → Q (.int ((a ^^^ b : Nat) : Int)) H'
theorem xor_bit (a b k : Nat) : (a ^^^ b) / 2 ^ k % 2 = if a / 2 ^ k % 2 ≠ b / 2 ^ k % 2 then 1 else 0 := by
  have e := Nat.testBit_xor a b k
  rw [Nat.testBit_eq_decide_div_mod_eq, Nat.testBit_eq_decide_div_mod_eq, Nat.testBit_eq_decide_div_mod_eq] at e
  have h1 : (a ^^^ b) / 2 ^ k % 2 < 2 := Nat.mod_lt _ (by decide)
  have h2 : a / 2 ^ k % 2 < 2 := Nat.mod_lt _ (by decide)
  have h3 : b / 2 ^ k % 2 < 2 := Nat.mod_lt _ (by decide)
  generalize (a ^^^ b) / 2 ^ k % 2 = x at e h1
  generalize a / 2 ^ k % 2 = y at e h2
  generalize b / 2 ^ k % 2 = z at e h3
  have hx : x = 0 ∨ x = 1 := by omega
  have hy : y = 0 ∨ y = 1 := by omega
  have hz : z = 0 ∨ z = 1 := by omega
  rcases hx with rfl | rfl <;> rcases hy with rfl | rfl <;> rcases hz with rfl | rfl <;> first | rfl | (exfalso; revert e; decide)
theorem mod_more (x k : Nat) : x % 2 ^ (k + 1) = x % 2 ^ k + 2 ^ k * (x / 2 ^ k % 2) := by
  rw [Nat.pow_succ]
  exact Nat.mod_mul
/-- the cells' runs are short -/
def FluxOk (c : Int) (cs : List Int) : Prop := (∀ t ∈ (fluxS c cs).1, ∃ m : Int, 1 ≤ m ∧ m ≤ 4 ∧ t = c * m) ∧ 0 ≤ (fluxS c cs).2 ∧ (fluxS c cs).2 ≤ 4
def spRdOf (C : Addr) : Sp := fun vs H Q _ => ∃ (a : Addr) (c : Int) (cs : List Int), vs = [.ref a, .int c] ∧ H a = some (IL cs) ∧ Bits cs ∧ cs.length ≤ 50000 ∧ okCell c ∧ FluxOk c cs ∧ ∀ v H', Same H H' → H v = none → RdC C H' c (.ref v) cs → Q (.ref v) H'
end Dw
namespace Dw
open PySem PySem.Spec PyProof.Rows L2
def spIsText : Sp := fun vs H Q _ => ∃ z : Str, vs = [.str z, .str z] ∧ z.length ≤ 1000 ∧ Q (.bl true) H
def spSameO : Sp := fun vs H Q _ => ∃ (x u : Addr) (xs ys : List V) (os : List (NKey × Oc)), vs = [.ref x, .ref u] ∧ H x = some (.lst xs) ∧ H u = some (.lst ys) ∧ AllAt (KoAt H) xs os ∧ AllAt (KoAt H) ys os ∧ os.length ≤ 10000 ∧ (∀ o ∈ os, o.2.1.length ≤ 1000) ∧ Q (.bl true) H
end Dw

/-! group-coded tracks: what is written, where runs of set cells end -/
namespace Dw
open PySem PySem.Spec PyProof.Rows L2
abbrev GSec := List Int × List Int
def PairAt (H : Hp) (x : V) (s : GSec) : Prop := ∃ t p q, x = .ref t ∧ H t = some (.tup [.ref p, .ref q]) ∧ H p = some (.tup (s.1.map V.int)) ∧ H q = some (IL s.2)
theorem PairAt.same {H H' : Hp} {x : V} {s : GSec} (q : Same H H') (h : PairAt H x s) : PairAt H' x s := by
  obtain ⟨t, a, b, e, h1, h2, h3⟩ := h
  exact ⟨t, a, b, e, q _ _ h1, q _ _ h2, q _ _ h3⟩
def OkG (size : Nat) (s : GSec) : Prop := (∃ a b c d, s.1 = [a, b, c, d]) ∧ Bytes s.1 ∧ s.2.length = 16 * 2 ^ size ∧ Bytes s.2
def xorG (ns : List Int) : Nat := ns.foldl (fun r n => r ^^^ n.toNat) 0
theorem xorG_more {ns : List Int} {i v : Nat} (h : ns[i]? = some (v : Int)) : xorG (ns.take (i + 1)) = xorG (ns.take i) ^^^ v := by
  unfold xorG
  rw [take_more h, List.foldl_append]
  rfl
theorem xorG_lt : ∀ ns : List Int, Bytes ns → xorG ns < 256 := by
  have : ∀ (ns : List Int) (r : Nat), Bytes ns → r < 256 → ns.foldl (fun r n => r ^^^ n.toNat) r < 256 := by
    intro ns
    induction ns with
    | nil => intro r _ h; exact h
    | cons n l ih =>
      intro r hb h
      have h0 := hb n List.mem_cons_self
      refine ih (r ^^^ n.toNat) (fun x hx => hb x (List.mem_cons_of_mem _ hx)) ?_
      exact Nat.xor_lt_two_pow (n := 8) h (by omega)
  intro ns h
  exact this ns 0 h (by decide)
def gapG : List Int := (List.replicate 9 [0, 1, 0, 1, 0, 1, 0, 1]).flatten
def fldG (ns : List Int) : List Int := List.replicate 20 1 ++ gcrZ ns ++ gapG
def adG (a : List Int) : List Int := [8, (xorG a : Int), a.getD 1 0, a.getD 0 0, a.getD 3 0, a.getD 2 0, 15, 15]
def daG (d : List Int) : List Int := [7] ++ d ++ [(xorG d : Int), 0, 0]
def groupZ (ss : List GSec) : List Int := ss.foldl (fun c s => c ++ fldG (adG s.1) ++ fldG (daG s.2)) gapG
theorem groupZ_more {ss : List GSec} {i : Nat} {s : GSec} (h : ss[i]? = some s) : groupZ (ss.take (i + 1)) = groupZ (ss.take i) ++ fldG (adG s.1) ++ fldG (daG s.2) := by
  unfold groupZ
  rw [take_more h, List.foldl_append]
  rfl
theorem gapG_len : gapG.length = 72 := by decide
theorem fldG_len {ns : List Int} (h : Bytes ns) : (fldG ns).length = 92 + 10 * ns.length := by
  unfold fldG
  rw [List.length_append, List.length_append, List.length_replicate, gapG_len, gcrZ_len _ h]
  omega
theorem adG_by {a : List Int} (h : ∃ x y z w, a = [x, y, z, w]) (hb : Bytes a) : Bytes (adG a) ∧ (adG a).length = 8 := by
  obtain ⟨x, y, z, w, rfl⟩ := h
  have hx := xorG_lt _ hb
  refine ⟨fun v hv => ?_, rfl⟩
  have g : ∀ u ∈ [x, y, z, w], 0 ≤ u ∧ u < 256 := hb
  simp only [adG, List.mem_cons, List.not_mem_nil, or_false, List.getD_cons_zero, List.getD_cons_succ] at hv
  rcases hv with h | h | h | h | h | h | h | h
  · omega
  · omega
  · rw [h]; exact g _ (by simp)
  · rw [h]; exact g _ (by simp)
  · rw [h]; exact g _ (by simp)
  · rw [h]; exact g _ (by simp)
  · omega
  · omega
theorem daG_by {d : List Int} (hb : Bytes d) : Bytes (daG d) ∧ (daG d).length = d.length + 4 := by
  have hx := xorG_lt _ hb
  refine ⟨fun v hv => ?_, ?_⟩
  · simp only [daG, List.mem_append, List.mem_cons, List.not_mem_nil, or_false] at hv
    rcases hv with (h | h) | h | h | h
    · omega
    · exact hb v h
    · omega
    · omega
    · omega
  · simp [daG]
theorem okG_len {n : Nat} {s : GSec} (h : OkG n s) : (fldG (adG s.1)).length = 172 ∧ (fldG (daG s.2)).length = 132 + 160 * 2 ^ n := by
  obtain ⟨h4, hab, hdl, hdb⟩ := h
  obtain ⟨b1, l1⟩ := adG_by h4 hab
  obtain ⟨b2, l2⟩ := daG_by hdb
  rw [fldG_len b1, fldG_len b2, l1, l2, hdl]
  omega
/-- runs of at least ten set cells: where each begins and ends -/
structure Sy where
  f : List (Nat × Nat)
  c : Nat
  n : Nat
def syStep (s : Sy) (b : Int) : Sy := if b = 1 then ⟨s.f, s.c + 1, s.n + 1⟩ else ⟨if 10 ≤ s.c then s.f ++ [(s.n - s.c, s.n)] else s.f, 0, s.n + 1⟩
def syZ (cs : List Int) : Sy := cs.foldl syStep ⟨[], 0, 0⟩
theorem sy_n : ∀ (cs : List Int) (s : Sy), (cs.foldl syStep s).n = s.n + cs.length
  | [], _ => rfl
  | b :: r, s => by
    rw [List.foldl_cons, sy_n r, List.length_cons]
    unfold syStep
    split
    · show s.n + 1 + _ = _; omega
    · show s.n + 1 + _ = _; omega
theorem syZ_n (cs : List Int) : (syZ cs).n = cs.length := by
  unfold syZ
  rw [sy_n]
  exact Nat.zero_add _
theorem sy_c : ∀ (cs : List Int) (s : Sy), s.c ≤ s.n → (cs.foldl syStep s).c ≤ (cs.foldl syStep s).n
  | [], _, h => h
  | b :: r, s, h => by
    rw [List.foldl_cons]
    refine sy_c r _ ?_
    unfold syStep
    split
    · show s.c + 1 ≤ s.n + 1; omega
    · exact Nat.zero_le _
theorem syZ_c (cs : List Int) : (syZ cs).c ≤ cs.length := by
  have h := sy_c cs ⟨[], 0, 0⟩ (Nat.zero_le _)
  have h2 := syZ_n cs
  unfold syZ at h2 ⊢
  omega
theorem syZ_more {cs : List Int} {i : Nat} {b : Int} (h : cs[i]? = some b) : syZ (cs.take (i + 1)) = syStep (syZ (cs.take i)) b := by
  unfold syZ
  rw [take_more h, List.foldl_append]
  rfl
theorem sy_f : ∀ (cs : List Int) (s : Sy), s.f.length ≤ s.n → (cs.foldl syStep s).f.length ≤ (cs.foldl syStep s).n
  | [], _, h => h
  | b :: r, s, h => by
    rw [List.foldl_cons]
    refine sy_f r _ ?_
    unfold syStep
    split
    · show s.f.length ≤ s.n + 1; omega
    · show (if 10 ≤ s.c then s.f ++ [(s.n - s.c, s.n)] else s.f).length ≤ s.n + 1
      split
      · rw [List.length_append]; show s.f.length + 1 ≤ _; omega
      · omega
theorem syZ_f (cs : List Int) : (syZ cs).f.length ≤ cs.length := by
  have h := sy_f cs ⟨[], 0, 0⟩ (Nat.zero_le _)
  have h2 := syZ_n cs
  unfold syZ at h2 ⊢
  omega
def SyAt (H : Hp) (x : V) (s : Nat × Nat) : Prop := ∃ t, x = .ref t ∧ H t = some (.tup [.int (s.1 : Nat), .int (s.2 : Nat)])
theorem SyAt.same {H H' : Hp} {x : V} {s : Nat × Nat} (q : Same H H') (h : SyAt H x s) : SyAt H' x s := by
  obtain ⟨t, e, h⟩ := h
  exact ⟨t, e, q _ _ h⟩
theorem SyAt.ups {H : Hp} {D : Addr} {xs : List V} {o : HO} {x : V} {f : Nat × Nat} (hD : H D = some (.lst xs)) (h : SyAt H x f) : SyAt (L2.upd H D o) x f := by
  obtain ⟨t, e, h⟩ := h
  exact ⟨t, e, by rw [upd_ne (fun q => by subst q; rw [h] at hD; cases hD)]; exact h⟩
/-! what stands behind a place -/
theorem idxG_by (c : Int) : 0 ≤ idxG c ∧ idxG c < 16 := by
  unfold idxG
  split
  · rename_i h
    have h1 : GC.idxOf c < GC.length := List.idxOf_lt_length_iff.mpr h
    have h2 : GC.length = 16 := rfl
    omega
  · exact ⟨by decide, by decide⟩
theorem valsG_by (cs : List Int) (n : Nat) : Bytes (valsG cs n) := by
  intro x hx
  unfold valsG at hx
  obtain ⟨k, _, rfl⟩ := List.mem_map.mp hx
  have h1 := idxG_by (byteZ (grp cs (2 * k)))
  have h2 := idxG_by (byteZ (grp cs (2 * k + 1)))
  unfold numG
  omega
theorem valsG_len (cs : List Int) (n : Nat) : (valsG cs n).length = n := by
  unfold valsG
  rw [List.length_map, List.length_range]
def gpart (cs : List Int) (p e n : Nat) : List Int := (cs.drop p).take (min e (p + 10 * n) - p)
def gv (part : List Int) : List Int := valsG part (part.length / 10)
def gf (part : List Int) : List Int := faultsG part (2 * (part.length / 10))
def adrV (v f : List Int) : Option (List Int × Bool) := if v.length < 8 ∨ v.getD 0 0 ≠ 8 then none else
  some ([v.getD 3 0, v.getD 2 0, v.getD 5 0, v.getD 4 0], !(f.any fun z => decide (z < 12)) && decide ((xorG [v.getD 3 0, v.getD 2 0, v.getD 5 0, v.getD 4 0] : Int) = v.getD 1 0))
def datV (v f : List Int) (l : Nat) : Option (List Int × Bool) := if v.length < l + 2 ∨ v.getD 0 0 ≠ 7 then none else
  some ((v.drop 1).take l, f.isEmpty && decide ((xorG ((v.drop 1).take l) : Int) = v.getD (l + 1) 0))
def adrG (cs : List Int) (p e : Nat) : Option (List Int × Bool) := adrV (gv (gpart cs p e 8)) (gf (gpart cs p e 8))
def datG (cs : List Int) (p e l : Nat) : Option (List Int × Bool) := datV (gv (gpart cs p e (l + 2))) (gf (gpart cs p e (l + 2))) l
def OptG (H : Hp) (v : V) : Option (List Int × Bool) → Prop
  | none => v = .non
  | some r => ∃ t u, v = .ref t ∧ H t = some (.tup [.ref u, .bl r.2]) ∧ H u = some (.tup (r.1.map V.int))
theorem OptG.same {H H' : Hp} {v : V} {r : Option (List Int × Bool)} (q : Same H H') (h : OptG H v r) : OptG H' v r := by
  cases r with
  | none => exact h
  | some r => obtain ⟨t, u, e, h1, h2⟩ := h; exact ⟨t, u, e, q _ _ h1, q _ _ h2⟩
theorem sy_ord : ∀ (cs : List Int) (s : Sy), s.c ≤ s.n → (∀ x ∈ s.f, x.2 + s.c ≤ s.n) → s.f.Pairwise (fun a b => a.2 ≤ b.1) → (∀ x ∈ (cs.foldl syStep s).f, x.2 ≤ (cs.foldl syStep s).n) ∧ (cs.foldl syStep s).f.Pairwise (fun a b => a.2 ≤ b.1)
  | [], s, _, h1, h2 => ⟨fun x hx => by have := h1 x hx; show x.2 ≤ s.n; omega, h2⟩
  | b :: r, s, h0, h1, h2 => by
    rw [List.foldl_cons]
    unfold syStep
    by_cases c1 : b = 1
    · rw [if_pos c1]
      exact sy_ord r _ (by show s.c + 1 ≤ s.n + 1; omega) (fun x hx => by have := h1 x hx; show x.2 + (s.c + 1) ≤ s.n + 1; omega) h2
    · rw [if_neg c1]
      by_cases c10 : 10 ≤ s.c
      · rw [if_pos c10]
        refine sy_ord r _ (Nat.zero_le _) (fun x hx => ?_) ?_
        · show x.2 + 0 ≤ s.n + 1
          rcases List.mem_append.mp hx with h | h
          · have := h1 x h; omega
          · rw [List.mem_singleton.mp h]; show s.n + 0 ≤ s.n + 1; omega
        · refine List.pairwise_append.mpr ⟨h2, List.pairwise_singleton _ _, fun x hx y hy => ?_⟩
          rw [List.mem_singleton.mp hy]
          have := h1 x hx
          show x.2 ≤ s.n - s.c
          omega
      · rw [if_neg c10]
        exact sy_ord r _ (Nat.zero_le _) (fun x hx => by have := h1 x hx; show x.2 + 0 ≤ s.n + 1; omega) h2
theorem syZ_ord (cs : List Int) : (∀ x ∈ (syZ cs).f, x.2 ≤ cs.length) ∧ (syZ cs).f.Pairwise (fun a b => a.2 ≤ b.1) := by
  have h := sy_ord cs ⟨[], 0, 0⟩ (Nat.zero_le _) (fun x hx => by cases hx) .nil
  have h2 := syZ_n cs
  unfold syZ at h2 ⊢
  rw [h2] at h
  exact h
def endAt (fs : List (Nat × Nat)) (len j : Nat) : Nat := if j + 1 < fs.length then (fs.getD (j + 1) (0, 0)).1 else len
def endsG (fs : List (Nat × Nat)) (len : Nat) : List Int := ((fs.drop 1).map fun x => (x.1 : Int)) ++ [(len : Int)]
theorem endsG_at {fs : List (Nat × Nat)} {len j : Nat} (h : j < fs.length) : (endsG fs len)[j]? = some ((endAt fs len j : Nat) : Int) := by
  unfold endsG endAt
  by_cases c : j + 1 < fs.length
  · rw [if_pos c, List.getElem?_append_left (by rw [List.length_map, List.length_drop]; omega), List.getElem?_map, List.getElem?_drop, show 1 + j = j + 1 by omega, List.getD_eq_getElem?_getD, List.getElem?_eq_getElem c]
    rfl
  · rw [if_neg c, List.getElem?_append_right (by rw [List.length_map, List.length_drop]; omega), List.length_map, List.length_drop, show j - (fs.length - 1) = 0 by omega]
    rfl
theorem endAt_le {cs : List Int} {j : Nat} (h : j < (syZ cs).f.length) : ((syZ cs).f.getD j (0, 0)).2 ≤ endAt (syZ cs).f cs.length j := by
  obtain ⟨h1, h2⟩ := syZ_ord cs
  unfold endAt
  rw [List.getD_eq_getElem?_getD, List.getElem?_eq_getElem h]
  split
  · rename_i c
    rw [List.getD_eq_getElem?_getD, List.getElem?_eq_getElem c]
    exact List.pairwise_iff_getElem.mp h2 j (j + 1) h c (by omega)
  · exact h1 _ (List.getElem_mem _)
abbrev FS := List Fnd × Option (List Int × Bool)
def fgStep (cs : List Int) (l : Nat) (s : FS) (p e : Nat) : FS :=
  (match adrG cs p e with
    | some r => s.1 ++ [(p, r.1, r.2, none, false)]
    | none => match datG cs p e l, s.2 with
      | some d, some r => s.1.dropLast ++ [((s.1.getLastD (0, [], false, none, false)).1, r.1, r.2, some d.1, d.2)]
      | _, _ => s.1, adrG cs p e)
def stG (cs : List Int) (l : Nat) (fs : List (Nat × Nat)) (i : Nat) : FS := (List.range i).foldl (fun s j => fgStep cs l s (fs.getD j (0, 0)).2 (endAt fs cs.length j)) ([], none)
theorem stG_more (cs : List Int) (l : Nat) (fs : List (Nat × Nat)) (i : Nat) : stG cs l fs (i + 1) = fgStep cs l (stG cs l fs i) (fs.getD i (0, 0)).2 (endAt fs cs.length i) := by
  unfold stG
  rw [List.range_succ, List.foldl_append]
  rfl
def foundG (cs : List Int) (l : Nat) : List Fnd := (stG cs l (syZ cs).f (syZ cs).f.length).1
theorem stG_ne (cs : List Int) (l : Nat) (fs : List (Nat × Nat)) : ∀ i, (stG cs l fs i).2 ≠ none → (stG cs l fs i).1 ≠ []
  | 0, h => absurd rfl h
  | i + 1, h => by
    rw [stG_more] at h ⊢
    unfold fgStep at h ⊢
    simp only at h ⊢
    cases ha : adrG cs (fs.getD i (0, 0)).2 (endAt fs cs.length i) with
    | none => exact absurd ha h
    | some r => simp
theorem stG_len (cs : List Int) (l : Nat) (fs : List (Nat × Nat)) : ∀ i, (stG cs l fs i).1.length ≤ i
  | 0 => Nat.le_refl _
  | i + 1 => by
    have ih := stG_len cs l fs i
    rw [stG_more]
    unfold fgStep
    simp only
    cases ha : adrG cs (fs.getD i (0, 0)).2 (endAt fs cs.length i) with
    | some r => simp only [List.length_append, List.length_cons, List.length_nil]; omega
    | none =>
      simp only
      cases hd : datG cs (fs.getD i (0, 0)).2 (endAt fs cs.length i) l with
      | none => simp only; omega
      | some d =>
        cases hl : (stG cs l fs i).2 with
        | none => simp only; omega
        | some r =>
          have hne := stG_ne cs l fs i (by rw [hl]; exact fun h => by cases h)
          have : 0 < (stG cs l fs i).1.length := List.length_pos_iff.mpr hne
          simp only [List.length_append, List.length_cons, List.length_nil, List.length_dropLast]
          omega
theorem OptG.ups {H : Hp} {D : Addr} {xs : List V} {o : HO} {v : V} {r : Option (List Int × Bool)} (hD : H D = some (.lst xs)) (h : OptG H v r) : OptG (L2.upd H D o) v r := by
  cases r with
  | none => exact h
  | some r =>
    obtain ⟨t, u, e, h1, h2⟩ := h
    exact ⟨t, u, e, by rw [upd_ne (fun q => by subst q; rw [h1] at hD; cases hD)]; exact h1, by rw [upd_ne (fun q => by subst q; rw [h2] at hD; cases hD)]; exact h2⟩
theorem cutV_from1 (xs : List V) : cutV xs (some 1) none = xs.drop 1 := by
  unfold cutV
  have h : HT.sIx xs.length 0 (some 1) = min 1 xs.length := sIx_nat _ _ 1
  rw [h]
  show (xs.drop (min 1 xs.length)).take (xs.length - min 1 xs.length) = _
  cases xs with
  | nil => rfl
  | cons x r =>
    rw [show min 1 (x :: r).length = 1 by rw [List.length_cons]; omega]
    rw [List.take_of_length_le (by rw [List.length_drop]; exact Nat.le_refl _)]
def PairD (D : Addr) (H : Hp) (x : V) (s : GSec) : Prop := ∃ t p q, x = .ref t ∧ H t = some (.tup [.ref p, .ref q]) ∧ H p = some (.tup (s.1.map V.int)) ∧ H q = some (IL s.2) ∧ q ≠ D
theorem PairD.at {D : Addr} {H : Hp} {x : V} {s : GSec} (h : PairD D H x s) : PairAt H x s := by
  obtain ⟨t, a, b, e, h1, h2, h3, _⟩ := h
  exact ⟨t, a, b, e, h1, h2, h3⟩
theorem PairD.same {D : Addr} {H H' : Hp} {x : V} {s : GSec} (q : Same H H') (h : PairD D H x s) : PairD D H' x s := by
  obtain ⟨t, a, b, e, h1, h2, h3, n⟩ := h
  exact ⟨t, a, b, e, q _ _ h1, q _ _ h2, q _ _ h3, n⟩
theorem pool_il {H : Hp} {p q b : Addr} {ns : List Int} (hP : Pool H p q) (h : H b = some (IL ns)) : b ≠ p := by
  obtain ⟨ms, a, b2, c, d, h1, _⟩ := hP
  intro e
  rw [e, h1] at h
  unfold PoolL IL at h
  cases ns with
  | nil => simp at h
  | cons n r => simp at h
theorem pool_tup {H : Hp} {p q b : Addr} {xs : List V} (hP : Pool H p q) (h : H b = some (.tup xs)) : b ≠ p := by
  obtain ⟨ms, a, b2, c, d, h1, _⟩ := hP
  intro e
  rw [e, h1] at h
  unfold PoolL at h
  cases h
theorem PairD.sameB {D p q : Addr} {H H' : Hp} {x : V} {s : GSec} (hP : Pool H p q) (k : SameB p H H') (h : PairD D H x s) : PairD D H' x s := by
  obtain ⟨t, a, b, e, h1, h2, h3, n⟩ := h
  exact ⟨t, a, b, e, k _ _ (pool_tup hP h1) h1, k _ _ (pool_tup hP h2) h2, k _ _ (pool_il hP h3) h3, n⟩
theorem PairD.ups {D : Addr} {H : Hp} {xs : List V} {o : HO} {x : V} {s : GSec} (hD : H D = some (.lst xs)) (h : PairD D H x s) : PairD D (L2.upd H D o) x s := by
  obtain ⟨t, a, b, e, h1, h2, h3, n⟩ := h
  exact ⟨t, a, b, e, by rw [upd_ne (fun q => by subst q; rw [h1] at hD; cases hD)]; exact h1, by rw [upd_ne (fun q => by subst q; rw [h2] at hD; cases hD)]; exact h2, by rw [upd_ne n]; exact h3, n⟩
end Dw

/-! group-coded tracks are found again -/
namespace Dw
open PySem PySem.Spec PyProof.Rows L2
theorem sy_quiet : ∀ (xs : List Int) (f : List (Nat × Nat)) (c n : Nat), okR 1 9 c xs = true → xs.foldl syStep ⟨f, c, n⟩ = ⟨f, endR 1 c xs, n + xs.length⟩ ∧ endR 1 c xs < 9
  | [], f, c, n, h => ⟨rfl, okR_lt h⟩
  | x :: r, f, c, n, h => by
    have h0 := okR_lt h
    rw [List.foldl_cons, List.length_cons]
    by_cases e : x = 1
    · have h1 : okR 1 9 (c + 1) r = true := by
        unfold okR at h
        simp only [e, if_true, Bool.and_eq_true] at h
        simp_all
      have := sy_quiet r f (c + 1) (n + 1) h1
      unfold syStep endR
      rw [if_pos e, if_pos e, show n + (r.length + 1) = n + 1 + r.length by omega]
      exact this
    · have h1 : okR 1 9 0 r = true := by
        unfold okR at h
        simp only [if_neg e, Bool.and_eq_true] at h
        simp_all
      have := sy_quiet r f 0 (n + 1) h1
      unfold syStep endR
      rw [if_neg e, if_neg e, show n + (r.length + 1) = n + 1 + r.length by omega]
      simp only [if_neg (show ¬ 10 ≤ c by omega)]
      exact this
theorem gap_runs : ∀ c, c < 9 → okR 1 9 c gapG = true ∧ endR 1 c gapG = 1 := by decide +kernel
theorem sy_gap (f : List (Nat × Nat)) {c n : Nat} (h : c < 9) : gapG.foldl syStep ⟨f, c, n⟩ = ⟨f, 1, n + 72⟩ := by
  obtain ⟨h1, h2⟩ := gap_runs c h
  rw [(sy_quiet gapG f c n h1).1, h2, gapG_len]
theorem gcrZ_cons {b : Int} {ns : List Int} : gcrZ (b :: ns) = codeZ (b.toNat / 16) ++ (codeZ (b.toNat % 16) ++ gcrZ ns) := by
  show (codeZ (b.toNat / 16) ++ codeZ (b.toNat % 16)) ++ gcrZ ns = _
  rw [List.append_assoc]
theorem sy_fld (f : List (Nat × Nat)) {b : Int} {ns : List Int} {n : Nat} (hb : 0 ≤ b ∧ b < 16) (hn : Bytes ns) : (fldG (b :: ns)).foldl syStep ⟨f, 1, n⟩ = ⟨f ++ [(n - 1, n + 20)], 1, n + (fldG (b :: ns)).length⟩ := by
  have hbs : Bytes (b :: ns) := fun x hx => by
    rcases List.mem_cons.mp hx with h | h
    · subst h; omega
    · exact hn x h
  have hl := fldG_len hbs
  rw [hl]
  unfold fldG
  rw [List.foldl_append, List.foldl_append, gcrZ_cons, List.foldl_append]
  have h1 : (List.replicate 20 (1 : Int)).foldl syStep ⟨f, 1, n⟩ = ⟨f, 21, n + 20⟩ := rfl
  have h2 : (codeZ (b.toNat / 16)).foldl syStep ⟨f, 21, n + 20⟩ = ⟨f ++ [(n + 20 - 21, n + 20)], 1, n + 25⟩ := by
    rw [show b.toNat / 16 = 0 by omega]
    rfl
  rw [h1, h2]
  obtain ⟨r1, r2⟩ := runs1 (b.toNat % 16) (by omega) 1 (by decide)
  have r3 := gcr_runs (v := 1) (k := 9) (m := 5) (by decide) runs1 ns (endR 1 1 (codeZ (b.toNat % 16))) hn r2
  have r4 := okR_append 1 9 _ _ 1 r1 r3
  obtain ⟨q1, q2⟩ := sy_quiet _ (f ++ [(n + 20 - 21, n + 20)]) 1 (n + 25) r4
  rw [q1, sy_gap _ q2, List.length_append, codeZ_len (by omega), gcrZ_len ns hn, List.length_cons]
  rw [show n + 20 - 21 = n - 1 by omega, show n + 25 + (5 + 10 * ns.length) + 72 = n + (92 + 10 * (ns.length + 1)) by omega]
def plG (L : Nat) : Nat → List GSec → List (Nat × Nat)
  | _, [] => []
  | n, _ :: r => (n - 1, n + 20) :: (n + 171, n + 192) :: plG L (n + 172 + L) r
theorem sy_group {z : Nat} : ∀ (ss : List GSec) (f : List (Nat × Nat)) (n : Nat), (∀ s ∈ ss, OkG z s) → (ss.flatMap fun s => fldG (adG s.1) ++ fldG (daG s.2)).foldl syStep ⟨f, 1, n⟩ = ⟨f ++ plG (132 + 160 * 2 ^ z) n ss, 1, n + ss.length * (172 + (132 + 160 * 2 ^ z))⟩
  | [], f, n, _ => by
    show (⟨f, 1, n⟩ : Sy) = ⟨f ++ [], 1, n + 0 * _⟩
    rw [List.append_nil, Nat.zero_mul]
    rfl
  | s :: r, f, n, h => by
    have hs := h s List.mem_cons_self
    obtain ⟨l1, l2⟩ := okG_len hs
    obtain ⟨h4, hab, hdl, hdb⟩ := hs
    obtain ⟨b1, _⟩ := adG_by h4 hab
    obtain ⟨b2, _⟩ := daG_by hdb
    have e1 : adG s.1 = 8 :: (adG s.1).drop 1 := rfl
    have e2 : daG s.2 = 7 :: (daG s.2).drop 1 := rfl
    rw [List.flatMap_cons, List.foldl_append, List.foldl_append]
    rw [e1] at l1 ⊢
    rw [e2] at l2 ⊢
    rw [sy_fld f (by omega) (fun x hx => b1 x (List.mem_of_mem_drop hx)), l1, sy_fld _ (by omega) (fun x hx => b2 x (List.mem_of_mem_drop hx)), l2, sy_group r _ _ fun t ht => h t (List.mem_cons_of_mem _ ht)]
    show (⟨_, 1, _⟩ : Sy) = ⟨f ++ ((n - 1, n + 20) :: (n + 171, n + 192) :: plG (132 + 160 * 2 ^ z) (n + 172 + (132 + 160 * 2 ^ z)) r), 1, _⟩
    have hm := Nat.succ_mul r.length (172 + (132 + 160 * 2 ^ z))
    have hm : (r.length + 1) * (172 + (132 + 160 * 2 ^ z)) = r.length * (172 + (132 + 160 * 2 ^ z)) + (172 + (132 + 160 * 2 ^ z)) := hm
    rw [List.append_assoc, List.append_assoc, List.length_cons, hm]
    congr 1
    omega
theorem groupZ_flat (ss : List GSec) : groupZ ss = gapG ++ ss.flatMap fun s => fldG (adG s.1) ++ fldG (daG s.2) := by
  have : ∀ (l : List GSec) (c : List Int), l.foldl (fun c s => c ++ fldG (adG s.1) ++ fldG (daG s.2)) c = c ++ l.flatMap fun s => fldG (adG s.1) ++ fldG (daG s.2) := by
    intro l
    induction l with
    | nil => intro c; rw [List.flatMap_nil, List.append_nil]; rfl
    | cons s r ih =>
      intro c
      rw [List.foldl_cons, ih, List.flatMap_cons]
      simp only [List.append_assoc]
  exact this ss gapG
theorem sy_all {z : Nat} {ss : List GSec} {T : List Int} (h : ∀ s ∈ ss, OkG z s) (hT : okR 1 9 1 T = true) : (syZ (groupZ ss ++ T)).f = plG (132 + 160 * 2 ^ z) 72 ss := by
  unfold syZ
  rw [groupZ_flat, List.foldl_append, List.foldl_append, sy_gap [] (by decide), sy_group ss [] _ h, (sy_quiet T _ _ _ hT).1]
  rfl
/-! the same by the list of the places -/
def hdG (len : Nat) : List (Nat × Nat) → Nat
  | [] => len
  | x :: _ => x.1
def stL (cs : List Int) (l : Nat) : FS → List (Nat × Nat) → FS
  | s, [] => s
  | s, (_, p) :: r => stL cs l (fgStep cs l s p (hdG cs.length r)) r
theorem stL_eq (cs : List Int) (l : Nat) (fs : List (Nat × Nat)) : ∀ (r pre : List (Nat × Nat)), fs = pre ++ r → stL cs l (stG cs l fs pre.length) r = stG cs l fs fs.length
  | [], pre, h => by rw [h, List.append_nil]; rfl
  | (a, p) :: r, pre, h => by
    have ih := stL_eq cs l fs r (pre ++ [(a, p)]) (by rw [h, List.append_assoc]; rfl)
    rw [List.length_append, show pre.length + [(a, p)].length = pre.length + 1 from rfl, stG_more] at ih
    have hg : fs.getD pre.length (0, 0) = (a, p) := by
      rw [h, List.getD_eq_getElem?_getD, List.getElem?_append_right (Nat.le_refl _), Nat.sub_self]
      rfl
    have he : endAt fs cs.length pre.length = (hdG cs.length r) := by
      unfold endAt
      cases r with
      | nil => rw [if_neg (by rw [h, List.length_append]; show ¬ pre.length + 1 < pre.length + 1; omega)]; rfl
      | cons x r =>
        rw [if_pos (by rw [h, List.length_append, List.length_cons, List.length_cons]; omega)]
        rw [h, List.getD_eq_getElem?_getD, List.getElem?_append_right (by omega), show pre.length + 1 - pre.length = 1 by omega]
        rfl
    rw [hg, he] at ih
    exact ih
theorem foundG_eq (cs : List Int) (l : Nat) : foundG cs l = (stL cs l ([], none) (syZ cs).f).1 := by
  unfold foundG
  have := stL_eq cs l (syZ cs).f (syZ cs).f [] rfl
  rw [← this]
  rfl
theorem gcrZ_app (a b : List Int) : gcrZ (a ++ b) = gcrZ a ++ gcrZ b := by
  unfold gcrZ
  rw [List.map_append, List.flatten_append]
theorem h20 (R : List Int) : (List.replicate 20 1 ++ R).drop 20 = R := rfl
theorem gpart_eq {X V W cs : List Int} {e n : Nat} (hcs : cs = X ++ (List.replicate 20 1 ++ gcrZ (V ++ W))) (he : X.length + 20 + 10 * n ≤ e) (hV : Bytes V) (hl : V.length = n) : gpart cs (X.length + 20) e n = gcrZ V := by
  have hgl := gcrZ_len V hV
  unfold gpart
  rw [show min e (X.length + 20 + 10 * n) - (X.length + 20) = 10 * n by omega, hcs, ← List.drop_drop, List.drop_left, h20, gcrZ_app, ← hl, ← hgl, List.take_left]
theorem gpart_more {X V R cs : List Int} {e n : Nat} (hcs : cs = X ++ (List.replicate 20 1 ++ (gcrZ V ++ R))) (he : X.length + 20 + 10 * n ≤ e) (hV : Bytes V) (hl : V.length = n) : gpart cs (X.length + 20) e n = gcrZ V := by
  have hgl := gcrZ_len V hV
  unfold gpart
  rw [show min e (X.length + 20 + 10 * n) - (X.length + 20) = 10 * n by omega, hcs, ← List.drop_drop, List.drop_left, h20, ← hl, ← hgl, List.take_left]
theorem gv_gcr {V : List Int} (hV : Bytes V) : gv (gcrZ V) = V ∧ gf (gcrZ V) = [] := by
  have hgl := gcrZ_len V hV
  have h1 := gcr_vals (rest := []) hV
  have h2 := gcr_faults (rest := []) hV
  rw [List.append_nil] at h1 h2
  unfold gv gf
  rw [hgl, show 10 * V.length / 10 = V.length by omega]
  exact ⟨h1, h2⟩
theorem adr_there {s : GSec} {z : Nat} (h : OkG z s) : adrV (adG s.1) [] = some (s.1, true) := by
  obtain ⟨⟨a, b, c, d, ha⟩, hab, hdl, hdb⟩ := h
  rw [ha]
  unfold adrV adG
  rw [if_neg (fun h => h.elim (fun h => absurd h (by show ¬ (8 < 8); decide)) (fun h => h rfl))]
  show some ([a, b, c, d], !false && decide ((xorG [a, b, c, d] : Int) = (xorG [a, b, c, d] : Int))) = _
  rw [decide_eq_true rfl]
  rfl
theorem dat_there {d : List Int} {l : Nat} (hl : d.length = l) : datV ([7] ++ d ++ [(xorG d : Int)]) [] l = some (d, true) := by
  unfold datV
  have h1 : ([7] ++ d ++ [(xorG d : Int)]).length = l + 2 := by simp [hl]
  have h2 : ([7] ++ d ++ [(xorG d : Int)]).getD 0 0 = 7 := rfl
  have h3 : (([7] ++ d ++ [(xorG d : Int)]).drop 1).take l = d := by
    show (d ++ [(xorG d : Int)]).take l = d
    rw [← hl, List.take_left]
  have h4 : ([7] ++ d ++ [(xorG d : Int)]).getD (l + 1) 0 = (xorG d : Int) := by
    rw [List.getD_eq_getElem?_getD, List.getElem?_append_right (by simp [hl]), show l + 1 - ([7] ++ d : List Int).length = 0 by simp [hl]]
    rfl
  rw [if_neg (fun h => h.elim (fun h => by omega) (fun h => h h2)), h3, h4, decide_eq_true rfl]
  rfl
def dueG (L : Nat) : Nat → List GSec → List Fnd
  | _, [] => []
  | n, s :: r => (n + 20, s.1, true, some s.2, true) :: dueG L (n + 172 + L) r
theorem st_group {z : Nat} {T : List Int} : ∀ (ss : List GSec) (X : List Int) (out : List Fnd), (∀ s ∈ ss, OkG z s) → ∀ cs, cs = X ++ ((ss.flatMap fun s => fldG (adG s.1) ++ fldG (daG s.2)) ++ T) →
    (stL cs (16 * 2 ^ z) (out, none) (plG (132 + 160 * 2 ^ z) X.length ss)).1 = out ++ dueG (132 + 160 * 2 ^ z) X.length ss
  | [], X, out, _, cs, _ => by
    show out = out ++ []
    rw [List.append_nil]
  | s :: r, X, out, h, cs, hcs => by
    have hs := h s List.mem_cons_self
    obtain ⟨l1, l2⟩ := okG_len hs
    obtain ⟨b1, c1⟩ := adG_by hs.1 hs.2.1
    obtain ⟨b2, c2⟩ := daG_by hs.2.2.2
    have hdl := hs.2.2.1
    have h2z : 1 ≤ 2 ^ z := Nat.one_le_two_pow
    -- the two fields, and what is behind them
    have e1 : cs = X ++ (List.replicate 20 1 ++ (gcrZ (adG s.1) ++ (gapG ++ (fldG (daG s.2) ++ ((r.flatMap fun s => fldG (adG s.1) ++ fldG (daG s.2)) ++ T))))) := by
      rw [hcs, List.flatMap_cons]
      unfold fldG
      simp only [List.append_assoc]
    have eX : (X ++ fldG (adG s.1)).length = X.length + 172 := by rw [List.length_append, l1]
    have e2 : cs = (X ++ fldG (adG s.1)) ++ (List.replicate 20 1 ++ (gcrZ ([7] ++ s.2 ++ [(xorG s.2 : Int)]) ++ (gcrZ [0, 0] ++ (gapG ++ ((r.flatMap fun s => fldG (adG s.1) ++ fldG (daG s.2)) ++ T))))) := by
      rw [hcs, List.flatMap_cons]
      have : gcrZ (daG s.2) = gcrZ ([7] ++ s.2 ++ [(xorG s.2 : Int)]) ++ gcrZ [0, 0] := by
        rw [← gcrZ_app]
        unfold daG
        simp only [List.append_assoc]
        rfl
      unfold fldG
      rw [this]
      simp only [List.append_assoc]
    have hb3 : Bytes ([7] ++ s.2 ++ [(xorG s.2 : Int)]) := by
      have hx := xorG_lt _ hs.2.2.2
      intro v hv
      simp only [List.mem_append, List.mem_cons, List.not_mem_nil, or_false] at hv
      rcases hv with (h | h) | h
      · omega
      · exact hs.2.2.2 v h
      · omega
    have hl3 : ([7] ++ s.2 ++ [(xorG s.2 : Int)]).length = 16 * 2 ^ z + 2 := by simp [hdl]
    have hend : X.length + 172 + (132 + 160 * 2 ^ z) - 1 ≤ cs.length := by
      rw [hcs, List.flatMap_cons]
      simp only [List.length_append, l1, l2]
      omega
    -- where the data's part ends
    obtain ⟨ee, hee, hle⟩ : ∃ ee, (hdG cs.length (plG (132 + 160 * 2 ^ z) (X.length + 172 + (132 + 160 * 2 ^ z)) r)) = ee ∧ X.length + 172 + (132 + 160 * 2 ^ z) - 1 ≤ ee := by
      cases r with
      | nil => exact ⟨cs.length, rfl, hend⟩
      | cons t r => exact ⟨_, rfl, Nat.le_refl _⟩
    have a1 : adrG cs (X.length + 20) (X.length + 171) = some (s.1, true) := by
      unfold adrG
      rw [gpart_more e1 (by omega) b1 c1, (gv_gcr b1).1, (gv_gcr b1).2]
      exact adr_there hs
    have p2 : X.length + 192 = (X ++ fldG (adG s.1)).length + 20 := by rw [eX]
    have d2 : datG cs (X.length + 192) ee (16 * 2 ^ z) = some (s.2, true) := by
      unfold datG
      rw [p2, gpart_more e2 (by rw [eX]; omega) hb3 hl3, (gv_gcr hb3).1, (gv_gcr hb3).2]
      exact dat_there hdl
    have a2 : adrG cs (X.length + 192) ee = none := by
      have hb8 : Bytes (([7] ++ s.2 ++ [(xorG s.2 : Int)]).take 8) := fun x hx => hb3 x (List.mem_of_mem_take hx)
      have hl8 : (([7] ++ s.2 ++ [(xorG s.2 : Int)]).take 8).length = 8 := by rw [List.length_take, hl3]; omega
      have e4 : cs = (X ++ fldG (adG s.1)) ++ (List.replicate 20 1 ++ (gcrZ (([7] ++ s.2 ++ [(xorG s.2 : Int)]).take 8) ++ (gcrZ (([7] ++ s.2 ++ [(xorG s.2 : Int)]).drop 8) ++ (gcrZ [0, 0] ++ (gapG ++ ((r.flatMap fun s => fldG (adG s.1) ++ fldG (daG s.2)) ++ T)))))) := by
        have e5 : gcrZ ([7] ++ s.2 ++ [(xorG s.2 : Int)]) = gcrZ (([7] ++ s.2 ++ [(xorG s.2 : Int)]).take 8) ++ gcrZ (([7] ++ s.2 ++ [(xorG s.2 : Int)]).drop 8) := by rw [← gcrZ_app, List.take_append_drop]
        rw [e5, List.append_assoc (gcrZ _)] at e2
        exact e2
      unfold adrG
      rw [p2, gpart_more e4 (by rw [eX]; omega) hb8 hl8, (gv_gcr hb8).1, (gv_gcr hb8).2]
      unfold adrV
      rw [if_pos (.inr (by show ¬ (7 : Int) = 8; decide))]
    have ih := st_group (T := T) r (X ++ (fldG (adG s.1) ++ fldG (daG s.2))) (out ++ [(X.length + 20, s.1, true, some s.2, true)]) (fun t ht => h t (List.mem_cons_of_mem _ ht)) cs (by rw [hcs, List.flatMap_cons]; simp only [List.append_assoc])
    have eXX : (X ++ (fldG (adG s.1) ++ fldG (daG s.2))).length = X.length + 172 + (132 + 160 * 2 ^ z) := by rw [List.length_append, List.length_append, l1, l2]; omega
    rw [eXX] at ih
    show (stL cs (16 * 2 ^ z) (fgStep cs (16 * 2 ^ z) (fgStep cs (16 * 2 ^ z) (out, none) (X.length + 20) (X.length + 171)) (X.length + 192) (hdG cs.length (plG (132 + 160 * 2 ^ z) (X.length + 172 + (132 + 160 * 2 ^ z)) r))) (plG (132 + 160 * 2 ^ z) (X.length + 172 + (132 + 160 * 2 ^ z)) r)).1 = _
    rw [hee]
    have s1 : fgStep cs (16 * 2 ^ z) (out, none) (X.length + 20) (X.length + 171) = (out ++ [(X.length + 20, s.1, true, none, false)], some (s.1, true)) := by
      unfold fgStep
      rw [a1]
    have s2 : fgStep cs (16 * 2 ^ z) (out ++ [(X.length + 20, s.1, true, none, false)], some (s.1, true)) (X.length + 192) ee = (out ++ [(X.length + 20, s.1, true, some s.2, true)], none) := by
      unfold fgStep
      rw [a2, d2]
      simp only [List.dropLast_concat, List.getLastD_concat]
    rw [s1, s2, ih, List.append_assoc]
    rfl
theorem found_group {z : Nat} {ss : List GSec} {T : List Int} (h : ∀ s ∈ ss, OkG z s) (hT : okR 1 9 1 T = true) : foundG (groupZ ss ++ T) (16 * 2 ^ z) = dueG (132 + 160 * 2 ^ z) 72 ss := by
  rw [foundG_eq, sy_all h hT]
  have := st_group (T := T) ss gapG [] h (groupZ ss ++ T) (by rw [groupZ_flat, List.append_assoc])
  rw [gapG_len] at this
  exact this
theorem dueG_app (L : Nat) : ∀ (a b : List GSec) (n : Nat), dueG L n (a ++ b) = dueG L n a ++ dueG L (n + a.length * (172 + L)) b
  | [], b, n => by
    rw [List.nil_append, List.length_nil, Nat.zero_mul, Nat.add_zero]
    rfl
  | s :: r, b, n => by
    have ih := dueG_app L r b (n + 172 + L)
    have hm : (r.length + 1) * (172 + L) = r.length * (172 + L) + (172 + L) := Nat.succ_mul _ _
    show (n + 20, s.1, true, some s.2, true) :: dueG L (n + 172 + L) (r ++ b) = (n + 20, s.1, true, some s.2, true) :: (dueG L (n + 172 + L) r ++ _)
    rw [ih, List.length_cons, hm, show n + 172 + L + r.length * (172 + L) = n + (r.length * (172 + L) + (172 + L)) by omega]
theorem dueG_more {L n i : Nat} {ss : List GSec} {s : GSec} (h : ss[i]? = some s) : dueG L n (ss.take (i + 1)) = dueG L n (ss.take i) ++ [(n + i * (172 + L) + 20, s.1, true, some s.2, true)] := by
  have hi := (List.getElem?_eq_some_iff.mp h).1
  rw [take_more h, dueG_app, List.length_take, Nat.min_eq_left (by omega)]
  rfl
theorem dueG_len (L : Nat) : ∀ (ss : List GSec) (n : Nat), (dueG L n ss).length = ss.length
  | [], _ => rfl
  | s :: r, n => by
    show (dueG L (n + 172 + L) r).length + 1 = _
    rw [dueG_len L r, List.length_cons]
def fndD (f : Fnd) : PyData := .tuple [.int (f.1 : Nat), .tuple (f.2.1.map PyData.int), .bool f.2.2.1, (match f.2.2.2.1 with | none => .none | some d => .tuple (d.map PyData.int)), .bool f.2.2.2.2]
theorem FndAt.dt {H : Hp} {x : V} {f : Fnd} (h : FndAt H x f) : Dt H x (fndD f) := by
  obtain ⟨t, ta, v, rfl, h1, h2, h3⟩ := h
  have hv : Dt H v (match f.2.2.2.1 with | none => .none | some d => .tuple (d.map PyData.int)) := by
    rcases h3 with ⟨e, rfl⟩ | ⟨b, ns, e, rfl, h4⟩
    · rw [e]; exact .non
    · rw [e]; exact dt_tupI h4
  exact .tup h1 (.cons (.int _) (.cons (dt_tupI h2) (.cons (.bl _) (.cons hv (.cons (.bl _) .nil)))))
theorem fnd_shal : ∀ fs : List Fnd, ShalAll (fs.map fndD) 6
  | [] => .nil
  | f :: r => by
    have hv : Shal (match f.2.2.2.1 with | none => PyData.none | some d => .tuple (d.map PyData.int)) 5 := by
      cases f.2.2.2.1 with
      | none => exact .non
      | some d => exact .tup .ints
    exact .cons (.tup (.cons .int (.cons (.tup .ints) (.cons .bl (.cons hv (.cons .bl .nil)))))) (fnd_shal r)
theorem FndAt.sameB {p q : Addr} {H H' : Hp} {x : V} {f : Fnd} (hP : Pool H p q) (k : SameB p H H') (h : FndAt H x f) : FndAt H' x f := by
  obtain ⟨t, ta, v, rfl, h1, h2, h3⟩ := h
  refine ⟨t, ta, v, rfl, k _ _ (pool_tup hP h1) h1, k _ _ (pool_tup hP h2) h2, ?_⟩
  rcases h3 with h3 | ⟨b, ns, e, e2, h4⟩
  · exact .inl h3
  · exact .inr ⟨b, ns, e, e2, k _ _ (pool_tup hP h4) h4⟩
theorem tail_quiet : ∀ k, k < 9 → okR 1 9 1 (rep ((k : Nat) : Int) [0, 1, 0, 1, 0, 1, 0, 1]) = true ∧ okR 1 9 1 (rep ((k : Nat) : Int) [0]) = true := by decide +kernel
theorem groupZ_len {z : Nat} {ss : List GSec} (h : ∀ s ∈ ss, OkG z s) : (groupZ ss).length = 72 + ss.length * (172 + (132 + 160 * 2 ^ z)) := by
  have h1 := syZ_n (groupZ ss)
  rw [← h1]
  unfold syZ
  rw [groupZ_flat, List.foldl_append, sy_gap [] (by decide), sy_group ss [] _ h, Nat.zero_add]
end Dw

/-! what is read of a prefix -/
namespace Dw
open PySem PySem.Spec PyProof.Rows L2
theorem grp_take {cs : List Int} {m i : Nat} (h : 5 * i + 5 ≤ m) : grp (cs.take m) i = grp cs i := by
  unfold grp
  rw [List.drop_take, List.take_take, Nat.min_eq_left (by omega)]
theorem numG_take {cs : List Int} {m i : Nat} (h : 5 * i + 5 ≤ m) : numG (cs.take m) i = numG cs i := by unfold numG; rw [grp_take h]
theorem badG_take {cs : List Int} {m i : Nat} (h : 5 * i + 5 ≤ m) : badG (cs.take m) i = badG cs i := by unfold badG; rw [grp_take h]
def vG (cs : List Int) (k : Nat) : Int := 16 * numG cs (2 * k) + numG cs (2 * k + 1)
theorem valsG_take {cs : List Int} {m n : Nat} (h : 10 * n ≤ m) : valsG (cs.take m) n = valsG cs n := by
  unfold valsG
  refine List.map_congr_left fun k hk => ?_
  have := List.mem_range.mp hk
  rw [numG_take (by omega), numG_take (by omega)]
theorem faultsG_take {cs : List Int} {m n : Nat} (h : 10 * n ≤ m) : faultsG (cs.take m) (2 * n) = faultsG cs (2 * n) := by
  unfold faultsG
  congr 1
  refine List.filter_congr fun k hk => ?_
  have := List.mem_range.mp hk
  rw [badG_take (by omega)]
theorem valsG_get {cs : List Int} {n i : Nat} (h : i < n) : (valsG cs n).getD i 0 = vG cs i := by
  unfold valsG
  rw [List.getD_eq_getElem?_getD, List.getElem?_map, List.getElem?_range h]
  rfl
theorem vG_by (cs : List Int) (k : Nat) : 0 ≤ vG cs k ∧ vG cs k < 256 := by
  have h := valsG_by cs (k + 1)
  have h2 := valsG_get (cs := cs) (n := k + 1) (i := k) (by omega)
  rw [← h2, List.getD_eq_getElem?_getD, List.getElem?_eq_getElem (by rw [valsG_len]; omega)]
  exact h _ (List.getElem_mem _)
def dG (cs : List Int) (l : Nat) : List Int := (List.range l).map fun k => vG cs (k + 1)
theorem valsG_cut {cs : List Int} {n l : Nat} (h : l + 1 ≤ n) : ((valsG cs n).drop 1).take l = dG cs l := by
  apply List.ext_getElem?
  intro i
  unfold dG
  by_cases c : i < l
  · rw [List.getElem?_take_of_lt c, List.getElem?_drop, List.getElem?_map, List.getElem?_range c]
    unfold valsG
    rw [List.getElem?_map, List.getElem?_range (by omega), show 1 + i = i + 1 by omega]
    rfl
  · rw [List.getElem?_eq_none_iff.mpr (by rw [List.length_take]; omega), List.getElem?_eq_none_iff.mpr (by rw [List.length_map, List.length_range]; omega)]
theorem dG_by (cs : List Int) (l : Nat) : Bytes (dG cs l) := by
  intro x hx
  unfold dG at hx
  obtain ⟨k, _, rfl⟩ := List.mem_map.mp hx
  exact vG_by cs _
theorem faults_any {cs : List Int} {n k : Nat} (h : k ≤ n) : ((faultsG cs n).any fun z => decide (z < (k : Int))) = (List.range k).any (badG cs) := by
  rw [Bool.eq_iff_iff, List.any_eq_true, List.any_eq_true]
  unfold faultsG
  constructor
  · rintro ⟨z, hz, hk⟩
    obtain ⟨i, hi, rfl⟩ := List.mem_map.mp hz
    obtain ⟨h1, h2⟩ := List.mem_filter.mp hi
    have := of_decide_eq_true hk
    exact ⟨i, List.mem_range.mpr (by omega), h2⟩
  · rintro ⟨i, hi, hb⟩
    have := List.mem_range.mp hi
    exact ⟨(i : Int), List.mem_map.mpr ⟨i, List.mem_filter.mpr ⟨List.mem_range.mpr (by omega), hb⟩, rfl⟩, decide_eq_true (by omega)⟩
theorem faults_len {cs : List Int} {n k : Nat} (h : k ≤ n) : decide ((((faultsG cs n).filter fun z => decide (z < (k : Int))).length : Int) = 0) = !((List.range k).any (badG cs)) := by
  rw [← faults_any h]
  cases hc : (faultsG cs n).any fun z => decide (z < (k : Int)) with
  | true =>
    obtain ⟨z, hz, hk⟩ := List.any_eq_true.mp hc
    refine decide_eq_false fun h0 => ?_
    have : z ∈ (faultsG cs n).filter fun z => decide (z < (k : Int)) := List.mem_filter.mpr ⟨hz, hk⟩
    have h1 := List.length_pos_of_mem this
    omega
  | false =>
    refine decide_eq_true ?_
    rw [List.any_eq_false] at hc
    rw [List.filter_eq_nil_iff.mpr fun z hz => hc z hz]
    rfl
theorem faults_empty (cs : List Int) (n : Nat) : (faultsG cs n).isEmpty = !((List.range n).any (badG cs)) := by
  unfold faultsG
  rw [List.isEmpty_map, Bool.eq_iff_iff, List.isEmpty_iff, List.filter_eq_nil_iff]
  constructor
  · intro h
    rw [Bool.not_eq_true', List.any_eq_false]
    exact h
  · intro h
    rw [Bool.not_eq_true', List.any_eq_false] at h
    exact h
theorem gpart_is {cs : List Int} {p e k : Nat} (he : e ≤ cs.length) (hp : p ≤ e) : gv (gpart cs p e k) = valsG (cs.drop p) (min ((e - p) / 10) k) ∧ gf (gpart cs p e k) = faultsG (cs.drop p) (2 * min ((e - p) / 10) k) := by
  have hl : (gpart cs p e k).length / 10 = min ((e - p) / 10) k := by
    unfold gpart
    rw [List.length_take, List.length_drop]
    omega
  unfold gv gf
  rw [hl]
  unfold gpart
  exact ⟨valsG_take (by omega), faultsG_take (by omega)⟩
theorem adrG_no {cs : List Int} {p e : Nat} (he : e ≤ cs.length) (hp : p ≤ e) (h : ¬ (8 ≤ (e - p) / 10 ∧ vG (cs.drop p) 0 = 8)) : adrG cs p e = none := by
  unfold adrG
  obtain ⟨h1, h2⟩ := gpart_is (k := 8) he hp
  rw [h1, h2]
  unfold adrV
  rw [valsG_len]
  by_cases c : (e - p) / 10 < 8
  · rw [if_pos (.inl (by omega))]
  · rw [if_pos (.inr (by
      rw [valsG_get (by omega)]
      exact fun q => h ⟨by omega, q⟩))]
theorem adrG_yes {cs : List Int} {p e : Nat} (he : e ≤ cs.length) (hp : p ≤ e) (h : 8 ≤ (e - p) / 10) (h0 : vG (cs.drop p) 0 = 8) :
    adrG cs p e = some ([vG (cs.drop p) 3, vG (cs.drop p) 2, vG (cs.drop p) 5, vG (cs.drop p) 4], !((List.range 12).any (badG (cs.drop p))) && decide ((xorG [vG (cs.drop p) 3, vG (cs.drop p) 2, vG (cs.drop p) 5, vG (cs.drop p) 4] : Int) = vG (cs.drop p) 1)) := by
  unfold adrG
  obtain ⟨h1, h2⟩ := gpart_is (k := 8) he hp
  rw [h1, h2, Nat.min_eq_right h]
  unfold adrV
  rw [valsG_len, valsG_get (by decide), valsG_get (by decide), valsG_get (by decide), valsG_get (by decide), valsG_get (by decide), valsG_get (by decide)]
  rw [if_neg (fun q => q.elim (fun q => by omega) (fun q => q h0))]
  have := faults_any (cs := cs.drop p) (n := 2 * 8) (k := 12) (by decide)
  rw [show ((12 : Nat) : Int) = 12 from rfl] at this
  rw [this]
theorem datG_no {cs : List Int} {p e l : Nat} (he : e ≤ cs.length) (hp : p ≤ e) (h : ¬ (l + 2 ≤ (e - p) / 10 ∧ vG (cs.drop p) 0 = 7)) : datG cs p e l = none := by
  unfold datG
  obtain ⟨h1, h2⟩ := gpart_is (k := l + 2) he hp
  rw [h1, h2]
  unfold datV
  rw [valsG_len]
  by_cases c : (e - p) / 10 < l + 2
  · rw [if_pos (.inl (by omega))]
  · rw [if_pos (.inr (by
      rw [valsG_get (by omega)]
      exact fun q => h ⟨by omega, q⟩))]
theorem datG_yes {cs : List Int} {p e l : Nat} (he : e ≤ cs.length) (hp : p ≤ e) (h : l + 2 ≤ (e - p) / 10) (h0 : vG (cs.drop p) 0 = 7) :
    datG cs p e l = some (dG (cs.drop p) l, !((List.range (2 * l + 4)).any (badG (cs.drop p))) && decide ((xorG (dG (cs.drop p) l) : Int) = vG (cs.drop p) (l + 1))) := by
  unfold datG
  obtain ⟨h1, h2⟩ := gpart_is (k := l + 2) he hp
  rw [h1, h2, Nat.min_eq_right h]
  unfold datV
  rw [valsG_len, valsG_get (by omega), valsG_get (by omega), valsG_cut (by omega)]
  rw [if_neg (fun q => q.elim (fun q => by omega) (fun q => q h0)), faults_empty, show 2 * (l + 2) = 2 * l + 4 by omega]
theorem sy_le : ∀ (cs : List Int) (s : Sy), (∀ x ∈ s.f, x.1 ≤ x.2) → ∀ x ∈ (cs.foldl syStep s).f, x.1 ≤ x.2
  | [], s, h => h
  | b :: r, s, h => by
    rw [List.foldl_cons]
    refine sy_le r _ ?_
    unfold syStep
    split
    · exact h
    · intro x hx
      have hx : x ∈ (if 10 ≤ s.c then s.f ++ [(s.n - s.c, s.n)] else s.f) := hx
      split at hx
      · rcases List.mem_append.mp hx with h1 | h1
        · exact h x h1
        · rw [List.mem_singleton.mp h1]; exact Nat.sub_le _ _
      · exact h x hx
theorem endAt_in {cs : List Int} (j : Nat) : endAt (syZ cs).f cs.length j ≤ cs.length := by
  unfold endAt
  split
  · rename_i c
    rw [List.getD_eq_getElem?_getD, List.getElem?_eq_getElem c]
    have h1 := sy_le cs ⟨[], 0, 0⟩ (fun x hx => by cases hx) _ (List.getElem_mem (l := (syZ cs).f) c)
    have h2 := (syZ_ord cs).1 _ (List.getElem_mem (l := (syZ cs).f) c)
    exact Nat.le_trans h1 h2
  · exact Nat.le_refl _
theorem stG_last (cs : List Int) (l : Nat) (fs : List (Nat × Nat)) : ∀ (i : Nat) (r : List Int × Bool), (stG cs l fs i).2 = some r → ∃ pre q, (stG cs l fs i).1 = pre ++ [(q, r.1, r.2, none, false)]
  | 0, r, h => by cases h
  | i + 1, r, h => by
    rw [stG_more] at h ⊢
    unfold fgStep at h ⊢
    simp only at h ⊢
    rw [h]
    exact ⟨_, _, rfl⟩
theorem cutV_3 (a b c d e : V) : cutV [a, b, c, d, e] none (some 3) = [a, b, c] := rfl
end Dw

/-! enumerate(t) of a tuple -/
namespace Dw
open PySem PySem.Spec PyProof.Rows L2
open Sem (wp)
theorem meets_enumB {v : Value} {o : Obj} {G : Heap → Prop} (B : Begins v o G) :
    Meets (Builtin.«enumerate.__new__» ⟨[.type "enumerate", v], []⟩) (fun _ R s => G s.heap ∧
      R (.ok (.ret (.ref (s.heap.push o).objs.size))) { s with heap := (s.heap.push o).push { cls := .type "enumerate", data := .fields #[.none, .bool false, .ref s.heap.objs.size, rawInt 0, .none, .none] } }) :=
  .of_wp fun prog w A R s h => by
    have hsub := sub_enumerate
    obtain ⟨hp, gens, drawn, toks, outs⟩ := s
    obtain ⟨hG, hR⟩ := h
    have itr : ∀ {A' : Around} {E : Value → Shared → Prop} {Q : Value → Shared → Prop}, Q (.ref hp.objs.size) ⟨hp.push o, gens, drawn, toks, outs⟩ → wpAny (model prog w) A' (pyIter v) Q E ⟨hp, gens, drawn, toks, outs⟩ :=
      fun q => B.iter prog w _ _ ⟨hp, gens, drawn, toks, outs⟩ _ hG q
    wp_walk using itr
    refine wpAny_stack_any fun fr => wpAny_pure ?_
    split
    · rename_i cc _ _ _ _ _
      cases (cc == Value.type "enumerate")
      · (wp_walk using itr); exact ⟨_, rfl, hR⟩
      · (wp_walk using itr); exact ⟨_, rfl, hR⟩
    · (wp_walk using itr); exact ⟨_, rfl, hR⟩
section
variable {prog : Program} {w : World} {A : Around} {E : Value → Shared → Prop} {s : Shared}
theorem call_enumB {v : Value} {o : Obj} {G : Heap → Prop} {Q : Value → Shared → Prop} (B : Begins v o G) (hG : G s.heap)
    (h : ∀ h2, IsEnum h2 (s.heap.objs.size + 1) s.heap.objs.size 0 .none → h2.get? s.heap.objs.size = some o → (∀ b o2, s.heap.get? b = some o2 → h2.get? b = some o2) → Q (.ref (s.heap.objs.size + 1)) { s with heap := h2 }) :
    wpAny (model prog w) A (call (.type "enumerate") [v]) Q E s := by
  refine callType_new F.called_enumerate (by decide) (F.typeCall_enumerate_1 _) (F.newCall_enumerate_1 _) (fun ob => F.args_object_init_2 ob _) F.entry_enumerate_new (meets_enumB B) ⟨hG, ?_⟩
  have sz : (s.heap.push o).objs.size = s.heap.objs.size + 1 := Heap.size_push ..
  show _ ∧ _
  have g1 := Heap.get?_push_size (s.heap.push o) (o := { cls := .type "enumerate", data := .fields #[.none, .bool false, .ref s.heap.objs.size, rawInt 0, .none, .none] }) rfl
  rw [sz] at g1 ⊢
  exact ⟨⟨_, g1, rfl⟩, h _ g1 (Heap.get?_push_of_some _ (Heap.get?_push_size _ B.free)) fun b o2 x => Heap.get?_push_of_some _ (Heap.get?_push_of_some _ x)⟩
end
/-- the tuple at a as it stands at each turn, each item in a new pair -/
def Itet (K : PySem.W.Frag) (a : Addr) : It :=
  ⟨fun i H => ∃ (xs : List V) (x : V), SqT K H a xs ∧ xs[i]? = some x, fun i H v H' => ∃ T x, v = .ref T ∧ H T = none ∧ H' = upd H T (.tup [.int (i : Nat), x]) ∧ ∀ xs, SqT K H a xs → xs[i]? = some x, fun i H => ∃ xs : List V, SqT K H a xs ∧ xs.length ≤ i⟩
theorem turn_enumT {P : Program} {w : World} {K : PySem.W.Frag} {elts : List Expr} {kk : Nat} {tpos : Pos} (a e it : Addr) :
    Turn P w K (.Tuple elts kk tpos) (Itet K a) [e, it] e (fun i h => (∃ old, IsEnum h e it ((i : Nat) : Int) old) ∧ h.IsTupleIter it a i ∧ e ≠ it) where
  mem := List.mem_cons_self
  obj := fun i h st b hb => by
    obtain ⟨⟨old, he⟩, ⟨o, ho, hc, hd⟩, _⟩ := st
    rcases List.mem_cons.mp hb with z | z
    · subst z; exact ⟨_, he, fun v q => nomatch q⟩
    · rw [List.mem_singleton.mp z]; exact ⟨o, ho, fun v q => by rw [hd] at q; cases q⟩
  keep := fun i h h' st k => let ⟨⟨old, he⟩, hi, hne⟩ := st; ⟨⟨old, k e List.mem_cons_self _ he⟩, hi.at fun o q => k it (List.mem_cons_of_mem _ List.mem_cons_self) o q, hne⟩
  item := by
    intro X hP hw hK hc i pins s σ H E I hf st hg
    subst hP hw hK
    obtain ⟨⟨old, he⟩, hit, hne⟩ := st
    obtain ⟨xs, x, hq, hx⟩ := hg
    obtain ⟨its, rv, p, hz⟩ := I.tuple hq
    obtain ⟨u, hu, ru⟩ := rv.get hx
    have hel : e < s.heap.objs.size := Heap.lt_size he
    have hil : it < s.heap.objs.size := by obtain ⟨_, q, _⟩ := hit; exact Heap.lt_size q
    have pt : s.heap.IsTuple a its.toArray := p
    have nea : e ≠ a := fun z => by
      subst z
      obtain ⟨o, ho, hc2, _⟩ := pt
      rw [he] at ho
      cases ho
      injection hc2 with hc2
      exact absurd hc2 (by decide)
    have nia : a ≠ it := fun z => by
      subst z
      obtain ⟨o, ho, hc2, _⟩ := pt
      obtain ⟨o3, ho3, hc3, _⟩ := hit
      rw [ho] at ho3
      cases ho3
      rw [hc2] at hc3
      injection hc3 with hc3
      exact absurd hc3 (by decide)
    have hlt : i < its.toArray.size := by
      have := (List.getElem?_eq_some_iff.mp hu).1
      simpa using this
    have D : Draws X.prog X.w X.A.in1 it [it, a] its.toArray.size (fun j v => its.toArray[j]? = some v) (fun j h => h.IsTupleIter it a j ∧ h.IsTuple a its.toArray) := Draws.tuple (A := X.A.in1) (I.ok.hd hc) it a nia its.toArray
    refine wpAny_pyNext_enum_itemD D he ⟨hit, pt⟩ hlt hne (by simp only [List.mem_cons, List.not_mem_nil, or_false, not_or]; exact ⟨hne, nea⟩) fun x2 h' tk hP ho hs' hT hsz hk => ?_
    have ex2 : x2 = u := by
      have h1 : its.toArray[i]? = some x2 := hP
      have h2 : its.toArray[i]? = some u := by simpa using hu
      rw [h1] at h2
      exact Option.some.inj h2
    subst ex2
    refine ⟨_, rfl, wpAny_letOwnedTupleGo_enum (s := { s with heap := h', toks := tk + 1 }) ho fun h2 he2 sb => ?_⟩
    have hT2 : h2.get? s.heap.objs.size = some { cls := .type "tuple", data := .seq #[.int i tk, x2] } := (sb.2 _ (Nat.ne_of_gt hel)).trans hT
    have new : ObjOk X.prog X.w (upd H s.heap.objs.size (.tup [.int (i : Nat), x])) h2 s.heap.objs.size (.tup [.int (i : Nat), x]) :=
      ⟨by show 2 ≤ sizeLine; decide, [.int i tk, x2], .cons ⟨_, rfl⟩ (.cons ru .nil), ⟨_, hT2, rfl, _, rfl⟩⟩
    have I1 : Inv X pins σ (upd H s.heap.objs.size (.tup [.int (i : Nat), x])) { s with heap := h2, toks := tk + 1 } :=
      I.turnedNew (ch := [e, it]) (fun b ob hb q => by
        have n1 : b ≠ e := fun z => hb (by rw [z]; exact List.mem_cons_self)
        have n2 : b ≠ it := fun z => hb (by rw [z]; exact List.mem_cons_of_mem _ List.mem_cons_self)
        exact (sb.2 b n1).trans (hk b ob n1 n2 q)) hf (Nat.le_refl _) new
    refine ⟨.ref s.heap.objs.size, _, I1, rfl, ⟨_, x, rfl, I.hok.fresh (Nat.le_refl _), rfl, fun ys hy => by rw [I.tuple_inj hy hq]; exact hx⟩, ⟨⟨x2, ?_⟩, hs'.1.at fun o q => (sb.2 it (Ne.symm hne)).trans q, hne⟩, fun b hb => ?_⟩
    · rw [Int.natCast_succ]; exact he2
    · have hb2 : b < s.heap.objs.size := by
        rcases List.mem_cons.mp hb with z | z
        · rw [z]; exact hel
        · rw [List.mem_singleton.mp z]; exact hil
      rw [upd_ne (Nat.ne_of_lt hb2)]
      exact (hf b hb).1
  done := by
    intro X hP hw hK hc i pins s σ H E I hf st hg
    subst hP hw hK
    obtain ⟨⟨old, he⟩, hit, hne⟩ := st
    obtain ⟨xs, hq, hx⟩ := hg
    obtain ⟨its, rv, p, hz⟩ := I.tuple hq
    have pt : s.heap.IsTuple a its.toArray := p
    obtain ⟨f0, f1, f2, f3, f4, f5⟩ := hf it (List.mem_cons_of_mem _ List.mem_cons_self)
    have hl := rv.length
    have D : Draws X.prog X.w X.A.in1 it [it, a] i (fun _ _ => True) (fun j h => j = i ∧ h.IsTupleIter it a i ∧ h.IsTuple a its.toArray) :=
      { live := fun _ _ st => let ⟨o, ho, _⟩ := st.2.1; ⟨o, ho⟩
        frame := fun _ _ _ st k => ⟨st.1, st.2.1.at fun o e => k it List.mem_cons_self o e, st.2.2.at fun o e => k a (List.mem_cons_of_mem _ List.mem_cons_self) o e⟩
        item := fun j s Q E hj st _ => absurd st.1 (Nat.ne_of_lt hj)
        done := fun s Q E st hE => wpAny_nextOf_tuple_end (A := X.A.in1) (I.ok.hd hc) st.2.1 st.2.2 (by simp; omega) hE }
    exact wpAny_pyNext_enum_endD D he ⟨rfl, hit, pt⟩ fun h2 eb => ⟨rfl, I.turned (t' := s.toks) (fun b o hb q => eb b o hb q) f0 f1 f3 f4 f5⟩
  self := fun A i s Q E st h => let ⟨⟨_, he⟩, _⟩ := st; wpAny_pyIter_enum he h
def iEnumT (K : PySem.W.Frag) (ta : TA) : TI := fun σ H R => ta σ H fun vs H1 => ∃ a xs, vs = [.ref a] ∧ SqT K H1 a xs ∧ R (Itet K a) H1
theorem pi_enumT {X : Cx} {e : Expr} {ta : TA} {p pos tpos : Pos} {elts : List Expr} {kk : Nat} (hg : Gl X "enumerate") (hm : X.mg "enumerate" = none) (ha : PA X [e] ta) (hs : starEach [e] X.env = [(false, eval e X.env)] := by rfl) :
    PI X (.Tuple elts kk tpos) (.Call (.Name "enumerate" p) [e] [] pos) (iEnumT X.K ta) := by
  refine ⟨fun pins s σ H R I h => Call_ (ld_blt I hg hm boot_enumerate (PyProof.Rows.callWith_type1 (thn (ha.run pos pins s σ H _ I h) fun us s1 ⟨vs, H1, I1, r1, q1⟩ => ?_) hs rfl))⟩
  obtain ⟨a, xs, ex, hq, q⟩ := q1
  subst ex
  cases r1 with
  | cons r rr =>
    cases rr
    cases r
    obtain ⟨its, rv, p', hz⟩ := I1.tuple hq
    have pt : s1.heap.IsTuple a its.toArray := p'
    refine call_enumB (begins_tuple a its.toArray) pt fun h2 he hit hk => wpAny_pyIter_enum he ?_
    have I2 : Inv X pins σ H1 { s1 with heap := h2 } := I1.kept (t' := s1.toks) hk
    refine ⟨_, [s1.heap.objs.size + 1, s1.heap.objs.size], _, _, H1, rfl, I2, turn_enumT a (s1.heap.objs.size + 1) s1.heap.objs.size, ⟨⟨.none, he⟩, ⟨_, hit, rfl, rfl⟩, Nat.succ_ne_self _⟩, fun b hb => ?_, q⟩
    have hle : s1.heap.objs.size ≤ b := by
      rcases List.mem_cons.mp hb with z | z
      · rw [z]; exact Nat.le_succ _
      · rw [List.mem_singleton.mp z]; exact Nat.le_refl _
    exact I1.fpOk hle (I1.hok.fresh hle)
theorem walk_enumT {K : PySem.W.Frag} {a : Addr} {xs : List V} : Walk (Itet K a) xs.length (fun H => SqT K H a xs) (YPair (fun i => some (.int (i : Nat))) (fun i => xs[i]?)) := by
  refine ⟨fun i _ hi q => ⟨xs, xs[i], q, by simp [hi]⟩, fun _ q => ⟨xs, q, Nat.le_refl _⟩, fun i H v H' _ q y => ?_⟩
  obtain ⟨t, x, h1, h2, h3, h4⟩ := y
  exact ⟨t, .int (i : Nat), x, h1, h2, h3, rfl, h4 xs q⟩
end Dw

/-! enumerate(zip(xs, ys)) -/
namespace Dw
open PySem PySem.Spec PyProof.Rows L2
open Sem (wp)
/-- a zip, whatever it has given out -/
abbrev ZipO (h : Heap) (z TI TO : Addr) (f0 : Value) (f : Bool) : Prop :=
  h.get? z = some { cls := .type "zip", dict := none, data := .fields #[f0, .bool f, .bool false, .ref TI, .ref TO], slots := #[] }
def Out (f0 : Value) : Prop := f0 = .none ∨ ∃ T : Nat, f0 = rawInt T
section
variable {prog : Program} {w : World} {A : Around} {E : Value → Shared → Prop} {s : Shared}
theorem alive_any {a : Addr} {Q : Option Obj → Shared → Prop} (h : Q (s.heap.get? a) s) : wpAny (model prog w) A (loadIfAlive a) Q E s := fun _ _ _ => h
theorem free_zip {z TI TO : Addr} {f0 : Value} {f : Bool} {Q : Bool → Shared → Prop} (hz : ZipO s.heap z TI TO f0 f) (ho : Out f0) (ht : Q true s)
    (hf : ∀ g1, ZipO g1 z TI TO f0 true → Heap.SameBut z s.heap g1 → Q false { s with heap := g1 }) : wpAny (model prog w) A (Builtin.SmallTypes.ownedTupleIsFree (.ref z)) Q E s := by
  unfold Builtin.SmallTypes.ownedTupleIsFree
  rcases ho with rfl | ⟨T, rfl⟩
  · exact wpAny_bind (wpAny_field hz rfl (x := .none) rfl (wpAny_pure ht))
  · refine wpAny_bind (wpAny_field hz rfl (x := rawInt T) rfl ?_)
    show wpAny _ _ (loadIfAlive (Int.toNat (T : Int)) >>= _) _ _ _
    rw [Int.toNat_natCast]
    refine wpAny_bind (alive_any ?_)
    cases s.heap.get? T with
    | none =>
      simp only [Option.isNone_none, if_true]
      exact wpAny_pure ht
    | some ob =>
      simp only [Option.isNone_some, Bool.false_eq_true, if_false]
      refine wpAny_bind (wpAny_field hz rfl (x := .bool f) rfl ?_)
      cases f with
      | true =>
        rw [if_neg (show ¬ (Value.bool true != Value.bool true) = true from Bool.false_ne_true)]
        exact wpAny_pure (hf s.heap hz (Heap.SameBut.refl _ _))
      | false =>
        rw [if_pos (show (Value.bool false != Value.bool true) = true from rfl)]
        exact wpAny_bind (wpAny_setField_rec hz (by simp) fun g1 hz1 hs1 => wpAny_pure (hf g1 hz1 hs1))
theorem zip_any {z TI TO i1 i2 l1 l2 : Addr} {k : Nat} {xs ys : Array Value} {x y a b f0 : Value} {f : Bool} {Q : Value → Shared → Prop} (D : ZipApart z TI TO i1 i2 l1 l2)
    (hz : ZipO s.heap z TI TO f0 f) (ho : Out f0) (hTI : IsPair s.heap TI (.ref i1) (.ref i2)) (hTO : IsPair s.heap TO a b)
    (p1 : s.heap.IsListIter i1 l1 k) (p2 : s.heap.IsListIter i2 l2 k) (q1 : s.heap.IsList l1 xs) (q2 : s.heap.IsList l2 ys) (hx : xs[k]? = some x) (hy : ys[k]? = some y)
    (hQ : ∀ h2 g0 g a' b', Out g0 → ZipO h2 z TI TO g0 g → IsPair h2 TO a' b' → h2.IsListIter i1 l1 (k + 1) → h2.IsListIter i2 l2 (k + 1) → IsPair h2 s.heap.objs.size x y → h2.objs.size = s.heap.objs.size + 1 →
      (∀ c o, c ≠ z → c ≠ TO → c ≠ i1 → c ≠ i2 → s.heap.get? c = some o → h2.get? c = some o) → Q (.ref s.heap.objs.size) { s with heap := h2 }) :
    wpAny (model prog w) A (Builtin.«zip.__next__» ⟨[.ref z], []⟩) (fun fin s2 => ∃ v, fin = .done (.ret v) ∧ Q v s2) E s := by
  show wpAny _ _ (field (.ref z) 2 >>= _) _ _ _
  refine wpAny_bind (wpAny_field hz rfl (x := .bool false) rfl ?_)
  show wpAny _ _ (field (.ref z) 3 >>= _) _ _ _
  refine wpAny_bind (wpAny_field hz rfl (x := .ref TI) rfl (wpAny_bind (wpAny_seqItems hTI rfl ?_)))
  show wpAny _ _ (Builtin.SmallTypes.ownedTupleIsFree (.ref z) >>= _) _ _ _
  refine wpAny_bind (free_zip hz ho ?_ fun g1 hz1 hs1 => ?_)
  · simp only [if_true]
    refine wpAny_bind (wpAny_rule (wpAny_bind (wpAny_field hz rfl (x := .ref TO) rfl (wpAny_bind (wpAny_setField_rec hz (by simp) fun g1 hz1 hs1 => ?_)))))
    replace hz1 : ZipO g1 z TI TO .ellipsis f := hz1
    refine wpAny_bind ?_
    simp only [List.zipIdx_cons, List.zipIdx_nil, List.forIn_cons, List.forIn_nil]
    refine wpAny_bind (wpAny_bind (wpAny_onRaise ?_))
    show wpAny _ _ (Builtin.SmallTypes.nextOf (.ref i1) >>= _) _ _ _
    refine wpAny_bind (wpAny_nextOf_list_item (p1.extBut hs1.extBut D.i1z) (q1.extBut hs1.extBut D.l1z) hx fun g2 p12 hs2 => wpAny_pure ?_)
    have t2 : IsPair g2 TO a b := hs2.extBut _ _ D.TOi1 (hs1.extBut _ _ D.TOz hTO)
    refine wpAny_bind (wpAny_seqItems t2 rfl (wpAny_bind (wpAny_updateSeq_pair t2 fun g3 t3 hs3 => ?_)))
    replace t3 : IsPair g3 TO x b := t3
    refine wpAny_bind (wpAny_letGo (wpAny_pure (wpAny_bind (wpAny_bind (wpAny_onRaise ?_)))))
    show wpAny _ _ (Builtin.SmallTypes.nextOf (.ref i2) >>= _) _ _ _
    have p22 := ((p2.extBut hs1.extBut D.i2z).extBut hs2.extBut D.i12.symm).extBut hs3.extBut D.TOi2.symm
    have q22 := ((q2.extBut hs1.extBut D.l2z).extBut hs2.extBut D.l2i1).extBut hs3.extBut D.l2TO
    refine wpAny_bind (wpAny_nextOf_list_item p22 q22 hy fun g4 p24 hs4 => wpAny_pure ?_)
    have t4 : IsPair g4 TO x b := hs4.extBut _ _ D.TOi2 t3
    refine wpAny_bind (wpAny_seqItems t4 rfl (wpAny_bind (wpAny_updateSeq_pair t4 fun g5 t5 hs5 => ?_)))
    replace t5 : IsPair g5 TO x y := t5
    refine wpAny_bind (wpAny_letGo (wpAny_pure (wpAny_pure (wpAny_bind (wpAny_seqItems t5 rfl (wpAny_bind (wpAny_newTuple ?_)))))))
    have sz5 : g5.objs.size = s.heap.objs.size := by rw [hs5.1, hs4.1, hs3.1, hs2.1, hs1.1]
    have z5 : ZipO g5 z TI TO .ellipsis f := hs5.extBut _ _ D.TOz.symm (hs4.extBut _ _ D.i2z.symm (hs3.extBut _ _ D.TOz.symm (hs2.extBut _ _ D.i1z.symm hz1)))
    have keep5 : ∀ c o, c ≠ z → c ≠ TO → c ≠ i1 → c ≠ i2 → s.heap.get? c = some o → g5.get? c = some o := fun c o c1 c2 c3 c4 e =>
      hs5.extBut _ _ c2 (hs4.extBut _ _ c4 (hs3.extBut _ _ c2 (hs2.extBut _ _ c3 (hs1.extBut _ _ c1 e))))
    have p15 : g5.IsListIter i1 l1 (k + 1) := ((p12.extBut hs3.extBut D.TOi1.symm).extBut hs4.extBut D.i12).extBut hs5.extBut D.TOi1.symm
    have p25 : g5.IsListIter i2 l2 (k + 1) := p24.extBut hs5.extBut D.TOi2.symm
    have zlt : z < g5.objs.size := Heap.lt_size z5
    show wpAny _ _ (Builtin.SmallTypes.ownedTupleHandOut (.ref z) (.ref g5.objs.size) >>= _) _ _ _
    refine wpAny_bind ?_
    unfold Builtin.SmallTypes.ownedTupleHandOut
    have z6 : ZipO (g5.push { cls := .type "tuple", data := .seq #[x, y] }) z TI TO .ellipsis f := Heap.get?_push_of_some _ z5
    refine wpAny_bind (wpAny_setField_rec z6 (by simp) fun g7 z7 hs7 => ?_)
    replace z7 : ZipO g7 z TI TO (rawInt g5.objs.size) f := z7
    refine wpAny_setField_rec z7 (by simp) fun g8 z8 hs8 => ?_
    replace z8 : ZipO g8 z TI TO (rawInt g5.objs.size) false := z8
    have up : ∀ c o, c ≠ z → g5.get? c = some o → g8.get? c = some o := fun c o c1 e => hs8.extBut _ _ c1 (hs7.extBut _ _ c1 (Heap.get?_push_of_some _ e))
    have t8 : IsPair g8 g5.objs.size x y := hs8.extBut _ _ (Nat.ne_of_gt zlt) (hs7.extBut _ _ (Nat.ne_of_gt zlt) (Heap.get?_push_size _ rfl))
    have sz8 : g8.objs.size = g5.objs.size + 1 := by rw [hs8.1, hs7.1, Heap.size_push]
    rw [sz5] at z8 t8 sz8
    refine wpAny_pure ⟨_, rfl, ?_⟩
    show Q (.ref g5.objs.size) _
    rw [sz5]
    exact hQ g8 _ _ _ _ (.inr ⟨_, rfl⟩) z8 (up _ _ D.TOz t5) (p15.at fun o e => up _ o D.i1z e) (p25.at fun o e => up _ o D.i2z e) t8 sz8 fun c o c1 c2 c3 c4 e => up c o c1 (keep5 c o c1 c2 c3 c4 e)
  · simp only [Bool.false_eq_true, if_false]
    refine wpAny_bind ?_
    rw [← Array.forIn_toList]
    simp only [List.forIn_cons, List.forIn_nil]
    refine wpAny_bind (wpAny_bind (wpAny_holding ?_))
    show wpAny _ _ (Builtin.SmallTypes.nextOf (.ref i1) >>= _) _ _ _
    refine wpAny_bind (wpAny_nextOf_list_item (s := { s with heap := g1 }) (p1.extBut hs1.extBut D.i1z) (q1.extBut hs1.extBut D.l1z) hx fun g2 p12 hs2 => wpAny_pure (wpAny_pure ?_))
    refine wpAny_bind (wpAny_bind (wpAny_holding ?_))
    show wpAny _ _ (Builtin.SmallTypes.nextOf (.ref i2) >>= _) _ _ _
    have p22 := (p2.extBut hs1.extBut D.i2z).extBut hs2.extBut D.i12.symm
    have q22 := (q2.extBut hs1.extBut D.l2z).extBut hs2.extBut D.l2i1
    refine wpAny_bind (wpAny_nextOf_list_item (s := { s with heap := g2 }) p22 q22 hy fun g3 p23 hs3 => wpAny_pure (wpAny_pure (wpAny_pure ?_)))
    show wpAny _ _ (newTuple [x, y] >>= _) _ _ _
    refine wpAny_bind (wpAny_newTuple ?_)
    have sz3 : g3.objs.size = s.heap.objs.size := by rw [hs3.1, hs2.1, hs1.1]
    have z3 : ZipO g3 z TI TO f0 true := hs3.extBut _ _ D.i2z.symm (hs2.extBut _ _ D.i1z.symm hz1)
    have keep3 : ∀ c o, c ≠ z → c ≠ i1 → c ≠ i2 → s.heap.get? c = some o → g3.get? c = some o := fun c o c1 c2 c3 e => hs3.extBut _ _ c3 (hs2.extBut _ _ c2 (hs1.extBut _ _ c1 e))
    have p13 : g3.IsListIter i1 l1 (k + 1) := p12.extBut hs3.extBut D.i12
    refine wpAny_pure ⟨_, rfl, ?_⟩
    show Q (.ref g3.objs.size) _
    have t4 : IsPair (g3.push { cls := .type "tuple", data := .seq #[x, y] }) g3.objs.size x y := Heap.get?_push_size _ rfl
    have sz4 : (g3.push { cls := .type "tuple", data := .seq #[x, y] }).objs.size = g3.objs.size + 1 := Heap.size_push ..
    rw [sz3] at t4 sz4 ⊢
    exact hQ _ _ _ _ _ ho (Heap.get?_push_of_some _ z3) (Heap.get?_push_of_some _ (keep3 _ _ D.TOz D.TOi1 D.TOi2 hTO)) (p13.at fun o e => Heap.get?_push_of_some _ e) (p23.at fun o e => Heap.get?_push_of_some _ e) t4 sz4 fun c o c1 _ c2 c3 e => Heap.get?_push_of_some _ (keep3 c o c1 c2 c3 e)
theorem zip_stop {z TI TO i1 i2 l1 l2 : Addr} {k : Nat} {xs ys : Array Value} {a b f0 : Value} {f : Bool} {Q : Fin → Shared → Prop} (hh : A.handled = none) (D : ZipApart z TI TO i1 i2 l1 l2)
    (hz : ZipO s.heap z TI TO f0 f) (ho : Out f0) (hTI : IsPair s.heap TI (.ref i1) (.ref i2)) (hTO : IsPair s.heap TO a b)
    (p1 : s.heap.IsListIter i1 l1 k) (p2 : s.heap.IsListIter i2 l2 k) (q1 : s.heap.IsList l1 xs) (q2 : s.heap.IsList l2 ys) (hend : xs[k]? = none ∨ ys[k]? = none)
    (hE : ∀ h2 e, (∀ c o, c ≠ z → c ≠ TO → c ≠ i1 → c ≠ i2 → s.heap.get? c = some o → h2.get? c = some o) → (∃ o, h2.get? e = some o ∧ o.cls = .type "StopIteration") → E (.ref e) { s with heap := h2 }) :
    wpAny (model prog w) A (Builtin.«zip.__next__» ⟨[.ref z], []⟩) Q E s := by
  show wpAny _ _ (field (.ref z) 2 >>= _) _ _ _
  refine wpAny_bind (wpAny_field hz rfl (x := .bool false) rfl ?_)
  show wpAny _ _ (field (.ref z) 3 >>= _) _ _ _
  refine wpAny_bind (wpAny_field hz rfl (x := .ref TI) rfl (wpAny_bind (wpAny_seqItems hTI rfl ?_)))
  show wpAny _ _ (Builtin.SmallTypes.ownedTupleIsFree (.ref z) >>= _) _ _ _
  refine wpAny_bind (free_zip hz ho ?_ fun g1 hz1 hs1 => ?_)
  · simp only [if_true]
    refine wpAny_bind (wpAny_rule (wpAny_bind (wpAny_field hz rfl (x := .ref TO) rfl (wpAny_bind (wpAny_setField_rec hz (by simp) fun g1 hz1 hs1 => ?_)))))
    replace hz1 : ZipO g1 z TI TO .ellipsis f := hz1
    refine wpAny_bind ?_
    simp only [List.zipIdx_cons, List.zipIdx_nil, List.forIn_cons, List.forIn_nil]
    refine wpAny_bind (wpAny_bind (wpAny_onRaise ?_))
    show wpAny _ _ (Builtin.SmallTypes.nextOf (.ref i1) >>= _) _ _ _
    cases hx : xs[k]? with
    | none =>
      refine wpAny_bind (wpAny_nextOf_list_end hh (p1.extBut hs1.extBut D.i1z) (q1.extBut hs1.extBut D.l1z) hx fun g2 e hs2 he => ?_)
      obtain ⟨oe, hoe, hce⟩ := he
      have hz2 : ZipO g2 z TI TO .ellipsis f := hs2 _ _ D.i1z.symm hz1
      have nez : e ≠ z := fun q => by subst q; rw [hz2] at hoe; cases hoe; simp at hce
      exact wpAny_setField_rec hz2 (by simp) fun g3 _ hs3 => hE g3 e (fun c o c1 _ c3 _ q => hs3.extBut _ _ c1 (hs2 _ _ c3 (hs1.extBut _ _ c1 q))) ⟨oe, hs3.extBut _ _ nez hoe, hce⟩
    | some x =>
      have hy : ys[k]? = none := by rcases hend with h | h; (rw [hx] at h; cases h); exact h
      refine wpAny_bind (wpAny_nextOf_list_item (p1.extBut hs1.extBut D.i1z) (q1.extBut hs1.extBut D.l1z) hx fun g2 p12 hs2 => wpAny_pure ?_)
      have t2 : IsPair g2 TO a b := hs2.extBut _ _ D.TOi1 (hs1.extBut _ _ D.TOz hTO)
      refine wpAny_bind (wpAny_seqItems t2 rfl (wpAny_bind (wpAny_updateSeq_pair t2 fun g3 t3 hs3 => wpAny_bind (wpAny_letGo (wpAny_pure (wpAny_bind (wpAny_bind (wpAny_onRaise ?_))))))))
      show wpAny _ _ (Builtin.SmallTypes.nextOf (.ref i2) >>= _) _ _ _
      have p22 := ((p2.extBut hs1.extBut D.i2z).extBut hs2.extBut D.i12.symm).extBut hs3.extBut D.TOi2.symm
      have q22 := ((q2.extBut hs1.extBut D.l2z).extBut hs2.extBut D.l2i1).extBut hs3.extBut D.l2TO
      refine wpAny_bind (wpAny_nextOf_list_end hh p22 q22 hy fun g4 e hs4 he => ?_)
      obtain ⟨oe, hoe, hce⟩ := he
      have hz4 : ZipO g4 z TI TO .ellipsis f := hs4 _ _ D.i2z.symm (hs3.extBut _ _ D.TOz.symm (hs2.extBut _ _ D.i1z.symm hz1))
      have nez : e ≠ z := fun q => by subst q; rw [hz4] at hoe; cases hoe; simp at hce
      exact wpAny_setField_rec hz4 (by simp) fun g5 _ hs5 => hE g5 e (fun c o c1 c2 c3 c4 q => hs5.extBut _ _ c1 (hs4 _ _ c4 (hs3.extBut _ _ c2 (hs2.extBut _ _ c3 (hs1.extBut _ _ c1 q))))) ⟨oe, hs5.extBut _ _ nez hoe, hce⟩
  · simp only [Bool.false_eq_true, if_false]
    refine wpAny_bind ?_
    rw [← Array.forIn_toList]
    simp only [List.forIn_cons, List.forIn_nil]
    refine wpAny_bind (wpAny_bind (wpAny_holding ?_))
    show wpAny _ _ (Builtin.SmallTypes.nextOf (.ref i1) >>= _) _ _ _
    cases hx : xs[k]? with
    | none =>
      exact wpAny_bind (wpAny_nextOf_list_end (s := { s with heap := g1 }) hh (p1.extBut hs1.extBut D.i1z) (q1.extBut hs1.extBut D.l1z) hx fun g2 e hs2 he => hE g2 e (fun c o c1 _ c3 _ q => hs2 _ _ c3 (hs1.extBut _ _ c1 q)) he)
    | some x =>
      have hy : ys[k]? = none := by rcases hend with h | h; (rw [hx] at h; cases h); exact h
      refine wpAny_bind (wpAny_nextOf_list_item (s := { s with heap := g1 }) (p1.extBut hs1.extBut D.i1z) (q1.extBut hs1.extBut D.l1z) hx fun g2 p12 hs2 => wpAny_pure (wpAny_pure ?_))
      refine wpAny_bind (wpAny_bind (wpAny_holding ?_))
      show wpAny _ _ (Builtin.SmallTypes.nextOf (.ref i2) >>= _) _ _ _
      have p22 := (p2.extBut hs1.extBut D.i2z).extBut hs2.extBut D.i12.symm
      have q22 := (q2.extBut hs1.extBut D.l2z).extBut hs2.extBut D.l2i1
      exact wpAny_bind (wpAny_nextOf_list_end (s := { s with heap := g2 }) hh p22 q22 hy fun g3 e hs3 he => hE g3 e (fun c o c1 _ c3 c4 q => hs3 _ _ c4 (hs2.extBut _ _ c3 (hs1.extBut _ _ c1 q))) he)
/-- one turn of an enumerate, whatever it walks -/
theorem enum_any {e it : Addr} {i : Int} {old : Value} {R : Value → Heap → Prop} {Q : Value → Shared → Prop} (he : IsEnum s.heap e it i old)
    (inner : ∀ Qi : Value → Shared → Prop, (∀ x g1 tk, IsEnum g1 e it i old → R x g1 → Qi x { s with heap := g1, toks := tk }) → wpAny (model prog w) A (Builtin.SmallTypes.nextOf (.ref it)) Qi E s)
    (hQ : ∀ x g1 g2 tk, R x g1 → IsEnumOut g2 e it (i + 1) x g1.objs.size → g2.get? g1.objs.size = some { cls := .type "tuple", data := .seq #[.int i tk, x] } → g2.objs.size = g1.objs.size + 1 →
      (∀ b o, b ≠ e → g1.get? b = some o → g2.get? b = some o) → Q (.ref g1.objs.size) { s with heap := g2, toks := tk + 1 }) :
    wpAny (model prog w) A (Builtin.«enumerate.__next__» ⟨[.ref e], []⟩) (fun fin s2 => ∃ v, fin = .done (.ret v) ∧ Q v s2) E s := by
  obtain ⟨hp, gens, drawn, toks, outs⟩ := s
  show wpAny _ _ (field (.ref e) 2 >>= _) _ _ _
  refine wpAny_bind (wpAny_field he rfl (x := .ref it) rfl (wpAny_bind (inner _ fun x g1 tk he1 hR => ?_)))
  show wpAny _ _ (field (.ref e) 3 >>= _) _ _ ⟨g1, gens, drawn, tk, outs⟩
  refine wpAny_bind (wpAny_field he1 rfl (x := rawInt i) rfl ?_)
  show wpAny _ _ (field (.ref e) 4 >>= _) _ _ ⟨g1, gens, drawn, tk, outs⟩
  refine wpAny_bind (wpAny_field he1 rfl (x := .none) rfl ?_)
  show wpAny _ _ (mkInt i >>= _) _ _ ⟨g1, gens, drawn, tk, outs⟩
  refine wpAny_bind (wpAny_mkInt ?_)
  show wpAny _ _ (setField (.ref e) 3 (rawInt (i + 1)) >>= _) _ _ ⟨g1, gens, drawn, tk + 1, outs⟩
  refine wpAny_bind (wpAny_setField_rec he1 (by simp) fun g2 he2 hs2 => ?_)
  replace hs2 : Heap.SameBut e g1 g2 := hs2
  replace he2 : IsEnum g2 e it (i + 1) old := he2
  show wpAny _ _ (setField (.ref e) 4 .none >>= _) _ _ ⟨g2, gens, drawn, tk + 1, outs⟩
  refine wpAny_bind (wpAny_setField_rec he2 (by simp) fun g3 he3 hs3 => ?_)
  replace hs3 : Heap.SameBut e g2 g3 := hs3
  replace he3 : IsEnum g3 e it (i + 1) old := he3
  show wpAny _ _ (newTuple [.int i tk, x] >>= _) _ _ ⟨g3, gens, drawn, tk + 1, outs⟩
  refine wpAny_bind (wpAny_newTuple ?_)
  have he4 : IsEnum (g3.push { cls := .type "tuple", data := .seq #[.int i tk, x] }) e it (i + 1) old := Heap.get?_push_of_some _ he3
  have sz3 : g3.objs.size = g1.objs.size := by rw [hs3.1, hs2.1]
  have elt : e < g1.objs.size := Heap.lt_size he1
  have t4 : (g3.push { cls := .type "tuple", data := .seq #[.int i tk, x] }).get? g1.objs.size = some { cls := .type "tuple", data := .seq #[.int i tk, x] } := by rw [← sz3]; exact Heap.get?_push_size _ rfl
  have sz4 : (g3.push { cls := .type "tuple", data := .seq #[.int i tk, x] }).objs.size = g1.objs.size + 1 := by rw [Heap.size_push, sz3]
  have k4 : ∀ b o, b ≠ e → g1.get? b = some o → (g3.push { cls := .type "tuple", data := .seq #[.int i tk, x] }).get? b = some o := fun b o n hb => Heap.get?_push_of_some _ (hs3.extBut b o n (hs2.extBut b o n hb))
  generalize g3.push { cls := .type "tuple", data := .seq #[.int i tk, x] } = g4 at he4 t4 sz4 k4
  show wpAny _ _ (Builtin.SmallTypes.ownedTupleIsFree (.ref e) >>= _) _ _ ⟨g4, gens, drawn, tk + 1, outs⟩
  rw [sz3]
  refine wpAny_bind ?_
  unfold Builtin.SmallTypes.ownedTupleIsFree
  refine wpAny_bind (wpAny_field he4 rfl (x := .none) rfl (wpAny_pure ?_))
  simp only [if_true]
  refine wpAny_bind (wpAny_rule (wpAny_bind (wpAny_field he4 rfl (x := old) rfl (wpAny_bind (wpAny_setField_rec he4 (by simp) fun g5 he5 hs5 => ?_)))))
  replace hs5 : Heap.SameBut e g4 g5 := hs5
  replace he5 : IsEnum g5 e it (i + 1) x := he5
  show wpAny _ _ (Builtin.SmallTypes.ownedTupleHandOut (.ref e) (.ref g1.objs.size) >>= _) _ _ ⟨g5, gens, drawn, tk + 1, outs⟩
  refine wpAny_bind ?_
  unfold Builtin.SmallTypes.ownedTupleHandOut
  refine wpAny_bind (wpAny_setField_rec he5 (by simp) fun g6 he6 hs6 => ?_)
  replace hs6 : Heap.SameBut e g5 g6 := hs6
  replace he6 : IsEnumOut g6 e it (i + 1) x g1.objs.size := he6
  refine wpAny_setField_rec he6 (by simp) fun g7 he7 hs7 => wpAny_bind (wpAny_letGo (wpAny_pure ⟨_, rfl, ?_⟩))
  replace hs7 : Heap.SameBut e g6 g7 := hs7
  replace he7 : IsEnumOut g7 e it (i + 1) x g1.objs.size := he7
  have k7 : ∀ b o, b ≠ e → g4.get? b = some o → g7.get? b = some o := fun b o n hb => hs7.extBut b o n (hs6.extBut b o n (hs5.extBut b o n hb))
  exact hQ x g1 g7 tk hR he7 (k7 _ _ (Nat.ne_of_gt elt) t4) (by rw [hs7.1, hs6.1, hs5.1, sz4]) fun b o n hb => k7 b o n (k4 b o n hb)
/-- what a zip and its cells look like ahead of turn i -/
def ZipAt (z TI TO i1 i2 a b : Addr) (i : Nat) (h : Heap) : Prop := (∃ f0 f, Out f0 ∧ ZipO h z TI TO f0 f) ∧ IsPair h TI (.ref i1) (.ref i2) ∧ (∃ x y, IsPair h TO x y) ∧ h.IsListIter i1 a i ∧ h.IsListIter i2 b i
theorem zip_nextOf {z TI TO i1 i2 l1 l2 : Addr} {k : Nat} {xs ys : Array Value} {x y : Value} {Q : Value → Shared → Prop} (D : ZipApart z TI TO i1 i2 l1 l2) (st : ZipAt z TI TO i1 i2 l1 l2 k s.heap)
    (q1 : s.heap.IsList l1 xs) (q2 : s.heap.IsList l2 ys) (hx : xs[k]? = some x) (hy : ys[k]? = some y)
    (hQ : ∀ h2, ZipAt z TI TO i1 i2 l1 l2 (k + 1) h2 → IsPair h2 s.heap.objs.size x y → h2.objs.size = s.heap.objs.size + 1 →
      (∀ c o, c ≠ z → c ≠ TO → c ≠ i1 → c ≠ i2 → s.heap.get? c = some o → h2.get? c = some o) → Q (.ref s.heap.objs.size) { s with heap := h2 }) :
    wpAny (model prog w) A (Builtin.SmallTypes.nextOf (.ref z)) Q E s := by
  obtain ⟨⟨f0, f, ho, hz⟩, hTI, ⟨u, v, hTO⟩, p1, p2⟩ := st
  have hT : s.TypeIs (.ref z) "zip" := ⟨_, hz, rfl⟩
  unfold Builtin.SmallTypes.nextOf
  refine wpAny_bind (wpAny_callSpecial?_slot (name := Str.ofString "__next__") hT F.slot_zip_next (wpAny_call_entry F.slot_zip_next hT F.entry_zip_next ?_ (F.args_zip_next_1 _)))
  refine zip_any D hz ho hTI hTO p1 p2 q1 q2 hx hy fun h2 g0 g a2 b2 o1 z1 t1 r1 r2 pr sz kp => wpAny_pure (hQ h2 ⟨⟨g0, g, o1, z1⟩, kp _ _ D.TIz D.TITO D.TIi1 D.TIi2 hTI, ⟨a2, b2, t1⟩, r1, r2⟩ pr sz kp)
theorem ez_next {e z TI TO i1 i2 l1 l2 : Addr} {k : Nat} {xs ys : Array Value} {x y old : Value} {Q : Option Value → Shared → Prop} (D : ZipApart z TI TO i1 i2 l1 l2) (he : IsEnum s.heap e z k old) (st : ZipAt z TI TO i1 i2 l1 l2 k s.heap)
    (ne : e ≠ z ∧ e ≠ TI ∧ e ≠ TO ∧ e ≠ i1 ∧ e ≠ i2) (q1 : s.heap.IsList l1 xs) (q2 : s.heap.IsList l2 ys) (hx : xs[k]? = some x) (hy : ys[k]? = some y)
    (hQ : ∀ h1 h2 tk, IsPair h1 s.heap.objs.size x y → h1.objs.size = s.heap.objs.size + 1 → (∀ c o, c ≠ z → c ≠ TO → c ≠ i1 → c ≠ i2 → s.heap.get? c = some o → h1.get? c = some o) →
      IsEnumOut h2 e z ((k : Int) + 1) (.ref s.heap.objs.size) (s.heap.objs.size + 1) → ZipAt z TI TO i1 i2 l1 l2 (k + 1) h2 → h2.get? (s.heap.objs.size + 1) = some { cls := .type "tuple", data := .seq #[.int k tk, .ref s.heap.objs.size] } →
      (∀ c o, c ≠ e → h1.get? c = some o → h2.get? c = some o) → Q (some (.ref (s.heap.objs.size + 1))) { s with heap := h2, toks := tk + 1 }) :
    wpAny (model prog w) A (pyNext (.ref e)) Q E s := by
  have hT : s.TypeIs (.ref e) "enumerate" := ⟨_, he, rfl⟩
  unfold pyNext
  refine wpAny_bind (wpAny_attempt (wpAny_callSpecial?_slot (name := Str.ofString "__next__") hT F.slot_enumerate_next (wpAny_call_entry F.slot_enumerate_next hT F.entry_enumerate_next ?_ (F.args_enumerate_next_1 _))))
  refine enum_any (R := fun v g1 => v = .ref s.heap.objs.size ∧ ZipAt z TI TO i1 i2 l1 l2 (k + 1) g1 ∧ IsPair g1 s.heap.objs.size x y ∧ g1.objs.size = s.heap.objs.size + 1 ∧ ∀ c o, c ≠ z → c ≠ TO → c ≠ i1 → c ≠ i2 → s.heap.get? c = some o → g1.get? c = some o) he (fun Qi hi => ?_) fun v g1 g2 tk hR h1 h2 h3 h4 => ?_
  · exact zip_nextOf D st q1 q2 hx hy fun h2 a1 a2 a3 a4 => hi _ h2 s.toks (a4 _ _ ne.1 ne.2.2.1 ne.2.2.2.1 ne.2.2.2.2 he) ⟨rfl, a1, a2, a3, a4⟩
  · obtain ⟨rfl, ⟨⟨f0, f, o1, z1⟩, t1, ⟨u, v, t2⟩, r1, r2⟩, pr, sz, kp⟩ := hR
    rw [sz] at h1 h2 ⊢
    exact wpAny_pure (hQ g1 g2 tk pr sz kp h1 ⟨⟨f0, f, o1, h4 _ _ ne.1.symm z1⟩, h4 _ _ ne.2.1.symm t1, ⟨u, v, h4 _ _ ne.2.2.1.symm t2⟩, r1.at fun o q => h4 _ o ne.2.2.2.1.symm q, r2.at fun o q => h4 _ o ne.2.2.2.2.symm q⟩ h2 h4)
theorem ez_stop {e z TI TO i1 i2 l1 l2 : Addr} {k : Nat} {xs ys : Array Value} {old : Value} {Q : Option Value → Shared → Prop} (hh : A.handled = none) (D : ZipApart z TI TO i1 i2 l1 l2) (he : IsEnum s.heap e z k old) (st : ZipAt z TI TO i1 i2 l1 l2 k s.heap)
    (q1 : s.heap.IsList l1 xs) (q2 : s.heap.IsList l2 ys) (hend : xs[k]? = none ∨ ys[k]? = none)
    (hQ : ∀ h2, (∀ c o, c ≠ z → c ≠ TO → c ≠ i1 → c ≠ i2 → s.heap.get? c = some o → h2.get? c = some o) → Q none { s with heap := h2 }) : wpAny (model prog w) A (pyNext (.ref e)) Q E s := by
  obtain ⟨⟨f0, f, ho, hz⟩, hTI, ⟨u, v, hTO⟩, p1, p2⟩ := st
  have hT : s.TypeIs (.ref e) "enumerate" := ⟨_, he, rfl⟩
  have hZ : s.TypeIs (.ref z) "zip" := ⟨_, hz, rfl⟩
  unfold pyNext
  refine wpAny_bind (wpAny_attempt (wpAny_callSpecial?_slot (name := Str.ofString "__next__") hT F.slot_enumerate_next (wpAny_call_entry F.slot_enumerate_next hT F.entry_enumerate_next ?_ (F.args_enumerate_next_1 _))))
  show wpAny _ _ (field (.ref e) 2 >>= _) _ _ _
  refine wpAny_bind (wpAny_field he rfl (x := .ref z) rfl (wpAny_bind ?_))
  unfold Builtin.SmallTypes.nextOf
  refine wpAny_bind (wpAny_callSpecial?_slot (name := Str.ofString "__next__") hZ F.slot_zip_next (wpAny_call_entry F.slot_zip_next hZ F.entry_zip_next ?_ (F.args_zip_next_1 _)))
  refine zip_stop hh D hz ho hTI hTO p1 p2 q1 q2 hend fun h2 x kp ⟨o, hx, hc⟩ => ?_
  exact wpAny_bind (wpAny_isInstance (T := "StopIteration") (b := true) ⟨o, hx, hc⟩ isSubtype_stop (wpAny_pure (hQ _ kp)))
end
/-- the lists at a and b, their items in new pairs, each in a new pair with its place -/
def Itez (K : PySem.W.Frag) (a b : Addr) : It :=
  ⟨fun i H => ∃ (xs ys : List V) (x y : V), SqL K H a xs ∧ SqL K H b ys ∧ xs[i]? = some x ∧ ys[i]? = some y,
    fun i H v H' => ∃ T U x y, v = .ref U ∧ H T = none ∧ H U = none ∧ U ≠ T ∧ H' = upd (upd H T (.tup [x, y])) U (.tup [.int (i : Nat), .ref T]) ∧ (∀ xs, SqL K H a xs → xs[i]? = some x) ∧ ∀ ys, SqL K H b ys → ys[i]? = some y,
    fun i H => ∃ xs ys : List V, SqL K H a xs ∧ SqL K H b ys ∧ (xs.length ≤ i ∨ ys.length ≤ i)⟩
theorem turn_ez {P : Program} {w : World} {K : PySem.W.Frag} {elts : List Expr} {kk : Nat} {tpos : Pos} {a b e z TI TO i1 i2 : Addr} (D : ZipApart z TI TO i1 i2 a b) (ne : e ≠ z ∧ e ≠ TI ∧ e ≠ TO ∧ e ≠ i1 ∧ e ≠ i2) :
    Turn P w K (.Tuple elts kk tpos) (Itez K a b) [e, z, TI, TO, i1, i2] e (fun i h => (∃ old, IsEnum h e z ((i : Nat) : Int) old) ∧ ZipAt z TI TO i1 i2 a b i h) where
  mem := List.mem_cons_self
  obj := fun i h st c hc => by
    obtain ⟨⟨old, he⟩, ⟨f0, f, _, hz⟩, hTI, ⟨x, y, hTO⟩, ⟨o1, e1, _, d1⟩, ⟨o2, e2, _, d2⟩⟩ := st
    have hc2 : c = e ∨ c = z ∨ c = TI ∨ c = TO ∨ c = i1 ∨ c = i2 := by simpa using hc
    rcases hc2 with q | q | q | q | q | q <;> rw [q]
    · exact ⟨_, he, fun v q => nomatch q⟩
    · exact ⟨_, hz, fun v q => nomatch q⟩
    · exact ⟨_, hTI, fun v q => nomatch q⟩
    · exact ⟨_, hTO, fun v q => nomatch q⟩
    · exact ⟨o1, e1, fun v q => by rw [d1] at q; cases q⟩
    · exact ⟨o2, e2, fun v q => by rw [d2] at q; cases q⟩
  keep := fun i h h2 st k => by
    obtain ⟨⟨old, he⟩, ⟨f0, f, ho, hz⟩, hTI, ⟨x, y, hTO⟩, r1, r2⟩ := st
    exact ⟨⟨old, k e (by simp) _ he⟩, ⟨f0, f, ho, k z (by simp) _ hz⟩, k TI (by simp) _ hTI, ⟨x, y, k TO (by simp) _ hTO⟩, r1.at fun o q => k i1 (by simp) o q, r2.at fun o q => k i2 (by simp) o q⟩
  item := by
    intro X hP hw hK hc i pins s σ H E I hf st hg
    subst hP hw hK
    obtain ⟨⟨old, he⟩, hZ⟩ := st
    obtain ⟨xs, ys, x, y, hqx, hqy, hx, hy⟩ := hg
    obtain ⟨its, rv, p, _⟩ := I.list hqx
    obtain ⟨its2, rv2, p2, _⟩ := I.list hqy
    obtain ⟨u, hu, ru⟩ := rv.get hx
    obtain ⟨u2, hu2, ru2⟩ := rv2.get hy
    have hlt : ∀ c ∈ [e, z, TI, TO, i1, i2], c < s.heap.objs.size := fun c hcm => by
      obtain ⟨_, ⟨f0, f, _, hz⟩, hTI, ⟨x, y, hTO⟩, ⟨_, e1, _⟩, ⟨_, e2, _⟩⟩ : True ∧ ZipAt z TI TO i1 i2 a b i s.heap := ⟨trivial, hZ⟩
      have hc2 : c = e ∨ c = z ∨ c = TI ∨ c = TO ∨ c = i1 ∨ c = i2 := by simpa using hcm
      rcases hc2 with q | q | q | q | q | q <;> rw [q]
      · exact Heap.lt_size he
      · exact Heap.lt_size hz
      · exact Heap.lt_size hTI
      · exact Heap.lt_size hTO
      · exact Heap.lt_size e1
      · exact Heap.lt_size e2
    refine ez_next D he hZ ne p.isList p2.isList (x := u) (y := u2) (by simpa using hu) (by simpa using hu2) fun h1 h2 tk pr sz kp ho hZ2 hU k2 => ?_
    refine ⟨_, rfl, wpAny_letOwnedTupleGo_enum (s := { s with heap := h2, toks := tk + 1 }) ho fun h3 he3 sb => ?_⟩
    have he1 : e < s.heap.objs.size := hlt e (by simp)
    have pr3 : IsPair h3 s.heap.objs.size u u2 := (sb.2 _ (Nat.ne_of_gt he1)).trans (k2 _ _ (Nat.ne_of_gt he1) pr)
    have hU3 : h3.get? (s.heap.objs.size + 1) = some { cls := .type "tuple", data := .seq #[.int i tk, .ref s.heap.objs.size] } := (sb.2 _ (Nat.ne_of_gt (Nat.lt_succ_of_lt he1))).trans hU
    have new1 : ObjOk X.prog X.w (upd H s.heap.objs.size (.tup [x, y])) h1 s.heap.objs.size (.tup [x, y]) :=
      ⟨by show 2 ≤ sizeLine; decide, [u, u2], .cons ru (.cons ru2 .nil), ⟨_, pr, rfl, _, rfl⟩⟩
    have I1 : Inv X pins σ (upd H s.heap.objs.size (.tup [x, y])) { s with heap := h1, toks := tk + 1 } :=
      I.turnedNew (ch := [e, z, TI, TO, i1, i2]) (fun c o hb q => kp c o (fun q2 => hb (by simp [q2])) (fun q2 => hb (by simp [q2])) (fun q2 => hb (by simp [q2])) (fun q2 => hb (by simp [q2])) q) hf (Nat.le_refl _) new1
    have hf1 : ∀ c ∈ [e], FpOk X pins (upd H s.heap.objs.size (.tup [x, y])) c := fun c hcm => by
      rw [List.mem_singleton.mp hcm]
      have q := hf e (by simp)
      exact ⟨by rw [upd_ne (Nat.ne_of_lt he1)]; exact q.1, q.2⟩
    have new2 : ObjOk X.prog X.w (upd (upd H s.heap.objs.size (.tup [x, y])) (s.heap.objs.size + 1) (.tup [.int (i : Nat), .ref s.heap.objs.size])) h3 (s.heap.objs.size + 1) (.tup [.int (i : Nat), .ref s.heap.objs.size]) :=
      ⟨by show 2 ≤ sizeLine; decide, [.int i tk, .ref s.heap.objs.size], .cons ⟨_, rfl⟩ (.cons rfl .nil), ⟨_, hU3, rfl, _, rfl⟩⟩
    have I2 : Inv X pins σ (upd (upd H s.heap.objs.size (.tup [x, y])) (s.heap.objs.size + 1) (.tup [.int (i : Nat), .ref s.heap.objs.size])) { s with heap := h3, toks := tk + 1 } :=
      I1.turnedNew (t' := tk + 1) (ch := [e]) (fun c o hb q => (sb.2 c (fun q2 => hb (by simp [q2]))).trans (k2 c o (fun q2 => hb (by simp [q2])) q)) hf1 (by show h1.objs.size ≤ _; rw [sz]; exact Nat.le_refl _) new2
    refine ⟨.ref (s.heap.objs.size + 1), _, I2, rfl, ⟨s.heap.objs.size, s.heap.objs.size + 1, x, y, rfl, I.hok.fresh (Nat.le_refl _), I.hok.fresh (Nat.le_succ _), Nat.succ_ne_self _, rfl, fun l hl => by rw [I.list_inj hl hqx]; exact hx, fun l hl => by rw [I.list_inj hl hqy]; exact hy⟩, ⟨⟨_, by rw [Int.natCast_succ]; exact he3⟩, ?_⟩, fun c hcm => ?_⟩
    · obtain ⟨⟨f0, f, o1, z1⟩, t1, ⟨v1, v2, t2⟩, r1, r2⟩ := hZ2
      have sk : ∀ c o, c ≠ e → h2.get? c = some o → h3.get? c = some o := fun c o n q => (sb.2 c n).trans q
      exact ⟨⟨f0, f, o1, sk _ _ ne.1.symm z1⟩, sk _ _ ne.2.1.symm t1, ⟨v1, v2, sk _ _ ne.2.2.1.symm t2⟩, r1.at fun o q => sk _ o ne.2.2.2.1.symm q, r2.at fun o q => sk _ o ne.2.2.2.2.symm q⟩
    · have hcl := hlt c hcm
      rw [upd_ne (Nat.ne_of_lt (Nat.lt_succ_of_lt hcl)), upd_ne (Nat.ne_of_lt hcl)]
      exact (hf c hcm).1
  done := by
    intro X hP hw hK hc i pins s σ H E I hf st hg
    subst hP hw hK
    obtain ⟨⟨old, he⟩, hZ⟩ := st
    obtain ⟨xs, ys, hqx, hqy, hend⟩ := hg
    obtain ⟨its, rv, p, _⟩ := I.list hqx
    obtain ⟨its2, rv2, p2, _⟩ := I.list hqy
    have l1 := rv.length
    have l2 := rv2.length
    have hn : its.toArray[i]? = none ∨ its2.toArray[i]? = none := by
      rcases hend with q | q
      · exact .inl (by simp; omega)
      · exact .inr (by simp; omega)
    exact ez_stop (I.ok.hd hc) D he hZ p.isList p2.isList hn fun h2 hk => ⟨rfl, I.turnedL (t' := s.toks) (ch := [e, z, TI, TO, i1, i2]) (fun c o hb q =>
      hk c o (fun q2 => hb (by simp [q2])) (fun q2 => hb (by simp [q2])) (fun q2 => hb (by simp [q2])) (fun q2 => hb (by simp [q2])) q) hf⟩
  self := fun A i s Q E st h => let ⟨⟨_, he⟩, _⟩ := st; wpAny_pyIter_enum he h
theorem meets_enumZ {z TI TO : Addr} {f0 : Value} :
    Meets (Builtin.«enumerate.__new__» ⟨[.type "enumerate", .ref z], []⟩) (fun _ R s => IsZip s.heap z TI TO f0 ∧
      R (.ok (.ret (.ref s.heap.objs.size))) { s with heap := s.heap.push { cls := .type "enumerate", data := .fields #[.none, .bool false, .ref z, rawInt 0, .none, .none] } }) :=
  .of_wp fun prog w A R s h => by
    have hsub := sub_enumerate
    obtain ⟨hp, gens, drawn, toks, outs⟩ := s
    obtain ⟨hG, hR⟩ := h
    have itr : ∀ {A' : Around} {E : Value → Shared → Prop} {Q : Value → Shared → Prop}, Q (.ref z) ⟨hp, gens, drawn, toks, outs⟩ → wpAny (model prog w) A' (pyIter (.ref z)) Q E ⟨hp, gens, drawn, toks, outs⟩ :=
      fun q => wpAny_pyIter_zip (s := ⟨hp, gens, drawn, toks, outs⟩) hG q
    wp_walk using itr
    refine wpAny_stack_any fun fr => wpAny_pure ?_
    split
    · rename_i cc _ _ _ _ _
      cases (cc == Value.type "enumerate")
      · (wp_walk using itr); exact ⟨_, rfl, hR⟩
      · (wp_walk using itr); exact ⟨_, rfl, hR⟩
    · (wp_walk using itr); exact ⟨_, rfl, hR⟩
section
variable {prog : Program} {w : World} {A : Around} {E : Value → Shared → Prop} {s : Shared}
theorem call_enumZ {z TI TO : Addr} {f0 : Value} {Q : Value → Shared → Prop} (hG : IsZip s.heap z TI TO f0)
    (h : ∀ h2, IsEnum h2 s.heap.objs.size z 0 .none → (∀ b o2, s.heap.get? b = some o2 → h2.get? b = some o2) → Q (.ref s.heap.objs.size) { s with heap := h2 }) :
    wpAny (model prog w) A (call (.type "enumerate") [.ref z]) Q E s := by
  refine callType_new F.called_enumerate (by decide) (F.typeCall_enumerate_1 _) (F.newCall_enumerate_1 _) (fun ob => F.args_object_init_2 ob _) F.entry_enumerate_new (meets_enumZ (TI := TI) (TO := TO) (f0 := f0)) ⟨hG, ?_⟩
  show _ ∧ _
  have g1 := Heap.get?_push_size s.heap (o := { cls := .type "enumerate", data := .fields #[.none, .bool false, .ref z, rawInt 0, .none, .none] }) rfl
  exact ⟨⟨_, g1, rfl⟩, h _ g1 fun b o2 x => Heap.get?_push_of_some _ x⟩
end
def iEz (K : PySem.W.Frag) (ta : TA) : TI := fun σ H R => ta σ H fun vs H1 => ∃ a b xs ys, vs = [.ref a, .ref b] ∧ SqL K H1 a xs ∧ SqL K H1 b ys ∧ R (Itez K a b) H1
theorem pi_ez {X : Cx} {e e2 : Expr} {ta : TA} {p p2 pos pos2 tpos : Pos} {elts : List Expr} {kk : Nat} (hg : Gl X "enumerate") (hm : X.mg "enumerate" = none) (hg2 : Gl X "zip") (hm2 : X.mg "zip" = none) (ha : PA X [e, e2] ta)
    (hs : starEach [.Call (.Name "zip" p2) [e, e2] [] pos2] X.env = [(false, eval (.Call (.Name "zip" p2) [e, e2] [] pos2) X.env)] := by rfl)
    (hs2 : starEach [e, e2] X.env = (false, eval e X.env) :: starEach [e2] X.env := by rfl) (hpl : (backTo pos2 (starEach [e2] X.env)).any (·.1) = false := by rfl) :
    PI X (.Tuple elts kk tpos) (.Call (.Name "enumerate" p) [.Call (.Name "zip" p2) [e, e2] [] pos2] [] pos) (iEz X.K ta) := by
  refine ⟨fun pins s σ H R I h => Call_ (ld_blt I hg hm boot_enumerate (PyProof.Rows.callWith_type1 ?_ hs rfl))⟩
  rw [hs]
  show wpAny _ _ (spliced ((false, eval (.Call (.Name "zip" p2) [e, e2] [] pos2) X.env) :: backTo pos (starEach [] X.env))) _ _ s
  refine Calls.spliced_cons (Call_ (ld_blt I hg2 hm2 PyProof.Rows.boot_zip (PyProof.Rows.callWith_type1 (thn (ha.run pos2 pins s σ H _ I h) fun us s1 ⟨vs, H1, I1, r1, q1⟩ => ?_) hs2 hpl)))
  obtain ⟨a, b, xs, ys, ex, hqx, hqy, q⟩ := q1
  subst ex
  cases r1 with
  | cons r rr =>
    cases rr with
    | cons r2 rr =>
      cases rr
      cases r
      cases r2
      obtain ⟨its, rv, p1, _⟩ := I1.list hqx
      obtain ⟨its2, rv2, p2, _⟩ := I1.list hqy
      have la : a < s1.heap.objs.size := p1.lt
      have lb : b < s1.heap.objs.size := p2.lt
      refine call_zip_2 p1.isList p2.isList fun h2 hz hTI hTO r1 r2 hsz hk => Calls.spliced_nil ?_
      refine call_enumZ (s := { s1 with heap := h2 }) hz fun h3 he hk3 => wpAny_pyIter_enum he ?_
      have I2 : Inv X pins σ H1 { s1 with heap := h3 } := I1.kept (t' := s1.toks) fun c o q => hk3 c o (hk c o q)
      have hN : h2.objs.size = s1.heap.objs.size + 5 := hsz
      have ne5 : ∀ j : Nat, j < 5 → h2.objs.size ≠ s1.heap.objs.size + j := fun j hj => by
        rw [hN]
        exact fun q => by have := Nat.add_left_cancel q; omega
      refine ⟨h2.objs.size, [h2.objs.size, s1.heap.objs.size + 4, s1.heap.objs.size + 2, s1.heap.objs.size + 3, s1.heap.objs.size, s1.heap.objs.size + 1], _, _, H1, rfl, I2,
        turn_ez (PySem.W.ktu_apart s1.heap.objs.size a b la lb) ⟨ne5 4 (by decide), ne5 2 (by decide), ne5 3 (by decide), ne5 0 (by decide), ne5 1 (by decide)⟩,
        ⟨⟨.none, he⟩, ⟨.none, false, .inl rfl, hk3 _ _ hz⟩, hk3 _ _ hTI, ⟨_, _, hk3 _ _ hTO⟩, r1.at fun o q => hk3 _ o q, r2.at fun o q => hk3 _ o q⟩, fun c hcm => ?_, q⟩
      have hc2 : c = h2.objs.size ∨ c = s1.heap.objs.size + 4 ∨ c = s1.heap.objs.size + 2 ∨ c = s1.heap.objs.size + 3 ∨ c = s1.heap.objs.size ∨ c = s1.heap.objs.size + 1 := by simpa using hcm
      have hle : s1.heap.objs.size ≤ c := by
        rcases hc2 with z | z | z | z | z | z <;> rw [z]
        · rw [hN]; exact Nat.le_add_right _ _
        · exact Nat.le_add_right _ _
        · exact Nat.le_add_right _ _
        · exact Nat.le_add_right _ _
        · exact Nat.le_refl _
        · exact Nat.le_add_right _ _
      exact I1.fpOk hle (I1.hok.fresh hle)
/-- what a turn gives: a new pair of the place and a new pair -/
def YEz (xs ys : List V) : Nat → Hp → V → Hp → Prop := fun i H v H' => ∃ T U x y, v = .ref U ∧ H T = none ∧ H U = none ∧ U ≠ T ∧ H' = upd (upd H T (.tup [x, y])) U (.tup [.int (i : Nat), .ref T]) ∧ xs[i]? = some x ∧ ys[i]? = some y
theorem walk_ez {K : PySem.W.Frag} {a b : Addr} {xs ys : List V} {n : Nat} (hn : n = min xs.length ys.length) : Walk (Itez K a b) n (fun H => SqL K H a xs ∧ SqL K H b ys) (YEz xs ys) := by
  subst hn
  refine ⟨fun i _ hi q => ?_, fun _ q => ⟨xs, ys, q.1, q.2, by omega⟩, fun i H v H' _ q y => ?_⟩
  · have h1 : i < xs.length := by omega
    have h2 : i < ys.length := by omega
    exact ⟨xs, ys, xs[i], ys[i], q.1, q.2, List.getElem?_eq_getElem h1, List.getElem?_eq_getElem h2⟩
  · obtain ⟨T, U, x, y, h1, h2, h3, h4, h5, h6, h7⟩ := y
    exact ⟨T, U, x, y, h1, h2, h3, h4, h5, h6 xs q.1, h7 ys q.2⟩
end Dw

/-! try .. except A as n: .. except B: .. -/
namespace Dw
open PySem PySem.Spec PyProof.Rows L2
section
variable {X : Cx} {x n : Str} {c : Value} {i : Nat} {body suite : List Stmt} {b0 : Stmt} {np pos pos2 : Pos} {tb : WX → TS} {ts : Addr → Value → Option Addr → TS} {Wout : WX} {hs2 : List ExceptHandler} {l : List (Value × (Addr → Value → Option Addr → TS))}
theorem ps_try_as2 (hs : X.stack = X.env :: X.outer) (hf : X.env.frame = some X.env.locals) (hN : X.N.Nodup) (hi : X.N[i]? = some n) (hln : X.env.kindOf n = some .local) (hc : Names X x c) (tk : Takes X Wout)
    (hb : ∀ (W : WX) (pn : List (Addr × Obj)) (xe : Value → Shared → Prop), Takes (X.tr pn xe) W → PassesOwn (model X.prog X.w) X.A X.env xe → PSs (X.tr pn xe) body (tb W))
    (hsu : ∀ (a : Addr) (oe : Obj) (cls : Value) (d : Option Addr) (pn : List (Addr × Obj)), Zc cls d oe → (∃ vs, oe.data = .fields vs) → PSs (X.suite a ((a, oe) :: pn)) (b0 :: suite) (ts a cls d))
    (hh : HdsOk X hs2 l) :
    PS X (.Try body (.ExceptHandler (some (.Name x np)) (some n) (b0 :: suite) pos2 :: hs2) [] [] pos) (fun D σ H => tb (wAs X.K c i ts (wMany X.K Wout D l) D) D σ H) := by
  refine ⟨fun pins s σ H D I h => ?_⟩
  have ok := I.ok
  have frs1 : X.A.frames = some (X.env :: X.outer) := by rw [ok.frames, hs]
  have locn : Loc X.env.scope n := .inl hln
  refine wpAny_Try_except (wpAny_mono ((hb (wAs X.K c i ts (wMany X.K Wout D l) D) (X.pn ++ pins) (fun e s1 => wpAny (model X.prog X.w) X.A (noteFrame e X.env) (fun _ s2 => wpAny (model X.prog X.w) X.A (setFlight e none) (fun _ s3 =>
    wpAny (model X.prog X.w) X.A (handleBy e X.env (.ExceptHandler (some (.Name x np)) (some n) (b0 :: suite) pos2 :: hs2)) (SP X pins D) X.xe s3) X.xe s2) X.xe s1) (fun u s' caught => ?_) PassesOwn.looking).run [] s σ H D (I.toTry _) h) (fun f s1 hsp => ?_) (fun e s1 he => he))
  · obtain ⟨a, B, sI, pinsI, σ', H', cls, d, rfl, J', nb, up, sky, na, os, ag, b, hb1, hyes, hno⟩ := caught
    have J : Inv X pins σ' H' sI := J'.ofTry ok
    have sky2 : Sky B (X.env :: X.outer) a (Zc cls d) X.env.locals s'.heap := by rw [← hs]; exact sky
    show wpAny (model X.prog X.w) X.A (noteFrame (.ref a) X.env) _ _ _
    refine Sky.land Zc.steady frs1 hf sky2 fun h3 fl3 up3 => ?_
    have J3 : Inv X pins σ' H' { s' with heap := h3 } := J.landed nb fl3.1 (up.trans up3) os ag
    obtain ⟨oe3, vs3, he3, hz3, hd3⟩ := fl3.there
    have nfr : a ∉ frs (X.env :: X.outer) := fun hm => by
      obtain ⟨_, o2, e2, hnf⟩ := fl3.2.2.1.mem hm
      rw [he3] at e2
      cases e2
      exact hnf _ hd3
    have nL : a ≠ X.env.locals := fun z => nfr (List.mem_filterMap.mpr ⟨X.env, List.mem_cons_self, by rw [hf, z]⟩)
    have nF : a ∉ X.fs := fun hm => by
      obtain ⟨e, he, q⟩ := List.mem_filterMap.mp hm
      exact nfr (List.mem_filterMap.mpr ⟨e, List.mem_cons_of_mem _ he, q⟩)
    have S3 := J3.suite he3 hd3 na nL nF
    have look : PySem.W.Looks (model X.prog X.w) h3 (typeOf (.ref a)) cls := fun A Q E s k q => wpAny_typeOf_ref (k _ _ he3) (by rw [hz3.1]; exact q)
    have tst : ∀ {y : Str} {cy : Value} {py : Pos} {Q : Value → Shared → Prop} {E : Value → Shared → Prop}, Names X y cy → Q cy { s' with heap := h3 } → wpAny (model X.prog X.w) (X.A.mark (some (.ref a))) (eval (.Name y py) X.env) Q E { s' with heap := h3 } := fun {y cy py Q E} hy q => by
      obtain ⟨hg, hdbg, hm | ⟨hm, hv, hnn⟩⟩ := hy
      · exact ld_glob (X := X.suite a ((a, oe3) :: (X.pn ++ pins))) S3 hg hm q hdbg
      · exact ld_blt (X := X.suite a ((a, oe3) :: (X.pn ++ pins))) S3 hg hm hv q hnn hdbg
    have rest : ∀ {hds : List ExceptHandler} {ll : List (Value × (Addr → Value → Option Addr → TS))}, HdsOk X hds ll → wMany X.K Wout D ll cls d σ' H' →
        wpAny (model X.prog X.w) X.A (handleBy (.ref a) X.env hds) (SP X pins D) X.xe { s' with heap := h3 } := by
      intro hds ll hk
      induction hk with
      | nil =>
        intro wo
        refine wpAny_handleBy_nil ?_
        obtain ⟨_, _, _, oe, vs, Tb, oT, _, he, _, hd, hh1, _⟩ := id fl3
        unfold PySem.passOn
        refine wpAny_bind (wpAny_field he hd hh1 ?_)
        rw [if_neg (show ¬ (Value.ref Tb == Value.none) = true from by simp)]
        have fin : wpAny (model X.prog X.w) X.A (setFlight (.ref a) X.env.frame) (fun _ s4 => wpAny (model X.prog X.w) X.A (throw (.ref a) : Sem Flow) (SP X pins D) X.xe s4) X.xe { s' with heap := h3 } := by
          rw [hf]
          refine HandSPX.setFlight_upZ fl3 fun h4 hh4 up4 => wpAny_throw (tk _ _ ?_)
          exact ⟨a, B, sI, pins, σ', H', cls, d, rfl, J, nb, (up.trans up3).trans up4, .inr (.inr (by rw [hs]; exact hh4)), na, os, ag, wo⟩
        first
          | exact wpAny_bind (wpAny_pure (wpAny_bind fin))
          | exact wpAny_bind fin
      | @cons y cy ty c0 st2 npy posy hds3 l3 hcy hsy r ih =>
        intro wo
        obtain ⟨b2, hb2, yes2, no2⟩ := wo
        have LM2 := PySem.W.exm_one (M := model X.prog X.w) (J3.kIn) look hb2
        refine wpAny_handleBy_cons (codeAny_handlers_test (tst hcy (LM2.here ?_))) (by intro q; cases q)
        cases b2 with
        | true =>
          refine codeAny_handlers_suite (HandSPX.lands_againZ fl3 fun h4 fl4 up4 => ?_)
          have J4 : Inv X pins σ' H' { s' with heap := h4 } := J.landed nb fl4.1 ((up.trans up3).trans up4) os ag
          obtain ⟨oe4, vs4, he4, hz4, hd4⟩ := fl4.there
          refine wpAny_mono ((hsy a oe4 cls d (X.pn ++ pins) hz4 ⟨_, hd4⟩).run [] _ _ H' _ (J4.suite he4 hd4 na nL nF) (yes2 rfl a na)) (fun f s6 hsp => ?_) (fun _ _ z => False.elim z)
          cases f with
          | next => obtain ⟨σ6, H6, S6, q6⟩ := hsp; exact ⟨_, _, S6.unsuite ok, q6⟩
          | brk => obtain ⟨σ6, H6, S6, q6⟩ := hsp; exact ⟨_, _, S6.unsuite ok, q6⟩
          | cont => obtain ⟨σ6, H6, S6, q6⟩ := hsp; exact ⟨_, _, S6.unsuite ok, q6⟩
          | ret u => obtain ⟨v6, σ6, H6, S6, r6, q6⟩ := hsp; exact ⟨_, _, _, S6.unsuite ok, r6, q6⟩
        | false =>
          show wpAny _ X.A (handleBy (.ref a) X.env hds3) _ _ _
          exact ih (no2 rfl)
    have LM := PySem.W.exm_one (M := model X.prog X.w) (J3.kIn) look hb1
    refine wpAny_handleBy_cons (codeAny_handlers_test (tst hc (LM.here ?_))) (by intro q; cases q)
    cases b with
    | true =>
      refine codeAny_handlers_suite_as (HandSPX.lands_againZ fl3 fun h4 fl4 up4 => ?_)
      have J4 : Inv X pins σ' H' { s' with heap := h4 } := J.landed nb fl4.1 ((up.trans up3).trans up4) os ag
      obtain ⟨oe4, vs4, he4, hz4, hd4⟩ := fl4.there
      refine store_ok (X := X.suite a ((a, oe4) :: (X.pn ++ pins))) (v := .ref a) (J4.suite he4 hd4 na nL nF) hN hi locn rfl (fun s5 S5 => ?_) (.inr hln)
      refine wpAny_mono ((hsu a oe4 cls d (X.pn ++ pins) hz4 ⟨_, hd4⟩).run [] s5 _ H' _ S5 (hyes rfl a na)) (fun f s6 hsp => ?_) (fun _ _ z => False.elim z)
      have fin : ∀ {σ6 : L2.St} {H6 : Hp} {Q : Shared → Prop}, Inv (X.suite a ((a, oe4) :: (X.pn ++ pins))) [] σ6 H6 s6 → (∀ s7, Inv X pins (σ6.set i none) H6 s7 → Q s7) →
          wpAny (model X.prog X.w) X.A (do bindName X.env n .none; unbindBehindTheSuite X.env n pos2) (fun _ s7 => Q s7) X.xe s6 := fun {σ6 H6 Q} S6 hq => gone_ok (S6.unsuite ok) hN hi hln hq
      cases f with
      | next => obtain ⟨σ6, H6, S6, q6⟩ := hsp; exact fin S6 fun s7 J7 => ⟨_, _, J7, q6⟩
      | brk => obtain ⟨σ6, H6, S6, q6⟩ := hsp; exact fin S6 fun s7 J7 => ⟨_, _, J7, q6⟩
      | cont => obtain ⟨σ6, H6, S6, q6⟩ := hsp; exact fin S6 fun s7 J7 => ⟨_, _, J7, q6⟩
      | ret u => obtain ⟨v6, σ6, H6, S6, r6, q6⟩ := hsp; exact fin S6 fun s7 J7 => ⟨_, _, _, J7, r6, q6⟩
    | false =>
      show wpAny _ X.A (handleBy (.ref a) X.env hs2) _ _ _
      exact rest hh (hno rfl)
  · cases f with
    | next => obtain ⟨σ', H', J', q⟩ := hsp; exact wpAny_execs_nil ⟨σ', H', J'.ofTry ok, q⟩
    | brk => obtain ⟨σ', H', J', q⟩ := hsp; exact ⟨σ', H', J'.ofTry ok, q⟩
    | cont => obtain ⟨σ', H', J', q⟩ := hsp; exact ⟨σ', H', J'.ofTry ok, q⟩
    | ret u => obtain ⟨v, σ', H', J', r, q⟩ := hsp; exact ⟨v, σ', H', J'.ofTry ok, r, q⟩
end
end Dw

/-! differences of lists -/
namespace Dw
open PySem PySem.Spec PyProof.Rows L2
/-- how long the common beginning is -/
def cpl : List Int → List Int → Nat
  | a :: as, b :: bs => if a = b then cpl as bs + 1 else 0
  | [], _ => 0
  | _ :: _, [] => 0
theorem cpl_le : ∀ a b : List Int, cpl a b ≤ a.length ∧ cpl a b ≤ b.length
  | [], b => ⟨Nat.zero_le _, Nat.zero_le _⟩
  | _ :: _, [] => ⟨Nat.zero_le _, Nat.zero_le _⟩
  | a :: as, b :: bs => by
    have h := cpl_le as bs
    unfold cpl
    split
    · simp only [List.length_cons]; omega
    · exact ⟨Nat.zero_le _, Nat.zero_le _⟩
theorem cpl_eq : ∀ {a b : List Int} {i : Nat}, i < cpl a b → a[i]? = b[i]?
  | [], b, i, h => by unfold cpl at h; omega
  | _ :: _, [], i, h => by unfold cpl at h; omega
  | a :: as, b :: bs, i, h => by
    unfold cpl at h
    split at h
    · rename_i e
      subst e
      cases i with
      | zero => rfl
      | succ i => exact cpl_eq (a := as) (b := bs) (by omega)
    · omega
theorem cpl_ne : ∀ {a b : List Int} {x y : Int}, a[cpl a b]? = some x → b[cpl a b]? = some y → x ≠ y
  | [], b, x, y, h, _ => by simp at h
  | _ :: _, [], x, y, _, h => by simp at h
  | a :: as, b :: bs, x, y, h1, h2 => by
    by_cases e : a = b
    · have e2 : cpl (a :: as) (b :: bs) = cpl as bs + 1 := by rw [cpl, if_pos e]
      rw [e2] at h1 h2
      exact cpl_ne (a := as) (b := bs) h1 h2
    · have e2 : cpl (a :: as) (b :: bs) = 0 := by rw [cpl, if_neg e]
      rw [e2] at h1 h2
      cases h1
      cases h2
      exact e
theorem cpl_step {a b : List Int} {i : Nat} {x y : Int} (h : i ≤ cpl a b) (hx : a[i]? = some x) (hy : b[i]? = some y) : (x = y → i + 1 ≤ cpl a b) ∧ (x ≠ y → i = cpl a b) := by
  refine ⟨fun e => ?_, fun e => ?_⟩
  · rcases Nat.lt_or_ge i (cpl a b) with h1 | h1
    · exact h1
    · have e2 : i = cpl a b := by omega
      rw [e2] at hx hy
      exact absurd e (cpl_ne hx hy)
  · rcases Nat.lt_or_ge i (cpl a b) with h1 | h1
    · have := cpl_eq h1
      rw [hx, hy] at this
      exact absurd (Option.some.inj this) e
    · omega
theorem cpl_take {a b : List Int} : a.take (cpl a b) = b.take (cpl a b) := by
  apply List.ext_getElem?
  intro i
  by_cases h : i < cpl a b
  · rw [List.getElem?_take_of_lt h, List.getElem?_take_of_lt h]
    exact cpl_eq h
  · rw [List.getElem?_eq_none (by rw [List.length_take]; omega), List.getElem?_eq_none (by rw [List.length_take]; omega)]
/-- the common end behind the common beginning -/
def cel (a b : List Int) : Nat := cpl (a.drop (cpl a b)).reverse (b.drop (cpl a b)).reverse
def midl (a b : List Int) : List Int := (a.drop (cpl a b)).take (a.length - cpl a b - cel a b)
def midr (a b : List Int) : List Int := (b.drop (cpl a b)).take (b.length - cpl a b - cel a b)
theorem cel_le (a b : List Int) : cel a b ≤ a.length - cpl a b ∧ cel a b ≤ b.length - cpl a b := by
  have h := cpl_le (a.drop (cpl a b)).reverse (b.drop (cpl a b)).reverse
  rw [List.length_reverse, List.length_reverse, List.length_drop, List.length_drop] at h
  exact h
theorem take_rev {l : List Int} {n : Nat} (h : n ≤ l.length) : (l.reverse.take n).reverse = l.drop (l.length - n) := by
  rw [List.take_reverse, List.reverse_reverse]
theorem mid_ne {a b : List Int} (h : a ≠ b) : midl a b ≠ midr a b := fun e => by
  have h1 := cel_le a b
  have l1 := cpl_le a b
  have t1 : a.take (cpl a b) = b.take (cpl a b) := cpl_take
  have t2 : (a.drop (cpl a b)).reverse.take (cel a b) = (b.drop (cpl a b)).reverse.take (cel a b) := cpl_take
  have t3 := congrArg List.reverse t2
  rw [take_rev (by rw [List.length_drop]; omega), take_rev (by rw [List.length_drop]; omega), List.length_drop, List.length_drop] at t3
  have e : (a.drop (cpl a b)).take (a.length - cpl a b - cel a b) = (b.drop (cpl a b)).take (b.length - cpl a b - cel a b) := e
  have e1 : a.drop (cpl a b) = b.drop (cpl a b) :=
    (List.take_append_drop (a.length - cpl a b - cel a b) (a.drop (cpl a b))).symm.trans ((congr (congrArg _ e) t3).trans (List.take_append_drop (b.length - cpl a b - cel a b) (b.drop (cpl a b))))
  exact h ((List.take_append_drop (cpl a b) a).symm.trans ((congr (congrArg _ t1) e1).trans (List.take_append_drop (cpl a b) b)))
/-- xs[i] with i from the end -/
def rIxE : R2 := fun x y H Q => ∃ p ns i, x = .ref p ∧ y = .int i ∧ H p = some (IL ns) ∧ (-(ns.length : Int) ≤ i ∧ i < 0) ∧ Q (.int (ns.getD (i + ns.length).toNat 0)) H
theorem ix_listE {X : Cx} : IxR X rIxE := IxR.imp ix_list fun x y H Q h => by
  obtain ⟨p, ns, i, e1, e2, h1, ⟨h2, h3⟩, q⟩ := h
  refine ⟨p, ns.map V.int, i, _, e1, e2, .of h1, ?_, q⟩
  have hk : (i + ns.length).toNat < ns.length := by omega
  unfold atI ixN
  rw [List.length_map, if_neg (by omega), if_pos h2]
  show (ns.map V.int)[(i + ns.length).toNat]? = _
  rw [List.getElem?_map, List.getElem?_eq_getElem hk, List.getD_eq_getElem?_getD, List.getElem?_eq_getElem hk]
  rfl
theorem rev_at {l : List Int} {c i : Nat} (h : i < l.length - c) : (l.drop c).reverse[i]? = some (l.getD (l.length - 1 - i) 0) := by
  rw [List.getElem?_reverse (by rw [List.length_drop]; exact h), List.length_drop, List.getElem?_drop, show c + (l.length - c - 1 - i) = l.length - 1 - i by omega, List.getD_eq_getElem?_getD, List.getElem?_eq_getElem (show l.length - 1 - i < l.length by omega)]
  rfl
/-! ### runs of places -/
abbrev Rn := Int × Int
def stepC (rs : List Rn) (p : Int) : List Rn := match rs.getLast? with | some (s, c) => if p = s + c then rs.dropLast ++ [(s, c + 1)] else rs ++ [(p, 1)] | none => [(p, 1)]
def runsZ (ps : List Int) : List Rn := ps.foldl stepC []
theorem runsZ_more {ps : List Int} {p : Int} : runsZ (ps ++ [p]) = stepC (runsZ ps) p := by
  unfold runsZ
  rw [List.foldl_append]
  rfl
theorem stepC_nil (p : Int) : stepC [] p = [(p, 1)] := rfl
theorem stepC_app (pre : List Rn) (s c p : Int) : stepC (pre ++ [(s, c)]) p = if p = s + c then pre ++ [(s, c + 1)] else pre ++ [(s, c)] ++ [(p, 1)] := by
  unfold stepC
  rw [List.getLast?_append]
  simp
def RunsOk (d : Int → Prop) : Int → List Rn → Prop
  | _, [] => True
  | lo, (s, c) :: r => lo ≤ s ∧ 1 ≤ c ∧ d s ∧ RunsOk d (s + c + 1) r
theorem RunsOk.grow {d : Int → Prop} {s c : Int} : ∀ {pre : List Rn} {lo : Int}, RunsOk d lo (pre ++ [(s, c)]) → RunsOk d lo (pre ++ [(s, c + 1)])
  | [], lo, h => ⟨h.1, by have := h.2.1; omega, h.2.2.1, trivial⟩
  | (_, _) :: r, lo, h => ⟨h.1, h.2.1, h.2.2.1, RunsOk.grow (pre := r) h.2.2.2⟩
theorem RunsOk.more {d : Int → Prop} {s c p : Int} (hp : s + c < p) (hd : d p) : ∀ {pre : List Rn} {lo : Int}, RunsOk d lo (pre ++ [(s, c)]) → RunsOk d lo (pre ++ [(s, c)] ++ [(p, 1)])
  | [], lo, h => ⟨h.1, h.2.1, h.2.2.1, by omega, by decide, hd, trivial⟩
  | (_, _) :: r, lo, h => ⟨h.1, h.2.1, h.2.2.1, RunsOk.more hp hd (pre := r) h.2.2.2⟩
theorem RunsOk.last {d : Int → Prop} {s c : Int} : ∀ {pre : List Rn} {lo : Int}, RunsOk d lo (pre ++ [(s, c)]) → 1 ≤ c
  | [], lo, h => h.2.1
  | (_, _) :: r, lo, h => RunsOk.last (pre := r) h.2.2.2
/-- the end of the last run -/
def endRn (rs : List Rn) : Int := match rs.getLast? with | some (s, c) => s + c | none => 0
theorem endRn_app (pre : List Rn) (s c : Int) : endRn (pre ++ [(s, c)]) = s + c := by
  unfold endRn
  rw [List.getLast?_append]
  simp
theorem snoc_cases {α : Type} (l : List α) : l = [] ∨ ∃ pre x, l = pre ++ [x] := by
  rcases List.eq_nil_or_concat l with h | ⟨pre, x, h⟩
  · exact .inl h
  · exact .inr ⟨pre, x, by rw [h, List.concat_eq_append]⟩
theorem stepC_ok {d : Int → Prop} {rs : List Rn} {p : Int} (h : RunsOk d 0 rs) (hp : endRn rs ≤ p) (h0 : 0 ≤ p) (hd : d p) : RunsOk d 0 (stepC rs p) ∧ endRn (stepC rs p) = p + 1 ∧ (stepC rs p).length ≤ rs.length + 1 := by
  rcases snoc_cases rs with rfl | ⟨pre, ⟨s, c⟩, rfl⟩
  · rw [stepC_nil]
    exact ⟨⟨h0, by decide, hd, trivial⟩, rfl, Nat.le_refl _⟩
  · rw [endRn_app] at hp
    rw [stepC_app]
    split
    · rename_i e
      refine ⟨h.grow, by rw [endRn_app]; omega, by rw [List.length_append, List.length_append]; simp⟩
    · exact ⟨h.more (by omega) hd, by rw [endRn_app], by rw [List.length_append]; exact Nat.le_refl _⟩
theorem RunsOk.all {d : Int → Prop} : ∀ {rs : List Rn} {lo : Int}, 0 ≤ lo → RunsOk d lo rs → ∀ r ∈ rs, 0 ≤ r.1 ∧ 1 ≤ r.2
  | (s, c) :: q, lo, h0, h, r, hr => by
    obtain ⟨h1, h2, h3, h4⟩ := h
    rcases List.mem_cons.mp hr with e | e
    · rw [e]
      exact ⟨by show 0 ≤ s; omega, h2⟩
    · exact RunsOk.all (lo := s + c + 1) (by omega) h4 r e
/-- all runs end before n -/
def RunsIn (n : Int) (rs : List Rn) : Prop := ∀ r ∈ rs, r.1 + r.2 ≤ n
theorem RunsIn.step {n : Int} {rs : List Rn} {p : Int} (h : RunsIn n rs) (hp : p + 1 ≤ n) : RunsIn n (stepC rs p) := by
  rcases snoc_cases rs with rfl | ⟨pre, ⟨s, c⟩, rfl⟩
  · intro r hr
    rw [stepC_nil] at hr
    rw [List.mem_singleton.mp hr]
    exact hp
  · rw [stepC_app]
    split
    · rename_i e
      intro r hr
      rcases List.mem_append.mp hr with q | q
      · exact h r (List.mem_append_left _ q)
      · rw [List.mem_singleton.mp q]
        show s + (c + 1) ≤ n
        omega
    · intro r hr
      rcases List.mem_append.mp hr with q | q
      · exact h r q
      · rw [List.mem_singleton.mp q]
        exact hp
def neqP (as bs : List Int) (i : Nat) : Bool := decide (as.getD i 0 ≠ bs.getD i 0)
def placesN (as bs : List Int) (n : Nat) : List Int := ((List.range n).filter (neqP as bs)).map fun i : Nat => (i : Int)
theorem placesN_more (as bs : List Int) (n : Nat) : placesN as bs (n + 1) = if neqP as bs n = true then placesN as bs n ++ [(n : Int)] else placesN as bs n := by
  unfold placesN
  rw [List.range_succ, List.filter_append, List.map_append]
  split
  · rename_i e
    simp [e]
  · rename_i e
    simp [e]
theorem places_ok (as bs : List Int) : ∀ n : Nat, RunsOk (fun s => as.getD s.toNat 0 ≠ bs.getD s.toNat 0) 0 (runsZ (placesN as bs n)) ∧ endRn (runsZ (placesN as bs n)) ≤ n ∧ RunsIn n (runsZ (placesN as bs n)) ∧ (runsZ (placesN as bs n)).length ≤ n
  | 0 => ⟨trivial, Int.le_refl _, (fun r hr => by cases hr), Nat.le_refl _⟩
  | n + 1 => by
    obtain ⟨h1, h2, h3, h4⟩ := places_ok as bs n
    rw [placesN_more]
    split
    · rename_i e
      rw [runsZ_more]
      have hd : as.getD ((n : Int).toNat) 0 ≠ bs.getD ((n : Int).toNat) 0 := by
        rw [Int.toNat_natCast]
        unfold neqP at e
        exact of_decide_eq_true e
      obtain ⟨q1, q2, q3⟩ := stepC_ok h1 h2 (by omega) hd
      exact ⟨q1, by rw [q2]; omega, RunsIn.step (n := ((n + 1 : Nat) : Int)) (fun r hr => by have := h3 r hr; omega) (by omega), by omega⟩
    · exact ⟨h1, by omega, fun r hr => by have := h3 r hr; omega, by omega⟩
def chOf (as bs : List Int) (r : Rn) : Ch := (r.1, (as.drop r.1.toNat).take r.2.toNat, (bs.drop r.1.toNat).take r.2.toNat)
theorem Bytes.dt {as : List Int} (h : Bytes as) (a n : Nat) : Bytes ((as.drop a).take n) := fun x hx => h x (List.mem_of_mem_drop (List.mem_of_mem_take hx))
theorem cutI_from {ns : List Int} {i : Nat} (h : i ≤ ns.length) : cutI ns (some (i : Int)) none = ns.drop i := by
  unfold cutI
  rw [HT.sIx_nat, Nat.min_eq_left h]
  show (ns.drop i).take (ns.length - i) = _
  rw [List.take_of_length_le (by rw [List.length_drop]; omega)]
theorem cutI_to {ns : List Int} {j : Nat} (h : j ≤ ns.length) : cutI ns none (some (j : Int)) = ns.take j := by
  unfold cutI
  rw [HT.sIx_nat, Nat.min_eq_left h]
  show (ns.drop 0).take (j - 0) = _
  rfl
theorem cutR {xs : List Int} {s c : Int} (h0 : 0 ≤ s) (h1 : 1 ≤ c) (h2 : s + c ≤ xs.length) : cutI xs (some s) (some (s + c)) = (xs.drop s.toNat).take c.toNat := by
  obtain ⟨n, rfl⟩ := Int.eq_ofNat_of_zero_le h0
  obtain ⟨m, rfl⟩ := Int.eq_ofNat_of_zero_le (show 0 ≤ c by omega)
  rw [show (n : Int) + (m : Int) = ((n + m : Nat) : Int) by omega, cutI_nat (by omega) (by omega), Nat.add_sub_cancel_left]
  rfl
/-- a pair of ints -/
def PrAt (H : Hp) (x : V) (r : Rn) : Prop := ∃ t, x = .ref t ∧ H t = some (.tup [.int r.1, .int r.2])
theorem PrAt.same {H H' : Hp} {x : V} {r : Rn} (s : Same H H') (h : PrAt H x r) : PrAt H' x r := by
  obtain ⟨t, e, h⟩ := h
  exact ⟨t, e, s _ _ h⟩
theorem PrAt.ups {D : Addr} {H : Hp} {xs : List V} {o : HO} {x : V} {r : Rn} (hD : H D = some (.lst xs)) (h : PrAt H x r) : PrAt (upd H D o) x r := by
  obtain ⟨t, e, h⟩ := h
  have n : t ≠ D := fun q => by subst q; rw [h] at hD; cases hD
  exact ⟨t, e, by rw [upd_ne n]; exact h⟩
theorem AllAt.pop {α : Type} {R : V → α → Prop} {xs : List V} {ss : List α} {x : V} {s : α} (h : AllAt R (xs ++ [x]) (ss ++ [s])) : AllAt R xs ss ∧ R x s := by
  have hl : xs.length = ss.length := by have := h.1; rw [List.length_append, List.length_append] at this; simpa using this
  refine ⟨⟨hl, fun i y e => ?_⟩, ?_⟩
  · have hi := (List.getElem?_eq_some_iff.mp e).1
    obtain ⟨s2, h1, h2⟩ := h.2 i y (by rw [List.getElem?_append_left hi]; exact e)
    rw [List.getElem?_append_left (by omega)] at h1
    exact ⟨s2, h1, h2⟩
  · obtain ⟨s2, h1, h2⟩ := h.2 xs.length x (by rw [List.getElem?_append_right (Nat.le_refl _), Nat.sub_self]; rfl)
    rw [hl, List.getElem?_append_right (Nat.le_refl _), Nat.sub_self] at h1
    cases h1
    exact h2
theorem AllAt.snoc {α : Type} {R : V → α → Prop} {xs : List V} {pre : List α} {s : α} (h : AllAt R xs (pre ++ [s])) : ∃ ys y, xs = ys ++ [y] ∧ AllAt R ys pre ∧ R y s := by
  rcases snoc_cases xs with rfl | ⟨ys, y, rfl⟩
  · have := h.1
    simp at this
  · exact ⟨ys, y, rfl, h.pop⟩
/-- xs[-1] = v -/
def rSetL : TSet := fun o i v H Q => ∃ p xs x, o = .ref p ∧ i = .int (-1) ∧ H p = some (.lst (xs ++ [x])) ∧ Q (upd H p (.lst (xs ++ [v])))
theorem set_listL {X : Cx} : PSet X rSetL := PSet.imp set_list fun o i v H Q h => by
  obtain ⟨p, xs, x, e1, e2, h1, q⟩ := h
  have hk : ixN (xs ++ [x]).length (-1) = some xs.length := by
    unfold ixN
    rw [if_neg (by decide), if_pos (by rw [List.length_append]; simp; omega)]
    rw [List.length_append]
    simp
    omega
  have es : (xs ++ [x]).set xs.length v = xs ++ [v] := by
    rw [List.set_append_right _ _ (Nat.le_refl _), Nat.sub_self]
    rfl
  exact ⟨p, _, -1, xs.length, e1, e2, h1, hk, by rw [es]; exact q⟩
theorem pe_chainX {X : Cx} {a b c : Expr} {ta tb tc : TE} {pos : Pos} {op op' : CmpOp} {r r' : R2} (ho : OpR X (compareOp op) r) (ho' : OpR X (compareOp op') r') (ha : PE X a ta) (hb : PE X b tb) (hc : PE X c tc)
    (hm : lastMarks [op, op'] [b, c] = false) : PE X (.Compare a [op, op'] [b, c] pos) (tChain r r' ta tb tc) := pe_chain ho ho' ha hb hc hm
theorem pe_fldT {X : Cx} {pn : List (Addr × Obj)} {xe : Value → Shared → Prop} {e : Expr} {ta : TE} {f : Str} {pos : Pos} (he : PE (X.tr pn xe) e ta) (hb : attributeBase e f (X.tr pn xe).env (eval e (X.tr pn xe).env) = eval e (X.tr pn xe).env) : PE (X.tr pn xe) (.Attribute e f pos) (tFld X.K ta f) := pe_fld he hb
def prD (r : Rn) : PyData := .tuple [.int r.1, .int r.2]
theorem prs_shal : ∀ rs : List Rn, ShalAll (rs.map prD) 6
  | [] => .nil
  | r :: t => .cons (.tup (.cons .int (.cons .int .nil))) (prs_shal t)
theorem PrAt.dt {H : Hp} {x : V} {r : Rn} (h : PrAt H x r) : Dt H x (prD r) := by
  obtain ⟨t, rfl, h⟩ := h
  exact .tup h (.cons (.int _) (.cons (.int _) .nil))
theorem prs_dt {H : Hp} : ∀ {xs : List V} {rs : List Rn}, AllAt (PrAt H) xs rs → DtAll H xs (rs.map prD)
  | [], [], _ => .nil
  | [], _ :: _, h => by have := h.1; simp at this
  | _ :: _, [], h => by have := h.1; simp at this
  | x :: r, c :: t, h => by
    obtain ⟨d, hd, hx⟩ := h.2 0 x rfl
    cases hd
    exact .cons hx.dt (prs_dt ⟨by have := h.1; simpa using this, fun i y e => h.2 (i + 1) y e⟩)
theorem eqv_prs (rs : List Rn) : PyData.eqv (.list (rs.map prD)) (.list []) = decide (rs = []) := by
  rw [PyData.eqv]
  cases rs with
  | nil => rw [List.map_nil, PyData.eqvAll]; rfl
  | cons r t =>
    show PyData.eqvAll (_ :: _) [] = _
    rw [PyData.eqvAll, decide_eq_false (fun e => by cases e)]
def endsZ (rs : List Rn) : List Rn := rs.map fun r => (r.1, r.1 + r.2)
theorem endsZ_app (pre : List Rn) (s c : Int) : endsZ (pre ++ [(s, c)]) = endsZ pre ++ [(s, s + c)] := by
  unfold endsZ
  rw [List.map_append]
  rfl
/-! ### x, 0, x, 0, .. -/
def altL (x : Int) (m : Nat) : List Int := (List.replicate m [x, 0]).flatten
theorem altL_succ (x : Int) (m : Nat) : altL x (m + 1) = x :: 0 :: altL x m := rfl
theorem alt_len (x : Int) : ∀ m : Nat, (altL x m).length = 2 * m
  | 0 => rfl
  | m + 1 => by
    rw [altL_succ, List.length_cons, List.length_cons, alt_len x m]
    omega
theorem alt_get (x : Int) : ∀ m k : Nat, k < m → (altL x m).getD (2 * k) 0 = x ∧ (altL x m).getD (2 * k + 1) 0 = 0
  | 0, k, h => by omega
  | m + 1, 0, h => ⟨rfl, rfl⟩
  | m + 1, k + 1, h => by
    have ih := alt_get x m k (by omega)
    rw [altL_succ, show 2 * (k + 1) = 2 * k + 1 + 1 by omega, List.getD_cons_succ, List.getD_cons_succ, List.getD_cons_succ, List.getD_cons_succ]
    exact ih
theorem alt_runs (m : Nat) : ∀ k : Nat, k ≤ m → runsZ (placesN (altL 0 m) (altL 1 m) (2 * k)) = (List.range k).map fun j : Nat => (((2 * j : Nat) : Int), 1)
  | 0, _ => rfl
  | k + 1, h => by
    have ih := alt_runs m k (by omega)
    obtain ⟨a1, a2⟩ := alt_get 0 m k (by omega)
    obtain ⟨b1, b2⟩ := alt_get 1 m k (by omega)
    have n1 : neqP (altL 0 m) (altL 1 m) (2 * k) = true := by
      unfold neqP
      rw [a1, b1]
      rfl
    have n2 : neqP (altL 0 m) (altL 1 m) (2 * k + 1) = false := by
      unfold neqP
      rw [a2, b2]
      rfl
    rw [show 2 * (k + 1) = 2 * k + 1 + 1 by omega, placesN_more, if_neg (by rw [n2]; decide), placesN_more, if_pos n1, runsZ_more, ih, List.range_succ, List.map_append]
    cases k with
    | zero => rfl
    | succ k =>
      rw [List.range_succ, List.map_append]
      show stepC (_ ++ [(((2 * k : Nat) : Int), 1)]) _ = _
      rw [stepC_app, if_neg (by omega)]
      rfl
/-! ### patches of any parts -/
def FitM : Int → List Ch → Prop
  | _, [] => True
  | l, c :: r => l ≤ c.1 ∧ Bytes c.2.1 ∧ Bytes c.2.2 ∧ c.2.1.length ≤ 10000 ∧ c.2.2.length ≤ 10000 ∧ c.2.1 ≠ c.2.2 ∧ FitM (c.1 + c.2.1.length + 1) r
theorem fit_runs {as bs : List Int} (hl : as.length = bs.length) (hs : as.length ≤ 10000) (ba : Bytes as) (bb : Bytes bs) : ∀ {rs : List Rn} {lo : Int}, 0 ≤ lo → RunsOk (fun s => as.getD s.toNat 0 ≠ bs.getD s.toNat 0) lo rs → RunsIn as.length rs → FitM lo (rs.map (chOf as bs))
  | [], lo, _, _, _ => trivial
  | (s, c) :: r, lo, h0, h, hi => by
    obtain ⟨h1, h2, h3, h4⟩ := h
    have h5 : s + c ≤ as.length := hi (s, c) List.mem_cons_self
    have l1 : ((as.drop s.toNat).take c.toNat).length = c.toNat := by rw [List.length_take, List.length_drop]; omega
    have l2 : ((bs.drop s.toNat).take c.toNat).length = c.toNat := by rw [List.length_take, List.length_drop]; omega
    have fa : ∀ xs : List Int, ((xs.drop s.toNat).take c.toNat).getD 0 0 = xs.getD s.toNat 0 := fun xs => by
      rw [List.getD_eq_getElem?_getD, List.getD_eq_getElem?_getD, List.getElem?_take_of_lt (by omega), List.getElem?_drop, Nat.add_zero]
    refine ⟨h1, ba.dt _ _, bb.dt _ _, by show ((as.drop s.toNat).take c.toNat).length ≤ _; omega, by show ((bs.drop s.toNat).take c.toNat).length ≤ _; omega, fun e => h3 ?_, ?_⟩
    · have e : (as.drop s.toNat).take c.toNat = (bs.drop s.toNat).take c.toNat := e
      rw [← fa as, ← fa bs, e]
    · show FitM (s + ((as.drop s.toNat).take c.toNat).length + 1) _
      rw [l1, show s + ((c.toNat : Nat) : Int) + 1 = s + c + 1 by omega]
      exact fit_runs hl hs ba bb (by omega) h4 fun r hr => hi r (List.mem_cons_of_mem _ hr)
def spPatchInitM (C CE : Addr) : Sp := fun vs H Q E => ∃ (x dx a : Addr) (xs : List V) (cs : List Ch), vs = [.ref x, .ref a] ∧ H x = some (.ins C dx []) ∧ H a = some (.lst xs) ∧ ChsAt H xs cs ∧ cs.length ≤ 10000 ∧ FitM 0 cs ∧
  (cs.length ≤ 500 → ∀ H', SameB x H H' → (∃ t ys, H' x = some (.ins C dx [("changes", .ref t)]) ∧ H' t = some (.tup ys) ∧ ChsAt H' ys cs) → Q .non H') ∧ (500 < cs.length → E (.ref CE) none H)
def spPatchM (C CE : Addr) : Sp := fun vs H Q E => ∃ (a : Addr) (xs : List V) (cs : List Ch), vs = [.ref a] ∧ H a = some (.lst xs) ∧ ChsAt H xs cs ∧ cs.length ≤ 10000 ∧ FitM 0 cs ∧
  (cs.length ≤ 500 → ∀ r H', Same H H' → H r = none → PatchAt C H' r cs → Q (.ref r) H') ∧ (500 < cs.length → ∀ H', Same H H' → E (.ref CE) none H')
theorem conv_patchM {C CE : Addr} : Conv C (spPatchInitM C CE) (spPatchM C CE) := by
  intro vs H Q E ⟨a, xs, cs, e, hA, hC, hl, hF, h1, h2⟩ x dx nx nd ne
  subst e
  have s0 : Same H (upd H dx (.own x)) := same_new nd _
  have nx' : upd H dx (.own x) x = none := by rw [upd_ne ne.symm]; exact nx
  have s1 : Same (upd H dx (.own x)) (upd (upd H dx (.own x)) x (.ins C dx [])) := same_new nx' _
  have s := s0.trans s1
  refine ⟨x, dx, a, xs, cs, rfl, upd_same, s _ _ hA, hC.same s, hl, hF, fun hs H' sb h => ⟨rfl, h1 hs x H' (fun b o hb => sb b o (ne_of_none hb nx) (s b o hb)) nx ?_⟩, fun hs => h2 hs _ s⟩
  obtain ⟨t, ys, e1, e2, e3⟩ := h
  exact ⟨dx, t, ys, e1, e2, e3⟩
end Dw

namespace K92
open PySem PySem.Spec PyProof.Rows L2 Dw
def topS (i : Nat) : Stmt := PySem.Challenge.pw_discwright_k92_group_coded_tracks.main.body.getD i (.Pass ⟨0, 0, 0, 0⟩)
abbrev s_byte_bits : Stmt := topS 5
abbrev n_byte_bits : List Str := ["value", "shift"]
theorem sc_byte_bits : FnScope n_byte_bits ["value"] (defScope s_byte_bits) := ⟨rfl, rfl, rfl, by decide +kernel, rfl, by decide +kernel, by decide +kernel⟩
abbrev s_are_bytes : Stmt := topS 6
abbrev n_are_bytes : List Str := ["values", "value"]
theorem sc_are_bytes : FnScope n_are_bytes ["values"] (defScope s_are_bytes) := ⟨rfl, rfl, rfl, by decide +kernel, rfl, by decide +kernel, by decide +kernel⟩
abbrev s_exclusive : Stmt := topS 7
abbrev n_exclusive : List Str := ["first", "second"]
theorem sc_exclusive : FnScope n_exclusive ["first", "second"] (defScope s_exclusive) := ⟨rfl, rfl, rfl, by decide +kernel, rfl, by decide +kernel, by decide +kernel⟩
abbrev s_gcr_code : Stmt := topS 10
abbrev n_gcr_code : List Str := ["number"]
theorem sc_gcr_code : FnScope n_gcr_code ["number"] (defScope s_gcr_code) := ⟨rfl, rfl, rfl, by decide +kernel, rfl, by decide +kernel, by decide +kernel⟩
abbrev s_gcr_cells : Stmt := topS 11
abbrev n_gcr_cells : List Str := ["values", "cells", "value"]
theorem sc_gcr_cells : FnScope n_gcr_cells ["values"] (defScope s_gcr_cells) := ⟨rfl, rfl, rfl, by decide +kernel, rfl, by decide +kernel, by decide +kernel⟩
abbrev s_data_length : Stmt := topS 13
abbrev n_data_length : List Str := ["size"]
theorem sc_data_length : FnScope n_data_length ["size"] (defScope s_data_length) := ⟨rfl, rfl, rfl, by decide +kernel, rfl, by decide +kernel, by decide +kernel⟩
abbrev s_exclusive_of : Stmt := topS 19
abbrev n_exclusive_of : List Str := ["values", "result", "value"]
theorem sc_exclusive_of : FnScope n_exclusive_of ["values"] (defScope s_exclusive_of) := ⟨rfl, rfl, rfl, by decide +kernel, rfl, by decide +kernel, by decide +kernel⟩
abbrev s_check_pairs : Stmt := topS 20
abbrev n_check_pairs : List Str := ["sectors", "size", "index", "address", "data"]
theorem sc_check_pairs : FnScope n_check_pairs ["sectors", "size"] (defScope s_check_pairs) := ⟨rfl, rfl, rfl, by decide +kernel, rfl, by decide +kernel, by decide +kernel⟩
abbrev s_gap_cells : Stmt := topS 21
abbrev n_gap_cells : List Str := []
theorem sc_gap_cells : FnScope n_gap_cells [] (defScope s_gap_cells) := ⟨rfl, rfl, rfl, by decide +kernel, rfl, by decide +kernel, by decide +kernel⟩
abbrev s_field_cells : Stmt := topS 22
abbrev n_field_cells : List Str := ["values"]
theorem sc_field_cells : FnScope n_field_cells ["values"] (defScope s_field_cells) := ⟨rfl, rfl, rfl, by decide +kernel, rfl, by decide +kernel, by decide +kernel⟩
abbrev s_group_cells : Stmt := topS 23
abbrev n_group_cells : List Str := ["sectors", "size", "cells", "address", "data", "track", "number", "first", "second"]
theorem sc_group_cells : FnScope n_group_cells ["sectors", "size"] (defScope s_group_cells) := ⟨rfl, rfl, rfl, by decide +kernel, rfl, by decide +kernel, by decide +kernel⟩
abbrev s_law_pool : Stmt := topS 25
abbrev n_law_pool : List Str := ["script", "salt", "cell"]
theorem sc_law_pool : FnScope n_law_pool ["script"] (defScope s_law_pool) := ⟨rfl, rfl, rfl, by decide +kernel, rfl, by decide +kernel, by decide +kernel⟩
abbrev s_law_spread : Stmt := topS 26
abbrev n_law_spread : List Str := ["cell", "mixed", "wide", "k"]
theorem sc_law_spread : FnScope n_law_spread ["cell"] (defScope s_law_spread) := ⟨rfl, rfl, rfl, by decide +kernel, rfl, by decide +kernel, by decide +kernel⟩
abbrev s_law_draw : Stmt := topS 27
abbrev n_law_draw : List Str := ["pool", "many", "cell", "mixed", "value"]
theorem sc_law_draw : FnScope n_law_draw ["pool", "many"] (defScope s_law_draw) := ⟨rfl, rfl, rfl, by decide +kernel, rfl, by decide +kernel, by decide +kernel⟩
abbrev s_law_same : Stmt := topS 28
abbrev n_law_same : List Str := ["actual", "due", "k"]
theorem sc_law_same : FnScope n_law_same ["actual", "due"] (defScope s_law_same) := ⟨rfl, rfl, rfl, by decide +kernel, rfl, by decide +kernel, by decide +kernel⟩
abbrev s_law_or : Stmt := topS 29
abbrev n_law_or : List Str := ["a", "b"]
theorem sc_law_or : FnScope n_law_or ["a", "b"] (defScope s_law_or) := ⟨rfl, rfl, rfl, by decide +kernel, rfl, by decide +kernel, by decide +kernel⟩
abbrev s_law_some_bytes : Stmt := topS 30
abbrev n_law_some_bytes : List Str := ["pool", "most", "count", "way", "k"]
theorem sc_law_some_bytes : FnScope n_law_some_bytes ["pool", "most"] (defScope s_law_some_bytes) := ⟨rfl, rfl, rfl, by decide +kernel, rfl, by decide +kernel, by decide +kernel⟩
abbrev s_law_groups_of : Stmt := topS 31
abbrev n_law_groups_of : List Str := ["found", "number", "cells", "k", "text", "cell"]
theorem sc_law_groups_of : FnScope n_law_groups_of [] (defScope s_law_groups_of) := ⟨rfl, rfl, rfl, by decide +kernel, rfl, by decide +kernel, by decide +kernel⟩
abbrev s_law_group_cells : Stmt := topS 32
abbrev n_law_group_cells : List Str := ["values", "codes", "cells", "value"]
theorem sc_law_group_cells : FnScope n_law_group_cells ["values"] (defScope s_law_group_cells) := ⟨rfl, rfl, rfl, by decide +kernel, rfl, by decide +kernel, by decide +kernel⟩
abbrev s_law_group_part : Stmt := topS 33
abbrev n_law_group_part : List Str := ["values"]
theorem sc_law_group_part : FnScope n_law_group_part ["values"] (defScope s_law_group_part) := ⟨rfl, rfl, rfl, by decide +kernel, rfl, by decide +kernel, by decide +kernel⟩
abbrev s_law_xor_of : Stmt := topS 34
abbrev n_law_xor_of : List Str := ["values", "total", "value"]
theorem sc_law_xor_of : FnScope n_law_xor_of ["values"] (defScope s_law_xor_of) := ⟨rfl, rfl, rfl, by decide +kernel, rfl, by decide +kernel, by decide +kernel⟩
abbrev s_law_group_track : Stmt := topS 35
abbrev n_law_group_track : List Str := ["sectors", "cells", "address", "data", "track", "number", "first", "second"]
theorem sc_law_group_track : FnScope n_law_group_track ["sectors"] (defScope s_law_group_track) := ⟨rfl, rfl, rfl, by decide +kernel, rfl, by decide +kernel, by decide +kernel⟩
abbrev s_law_group_sectors : Stmt := topS 36
abbrev n_law_group_sectors : List Str := ["pool", "many", "size", "rows", "k", "address", "data", "j"]
theorem sc_law_group_sectors : FnScope n_law_group_sectors ["pool", "many", "size"] (defScope s_law_group_sectors) := ⟨rfl, rfl, rfl, by decide +kernel, rfl, by decide +kernel, by decide +kernel⟩
abbrev s_law : Stmt := topS 37
abbrev n_law : List Str := ["script", "pool", "size", "sectors", "values", "row", "bad", "e"]
theorem sc_law : FnScope n_law ["script"] (defScope s_law) := ⟨rfl, rfl, rfl, by decide +kernel, rfl, by decide +kernel, by decide +kernel⟩
abbrev s_InvalidSectorinit : Stmt := inClass (topS 2) 0
abbrev n_InvalidSectorinit : List Str := ["self", "index"]
/-- where the defs stand -/
structure Ad where
  f_byte_bits : Addr
  d_byte_bits : FuncData
  f_are_bytes : Addr
  d_are_bytes : FuncData
  f_exclusive : Addr
  d_exclusive : FuncData
  f_gcr_code : Addr
  d_gcr_code : FuncData
  f_gcr_cells : Addr
  d_gcr_cells : FuncData
  f_data_length : Addr
  d_data_length : FuncData
  f_exclusive_of : Addr
  d_exclusive_of : FuncData
  f_check_pairs : Addr
  d_check_pairs : FuncData
  f_gap_cells : Addr
  d_gap_cells : FuncData
  f_field_cells : Addr
  d_field_cells : FuncData
  f_group_cells : Addr
  d_group_cells : FuncData
  f_law_pool : Addr
  d_law_pool : FuncData
  f_law_spread : Addr
  d_law_spread : FuncData
  f_law_draw : Addr
  d_law_draw : FuncData
  f_law_same : Addr
  d_law_same : FuncData
  f_law_or : Addr
  d_law_or : FuncData
  f_law_some_bytes : Addr
  d_law_some_bytes : FuncData
  f_law_groups_of : Addr
  d_law_groups_of : FuncData
  f_law_group_cells : Addr
  d_law_group_cells : FuncData
  f_law_group_part : Addr
  d_law_group_part : FuncData
  f_law_xor_of : Addr
  d_law_xor_of : FuncData
  f_law_group_track : Addr
  d_law_group_track : FuncData
  f_law_group_sectors : Addr
  d_law_group_sectors : FuncData
  f_law : Addr
  d_law : FuncData
  u_SYNC_CELLS : Value
  u_GAP_BYTES : Value
  u_ADDRESS_BYTE : Value
  u_DATA_BYTE : Value
  c_InvalidDisc : Addr
  c_InvalidSector : Addr
  f_InvalidSectorinit : Addr
  d_InvalidSectorinit : FuncData
  c_GROUP_CODES : Addr
/-- what the top has written -/
structure Tx (K : PySem.W.Frag) (mg : Str → Option Value) (A : Ad) : Prop where
  F_byte_bits : Fun K "byte_bits" "byte_bits" s_byte_bits A.f_byte_bits A.d_byte_bits
  b_byte_bits : Binds K A.d_byte_bits ["value"] []
  g_byte_bits : mg "byte_bits" = some (.ref A.f_byte_bits)
  F_are_bytes : Fun K "are_bytes" "are_bytes" s_are_bytes A.f_are_bytes A.d_are_bytes
  b_are_bytes : Binds K A.d_are_bytes ["values"] []
  g_are_bytes : mg "are_bytes" = some (.ref A.f_are_bytes)
  F_exclusive : Fun K "exclusive" "exclusive" s_exclusive A.f_exclusive A.d_exclusive
  b_exclusive : Binds K A.d_exclusive ["first", "second"] []
  g_exclusive : mg "exclusive" = some (.ref A.f_exclusive)
  F_gcr_code : Fun K "gcr_code" "gcr_code" s_gcr_code A.f_gcr_code A.d_gcr_code
  b_gcr_code : Binds K A.d_gcr_code ["number"] []
  g_gcr_code : mg "gcr_code" = some (.ref A.f_gcr_code)
  F_gcr_cells : Fun K "gcr_cells" "gcr_cells" s_gcr_cells A.f_gcr_cells A.d_gcr_cells
  b_gcr_cells : Binds K A.d_gcr_cells ["values"] []
  g_gcr_cells : mg "gcr_cells" = some (.ref A.f_gcr_cells)
  F_data_length : Fun K "data_length" "data_length" s_data_length A.f_data_length A.d_data_length
  b_data_length : Binds K A.d_data_length ["size"] []
  g_data_length : mg "data_length" = some (.ref A.f_data_length)
  F_exclusive_of : Fun K "exclusive_of" "exclusive_of" s_exclusive_of A.f_exclusive_of A.d_exclusive_of
  b_exclusive_of : Binds K A.d_exclusive_of ["values"] []
  g_exclusive_of : mg "exclusive_of" = some (.ref A.f_exclusive_of)
  F_check_pairs : Fun K "check_pairs" "check_pairs" s_check_pairs A.f_check_pairs A.d_check_pairs
  b_check_pairs : Binds K A.d_check_pairs ["sectors", "size"] []
  g_check_pairs : mg "check_pairs" = some (.ref A.f_check_pairs)
  F_gap_cells : Fun K "gap_cells" "gap_cells" s_gap_cells A.f_gap_cells A.d_gap_cells
  b_gap_cells : Binds K A.d_gap_cells [] []
  g_gap_cells : mg "gap_cells" = some (.ref A.f_gap_cells)
  F_field_cells : Fun K "field_cells" "field_cells" s_field_cells A.f_field_cells A.d_field_cells
  b_field_cells : Binds K A.d_field_cells ["values"] []
  g_field_cells : mg "field_cells" = some (.ref A.f_field_cells)
  F_group_cells : Fun K "group_cells" "group_cells" s_group_cells A.f_group_cells A.d_group_cells
  b_group_cells : Binds K A.d_group_cells ["sectors", "size"] []
  g_group_cells : mg "group_cells" = some (.ref A.f_group_cells)
  F_law_pool : Fun K "_law_pool" "_law_pool" s_law_pool A.f_law_pool A.d_law_pool
  b_law_pool : Binds K A.d_law_pool ["script"] []
  g_law_pool : mg "_law_pool" = some (.ref A.f_law_pool)
  F_law_spread : Fun K "_law_spread" "_law_spread" s_law_spread A.f_law_spread A.d_law_spread
  b_law_spread : Binds K A.d_law_spread ["cell"] []
  g_law_spread : mg "_law_spread" = some (.ref A.f_law_spread)
  F_law_draw : Fun K "_law_draw" "_law_draw" s_law_draw A.f_law_draw A.d_law_draw
  b_law_draw : Binds K A.d_law_draw ["pool", "many"] []
  g_law_draw : mg "_law_draw" = some (.ref A.f_law_draw)
  F_law_same : Fun K "_law_same" "_law_same" s_law_same A.f_law_same A.d_law_same
  b_law_same : Binds K A.d_law_same ["actual", "due"] []
  g_law_same : mg "_law_same" = some (.ref A.f_law_same)
  F_law_or : Fun K "_law_or" "_law_or" s_law_or A.f_law_or A.d_law_or
  b_law_or : Binds K A.d_law_or ["a", "b"] []
  g_law_or : mg "_law_or" = some (.ref A.f_law_or)
  F_law_some_bytes : Fun K "_law_some_bytes" "_law_some_bytes" s_law_some_bytes A.f_law_some_bytes A.d_law_some_bytes
  b_law_some_bytes : Binds K A.d_law_some_bytes ["pool", "most"] []
  g_law_some_bytes : mg "_law_some_bytes" = some (.ref A.f_law_some_bytes)
  F_law_groups_of : Fun K "_law_groups_of" "_law_groups_of" s_law_groups_of A.f_law_groups_of A.d_law_groups_of
  b_law_groups_of : Binds K A.d_law_groups_of [] []
  g_law_groups_of : mg "_law_groups_of" = some (.ref A.f_law_groups_of)
  F_law_group_cells : Fun K "_law_group_cells" "_law_group_cells" s_law_group_cells A.f_law_group_cells A.d_law_group_cells
  b_law_group_cells : Binds K A.d_law_group_cells ["values"] []
  g_law_group_cells : mg "_law_group_cells" = some (.ref A.f_law_group_cells)
  F_law_group_part : Fun K "_law_group_part" "_law_group_part" s_law_group_part A.f_law_group_part A.d_law_group_part
  b_law_group_part : Binds K A.d_law_group_part ["values"] []
  g_law_group_part : mg "_law_group_part" = some (.ref A.f_law_group_part)
  F_law_xor_of : Fun K "_law_xor_of" "_law_xor_of" s_law_xor_of A.f_law_xor_of A.d_law_xor_of
  b_law_xor_of : Binds K A.d_law_xor_of ["values"] []
  g_law_xor_of : mg "_law_xor_of" = some (.ref A.f_law_xor_of)
  F_law_group_track : Fun K "_law_group_track" "_law_group_track" s_law_group_track A.f_law_group_track A.d_law_group_track
  b_law_group_track : Binds K A.d_law_group_track ["sectors"] []
  g_law_group_track : mg "_law_group_track" = some (.ref A.f_law_group_track)
  F_law_group_sectors : Fun K "_law_group_sectors" "_law_group_sectors" s_law_group_sectors A.f_law_group_sectors A.d_law_group_sectors
  b_law_group_sectors : Binds K A.d_law_group_sectors ["pool", "many", "size"] []
  g_law_group_sectors : mg "_law_group_sectors" = some (.ref A.f_law_group_sectors)
  F_law : Fun K "law" "law" s_law A.f_law A.d_law
  b_law : Binds K A.d_law ["script"] []
  g_law : mg "law" = some (.ref A.f_law)
  z_all : mg "all" = none
  z_bool : mg "bool" = none
  z_enumerate : mg "enumerate" = none
  z_int : mg "int" = none
  z_isinstance : mg "isinstance" = none
  z_len : mg "len" = none
  z_list : mg "list" = none
  z_range : mg "range" = none
  z_str : mg "str" = none
  z_tuple : mg "tuple" = none
  c_SYNC_CELLS : mg "SYNC_CELLS" = some A.u_SYNC_CELLS
  r_SYNC_CELLS : RelV (.int 20) A.u_SYNC_CELLS
  c_GAP_BYTES : mg "GAP_BYTES" = some A.u_GAP_BYTES
  r_GAP_BYTES : RelV (.int 9) A.u_GAP_BYTES
  c_ADDRESS_BYTE : mg "ADDRESS_BYTE" = some A.u_ADDRESS_BYTE
  r_ADDRESS_BYTE : RelV (.int 8) A.u_ADDRESS_BYTE
  c_DATA_BYTE : mg "DATA_BYTE" = some A.u_DATA_BYTE
  r_DATA_BYTE : RelV (.int 7) A.u_DATA_BYTE
  x_InvalidDisc : ExcF K mg "InvalidDisc" A.c_InvalidDisc
  x_InvalidSector : SupX K mg "InvalidSector" "InvalidSector.__init__" s_InvalidSectorinit A.c_InvalidSector A.f_InvalidSectorinit A.d_InvalidSectorinit
  b_InvalidSectorinit : Binds K A.d_InvalidSectorinit ["self", "index"] []
  ct_GROUP_CODES : mg "GROUP_CODES" = some (.ref A.c_GROUP_CODES)
  ty_GROUP_CODES : ∃ o, K.lookup A.c_GROUP_CODES = some o ∧ o.cls = .type "tuple" ∧ o.dict = none
  tt_GROUP_CODES : ∀ H, SqT K H A.c_GROUP_CODES (([9, 10, 11, 13, 14, 15, 18, 19, 21, 22, 23, 25, 26, 27, 29, 30] : List Int).map V.int)
  i_InvalidSector : ExcC K A.c_InvalidSector
  kit_InvalidSector_InvalidDisc : PySem.W.kitOne K (.ref A.c_InvalidSector) (.ref A.c_InvalidDisc) = some false
section
variable {P : Program} [SupP P] {w : World} {K : PySem.W.Frag} {mg : Str → Option Value} {base : Heap} {A : Ad}
def spSecI (C : Addr) : Sp := fun vs H Q _ => ∃ (x : Addr) (i : Nat), vs = [.ref x, .int (i : Int)] ∧ H x = some (exo x C none) ∧ i < 16 ∧ ∀ dx, H dx = none → dx ≠ x → Q .non (upd (upd H dx (exd dx [("index", .int (i : Int))])) x (exo x C (some dx)))
theorem txt_sec : ∀ i : Fin 16, (Str.empty ++ Str.ofString "the sector with the index " ++ Str.ofString (toString ((i : Nat) : Int)) ++ Str.ofString " is not valid").length ≤ 1000 ∧ (Str.empty ++ Str.ofString "the sector with the index " ++ Str.ofString (toString ((i : Nat) : Int))).length ≤ 1000 ∧ (((i : Nat) : Int)).natAbs.log2 < 1920 := by decide +kernel
theorem ok_InvalidSectorinit (T : Tx K mg A) : FnOk P w K mg base CX0 2 A.f_InvalidSectorinit A.d_InvalidSectorinit ["self", "index"] (spSecI A.c_InvalidSector) := by
  refine T.x_InvalidSector.ok (N := n_InvalidSectorinit) (k := 1) rfl rfl rfl ⟨rfl, by decide, rfl, by decide +kernel, by decide +kernel, fun y h => (show ∀ q ∈ (defScope s_InvalidSectorinit).names, q.2 = .free → q.1 = Str.ofString "__class__" by decide +kernel) (y, .free) (PySem.mem_of_lookup h) rfl⟩ rfl rfl rfl rfl (fun env => rfl) (fun env he => ⟨_, rfl⟩) (fun env => rfl) (fun vs H Q E h => ?_) (fun cda cc A' outer s H vs Q E hr h => ?_)
  · obtain ⟨x, i, rfl, _⟩ := h
    rfl
  obtain ⟨x, i, rfl, hx, hi, k⟩ := h
  refine ⟨x, _, _, rfl, hx, (pa_cons (pe_joined (.cons pe_str (.cons (pe_fmt (pv 1)) (.cons pe_str .nil)))) pa_nil), pss_one (ps_ost (pv 0) (pv 1)), ?_⟩
  try simp only [tSeq, tAsg, tVar, tC, tOp, rI0, rI, tUn, rU, tIfS, tTest, tRet, tRetN, tDrop, tCB, tCons, tNil, tLst, tLstI, tTup, gName, tB, tAnd, tOr, tNot, tAndV, tOrV, tNotV, tIf, tNext, tBreak, tCont, gSub, tCall, tCallN, tAug, ipI, tBML, tBML0, isL_IL, isL_lst, L2.start, List.map_cons, List.map_nil, List.length_cons, List.length_nil, List.cons_append, List.nil_append, List.getElem?_cons_succ, List.getElem?_cons_zero, Option.some.injEq, exists_eq_left', exists_eq_left, exists_and_left, V.int.injEq, V.ref.injEq, V.bl.injEq, V.str.injEq, List.set_cons_zero, List.set_cons_succ, List.cons.injEq, and_true, true_and, Nat.reduceAdd, Nat.reduceSub, List.replicate_succ, List.replicate_zero, rIxI, rIxH, rIxTH, rSetI, rSetH, rCatI, rRepI, rSlI, rAppendI, rExtendI, decide_eq_true_eq, upd_same, IL_inj, HO.lst.injEq, toInts_cons, toInts_nil, Option.map_some, if_true, if_false, Bool.true_eq_false, Bool.false_eq_true, Bool.not_true, Bool.not_false, Bool.not_eq_true', decide_eq_false_iff_not, atI_0, atI_1, atI_2, atI_3, atI_4, Int.reduceToNat, Int.reduceLT, Int.reduceLE, Int.reduceNeg, Int.reducePow, cast_lit, upd_upd, Int.reduceAdd, Int.reduceMul, Int.reduceSub, Nat.reduceLT, Nat.reduceLeDiff, cmul_r, cdiv_r, tSl, tPart, tNoPart, rEq, rNe, scal_nn, scal_ii, scal_bb, scal_ss, scal_is, scal_si, V.ty.injEq, and_assoc, tyH_non, tyH_bl, tyH_int, tyH_str, tyH_ref, tyO_lst, tyO_IL, tyO_tup, itO_lst, itO_tup, itO_IL, Dw.rIxD, rLenI, rLenH, rLenTH, rLenQ, rLenB, rListI, Dw.rListS, rIntI, rIntB, rSumI, rIsiD, rIsX, tCallS, tMakeS, tMake, tMakeC, tMakeSC, tFld, sFld, HO.ins.injEq, HO.tup.injEq, cxOf_K, nox_K, tr_K, suite_K, rTupleI, rAllB, rAnyB, BL_inj, tChain, wOnly, wAs, wMany, rEqI, rNeI, Dw.rMax2, rMin2, Dw.rIsN, rIsNotN, rStrIn, rStrNotIn, not_true_eq_false, not_false_eq_true, reduceCtorEq, cl_bool, cl_int, cl_str, cl_list, cl_tuple, isB_NoneType_bool, isB_NoneType_int, isB_NoneType_str, isB_NoneType_list, isB_NoneType_tuple, isB_bool_bool, isB_bool_int, isB_bool_str, isB_bool_list, isB_bool_tuple, isB_int_bool, isB_int_int, isB_int_str, isB_int_list, isB_int_tuple, isB_str_bool, isB_str_int, isB_str_str, isB_str_list, isB_str_tuple, isB_list_bool, isB_list_int, isB_list_str, isB_list_list, isB_list_tuple, isB_tuple_bool, isB_tuple_int, isB_tuple_str, isB_tuple_list, isB_tuple_tuple, rSlCI, iRng3, iRev, gCons, gNil, iZip, iEnum, tLc_eq, tFor_eq, iRng1, iRng2, iList, iTup, rSetD, iKeys, tDNewK, Int.reducePow, Int.reduceNeg, iSeqA, Dw.rIxL, Dw.rSetL, rTupT, tPar, tNotT, tMkO, tFmt, tJs, tOst, Dw.rIsXD, L2.tXf]
  have ht := txt_sec ⟨i, hi⟩
  have l0 : (Str.empty ++ Str.ofString "the sector with the index ").length ≤ 1000 := by decide +kernel
  exact ⟨line_le (by omega), .inr ⟨ht.2.2, line_le (Nat.le_trans ht.2.1 (by decide)), line_le (Nat.le_trans ht.1 (by decide)), hx, A.c_InvalidSector, T.x_InvalidSector.cls.oex, T.x_InvalidSector.fld, .inl ⟨hx, k⟩⟩⟩
end
section
variable {P : Program} [SupP P] {w : World} {K : PySem.W.Frag} {mg : Str → Option Value} {base : Heap} {A : Ad}
theorem ok_byte_bits (T : Tx K mg A) : FnOk P w K mg base CX0 1 A.f_byte_bits A.d_byte_bits ["value"] spByteBits := by
  refine T.F_byte_bits.ok sc_byte_bits (fun vs H Q E h => ?_) (fun cdv A' outer s H vs Q E hr h => ?_)
  · obtain ⟨v, rfl, _⟩ := h
    rfl
  obtain ⟨v, rfl, hv, k⟩ := h
  refine ⟨_, (pss_one (ps_ret (pe_lc (own := [("shift", 1)]) (g := (gName 1)) (tt := tYes) rfl sc_byte_bits.nd (pi_tup (pe_tup (pa_cons pe_int (pa_cons pe_int (pa_cons pe_int (pa_cons pe_int (pa_cons pe_int (pa_cons pe_int (pa_cons pe_int (pa_cons pe_int pa_nil)))))))))) (blkOk_by (N := n_byte_bits) (sc := (defScope s_byte_bits)) (by decide +kernel)) (fun _ _ _ _ _ => (pg_name (i := 1) sc_byte_bits.nd rfl (Or.inl rfl))) (fun _ _ _ _ _ => pts_nil) (fun _ _ _ _ _ => (pe_op op_and (pe_op op_shr (pv 0) (pv 1)) pe_int))))), ?_⟩
  try simp only [tSeq, tAsg, tVar, tC, tOp, rI0, rI, tUn, rU, tIfS, tTest, tRet, tRetN, tDrop, tCB, tCons, tNil, tLst, tLstI, tTup, gName, tB, tAnd, tOr, tNot, tAndV, tOrV, tNotV, tIf, tNext, tBreak, tCont, gSub, tCall, tCallN, tAug, ipI, tBML, tBML0, isL_IL, isL_lst, L2.start, List.map_cons, List.map_nil, List.length_cons, List.length_nil, List.cons_append, List.nil_append, List.getElem?_cons_succ, List.getElem?_cons_zero, Option.some.injEq, exists_eq_left', exists_eq_left, exists_and_left, V.int.injEq, V.ref.injEq, V.bl.injEq, V.str.injEq, List.set_cons_zero, List.set_cons_succ, List.cons.injEq, and_true, true_and, Nat.reduceAdd, Nat.reduceSub, List.replicate_succ, List.replicate_zero, rIxI, rIxH, rIxTH, rSetI, rSetH, rCatI, rRepI, rSlI, rAppendI, rExtendI, decide_eq_true_eq, upd_same, IL_inj, HO.lst.injEq, toInts_cons, toInts_nil, Option.map_some, if_true, if_false, Bool.true_eq_false, Bool.false_eq_true, Bool.not_true, Bool.not_false, Bool.not_eq_true', decide_eq_false_iff_not, atI_0, atI_1, atI_2, atI_3, atI_4, Int.reduceToNat, Int.reduceLT, Int.reduceLE, Int.reduceNeg, Int.reducePow, cast_lit, upd_upd, Int.reduceAdd, Int.reduceMul, Int.reduceSub, Nat.reduceLT, Nat.reduceLeDiff, cmul_r, cdiv_r, tSl, tPart, tNoPart, rEq, rNe, scal_nn, scal_ii, scal_bb, scal_ss, scal_is, scal_si, V.ty.injEq, and_assoc, tyH_non, tyH_bl, tyH_int, tyH_str, tyH_ref, tyO_lst, tyO_IL, tyO_tup, itO_lst, itO_tup, itO_IL, Dw.rIxD, rLenI, rLenH, rLenTH, rLenQ, rLenB, rListI, Dw.rListS, rIntI, rIntB, rSumI, rIsiD, rIsX, tCallS, tMakeS, tMake, tMakeC, tMakeSC, tFld, sFld, HO.ins.injEq, HO.tup.injEq, cxOf_K, nox_K, tr_K, suite_K, rTupleI, rAllB, rAnyB, BL_inj, tChain, wOnly, wAs, wMany, rEqI, rNeI, Dw.rMax2, rMin2, Dw.rIsN, rIsNotN, rStrIn, rStrNotIn, not_true_eq_false, not_false_eq_true, reduceCtorEq, cl_bool, cl_int, cl_str, cl_list, cl_tuple, isB_NoneType_bool, isB_NoneType_int, isB_NoneType_str, isB_NoneType_list, isB_NoneType_tuple, isB_bool_bool, isB_bool_int, isB_bool_str, isB_bool_list, isB_bool_tuple, isB_int_bool, isB_int_int, isB_int_str, isB_int_list, isB_int_tuple, isB_str_bool, isB_str_int, isB_str_str, isB_str_list, isB_str_tuple, isB_list_bool, isB_list_int, isB_list_str, isB_list_list, isB_list_tuple, isB_tuple_bool, isB_tuple_int, isB_tuple_str, isB_tuple_list, isB_tuple_tuple, iSeqA, Dw.rIxL, Dw.rSetL, rTupT, tPar, tNotT, tMkO, tFmt, tJs, tOst, Dw.rIsXD, L2.tXf]
  refine ⟨line_le (by decide), fun t ht => ⟨t, rfl, ⟨_, .of upd_same⟩, fun D hD => ?_⟩⟩
  refine lc_tupI (K := K) (a := t) (xs := [.int 7, .int 6, .int 5, .int 4, .int 3, .int 2, .int 1, .int 0]) (f := fun i => ((v / 2 ^ (7 - i) % 2 : Nat) : Int)) (by decide) (.of upd_same) hD (fun _ => rfl) ?_ fun H' s1 e1 => ?_
  · intro i x H3 Q' hi s1 hq
    obtain ⟨j, hj, rfl⟩ : ∃ j : Nat, j = 7 - i ∧ x = .int (j : Int) := by
      match i, hi with
      | 0, h => exact ⟨7, rfl, (Option.some.inj h).symm⟩
      | 1, h => exact ⟨6, rfl, (Option.some.inj h).symm⟩
      | 2, h => exact ⟨5, rfl, (Option.some.inj h).symm⟩
      | 3, h => exact ⟨4, rfl, (Option.some.inj h).symm⟩
      | 4, h => exact ⟨3, rfl, (Option.some.inj h).symm⟩
      | 5, h => exact ⟨2, rfl, (Option.some.inj h).symm⟩
      | 6, h => exact ⟨1, rfl, (Option.some.inj h).symm⟩
      | 7, h => exact ⟨0, rfl, (Option.some.inj h).symm⟩
      | i + 8, h => simp at h
    try simp only [tSeq, tAsg, tVar, tC, tOp, rI0, rI, tUn, rU, tIfS, tTest, tRet, tRetN, tDrop, tCB, tCons, tNil, tLst, tLstI, tTup, gName, tB, tAnd, tOr, tNot, tAndV, tOrV, tNotV, tIf, tNext, tBreak, tCont, gSub, tCall, tCallN, tAug, ipI, tBML, tBML0, isL_IL, isL_lst, L2.start, List.map_cons, List.map_nil, List.length_cons, List.length_nil, List.cons_append, List.nil_append, List.getElem?_cons_succ, List.getElem?_cons_zero, Option.some.injEq, exists_eq_left', exists_eq_left, exists_and_left, V.int.injEq, V.ref.injEq, V.bl.injEq, V.str.injEq, List.set_cons_zero, List.set_cons_succ, List.cons.injEq, and_true, true_and, Nat.reduceAdd, Nat.reduceSub, List.replicate_succ, List.replicate_zero, rIxI, rIxH, rIxTH, rSetI, rSetH, rCatI, rRepI, rSlI, rAppendI, rExtendI, decide_eq_true_eq, upd_same, IL_inj, HO.lst.injEq, toInts_cons, toInts_nil, Option.map_some, if_true, if_false, Bool.true_eq_false, Bool.false_eq_true, Bool.not_true, Bool.not_false, Bool.not_eq_true', decide_eq_false_iff_not, atI_0, atI_1, atI_2, atI_3, atI_4, Int.reduceToNat, Int.reduceLT, Int.reduceLE, Int.reduceNeg, Int.reducePow, cast_lit, upd_upd, Int.reduceAdd, Int.reduceMul, Int.reduceSub, Nat.reduceLT, Nat.reduceLeDiff, cmul_r, cdiv_r, tSl, tPart, tNoPart, rEq, rNe, scal_nn, scal_ii, scal_bb, scal_ss, scal_is, scal_si, V.ty.injEq, and_assoc, tyH_non, tyH_bl, tyH_int, tyH_str, tyH_ref, tyO_lst, tyO_IL, tyO_tup, itO_lst, itO_tup, itO_IL, Dw.rIxD, rLenI, rLenH, rLenTH, rLenQ, rLenB, rListI, Dw.rListS, rIntI, rIntB, rSumI, rIsiD, rIsX, tCallS, tMakeS, tMake, tMakeC, tMakeSC, tFld, sFld, HO.ins.injEq, HO.tup.injEq, cxOf_K, nox_K, tr_K, suite_K, rTupleI, rAllB, rAnyB, BL_inj, tChain, wOnly, wAs, wMany, rEqI, rNeI, Dw.rMax2, rMin2, Dw.rIsN, rIsNotN, rStrIn, rStrNotIn, not_true_eq_false, not_false_eq_true, reduceCtorEq, cl_bool, cl_int, cl_str, cl_list, cl_tuple, isB_NoneType_bool, isB_NoneType_int, isB_NoneType_str, isB_NoneType_list, isB_NoneType_tuple, isB_bool_bool, isB_bool_int, isB_bool_str, isB_bool_list, isB_bool_tuple, isB_int_bool, isB_int_int, isB_int_str, isB_int_list, isB_int_tuple, isB_str_bool, isB_str_int, isB_str_str, isB_str_list, isB_str_tuple, isB_list_bool, isB_list_int, isB_list_str, isB_list_list, isB_list_tuple, isB_tuple_bool, isB_tuple_int, isB_tuple_str, isB_tuple_list, isB_tuple_tuple, iSeqA, Dw.rIxL, Dw.rSetL, rTupT, tPar, tNotT, tMkO, tFmt, tJs, tOst, Dw.rIsXD, L2.tXf, wipe, Int.toNat_natCast, bit_div]
    rw [hj]
    exact ⟨Int.natCast_nonneg _, hq _ (Same.refl _)⟩
  · have eb : (List.range 8).map (fun i => ((v / 2 ^ (7 - i) % 2 : Nat) : Int)) = bits8 v := by
      simp [List.range_succ, bits8]
    have e2 : H' D = some (IL (bits8 v)) := by rw [← eb]; exact e1
    exact k D H' ((same_new ht _).trans s1) (same_none (same_new ht _) hD) e2
end
section
variable {P : Program} [SupP P] {w : World} {K : PySem.W.Frag} {mg : Str → Option Value} {base : Heap} {A : Ad}
end
section
variable {P : Program} [SupP P] {w : World} {K : PySem.W.Frag} {mg : Str → Option Value} {base : Heap} {A : Ad}
def spExclusive : Sp := fun vs H Q _ => ∃ (a b : Nat), vs = [.int a, .int b] ∧ Q (.int ((a ^^^ b : Nat) : Int)) H
theorem ok_exclusive (T : Tx K mg A) : FnOk P w K mg base CX0 1 A.f_exclusive A.d_exclusive ["first", "second"] spExclusive := by
  refine T.F_exclusive.ok sc_exclusive (fun vs H Q E h => ?_) (fun cdv A' outer s H vs Q E hr h => ?_)
  · obtain ⟨a, b, rfl, _⟩ := h
    rfl
  obtain ⟨a, b, rfl, k⟩ := h
  refine ⟨_, (pss_one (ps_ret (pe_op op_xor (pv 0) (pv 1)))), ?_⟩
  try simp only [tSeq, tAsg, tVar, tC, tOp, rI0, rI, tUn, rU, tIfS, tTest, tRet, tRetN, tDrop, tCB, tCons, tNil, tLst, tLstI, tTup, gName, tB, tAnd, tOr, tNot, tAndV, tOrV, tNotV, tIf, tNext, tBreak, tCont, gSub, tCall, tCallN, tAug, ipI, tBML, tBML0, isL_IL, isL_lst, L2.start, List.map_cons, List.map_nil, List.length_cons, List.length_nil, List.cons_append, List.nil_append, List.getElem?_cons_succ, List.getElem?_cons_zero, Option.some.injEq, exists_eq_left', exists_eq_left, exists_and_left, V.int.injEq, V.ref.injEq, V.bl.injEq, V.str.injEq, List.set_cons_zero, List.set_cons_succ, List.cons.injEq, and_true, true_and, Nat.reduceAdd, Nat.reduceSub, List.replicate_succ, List.replicate_zero, rIxI, rIxH, rIxTH, rSetI, rSetH, rCatI, rRepI, rSlI, rAppendI, rExtendI, decide_eq_true_eq, upd_same, IL_inj, HO.lst.injEq, toInts_cons, toInts_nil, Option.map_some, if_true, if_false, Bool.true_eq_false, Bool.false_eq_true, Bool.not_true, Bool.not_false, Bool.not_eq_true', decide_eq_false_iff_not, atI_0, atI_1, atI_2, atI_3, atI_4, Int.reduceToNat, Int.reduceLT, Int.reduceLE, Int.reduceNeg, Int.reducePow, cast_lit, upd_upd, Int.reduceAdd, Int.reduceMul, Int.reduceSub, Nat.reduceLT, Nat.reduceLeDiff, cmul_r, cdiv_r, tSl, tPart, tNoPart, rEq, rNe, scal_nn, scal_ii, scal_bb, scal_ss, scal_is, scal_si, V.ty.injEq, and_assoc, tyH_non, tyH_bl, tyH_int, tyH_str, tyH_ref, tyO_lst, tyO_IL, tyO_tup, itO_lst, itO_tup, itO_IL, Dw.rIxD, rLenI, rLenH, rLenTH, rLenQ, rLenB, rListI, Dw.rListS, rIntI, rIntB, rSumI, rIsiD, rIsX, tCallS, tMakeS, tMake, tMakeC, tMakeSC, tFld, sFld, HO.ins.injEq, HO.tup.injEq, cxOf_K, nox_K, tr_K, suite_K, rTupleI, rAllB, rAnyB, BL_inj, tChain, wOnly, wAs, wMany, rEqI, rNeI, Dw.rMax2, rMin2, Dw.rIsN, rIsNotN, rStrIn, rStrNotIn, not_true_eq_false, not_false_eq_true, reduceCtorEq, cl_bool, cl_int, cl_str, cl_list, cl_tuple, isB_NoneType_bool, isB_NoneType_int, isB_NoneType_str, isB_NoneType_list, isB_NoneType_tuple, isB_bool_bool, isB_bool_int, isB_bool_str, isB_bool_list, isB_bool_tuple, isB_int_bool, isB_int_int, isB_int_str, isB_int_list, isB_int_tuple, isB_str_bool, isB_str_int, isB_str_str, isB_str_list, isB_str_tuple, isB_list_bool, isB_list_int, isB_list_str, isB_list_list, isB_list_tuple, isB_tuple_bool, isB_tuple_int, isB_tuple_str, isB_tuple_list, isB_tuple_tuple, iSeqA, Dw.rIxL, Dw.rSetL, rTupT, tPar, tNotT, tMkO, tFmt, tJs, tOst, Dw.rIsXD, L2.tXf, xorN]
  exact k
end
section
variable {P : Program} [SupP P] {w : World} {K : PySem.W.Frag} {mg : Str → Option Value} {base : Heap} {A : Ad}
def spAreS (K : PySem.W.Frag) : Sp := fun vs H Q _ => ∃ (a : Addr) (ns : List Int), vs = [.ref a] ∧ (SqL K H a (ns.map V.int) ∨ SqT K H a (ns.map V.int)) ∧ ns.length ≤ 10000 ∧ ∀ H', Same H H' → Q (.bl (ns.all fun z => decide (0 ≤ z) && decide (z ≤ 255))) H'
theorem ok_are_bytes (T : Tx K mg A) : FnOk P w K mg base CX0 1 A.f_are_bytes A.d_are_bytes ["values"] (spAreS K) := by
  refine T.F_are_bytes.ok sc_are_bytes (fun vs H Q E h => ?_) (fun cdv A' outer s H vs Q E hr h => ?_)
  · obtain ⟨a, ns, rfl, _⟩ := h
    rfl
  obtain ⟨a, ns, rfl, hA, hl, k⟩ := h
  refine ⟨_, (pss_one (ps_ret (pe_callB (cr_allB rfl) (by rfl) T.z_all (by decide +kernel) (pa_cons (pe_lc (own := [("value", 1)]) (g := (gName 1)) (tt := tYes) rfl sc_are_bytes.nd (pi_seqA (pv 0)) (blkOk_by (N := n_are_bytes) (sc := (defScope s_are_bytes)) (by decide +kernel)) (fun _ _ _ _ _ => (pg_name (i := 1) sc_are_bytes.nd rfl (Or.inl rfl))) (fun _ _ _ _ _ => pts_nil) (fun _ _ _ _ _ => (pe_chain op_le op_le pe_int (pv 1) pe_int (by with_unfolding_all rfl)))) pa_nil)))), ?_⟩
  try simp only [tSeq, tAsg, tVar, tC, tOp, rI0, rI, tUn, rU, tIfS, tTest, tRet, tRetN, tDrop, tCB, tCons, tNil, tLst, tLstI, tTup, gName, tB, tAnd, tOr, tNot, tAndV, tOrV, tNotV, tIf, tNext, tBreak, tCont, gSub, tCall, tCallN, tAug, ipI, tBML, tBML0, isL_IL, isL_lst, L2.start, List.map_cons, List.map_nil, List.length_cons, List.length_nil, List.cons_append, List.nil_append, List.getElem?_cons_succ, List.getElem?_cons_zero, Option.some.injEq, exists_eq_left', exists_eq_left, exists_and_left, V.int.injEq, V.ref.injEq, V.bl.injEq, V.str.injEq, List.set_cons_zero, List.set_cons_succ, List.cons.injEq, and_true, true_and, Nat.reduceAdd, Nat.reduceSub, List.replicate_succ, List.replicate_zero, rIxI, rIxH, rIxTH, rSetI, rSetH, rCatI, rRepI, rSlI, rAppendI, rExtendI, decide_eq_true_eq, upd_same, IL_inj, HO.lst.injEq, toInts_cons, toInts_nil, Option.map_some, if_true, if_false, Bool.true_eq_false, Bool.false_eq_true, Bool.not_true, Bool.not_false, Bool.not_eq_true', decide_eq_false_iff_not, atI_0, atI_1, atI_2, atI_3, atI_4, Int.reduceToNat, Int.reduceLT, Int.reduceLE, Int.reduceNeg, Int.reducePow, cast_lit, upd_upd, Int.reduceAdd, Int.reduceMul, Int.reduceSub, Nat.reduceLT, Nat.reduceLeDiff, cmul_r, cdiv_r, tSl, tPart, tNoPart, rEq, rNe, scal_nn, scal_ii, scal_bb, scal_ss, scal_is, scal_si, V.ty.injEq, and_assoc, tyH_non, tyH_bl, tyH_int, tyH_str, tyH_ref, tyO_lst, tyO_IL, tyO_tup, itO_lst, itO_tup, itO_IL, Dw.rIxD, rLenI, rLenH, rLenTH, rLenQ, rLenB, rListI, Dw.rListS, rIntI, rIntB, rSumI, rIsiD, rIsX, tCallS, tMakeS, tMake, tMakeC, tMakeSC, tFld, sFld, HO.ins.injEq, HO.tup.injEq, cxOf_K, nox_K, tr_K, suite_K, rTupleI, rAllB, rAnyB, BL_inj, tChain, wOnly, wAs, wMany, rEqI, rNeI, Dw.rMax2, rMin2, Dw.rIsN, rIsNotN, rStrIn, rStrNotIn, not_true_eq_false, not_false_eq_true, reduceCtorEq, cl_bool, cl_int, cl_str, cl_list, cl_tuple, isB_NoneType_bool, isB_NoneType_int, isB_NoneType_str, isB_NoneType_list, isB_NoneType_tuple, isB_bool_bool, isB_bool_int, isB_bool_str, isB_bool_list, isB_bool_tuple, isB_int_bool, isB_int_int, isB_int_str, isB_int_list, isB_int_tuple, isB_str_bool, isB_str_int, isB_str_str, isB_str_list, isB_str_tuple, isB_list_bool, isB_list_int, isB_list_str, isB_list_list, isB_list_tuple, isB_tuple_bool, isB_tuple_int, isB_tuple_str, isB_tuple_list, isB_tuple_tuple, rSlCI, iRng3, iRev, gCons, gNil, iZip, iEnum, tLc_eq, tFor_eq, iRng1, iRng2, iList, iTup, rSetD, iKeys, tDNewK, Int.reducePow, Int.reduceNeg, iSeqA, Dw.rIxL, Dw.rSetL, rTupT, tPar, tNotT, tMkO, tFmt, tJs, tOst, Dw.rIsXD, L2.tXf]
  have core : ∀ {H1 : Hp} {D : Addr}, Same H H1 → H1 D = some (.lst ((List.range ns.length).map fun i => V.bl (decide (0 ≤ ns.getD i 0) && decide (ns.getD i 0 ≤ 255)))) → ∃ x, H1 D = some (BL x) ∧ Q (V.bl (x.all id)) H1 := by
    intro H1 D s1 e1
    have e2 := BL_of e1
    refine ⟨_, e2, ?_⟩
    have ea := all_items (p := fun z => decide (0 ≤ z) && decide (z ≤ 255)) (ns := ns)
    rw [ea]
    exact k _ s1
  have step : ∀ (i : Nat) (v : V) (H3 : Hp) (Q' : VK), (ns.map V.int)[i]? = some v → Same H H3 → (∀ H4, Same H3 H4 → Q' (V.bl (decide (0 ≤ ns.getD i 0) && decide (ns.getD i 0 ≤ 255))) H4) → tChain (rI0 fun i j => V.bl (decide (i ≤ j))) (rI0 fun i j => V.bl (decide (i ≤ j))) (tC (V.int 0)) (tVar 1) (tC (V.int 255)) [some (V.ref a), some v] H3 Q' := by
    intro i v H3 Q' hi s1 hq
    obtain ⟨z, rfl, hz⟩ := ints_at hi
    have ez : ns.getD i 0 = z := by rw [List.getD_eq_getElem?_getD, hz]; rfl
    have hq2 := hq H3 (Same.refl _)
    rw [ez] at hq2
    try simp only [tSeq, tAsg, tVar, tC, tOp, rI0, rI, tUn, rU, tIfS, tTest, tRet, tRetN, tDrop, tCB, tCons, tNil, tLst, tLstI, tTup, gName, tB, tAnd, tOr, tNot, tAndV, tOrV, tNotV, tIf, tNext, tBreak, tCont, gSub, tCall, tCallN, tAug, ipI, tBML, tBML0, isL_IL, isL_lst, L2.start, List.map_cons, List.map_nil, List.length_cons, List.length_nil, List.cons_append, List.nil_append, List.getElem?_cons_succ, List.getElem?_cons_zero, Option.some.injEq, exists_eq_left', exists_eq_left, exists_and_left, V.int.injEq, V.ref.injEq, V.bl.injEq, V.str.injEq, List.set_cons_zero, List.set_cons_succ, List.cons.injEq, and_true, true_and, Nat.reduceAdd, Nat.reduceSub, List.replicate_succ, List.replicate_zero, rIxI, rIxH, rIxTH, rSetI, rSetH, rCatI, rRepI, rSlI, rAppendI, rExtendI, decide_eq_true_eq, upd_same, IL_inj, HO.lst.injEq, toInts_cons, toInts_nil, Option.map_some, if_true, if_false, Bool.true_eq_false, Bool.false_eq_true, Bool.not_true, Bool.not_false, Bool.not_eq_true', decide_eq_false_iff_not, atI_0, atI_1, atI_2, atI_3, atI_4, Int.reduceToNat, Int.reduceLT, Int.reduceLE, Int.reduceNeg, Int.reducePow, cast_lit, upd_upd, Int.reduceAdd, Int.reduceMul, Int.reduceSub, Nat.reduceLT, Nat.reduceLeDiff, cmul_r, cdiv_r, tSl, tPart, tNoPart, rEq, rNe, scal_nn, scal_ii, scal_bb, scal_ss, scal_is, scal_si, V.ty.injEq, and_assoc, tyH_non, tyH_bl, tyH_int, tyH_str, tyH_ref, tyO_lst, tyO_IL, tyO_tup, itO_lst, itO_tup, itO_IL, Dw.rIxD, rLenI, rLenH, rLenTH, rLenQ, rLenB, rListI, Dw.rListS, rIntI, rIntB, rSumI, rIsiD, rIsX, tCallS, tMakeS, tMake, tMakeC, tMakeSC, tFld, sFld, HO.ins.injEq, HO.tup.injEq, cxOf_K, nox_K, tr_K, suite_K, rTupleI, rAllB, rAnyB, BL_inj, tChain, wOnly, wAs, wMany, rEqI, rNeI, Dw.rMax2, rMin2, Dw.rIsN, rIsNotN, rStrIn, rStrNotIn, not_true_eq_false, not_false_eq_true, reduceCtorEq, cl_bool, cl_int, cl_str, cl_list, cl_tuple, isB_NoneType_bool, isB_NoneType_int, isB_NoneType_str, isB_NoneType_list, isB_NoneType_tuple, isB_bool_bool, isB_bool_int, isB_bool_str, isB_bool_list, isB_bool_tuple, isB_int_bool, isB_int_int, isB_int_str, isB_int_list, isB_int_tuple, isB_str_bool, isB_str_int, isB_str_str, isB_str_list, isB_str_tuple, isB_list_bool, isB_list_int, isB_list_str, isB_list_list, isB_list_tuple, isB_tuple_bool, isB_tuple_int, isB_tuple_str, isB_tuple_list, isB_tuple_tuple, rSlCI, iRng3, iRev, gCons, gNil, iZip, iEnum, tLc_eq, tFor_eq, iRng1, iRng2, iList, iTup, rSetD, iKeys, tDNewK, Int.reducePow, Int.reduceNeg, iSeqA, Dw.rIxL, Dw.rSetL, rTupT, tPar, tNotT, tMkO, tFmt, tJs, tOst, Dw.rIsXD, L2.tXf, wipe]
    by_cases c : 0 ≤ z
    · rw [if_pos c]
      rw [decide_eq_true c, Bool.true_and] at hq2
      exact hq2
    · rw [if_neg c]
      rw [decide_eq_false c, Bool.false_and] at hq2
      exact hq2
  rcases hA with hA | hA
  · refine ⟨_, .inl ⟨hA, fun D hD => ?_⟩⟩
    refine lc_listV (K := K) (a := a) (xs := ns.map V.int) (f := fun i => V.bl (decide (0 ≤ ns.getD i 0) && decide (ns.getD i 0 ≤ 255))) (by rw [List.length_map]; omega) hA hD (fun _ => rfl) step fun H1 s1 e1 => ?_
    rw [List.length_map] at e1
    exact core s1 e1
  · refine ⟨_, .inr ⟨hA, fun D hD => ?_⟩⟩
    refine lc_tupV (K := K) (a := a) (xs := ns.map V.int) (f := fun i => V.bl (decide (0 ≤ ns.getD i 0) && decide (ns.getD i 0 ≤ 255))) (by rw [List.length_map]; omega) hA hD (fun _ => rfl) step fun H1 s1 e1 => ?_
    rw [List.length_map] at e1
    exact core s1 e1
end
section
variable {P : Program} [SupP P] {w : World} {K : PySem.W.Frag} {mg : Str → Option Value} {base : Heap} {A : Ad}
def spDataLen : Sp := fun vs H Q _ => ∃ n : Int, vs = [.int n] ∧ 0 ≤ n ∧ n ≤ 1000 ∧ Q (.int (16 * 2 ^ n.toNat)) H
theorem ok_data_length (T : Tx K mg A) : FnOk P w K mg base CX0 1 A.f_data_length A.d_data_length ["size"] spDataLen := by
  refine T.F_data_length.ok sc_data_length (fun vs H Q E h => ?_) (fun cdv A' outer s H vs Q E hr h => ?_)
  · obtain ⟨n, rfl, _⟩ := h
    rfl
  obtain ⟨n, rfl, n0, n1, k⟩ := h
  refine ⟨_, (pss_one (ps_ret (pe_op op_shl pe_int (pv 0)))), ?_⟩
  try simp only [tSeq, tAsg, tVar, tC, tOp, rI0, rI, tUn, rU, tIfS, tTest, tRet, tRetN, tDrop, tCB, tCons, tNil, tLst, tLstI, tTup, gName, tB, tAnd, tOr, tNot, tAndV, tOrV, tNotV, tIf, tNext, tBreak, tCont, gSub, tCall, tCallN, tAug, ipI, tBML, tBML0, isL_IL, isL_lst, L2.start, List.map_cons, List.map_nil, List.length_cons, List.length_nil, List.cons_append, List.nil_append, List.getElem?_cons_succ, List.getElem?_cons_zero, Option.some.injEq, exists_eq_left', exists_eq_left, exists_and_left, V.int.injEq, V.ref.injEq, V.bl.injEq, V.str.injEq, List.set_cons_zero, List.set_cons_succ, List.cons.injEq, and_true, true_and, Nat.reduceAdd, Nat.reduceSub, List.replicate_succ, List.replicate_zero, rIxI, rIxH, rIxTH, rSetI, rSetH, rCatI, rRepI, rSlI, rAppendI, rExtendI, decide_eq_true_eq, upd_same, IL_inj, HO.lst.injEq, toInts_cons, toInts_nil, Option.map_some, if_true, if_false, Bool.true_eq_false, Bool.false_eq_true, Bool.not_true, Bool.not_false, Bool.not_eq_true', decide_eq_false_iff_not, atI_0, atI_1, atI_2, atI_3, atI_4, Int.reduceToNat, Int.reduceLT, Int.reduceLE, Int.reduceNeg, Int.reducePow, cast_lit, upd_upd, Int.reduceAdd, Int.reduceMul, Int.reduceSub, Nat.reduceLT, Nat.reduceLeDiff, cmul_r, cdiv_r, tSl, tPart, tNoPart, rEq, rNe, scal_nn, scal_ii, scal_bb, scal_ss, scal_is, scal_si, V.ty.injEq, and_assoc, tyH_non, tyH_bl, tyH_int, tyH_str, tyH_ref, tyO_lst, tyO_IL, tyO_tup, itO_lst, itO_tup, itO_IL, Dw.rIxD, rLenI, rLenH, rLenTH, rLenQ, rLenB, rListI, Dw.rListS, rIntI, rIntB, rSumI, rIsiD, rIsX, tCallS, tMakeS, tMake, tMakeC, tMakeSC, tFld, sFld, HO.ins.injEq, HO.tup.injEq, cxOf_K, nox_K, tr_K, suite_K, rTupleI, rAllB, rAnyB, BL_inj, tChain, wOnly, wAs, wMany, rEqI, rNeI, Dw.rMax2, rMin2, Dw.rIsN, rIsNotN, rStrIn, rStrNotIn, not_true_eq_false, not_false_eq_true, reduceCtorEq, cl_bool, cl_int, cl_str, cl_list, cl_tuple, isB_NoneType_bool, isB_NoneType_int, isB_NoneType_str, isB_NoneType_list, isB_NoneType_tuple, isB_bool_bool, isB_bool_int, isB_bool_str, isB_bool_list, isB_bool_tuple, isB_int_bool, isB_int_int, isB_int_str, isB_int_list, isB_int_tuple, isB_str_bool, isB_str_int, isB_str_str, isB_str_list, isB_str_tuple, isB_list_bool, isB_list_int, isB_list_str, isB_list_list, isB_list_tuple, isB_tuple_bool, isB_tuple_int, isB_tuple_str, isB_tuple_list, isB_tuple_tuple, rSlCI, iRng3, iRev, gCons, gNil, iZip, iEnum, tLc_eq, tFor_eq, iRng1, iRng2, iList, iTup, rSetD, iKeys, tDNewK, Int.reducePow, Int.reduceNeg, iSeqA, Dw.rIxL, Dw.rSetL, rTupT, tPar, tNotT, tMkO, tFmt, tJs, tOst, Dw.rIsXD, L2.tXf]
  exact ⟨⟨n0, by omega, by decide⟩, k⟩
end
section
variable {P : Program} [SupP P] {w : World} {K : PySem.W.Frag} {mg : Str → Option Value} {base : Heap} {A : Ad}
theorem ok_gcr_code (T : Tx K mg A) : FnOk P w K mg base CX0 2 A.f_gcr_code A.d_gcr_code ["number"] spGcrCode := by
  refine T.F_gcr_code.ok sc_gcr_code (fun vs H Q E h => ?_) (fun cdv A' outer s H vs Q E hr h => ?_)
  · obtain ⟨n, rfl, _⟩ := h
    rfl
  obtain ⟨n, rfl, hn, k⟩ := h
  refine ⟨_, (pss_one (ps_ret (pe_slice sl_listI (pe_call (ok_byte_bits (P := P) T) (hr.mono (by decide)) rfl T.g_byte_bits T.F_byte_bits.kp T.b_byte_bits .nil pass0 (pa_cons (pe_ix ix_tup (pe_glob (v := .ref A.c_GROUP_CODES) rfl T.ct_GROUP_CODES rfl) (pv 0) (fun _ _ => rfl)) pa_nil)) (po_some pe_int) po_none))), ?_⟩
  try simp only [tSeq, tAsg, tVar, tC, tOp, rI0, rI, tUn, rU, tIfS, tTest, tRet, tRetN, tDrop, tCB, tCons, tNil, tLst, tLstI, tTup, gName, tB, tAnd, tOr, tNot, tAndV, tOrV, tNotV, tIf, tNext, tBreak, tCont, gSub, tCall, tCallN, tAug, ipI, tBML, tBML0, isL_IL, isL_lst, L2.start, List.map_cons, List.map_nil, List.length_cons, List.length_nil, List.cons_append, List.nil_append, List.getElem?_cons_succ, List.getElem?_cons_zero, Option.some.injEq, exists_eq_left', exists_eq_left, exists_and_left, V.int.injEq, V.ref.injEq, V.bl.injEq, V.str.injEq, List.set_cons_zero, List.set_cons_succ, List.cons.injEq, and_true, true_and, Nat.reduceAdd, Nat.reduceSub, List.replicate_succ, List.replicate_zero, rIxI, rIxH, rIxTH, rSetI, rSetH, rCatI, rRepI, rSlI, rAppendI, rExtendI, decide_eq_true_eq, upd_same, IL_inj, HO.lst.injEq, toInts_cons, toInts_nil, Option.map_some, if_true, if_false, Bool.true_eq_false, Bool.false_eq_true, Bool.not_true, Bool.not_false, Bool.not_eq_true', decide_eq_false_iff_not, atI_0, atI_1, atI_2, atI_3, atI_4, Int.reduceToNat, Int.reduceLT, Int.reduceLE, Int.reduceNeg, Int.reducePow, cast_lit, upd_upd, Int.reduceAdd, Int.reduceMul, Int.reduceSub, Nat.reduceLT, Nat.reduceLeDiff, cmul_r, cdiv_r, tSl, tPart, tNoPart, rEq, rNe, scal_nn, scal_ii, scal_bb, scal_ss, scal_is, scal_si, V.ty.injEq, and_assoc, tyH_non, tyH_bl, tyH_int, tyH_str, tyH_ref, tyO_lst, tyO_IL, tyO_tup, itO_lst, itO_tup, itO_IL, Dw.rIxD, rLenI, rLenH, rLenTH, rLenQ, rLenB, rListI, Dw.rListS, rIntI, rIntB, rSumI, rIsiD, rIsX, tCallS, tMakeS, tMake, tMakeC, tMakeSC, tFld, sFld, HO.ins.injEq, HO.tup.injEq, cxOf_K, nox_K, tr_K, suite_K, rTupleI, rAllB, rAnyB, BL_inj, tChain, wOnly, wAs, wMany, rEqI, rNeI, Dw.rMax2, rMin2, Dw.rIsN, rIsNotN, rStrIn, rStrNotIn, not_true_eq_false, not_false_eq_true, reduceCtorEq, cl_bool, cl_int, cl_str, cl_list, cl_tuple, isB_NoneType_bool, isB_NoneType_int, isB_NoneType_str, isB_NoneType_list, isB_NoneType_tuple, isB_bool_bool, isB_bool_int, isB_bool_str, isB_bool_list, isB_bool_tuple, isB_int_bool, isB_int_int, isB_int_str, isB_int_list, isB_int_tuple, isB_str_bool, isB_str_int, isB_str_str, isB_str_list, isB_str_tuple, isB_list_bool, isB_list_int, isB_list_str, isB_list_list, isB_list_tuple, isB_tuple_bool, isB_tuple_int, isB_tuple_str, isB_tuple_list, isB_tuple_tuple, rSlCI, iRng3, iRev, gCons, gNil, iZip, iEnum, tLc_eq, tFor_eq, iRng1, iRng2, iList, iTup, rSetD, iKeys, tDNewK, Int.reducePow, Int.reduceNeg, iSeqA, Dw.rIxL, Dw.rSetL, rTupT, tPar, tNotT, tMkO, tFmt, tJs, tOst, Dw.rIsXD, L2.tXf]
  have hG : atI (GC.map V.int) (n : Int) = some (.int (GC.getD n 0)) := by
    have h := atI_int (ns := GC) (i := (n : Int)) (by omega) (by show (n : Int) < 16; omega)
    rw [Int.toNat_natCast] at h
    exact h
  refine ⟨_, _, _, _, rfl, rfl, T.tt_GROUP_CODES H, hG, ?_⟩
  have hgn : ∀ m, m < 16 → 0 ≤ GC.getD m 0 ∧ GC.getD m 0 < 32 := by decide
  have hg := hgn n hn
  refine ⟨(GC.getD n 0).toNat, by show [V.int _] = [V.int _]; congr 2; omega, by omega, fun B H1 s1 nB eB => ⟨B, rfl, _, eB, fun u hu => ?_⟩⟩
  have ec : cutI (bits8 (GC.getD n 0).toNat) (some 3) none = codeZ n := by
    unfold cutI codeZ
    rfl
  rw [ec]
  exact k u _ (s1.trans (same_new hu _)) (same_none s1 hu) upd_same
theorem ok_gcr_cells (T : Tx K mg A) : FnOk P w K mg base CX0 3 A.f_gcr_cells A.d_gcr_cells ["values"] spGcrCells := by
  refine T.F_gcr_cells.ok sc_gcr_cells (fun vs H Q E h => ?_) (fun cdv A' outer s H vs Q E hr h => ?_)
  · obtain ⟨a, ns, rfl, _⟩ := h
    rfl
  obtain ⟨a, ns, rfl, hA, hb, hl, k⟩ := h
  refine ⟨_, (pss_cons (ps_set (i := 1) sc_gcr_cells.nd rfl (Or.inl rfl) (pe_lstI pa_nil))
      (pss_cons (ps_for PassesOwn.never rfl (pi_list (pv 0)) (pg_name (i := 2) sc_gcr_cells.nd rfl (Or.inl rfl))
        (pss_cons (ps_expr (PE.imp (pe_bm PySem.F.plainAttrs_list PySem.F.slot_list_extend PySem.F.type_list_extend mt_extendI (pv 1) (pa_cons (pe_call (ok_gcr_code (P := P) T) (hr.mono (by decide)) rfl T.g_gcr_code T.F_gcr_code.kp T.b_gcr_code .nil pass0 (pa_cons (pe_op op_fdiv (pv 2) pe_int) pa_nil)) pa_nil)) bml_imp))
      (pss_one (ps_expr (PE.imp (pe_bm PySem.F.plainAttrs_list PySem.F.slot_list_extend PySem.F.type_list_extend mt_extendI (pv 1) (pa_cons (pe_call (ok_gcr_code (P := P) T) (hr.mono (by decide)) rfl T.g_gcr_code T.F_gcr_code.kp T.b_gcr_code .nil pass0 (pa_cons (pe_op op_mod (pv 2) pe_int) pa_nil)) pa_nil)) bml_imp)))))
      (pss_one (ps_ret (pv 1))))), ?_⟩
  try simp only [tSeq, tAsg, tVar, tC, tOp, rI0, rI, tUn, rU, tIfS, tTest, tRet, tRetN, tDrop, tCB, tCons, tNil, tLst, tLstI, tTup, gName, tB, tAnd, tOr, tNot, tAndV, tOrV, tNotV, tIf, tNext, tBreak, tCont, gSub, tCall, tCallN, tAug, ipI, tBML, tBML0, isL_IL, isL_lst, L2.start, List.map_cons, List.map_nil, List.length_cons, List.length_nil, List.cons_append, List.nil_append, List.getElem?_cons_succ, List.getElem?_cons_zero, Option.some.injEq, exists_eq_left', exists_eq_left, exists_and_left, V.int.injEq, V.ref.injEq, V.bl.injEq, V.str.injEq, List.set_cons_zero, List.set_cons_succ, List.cons.injEq, and_true, true_and, Nat.reduceAdd, Nat.reduceSub, List.replicate_succ, List.replicate_zero, rIxI, rIxH, rIxTH, rSetI, rSetH, rCatI, rRepI, rSlI, rAppendI, rExtendI, decide_eq_true_eq, upd_same, IL_inj, HO.lst.injEq, toInts_cons, toInts_nil, Option.map_some, if_true, if_false, Bool.true_eq_false, Bool.false_eq_true, Bool.not_true, Bool.not_false, Bool.not_eq_true', decide_eq_false_iff_not, atI_0, atI_1, atI_2, atI_3, atI_4, Int.reduceToNat, Int.reduceLT, Int.reduceLE, Int.reduceNeg, Int.reducePow, cast_lit, upd_upd, Int.reduceAdd, Int.reduceMul, Int.reduceSub, Nat.reduceLT, Nat.reduceLeDiff, cmul_r, cdiv_r, tSl, tPart, tNoPart, rEq, rNe, scal_nn, scal_ii, scal_bb, scal_ss, scal_is, scal_si, V.ty.injEq, and_assoc, tyH_non, tyH_bl, tyH_int, tyH_str, tyH_ref, tyO_lst, tyO_IL, tyO_tup, itO_lst, itO_tup, itO_IL, Dw.rIxD, rLenI, rLenH, rLenTH, rLenQ, rLenB, rListI, Dw.rListS, rIntI, rIntB, rSumI, rIsiD, rIsX, tCallS, tMakeS, tMake, tMakeC, tMakeSC, tFld, sFld, HO.ins.injEq, HO.tup.injEq, cxOf_K, nox_K, tr_K, suite_K, rTupleI, rAllB, rAnyB, BL_inj, tChain, wOnly, wAs, wMany, rEqI, rNeI, Dw.rMax2, rMin2, Dw.rIsN, rIsNotN, rStrIn, rStrNotIn, not_true_eq_false, not_false_eq_true, reduceCtorEq, cl_bool, cl_int, cl_str, cl_list, cl_tuple, isB_NoneType_bool, isB_NoneType_int, isB_NoneType_str, isB_NoneType_list, isB_NoneType_tuple, isB_bool_bool, isB_bool_int, isB_bool_str, isB_bool_list, isB_bool_tuple, isB_int_bool, isB_int_int, isB_int_str, isB_int_list, isB_int_tuple, isB_str_bool, isB_str_int, isB_str_str, isB_str_list, isB_str_tuple, isB_list_bool, isB_list_int, isB_list_str, isB_list_list, isB_list_tuple, isB_tuple_bool, isB_tuple_int, isB_tuple_str, isB_tuple_list, isB_tuple_tuple, rSlCI, iRng3, iRev, gCons, gNil, iZip, iEnum, tLc_eq, tFor_eq, iRng1, iRng2, iList, iTup, rSetD, iKeys, tDNewK, Int.reducePow, Int.reduceNeg, iSeqA, Dw.rIxL, Dw.rSetL, rTupT, tPar, tNotT, tMkO, tFmt, tJs, tOst, Dw.rIsXD, L2.tXf]
  refine ⟨Nat.zero_le _, fun D hD => ⟨⟨_, .of (same_new hD _ _ _ hA)⟩, ?_⟩⟩
  obtain ⟨I, hI⟩ : ∃ F : Nat → L2.St → Hp → Prop, F = (fun i σ H' => Same H H' ∧ H' D = some (IL (gcrZ (ns.take i))) ∧ ∃ y, σ = [some (V.ref a), some (V.ref D), y]) := ⟨_, rfl⟩
  refine for_list (xs := ns.map V.int) I (by rw [hI]; exact ⟨same_new hD _, upd_same, none, rfl⟩) (fun i σ H' _ h => by rw [hI] at h; exact .of (h.1 _ _ hA)) ?_ ?_
  · intro i v σ H' hi h
    rw [hI] at h
    obtain ⟨s1, e1, y, rfl⟩ := h
    obtain ⟨z, rfl, hz⟩ := ints_at hi
    obtain ⟨v, rfl, hv⟩ := bytes_at hb hz
    have hlt : i < ns.length := (List.getElem?_eq_some_iff.mp hz).1
    have d1 : (v : Int) / 16 = ((v / 16 : Nat) : Int) := by omega
    have d2 : (v : Int) % 16 = ((v % 16 : Nat) : Int) := by omega
    have hgl := gcrZ_len (ns.take i) fun x hx => hb x (List.mem_of_mem_take hx)
    rw [List.length_take] at hgl
    try simp only [tSeq, tAsg, tVar, tC, tOp, rI0, rI, tUn, rU, tIfS, tTest, tRet, tRetN, tDrop, tCB, tCons, tNil, tLst, tLstI, tTup, gName, tB, tAnd, tOr, tNot, tAndV, tOrV, tNotV, tIf, tNext, tBreak, tCont, gSub, tCall, tCallN, tAug, ipI, tBML, tBML0, isL_IL, isL_lst, L2.start, List.map_cons, List.map_nil, List.length_cons, List.length_nil, List.cons_append, List.nil_append, List.getElem?_cons_succ, List.getElem?_cons_zero, Option.some.injEq, exists_eq_left', exists_eq_left, exists_and_left, V.int.injEq, V.ref.injEq, V.bl.injEq, V.str.injEq, List.set_cons_zero, List.set_cons_succ, List.cons.injEq, and_true, true_and, Nat.reduceAdd, Nat.reduceSub, List.replicate_succ, List.replicate_zero, rIxI, rIxH, rIxTH, rSetI, rSetH, rCatI, rRepI, rSlI, rAppendI, rExtendI, decide_eq_true_eq, upd_same, IL_inj, HO.lst.injEq, toInts_cons, toInts_nil, Option.map_some, if_true, if_false, Bool.true_eq_false, Bool.false_eq_true, Bool.not_true, Bool.not_false, Bool.not_eq_true', decide_eq_false_iff_not, atI_0, atI_1, atI_2, atI_3, atI_4, Int.reduceToNat, Int.reduceLT, Int.reduceLE, Int.reduceNeg, Int.reducePow, cast_lit, upd_upd, Int.reduceAdd, Int.reduceMul, Int.reduceSub, Nat.reduceLT, Nat.reduceLeDiff, cmul_r, cdiv_r, tSl, tPart, tNoPart, rEq, rNe, scal_nn, scal_ii, scal_bb, scal_ss, scal_is, scal_si, V.ty.injEq, and_assoc, tyH_non, tyH_bl, tyH_int, tyH_str, tyH_ref, tyO_lst, tyO_IL, tyO_tup, itO_lst, itO_tup, itO_IL, Dw.rIxD, rLenI, rLenH, rLenTH, rLenQ, rLenB, rListI, Dw.rListS, rIntI, rIntB, rSumI, rIsiD, rIsX, tCallS, tMakeS, tMake, tMakeC, tMakeSC, tFld, sFld, HO.ins.injEq, HO.tup.injEq, cxOf_K, nox_K, tr_K, suite_K, rTupleI, rAllB, rAnyB, BL_inj, tChain, wOnly, wAs, wMany, rEqI, rNeI, Dw.rMax2, rMin2, Dw.rIsN, rIsNotN, rStrIn, rStrNotIn, not_true_eq_false, not_false_eq_true, reduceCtorEq, cl_bool, cl_int, cl_str, cl_list, cl_tuple, isB_NoneType_bool, isB_NoneType_int, isB_NoneType_str, isB_NoneType_list, isB_NoneType_tuple, isB_bool_bool, isB_bool_int, isB_bool_str, isB_bool_list, isB_bool_tuple, isB_int_bool, isB_int_int, isB_int_str, isB_int_list, isB_int_tuple, isB_str_bool, isB_str_int, isB_str_str, isB_str_list, isB_str_tuple, isB_list_bool, isB_list_int, isB_list_str, isB_list_list, isB_list_tuple, isB_tuple_bool, isB_tuple_int, isB_tuple_str, isB_tuple_list, isB_tuple_tuple, rSlCI, iRng3, iRev, gCons, gNil, iZip, iEnum, tLc_eq, tFor_eq, iRng1, iRng2, iList, iTup, rSetD, iKeys, tDNewK, Int.reducePow, Int.reduceNeg, iSeqA, Dw.rIxL, Dw.rSetL, rTupT, tPar, tNotT, tMkO, tFmt, tJs, tOst, Dw.rIsXD, L2.tXf, e1, d1, d2]
    refine ⟨v / 16, rfl, by omega, fun r H2 s2 n2 e2 => ?_⟩
    have e3 := s2 _ _ e1
    have l1 := codeZ_len (n := v / 16) (by omega)
    have l2 := codeZ_len (n := v % 16) (by omega)
    refine ⟨r, rfl, _, e3, _, e2, line_le (by omega), ?_⟩
    have nD : D ≠ r := fun e => by subst e; rw [e1] at n2; cases n2
    try simp only [tSeq, tAsg, tVar, tC, tOp, rI0, rI, tUn, rU, tIfS, tTest, tRet, tRetN, tDrop, tCB, tCons, tNil, tLst, tLstI, tTup, gName, tB, tAnd, tOr, tNot, tAndV, tOrV, tNotV, tIf, tNext, tBreak, tCont, gSub, tCall, tCallN, tAug, ipI, tBML, tBML0, isL_IL, isL_lst, L2.start, List.map_cons, List.map_nil, List.length_cons, List.length_nil, List.cons_append, List.nil_append, List.getElem?_cons_succ, List.getElem?_cons_zero, Option.some.injEq, exists_eq_left', exists_eq_left, exists_and_left, V.int.injEq, V.ref.injEq, V.bl.injEq, V.str.injEq, List.set_cons_zero, List.set_cons_succ, List.cons.injEq, and_true, true_and, Nat.reduceAdd, Nat.reduceSub, List.replicate_succ, List.replicate_zero, rIxI, rIxH, rIxTH, rSetI, rSetH, rCatI, rRepI, rSlI, rAppendI, rExtendI, decide_eq_true_eq, upd_same, IL_inj, HO.lst.injEq, toInts_cons, toInts_nil, Option.map_some, if_true, if_false, Bool.true_eq_false, Bool.false_eq_true, Bool.not_true, Bool.not_false, Bool.not_eq_true', decide_eq_false_iff_not, atI_0, atI_1, atI_2, atI_3, atI_4, Int.reduceToNat, Int.reduceLT, Int.reduceLE, Int.reduceNeg, Int.reducePow, cast_lit, upd_upd, Int.reduceAdd, Int.reduceMul, Int.reduceSub, Nat.reduceLT, Nat.reduceLeDiff, cmul_r, cdiv_r, tSl, tPart, tNoPart, rEq, rNe, scal_nn, scal_ii, scal_bb, scal_ss, scal_is, scal_si, V.ty.injEq, and_assoc, tyH_non, tyH_bl, tyH_int, tyH_str, tyH_ref, tyO_lst, tyO_IL, tyO_tup, itO_lst, itO_tup, itO_IL, Dw.rIxD, rLenI, rLenH, rLenTH, rLenQ, rLenB, rListI, Dw.rListS, rIntI, rIntB, rSumI, rIsiD, rIsX, tCallS, tMakeS, tMake, tMakeC, tMakeSC, tFld, sFld, HO.ins.injEq, HO.tup.injEq, cxOf_K, nox_K, tr_K, suite_K, rTupleI, rAllB, rAnyB, BL_inj, tChain, wOnly, wAs, wMany, rEqI, rNeI, Dw.rMax2, rMin2, Dw.rIsN, rIsNotN, rStrIn, rStrNotIn, not_true_eq_false, not_false_eq_true, reduceCtorEq, cl_bool, cl_int, cl_str, cl_list, cl_tuple, isB_NoneType_bool, isB_NoneType_int, isB_NoneType_str, isB_NoneType_list, isB_NoneType_tuple, isB_bool_bool, isB_bool_int, isB_bool_str, isB_bool_list, isB_bool_tuple, isB_int_bool, isB_int_int, isB_int_str, isB_int_list, isB_int_tuple, isB_str_bool, isB_str_int, isB_str_str, isB_str_list, isB_str_tuple, isB_list_bool, isB_list_int, isB_list_str, isB_list_list, isB_list_tuple, isB_tuple_bool, isB_tuple_int, isB_tuple_str, isB_tuple_list, isB_tuple_tuple, rSlCI, iRng3, iRev, gCons, gNil, iZip, iEnum, tLc_eq, tFor_eq, iRng1, iRng2, iList, iTup, rSetD, iKeys, tDNewK, Int.reducePow, Int.reduceNeg, iSeqA, Dw.rIxL, Dw.rSetL, rTupT, tPar, tNotT, tMkO, tFmt, tJs, tOst, Dw.rIsXD, L2.tXf]
    refine ⟨v % 16, rfl, by omega, fun r2 H3 s3 n3 e4 => ?_⟩
    have e5 := s3 _ _ (upd_same (H := H2) (a := D) (o := IL (gcrZ (ns.take i) ++ codeZ (v / 16))))
    refine ⟨r2, rfl, _, e5, _, e4, line_le (by rw [List.length_append]; omega), ?_⟩
    rw [hI]
    refine ⟨fun b o hb => ?_, by rw [upd_same, gcrZ_more hz], _, rfl⟩
    rw [upd_ne (ne_of_none hb hD)]
    exact s3 _ _ (by rw [upd_ne (ne_of_none hb hD)]; exact s2 _ _ (s1 _ _ hb))
  · intro σ H' h
    rw [hI] at h
    obtain ⟨s1, e1, y, rfl⟩ := h
    try simp only [tSeq, tAsg, tVar, tC, tOp, rI0, rI, tUn, rU, tIfS, tTest, tRet, tRetN, tDrop, tCB, tCons, tNil, tLst, tLstI, tTup, gName, tB, tAnd, tOr, tNot, tAndV, tOrV, tNotV, tIf, tNext, tBreak, tCont, gSub, tCall, tCallN, tAug, ipI, tBML, tBML0, isL_IL, isL_lst, L2.start, List.map_cons, List.map_nil, List.length_cons, List.length_nil, List.cons_append, List.nil_append, List.getElem?_cons_succ, List.getElem?_cons_zero, Option.some.injEq, exists_eq_left', exists_eq_left, exists_and_left, V.int.injEq, V.ref.injEq, V.bl.injEq, V.str.injEq, List.set_cons_zero, List.set_cons_succ, List.cons.injEq, and_true, true_and, Nat.reduceAdd, Nat.reduceSub, List.replicate_succ, List.replicate_zero, rIxI, rIxH, rIxTH, rSetI, rSetH, rCatI, rRepI, rSlI, rAppendI, rExtendI, decide_eq_true_eq, upd_same, IL_inj, HO.lst.injEq, toInts_cons, toInts_nil, Option.map_some, if_true, if_false, Bool.true_eq_false, Bool.false_eq_true, Bool.not_true, Bool.not_false, Bool.not_eq_true', decide_eq_false_iff_not, atI_0, atI_1, atI_2, atI_3, atI_4, Int.reduceToNat, Int.reduceLT, Int.reduceLE, Int.reduceNeg, Int.reducePow, cast_lit, upd_upd, Int.reduceAdd, Int.reduceMul, Int.reduceSub, Nat.reduceLT, Nat.reduceLeDiff, cmul_r, cdiv_r, tSl, tPart, tNoPart, rEq, rNe, scal_nn, scal_ii, scal_bb, scal_ss, scal_is, scal_si, V.ty.injEq, and_assoc, tyH_non, tyH_bl, tyH_int, tyH_str, tyH_ref, tyO_lst, tyO_IL, tyO_tup, itO_lst, itO_tup, itO_IL, Dw.rIxD, rLenI, rLenH, rLenTH, rLenQ, rLenB, rListI, Dw.rListS, rIntI, rIntB, rSumI, rIsiD, rIsX, tCallS, tMakeS, tMake, tMakeC, tMakeSC, tFld, sFld, HO.ins.injEq, HO.tup.injEq, cxOf_K, nox_K, tr_K, suite_K, rTupleI, rAllB, rAnyB, BL_inj, tChain, wOnly, wAs, wMany, rEqI, rNeI, Dw.rMax2, rMin2, Dw.rIsN, rIsNotN, rStrIn, rStrNotIn, not_true_eq_false, not_false_eq_true, reduceCtorEq, cl_bool, cl_int, cl_str, cl_list, cl_tuple, isB_NoneType_bool, isB_NoneType_int, isB_NoneType_str, isB_NoneType_list, isB_NoneType_tuple, isB_bool_bool, isB_bool_int, isB_bool_str, isB_bool_list, isB_bool_tuple, isB_int_bool, isB_int_int, isB_int_str, isB_int_list, isB_int_tuple, isB_str_bool, isB_str_int, isB_str_str, isB_str_list, isB_str_tuple, isB_list_bool, isB_list_int, isB_list_str, isB_list_list, isB_list_tuple, isB_tuple_bool, isB_tuple_int, isB_tuple_str, isB_tuple_list, isB_tuple_tuple, rSlCI, iRng3, iRev, gCons, gNil, iZip, iEnum, tLc_eq, tFor_eq, iRng1, iRng2, iList, iTup, rSetD, iKeys, tDNewK, Int.reducePow, Int.reduceNeg, iSeqA, Dw.rIxL, Dw.rSetL, rTupT, tPar, tNotT, tMkO, tFmt, tJs, tOst, Dw.rIsXD, L2.tXf]
    rw [List.length_map, List.take_length] at e1
    exact k D H' s1 hD e1
end
section
variable {P : Program} [SupP P] {w : World} {K : PySem.W.Frag} {mg : Str → Option Value} {base : Heap} {A : Ad}
def SqA (K : PySem.W.Frag) (H : Hp) (a : Addr) (xs : List V) : Prop := SqL K H a xs ∨ SqT K H a xs
def spXorOf (K : PySem.W.Frag) : Sp := fun vs H Q _ => ∃ (a : Addr) (ns : List Int), vs = [.ref a] ∧ SqA K H a (ns.map V.int) ∧ Bytes ns ∧ ∀ H', Same H H' → Q (.int (xorG ns : Nat)) H'
theorem ok_exclusive_of (T : Tx K mg A) : FnOk P w K mg base CX0 2 A.f_exclusive_of A.d_exclusive_of ["values"] (spXorOf K) := by
  refine T.F_exclusive_of.ok sc_exclusive_of (fun vs H Q E h => ?_) (fun cdv A' outer s H vs Q E hr h => ?_)
  · obtain ⟨a, ns, rfl, _⟩ := h
    rfl
  obtain ⟨a, ns, rfl, hA, hb, k⟩ := h
  refine ⟨_, (pss_cons (ps_set (i := 1) sc_exclusive_of.nd rfl (Or.inl rfl) pe_int)
      (pss_cons (ps_for PassesOwn.never rfl (pi_seqA (pv 0)) (pg_name (i := 2) sc_exclusive_of.nd rfl (Or.inl rfl))
        (pss_one (ps_set (i := 1) sc_exclusive_of.nd rfl (Or.inl rfl) (pe_call (ok_exclusive (P := P) T) (hr.mono (by decide)) rfl T.g_exclusive T.F_exclusive.kp T.b_exclusive .nil pass0 (pa_cons (pv 1) (pa_cons (pv 2) pa_nil))))))
      (pss_one (ps_ret (pv 1))))), ?_⟩
  try simp only [tSeq, tAsg, tVar, tC, tOp, rI0, rI, tUn, rU, tIfS, tTest, tRet, tRetN, tDrop, tCB, tCons, tNil, tLst, tLstI, tTup, gName, tB, tAnd, tOr, tNot, tAndV, tOrV, tNotV, tIf, tNext, tBreak, tCont, gSub, tCall, tCallN, tAug, ipI, tBML, tBML0, isL_IL, isL_lst, L2.start, List.map_cons, List.map_nil, List.length_cons, List.length_nil, List.cons_append, List.nil_append, List.getElem?_cons_succ, List.getElem?_cons_zero, Option.some.injEq, exists_eq_left', exists_eq_left, exists_and_left, V.int.injEq, V.ref.injEq, V.bl.injEq, V.str.injEq, List.set_cons_zero, List.set_cons_succ, List.cons.injEq, and_true, true_and, Nat.reduceAdd, Nat.reduceSub, List.replicate_succ, List.replicate_zero, rIxI, rIxH, rIxTH, rSetI, rSetH, rCatI, rRepI, rSlI, rAppendI, rExtendI, decide_eq_true_eq, upd_same, IL_inj, HO.lst.injEq, toInts_cons, toInts_nil, Option.map_some, if_true, if_false, Bool.true_eq_false, Bool.false_eq_true, Bool.not_true, Bool.not_false, Bool.not_eq_true', decide_eq_false_iff_not, atI_0, atI_1, atI_2, atI_3, atI_4, Int.reduceToNat, Int.reduceLT, Int.reduceLE, Int.reduceNeg, Int.reducePow, cast_lit, upd_upd, Int.reduceAdd, Int.reduceMul, Int.reduceSub, Nat.reduceLT, Nat.reduceLeDiff, cmul_r, cdiv_r, tSl, tPart, tNoPart, rEq, rNe, scal_nn, scal_ii, scal_bb, scal_ss, scal_is, scal_si, V.ty.injEq, and_assoc, tyH_non, tyH_bl, tyH_int, tyH_str, tyH_ref, tyO_lst, tyO_IL, tyO_tup, itO_lst, itO_tup, itO_IL, Dw.rIxD, rLenI, rLenH, rLenTH, rLenQ, rLenB, rListI, Dw.rListS, rIntI, rIntB, rSumI, rIsiD, rIsX, tCallS, tMakeS, tMake, tMakeC, tMakeSC, tFld, sFld, HO.ins.injEq, HO.tup.injEq, cxOf_K, nox_K, tr_K, suite_K, rTupleI, rAllB, rAnyB, BL_inj, tChain, wOnly, wAs, wMany, rEqI, rNeI, Dw.rMax2, rMin2, Dw.rIsN, rIsNotN, rStrIn, rStrNotIn, not_true_eq_false, not_false_eq_true, reduceCtorEq, cl_bool, cl_int, cl_str, cl_list, cl_tuple, isB_NoneType_bool, isB_NoneType_int, isB_NoneType_str, isB_NoneType_list, isB_NoneType_tuple, isB_bool_bool, isB_bool_int, isB_bool_str, isB_bool_list, isB_bool_tuple, isB_int_bool, isB_int_int, isB_int_str, isB_int_list, isB_int_tuple, isB_str_bool, isB_str_int, isB_str_str, isB_str_list, isB_str_tuple, isB_list_bool, isB_list_int, isB_list_str, isB_list_list, isB_list_tuple, isB_tuple_bool, isB_tuple_int, isB_tuple_str, isB_tuple_list, isB_tuple_tuple, rSlCI, iRng3, iRev, gCons, gNil, iZip, iEnum, tLc_eq, tFor_eq, iRng1, iRng2, iList, iTup, rSetD, iKeys, tDNewK, Int.reducePow, Int.reduceNeg, iSeqA, Dw.rIxL, Dw.rSetL, rTupT, tPar, tNotT, tMkO, tFmt, tJs, tOst, Dw.rIsXD, L2.tXf]
  obtain ⟨I, hI⟩ : ∃ F : Nat → L2.St → Hp → Prop, F = (fun i σ H' => Same H H' ∧ ∃ y, σ = [some (V.ref a), some (V.int (xorG (ns.take i) : Nat)), y]) := ⟨_, rfl⟩
  refine ⟨ns.map V.int, ?_⟩
  rcases hA with hA | hA
  · refine .inl ⟨hA, forL (xs := ns.map V.int) I (by rw [hI]; exact ⟨.refl _, _, rfl⟩) (fun i σ H' _ h => by rw [hI] at h; exact h.1.seq hA) ?_ ?_⟩
    · intro i v σ H' hi h
      rw [hI] at h
      obtain ⟨s1, y, rfl⟩ := h
      obtain ⟨z, rfl, hz⟩ := ints_at hi
      obtain ⟨v, rfl, hv⟩ := bytes_at hb hz
      try simp only [tSeq, tAsg, tVar, tC, tOp, rI0, rI, tUn, rU, tIfS, tTest, tRet, tRetN, tDrop, tCB, tCons, tNil, tLst, tLstI, tTup, gName, tB, tAnd, tOr, tNot, tAndV, tOrV, tNotV, tIf, tNext, tBreak, tCont, gSub, tCall, tCallN, tAug, ipI, tBML, tBML0, isL_IL, isL_lst, L2.start, List.map_cons, List.map_nil, List.length_cons, List.length_nil, List.cons_append, List.nil_append, List.getElem?_cons_succ, List.getElem?_cons_zero, Option.some.injEq, exists_eq_left', exists_eq_left, exists_and_left, V.int.injEq, V.ref.injEq, V.bl.injEq, V.str.injEq, List.set_cons_zero, List.set_cons_succ, List.cons.injEq, and_true, true_and, Nat.reduceAdd, Nat.reduceSub, List.replicate_succ, List.replicate_zero, rIxI, rIxH, rIxTH, rSetI, rSetH, rCatI, rRepI, rSlI, rAppendI, rExtendI, decide_eq_true_eq, upd_same, IL_inj, HO.lst.injEq, toInts_cons, toInts_nil, Option.map_some, if_true, if_false, Bool.true_eq_false, Bool.false_eq_true, Bool.not_true, Bool.not_false, Bool.not_eq_true', decide_eq_false_iff_not, atI_0, atI_1, atI_2, atI_3, atI_4, Int.reduceToNat, Int.reduceLT, Int.reduceLE, Int.reduceNeg, Int.reducePow, cast_lit, upd_upd, Int.reduceAdd, Int.reduceMul, Int.reduceSub, Nat.reduceLT, Nat.reduceLeDiff, cmul_r, cdiv_r, tSl, tPart, tNoPart, rEq, rNe, scal_nn, scal_ii, scal_bb, scal_ss, scal_is, scal_si, V.ty.injEq, and_assoc, tyH_non, tyH_bl, tyH_int, tyH_str, tyH_ref, tyO_lst, tyO_IL, tyO_tup, itO_lst, itO_tup, itO_IL, Dw.rIxD, rLenI, rLenH, rLenTH, rLenQ, rLenB, rListI, Dw.rListS, rIntI, rIntB, rSumI, rIsiD, rIsX, tCallS, tMakeS, tMake, tMakeC, tMakeSC, tFld, sFld, HO.ins.injEq, HO.tup.injEq, cxOf_K, nox_K, tr_K, suite_K, rTupleI, rAllB, rAnyB, BL_inj, tChain, wOnly, wAs, wMany, rEqI, rNeI, Dw.rMax2, rMin2, Dw.rIsN, rIsNotN, rStrIn, rStrNotIn, not_true_eq_false, not_false_eq_true, reduceCtorEq, cl_bool, cl_int, cl_str, cl_list, cl_tuple, isB_NoneType_bool, isB_NoneType_int, isB_NoneType_str, isB_NoneType_list, isB_NoneType_tuple, isB_bool_bool, isB_bool_int, isB_bool_str, isB_bool_list, isB_bool_tuple, isB_int_bool, isB_int_int, isB_int_str, isB_int_list, isB_int_tuple, isB_str_bool, isB_str_int, isB_str_str, isB_str_list, isB_str_tuple, isB_list_bool, isB_list_int, isB_list_str, isB_list_list, isB_list_tuple, isB_tuple_bool, isB_tuple_int, isB_tuple_str, isB_tuple_list, isB_tuple_tuple, rSlCI, iRng3, iRev, gCons, gNil, iZip, iEnum, tLc_eq, tFor_eq, iRng1, iRng2, iList, iTup, rSetD, iKeys, tDNewK, Int.reducePow, Int.reduceNeg, iSeqA, Dw.rIxL, Dw.rSetL, rTupT, tPar, tNotT, tMkO, tFmt, tJs, tOst, Dw.rIsXD, L2.tXf]
      refine ⟨xorG (ns.take i), v, rfl, ?_⟩
      rw [hI]
      exact ⟨s1, _, by rw [xorG_more hz]⟩
    · intro σ H' h
      rw [hI] at h
      obtain ⟨s1, y, rfl⟩ := h
      rw [List.length_map, List.take_length]
      try simp only [tSeq, tAsg, tVar, tC, tOp, rI0, rI, tUn, rU, tIfS, tTest, tRet, tRetN, tDrop, tCB, tCons, tNil, tLst, tLstI, tTup, gName, tB, tAnd, tOr, tNot, tAndV, tOrV, tNotV, tIf, tNext, tBreak, tCont, gSub, tCall, tCallN, tAug, ipI, tBML, tBML0, isL_IL, isL_lst, L2.start, List.map_cons, List.map_nil, List.length_cons, List.length_nil, List.cons_append, List.nil_append, List.getElem?_cons_succ, List.getElem?_cons_zero, Option.some.injEq, exists_eq_left', exists_eq_left, exists_and_left, V.int.injEq, V.ref.injEq, V.bl.injEq, V.str.injEq, List.set_cons_zero, List.set_cons_succ, List.cons.injEq, and_true, true_and, Nat.reduceAdd, Nat.reduceSub, List.replicate_succ, List.replicate_zero, rIxI, rIxH, rIxTH, rSetI, rSetH, rCatI, rRepI, rSlI, rAppendI, rExtendI, decide_eq_true_eq, upd_same, IL_inj, HO.lst.injEq, toInts_cons, toInts_nil, Option.map_some, if_true, if_false, Bool.true_eq_false, Bool.false_eq_true, Bool.not_true, Bool.not_false, Bool.not_eq_true', decide_eq_false_iff_not, atI_0, atI_1, atI_2, atI_3, atI_4, Int.reduceToNat, Int.reduceLT, Int.reduceLE, Int.reduceNeg, Int.reducePow, cast_lit, upd_upd, Int.reduceAdd, Int.reduceMul, Int.reduceSub, Nat.reduceLT, Nat.reduceLeDiff, cmul_r, cdiv_r, tSl, tPart, tNoPart, rEq, rNe, scal_nn, scal_ii, scal_bb, scal_ss, scal_is, scal_si, V.ty.injEq, and_assoc, tyH_non, tyH_bl, tyH_int, tyH_str, tyH_ref, tyO_lst, tyO_IL, tyO_tup, itO_lst, itO_tup, itO_IL, Dw.rIxD, rLenI, rLenH, rLenTH, rLenQ, rLenB, rListI, Dw.rListS, rIntI, rIntB, rSumI, rIsiD, rIsX, tCallS, tMakeS, tMake, tMakeC, tMakeSC, tFld, sFld, HO.ins.injEq, HO.tup.injEq, cxOf_K, nox_K, tr_K, suite_K, rTupleI, rAllB, rAnyB, BL_inj, tChain, wOnly, wAs, wMany, rEqI, rNeI, Dw.rMax2, rMin2, Dw.rIsN, rIsNotN, rStrIn, rStrNotIn, not_true_eq_false, not_false_eq_true, reduceCtorEq, cl_bool, cl_int, cl_str, cl_list, cl_tuple, isB_NoneType_bool, isB_NoneType_int, isB_NoneType_str, isB_NoneType_list, isB_NoneType_tuple, isB_bool_bool, isB_bool_int, isB_bool_str, isB_bool_list, isB_bool_tuple, isB_int_bool, isB_int_int, isB_int_str, isB_int_list, isB_int_tuple, isB_str_bool, isB_str_int, isB_str_str, isB_str_list, isB_str_tuple, isB_list_bool, isB_list_int, isB_list_str, isB_list_list, isB_list_tuple, isB_tuple_bool, isB_tuple_int, isB_tuple_str, isB_tuple_list, isB_tuple_tuple, rSlCI, iRng3, iRev, gCons, gNil, iZip, iEnum, tLc_eq, tFor_eq, iRng1, iRng2, iList, iTup, rSetD, iKeys, tDNewK, Int.reducePow, Int.reduceNeg, iSeqA, Dw.rIxL, Dw.rSetL, rTupT, tPar, tNotT, tMkO, tFmt, tJs, tOst, Dw.rIsXD, L2.tXf]
      exact k _ s1
  · refine .inr ⟨hA, for_tup (xs := ns.map V.int) I (by rw [hI]; exact ⟨.refl _, _, rfl⟩) (fun i σ H' _ h => by rw [hI] at h; exact Dw.Same.seqT h.1 hA) ?_ ?_⟩
    · intro i v σ H' hi h
      rw [hI] at h
      obtain ⟨s1, y, rfl⟩ := h
      obtain ⟨z, rfl, hz⟩ := ints_at hi
      obtain ⟨v, rfl, hv⟩ := bytes_at hb hz
      try simp only [tSeq, tAsg, tVar, tC, tOp, rI0, rI, tUn, rU, tIfS, tTest, tRet, tRetN, tDrop, tCB, tCons, tNil, tLst, tLstI, tTup, gName, tB, tAnd, tOr, tNot, tAndV, tOrV, tNotV, tIf, tNext, tBreak, tCont, gSub, tCall, tCallN, tAug, ipI, tBML, tBML0, isL_IL, isL_lst, L2.start, List.map_cons, List.map_nil, List.length_cons, List.length_nil, List.cons_append, List.nil_append, List.getElem?_cons_succ, List.getElem?_cons_zero, Option.some.injEq, exists_eq_left', exists_eq_left, exists_and_left, V.int.injEq, V.ref.injEq, V.bl.injEq, V.str.injEq, List.set_cons_zero, List.set_cons_succ, List.cons.injEq, and_true, true_and, Nat.reduceAdd, Nat.reduceSub, List.replicate_succ, List.replicate_zero, rIxI, rIxH, rIxTH, rSetI, rSetH, rCatI, rRepI, rSlI, rAppendI, rExtendI, decide_eq_true_eq, upd_same, IL_inj, HO.lst.injEq, toInts_cons, toInts_nil, Option.map_some, if_true, if_false, Bool.true_eq_false, Bool.false_eq_true, Bool.not_true, Bool.not_false, Bool.not_eq_true', decide_eq_false_iff_not, atI_0, atI_1, atI_2, atI_3, atI_4, Int.reduceToNat, Int.reduceLT, Int.reduceLE, Int.reduceNeg, Int.reducePow, cast_lit, upd_upd, Int.reduceAdd, Int.reduceMul, Int.reduceSub, Nat.reduceLT, Nat.reduceLeDiff, cmul_r, cdiv_r, tSl, tPart, tNoPart, rEq, rNe, scal_nn, scal_ii, scal_bb, scal_ss, scal_is, scal_si, V.ty.injEq, and_assoc, tyH_non, tyH_bl, tyH_int, tyH_str, tyH_ref, tyO_lst, tyO_IL, tyO_tup, itO_lst, itO_tup, itO_IL, Dw.rIxD, rLenI, rLenH, rLenTH, rLenQ, rLenB, rListI, Dw.rListS, rIntI, rIntB, rSumI, rIsiD, rIsX, tCallS, tMakeS, tMake, tMakeC, tMakeSC, tFld, sFld, HO.ins.injEq, HO.tup.injEq, cxOf_K, nox_K, tr_K, suite_K, rTupleI, rAllB, rAnyB, BL_inj, tChain, wOnly, wAs, wMany, rEqI, rNeI, Dw.rMax2, rMin2, Dw.rIsN, rIsNotN, rStrIn, rStrNotIn, not_true_eq_false, not_false_eq_true, reduceCtorEq, cl_bool, cl_int, cl_str, cl_list, cl_tuple, isB_NoneType_bool, isB_NoneType_int, isB_NoneType_str, isB_NoneType_list, isB_NoneType_tuple, isB_bool_bool, isB_bool_int, isB_bool_str, isB_bool_list, isB_bool_tuple, isB_int_bool, isB_int_int, isB_int_str, isB_int_list, isB_int_tuple, isB_str_bool, isB_str_int, isB_str_str, isB_str_list, isB_str_tuple, isB_list_bool, isB_list_int, isB_list_str, isB_list_list, isB_list_tuple, isB_tuple_bool, isB_tuple_int, isB_tuple_str, isB_tuple_list, isB_tuple_tuple, rSlCI, iRng3, iRev, gCons, gNil, iZip, iEnum, tLc_eq, tFor_eq, iRng1, iRng2, iList, iTup, rSetD, iKeys, tDNewK, Int.reducePow, Int.reduceNeg, iSeqA, Dw.rIxL, Dw.rSetL, rTupT, tPar, tNotT, tMkO, tFmt, tJs, tOst, Dw.rIsXD, L2.tXf]
      refine ⟨xorG (ns.take i), v, rfl, ?_⟩
      rw [hI]
      exact ⟨s1, _, by rw [xorG_more hz]⟩
    · intro σ H' h
      rw [hI] at h
      obtain ⟨s1, y, rfl⟩ := h
      rw [List.length_map, List.take_length]
      try simp only [tSeq, tAsg, tVar, tC, tOp, rI0, rI, tUn, rU, tIfS, tTest, tRet, tRetN, tDrop, tCB, tCons, tNil, tLst, tLstI, tTup, gName, tB, tAnd, tOr, tNot, tAndV, tOrV, tNotV, tIf, tNext, tBreak, tCont, gSub, tCall, tCallN, tAug, ipI, tBML, tBML0, isL_IL, isL_lst, L2.start, List.map_cons, List.map_nil, List.length_cons, List.length_nil, List.cons_append, List.nil_append, List.getElem?_cons_succ, List.getElem?_cons_zero, Option.some.injEq, exists_eq_left', exists_eq_left, exists_and_left, V.int.injEq, V.ref.injEq, V.bl.injEq, V.str.injEq, List.set_cons_zero, List.set_cons_succ, List.cons.injEq, and_true, true_and, Nat.reduceAdd, Nat.reduceSub, List.replicate_succ, List.replicate_zero, rIxI, rIxH, rIxTH, rSetI, rSetH, rCatI, rRepI, rSlI, rAppendI, rExtendI, decide_eq_true_eq, upd_same, IL_inj, HO.lst.injEq, toInts_cons, toInts_nil, Option.map_some, if_true, if_false, Bool.true_eq_false, Bool.false_eq_true, Bool.not_true, Bool.not_false, Bool.not_eq_true', decide_eq_false_iff_not, atI_0, atI_1, atI_2, atI_3, atI_4, Int.reduceToNat, Int.reduceLT, Int.reduceLE, Int.reduceNeg, Int.reducePow, cast_lit, upd_upd, Int.reduceAdd, Int.reduceMul, Int.reduceSub, Nat.reduceLT, Nat.reduceLeDiff, cmul_r, cdiv_r, tSl, tPart, tNoPart, rEq, rNe, scal_nn, scal_ii, scal_bb, scal_ss, scal_is, scal_si, V.ty.injEq, and_assoc, tyH_non, tyH_bl, tyH_int, tyH_str, tyH_ref, tyO_lst, tyO_IL, tyO_tup, itO_lst, itO_tup, itO_IL, Dw.rIxD, rLenI, rLenH, rLenTH, rLenQ, rLenB, rListI, Dw.rListS, rIntI, rIntB, rSumI, rIsiD, rIsX, tCallS, tMakeS, tMake, tMakeC, tMakeSC, tFld, sFld, HO.ins.injEq, HO.tup.injEq, cxOf_K, nox_K, tr_K, suite_K, rTupleI, rAllB, rAnyB, BL_inj, tChain, wOnly, wAs, wMany, rEqI, rNeI, Dw.rMax2, rMin2, Dw.rIsN, rIsNotN, rStrIn, rStrNotIn, not_true_eq_false, not_false_eq_true, reduceCtorEq, cl_bool, cl_int, cl_str, cl_list, cl_tuple, isB_NoneType_bool, isB_NoneType_int, isB_NoneType_str, isB_NoneType_list, isB_NoneType_tuple, isB_bool_bool, isB_bool_int, isB_bool_str, isB_bool_list, isB_bool_tuple, isB_int_bool, isB_int_int, isB_int_str, isB_int_list, isB_int_tuple, isB_str_bool, isB_str_int, isB_str_str, isB_str_list, isB_str_tuple, isB_list_bool, isB_list_int, isB_list_str, isB_list_list, isB_list_tuple, isB_tuple_bool, isB_tuple_int, isB_tuple_str, isB_tuple_list, isB_tuple_tuple, rSlCI, iRng3, iRev, gCons, gNil, iZip, iEnum, tLc_eq, tFor_eq, iRng1, iRng2, iList, iTup, rSetD, iKeys, tDNewK, Int.reducePow, Int.reduceNeg, iSeqA, Dw.rIxL, Dw.rSetL, rTupT, tPar, tNotT, tMkO, tFmt, tJs, tOst, Dw.rIsXD, L2.tXf]
      exact k _ s1
end
section
variable {P : Program} [SupP P] {w : World} {K : PySem.W.Frag} {mg : Str → Option Value} {base : Heap} {A : Ad}
/-- what check_pairs asks of a sector -/
def okC (n : Nat) (s : GSec) : Bool := (s.1.all fun z => decide (0 ≤ z) && decide (z ≤ 255)) && ((s.2.all fun z => decide (0 ≤ z) && decide (z ≤ 255)) && decide (s.2.length = 16 * 2 ^ n))
theorem okC_of {n : Nat} {s : GSec} (h : OkG n s) : okC n s = true := by
  obtain ⟨_, h1, h2, h3⟩ := h
  have ball : ∀ ns : List Int, Bytes ns → (ns.all fun z => decide (0 ≤ z) && decide (z ≤ 255)) = true := fun ns hb => List.all_eq_true.mpr fun z hz => by
    have := hb z hz
    rw [decide_eq_true (show 0 ≤ z by omega), decide_eq_true (show z ≤ 255 by omega)]
    rfl
  unfold okC
  rw [ball _ h1, ball _ h3, decide_eq_true h2]
  rfl
def spCheckX (K : PySem.W.Frag) (C : Addr) : Sp := fun vs H Q E => ∃ (l : Addr) (xs : List V) (ss : List GSec) (n : Nat), vs = [.ref l, .int n] ∧ n ≤ 9 ∧ SqL K H l xs ∧ AllAt (PairAt H) xs ss ∧ (∀ s ∈ ss, s.1.length ≤ 100 ∧ s.2.length ≤ 10000) ∧ ss.length ≤ 1000 ∧
  ((∀ s ∈ ss, okC n s = true) → ∀ H', Same H H' → Q .non H') ∧ (∀ (i : Nat) (s : GSec), ss[i]? = some s → okC n s = false → (∀ (j : Nat) (s' : GSec), j < i → ss[j]? = some s' → okC n s' = true) → i < 16 ∧ ∀ d H', Same H H' → H d = none → H' d = some (.xd [("index", .int (i : Int))]) → E (.ref C) (some d) H')
theorem ok_check_pairs (T : Tx K mg A) : FnOk P w K mg base (L2N.CX P w) 4 A.f_check_pairs A.d_check_pairs ["sectors", "size"] (spCheckX K A.c_InvalidSector) := by
  refine okN T.F_check_pairs sc_check_pairs (fun vs H Q E h => ?_) (fun cdv A' outer s H vs Q E hr h => ?_)
  · obtain ⟨l, xs, ss, n, rfl, _⟩ := h
    rfl
  obtain ⟨l, xs, ss, n, rfl, hn, hL, hA, hok, hl, k, kE⟩ := h
  refine ⟨_, (pss_one (ps_for (passes_of rfl) rfl (pi_enum (by rfl) T.z_enumerate (pa_cons (pv 0) pa_nil)) (pg_tup (n := 2) rfl (pgs_cons (pg_name (i := 2) sc_check_pairs.nd rfl (Or.inl rfl)) (pgs_cons (pg_tup (n := 2) rfl (pgs_cons (pg_name (i := 3) sc_check_pairs.nd rfl (Or.inl rfl)) (pgs_cons (pg_name (i := 4) sc_check_pairs.nd rfl (Or.inl rfl)) pgs_nil))) pgs_nil)))
        (pss_one (ps_if (PW.pt (pw_or (pt_not (pt_val (pe_call (ok_are_bytes (P := P) T) (hr.mono (by decide)) rfl T.g_are_bytes T.F_are_bytes.kp T.b_are_bytes .nil pass0 (pa_cons (pv 3) pa_nil)))) (pw_or (pt_not (pt_val (pe_call (ok_are_bytes (P := P) T) (hr.mono (by decide)) rfl T.g_are_bytes T.F_are_bytes.kp T.b_are_bytes .nil pass0 (pa_cons (pv 4) pa_nil)))) (pw_or1 (pt_cmpR op_ne (pe_callB call_lenQ (by rfl) T.z_len (by decide +kernel) (pa_cons (pv 4) pa_nil)) (pe_call (ok_data_length (P := P) T) (hr.mono (by decide)) rfl T.g_data_length T.F_data_length.kp T.b_data_length .nil pass0 (pa_cons (pv 1) pa_nil)) (nomark _)))))) (pss_one (L2N.ps_raise rfl (L2N.takes_of rfl rfl rfl rfl) (pmk_oexN (k := 2) T.x_InvalidSector.cls.oex T.x_InvalidSector.ini T.x_InvalidSector.typ (ok_InvalidSectorinit (P := P) T) (hr.mono (by decide)) T.b_InvalidSectorinit .nil pass0 rfl T.x_InvalidSector.g (pa_cons (pv 2) pa_nil)))) pss_nil)))), ?_⟩
  try simp only [tSeq, tAsg, tVar, tC, tOp, rI0, rI, tUn, rU, tIfS, tTest, tRet, tRetN, tDrop, tCB, tCons, tNil, tLst, tLstI, tTup, gName, tB, tAnd, tOr, tNot, tAndV, tOrV, tNotV, tIf, tNext, tBreak, tCont, gSub, tCall, tCallN, tAug, ipI, tBML, tBML0, isL_IL, isL_lst, L2.start, List.map_cons, List.map_nil, List.length_cons, List.length_nil, List.cons_append, List.nil_append, List.getElem?_cons_succ, List.getElem?_cons_zero, Option.some.injEq, exists_eq_left', exists_eq_left, exists_and_left, V.int.injEq, V.ref.injEq, V.bl.injEq, V.str.injEq, List.set_cons_zero, List.set_cons_succ, List.cons.injEq, and_true, true_and, Nat.reduceAdd, Nat.reduceSub, List.replicate_succ, List.replicate_zero, rIxI, rIxH, rIxTH, rSetI, rSetH, rCatI, rRepI, rSlI, rAppendI, rExtendI, decide_eq_true_eq, upd_same, IL_inj, HO.lst.injEq, toInts_cons, toInts_nil, Option.map_some, if_true, if_false, Bool.true_eq_false, Bool.false_eq_true, Bool.not_true, Bool.not_false, Bool.not_eq_true', decide_eq_false_iff_not, atI_0, atI_1, atI_2, atI_3, atI_4, Int.reduceToNat, Int.reduceLT, Int.reduceLE, Int.reduceNeg, Int.reducePow, cast_lit, upd_upd, Int.reduceAdd, Int.reduceMul, Int.reduceSub, Nat.reduceLT, Nat.reduceLeDiff, cmul_r, cdiv_r, tSl, tPart, tNoPart, rEq, rNe, scal_nn, scal_ii, scal_bb, scal_ss, scal_is, scal_si, V.ty.injEq, and_assoc, tyH_non, tyH_bl, tyH_int, tyH_str, tyH_ref, tyO_lst, tyO_IL, tyO_tup, itO_lst, itO_tup, itO_IL, Dw.rIxD, rLenI, rLenH, rLenTH, rLenQ, rLenB, rListI, Dw.rListS, rIntI, rIntB, rSumI, rIsiD, rIsX, tCallS, tMakeS, tMake, tMakeC, tMakeSC, tFld, sFld, HO.ins.injEq, HO.tup.injEq, cxOf_K, nox_K, tr_K, suite_K, rTupleI, rAllB, rAnyB, BL_inj, tChain, wOnly, wAs, wMany, rEqI, rNeI, Dw.rMax2, rMin2, Dw.rIsN, rIsNotN, rStrIn, rStrNotIn, not_true_eq_false, not_false_eq_true, reduceCtorEq, cl_bool, cl_int, cl_str, cl_list, cl_tuple, isB_NoneType_bool, isB_NoneType_int, isB_NoneType_str, isB_NoneType_list, isB_NoneType_tuple, isB_bool_bool, isB_bool_int, isB_bool_str, isB_bool_list, isB_bool_tuple, isB_int_bool, isB_int_int, isB_int_str, isB_int_list, isB_int_tuple, isB_str_bool, isB_str_int, isB_str_str, isB_str_list, isB_str_tuple, isB_list_bool, isB_list_int, isB_list_str, isB_list_list, isB_list_tuple, isB_tuple_bool, isB_tuple_int, isB_tuple_str, isB_tuple_list, isB_tuple_tuple, rSlCI, iRng3, iRev, gCons, gNil, iZip, iEnum, tLc_eq, tFor_eq, iRng1, iRng2, iList, iTup, rSetD, iKeys, tDNewK, Int.reducePow, Int.reduceNeg, iSeqA, Dw.rIxL, Dw.rSetL, rTupT, tPar, tNotT, tMkO, tFmt, tJs, tOst, Dw.rIsXD, L2.tXf]
  refine ⟨xs, hL, ?_⟩
  obtain ⟨I, hI⟩ : ∃ F : Nat → L2.St → Hp → Prop, F = (fun i σ H' => Same H H' ∧ (∀ (j : Nat) (s' : GSec), j < i → ss[j]? = some s' → okC n s' = true) ∧ ∃ y1 y2 y3, σ = [some (V.ref l), some (V.int n), y1, y2, y3]) := ⟨_, rfl⟩
  refine for_it (walk_enum (K := K) (a := l) (xs := xs)) I (by rw [hI]; exact ⟨.refl _, fun j s' hj => absurd hj (Nat.not_lt_zero _), _, _, _, rfl⟩) (fun i σ H' _ h => by rw [hI] at h; exact h.1.seq hL) ?_ ?_
  · intro i v σ H2 H3 hi h hy
    rw [hI] at h
    obtain ⟨s1, hgo, y1, y2, y3, rfl⟩ := h
    obtain ⟨t, x, y, rfl, nt, rfl, ex, ey⟩ := hy
    cases ex
    have s2 := s1.trans (same_new nt (.tup [V.int (i : Int), y]))
    obtain ⟨sc, hs, hA1⟩ := hA.2 i y ey
    obtain ⟨tt, p, q, rfl, h1, h2, h3⟩ := hA1.same s2
    obtain ⟨hsl1, hsl2⟩ := hok _ (List.mem_of_getElem? hs)
    have h2n : (2 : Nat) ^ n ≤ 512 := Nat.pow_le_pow_right (n := 2) (by decide) hn
    refine ⟨t, _, rfl, .of upd_same, rfl, ?_⟩
    try simp only [tSeq, tAsg, tVar, tC, tOp, rI0, rI, tUn, rU, tIfS, tTest, tRet, tRetN, tDrop, tCB, tCons, tNil, tLst, tLstI, tTup, gName, tB, tAnd, tOr, tNot, tAndV, tOrV, tNotV, tIf, tNext, tBreak, tCont, gSub, tCall, tCallN, tAug, ipI, tBML, tBML0, isL_IL, isL_lst, L2.start, List.map_cons, List.map_nil, List.length_cons, List.length_nil, List.cons_append, List.nil_append, List.getElem?_cons_succ, List.getElem?_cons_zero, Option.some.injEq, exists_eq_left', exists_eq_left, exists_and_left, V.int.injEq, V.ref.injEq, V.bl.injEq, V.str.injEq, List.set_cons_zero, List.set_cons_succ, List.cons.injEq, and_true, true_and, Nat.reduceAdd, Nat.reduceSub, List.replicate_succ, List.replicate_zero, rIxI, rIxH, rIxTH, rSetI, rSetH, rCatI, rRepI, rSlI, rAppendI, rExtendI, decide_eq_true_eq, upd_same, IL_inj, HO.lst.injEq, toInts_cons, toInts_nil, Option.map_some, if_true, if_false, Bool.true_eq_false, Bool.false_eq_true, Bool.not_true, Bool.not_false, Bool.not_eq_true', decide_eq_false_iff_not, atI_0, atI_1, atI_2, atI_3, atI_4, Int.reduceToNat, Int.reduceLT, Int.reduceLE, Int.reduceNeg, Int.reducePow, cast_lit, upd_upd, Int.reduceAdd, Int.reduceMul, Int.reduceSub, Nat.reduceLT, Nat.reduceLeDiff, cmul_r, cdiv_r, tSl, tPart, tNoPart, rEq, rNe, scal_nn, scal_ii, scal_bb, scal_ss, scal_is, scal_si, V.ty.injEq, and_assoc, tyH_non, tyH_bl, tyH_int, tyH_str, tyH_ref, tyO_lst, tyO_IL, tyO_tup, itO_lst, itO_tup, itO_IL, Dw.rIxD, rLenI, rLenH, rLenTH, rLenQ, rLenB, rListI, Dw.rListS, rIntI, rIntB, rSumI, rIsiD, rIsX, tCallS, tMakeS, tMake, tMakeC, tMakeSC, tFld, sFld, HO.ins.injEq, HO.tup.injEq, cxOf_K, nox_K, tr_K, suite_K, rTupleI, rAllB, rAnyB, BL_inj, tChain, wOnly, wAs, wMany, rEqI, rNeI, Dw.rMax2, rMin2, Dw.rIsN, rIsNotN, rStrIn, rStrNotIn, not_true_eq_false, not_false_eq_true, reduceCtorEq, cl_bool, cl_int, cl_str, cl_list, cl_tuple, isB_NoneType_bool, isB_NoneType_int, isB_NoneType_str, isB_NoneType_list, isB_NoneType_tuple, isB_bool_bool, isB_bool_int, isB_bool_str, isB_bool_list, isB_bool_tuple, isB_int_bool, isB_int_int, isB_int_str, isB_int_list, isB_int_tuple, isB_str_bool, isB_str_int, isB_str_str, isB_str_list, isB_str_tuple, isB_list_bool, isB_list_int, isB_list_str, isB_list_list, isB_list_tuple, isB_tuple_bool, isB_tuple_int, isB_tuple_str, isB_tuple_list, isB_tuple_tuple, rSlCI, iRng3, iRev, gCons, gNil, iZip, iEnum, tLc_eq, tFor_eq, iRng1, iRng2, iList, iTup, rSetD, iKeys, tDNewK, Int.reducePow, Int.reduceNeg, iSeqA, Dw.rIxL, Dw.rSetL, rTupT, tPar, tNotT, tMkO, tFmt, tJs, tOst, Dw.rIsXD, L2.tXf]
    refine ⟨tt, _, rfl, .of h1, rfl, ?_⟩
    try simp only [tSeq, tAsg, tVar, tC, tOp, rI0, rI, tUn, rU, tIfS, tTest, tRet, tRetN, tDrop, tCB, tCons, tNil, tLst, tLstI, tTup, gName, tB, tAnd, tOr, tNot, tAndV, tOrV, tNotV, tIf, tNext, tBreak, tCont, gSub, tCall, tCallN, tAug, ipI, tBML, tBML0, isL_IL, isL_lst, L2.start, List.map_cons, List.map_nil, List.length_cons, List.length_nil, List.cons_append, List.nil_append, List.getElem?_cons_succ, List.getElem?_cons_zero, Option.some.injEq, exists_eq_left', exists_eq_left, exists_and_left, V.int.injEq, V.ref.injEq, V.bl.injEq, V.str.injEq, List.set_cons_zero, List.set_cons_succ, List.cons.injEq, and_true, true_and, Nat.reduceAdd, Nat.reduceSub, List.replicate_succ, List.replicate_zero, rIxI, rIxH, rIxTH, rSetI, rSetH, rCatI, rRepI, rSlI, rAppendI, rExtendI, decide_eq_true_eq, upd_same, IL_inj, HO.lst.injEq, toInts_cons, toInts_nil, Option.map_some, if_true, if_false, Bool.true_eq_false, Bool.false_eq_true, Bool.not_true, Bool.not_false, Bool.not_eq_true', decide_eq_false_iff_not, atI_0, atI_1, atI_2, atI_3, atI_4, Int.reduceToNat, Int.reduceLT, Int.reduceLE, Int.reduceNeg, Int.reducePow, cast_lit, upd_upd, Int.reduceAdd, Int.reduceMul, Int.reduceSub, Nat.reduceLT, Nat.reduceLeDiff, cmul_r, cdiv_r, tSl, tPart, tNoPart, rEq, rNe, scal_nn, scal_ii, scal_bb, scal_ss, scal_is, scal_si, V.ty.injEq, and_assoc, tyH_non, tyH_bl, tyH_int, tyH_str, tyH_ref, tyO_lst, tyO_IL, tyO_tup, itO_lst, itO_tup, itO_IL, Dw.rIxD, rLenI, rLenH, rLenTH, rLenQ, rLenB, rListI, Dw.rListS, rIntI, rIntB, rSumI, rIsiD, rIsX, tCallS, tMakeS, tMake, tMakeC, tMakeSC, tFld, sFld, HO.ins.injEq, HO.tup.injEq, cxOf_K, nox_K, tr_K, suite_K, rTupleI, rAllB, rAnyB, BL_inj, tChain, wOnly, wAs, wMany, rEqI, rNeI, Dw.rMax2, rMin2, Dw.rIsN, rIsNotN, rStrIn, rStrNotIn, not_true_eq_false, not_false_eq_true, reduceCtorEq, cl_bool, cl_int, cl_str, cl_list, cl_tuple, isB_NoneType_bool, isB_NoneType_int, isB_NoneType_str, isB_NoneType_list, isB_NoneType_tuple, isB_bool_bool, isB_bool_int, isB_bool_str, isB_bool_list, isB_bool_tuple, isB_int_bool, isB_int_int, isB_int_str, isB_int_list, isB_int_tuple, isB_str_bool, isB_str_int, isB_str_str, isB_str_list, isB_str_tuple, isB_list_bool, isB_list_int, isB_list_str, isB_list_list, isB_list_tuple, isB_tuple_bool, isB_tuple_int, isB_tuple_str, isB_tuple_list, isB_tuple_tuple, rSlCI, iRng3, iRev, gCons, gNil, iZip, iEnum, tLc_eq, tFor_eq, iRng1, iRng2, iList, iTup, rSetD, iKeys, tDNewK, Int.reducePow, Int.reduceNeg, iSeqA, Dw.rIxL, Dw.rSetL, rTupT, tPar, tNotT, tMkO, tFmt, tJs, tOst, Dw.rIsXD, L2.tXf]
    have hraise : ∀ (HX : Hp), Same H HX → okC n sc = false → ∀ a, HX a = none → spSecI A.c_InvalidSector [V.ref a, V.int (i : Int)] (upd HX a (exo a A.c_InvalidSector none)) (fun v H2 => v = V.non ∧ ∃ d, H2 a = some (exo a A.c_InvalidSector (some d)) ∧ ∃ x, H2 d = some (exd d x) ∧ HX d = none ∧ E (Value.ref A.c_InvalidSector) (some d) (upd (del H2 a) d (HO.xd x))) (fun _ _ _ => False) := fun HX sX hbad a na => by
      obtain ⟨hi16, kE'⟩ := kE i sc hs hbad hgo
      refine ⟨a, i, rfl, upd_same, hi16, fun dx hdx hne => ?_⟩
      rw [upd_ne hne] at hdx
      refine ⟨rfl, dx, upd_same, _, by rw [upd_ne hne]; exact upd_same, hdx, ?_⟩
      refine kE' dx _ (fun b o hb => ?_) (same_none sX hdx) upd_same
      have hx := sX b o hb
      have n1 := ne_of_none hx na
      have n2 := ne_of_none hx hdx
      rw [upd_ne n2, del_ne n1, upd_ne n1, upd_ne n2, upd_ne n1]
      exact hx
    refine ⟨p, _, rfl, .inr (.of h2), by omega, fun H4 s4 => ⟨_, rfl, ?_⟩⟩
    by_cases b1 : (sc.1.all fun z => decide (0 ≤ z) && decide (z ≤ 255)) = false
    · exact if_yes b1 (hraise H4 (s2.trans s4) (by unfold okC; rw [b1, Bool.false_and]))
    refine if_no b1 ⟨q, _, rfl, .inl (.of (s4 _ _ h3)), by omega, fun H5 s5 => ⟨_, rfl, ?_⟩⟩
    by_cases b2 : (sc.2.all fun z => decide (0 ≤ z) && decide (z ≤ 255)) = false
    · exact if_yes b2 (hraise H5 (s2.trans (s4.trans s5)) (by unfold okC; rw [b2, Bool.false_and, Bool.and_false]))
    refine if_no b2 ⟨sc.2.map V.int, by rw [s5 _ _ (s4 _ _ h3)]; rfl, n, rfl, by omega, by omega, rfl, ?_⟩
    rw [Int.toNat_natCast, List.length_map]
    have hcast : (16 : Int) * 2 ^ n = ((16 * 2 ^ n : Nat) : Int) := by
      push_cast
      rfl
    rw [hcast]
    by_cases b3 : sc.2.length = 16 * 2 ^ n
    · refine if_no (fun q => q (by rw [b3])) ?_
      rw [hI]
      refine ⟨s2.trans (s4.trans s5), fun j s' hj hs' => ?_, _, _, _, rfl⟩
      by_cases e : j = i
      · subst e
        rw [hs] at hs'
        cases hs'
        unfold okC
        rw [decide_eq_true b3, Bool.not_eq_false _ |>.mp b1, Bool.not_eq_false _ |>.mp b2]
        rfl
      · exact hgo j s' (by omega) hs'
    · refine if_yes (fun q => b3 (by injection q with q; exact Int.ofNat.inj q)) (hraise H5 (s2.trans (s4.trans s5)) ?_)
      unfold okC
      rw [decide_eq_false b3, Bool.and_false, Bool.and_false]
  · intro σ H' h
    rw [hI] at h
    obtain ⟨s1, hgo, y1, y2, y3, rfl⟩ := h
    refine k (fun s' hs' => ?_) _ s1
    obtain ⟨j, hj, e⟩ := List.mem_iff_getElem.mp hs'
    exact hgo j s' (by rw [hA.1]; exact hj) (by rw [List.getElem?_eq_getElem hj, e])
def spGapG : Sp := fun vs H Q _ => vs = [] ∧ ∀ r H', Same H H' → H r = none → H' r = some (IL gapG) → Q (.ref r) H'
theorem ok_gap_cells (T : Tx K mg A) : FnOk P w K mg base CX0 1 A.f_gap_cells A.d_gap_cells [] spGapG := by
  refine T.F_gap_cells.ok sc_gap_cells (fun vs H Q E h => ?_) (fun cdv A' outer s H vs Q E hr h => ?_)
  · obtain ⟨rfl, _⟩ := h
    rfl
  obtain ⟨rfl, k⟩ := h
  refine ⟨_, (pss_one (ps_ret (pe_op op_repI (pe_lstI (pa_cons pe_int (pa_cons pe_int (pa_cons pe_int (pa_cons pe_int (pa_cons pe_int (pa_cons pe_int (pa_cons pe_int (pa_cons pe_int pa_nil))))))))) (pe_glob rfl T.c_GAP_BYTES T.r_GAP_BYTES)))), ?_⟩
  try simp only [tSeq, tAsg, tVar, tC, tOp, rI0, rI, tUn, rU, tIfS, tTest, tRet, tRetN, tDrop, tCB, tCons, tNil, tLst, tLstI, tTup, gName, tB, tAnd, tOr, tNot, tAndV, tOrV, tNotV, tIf, tNext, tBreak, tCont, gSub, tCall, tCallN, tAug, ipI, tBML, tBML0, isL_IL, isL_lst, L2.start, List.map_cons, List.map_nil, List.length_cons, List.length_nil, List.cons_append, List.nil_append, List.getElem?_cons_succ, List.getElem?_cons_zero, Option.some.injEq, exists_eq_left', exists_eq_left, exists_and_left, V.int.injEq, V.ref.injEq, V.bl.injEq, V.str.injEq, List.set_cons_zero, List.set_cons_succ, List.cons.injEq, and_true, true_and, Nat.reduceAdd, Nat.reduceSub, List.replicate_succ, List.replicate_zero, rIxI, rIxH, rIxTH, rSetI, rSetH, rCatI, rRepI, rSlI, rAppendI, rExtendI, decide_eq_true_eq, upd_same, IL_inj, HO.lst.injEq, toInts_cons, toInts_nil, Option.map_some, if_true, if_false, Bool.true_eq_false, Bool.false_eq_true, Bool.not_true, Bool.not_false, Bool.not_eq_true', decide_eq_false_iff_not, atI_0, atI_1, atI_2, atI_3, atI_4, Int.reduceToNat, Int.reduceLT, Int.reduceLE, Int.reduceNeg, Int.reducePow, cast_lit, upd_upd, Int.reduceAdd, Int.reduceMul, Int.reduceSub, Nat.reduceLT, Nat.reduceLeDiff, cmul_r, cdiv_r, tSl, tPart, tNoPart, rEq, rNe, scal_nn, scal_ii, scal_bb, scal_ss, scal_is, scal_si, V.ty.injEq, and_assoc, tyH_non, tyH_bl, tyH_int, tyH_str, tyH_ref, tyO_lst, tyO_IL, tyO_tup, itO_lst, itO_tup, itO_IL, Dw.rIxD, rLenI, rLenH, rLenTH, rLenQ, rLenB, rListI, Dw.rListS, rIntI, rIntB, rSumI, rIsiD, rIsX, tCallS, tMakeS, tMake, tMakeC, tMakeSC, tFld, sFld, HO.ins.injEq, HO.tup.injEq, cxOf_K, nox_K, tr_K, suite_K, rTupleI, rAllB, rAnyB, BL_inj, tChain, wOnly, wAs, wMany, rEqI, rNeI, Dw.rMax2, rMin2, Dw.rIsN, rIsNotN, rStrIn, rStrNotIn, not_true_eq_false, not_false_eq_true, reduceCtorEq, cl_bool, cl_int, cl_str, cl_list, cl_tuple, isB_NoneType_bool, isB_NoneType_int, isB_NoneType_str, isB_NoneType_list, isB_NoneType_tuple, isB_bool_bool, isB_bool_int, isB_bool_str, isB_bool_list, isB_bool_tuple, isB_int_bool, isB_int_int, isB_int_str, isB_int_list, isB_int_tuple, isB_str_bool, isB_str_int, isB_str_str, isB_str_list, isB_str_tuple, isB_list_bool, isB_list_int, isB_list_str, isB_list_list, isB_list_tuple, isB_tuple_bool, isB_tuple_int, isB_tuple_str, isB_tuple_list, isB_tuple_tuple, rSlCI, iRng3, iRev, gCons, gNil, iZip, iEnum, tLc_eq, tFor_eq, iRng1, iRng2, iList, iTup, rSetD, iKeys, tDNewK, Int.reducePow, Int.reduceNeg, iSeqA, Dw.rIxL, Dw.rSetL, rTupT, tPar, tNotT, tMkO, tFmt, tJs, tOst, Dw.rIsXD, L2.tXf]
  refine ⟨line_le (by decide), fun u1 hu1 => ⟨line_le (by decide), fun u2 hu2 => ?_⟩⟩
  exact k u2 _ ((same_new hu1 _).trans (same_new hu2 _)) (same_none (same_new hu1 _) hu2) upd_same
def spFldG : Sp := fun vs H Q _ => ∃ (a : Addr) (ns : List Int), vs = [.ref a] ∧ H a = some (IL ns) ∧ Bytes ns ∧ ns.length ≤ 10000 ∧ ∀ r H', Same H H' → H r = none → H' r = some (IL (fldG ns)) → Q (.ref r) H'
theorem ok_field_cells (T : Tx K mg A) : FnOk P w K mg base CX0 4 A.f_field_cells A.d_field_cells ["values"] spFldG := by
  refine T.F_field_cells.ok sc_field_cells (fun vs H Q E h => ?_) (fun cdv A' outer s H vs Q E hr h => ?_)
  · obtain ⟨a, ns, rfl, _⟩ := h
    rfl
  obtain ⟨a, ns, rfl, hA, hb, hl, k⟩ := h
  refine ⟨_, (pss_one (ps_ret (pe_op op_catI (pe_op op_catI (pe_op op_repI (pe_lstI (pa_cons pe_int pa_nil)) (pe_glob rfl T.c_SYNC_CELLS T.r_SYNC_CELLS)) (pe_call (ok_gcr_cells (P := P) T) (hr.mono (by decide)) rfl T.g_gcr_cells T.F_gcr_cells.kp T.b_gcr_cells .nil pass0 (pa_cons (pv 0) pa_nil))) (pe_call0 (ok_gap_cells (P := P) T) (hr.mono (by decide)) rfl T.g_gap_cells T.F_gap_cells.kp T.b_gap_cells .nil pass0)))), ?_⟩
  try simp only [tSeq, tAsg, tVar, tC, tOp, rI0, rI, tUn, rU, tIfS, tTest, tRet, tRetN, tDrop, tCB, tCons, tNil, tLst, tLstI, tTup, gName, tB, tAnd, tOr, tNot, tAndV, tOrV, tNotV, tIf, tNext, tBreak, tCont, gSub, tCall, tCallN, tAug, ipI, tBML, tBML0, isL_IL, isL_lst, L2.start, List.map_cons, List.map_nil, List.length_cons, List.length_nil, List.cons_append, List.nil_append, List.getElem?_cons_succ, List.getElem?_cons_zero, Option.some.injEq, exists_eq_left', exists_eq_left, exists_and_left, V.int.injEq, V.ref.injEq, V.bl.injEq, V.str.injEq, List.set_cons_zero, List.set_cons_succ, List.cons.injEq, and_true, true_and, Nat.reduceAdd, Nat.reduceSub, List.replicate_succ, List.replicate_zero, rIxI, rIxH, rIxTH, rSetI, rSetH, rCatI, rRepI, rSlI, rAppendI, rExtendI, decide_eq_true_eq, upd_same, IL_inj, HO.lst.injEq, toInts_cons, toInts_nil, Option.map_some, if_true, if_false, Bool.true_eq_false, Bool.false_eq_true, Bool.not_true, Bool.not_false, Bool.not_eq_true', decide_eq_false_iff_not, atI_0, atI_1, atI_2, atI_3, atI_4, Int.reduceToNat, Int.reduceLT, Int.reduceLE, Int.reduceNeg, Int.reducePow, cast_lit, upd_upd, Int.reduceAdd, Int.reduceMul, Int.reduceSub, Nat.reduceLT, Nat.reduceLeDiff, cmul_r, cdiv_r, tSl, tPart, tNoPart, rEq, rNe, scal_nn, scal_ii, scal_bb, scal_ss, scal_is, scal_si, V.ty.injEq, and_assoc, tyH_non, tyH_bl, tyH_int, tyH_str, tyH_ref, tyO_lst, tyO_IL, tyO_tup, itO_lst, itO_tup, itO_IL, Dw.rIxD, rLenI, rLenH, rLenTH, rLenQ, rLenB, rListI, Dw.rListS, rIntI, rIntB, rSumI, rIsiD, rIsX, tCallS, tMakeS, tMake, tMakeC, tMakeSC, tFld, sFld, HO.ins.injEq, HO.tup.injEq, cxOf_K, nox_K, tr_K, suite_K, rTupleI, rAllB, rAnyB, BL_inj, tChain, wOnly, wAs, wMany, rEqI, rNeI, Dw.rMax2, rMin2, Dw.rIsN, rIsNotN, rStrIn, rStrNotIn, not_true_eq_false, not_false_eq_true, reduceCtorEq, cl_bool, cl_int, cl_str, cl_list, cl_tuple, isB_NoneType_bool, isB_NoneType_int, isB_NoneType_str, isB_NoneType_list, isB_NoneType_tuple, isB_bool_bool, isB_bool_int, isB_bool_str, isB_bool_list, isB_bool_tuple, isB_int_bool, isB_int_int, isB_int_str, isB_int_list, isB_int_tuple, isB_str_bool, isB_str_int, isB_str_str, isB_str_list, isB_str_tuple, isB_list_bool, isB_list_int, isB_list_str, isB_list_list, isB_list_tuple, isB_tuple_bool, isB_tuple_int, isB_tuple_str, isB_tuple_list, isB_tuple_tuple, rSlCI, iRng3, iRev, gCons, gNil, iZip, iEnum, tLc_eq, tFor_eq, iRng1, iRng2, iList, iTup, rSetD, iKeys, tDNewK, Int.reducePow, Int.reduceNeg, iSeqA, Dw.rIxL, Dw.rSetL, rTupT, tPar, tNotT, tMkO, tFmt, tJs, tOst, Dw.rIsXD, L2.tXf]
  refine ⟨line_le (by decide), fun u1 hu1 => ⟨line_le (by decide), fun u2 hu2 => ?_⟩⟩
  have s2 := (same_new hu1 (IL [1])).trans (same_new hu2 (IL (rep 20 [1])))
  have e2 : upd (upd H u1 (IL [1])) u2 (IL (rep 20 [1])) u2 = some (IL (List.replicate 20 1)) := upd_same
  generalize upd (upd H u1 (IL [1])) u2 (IL (rep 20 [1])) = H2 at s2 e2 ⊢
  refine ⟨a, ns, rfl, s2 _ _ hA, hb, by omega, fun g H3 s3 n3 e3 => ?_⟩
  have hgl := gcrZ_len ns hb
  refine ⟨g, rfl, _, s3 _ _ e2, _, e3, line_le (by rw [List.length_replicate, hgl]; omega), fun u4 hu4 => ?_⟩
  have s4 := same_new hu4 (IL (List.replicate 20 1 ++ gcrZ ns))
  have e4 : upd H3 u4 (IL (List.replicate 20 1 ++ gcrZ ns)) u4 = some (IL (List.replicate 20 1 ++ gcrZ ns)) := upd_same
  generalize upd H3 u4 (IL (List.replicate 20 1 ++ gcrZ ns)) = H4 at s4 e4 ⊢
  refine ⟨rfl, fun g5 H5 s5 n5 e5 => ⟨g5, rfl, _, s5 _ _ e4, _, e5, line_le (by rw [List.length_append, List.length_replicate, hgl, gapG_len]; omega), fun u6 hu6 => ?_⟩⟩
  have s15 := s2.trans (s3.trans (s4.trans s5))
  exact k u6 _ (s15.trans (same_new hu6 _)) (same_none s15 hu6) upd_same
def spGroupX (K : PySem.W.Frag) (C : Addr) : Sp := fun vs H Q E => ∃ (l : Addr) (xs : List V) (ss : List GSec) (n : Nat), vs = [.ref l, .int n] ∧ n ≤ 9 ∧ SqL K H l xs ∧ AllAt (PairAt H) xs ss ∧ (∀ s ∈ ss, s.1.length ≤ 100 ∧ s.2.length ≤ 10000) ∧ ss.length ≤ 40 ∧ (((∀ s ∈ ss, OkG n s) ∧ ∀ r H', Same H H' → H r = none → H' r = some (IL (groupZ ss)) → Q (.ref r) H') ∨ ∃ (i : Nat) (s : GSec), ss[i]? = some s ∧ okC n s = false ∧ (∀ (j : Nat) (s' : GSec), j < i → ss[j]? = some s' → okC n s' = true) ∧ i < 16 ∧ ∀ d H', Same H H' → H d = none → H' d = some (.xd [("index", .int (i : Int))]) → E (.ref C) (some d) H')
theorem ok_group_cells (T : Tx K mg A) : FnOk P w K mg base (L2N.CX P w) 5 A.f_group_cells A.d_group_cells ["sectors", "size"] (spGroupX K A.c_InvalidSector) := by
  refine okN T.F_group_cells sc_group_cells (fun vs H Q E h => ?_) (fun cdv A' outer s H vs Q E hr h => ?_)
  · obtain ⟨l, xs, ss, n, rfl, _⟩ := h
    rfl
  obtain ⟨l, xs, ss, n, rfl, hn, hL, hA, hlen, hl, hway⟩ := h
  refine ⟨_, (pss_cons (ps_expr (pe_call (ok_check_pairs (P := P) T) (hr.mono (by decide)) rfl T.g_check_pairs T.F_check_pairs.kp T.b_check_pairs .nil (L2N.passes_call (L2N.takes_of rfl rfl rfl rfl) (fun _ _ _ _ h => h)) (pa_cons (pv 0) (pa_cons (pv 1) pa_nil))))
      (pss_cons (ps_set (i := 2) sc_group_cells.nd rfl (Or.inl rfl) (pe_call0 (ok_gap_cells (P := P) T) (hr.mono (by decide)) rfl T.g_gap_cells T.F_gap_cells.kp T.b_gap_cells .nil pass0))
      (pss_cons (ps_for (passes_of rfl) rfl (pi_list (pv 0)) (pg_tup (n := 2) rfl (pgs_cons (pg_name (i := 3) sc_group_cells.nd rfl (Or.inl rfl)) (pgs_cons (pg_name (i := 4) sc_group_cells.nd rfl (Or.inl rfl)) pgs_nil)))
        (pss_cons (ps_asg (pv 3) (pg_tup (n := 4) rfl (pgs_cons (pg_name (i := 5) sc_group_cells.nd rfl (Or.inl rfl)) (pgs_cons (pg_name (i := 6) sc_group_cells.nd rfl (Or.inl rfl)) (pgs_cons (pg_name (i := 7) sc_group_cells.nd rfl (Or.inl rfl)) (pgs_cons (pg_name (i := 8) sc_group_cells.nd rfl (Or.inl rfl)) pgs_nil))))))
      (pss_cons (ps_expr (PE.imp (pe_bm PySem.F.plainAttrs_list PySem.F.slot_list_extend PySem.F.type_list_extend mt_extendI (pv 2) (pa_cons (pe_call (ok_field_cells (P := P) T) (hr.mono (by decide)) rfl T.g_field_cells T.F_field_cells.kp T.b_field_cells .nil pass0 (pa_cons (pe_lstI (pa_cons (pe_glob rfl T.c_ADDRESS_BYTE T.r_ADDRESS_BYTE) (pa_cons (pe_call (ok_exclusive_of (P := P) T) (hr.mono (by decide)) rfl T.g_exclusive_of T.F_exclusive_of.kp T.b_exclusive_of .nil pass0 (pa_cons (pv 3) pa_nil)) (pa_cons (pv 6) (pa_cons (pv 5) (pa_cons (pv 8) (pa_cons (pv 7) (pa_cons pe_int (pa_cons pe_int pa_nil))))))))) pa_nil)) pa_nil)) bml_imp))
      (pss_one (ps_expr (PE.imp (pe_bm PySem.F.plainAttrs_list PySem.F.slot_list_extend PySem.F.type_list_extend mt_extendI (pv 2) (pa_cons (pe_call (ok_field_cells (P := P) T) (hr.mono (by decide)) rfl T.g_field_cells T.F_field_cells.kp T.b_field_cells .nil pass0 (pa_cons (pe_op op_catI (pe_op op_catI (pe_lstI (pa_cons (pe_glob rfl T.c_DATA_BYTE T.r_DATA_BYTE) pa_nil)) (pe_callTy call_listI (by rfl) T.z_list (by decide +kernel) (pa_cons (pv 4) pa_nil))) (pe_lstI (pa_cons (pe_call (ok_exclusive_of (P := P) T) (hr.mono (by decide)) rfl T.g_exclusive_of T.F_exclusive_of.kp T.b_exclusive_of .nil pass0 (pa_cons (pv 4) pa_nil)) (pa_cons pe_int (pa_cons pe_int pa_nil))))) pa_nil)) pa_nil)) bml_imp))))))
      (pss_one (ps_ret (pv 2)))))), ?_⟩
  try simp only [tSeq, tAsg, tVar, tC, tOp, rI0, rI, tUn, rU, tIfS, tTest, tRet, tRetN, tDrop, tCB, tCons, tNil, tLst, tLstI, tTup, gName, tB, tAnd, tOr, tNot, tAndV, tOrV, tNotV, tIf, tNext, tBreak, tCont, gSub, tCall, tCallN, tAug, ipI, tBML, tBML0, isL_IL, isL_lst, L2.start, List.map_cons, List.map_nil, List.length_cons, List.length_nil, List.cons_append, List.nil_append, List.getElem?_cons_succ, List.getElem?_cons_zero, Option.some.injEq, exists_eq_left', exists_eq_left, exists_and_left, V.int.injEq, V.ref.injEq, V.bl.injEq, V.str.injEq, List.set_cons_zero, List.set_cons_succ, List.cons.injEq, and_true, true_and, Nat.reduceAdd, Nat.reduceSub, List.replicate_succ, List.replicate_zero, rIxI, rIxH, rIxTH, rSetI, rSetH, rCatI, rRepI, rSlI, rAppendI, rExtendI, decide_eq_true_eq, upd_same, IL_inj, HO.lst.injEq, toInts_cons, toInts_nil, Option.map_some, if_true, if_false, Bool.true_eq_false, Bool.false_eq_true, Bool.not_true, Bool.not_false, Bool.not_eq_true', decide_eq_false_iff_not, atI_0, atI_1, atI_2, atI_3, atI_4, Int.reduceToNat, Int.reduceLT, Int.reduceLE, Int.reduceNeg, Int.reducePow, cast_lit, upd_upd, Int.reduceAdd, Int.reduceMul, Int.reduceSub, Nat.reduceLT, Nat.reduceLeDiff, cmul_r, cdiv_r, tSl, tPart, tNoPart, rEq, rNe, scal_nn, scal_ii, scal_bb, scal_ss, scal_is, scal_si, V.ty.injEq, and_assoc, tyH_non, tyH_bl, tyH_int, tyH_str, tyH_ref, tyO_lst, tyO_IL, tyO_tup, itO_lst, itO_tup, itO_IL, Dw.rIxD, rLenI, rLenH, rLenTH, rLenQ, rLenB, rListI, Dw.rListS, rIntI, rIntB, rSumI, rIsiD, rIsX, tCallS, tMakeS, tMake, tMakeC, tMakeSC, tFld, sFld, HO.ins.injEq, HO.tup.injEq, cxOf_K, nox_K, tr_K, suite_K, rTupleI, rAllB, rAnyB, BL_inj, tChain, wOnly, wAs, wMany, rEqI, rNeI, Dw.rMax2, rMin2, Dw.rIsN, rIsNotN, rStrIn, rStrNotIn, not_true_eq_false, not_false_eq_true, reduceCtorEq, cl_bool, cl_int, cl_str, cl_list, cl_tuple, isB_NoneType_bool, isB_NoneType_int, isB_NoneType_str, isB_NoneType_list, isB_NoneType_tuple, isB_bool_bool, isB_bool_int, isB_bool_str, isB_bool_list, isB_bool_tuple, isB_int_bool, isB_int_int, isB_int_str, isB_int_list, isB_int_tuple, isB_str_bool, isB_str_int, isB_str_str, isB_str_list, isB_str_tuple, isB_list_bool, isB_list_int, isB_list_str, isB_list_list, isB_list_tuple, isB_tuple_bool, isB_tuple_int, isB_tuple_str, isB_tuple_list, isB_tuple_tuple, rSlCI, iRng3, iRev, gCons, gNil, iZip, iEnum, tLc_eq, tFor_eq, iRng1, iRng2, iList, iTup, rSetD, iKeys, tDNewK, Int.reducePow, Int.reduceNeg, iSeqA, Dw.rIxL, Dw.rSetL, rTupT, tPar, tNotT, tMkO, tFmt, tJs, tOst, Dw.rIsXD, L2.tXf]
  rcases hway with ⟨hok, k⟩ | ⟨i0, s0, hs0, hb0, hg0, hi0, kE⟩
  case inr =>
    refine ⟨l, xs, ss, n, rfl, hn, hL, hA, hlen, by omega, fun hall => ?_, fun i s hs hb hg => ?_⟩
    · rw [hall s0 (List.mem_of_getElem? hs0)] at hb0
      cases hb0
    · have hii : i = i0 := by
        rcases Nat.lt_trichotomy i i0 with q | q | q
        · rw [hg0 i s q hs] at hb
          cases hb
        · exact q
        · rw [hg i0 s0 q hs0] at hb0
          cases hb0
      subst hii
      exact ⟨hi0, fun d H' s' nd ed => kE d H' s' nd ed⟩
  refine ⟨l, xs, ss, n, rfl, hn, hL, hA, hlen, by omega, fun _ H1 s1 => ⟨rfl, fun c0 H2 s2 n2 e2 => ?_⟩, fun i s hs hb _ => by rw [okC_of (hok s (List.mem_of_getElem? hs))] at hb; cases hb⟩
  have s12 := s1.trans s2
  have nc : H c0 = none := same_none s1 n2
  show (∃ xs, SqL K H2 l xs) ∧ _
  refine ⟨⟨_, s12.seq hL⟩, ?_⟩
  have hgz : ∀ i, (groupZ (ss.take i)).length ≤ 72 + 82224 * i := fun i => by
    induction i with
    | zero => exact Nat.le_refl _
    | succ i ih =>
      cases hs : ss[i]? with
      | none =>
        have := List.getElem?_eq_none_iff.mp hs
        rw [List.take_of_length_le (by omega), ← List.take_of_length_le (l := ss) (i := i) (by omega)]
        omega
      | some s =>
        obtain ⟨h1, h2⟩ := okG_len (hok s (List.mem_of_getElem? hs))
        rw [groupZ_more hs, List.length_append, List.length_append, h1, h2]
        have h2n : (2 : Nat) ^ n ≤ 512 := Nat.pow_le_pow_right (n := 2) (by decide) hn
        omega
  obtain ⟨I, hI⟩ : ∃ F : Nat → L2.St → Hp → Prop, F = (fun i σ H' => Same H H' ∧ H' c0 = some (IL (groupZ (ss.take i))) ∧ ∃ y3 y4 y5 y6 y7 y8, σ = [some (V.ref l), some (V.int n), some (V.ref c0), y3, y4, y5, y6, y7, y8]) := ⟨_, rfl⟩
  refine forL (xs := xs) I (by rw [hI]; exact ⟨s12, e2, _, _, _, _, _, _, rfl⟩) (fun i σ H' _ h => by rw [hI] at h; exact h.1.seq hL) ?_ ?_
  · intro i v σ H3 hi h
    rw [hI] at h
    obtain ⟨s3, e3, y3, y4, y5, y6, y7, y8, rfl⟩ := h
    obtain ⟨sc, hs, hA1⟩ := hA.2 i v hi
    obtain ⟨tt, p, q, rfl, o1, o2, o3⟩ := hA1
    have h1 := s3 _ _ o1
    have h2 := s3 _ _ o2
    have h3 := s3 _ _ o3
    obtain ⟨⟨a0, a1, a2, a3, ha⟩, hab, hdl, hdb⟩ := hok _ (List.mem_of_getElem? hs)
    have hz := hgz i
    refine ⟨tt, _, rfl, .of h1, rfl, ?_⟩
    rw [ha] at h2
    try simp only [tSeq, tAsg, tVar, tC, tOp, rI0, rI, tUn, rU, tIfS, tTest, tRet, tRetN, tDrop, tCB, tCons, tNil, tLst, tLstI, tTup, gName, tB, tAnd, tOr, tNot, tAndV, tOrV, tNotV, tIf, tNext, tBreak, tCont, gSub, tCall, tCallN, tAug, ipI, tBML, tBML0, isL_IL, isL_lst, L2.start, List.map_cons, List.map_nil, List.length_cons, List.length_nil, List.cons_append, List.nil_append, List.getElem?_cons_succ, List.getElem?_cons_zero, Option.some.injEq, exists_eq_left', exists_eq_left, exists_and_left, V.int.injEq, V.ref.injEq, V.bl.injEq, V.str.injEq, List.set_cons_zero, List.set_cons_succ, List.cons.injEq, and_true, true_and, Nat.reduceAdd, Nat.reduceSub, List.replicate_succ, List.replicate_zero, rIxI, rIxH, rIxTH, rSetI, rSetH, rCatI, rRepI, rSlI, rAppendI, rExtendI, decide_eq_true_eq, upd_same, IL_inj, HO.lst.injEq, toInts_cons, toInts_nil, Option.map_some, if_true, if_false, Bool.true_eq_false, Bool.false_eq_true, Bool.not_true, Bool.not_false, Bool.not_eq_true', decide_eq_false_iff_not, atI_0, atI_1, atI_2, atI_3, atI_4, Int.reduceToNat, Int.reduceLT, Int.reduceLE, Int.reduceNeg, Int.reducePow, cast_lit, upd_upd, Int.reduceAdd, Int.reduceMul, Int.reduceSub, Nat.reduceLT, Nat.reduceLeDiff, cmul_r, cdiv_r, tSl, tPart, tNoPart, rEq, rNe, scal_nn, scal_ii, scal_bb, scal_ss, scal_is, scal_si, V.ty.injEq, and_assoc, tyH_non, tyH_bl, tyH_int, tyH_str, tyH_ref, tyO_lst, tyO_IL, tyO_tup, itO_lst, itO_tup, itO_IL, Dw.rIxD, rLenI, rLenH, rLenTH, rLenQ, rLenB, rListI, Dw.rListS, rIntI, rIntB, rSumI, rIsiD, rIsX, tCallS, tMakeS, tMake, tMakeC, tMakeSC, tFld, sFld, HO.ins.injEq, HO.tup.injEq, cxOf_K, nox_K, tr_K, suite_K, rTupleI, rAllB, rAnyB, BL_inj, tChain, wOnly, wAs, wMany, rEqI, rNeI, Dw.rMax2, rMin2, Dw.rIsN, rIsNotN, rStrIn, rStrNotIn, not_true_eq_false, not_false_eq_true, reduceCtorEq, cl_bool, cl_int, cl_str, cl_list, cl_tuple, isB_NoneType_bool, isB_NoneType_int, isB_NoneType_str, isB_NoneType_list, isB_NoneType_tuple, isB_bool_bool, isB_bool_int, isB_bool_str, isB_bool_list, isB_bool_tuple, isB_int_bool, isB_int_int, isB_int_str, isB_int_list, isB_int_tuple, isB_str_bool, isB_str_int, isB_str_str, isB_str_list, isB_str_tuple, isB_list_bool, isB_list_int, isB_list_str, isB_list_list, isB_list_tuple, isB_tuple_bool, isB_tuple_int, isB_tuple_str, isB_tuple_list, isB_tuple_tuple, rSlCI, iRng3, iRev, gCons, gNil, iZip, iEnum, tLc_eq, tFor_eq, iRng1, iRng2, iList, iTup, rSetD, iKeys, tDNewK, Int.reducePow, Int.reduceNeg, iSeqA, Dw.rIxL, Dw.rSetL, rTupT, tPar, tNotT, tMkO, tFmt, tJs, tOst, Dw.rIsXD, L2.tXf]
    refine ⟨p, _, rfl, .of h2, rfl, ?_⟩
    try simp only [tSeq, tAsg, tVar, tC, tOp, rI0, rI, tUn, rU, tIfS, tTest, tRet, tRetN, tDrop, tCB, tCons, tNil, tLst, tLstI, tTup, gName, tB, tAnd, tOr, tNot, tAndV, tOrV, tNotV, tIf, tNext, tBreak, tCont, gSub, tCall, tCallN, tAug, ipI, tBML, tBML0, isL_IL, isL_lst, L2.start, List.map_cons, List.map_nil, List.length_cons, List.length_nil, List.cons_append, List.nil_append, List.getElem?_cons_succ, List.getElem?_cons_zero, Option.some.injEq, exists_eq_left', exists_eq_left, exists_and_left, V.int.injEq, V.ref.injEq, V.bl.injEq, V.str.injEq, List.set_cons_zero, List.set_cons_succ, List.cons.injEq, and_true, true_and, Nat.reduceAdd, Nat.reduceSub, List.replicate_succ, List.replicate_zero, rIxI, rIxH, rIxTH, rSetI, rSetH, rCatI, rRepI, rSlI, rAppendI, rExtendI, decide_eq_true_eq, upd_same, IL_inj, HO.lst.injEq, toInts_cons, toInts_nil, Option.map_some, if_true, if_false, Bool.true_eq_false, Bool.false_eq_true, Bool.not_true, Bool.not_false, Bool.not_eq_true', decide_eq_false_iff_not, atI_0, atI_1, atI_2, atI_3, atI_4, Int.reduceToNat, Int.reduceLT, Int.reduceLE, Int.reduceNeg, Int.reducePow, cast_lit, upd_upd, Int.reduceAdd, Int.reduceMul, Int.reduceSub, Nat.reduceLT, Nat.reduceLeDiff, cmul_r, cdiv_r, tSl, tPart, tNoPart, rEq, rNe, scal_nn, scal_ii, scal_bb, scal_ss, scal_is, scal_si, V.ty.injEq, and_assoc, tyH_non, tyH_bl, tyH_int, tyH_str, tyH_ref, tyO_lst, tyO_IL, tyO_tup, itO_lst, itO_tup, itO_IL, Dw.rIxD, rLenI, rLenH, rLenTH, rLenQ, rLenB, rListI, Dw.rListS, rIntI, rIntB, rSumI, rIsiD, rIsX, tCallS, tMakeS, tMake, tMakeC, tMakeSC, tFld, sFld, HO.ins.injEq, HO.tup.injEq, cxOf_K, nox_K, tr_K, suite_K, rTupleI, rAllB, rAnyB, BL_inj, tChain, wOnly, wAs, wMany, rEqI, rNeI, Dw.rMax2, rMin2, Dw.rIsN, rIsNotN, rStrIn, rStrNotIn, not_true_eq_false, not_false_eq_true, reduceCtorEq, cl_bool, cl_int, cl_str, cl_list, cl_tuple, isB_NoneType_bool, isB_NoneType_int, isB_NoneType_str, isB_NoneType_list, isB_NoneType_tuple, isB_bool_bool, isB_bool_int, isB_bool_str, isB_bool_list, isB_bool_tuple, isB_int_bool, isB_int_int, isB_int_str, isB_int_list, isB_int_tuple, isB_str_bool, isB_str_int, isB_str_str, isB_str_list, isB_str_tuple, isB_list_bool, isB_list_int, isB_list_str, isB_list_list, isB_list_tuple, isB_tuple_bool, isB_tuple_int, isB_tuple_str, isB_tuple_list, isB_tuple_tuple, rSlCI, iRng3, iRev, gCons, gNil, iZip, iEnum, tLc_eq, tFor_eq, iRng1, iRng2, iList, iTup, rSetD, iKeys, tDNewK, Int.reducePow, Int.reduceNeg, iSeqA, Dw.rIxL, Dw.rSetL, rTupT, tPar, tNotT, tMkO, tFmt, tJs, tOst, Dw.rIsXD, L2.tXf]
    obtain ⟨fl1, fl2⟩ := okG_len (hok _ (List.mem_of_getElem? hs))
    obtain ⟨adb, adl⟩ := adG_by (hok _ (List.mem_of_getElem? hs)).1 (hok _ (List.mem_of_getElem? hs)).2.1
    obtain ⟨dab, dal⟩ := daG_by hdb
    have hgm := groupZ_more hs
    rw [ha] at adb adl hgm fl1 hab
    have h2n : (2 : Nat) ^ n ≤ 512 := Nat.pow_le_pow_right (n := 2) (by decide) hn
    have hi2 : i < ss.length := (List.getElem?_eq_some_iff.mp hs).1
    refine ⟨by rw [e3]; rfl, p, [a0, a1, a2, a3], rfl, .inr (.of h2), hab, fun H4 s4 => ⟨adG [a0, a1, a2, a3], rfl, line_le (by rw [adl]; decide), fun u5 hu5 => ?_⟩⟩
    have s5 := same_new hu5 (IL (adG [a0, a1, a2, a3]))
    have e5 : upd H4 u5 (IL (adG [a0, a1, a2, a3])) u5 = some (IL (adG [a0, a1, a2, a3])) := upd_same
    generalize upd H4 u5 (IL (adG [a0, a1, a2, a3])) = H5 at s5 e5 ⊢
    refine ⟨u5, _, rfl, e5, adb, by rw [adl]; decide, fun f6 H6 s6 n6 e6 => ?_⟩
    have c6 := s6 _ _ (s5 _ _ (s4 _ _ e3))
    refine ⟨f6, rfl, _, c6, _, e6, line_le (by rw [fl1]; omega), ?_⟩
    have k6 : Same H (upd H6 c0 (IL (groupZ (ss.take i) ++ fldG (adG [a0, a1, a2, a3])))) := fun b o hb => by
      rw [upd_ne (ne_of_none hb nc)]
      exact s6 _ _ (s5 _ _ (s4 _ _ (s3 _ _ hb)))
    have q6 : upd H6 c0 (IL (groupZ (ss.take i) ++ fldG (adG [a0, a1, a2, a3]))) q = some (IL sc.2) := by
      have nq : q ≠ c0 := ne_of_none o3 nc
      rw [upd_ne nq]
      exact s6 _ _ (s5 _ _ (s4 _ _ h3))
    have c7 : upd H6 c0 (IL (groupZ (ss.take i) ++ fldG (adG [a0, a1, a2, a3]))) c0 = some (IL (groupZ (ss.take i) ++ fldG (adG [a0, a1, a2, a3]))) := upd_same
    generalize upd H6 c0 (IL (groupZ (ss.take i) ++ fldG (adG [a0, a1, a2, a3]))) = H7 at k6 q6 c7 ⊢
    refine ⟨line_le (by decide), fun v1 hv1 => ?_⟩
    have w1 := same_new hv1 (IL [7])
    have ev1 : upd H7 v1 (IL [7]) v1 = some (IL [7]) := upd_same
    generalize upd H7 v1 (IL [7]) = H8 at w1 ev1 ⊢
    refine ⟨sc.2, w1 _ _ q6, fun v2 hv2 => ?_⟩
    have w2 := same_new hv2 (IL sc.2)
    generalize upd H8 v2 (IL sc.2) = H9 at w2 ⊢
    refine ⟨[7], w2 _ _ ev1, line_le (by rw [hdl]; show 1 + _ ≤ _; omega), fun v3 hv3 => ?_⟩
    have w3 := same_new hv3 (IL ([7] ++ sc.2))
    have ev3 : upd H9 v3 (IL ([7] ++ sc.2)) v3 = some (IL ([7] ++ sc.2)) := upd_same
    generalize upd H9 v3 (IL ([7] ++ sc.2)) = H10 at w3 ev3 ⊢
    refine ⟨q, sc.2, rfl, .inl (.of (w3 _ _ (w2 _ _ (w1 _ _ q6)))), hdb, fun H11 w4 => ⟨[(xorG sc.2 : Int), 0, 0], rfl, line_le (by show 3 ≤ _; decide), fun v4 hv4 => ?_⟩⟩
    have w5 := same_new hv4 (IL [(xorG sc.2 : Int), 0, 0])
    generalize upd H11 v4 (IL [(xorG sc.2 : Int), 0, 0]) = H12 at w5 ⊢
    refine ⟨[7] ++ sc.2, w5 _ _ (w4 _ _ ev3), line_le (by rw [List.length_append, hdl]; show 1 + _ + 3 ≤ _; omega), fun v5 hv5 => ?_⟩
    have w6 := same_new hv5 (IL ([7] ++ sc.2 ++ [(xorG sc.2 : Int), 0, 0]))
    have ev5 : upd H12 v5 (IL ([7] ++ sc.2 ++ [(xorG sc.2 : Int), 0, 0])) v5 = some (IL (daG sc.2)) := upd_same
    generalize upd H12 v5 (IL ([7] ++ sc.2 ++ [(xorG sc.2 : Int), 0, 0])) = H13 at w6 ev5 ⊢
    refine ⟨v5, _, rfl, ev5, dab, by rw [dal, hdl]; omega, fun f14 H14 w7 n14 e14 => ?_⟩
    have w17 := w1.trans (w2.trans (w3.trans (w4.trans (w5.trans (w6.trans w7)))))
    refine ⟨f14, rfl, _, w17 _ _ c7, _, e14, line_le (by rw [List.length_append, fl1, fl2]; omega), ?_⟩
    rw [hI]
    refine ⟨fun b o hb => ?_, by rw [upd_same, hgm], _, _, _, _, _, _, rfl⟩
    rw [upd_ne (ne_of_none hb nc)]
    exact w17 _ _ (k6 _ _ hb)
  · intro σ H' h
    rw [hI] at h
    obtain ⟨s3, e3, y3, y4, y5, y6, y7, y8, rfl⟩ := h
    try simp only [tSeq, tAsg, tVar, tC, tOp, rI0, rI, tUn, rU, tIfS, tTest, tRet, tRetN, tDrop, tCB, tCons, tNil, tLst, tLstI, tTup, gName, tB, tAnd, tOr, tNot, tAndV, tOrV, tNotV, tIf, tNext, tBreak, tCont, gSub, tCall, tCallN, tAug, ipI, tBML, tBML0, isL_IL, isL_lst, L2.start, List.map_cons, List.map_nil, List.length_cons, List.length_nil, List.cons_append, List.nil_append, List.getElem?_cons_succ, List.getElem?_cons_zero, Option.some.injEq, exists_eq_left', exists_eq_left, exists_and_left, V.int.injEq, V.ref.injEq, V.bl.injEq, V.str.injEq, List.set_cons_zero, List.set_cons_succ, List.cons.injEq, and_true, true_and, Nat.reduceAdd, Nat.reduceSub, List.replicate_succ, List.replicate_zero, rIxI, rIxH, rIxTH, rSetI, rSetH, rCatI, rRepI, rSlI, rAppendI, rExtendI, decide_eq_true_eq, upd_same, IL_inj, HO.lst.injEq, toInts_cons, toInts_nil, Option.map_some, if_true, if_false, Bool.true_eq_false, Bool.false_eq_true, Bool.not_true, Bool.not_false, Bool.not_eq_true', decide_eq_false_iff_not, atI_0, atI_1, atI_2, atI_3, atI_4, Int.reduceToNat, Int.reduceLT, Int.reduceLE, Int.reduceNeg, Int.reducePow, cast_lit, upd_upd, Int.reduceAdd, Int.reduceMul, Int.reduceSub, Nat.reduceLT, Nat.reduceLeDiff, cmul_r, cdiv_r, tSl, tPart, tNoPart, rEq, rNe, scal_nn, scal_ii, scal_bb, scal_ss, scal_is, scal_si, V.ty.injEq, and_assoc, tyH_non, tyH_bl, tyH_int, tyH_str, tyH_ref, tyO_lst, tyO_IL, tyO_tup, itO_lst, itO_tup, itO_IL, Dw.rIxD, rLenI, rLenH, rLenTH, rLenQ, rLenB, rListI, Dw.rListS, rIntI, rIntB, rSumI, rIsiD, rIsX, tCallS, tMakeS, tMake, tMakeC, tMakeSC, tFld, sFld, HO.ins.injEq, HO.tup.injEq, cxOf_K, nox_K, tr_K, suite_K, rTupleI, rAllB, rAnyB, BL_inj, tChain, wOnly, wAs, wMany, rEqI, rNeI, Dw.rMax2, rMin2, Dw.rIsN, rIsNotN, rStrIn, rStrNotIn, not_true_eq_false, not_false_eq_true, reduceCtorEq, cl_bool, cl_int, cl_str, cl_list, cl_tuple, isB_NoneType_bool, isB_NoneType_int, isB_NoneType_str, isB_NoneType_list, isB_NoneType_tuple, isB_bool_bool, isB_bool_int, isB_bool_str, isB_bool_list, isB_bool_tuple, isB_int_bool, isB_int_int, isB_int_str, isB_int_list, isB_int_tuple, isB_str_bool, isB_str_int, isB_str_str, isB_str_list, isB_str_tuple, isB_list_bool, isB_list_int, isB_list_str, isB_list_list, isB_list_tuple, isB_tuple_bool, isB_tuple_int, isB_tuple_str, isB_tuple_list, isB_tuple_tuple, rSlCI, iRng3, iRev, gCons, gNil, iZip, iEnum, tLc_eq, tFor_eq, iRng1, iRng2, iList, iTup, rSetD, iKeys, tDNewK, Int.reducePow, Int.reduceNeg, iSeqA, Dw.rIxL, Dw.rSetL, rTupT, tPar, tNotT, tMkO, tFmt, tJs, tOst, Dw.rIsXD, L2.tXf]
    rw [hA.1, List.take_length] at e3
    exact k c0 H' s3 nc e3
end
section
variable {P : Program} [SupP P] {w : World} {K : PySem.W.Frag} {mg : Str → Option Value} {base : Heap} {A : Ad}
theorem ok_law_spread (T : Tx K mg A) : FnOk P w K mg base CX0 1 A.f_law_spread A.d_law_spread ["cell"] spSpread := by
  refine T.F_law_spread.ok sc_law_spread (fun vs H Q E h => ?_) (fun cdv A' outer s H vs Q E hr h => ?_)
  · obtain ⟨n, rfl, _⟩ := h
    rfl
  obtain ⟨n, rfl, q⟩ := h
  refine ⟨_, (pss_cons (ps_set (i := 1) sc_law_spread.nd rfl (Or.inl rfl) (pe_op op_mod (pe_callTy call_intI (by rfl) T.z_int (by decide +kernel) (pa_cons (pv 0) pa_nil)) pe_int))
      (pss_cons (ps_set (i := 2) sc_law_spread.nd rfl (Or.inl rfl) pe_int)
      (pss_cons (ps_for PassesOwn.never rfl (pi_range1 rfl T.z_range (pa_cons pe_int pa_nil)) (pg_name (i := 3) sc_law_spread.nd rfl (Or.inl rfl))
        (pss_cons (ps_set (i := 1) sc_law_spread.nd rfl (Or.inl rfl) (pe_op op_mod (pe_callTy call_intI (by rfl) T.z_int (by decide +kernel) (pa_cons (pe_op op_add (pe_op op_add (pe_op op_mul (pv 1) pe_int) pe_int) (pv 3)) pa_nil)) pe_int))
      (pss_one (ps_set (i := 2) sc_law_spread.nd rfl (Or.inl rfl) (pe_op op_add (pe_op op_mul (pv 2) pe_int) (pv 1))))))
      (pss_one (ps_ret (pv 2)))))), ?_⟩
  try simp only [tSeq, tAsg, tVar, tC, tOp, rI0, rI, tUn, rU, tIfS, tTest, tRet, tRetN, tDrop, tCB, tCons, tNil, tLst, tLstI, tTup, gName, tB, tAnd, tOr, tNot, tAndV, tOrV, tNotV, tIf, tNext, tBreak, tCont, gSub, tCall, tCallN, tAug, ipI, tBML, tBML0, isL_IL, isL_lst, L2.start, List.map_cons, List.map_nil, List.length_cons, List.length_nil, List.cons_append, List.nil_append, List.getElem?_cons_succ, List.getElem?_cons_zero, Option.some.injEq, exists_eq_left', exists_eq_left, exists_and_left, V.int.injEq, V.ref.injEq, V.bl.injEq, V.str.injEq, List.set_cons_zero, List.set_cons_succ, List.cons.injEq, and_true, true_and, Nat.reduceAdd, Nat.reduceSub, List.replicate_succ, List.replicate_zero, rIxI, rIxH, rIxTH, rSetI, rSetH, rCatI, rRepI, rSlI, rAppendI, rExtendI, decide_eq_true_eq, upd_same, IL_inj, HO.lst.injEq, toInts_cons, toInts_nil, Option.map_some, if_true, if_false, Bool.true_eq_false, Bool.false_eq_true, Bool.not_true, Bool.not_false, Bool.not_eq_true', decide_eq_false_iff_not, atI_0, atI_1, atI_2, atI_3, atI_4, Int.reduceToNat, Int.reduceLT, Int.reduceLE, Int.reduceNeg, Int.reducePow, cast_lit, upd_upd, Int.reduceAdd, Int.reduceMul, Int.reduceSub, Nat.reduceLT, Nat.reduceLeDiff, cmul_r, cdiv_r, tSl, tPart, tNoPart, rEq, rNe, scal_nn, scal_ii, scal_bb, scal_ss, scal_is, scal_si, V.ty.injEq, and_assoc, tyH_non, tyH_bl, tyH_int, tyH_str, tyH_ref, tyO_lst, tyO_IL, tyO_tup, itO_lst, itO_tup, itO_IL, Dw.rIxD, rLenI, rLenH, rLenTH, rLenQ, rLenB, rListI, Dw.rListS, rIntI, rIntB, rSumI, rIsiD, rIsX, tCallS, tMakeS, tMake, tMakeC, tMakeSC, tFld, sFld, HO.ins.injEq, HO.tup.injEq, cxOf_K, nox_K, tr_K, suite_K, rTupleI, rAllB, rAnyB, BL_inj, tChain, wOnly, wAs, wMany, rEqI, rNeI, Dw.rMax2, rMin2, Dw.rIsN, rIsNotN, rStrIn, rStrNotIn, not_true_eq_false, not_false_eq_true, reduceCtorEq, cl_bool, cl_int, cl_str, cl_list, cl_tuple, isB_NoneType_bool, isB_NoneType_int, isB_NoneType_str, isB_NoneType_list, isB_NoneType_tuple, isB_bool_bool, isB_bool_int, isB_bool_str, isB_bool_list, isB_bool_tuple, isB_int_bool, isB_int_int, isB_int_str, isB_int_list, isB_int_tuple, isB_str_bool, isB_str_int, isB_str_str, isB_str_list, isB_str_tuple, isB_list_bool, isB_list_int, isB_list_str, isB_list_list, isB_list_tuple, isB_tuple_bool, isB_tuple_int, isB_tuple_str, isB_tuple_list, isB_tuple_tuple, iSeqA, Dw.rIxL, Dw.rSetL, rTupT, tPar, tNotT, tMkO, tFmt, tJs, tOst, Dw.rIsXD, L2.tXf]
  obtain ⟨I, hI⟩ : ∃ F : Nat → L2.St → Hp → Prop, F = (fun i σ H' => H' = H ∧ ∃ m wd : Int, ∃ y, σ = [some (V.int n), some (V.int m), some (V.int wd), y]) := ⟨_, rfl⟩
  refine ⟨4, rfl, by decide, by decide, for_range (lo := 0) (n := 4) I (by rw [hI]; exact ⟨rfl, n % 2147483647, 1, none, rfl⟩) ?_ ?_⟩
  · intro i σ H' hi h
    rw [hI] at h
    obtain ⟨rfl, m, wd, y, rfl⟩ := h
    try simp only [tSeq, tAsg, tVar, tC, tOp, rI0, rI, tUn, rU, tIfS, tTest, tRet, tRetN, tDrop, tCB, tCons, tNil, tLst, tLstI, tTup, gName, tB, tAnd, tOr, tNot, tAndV, tOrV, tNotV, tIf, tNext, tBreak, tCont, gSub, tCall, tCallN, tAug, ipI, tBML, tBML0, isL_IL, isL_lst, L2.start, List.map_cons, List.map_nil, List.length_cons, List.length_nil, List.cons_append, List.nil_append, List.getElem?_cons_succ, List.getElem?_cons_zero, Option.some.injEq, exists_eq_left', exists_eq_left, exists_and_left, V.int.injEq, V.ref.injEq, V.bl.injEq, V.str.injEq, List.set_cons_zero, List.set_cons_succ, List.cons.injEq, and_true, true_and, Nat.reduceAdd, Nat.reduceSub, List.replicate_succ, List.replicate_zero, rIxI, rIxH, rIxTH, rSetI, rSetH, rCatI, rRepI, rSlI, rAppendI, rExtendI, decide_eq_true_eq, upd_same, IL_inj, HO.lst.injEq, toInts_cons, toInts_nil, Option.map_some, if_true, if_false, Bool.true_eq_false, Bool.false_eq_true, Bool.not_true, Bool.not_false, Bool.not_eq_true', decide_eq_false_iff_not, atI_0, atI_1, atI_2, atI_3, atI_4, Int.reduceToNat, Int.reduceLT, Int.reduceLE, Int.reduceNeg, Int.reducePow, cast_lit, upd_upd, Int.reduceAdd, Int.reduceMul, Int.reduceSub, Nat.reduceLT, Nat.reduceLeDiff, cmul_r, cdiv_r, tSl, tPart, tNoPart, rEq, rNe, scal_nn, scal_ii, scal_bb, scal_ss, scal_is, scal_si, V.ty.injEq, and_assoc, tyH_non, tyH_bl, tyH_int, tyH_str, tyH_ref, tyO_lst, tyO_IL, tyO_tup, itO_lst, itO_tup, itO_IL, Dw.rIxD, rLenI, rLenH, rLenTH, rLenQ, rLenB, rListI, Dw.rListS, rIntI, rIntB, rSumI, rIsiD, rIsX, tCallS, tMakeS, tMake, tMakeC, tMakeSC, tFld, sFld, HO.ins.injEq, HO.tup.injEq, cxOf_K, nox_K, tr_K, suite_K, rTupleI, rAllB, rAnyB, BL_inj, tChain, wOnly, wAs, wMany, rEqI, rNeI, Dw.rMax2, rMin2, Dw.rIsN, rIsNotN, rStrIn, rStrNotIn, not_true_eq_false, not_false_eq_true, reduceCtorEq, cl_bool, cl_int, cl_str, cl_list, cl_tuple, isB_NoneType_bool, isB_NoneType_int, isB_NoneType_str, isB_NoneType_list, isB_NoneType_tuple, isB_bool_bool, isB_bool_int, isB_bool_str, isB_bool_list, isB_bool_tuple, isB_int_bool, isB_int_int, isB_int_str, isB_int_list, isB_int_tuple, isB_str_bool, isB_str_int, isB_str_str, isB_str_list, isB_str_tuple, isB_list_bool, isB_list_int, isB_list_str, isB_list_list, isB_list_tuple, isB_tuple_bool, isB_tuple_int, isB_tuple_str, isB_tuple_list, isB_tuple_tuple, iSeqA, Dw.rIxL, Dw.rSetL, rTupT, tPar, tNotT, tMkO, tFmt, tJs, tOst, Dw.rIsXD, L2.tXf]
    rw [hI]
    exact ⟨rfl, _, _, _, rfl⟩
  · intro σ H' h
    rw [hI] at h
    obtain ⟨rfl, m, wd, y, rfl⟩ := h
    try simp only [tSeq, tAsg, tVar, tC, tOp, rI0, rI, tUn, rU, tIfS, tTest, tRet, tRetN, tDrop, tCB, tCons, tNil, tLst, tLstI, tTup, gName, tB, tAnd, tOr, tNot, tAndV, tOrV, tNotV, tIf, tNext, tBreak, tCont, gSub, tCall, tCallN, tAug, ipI, tBML, tBML0, isL_IL, isL_lst, L2.start, List.map_cons, List.map_nil, List.length_cons, List.length_nil, List.cons_append, List.nil_append, List.getElem?_cons_succ, List.getElem?_cons_zero, Option.some.injEq, exists_eq_left', exists_eq_left, exists_and_left, V.int.injEq, V.ref.injEq, V.bl.injEq, V.str.injEq, List.set_cons_zero, List.set_cons_succ, List.cons.injEq, and_true, true_and, Nat.reduceAdd, Nat.reduceSub, List.replicate_succ, List.replicate_zero, rIxI, rIxH, rIxTH, rSetI, rSetH, rCatI, rRepI, rSlI, rAppendI, rExtendI, decide_eq_true_eq, upd_same, IL_inj, HO.lst.injEq, toInts_cons, toInts_nil, Option.map_some, if_true, if_false, Bool.true_eq_false, Bool.false_eq_true, Bool.not_true, Bool.not_false, Bool.not_eq_true', decide_eq_false_iff_not, atI_0, atI_1, atI_2, atI_3, atI_4, Int.reduceToNat, Int.reduceLT, Int.reduceLE, Int.reduceNeg, Int.reducePow, cast_lit, upd_upd, Int.reduceAdd, Int.reduceMul, Int.reduceSub, Nat.reduceLT, Nat.reduceLeDiff, cmul_r, cdiv_r, tSl, tPart, tNoPart, rEq, rNe, scal_nn, scal_ii, scal_bb, scal_ss, scal_is, scal_si, V.ty.injEq, and_assoc, tyH_non, tyH_bl, tyH_int, tyH_str, tyH_ref, tyO_lst, tyO_IL, tyO_tup, itO_lst, itO_tup, itO_IL, Dw.rIxD, rLenI, rLenH, rLenTH, rLenQ, rLenB, rListI, Dw.rListS, rIntI, rIntB, rSumI, rIsiD, rIsX, tCallS, tMakeS, tMake, tMakeC, tMakeSC, tFld, sFld, HO.ins.injEq, HO.tup.injEq, cxOf_K, nox_K, tr_K, suite_K, rTupleI, rAllB, rAnyB, BL_inj, tChain, wOnly, wAs, wMany, rEqI, rNeI, Dw.rMax2, rMin2, Dw.rIsN, rIsNotN, rStrIn, rStrNotIn, not_true_eq_false, not_false_eq_true, reduceCtorEq, cl_bool, cl_int, cl_str, cl_list, cl_tuple, isB_NoneType_bool, isB_NoneType_int, isB_NoneType_str, isB_NoneType_list, isB_NoneType_tuple, isB_bool_bool, isB_bool_int, isB_bool_str, isB_bool_list, isB_bool_tuple, isB_int_bool, isB_int_int, isB_int_str, isB_int_list, isB_int_tuple, isB_str_bool, isB_str_int, isB_str_str, isB_str_list, isB_str_tuple, isB_list_bool, isB_list_int, isB_list_str, isB_list_list, isB_list_tuple, isB_tuple_bool, isB_tuple_int, isB_tuple_str, isB_tuple_list, isB_tuple_tuple, iSeqA, Dw.rIxL, Dw.rSetL, rTupT, tPar, tNotT, tMkO, tFmt, tJs, tOst, Dw.rIsXD, L2.tXf]
    exact q _
theorem ok_law_draw (T : Tx K mg A) : FnOk P w K mg base CX0 2 A.f_law_draw A.d_law_draw ["pool", "many"] spDraw := by
  refine T.F_law_draw.ok sc_law_draw (fun vs H Q E h => ?_) (fun cdv A' outer s H vs Q E hr h => ?_)
  · obtain ⟨p, sc, m, rfl, _⟩ := h
    rfl
  obtain ⟨p, sc, m, rfl, hP, m0, m1, q⟩ := h
  refine ⟨_, (pss_cons (ps_if (PW.pt (pw_and (pt_cmpR op_le (pe_ix ix_listH (pv 0) pe_int (fun _ _ => rfl)) pe_int (nomark _)) (pw_and1 (pt_cmpR op_lt (pe_ix ix_listH (pv 0) pe_int (fun _ _ => rfl)) (pe_callB call_lenI (by rfl) T.z_len (by decide +kernel) (pa_cons (pe_ix ix_listH (pv 0) pe_int (fun _ _ => rfl)) pa_nil)) (nomark _))))) (pss_cons (ps_set (i := 2) sc_law_draw.nd rfl (Or.inl rfl) (pe_ix ix_listI (pe_ix ix_listH (pv 0) pe_int (fun _ _ => rfl)) (pe_ix ix_listH (pv 0) pe_int (fun _ _ => rfl)) (fun _ _ => rfl)))
      (pss_cons (ps_asg (pe_op op_add (pe_ix ix_listH (pv 0) pe_int (fun _ _ => rfl)) pe_int) (pg_sub (pv 0) pe_int set_listH))
      (pss_cons (ps_asg (pv 2) (pg_sub (pv 0) pe_int set_listH))
      (pss_one (ps_if (pt_cmpR op_lt (pv 2) pe_int (nomark _)) (pss_one (ps_asg (pe_call (ok_law_spread (P := P) T) (hr.mono (by decide)) rfl T.g_law_spread T.F_law_spread.kp T.b_law_spread .nil pass0 (pa_cons (pv 2) pa_nil)) (pg_sub (pv 0) pe_int set_listH))) pss_nil))))) pss_nil)
      (pss_cons (ps_asg (pe_op op_add (pe_ix ix_listH (pv 0) pe_int (fun _ _ => rfl)) pe_int) (pg_sub (pv 0) pe_int set_listH))
      (pss_cons (ps_if (pt_cmpR op_le (pe_ix ix_listH (pv 0) pe_int (fun _ _ => rfl)) pe_int (nomark _)) (pss_cons (ps_set (i := 3) sc_law_draw.nd rfl (Or.inl rfl) (pe_op op_mod (pe_callTy call_intI (by rfl) T.z_int (by decide +kernel) (pa_cons (pe_op op_add (pe_op op_add (pe_op op_mul (pe_ix ix_listH (pv 0) pe_int (fun _ _ => rfl)) pe_int) (pe_op op_mul (pe_ix ix_listH (pv 0) pe_int (fun _ _ => rfl)) pe_int)) pe_int) pa_nil)) pe_int))
      (pss_cons (ps_set (i := 3) sc_law_draw.nd rfl (Or.inl rfl) (pe_op op_mod (pe_callTy call_intI (by rfl) T.z_int (by decide +kernel) (pa_cons (pe_op op_add (pe_op op_mul (pv 3) pe_int) (pe_ix ix_listH (pv 0) pe_int (fun _ _ => rfl))) pa_nil)) pe_int))
      (pss_one (ps_ret (pe_op op_mod (pe_op op_fdiv (pv 3) pe_int) (pv 1)))))) pss_nil)
      (pss_cons (ps_set (i := 4) sc_law_draw.nd rfl (Or.inl rfl) (pe_op op_mod (pe_callTy call_intI (by rfl) T.z_int (by decide +kernel) (pa_cons (pe_ix ix_listH (pv 0) pe_int (fun _ _ => rfl)) pa_nil)) (pv 1)))
      (pss_cons (ps_asg (pe_op op_fdiv (pe_ix ix_listH (pv 0) pe_int (fun _ _ => rfl)) (pv 1)) (pg_sub (pv 0) pe_int set_listH))
      (pss_one (ps_ret (pv 4)))))))), ?_⟩
  obtain ⟨ns, a, b, c, d, h1, h2, h3, h4⟩ := hP
  have hd : CDiv b m ∧ ∀ x, CDiv x m := ⟨⟨m0, m1⟩, fun x => ⟨m0, m1⟩⟩
  have fin : ∀ (x a' b' c' : Int), 0 ≤ a' → Q (V.int (x % m)) (upd H p (HO.lst [V.ref sc, V.int a', V.int b', V.int c', V.int d])) := fun x a' b' c' ha =>
    q _ _ (Int.emod_nonneg _ (by omega)) (Int.emod_lt_of_pos _ m0) (Pool.put h1 h2 ha h4) (sameB_upd _)
  unfold PoolL at h1
  have hne := pool_ne h1 h2
  have h2' : H sc = some (IL ns) := h2
  try simp only [tSeq, tAsg, tVar, tC, tOp, rI0, rI, tUn, rU, tIfS, tTest, tRet, tRetN, tDrop, tCB, tCons, tNil, tLst, tLstI, tTup, gName, tB, tAnd, tOr, tNot, tAndV, tOrV, tNotV, tIf, tNext, tBreak, tCont, gSub, tCall, tCallN, tAug, ipI, tBML, tBML0, isL_IL, isL_lst, L2.start, List.map_cons, List.map_nil, List.length_cons, List.length_nil, List.cons_append, List.nil_append, List.getElem?_cons_succ, List.getElem?_cons_zero, Option.some.injEq, exists_eq_left', exists_eq_left, exists_and_left, V.int.injEq, V.ref.injEq, V.bl.injEq, V.str.injEq, List.set_cons_zero, List.set_cons_succ, List.cons.injEq, and_true, true_and, Nat.reduceAdd, Nat.reduceSub, List.replicate_succ, List.replicate_zero, rIxI, rIxH, rIxTH, rSetI, rSetH, rCatI, rRepI, rSlI, rAppendI, rExtendI, decide_eq_true_eq, upd_same, IL_inj, HO.lst.injEq, toInts_cons, toInts_nil, Option.map_some, if_true, if_false, Bool.true_eq_false, Bool.false_eq_true, Bool.not_true, Bool.not_false, Bool.not_eq_true', decide_eq_false_iff_not, atI_0, atI_1, atI_2, atI_3, atI_4, Int.reduceToNat, Int.reduceLT, Int.reduceLE, Int.reduceNeg, Int.reducePow, cast_lit, upd_upd, Int.reduceAdd, Int.reduceMul, Int.reduceSub, Nat.reduceLT, Nat.reduceLeDiff, cmul_r, cdiv_r, tSl, tPart, tNoPart, rEq, rNe, scal_nn, scal_ii, scal_bb, scal_ss, scal_is, scal_si, V.ty.injEq, and_assoc, tyH_non, tyH_bl, tyH_int, tyH_str, tyH_ref, tyO_lst, tyO_IL, tyO_tup, itO_lst, itO_tup, itO_IL, Dw.rIxD, rLenI, rLenH, rLenTH, rLenQ, rLenB, rListI, Dw.rListS, rIntI, rIntB, rSumI, rIsiD, rIsX, tCallS, tMakeS, tMake, tMakeC, tMakeSC, tFld, sFld, HO.ins.injEq, HO.tup.injEq, cxOf_K, nox_K, tr_K, suite_K, rTupleI, rAllB, rAnyB, BL_inj, tChain, wOnly, wAs, wMany, rEqI, rNeI, Dw.rMax2, rMin2, Dw.rIsN, rIsNotN, rStrIn, rStrNotIn, not_true_eq_false, not_false_eq_true, reduceCtorEq, cl_bool, cl_int, cl_str, cl_list, cl_tuple, isB_NoneType_bool, isB_NoneType_int, isB_NoneType_str, isB_NoneType_list, isB_NoneType_tuple, isB_bool_bool, isB_bool_int, isB_bool_str, isB_bool_list, isB_bool_tuple, isB_int_bool, isB_int_int, isB_int_str, isB_int_list, isB_int_tuple, isB_str_bool, isB_str_int, isB_str_str, isB_str_list, isB_str_tuple, isB_list_bool, isB_list_int, isB_list_str, isB_list_list, isB_list_tuple, isB_tuple_bool, isB_tuple_int, isB_tuple_str, isB_tuple_list, isB_tuple_tuple, iSeqA, Dw.rIxL, Dw.rSetL, rTupT, tPar, tNotT, tMkO, tFmt, tJs, tOst, Dw.rIsXD, L2.tXf, h1, h2', upd_ne hne, spSpread]
  by_cases c1 : b ≤ 0
  · rw [if_pos c1]
    by_cases c2 : a < (ns.length : Int)
    · rw [if_pos c2]
      refine ⟨h3, c2, ?_⟩
      by_cases c3 : ns.getD a.toNat 0 < 1000000000000000000
      · rw [if_pos c3]
        intro x
        by_cases c4 : x ≤ 0
        · rw [if_pos c4]
          exact ⟨m0, fin _ _ _ _ (by omega)⟩
        · rw [if_neg c4]
          exact ⟨m0, hd.2 _, fin _ _ _ _ (by omega)⟩
      · rw [if_neg c3]
        by_cases c4 : ns.getD a.toNat 0 ≤ 0
        · rw [if_pos c4]
          exact ⟨m0, fin _ _ _ _ (by omega)⟩
        · rw [if_neg c4]
          exact ⟨m0, hd.2 _, fin _ _ _ _ (by omega)⟩
    · rw [if_neg c2, if_pos c1]
      exact ⟨m0, fin _ _ _ _ h3⟩
  · rw [if_neg c1, if_neg c1]
    exact ⟨m0, hd.2 _, fin _ _ _ _ h3⟩
theorem ok_law_pool (T : Tx K mg A) : FnOk P w K mg base CX0 1 A.f_law_pool A.d_law_pool ["script"] (spPool K) := by
  refine T.F_law_pool.ok sc_law_pool (fun vs H Q E h => ?_) (fun cdv A' outer s H vs Q E hr h => ?_)
  · obtain ⟨a, ns, rfl, _⟩ := h
    rfl
  obtain ⟨a, ns, rfl, hS, hl, q⟩ := h
  refine ⟨_, (pss_cons (ps_set (i := 1) sc_law_pool.nd rfl (Or.inl rfl) pe_int)
      (pss_cons (ps_for PassesOwn.never rfl (pi_list (pe_slice sl_listS (pv 0) po_none (po_some pe_int))) (pg_name (i := 2) sc_law_pool.nd rfl (Or.inl rfl))
        (pss_one (ps_set (i := 1) sc_law_pool.nd rfl (Or.inl rfl) (pe_op op_mod (pe_callTy call_intI (by rfl) T.z_int (by decide +kernel) (pa_cons (pe_op op_add (pe_op op_mul (pv 1) pe_int) (pv 2)) pa_nil)) pe_int))))
      (pss_one (ps_ret (pe_lst (pa_cons (pe_callTy call_listS (by rfl) T.z_list (by decide +kernel) (pa_cons (pv 0) pa_nil)) (pa_cons pe_int (pa_cons pe_int (pa_cons pe_int (pa_cons (pv 1) pa_nil)))))))))), ?_⟩
  try simp only [tSeq, tAsg, tVar, tC, tOp, rI0, rI, tUn, rU, tIfS, tTest, tRet, tRetN, tDrop, tCB, tCons, tNil, tLst, tLstI, tTup, gName, tB, tAnd, tOr, tNot, tAndV, tOrV, tNotV, tIf, tNext, tBreak, tCont, gSub, tCall, tCallN, tAug, ipI, tBML, tBML0, isL_IL, isL_lst, L2.start, List.map_cons, List.map_nil, List.length_cons, List.length_nil, List.cons_append, List.nil_append, List.getElem?_cons_succ, List.getElem?_cons_zero, Option.some.injEq, exists_eq_left', exists_eq_left, exists_and_left, V.int.injEq, V.ref.injEq, V.bl.injEq, V.str.injEq, List.set_cons_zero, List.set_cons_succ, List.cons.injEq, and_true, true_and, Nat.reduceAdd, Nat.reduceSub, List.replicate_succ, List.replicate_zero, rIxI, rIxH, rIxTH, rSetI, rSetH, rCatI, rRepI, rSlI, rAppendI, rExtendI, decide_eq_true_eq, upd_same, IL_inj, HO.lst.injEq, toInts_cons, toInts_nil, Option.map_some, if_true, if_false, Bool.true_eq_false, Bool.false_eq_true, Bool.not_true, Bool.not_false, Bool.not_eq_true', decide_eq_false_iff_not, atI_0, atI_1, atI_2, atI_3, atI_4, Int.reduceToNat, Int.reduceLT, Int.reduceLE, Int.reduceNeg, Int.reducePow, cast_lit, upd_upd, Int.reduceAdd, Int.reduceMul, Int.reduceSub, Nat.reduceLT, Nat.reduceLeDiff, cmul_r, cdiv_r, tSl, tPart, tNoPart, rEq, rNe, scal_nn, scal_ii, scal_bb, scal_ss, scal_is, scal_si, V.ty.injEq, and_assoc, tyH_non, tyH_bl, tyH_int, tyH_str, tyH_ref, tyO_lst, tyO_IL, tyO_tup, itO_lst, itO_tup, itO_IL, Dw.rIxD, rLenI, rLenH, rLenTH, rLenQ, rLenB, rListI, Dw.rListS, rIntI, rIntB, rSumI, rIsiD, rIsX, tCallS, tMakeS, tMake, tMakeC, tMakeSC, tFld, sFld, HO.ins.injEq, HO.tup.injEq, cxOf_K, nox_K, tr_K, suite_K, rTupleI, rAllB, rAnyB, BL_inj, tChain, wOnly, wAs, wMany, rEqI, rNeI, Dw.rMax2, rMin2, Dw.rIsN, rIsNotN, rStrIn, rStrNotIn, not_true_eq_false, not_false_eq_true, reduceCtorEq, cl_bool, cl_int, cl_str, cl_list, cl_tuple, isB_NoneType_bool, isB_NoneType_int, isB_NoneType_str, isB_NoneType_list, isB_NoneType_tuple, isB_bool_bool, isB_bool_int, isB_bool_str, isB_bool_list, isB_bool_tuple, isB_int_bool, isB_int_int, isB_int_str, isB_int_list, isB_int_tuple, isB_str_bool, isB_str_int, isB_str_str, isB_str_list, isB_str_tuple, isB_list_bool, isB_list_int, isB_list_str, isB_list_list, isB_list_tuple, isB_tuple_bool, isB_tuple_int, isB_tuple_str, isB_tuple_list, isB_tuple_tuple, iSeqA, Dw.rIxL, Dw.rSetL, rTupT, tPar, tNotT, tMkO, tFmt, tJs, tOst, Dw.rIsXD, L2.tXf]
  refine ⟨_, rfl, _, rfl, a, ns, rfl, hS, fun p hp => ?_⟩
  obtain ⟨I, hI⟩ : ∃ F : Nat → L2.St → Hp → Prop, F = (fun i σ H' => H' = upd H p (IL (cutI ns none (some 63))) ∧ ∃ x y, σ = [some (V.ref a), some (V.int x), y]) := ⟨_, rfl⟩
  refine ⟨p, rfl, ⟨_, .of upd_same⟩, for_list (xs := (cutI ns none (some 63)).map V.int) I (by rw [hI]; exact ⟨rfl, 7, none, rfl⟩) ?_ ?_ ?_⟩
  · intro i σ H' hi h
    rw [hI] at h
    obtain ⟨rfl, _⟩ := h
    exact .of upd_same
  · intro i v σ H' hi h
    rw [hI] at h
    obtain ⟨rfl, x, y, rfl⟩ := h
    obtain ⟨z, rfl⟩ : ∃ z : Int, v = V.int z := by
      rw [List.getElem?_map] at hi
      cases e : (cutI ns none (some 63))[i]? with
      | none => rw [e] at hi; cases hi
      | some z => rw [e] at hi; exact ⟨z, (Option.some.inj hi).symm⟩
    try simp only [tSeq, tAsg, tVar, tC, tOp, rI0, rI, tUn, rU, tIfS, tTest, tRet, tRetN, tDrop, tCB, tCons, tNil, tLst, tLstI, tTup, gName, tB, tAnd, tOr, tNot, tAndV, tOrV, tNotV, tIf, tNext, tBreak, tCont, gSub, tCall, tCallN, tAug, ipI, tBML, tBML0, isL_IL, isL_lst, L2.start, List.map_cons, List.map_nil, List.length_cons, List.length_nil, List.cons_append, List.nil_append, List.getElem?_cons_succ, List.getElem?_cons_zero, Option.some.injEq, exists_eq_left', exists_eq_left, exists_and_left, V.int.injEq, V.ref.injEq, V.bl.injEq, V.str.injEq, List.set_cons_zero, List.set_cons_succ, List.cons.injEq, and_true, true_and, Nat.reduceAdd, Nat.reduceSub, List.replicate_succ, List.replicate_zero, rIxI, rIxH, rIxTH, rSetI, rSetH, rCatI, rRepI, rSlI, rAppendI, rExtendI, decide_eq_true_eq, upd_same, IL_inj, HO.lst.injEq, toInts_cons, toInts_nil, Option.map_some, if_true, if_false, Bool.true_eq_false, Bool.false_eq_true, Bool.not_true, Bool.not_false, Bool.not_eq_true', decide_eq_false_iff_not, atI_0, atI_1, atI_2, atI_3, atI_4, Int.reduceToNat, Int.reduceLT, Int.reduceLE, Int.reduceNeg, Int.reducePow, cast_lit, upd_upd, Int.reduceAdd, Int.reduceMul, Int.reduceSub, Nat.reduceLT, Nat.reduceLeDiff, cmul_r, cdiv_r, tSl, tPart, tNoPart, rEq, rNe, scal_nn, scal_ii, scal_bb, scal_ss, scal_is, scal_si, V.ty.injEq, and_assoc, tyH_non, tyH_bl, tyH_int, tyH_str, tyH_ref, tyO_lst, tyO_IL, tyO_tup, itO_lst, itO_tup, itO_IL, Dw.rIxD, rLenI, rLenH, rLenTH, rLenQ, rLenB, rListI, Dw.rListS, rIntI, rIntB, rSumI, rIsiD, rIsX, tCallS, tMakeS, tMake, tMakeC, tMakeSC, tFld, sFld, HO.ins.injEq, HO.tup.injEq, cxOf_K, nox_K, tr_K, suite_K, rTupleI, rAllB, rAnyB, BL_inj, tChain, wOnly, wAs, wMany, rEqI, rNeI, Dw.rMax2, rMin2, Dw.rIsN, rIsNotN, rStrIn, rStrNotIn, not_true_eq_false, not_false_eq_true, reduceCtorEq, cl_bool, cl_int, cl_str, cl_list, cl_tuple, isB_NoneType_bool, isB_NoneType_int, isB_NoneType_str, isB_NoneType_list, isB_NoneType_tuple, isB_bool_bool, isB_bool_int, isB_bool_str, isB_bool_list, isB_bool_tuple, isB_int_bool, isB_int_int, isB_int_str, isB_int_list, isB_int_tuple, isB_str_bool, isB_str_int, isB_str_str, isB_str_list, isB_str_tuple, isB_list_bool, isB_list_int, isB_list_str, isB_list_list, isB_list_tuple, isB_tuple_bool, isB_tuple_int, isB_tuple_str, isB_tuple_list, isB_tuple_tuple, iSeqA, Dw.rIxL, Dw.rSetL, rTupT, tPar, tNotT, tMkO, tFmt, tJs, tOst, Dw.rIsXD, L2.tXf]
    rw [hI]
    exact ⟨rfl, _, _, rfl⟩
  · intro σ H' h
    rw [hI] at h
    obtain ⟨rfl, x, y, rfl⟩ := h
    try simp only [tSeq, tAsg, tVar, tC, tOp, rI0, rI, tUn, rU, tIfS, tTest, tRet, tRetN, tDrop, tCB, tCons, tNil, tLst, tLstI, tTup, gName, tB, tAnd, tOr, tNot, tAndV, tOrV, tNotV, tIf, tNext, tBreak, tCont, gSub, tCall, tCallN, tAug, ipI, tBML, tBML0, isL_IL, isL_lst, L2.start, List.map_cons, List.map_nil, List.length_cons, List.length_nil, List.cons_append, List.nil_append, List.getElem?_cons_succ, List.getElem?_cons_zero, Option.some.injEq, exists_eq_left', exists_eq_left, exists_and_left, V.int.injEq, V.ref.injEq, V.bl.injEq, V.str.injEq, List.set_cons_zero, List.set_cons_succ, List.cons.injEq, and_true, true_and, Nat.reduceAdd, Nat.reduceSub, List.replicate_succ, List.replicate_zero, rIxI, rIxH, rIxTH, rSetI, rSetH, rCatI, rRepI, rSlI, rAppendI, rExtendI, decide_eq_true_eq, upd_same, IL_inj, HO.lst.injEq, toInts_cons, toInts_nil, Option.map_some, if_true, if_false, Bool.true_eq_false, Bool.false_eq_true, Bool.not_true, Bool.not_false, Bool.not_eq_true', decide_eq_false_iff_not, atI_0, atI_1, atI_2, atI_3, atI_4, Int.reduceToNat, Int.reduceLT, Int.reduceLE, Int.reduceNeg, Int.reducePow, cast_lit, upd_upd, Int.reduceAdd, Int.reduceMul, Int.reduceSub, Nat.reduceLT, Nat.reduceLeDiff, cmul_r, cdiv_r, tSl, tPart, tNoPart, rEq, rNe, scal_nn, scal_ii, scal_bb, scal_ss, scal_is, scal_si, V.ty.injEq, and_assoc, tyH_non, tyH_bl, tyH_int, tyH_str, tyH_ref, tyO_lst, tyO_IL, tyO_tup, itO_lst, itO_tup, itO_IL, Dw.rIxD, rLenI, rLenH, rLenTH, rLenQ, rLenB, rListI, Dw.rListS, rIntI, rIntB, rSumI, rIsiD, rIsX, tCallS, tMakeS, tMake, tMakeC, tMakeSC, tFld, sFld, HO.ins.injEq, HO.tup.injEq, cxOf_K, nox_K, tr_K, suite_K, rTupleI, rAllB, rAnyB, BL_inj, tChain, wOnly, wAs, wMany, rEqI, rNeI, Dw.rMax2, rMin2, Dw.rIsN, rIsNotN, rStrIn, rStrNotIn, not_true_eq_false, not_false_eq_true, reduceCtorEq, cl_bool, cl_int, cl_str, cl_list, cl_tuple, isB_NoneType_bool, isB_NoneType_int, isB_NoneType_str, isB_NoneType_list, isB_NoneType_tuple, isB_bool_bool, isB_bool_int, isB_bool_str, isB_bool_list, isB_bool_tuple, isB_int_bool, isB_int_int, isB_int_str, isB_int_list, isB_int_tuple, isB_str_bool, isB_str_int, isB_str_str, isB_str_list, isB_str_tuple, isB_list_bool, isB_list_int, isB_list_str, isB_list_list, isB_list_tuple, isB_tuple_bool, isB_tuple_int, isB_tuple_str, isB_tuple_list, isB_tuple_tuple, iSeqA, Dw.rIxL, Dw.rSetL, rTupT, tPar, tNotT, tMkO, tFmt, tJs, tOst, Dw.rIsXD, L2.tXf]
    refine ⟨ns, (same_new hp _).seq hS, fun l hl' => ⟨line_le (by decide), fun r hr' => ?_⟩⟩
    have hlp : p ≠ l := ne_of_none upd_same hl'
    have hrl : l ≠ r := ne_of_none upd_same hr'
    refine q r l _ ((same_new hp _).trans ((same_new hl' _).trans (same_new hr' _))) (same_none (same_new hp _) (same_none (same_new hl' _) hr')) (same_none (same_new hp _) hl') ⟨ns, 0, 0, 0, x, upd_same, ?_, Int.le_refl 0, hl⟩
    rw [upd_ne hrl, upd_same]
    rfl
end
section
variable {P : Program} [SupP P] {w : World} {K : PySem.W.Frag} {mg : Str → Option Value} {base : Heap} {A : Ad}
theorem ok_law_same_ (T : Tx K mg A) : ∀ n, FnOk P w K mg base CX0 n A.f_law_same A.d_law_same ["actual", "due"] (spSame n)
  | 0 => none_fn fun vs H Q E ⟨_, _, _, _, _, _, h, _⟩ => by omega
  | n + 1 => by
    have ih := ok_law_same_ T n
    refine T.F_law_same.ok sc_law_same (fun vs H Q E h => ?_) (fun cdv A' outer s H vs Q E hr h => ?_)
    · obtain ⟨x, y, d, rfl, _⟩ := h
      rfl
    obtain ⟨x, y, d, rfl, hx, hy, hd, hs, q⟩ := h
    refine ⟨_, (pss_cons (ps_if (PW.pt (pw_or (pt_val (pe_callB call_isiD (by rfl) T.z_isinstance (by decide +kernel) (pa_cons (pv 1) (pa_cons (pe_bltn (by rfl) T.z_tuple (v := .ty "tuple") (by decide +kernel) rfl) pa_nil)))) (pw_or1 (pt_val (pe_callB call_isiD (by rfl) T.z_isinstance (by decide +kernel) (pa_cons (pv 1) (pa_cons (pe_bltn (by rfl) T.z_list (v := .ty "list") (by decide +kernel) rfl) pa_nil))))))) (pss_cons (ps_if (PW.pt (pw_or (pt_cmpR op_ne (pe_callB call_isiD (by rfl) T.z_isinstance (by decide +kernel) (pa_cons (pv 1) (pa_cons (pe_bltn (by rfl) T.z_tuple (v := .ty "tuple") (by decide +kernel) rfl) pa_nil))) (pe_callB call_isiD (by rfl) T.z_isinstance (by decide +kernel) (pa_cons (pv 0) (pa_cons (pe_bltn (by rfl) T.z_tuple (v := .ty "tuple") (by decide +kernel) rfl) pa_nil))) (nomark _)) (pw_or1 (pt_cmpR op_ne (pe_callB call_isiD (by rfl) T.z_isinstance (by decide +kernel) (pa_cons (pv 1) (pa_cons (pe_bltn (by rfl) T.z_list (v := .ty "list") (by decide +kernel) rfl) pa_nil))) (pe_callB call_isiD (by rfl) T.z_isinstance (by decide +kernel) (pa_cons (pv 0) (pa_cons (pe_bltn (by rfl) T.z_list (v := .ty "list") (by decide +kernel) rfl) pa_nil))) (nomark _))))) (pss_one (ps_ret pe_bl)) pss_nil)
      (pss_cons (ps_if (pt_cmpR op_ne (pe_callB call_lenQ (by rfl) T.z_len (by decide +kernel) (pa_cons (pv 0) pa_nil)) (pe_callB call_lenB (by rfl) T.z_len (by decide +kernel) (pa_cons (pv 1) pa_nil)) (nomark _)) (pss_one (ps_ret pe_bl)) pss_nil)
      (pss_cons (ps_for PassesOwn.never rfl (pi_range1 rfl T.z_range (pa_cons (pe_callB call_lenB (by rfl) T.z_len (by decide +kernel) (pa_cons (pv 1) pa_nil)) pa_nil)) (pg_name (i := 2) sc_law_same.nd rfl (Or.inl rfl))
        (pss_one (ps_if (pt_not (pt_val (pe_call ih hr rfl T.g_law_same T.F_law_same.kp T.b_law_same .nil pass0 (pa_cons (pe_ix ix_seqD (pv 0) (pv 2) (fun _ _ => rfl)) (pa_cons (pe_ix ix_seqD (pv 1) (pv 2) (fun _ _ => rfl)) pa_nil))))) (pss_one (ps_ret pe_bl)) pss_nil)))
      (pss_one (ps_ret pe_bl))))) pss_nil)
      (pss_cons (ps_if (pt_cmpR op_isNone (pv 1) pe_non (nomark _)) (pss_one (ps_ret (pe_cmpR op_isNone (pv 0) pe_non (nomark _)))) pss_nil)
      (pss_cons (ps_if (pt_val (pe_callB call_isiD (by rfl) T.z_isinstance (by decide +kernel) (pa_cons (pv 1) (pa_cons (pe_bltn (by rfl) T.z_bool (v := .ty "bool") (by decide +kernel) rfl) pa_nil)))) (pss_one (ps_ret (pe_and (pe_callB call_isiD (by rfl) T.z_isinstance (by decide +kernel) (pa_cons (pv 0) (pa_cons (pe_bltn (by rfl) T.z_bool (v := .ty "bool") (by decide +kernel) rfl) pa_nil))) (pe_one (pe_cmpR op_eq (pv 0) (pv 1) (nomark _)))))) pss_nil)
      (pss_cons (ps_if (pt_val (pe_callB call_isiD (by rfl) T.z_isinstance (by decide +kernel) (pa_cons (pv 1) (pa_cons (pe_bltn (by rfl) T.z_int (v := .ty "int") (by decide +kernel) rfl) pa_nil)))) (pss_one (ps_ret (pe_and (pe_callB call_isiD (by rfl) T.z_isinstance (by decide +kernel) (pa_cons (pv 0) (pa_cons (pe_bltn (by rfl) T.z_int (v := .ty "int") (by decide +kernel) rfl) pa_nil))) (pe_and (pe_not (pe_callB call_isiD (by rfl) T.z_isinstance (by decide +kernel) (pa_cons (pv 0) (pa_cons (pe_bltn (by rfl) T.z_bool (v := .ty "bool") (by decide +kernel) rfl) pa_nil)))) (pe_one (pe_cmpR op_eq (pv 0) (pv 1) (nomark _))))))) pss_nil)
      (pss_one (ps_ret (pe_and (pe_callB call_isiD (by rfl) T.z_isinstance (by decide +kernel) (pa_cons (pv 0) (pa_cons (pe_bltn (by rfl) T.z_str (v := .ty "str") (by decide +kernel) rfl) pa_nil))) (pe_one (pe_cmpR op_eq (pv 0) (pv 1) (nomark _)))))))))), ?_⟩
    cases d with
    | none => 
      cases hx; cases hy
      try simp only [tSeq, tAsg, tVar, tC, tOp, rI0, rI, tUn, rU, tIfS, tTest, tRet, tRetN, tDrop, tCB, tCons, tNil, tLst, tLstI, tTup, gName, tB, tAnd, tOr, tNot, tAndV, tOrV, tNotV, tIf, tNext, tBreak, tCont, gSub, tCall, tCallN, tAug, ipI, tBML, tBML0, isL_IL, isL_lst, L2.start, List.map_cons, List.map_nil, List.length_cons, List.length_nil, List.cons_append, List.nil_append, List.getElem?_cons_succ, List.getElem?_cons_zero, Option.some.injEq, exists_eq_left', exists_eq_left, exists_and_left, V.int.injEq, V.ref.injEq, V.bl.injEq, V.str.injEq, List.set_cons_zero, List.set_cons_succ, List.cons.injEq, and_true, true_and, Nat.reduceAdd, Nat.reduceSub, List.replicate_succ, List.replicate_zero, rIxI, rIxH, rIxTH, rSetI, rSetH, rCatI, rRepI, rSlI, rAppendI, rExtendI, decide_eq_true_eq, upd_same, IL_inj, HO.lst.injEq, toInts_cons, toInts_nil, Option.map_some, if_true, if_false, Bool.true_eq_false, Bool.false_eq_true, Bool.not_true, Bool.not_false, Bool.not_eq_true', decide_eq_false_iff_not, atI_0, atI_1, atI_2, atI_3, atI_4, Int.reduceToNat, Int.reduceLT, Int.reduceLE, Int.reduceNeg, Int.reducePow, cast_lit, upd_upd, Int.reduceAdd, Int.reduceMul, Int.reduceSub, Nat.reduceLT, Nat.reduceLeDiff, cmul_r, cdiv_r, tSl, tPart, tNoPart, rEq, rNe, scal_nn, scal_ii, scal_bb, scal_ss, scal_is, scal_si, V.ty.injEq, and_assoc, tyH_non, tyH_bl, tyH_int, tyH_str, tyH_ref, tyO_lst, tyO_IL, tyO_tup, itO_lst, itO_tup, itO_IL, Dw.rIxD, rLenI, rLenH, rLenTH, rLenQ, rLenB, rListI, Dw.rListS, rIntI, rIntB, rSumI, rIsiD, rIsX, tCallS, tMakeS, tMake, tMakeC, tMakeSC, tFld, sFld, HO.ins.injEq, HO.tup.injEq, cxOf_K, nox_K, tr_K, suite_K, rTupleI, rAllB, rAnyB, BL_inj, tChain, wOnly, wAs, wMany, rEqI, rNeI, Dw.rMax2, rMin2, Dw.rIsN, rIsNotN, rStrIn, rStrNotIn, not_true_eq_false, not_false_eq_true, reduceCtorEq, cl_bool, cl_int, cl_str, cl_list, cl_tuple, isB_NoneType_bool, isB_NoneType_int, isB_NoneType_str, isB_NoneType_list, isB_NoneType_tuple, isB_bool_bool, isB_bool_int, isB_bool_str, isB_bool_list, isB_bool_tuple, isB_int_bool, isB_int_int, isB_int_str, isB_int_list, isB_int_tuple, isB_str_bool, isB_str_int, isB_str_str, isB_str_list, isB_str_tuple, isB_list_bool, isB_list_int, isB_list_str, isB_list_list, isB_list_tuple, isB_tuple_bool, isB_tuple_int, isB_tuple_str, isB_tuple_list, isB_tuple_tuple, iSeqA, Dw.rIxL, Dw.rSetL, rTupT, tPar, tNotT, tMkO, tFmt, tJs, tOst, Dw.rIsXD, L2.tXf, decide_true]
      exact q
    | int i =>
      cases hx; cases hy
      try simp only [tSeq, tAsg, tVar, tC, tOp, rI0, rI, tUn, rU, tIfS, tTest, tRet, tRetN, tDrop, tCB, tCons, tNil, tLst, tLstI, tTup, gName, tB, tAnd, tOr, tNot, tAndV, tOrV, tNotV, tIf, tNext, tBreak, tCont, gSub, tCall, tCallN, tAug, ipI, tBML, tBML0, isL_IL, isL_lst, L2.start, List.map_cons, List.map_nil, List.length_cons, List.length_nil, List.cons_append, List.nil_append, List.getElem?_cons_succ, List.getElem?_cons_zero, Option.some.injEq, exists_eq_left', exists_eq_left, exists_and_left, V.int.injEq, V.ref.injEq, V.bl.injEq, V.str.injEq, List.set_cons_zero, List.set_cons_succ, List.cons.injEq, and_true, true_and, Nat.reduceAdd, Nat.reduceSub, List.replicate_succ, List.replicate_zero, rIxI, rIxH, rIxTH, rSetI, rSetH, rCatI, rRepI, rSlI, rAppendI, rExtendI, decide_eq_true_eq, upd_same, IL_inj, HO.lst.injEq, toInts_cons, toInts_nil, Option.map_some, if_true, if_false, Bool.true_eq_false, Bool.false_eq_true, Bool.not_true, Bool.not_false, Bool.not_eq_true', decide_eq_false_iff_not, atI_0, atI_1, atI_2, atI_3, atI_4, Int.reduceToNat, Int.reduceLT, Int.reduceLE, Int.reduceNeg, Int.reducePow, cast_lit, upd_upd, Int.reduceAdd, Int.reduceMul, Int.reduceSub, Nat.reduceLT, Nat.reduceLeDiff, cmul_r, cdiv_r, tSl, tPart, tNoPart, rEq, rNe, scal_nn, scal_ii, scal_bb, scal_ss, scal_is, scal_si, V.ty.injEq, and_assoc, tyH_non, tyH_bl, tyH_int, tyH_str, tyH_ref, tyO_lst, tyO_IL, tyO_tup, itO_lst, itO_tup, itO_IL, Dw.rIxD, rLenI, rLenH, rLenTH, rLenQ, rLenB, rListI, Dw.rListS, rIntI, rIntB, rSumI, rIsiD, rIsX, tCallS, tMakeS, tMake, tMakeC, tMakeSC, tFld, sFld, HO.ins.injEq, HO.tup.injEq, cxOf_K, nox_K, tr_K, suite_K, rTupleI, rAllB, rAnyB, BL_inj, tChain, wOnly, wAs, wMany, rEqI, rNeI, Dw.rMax2, rMin2, Dw.rIsN, rIsNotN, rStrIn, rStrNotIn, not_true_eq_false, not_false_eq_true, reduceCtorEq, cl_bool, cl_int, cl_str, cl_list, cl_tuple, isB_NoneType_bool, isB_NoneType_int, isB_NoneType_str, isB_NoneType_list, isB_NoneType_tuple, isB_bool_bool, isB_bool_int, isB_bool_str, isB_bool_list, isB_bool_tuple, isB_int_bool, isB_int_int, isB_int_str, isB_int_list, isB_int_tuple, isB_str_bool, isB_str_int, isB_str_str, isB_str_list, isB_str_tuple, isB_list_bool, isB_list_int, isB_list_str, isB_list_list, isB_list_tuple, isB_tuple_bool, isB_tuple_int, isB_tuple_str, isB_tuple_list, isB_tuple_tuple, iSeqA, Dw.rIxL, Dw.rSetL, rTupT, tPar, tNotT, tMkO, tFmt, tJs, tOst, Dw.rIsXD, L2.tXf, decide_true]
      exact q
    | bool i =>
      cases hx; cases hy
      try simp only [tSeq, tAsg, tVar, tC, tOp, rI0, rI, tUn, rU, tIfS, tTest, tRet, tRetN, tDrop, tCB, tCons, tNil, tLst, tLstI, tTup, gName, tB, tAnd, tOr, tNot, tAndV, tOrV, tNotV, tIf, tNext, tBreak, tCont, gSub, tCall, tCallN, tAug, ipI, tBML, tBML0, isL_IL, isL_lst, L2.start, List.map_cons, List.map_nil, List.length_cons, List.length_nil, List.cons_append, List.nil_append, List.getElem?_cons_succ, List.getElem?_cons_zero, Option.some.injEq, exists_eq_left', exists_eq_left, exists_and_left, V.int.injEq, V.ref.injEq, V.bl.injEq, V.str.injEq, List.set_cons_zero, List.set_cons_succ, List.cons.injEq, and_true, true_and, Nat.reduceAdd, Nat.reduceSub, List.replicate_succ, List.replicate_zero, rIxI, rIxH, rIxTH, rSetI, rSetH, rCatI, rRepI, rSlI, rAppendI, rExtendI, decide_eq_true_eq, upd_same, IL_inj, HO.lst.injEq, toInts_cons, toInts_nil, Option.map_some, if_true, if_false, Bool.true_eq_false, Bool.false_eq_true, Bool.not_true, Bool.not_false, Bool.not_eq_true', decide_eq_false_iff_not, atI_0, atI_1, atI_2, atI_3, atI_4, Int.reduceToNat, Int.reduceLT, Int.reduceLE, Int.reduceNeg, Int.reducePow, cast_lit, upd_upd, Int.reduceAdd, Int.reduceMul, Int.reduceSub, Nat.reduceLT, Nat.reduceLeDiff, cmul_r, cdiv_r, tSl, tPart, tNoPart, rEq, rNe, scal_nn, scal_ii, scal_bb, scal_ss, scal_is, scal_si, V.ty.injEq, and_assoc, tyH_non, tyH_bl, tyH_int, tyH_str, tyH_ref, tyO_lst, tyO_IL, tyO_tup, itO_lst, itO_tup, itO_IL, Dw.rIxD, rLenI, rLenH, rLenTH, rLenQ, rLenB, rListI, Dw.rListS, rIntI, rIntB, rSumI, rIsiD, rIsX, tCallS, tMakeS, tMake, tMakeC, tMakeSC, tFld, sFld, HO.ins.injEq, HO.tup.injEq, cxOf_K, nox_K, tr_K, suite_K, rTupleI, rAllB, rAnyB, BL_inj, tChain, wOnly, wAs, wMany, rEqI, rNeI, Dw.rMax2, rMin2, Dw.rIsN, rIsNotN, rStrIn, rStrNotIn, not_true_eq_false, not_false_eq_true, reduceCtorEq, cl_bool, cl_int, cl_str, cl_list, cl_tuple, isB_NoneType_bool, isB_NoneType_int, isB_NoneType_str, isB_NoneType_list, isB_NoneType_tuple, isB_bool_bool, isB_bool_int, isB_bool_str, isB_bool_list, isB_bool_tuple, isB_int_bool, isB_int_int, isB_int_str, isB_int_list, isB_int_tuple, isB_str_bool, isB_str_int, isB_str_str, isB_str_list, isB_str_tuple, isB_list_bool, isB_list_int, isB_list_str, isB_list_list, isB_list_tuple, isB_tuple_bool, isB_tuple_int, isB_tuple_str, isB_tuple_list, isB_tuple_tuple, iSeqA, Dw.rIxL, Dw.rSetL, rTupT, tPar, tNotT, tMkO, tFmt, tJs, tOst, Dw.rIsXD, L2.tXf, decide_true]
      exact q
    | str i =>
      cases hx; cases hy
      try simp only [tSeq, tAsg, tVar, tC, tOp, rI0, rI, tUn, rU, tIfS, tTest, tRet, tRetN, tDrop, tCB, tCons, tNil, tLst, tLstI, tTup, gName, tB, tAnd, tOr, tNot, tAndV, tOrV, tNotV, tIf, tNext, tBreak, tCont, gSub, tCall, tCallN, tAug, ipI, tBML, tBML0, isL_IL, isL_lst, L2.start, List.map_cons, List.map_nil, List.length_cons, List.length_nil, List.cons_append, List.nil_append, List.getElem?_cons_succ, List.getElem?_cons_zero, Option.some.injEq, exists_eq_left', exists_eq_left, exists_and_left, V.int.injEq, V.ref.injEq, V.bl.injEq, V.str.injEq, List.set_cons_zero, List.set_cons_succ, List.cons.injEq, and_true, true_and, Nat.reduceAdd, Nat.reduceSub, List.replicate_succ, List.replicate_zero, rIxI, rIxH, rIxTH, rSetI, rSetH, rCatI, rRepI, rSlI, rAppendI, rExtendI, decide_eq_true_eq, upd_same, IL_inj, HO.lst.injEq, toInts_cons, toInts_nil, Option.map_some, if_true, if_false, Bool.true_eq_false, Bool.false_eq_true, Bool.not_true, Bool.not_false, Bool.not_eq_true', decide_eq_false_iff_not, atI_0, atI_1, atI_2, atI_3, atI_4, Int.reduceToNat, Int.reduceLT, Int.reduceLE, Int.reduceNeg, Int.reducePow, cast_lit, upd_upd, Int.reduceAdd, Int.reduceMul, Int.reduceSub, Nat.reduceLT, Nat.reduceLeDiff, cmul_r, cdiv_r, tSl, tPart, tNoPart, rEq, rNe, scal_nn, scal_ii, scal_bb, scal_ss, scal_is, scal_si, V.ty.injEq, and_assoc, tyH_non, tyH_bl, tyH_int, tyH_str, tyH_ref, tyO_lst, tyO_IL, tyO_tup, itO_lst, itO_tup, itO_IL, Dw.rIxD, rLenI, rLenH, rLenTH, rLenQ, rLenB, rListI, Dw.rListS, rIntI, rIntB, rSumI, rIsiD, rIsX, tCallS, tMakeS, tMake, tMakeC, tMakeSC, tFld, sFld, HO.ins.injEq, HO.tup.injEq, cxOf_K, nox_K, tr_K, suite_K, rTupleI, rAllB, rAnyB, BL_inj, tChain, wOnly, wAs, wMany, rEqI, rNeI, Dw.rMax2, rMin2, Dw.rIsN, rIsNotN, rStrIn, rStrNotIn, not_true_eq_false, not_false_eq_true, reduceCtorEq, cl_bool, cl_int, cl_str, cl_list, cl_tuple, isB_NoneType_bool, isB_NoneType_int, isB_NoneType_str, isB_NoneType_list, isB_NoneType_tuple, isB_bool_bool, isB_bool_int, isB_bool_str, isB_bool_list, isB_bool_tuple, isB_int_bool, isB_int_int, isB_int_str, isB_int_list, isB_int_tuple, isB_str_bool, isB_str_int, isB_str_str, isB_str_list, isB_str_tuple, isB_list_bool, isB_list_int, isB_list_str, isB_list_list, isB_list_tuple, isB_tuple_bool, isB_tuple_int, isB_tuple_str, isB_tuple_list, isB_tuple_tuple, iSeqA, Dw.rIxL, Dw.rSetL, rTupT, tPar, tNotT, tMkO, tFmt, tJs, tOst, Dw.rIsXD, L2.tXf, decide_true]
      exact q
    | dict _ => cases hx
    | list ds =>
      cases hx with | lst hx1 hx2 =>
      cases hy with | lst hy1 hy2 =>
      rename_i a xs b ys
      have ex := dtAll_len hx2
      have ey := dtAll_len hy2
      have exy : ¬ ¬ (xs.length : Int) = ys.length := fun z => z (by rw [ex, ey])
      simp only [SeqAt.shaped, Bool.and_eq_true, PyData.depth, PyData.canLay0] at hs hd
      have hs2 : PyData.depthAll ds + 1 ≤ 64 := of_decide_eq_true hs.2
      obtain ⟨I, hI⟩ : ∃ F : Nat → L2.St → Hp → Prop, F = (fun i σ H' => H' = H ∧ ∃ y, σ = [some (V.ref a), some (V.ref b), y]) := ⟨_, rfl⟩
      try simp only [tSeq, tAsg, tVar, tC, tOp, rI0, rI, tUn, rU, tIfS, tTest, tRet, tRetN, tDrop, tCB, tCons, tNil, tLst, tLstI, tTup, gName, tB, tAnd, tOr, tNot, tAndV, tOrV, tNotV, tIf, tNext, tBreak, tCont, gSub, tCall, tCallN, tAug, ipI, tBML, tBML0, isL_IL, isL_lst, L2.start, List.map_cons, List.map_nil, List.length_cons, List.length_nil, List.cons_append, List.nil_append, List.getElem?_cons_succ, List.getElem?_cons_zero, Option.some.injEq, exists_eq_left', exists_eq_left, exists_and_left, V.int.injEq, V.ref.injEq, V.bl.injEq, V.str.injEq, List.set_cons_zero, List.set_cons_succ, List.cons.injEq, and_true, true_and, Nat.reduceAdd, Nat.reduceSub, List.replicate_succ, List.replicate_zero, rIxI, rIxH, rIxTH, rSetI, rSetH, rCatI, rRepI, rSlI, rAppendI, rExtendI, decide_eq_true_eq, upd_same, IL_inj, HO.lst.injEq, toInts_cons, toInts_nil, Option.map_some, if_true, if_false, Bool.true_eq_false, Bool.false_eq_true, Bool.not_true, Bool.not_false, Bool.not_eq_true', decide_eq_false_iff_not, atI_0, atI_1, atI_2, atI_3, atI_4, Int.reduceToNat, Int.reduceLT, Int.reduceLE, Int.reduceNeg, Int.reducePow, cast_lit, upd_upd, Int.reduceAdd, Int.reduceMul, Int.reduceSub, Nat.reduceLT, Nat.reduceLeDiff, cmul_r, cdiv_r, tSl, tPart, tNoPart, rEq, rNe, scal_nn, scal_ii, scal_bb, scal_ss, scal_is, scal_si, V.ty.injEq, and_assoc, tyH_non, tyH_bl, tyH_int, tyH_str, tyH_ref, tyO_lst, tyO_IL, tyO_tup, itO_lst, itO_tup, itO_IL, Dw.rIxD, rLenI, rLenH, rLenTH, rLenQ, rLenB, rListI, Dw.rListS, rIntI, rIntB, rSumI, rIsiD, rIsX, tCallS, tMakeS, tMake, tMakeC, tMakeSC, tFld, sFld, HO.ins.injEq, HO.tup.injEq, cxOf_K, nox_K, tr_K, suite_K, rTupleI, rAllB, rAnyB, BL_inj, tChain, wOnly, wAs, wMany, rEqI, rNeI, Dw.rMax2, rMin2, Dw.rIsN, rIsNotN, rStrIn, rStrNotIn, not_true_eq_false, not_false_eq_true, reduceCtorEq, cl_bool, cl_int, cl_str, cl_list, cl_tuple, isB_NoneType_bool, isB_NoneType_int, isB_NoneType_str, isB_NoneType_list, isB_NoneType_tuple, isB_bool_bool, isB_bool_int, isB_bool_str, isB_bool_list, isB_bool_tuple, isB_int_bool, isB_int_int, isB_int_str, isB_int_list, isB_int_tuple, isB_str_bool, isB_str_int, isB_str_str, isB_str_list, isB_str_tuple, isB_list_bool, isB_list_int, isB_list_str, isB_list_list, isB_list_tuple, isB_tuple_bool, isB_tuple_int, isB_tuple_str, isB_tuple_list, isB_tuple_tuple, iSeqA, Dw.rIxL, Dw.rSetL, rTupT, tPar, tNotT, tMkO, tFmt, tJs, tOst, Dw.rIsXD, L2.tXf, decide_true, hx1, hy1]
      intro hz
      rw [if_neg exy]
      refine ⟨_, rfl, b, _, rfl, by rw [hy1]; rfl, fun _ => ⟨ys.length, rfl, by omega, by omega, for_range (lo := 0) (n := ((ys.length : Nat) : Int).toNat) I (by rw [hI]; exact ⟨rfl, none, rfl⟩) ?_ ?_⟩⟩
      · intro i σ H' hi h
        rw [hI] at h
        obtain ⟨rfl, y, rfl⟩ := h
        obtain ⟨x1, d1, g1, g2, g3⟩ := dtAll_get (i := i) hx2 (by omega)
        obtain ⟨x2, d2, k1, k2, k3⟩ := dtAll_get (i := i) hy2 (by omega)
        have ed : d2 = d1 := Option.some.inj (k2.symm.trans g2)
        subst ed
        have e0 : (0 : Int) + (i : Int) = ((i : Nat) : Int) := by omega
        rw [e0]
        try simp only [tSeq, tAsg, tVar, tC, tOp, rI0, rI, tUn, rU, tIfS, tTest, tRet, tRetN, tDrop, tCB, tCons, tNil, tLst, tLstI, tTup, gName, tB, tAnd, tOr, tNot, tAndV, tOrV, tNotV, tIf, tNext, tBreak, tCont, gSub, tCall, tCallN, tAug, ipI, tBML, tBML0, isL_IL, isL_lst, L2.start, List.map_cons, List.map_nil, List.length_cons, List.length_nil, List.cons_append, List.nil_append, List.getElem?_cons_succ, List.getElem?_cons_zero, Option.some.injEq, exists_eq_left', exists_eq_left, exists_and_left, V.int.injEq, V.ref.injEq, V.bl.injEq, V.str.injEq, List.set_cons_zero, List.set_cons_succ, List.cons.injEq, and_true, true_and, Nat.reduceAdd, Nat.reduceSub, List.replicate_succ, List.replicate_zero, rIxI, rIxH, rIxTH, rSetI, rSetH, rCatI, rRepI, rSlI, rAppendI, rExtendI, decide_eq_true_eq, upd_same, IL_inj, HO.lst.injEq, toInts_cons, toInts_nil, Option.map_some, if_true, if_false, Bool.true_eq_false, Bool.false_eq_true, Bool.not_true, Bool.not_false, Bool.not_eq_true', decide_eq_false_iff_not, atI_0, atI_1, atI_2, atI_3, atI_4, Int.reduceToNat, Int.reduceLT, Int.reduceLE, Int.reduceNeg, Int.reducePow, cast_lit, upd_upd, Int.reduceAdd, Int.reduceMul, Int.reduceSub, Nat.reduceLT, Nat.reduceLeDiff, cmul_r, cdiv_r, tSl, tPart, tNoPart, rEq, rNe, scal_nn, scal_ii, scal_bb, scal_ss, scal_is, scal_si, V.ty.injEq, and_assoc, tyH_non, tyH_bl, tyH_int, tyH_str, tyH_ref, tyO_lst, tyO_IL, tyO_tup, itO_lst, itO_tup, itO_IL, Dw.rIxD, rLenI, rLenH, rLenTH, rLenQ, rLenB, rListI, Dw.rListS, rIntI, rIntB, rSumI, rIsiD, rIsX, tCallS, tMakeS, tMake, tMakeC, tMakeSC, tFld, sFld, HO.ins.injEq, HO.tup.injEq, cxOf_K, nox_K, tr_K, suite_K, rTupleI, rAllB, rAnyB, BL_inj, tChain, wOnly, wAs, wMany, rEqI, rNeI, Dw.rMax2, rMin2, Dw.rIsN, rIsNotN, rStrIn, rStrNotIn, not_true_eq_false, not_false_eq_true, reduceCtorEq, cl_bool, cl_int, cl_str, cl_list, cl_tuple, isB_NoneType_bool, isB_NoneType_int, isB_NoneType_str, isB_NoneType_list, isB_NoneType_tuple, isB_bool_bool, isB_bool_int, isB_bool_str, isB_bool_list, isB_bool_tuple, isB_int_bool, isB_int_int, isB_int_str, isB_int_list, isB_int_tuple, isB_str_bool, isB_str_int, isB_str_str, isB_str_list, isB_str_tuple, isB_list_bool, isB_list_int, isB_list_str, isB_list_list, isB_list_tuple, isB_tuple_bool, isB_tuple_int, isB_tuple_str, isB_tuple_list, isB_tuple_tuple, iSeqA, Dw.rIxL, Dw.rSetL, rTupT, tPar, tNotT, tMkO, tFmt, tJs, tOst, Dw.rIsXD, L2.tXf, hx1, hy1, atI_k, g1, k1]
        have hdp := depthAll_get g2
        refine ⟨_, _, d2, rfl, g3, k3, by omega, shaped_item g2 hs.1 (by omega), true, rfl, ?_⟩
        try simp only [tSeq, tAsg, tVar, tC, tOp, rI0, rI, tUn, rU, tIfS, tTest, tRet, tRetN, tDrop, tCB, tCons, tNil, tLst, tLstI, tTup, gName, tB, tAnd, tOr, tNot, tAndV, tOrV, tNotV, tIf, tNext, tBreak, tCont, gSub, tCall, tCallN, tAug, ipI, tBML, tBML0, isL_IL, isL_lst, L2.start, List.map_cons, List.map_nil, List.length_cons, List.length_nil, List.cons_append, List.nil_append, List.getElem?_cons_succ, List.getElem?_cons_zero, Option.some.injEq, exists_eq_left', exists_eq_left, exists_and_left, V.int.injEq, V.ref.injEq, V.bl.injEq, V.str.injEq, List.set_cons_zero, List.set_cons_succ, List.cons.injEq, and_true, true_and, Nat.reduceAdd, Nat.reduceSub, List.replicate_succ, List.replicate_zero, rIxI, rIxH, rIxTH, rSetI, rSetH, rCatI, rRepI, rSlI, rAppendI, rExtendI, decide_eq_true_eq, upd_same, IL_inj, HO.lst.injEq, toInts_cons, toInts_nil, Option.map_some, if_true, if_false, Bool.true_eq_false, Bool.false_eq_true, Bool.not_true, Bool.not_false, Bool.not_eq_true', decide_eq_false_iff_not, atI_0, atI_1, atI_2, atI_3, atI_4, Int.reduceToNat, Int.reduceLT, Int.reduceLE, Int.reduceNeg, Int.reducePow, cast_lit, upd_upd, Int.reduceAdd, Int.reduceMul, Int.reduceSub, Nat.reduceLT, Nat.reduceLeDiff, cmul_r, cdiv_r, tSl, tPart, tNoPart, rEq, rNe, scal_nn, scal_ii, scal_bb, scal_ss, scal_is, scal_si, V.ty.injEq, and_assoc, tyH_non, tyH_bl, tyH_int, tyH_str, tyH_ref, tyO_lst, tyO_IL, tyO_tup, itO_lst, itO_tup, itO_IL, Dw.rIxD, rLenI, rLenH, rLenTH, rLenQ, rLenB, rListI, Dw.rListS, rIntI, rIntB, rSumI, rIsiD, rIsX, tCallS, tMakeS, tMake, tMakeC, tMakeSC, tFld, sFld, HO.ins.injEq, HO.tup.injEq, cxOf_K, nox_K, tr_K, suite_K, rTupleI, rAllB, rAnyB, BL_inj, tChain, wOnly, wAs, wMany, rEqI, rNeI, Dw.rMax2, rMin2, Dw.rIsN, rIsNotN, rStrIn, rStrNotIn, not_true_eq_false, not_false_eq_true, reduceCtorEq, cl_bool, cl_int, cl_str, cl_list, cl_tuple, isB_NoneType_bool, isB_NoneType_int, isB_NoneType_str, isB_NoneType_list, isB_NoneType_tuple, isB_bool_bool, isB_bool_int, isB_bool_str, isB_bool_list, isB_bool_tuple, isB_int_bool, isB_int_int, isB_int_str, isB_int_list, isB_int_tuple, isB_str_bool, isB_str_int, isB_str_str, isB_str_list, isB_str_tuple, isB_list_bool, isB_list_int, isB_list_str, isB_list_list, isB_list_tuple, isB_tuple_bool, isB_tuple_int, isB_tuple_str, isB_tuple_list, isB_tuple_tuple, iSeqA, Dw.rIxL, Dw.rSetL, rTupT, tPar, tNotT, tMkO, tFmt, tJs, tOst, Dw.rIsXD, L2.tXf]
        rw [hI]
        exact ⟨rfl, _, rfl⟩
      · intro σ H' h
        rw [hI] at h
        obtain ⟨rfl, y, rfl⟩ := h
        try simp only [tSeq, tAsg, tVar, tC, tOp, rI0, rI, tUn, rU, tIfS, tTest, tRet, tRetN, tDrop, tCB, tCons, tNil, tLst, tLstI, tTup, gName, tB, tAnd, tOr, tNot, tAndV, tOrV, tNotV, tIf, tNext, tBreak, tCont, gSub, tCall, tCallN, tAug, ipI, tBML, tBML0, isL_IL, isL_lst, L2.start, List.map_cons, List.map_nil, List.length_cons, List.length_nil, List.cons_append, List.nil_append, List.getElem?_cons_succ, List.getElem?_cons_zero, Option.some.injEq, exists_eq_left', exists_eq_left, exists_and_left, V.int.injEq, V.ref.injEq, V.bl.injEq, V.str.injEq, List.set_cons_zero, List.set_cons_succ, List.cons.injEq, and_true, true_and, Nat.reduceAdd, Nat.reduceSub, List.replicate_succ, List.replicate_zero, rIxI, rIxH, rIxTH, rSetI, rSetH, rCatI, rRepI, rSlI, rAppendI, rExtendI, decide_eq_true_eq, upd_same, IL_inj, HO.lst.injEq, toInts_cons, toInts_nil, Option.map_some, if_true, if_false, Bool.true_eq_false, Bool.false_eq_true, Bool.not_true, Bool.not_false, Bool.not_eq_true', decide_eq_false_iff_not, atI_0, atI_1, atI_2, atI_3, atI_4, Int.reduceToNat, Int.reduceLT, Int.reduceLE, Int.reduceNeg, Int.reducePow, cast_lit, upd_upd, Int.reduceAdd, Int.reduceMul, Int.reduceSub, Nat.reduceLT, Nat.reduceLeDiff, cmul_r, cdiv_r, tSl, tPart, tNoPart, rEq, rNe, scal_nn, scal_ii, scal_bb, scal_ss, scal_is, scal_si, V.ty.injEq, and_assoc, tyH_non, tyH_bl, tyH_int, tyH_str, tyH_ref, tyO_lst, tyO_IL, tyO_tup, itO_lst, itO_tup, itO_IL, Dw.rIxD, rLenI, rLenH, rLenTH, rLenQ, rLenB, rListI, Dw.rListS, rIntI, rIntB, rSumI, rIsiD, rIsX, tCallS, tMakeS, tMake, tMakeC, tMakeSC, tFld, sFld, HO.ins.injEq, HO.tup.injEq, cxOf_K, nox_K, tr_K, suite_K, rTupleI, rAllB, rAnyB, BL_inj, tChain, wOnly, wAs, wMany, rEqI, rNeI, Dw.rMax2, rMin2, Dw.rIsN, rIsNotN, rStrIn, rStrNotIn, not_true_eq_false, not_false_eq_true, reduceCtorEq, cl_bool, cl_int, cl_str, cl_list, cl_tuple, isB_NoneType_bool, isB_NoneType_int, isB_NoneType_str, isB_NoneType_list, isB_NoneType_tuple, isB_bool_bool, isB_bool_int, isB_bool_str, isB_bool_list, isB_bool_tuple, isB_int_bool, isB_int_int, isB_int_str, isB_int_list, isB_int_tuple, isB_str_bool, isB_str_int, isB_str_str, isB_str_list, isB_str_tuple, isB_list_bool, isB_list_int, isB_list_str, isB_list_list, isB_list_tuple, isB_tuple_bool, isB_tuple_int, isB_tuple_str, isB_tuple_list, isB_tuple_tuple, iSeqA, Dw.rIxL, Dw.rSetL, rTupT, tPar, tNotT, tMkO, tFmt, tJs, tOst, Dw.rIsXD, L2.tXf]
        exact q
    | tuple ds =>
      cases hx with | tup hx1 hx2 =>
      cases hy with | tup hy1 hy2 =>
      rename_i a xs b ys
      have ex := dtAll_len hx2
      have ey := dtAll_len hy2
      have exy : ¬ ¬ (xs.length : Int) = ys.length := fun z => z (by rw [ex, ey])
      simp only [SeqAt.shaped, Bool.and_eq_true, PyData.depth, PyData.canLay0] at hs hd
      have hs2 : PyData.depthAll ds + 1 ≤ 64 := of_decide_eq_true hs.2
      obtain ⟨I, hI⟩ : ∃ F : Nat → L2.St → Hp → Prop, F = (fun i σ H' => H' = H ∧ ∃ y, σ = [some (V.ref a), some (V.ref b), y]) := ⟨_, rfl⟩
      try simp only [tSeq, tAsg, tVar, tC, tOp, rI0, rI, tUn, rU, tIfS, tTest, tRet, tRetN, tDrop, tCB, tCons, tNil, tLst, tLstI, tTup, gName, tB, tAnd, tOr, tNot, tAndV, tOrV, tNotV, tIf, tNext, tBreak, tCont, gSub, tCall, tCallN, tAug, ipI, tBML, tBML0, isL_IL, isL_lst, L2.start, List.map_cons, List.map_nil, List.length_cons, List.length_nil, List.cons_append, List.nil_append, List.getElem?_cons_succ, List.getElem?_cons_zero, Option.some.injEq, exists_eq_left', exists_eq_left, exists_and_left, V.int.injEq, V.ref.injEq, V.bl.injEq, V.str.injEq, List.set_cons_zero, List.set_cons_succ, List.cons.injEq, and_true, true_and, Nat.reduceAdd, Nat.reduceSub, List.replicate_succ, List.replicate_zero, rIxI, rIxH, rIxTH, rSetI, rSetH, rCatI, rRepI, rSlI, rAppendI, rExtendI, decide_eq_true_eq, upd_same, IL_inj, HO.lst.injEq, toInts_cons, toInts_nil, Option.map_some, if_true, if_false, Bool.true_eq_false, Bool.false_eq_true, Bool.not_true, Bool.not_false, Bool.not_eq_true', decide_eq_false_iff_not, atI_0, atI_1, atI_2, atI_3, atI_4, Int.reduceToNat, Int.reduceLT, Int.reduceLE, Int.reduceNeg, Int.reducePow, cast_lit, upd_upd, Int.reduceAdd, Int.reduceMul, Int.reduceSub, Nat.reduceLT, Nat.reduceLeDiff, cmul_r, cdiv_r, tSl, tPart, tNoPart, rEq, rNe, scal_nn, scal_ii, scal_bb, scal_ss, scal_is, scal_si, V.ty.injEq, and_assoc, tyH_non, tyH_bl, tyH_int, tyH_str, tyH_ref, tyO_lst, tyO_IL, tyO_tup, itO_lst, itO_tup, itO_IL, Dw.rIxD, rLenI, rLenH, rLenTH, rLenQ, rLenB, rListI, Dw.rListS, rIntI, rIntB, rSumI, rIsiD, rIsX, tCallS, tMakeS, tMake, tMakeC, tMakeSC, tFld, sFld, HO.ins.injEq, HO.tup.injEq, cxOf_K, nox_K, tr_K, suite_K, rTupleI, rAllB, rAnyB, BL_inj, tChain, wOnly, wAs, wMany, rEqI, rNeI, Dw.rMax2, rMin2, Dw.rIsN, rIsNotN, rStrIn, rStrNotIn, not_true_eq_false, not_false_eq_true, reduceCtorEq, cl_bool, cl_int, cl_str, cl_list, cl_tuple, isB_NoneType_bool, isB_NoneType_int, isB_NoneType_str, isB_NoneType_list, isB_NoneType_tuple, isB_bool_bool, isB_bool_int, isB_bool_str, isB_bool_list, isB_bool_tuple, isB_int_bool, isB_int_int, isB_int_str, isB_int_list, isB_int_tuple, isB_str_bool, isB_str_int, isB_str_str, isB_str_list, isB_str_tuple, isB_list_bool, isB_list_int, isB_list_str, isB_list_list, isB_list_tuple, isB_tuple_bool, isB_tuple_int, isB_tuple_str, isB_tuple_list, isB_tuple_tuple, iSeqA, Dw.rIxL, Dw.rSetL, rTupT, tPar, tNotT, tMkO, tFmt, tJs, tOst, Dw.rIsXD, L2.tXf, decide_true, hx1, hy1]
      intro hz
      rw [if_neg exy]
      refine ⟨_, rfl, b, _, rfl, by rw [hy1]; rfl, fun _ => ⟨ys.length, rfl, by omega, by omega, for_range (lo := 0) (n := ((ys.length : Nat) : Int).toNat) I (by rw [hI]; exact ⟨rfl, none, rfl⟩) ?_ ?_⟩⟩
      · intro i σ H' hi h
        rw [hI] at h
        obtain ⟨rfl, y, rfl⟩ := h
        obtain ⟨x1, d1, g1, g2, g3⟩ := dtAll_get (i := i) hx2 (by omega)
        obtain ⟨x2, d2, k1, k2, k3⟩ := dtAll_get (i := i) hy2 (by omega)
        have ed : d2 = d1 := Option.some.inj (k2.symm.trans g2)
        subst ed
        have e0 : (0 : Int) + (i : Int) = ((i : Nat) : Int) := by omega
        rw [e0]
        try simp only [tSeq, tAsg, tVar, tC, tOp, rI0, rI, tUn, rU, tIfS, tTest, tRet, tRetN, tDrop, tCB, tCons, tNil, tLst, tLstI, tTup, gName, tB, tAnd, tOr, tNot, tAndV, tOrV, tNotV, tIf, tNext, tBreak, tCont, gSub, tCall, tCallN, tAug, ipI, tBML, tBML0, isL_IL, isL_lst, L2.start, List.map_cons, List.map_nil, List.length_cons, List.length_nil, List.cons_append, List.nil_append, List.getElem?_cons_succ, List.getElem?_cons_zero, Option.some.injEq, exists_eq_left', exists_eq_left, exists_and_left, V.int.injEq, V.ref.injEq, V.bl.injEq, V.str.injEq, List.set_cons_zero, List.set_cons_succ, List.cons.injEq, and_true, true_and, Nat.reduceAdd, Nat.reduceSub, List.replicate_succ, List.replicate_zero, rIxI, rIxH, rIxTH, rSetI, rSetH, rCatI, rRepI, rSlI, rAppendI, rExtendI, decide_eq_true_eq, upd_same, IL_inj, HO.lst.injEq, toInts_cons, toInts_nil, Option.map_some, if_true, if_false, Bool.true_eq_false, Bool.false_eq_true, Bool.not_true, Bool.not_false, Bool.not_eq_true', decide_eq_false_iff_not, atI_0, atI_1, atI_2, atI_3, atI_4, Int.reduceToNat, Int.reduceLT, Int.reduceLE, Int.reduceNeg, Int.reducePow, cast_lit, upd_upd, Int.reduceAdd, Int.reduceMul, Int.reduceSub, Nat.reduceLT, Nat.reduceLeDiff, cmul_r, cdiv_r, tSl, tPart, tNoPart, rEq, rNe, scal_nn, scal_ii, scal_bb, scal_ss, scal_is, scal_si, V.ty.injEq, and_assoc, tyH_non, tyH_bl, tyH_int, tyH_str, tyH_ref, tyO_lst, tyO_IL, tyO_tup, itO_lst, itO_tup, itO_IL, Dw.rIxD, rLenI, rLenH, rLenTH, rLenQ, rLenB, rListI, Dw.rListS, rIntI, rIntB, rSumI, rIsiD, rIsX, tCallS, tMakeS, tMake, tMakeC, tMakeSC, tFld, sFld, HO.ins.injEq, HO.tup.injEq, cxOf_K, nox_K, tr_K, suite_K, rTupleI, rAllB, rAnyB, BL_inj, tChain, wOnly, wAs, wMany, rEqI, rNeI, Dw.rMax2, rMin2, Dw.rIsN, rIsNotN, rStrIn, rStrNotIn, not_true_eq_false, not_false_eq_true, reduceCtorEq, cl_bool, cl_int, cl_str, cl_list, cl_tuple, isB_NoneType_bool, isB_NoneType_int, isB_NoneType_str, isB_NoneType_list, isB_NoneType_tuple, isB_bool_bool, isB_bool_int, isB_bool_str, isB_bool_list, isB_bool_tuple, isB_int_bool, isB_int_int, isB_int_str, isB_int_list, isB_int_tuple, isB_str_bool, isB_str_int, isB_str_str, isB_str_list, isB_str_tuple, isB_list_bool, isB_list_int, isB_list_str, isB_list_list, isB_list_tuple, isB_tuple_bool, isB_tuple_int, isB_tuple_str, isB_tuple_list, isB_tuple_tuple, iSeqA, Dw.rIxL, Dw.rSetL, rTupT, tPar, tNotT, tMkO, tFmt, tJs, tOst, Dw.rIsXD, L2.tXf, hx1, hy1, atI_k, g1, k1]
        have hdp := depthAll_get g2
        refine ⟨_, _, d2, rfl, g3, k3, by omega, shaped_item g2 hs.1 (by omega), true, rfl, ?_⟩
        try simp only [tSeq, tAsg, tVar, tC, tOp, rI0, rI, tUn, rU, tIfS, tTest, tRet, tRetN, tDrop, tCB, tCons, tNil, tLst, tLstI, tTup, gName, tB, tAnd, tOr, tNot, tAndV, tOrV, tNotV, tIf, tNext, tBreak, tCont, gSub, tCall, tCallN, tAug, ipI, tBML, tBML0, isL_IL, isL_lst, L2.start, List.map_cons, List.map_nil, List.length_cons, List.length_nil, List.cons_append, List.nil_append, List.getElem?_cons_succ, List.getElem?_cons_zero, Option.some.injEq, exists_eq_left', exists_eq_left, exists_and_left, V.int.injEq, V.ref.injEq, V.bl.injEq, V.str.injEq, List.set_cons_zero, List.set_cons_succ, List.cons.injEq, and_true, true_and, Nat.reduceAdd, Nat.reduceSub, List.replicate_succ, List.replicate_zero, rIxI, rIxH, rIxTH, rSetI, rSetH, rCatI, rRepI, rSlI, rAppendI, rExtendI, decide_eq_true_eq, upd_same, IL_inj, HO.lst.injEq, toInts_cons, toInts_nil, Option.map_some, if_true, if_false, Bool.true_eq_false, Bool.false_eq_true, Bool.not_true, Bool.not_false, Bool.not_eq_true', decide_eq_false_iff_not, atI_0, atI_1, atI_2, atI_3, atI_4, Int.reduceToNat, Int.reduceLT, Int.reduceLE, Int.reduceNeg, Int.reducePow, cast_lit, upd_upd, Int.reduceAdd, Int.reduceMul, Int.reduceSub, Nat.reduceLT, Nat.reduceLeDiff, cmul_r, cdiv_r, tSl, tPart, tNoPart, rEq, rNe, scal_nn, scal_ii, scal_bb, scal_ss, scal_is, scal_si, V.ty.injEq, and_assoc, tyH_non, tyH_bl, tyH_int, tyH_str, tyH_ref, tyO_lst, tyO_IL, tyO_tup, itO_lst, itO_tup, itO_IL, Dw.rIxD, rLenI, rLenH, rLenTH, rLenQ, rLenB, rListI, Dw.rListS, rIntI, rIntB, rSumI, rIsiD, rIsX, tCallS, tMakeS, tMake, tMakeC, tMakeSC, tFld, sFld, HO.ins.injEq, HO.tup.injEq, cxOf_K, nox_K, tr_K, suite_K, rTupleI, rAllB, rAnyB, BL_inj, tChain, wOnly, wAs, wMany, rEqI, rNeI, Dw.rMax2, rMin2, Dw.rIsN, rIsNotN, rStrIn, rStrNotIn, not_true_eq_false, not_false_eq_true, reduceCtorEq, cl_bool, cl_int, cl_str, cl_list, cl_tuple, isB_NoneType_bool, isB_NoneType_int, isB_NoneType_str, isB_NoneType_list, isB_NoneType_tuple, isB_bool_bool, isB_bool_int, isB_bool_str, isB_bool_list, isB_bool_tuple, isB_int_bool, isB_int_int, isB_int_str, isB_int_list, isB_int_tuple, isB_str_bool, isB_str_int, isB_str_str, isB_str_list, isB_str_tuple, isB_list_bool, isB_list_int, isB_list_str, isB_list_list, isB_list_tuple, isB_tuple_bool, isB_tuple_int, isB_tuple_str, isB_tuple_list, isB_tuple_tuple, iSeqA, Dw.rIxL, Dw.rSetL, rTupT, tPar, tNotT, tMkO, tFmt, tJs, tOst, Dw.rIsXD, L2.tXf]
        rw [hI]
        exact ⟨rfl, _, rfl⟩
      · intro σ H' h
        rw [hI] at h
        obtain ⟨rfl, y, rfl⟩ := h
        try simp only [tSeq, tAsg, tVar, tC, tOp, rI0, rI, tUn, rU, tIfS, tTest, tRet, tRetN, tDrop, tCB, tCons, tNil, tLst, tLstI, tTup, gName, tB, tAnd, tOr, tNot, tAndV, tOrV, tNotV, tIf, tNext, tBreak, tCont, gSub, tCall, tCallN, tAug, ipI, tBML, tBML0, isL_IL, isL_lst, L2.start, List.map_cons, List.map_nil, List.length_cons, List.length_nil, List.cons_append, List.nil_append, List.getElem?_cons_succ, List.getElem?_cons_zero, Option.some.injEq, exists_eq_left', exists_eq_left, exists_and_left, V.int.injEq, V.ref.injEq, V.bl.injEq, V.str.injEq, List.set_cons_zero, List.set_cons_succ, List.cons.injEq, and_true, true_and, Nat.reduceAdd, Nat.reduceSub, List.replicate_succ, List.replicate_zero, rIxI, rIxH, rIxTH, rSetI, rSetH, rCatI, rRepI, rSlI, rAppendI, rExtendI, decide_eq_true_eq, upd_same, IL_inj, HO.lst.injEq, toInts_cons, toInts_nil, Option.map_some, if_true, if_false, Bool.true_eq_false, Bool.false_eq_true, Bool.not_true, Bool.not_false, Bool.not_eq_true', decide_eq_false_iff_not, atI_0, atI_1, atI_2, atI_3, atI_4, Int.reduceToNat, Int.reduceLT, Int.reduceLE, Int.reduceNeg, Int.reducePow, cast_lit, upd_upd, Int.reduceAdd, Int.reduceMul, Int.reduceSub, Nat.reduceLT, Nat.reduceLeDiff, cmul_r, cdiv_r, tSl, tPart, tNoPart, rEq, rNe, scal_nn, scal_ii, scal_bb, scal_ss, scal_is, scal_si, V.ty.injEq, and_assoc, tyH_non, tyH_bl, tyH_int, tyH_str, tyH_ref, tyO_lst, tyO_IL, tyO_tup, itO_lst, itO_tup, itO_IL, Dw.rIxD, rLenI, rLenH, rLenTH, rLenQ, rLenB, rListI, Dw.rListS, rIntI, rIntB, rSumI, rIsiD, rIsX, tCallS, tMakeS, tMake, tMakeC, tMakeSC, tFld, sFld, HO.ins.injEq, HO.tup.injEq, cxOf_K, nox_K, tr_K, suite_K, rTupleI, rAllB, rAnyB, BL_inj, tChain, wOnly, wAs, wMany, rEqI, rNeI, Dw.rMax2, rMin2, Dw.rIsN, rIsNotN, rStrIn, rStrNotIn, not_true_eq_false, not_false_eq_true, reduceCtorEq, cl_bool, cl_int, cl_str, cl_list, cl_tuple, isB_NoneType_bool, isB_NoneType_int, isB_NoneType_str, isB_NoneType_list, isB_NoneType_tuple, isB_bool_bool, isB_bool_int, isB_bool_str, isB_bool_list, isB_bool_tuple, isB_int_bool, isB_int_int, isB_int_str, isB_int_list, isB_int_tuple, isB_str_bool, isB_str_int, isB_str_str, isB_str_list, isB_str_tuple, isB_list_bool, isB_list_int, isB_list_str, isB_list_list, isB_list_tuple, isB_tuple_bool, isB_tuple_int, isB_tuple_str, isB_tuple_list, isB_tuple_tuple, iSeqA, Dw.rIxL, Dw.rSetL, rTupT, tPar, tNotT, tMkO, tFmt, tJs, tOst, Dw.rIsXD, L2.tXf]
        exact q
theorem ok_law_same (T : Tx K mg A) : FnOk P w K mg base CX0 8 A.f_law_same A.d_law_same ["actual", "due"] (spSame 8) := ok_law_same_ T 8
end
section
variable {P : Program} [SupP P] {w : World} {K : PySem.W.Frag} {mg : Str → Option Value} {base : Heap} {A : Ad}
def spSameH : Sp := fun vs H Q _ => ∃ i : Int, vs = [.int i, .int i] ∧ Q (.bl true) H
theorem ok_law_sameH (T : Tx K mg A) : L2H.FnH P w K mg base CX0 1 A.f_law_same A.d_law_same ["actual", "due"] spSameH := by
  obtain ⟨oc, od, kV, doc, pm, an, cdv, ct, osl, hfd, lk, hcd⟩ := T.F_law_same.ex
  rw [hfd]
  rw [hfd] at lk
  refine L2H.fn_ofH lk hcd sc_law_same (fun vs H Q E h => ?_) (fun A' outer s H vs Q E p hh hr h => ?_)
  · obtain ⟨i, rfl, _⟩ := h
    rfl
  obtain ⟨i, rfl, k⟩ := h
  refine ⟨_, (pss_cons (ps_if (PW.pt (pw_or (pt_val (pe_callB call_isiD (by rfl) T.z_isinstance (by decide +kernel) (pa_cons (pv 1) (pa_cons (pe_bltn (by rfl) T.z_tuple (v := .ty "tuple") (by decide +kernel) rfl) pa_nil)))) (pw_or1 (pt_val (pe_callB call_isiD (by rfl) T.z_isinstance (by decide +kernel) (pa_cons (pv 1) (pa_cons (pe_bltn (by rfl) T.z_list (v := .ty "list") (by decide +kernel) rfl) pa_nil))))))) pss_never pss_nil) (pss_cons (ps_if (pt_cmpR op_isNone (pv 1) pe_non (nomark _)) (pss_one (ps_ret (pe_cmpR op_isNone (pv 0) pe_non (nomark _)))) pss_nil)
      (pss_cons (ps_if (pt_val (pe_callB call_isiD (by rfl) T.z_isinstance (by decide +kernel) (pa_cons (pv 1) (pa_cons (pe_bltn (by rfl) T.z_bool (v := .ty "bool") (by decide +kernel) rfl) pa_nil)))) (pss_one (ps_ret (pe_and (pe_callB call_isiD (by rfl) T.z_isinstance (by decide +kernel) (pa_cons (pv 0) (pa_cons (pe_bltn (by rfl) T.z_bool (v := .ty "bool") (by decide +kernel) rfl) pa_nil))) (pe_one (pe_cmpR op_eq (pv 0) (pv 1) (nomark _)))))) pss_nil)
      (pss_cons (ps_if (pt_val (pe_callB call_isiD (by rfl) T.z_isinstance (by decide +kernel) (pa_cons (pv 1) (pa_cons (pe_bltn (by rfl) T.z_int (v := .ty "int") (by decide +kernel) rfl) pa_nil)))) (pss_one (ps_ret (pe_and (pe_callB call_isiD (by rfl) T.z_isinstance (by decide +kernel) (pa_cons (pv 0) (pa_cons (pe_bltn (by rfl) T.z_int (v := .ty "int") (by decide +kernel) rfl) pa_nil))) (pe_and (pe_not (pe_callB call_isiD (by rfl) T.z_isinstance (by decide +kernel) (pa_cons (pv 0) (pa_cons (pe_bltn (by rfl) T.z_bool (v := .ty "bool") (by decide +kernel) rfl) pa_nil)))) (pe_one (pe_cmpR op_eq (pv 0) (pv 1) (nomark _))))))) pss_nil)
      (pss_one (ps_ret (pe_and (pe_callB call_isiD (by rfl) T.z_isinstance (by decide +kernel) (pa_cons (pv 0) (pa_cons (pe_bltn (by rfl) T.z_str (v := .ty "str") (by decide +kernel) rfl) pa_nil))) (pe_one (pe_cmpR op_eq (pv 0) (pv 1) (nomark _)))))))))), ?_⟩
  try simp only [tSeq, tAsg, tVar, tC, tOp, rI0, rI, tUn, rU, tIfS, tTest, tRet, tRetN, tDrop, tCB, tCons, tNil, tLst, tLstI, tTup, gName, tB, tAnd, tOr, tNot, tAndV, tOrV, tNotV, tIf, tNext, tBreak, tCont, gSub, tCall, tCallN, tAug, ipI, tBML, tBML0, isL_IL, isL_lst, L2.start, List.map_cons, List.map_nil, List.length_cons, List.length_nil, List.cons_append, List.nil_append, List.getElem?_cons_succ, List.getElem?_cons_zero, Option.some.injEq, exists_eq_left', exists_eq_left, exists_and_left, V.int.injEq, V.ref.injEq, V.bl.injEq, V.str.injEq, List.set_cons_zero, List.set_cons_succ, List.cons.injEq, and_true, true_and, Nat.reduceAdd, Nat.reduceSub, List.replicate_succ, List.replicate_zero, rIxI, rIxH, rIxTH, rSetI, rSetH, rCatI, rRepI, rSlI, rAppendI, rExtendI, decide_eq_true_eq, upd_same, IL_inj, HO.lst.injEq, toInts_cons, toInts_nil, Option.map_some, if_true, if_false, Bool.true_eq_false, Bool.false_eq_true, Bool.not_true, Bool.not_false, Bool.not_eq_true', decide_eq_false_iff_not, atI_0, atI_1, atI_2, atI_3, atI_4, Int.reduceToNat, Int.reduceLT, Int.reduceLE, Int.reduceNeg, Int.reducePow, cast_lit, upd_upd, Int.reduceAdd, Int.reduceMul, Int.reduceSub, Nat.reduceLT, Nat.reduceLeDiff, cmul_r, cdiv_r, tSl, tPart, tNoPart, rEq, rNe, scal_nn, scal_ii, scal_bb, scal_ss, scal_is, scal_si, V.ty.injEq, and_assoc, tyH_non, tyH_bl, tyH_int, tyH_str, tyH_ref, tyO_lst, tyO_IL, tyO_tup, itO_lst, itO_tup, itO_IL, Dw.rIxD, rLenI, rLenH, rLenTH, rLenQ, rLenB, rListI, Dw.rListS, rIntI, rIntB, rSumI, rIsiD, rIsX, tCallS, tMakeS, tMake, tMakeC, tMakeSC, tFld, sFld, HO.ins.injEq, HO.tup.injEq, cxOf_K, nox_K, tr_K, suite_K, rTupleI, rAllB, rAnyB, BL_inj, tChain, wOnly, wAs, wMany, rEqI, rNeI, Dw.rMax2, rMin2, Dw.rIsN, rIsNotN, rStrIn, rStrNotIn, not_true_eq_false, not_false_eq_true, reduceCtorEq, cl_bool, cl_int, cl_str, cl_list, cl_tuple, isB_NoneType_bool, isB_NoneType_int, isB_NoneType_str, isB_NoneType_list, isB_NoneType_tuple, isB_bool_bool, isB_bool_int, isB_bool_str, isB_bool_list, isB_bool_tuple, isB_int_bool, isB_int_int, isB_int_str, isB_int_list, isB_int_tuple, isB_str_bool, isB_str_int, isB_str_str, isB_str_list, isB_str_tuple, isB_list_bool, isB_list_int, isB_list_str, isB_list_list, isB_list_tuple, isB_tuple_bool, isB_tuple_int, isB_tuple_str, isB_tuple_list, isB_tuple_tuple, iSeqA, Dw.rIxL, Dw.rSetL, rTupT, tPar, tNotT, tMkO, tFmt, tJs, tOst, Dw.rIsXD, L2.tXf, decide_true]
  exact k
end
section
variable {P : Program} [SupP P] {w : World} {K : PySem.W.Frag} {mg : Str → Option Value} {base : Heap} {A : Ad}
theorem ok_law_or (T : Tx K mg A) : FnOk P w K mg base CX0 1 A.f_law_or A.d_law_or ["a", "b"] spOr := by
  refine T.F_law_or.ok sc_law_or (fun vs H Q E h => ?_) (fun cdv A' outer s H vs Q E hr h => ?_)
  · obtain ⟨a, b, rfl, _⟩ := h
    rfl
  obtain ⟨a, b, rfl, q⟩ := h
  refine ⟨_, (pss_one (ps_ret (pe_op op_sub (pe_op op_or (pv 0) (pv 1)) (pe_op op_and (pv 0) (pv 1))))), ?_⟩
  try simp only [tSeq, tAsg, tVar, tC, tOp, rI0, rI, tUn, rU, tIfS, tTest, tRet, tRetN, tDrop, tCB, tCons, tNil, tLst, tLstI, tTup, gName, tB, tAnd, tOr, tNot, tAndV, tOrV, tNotV, tIf, tNext, tBreak, tCont, gSub, tCall, tCallN, tAug, ipI, tBML, tBML0, isL_IL, isL_lst, L2.start, List.map_cons, List.map_nil, List.length_cons, List.length_nil, List.cons_append, List.nil_append, List.getElem?_cons_succ, List.getElem?_cons_zero, Option.some.injEq, exists_eq_left', exists_eq_left, exists_and_left, V.int.injEq, V.ref.injEq, V.bl.injEq, V.str.injEq, List.set_cons_zero, List.set_cons_succ, List.cons.injEq, and_true, true_and, Nat.reduceAdd, Nat.reduceSub, List.replicate_succ, List.replicate_zero, rIxI, rIxH, rIxTH, rSetI, rSetH, rCatI, rRepI, rSlI, rAppendI, rExtendI, decide_eq_true_eq, upd_same, IL_inj, HO.lst.injEq, toInts_cons, toInts_nil, Option.map_some, if_true, if_false, Bool.true_eq_false, Bool.false_eq_true, Bool.not_true, Bool.not_false, Bool.not_eq_true', decide_eq_false_iff_not, atI_0, atI_1, atI_2, atI_3, atI_4, Int.reduceToNat, Int.reduceLT, Int.reduceLE, Int.reduceNeg, Int.reducePow, cast_lit, upd_upd, Int.reduceAdd, Int.reduceMul, Int.reduceSub, Nat.reduceLT, Nat.reduceLeDiff, cmul_r, cdiv_r, tSl, tPart, tNoPart, rEq, rNe, scal_nn, scal_ii, scal_bb, scal_ss, scal_is, scal_si, V.ty.injEq, and_assoc, tyH_non, tyH_bl, tyH_int, tyH_str, tyH_ref, tyO_lst, tyO_IL, tyO_tup, itO_lst, itO_tup, itO_IL, Dw.rIxD, rLenI, rLenH, rLenTH, rLenQ, rLenB, rListI, Dw.rListS, rIntI, rIntB, rSumI, rIsiD, rIsX, tCallS, tMakeS, tMake, tMakeC, tMakeSC, tFld, sFld, HO.ins.injEq, HO.tup.injEq, cxOf_K, nox_K, tr_K, suite_K, rTupleI, rAllB, rAnyB, BL_inj, tChain, wOnly, wAs, wMany, rEqI, rNeI, Dw.rMax2, rMin2, Dw.rIsN, rIsNotN, rStrIn, rStrNotIn, not_true_eq_false, not_false_eq_true, reduceCtorEq, cl_bool, cl_int, cl_str, cl_list, cl_tuple, isB_NoneType_bool, isB_NoneType_int, isB_NoneType_str, isB_NoneType_list, isB_NoneType_tuple, isB_bool_bool, isB_bool_int, isB_bool_str, isB_bool_list, isB_bool_tuple, isB_int_bool, isB_int_int, isB_int_str, isB_int_list, isB_int_tuple, isB_str_bool, isB_str_int, isB_str_str, isB_str_list, isB_str_tuple, isB_list_bool, isB_list_int, isB_list_str, isB_list_list, isB_list_tuple, isB_tuple_bool, isB_tuple_int, isB_tuple_str, isB_tuple_list, isB_tuple_tuple, iSeqA, Dw.rIxL, Dw.rSetL, rTupT, tPar, tNotT, tMkO, tFmt, tJs, tOst, Dw.rIsXD, L2.tXf, or_sub_and]
  exact q
end
section
variable {P : Program} [SupP P] {w : World} {K : PySem.W.Frag} {mg : Str → Option Value} {base : Heap} {A : Ad}
theorem ok_law_some_bytes (T : Tx K mg A) : FnOk P w K mg base CX0 3 A.f_law_some_bytes A.d_law_some_bytes ["pool", "most"] spSomeBytes := by
  refine T.F_law_some_bytes.ok sc_law_some_bytes (fun vs H Q E h => ?_) (fun cdv A' outer s H vs Q E hr h => ?_)
  · obtain ⟨p, q, m, rfl, _⟩ := h
    rfl
  obtain ⟨p, q, m, rfl, hP, m0, m1, k⟩ := h
  refine ⟨_, (pss_cons (ps_set (i := 2) sc_law_some_bytes.nd rfl (Or.inl rfl) (pe_call (ok_law_draw (P := P) T) (hr.mono (by decide)) rfl T.g_law_draw T.F_law_draw.kp T.b_law_draw .nil pass0 (pa_cons (pv 0) (pa_cons (pe_op op_add (pv 1) pe_int) pa_nil))))
      (pss_cons (ps_set (i := 3) sc_law_some_bytes.nd rfl (Or.inl rfl) (pe_call (ok_law_draw (P := P) T) (hr.mono (by decide)) rfl T.g_law_draw T.F_law_draw.kp T.b_law_draw .nil pass0 (pa_cons (pv 0) (pa_cons pe_int pa_nil))))
      (pss_cons (ps_if (pt_cmpR op_eq (pv 3) pe_int (nomark _)) (pss_one (ps_ret (pe_op op_repI (pe_lstI (pa_cons (pe_call (ok_law_draw (P := P) T) (hr.mono (by decide)) rfl T.g_law_draw T.F_law_draw.kp T.b_law_draw .nil pass0 (pa_cons (pv 0) (pa_cons pe_int pa_nil))) pa_nil)) (pv 2)))) pss_nil)
      (pss_cons (ps_if (pt_cmpR op_eq (pv 3) pe_int (nomark _)) (pss_one (ps_ret (pe_lc (own := [("k", 4)]) (g := (gName 4)) (tt := tYes) rfl sc_law_some_bytes.nd (pi_range1 rfl T.z_range (pa_cons (pv 2) pa_nil)) (blkOk_by (N := n_law_some_bytes) (sc := (defScope s_law_some_bytes)) (by decide +kernel)) (fun _ _ _ _ _ => (pg_name (i := 4) sc_law_some_bytes.nd rfl (Or.inl rfl))) (fun _ _ _ _ _ => pts_nil) (fun _ _ _ _ _ => (pe_ix ix_listI (pe_lstI (pa_cons pe_int (pa_cons pe_int (pa_cons pe_int (pa_cons pe_int pa_nil))))) (pe_call (ok_law_draw (P := P) T) (hr.mono (by decide)) rfl T.g_law_draw T.F_law_draw.kp T.b_law_draw .nil pass0 (pa_cons (pv 0) (pa_cons pe_int pa_nil))) (fun _ _ => rfl)))))) pss_nil)
      (pss_one (ps_ret (pe_lc (own := [("k", 4)]) (g := (gName 4)) (tt := tYes) rfl sc_law_some_bytes.nd (pi_range1 rfl T.z_range (pa_cons (pv 2) pa_nil)) (blkOk_by (N := n_law_some_bytes) (sc := (defScope s_law_some_bytes)) (by decide +kernel)) (fun _ _ _ _ _ => (pg_name (i := 4) sc_law_some_bytes.nd rfl (Or.inl rfl))) (fun _ _ _ _ _ => pts_nil) (fun _ _ _ _ _ => (pe_call (ok_law_draw (P := P) T) (hr.mono (by decide)) rfl T.g_law_draw T.F_law_draw.kp T.b_law_draw .nil pass0 (pa_cons (pv 0) (pa_cons pe_int pa_nil))))))))))), ?_⟩
  try simp only [tSeq, tAsg, tVar, tC, tOp, rI0, rI, tUn, rU, tIfS, tTest, tRet, tRetN, tDrop, tCB, tCons, tNil, tLst, tLstI, tTup, gName, tB, tAnd, tOr, tNot, tAndV, tOrV, tNotV, tIf, tNext, tBreak, tCont, gSub, tCall, tCallN, tAug, ipI, tBML, tBML0, isL_IL, isL_lst, L2.start, List.map_cons, List.map_nil, List.length_cons, List.length_nil, List.cons_append, List.nil_append, List.getElem?_cons_succ, List.getElem?_cons_zero, Option.some.injEq, exists_eq_left', exists_eq_left, exists_and_left, V.int.injEq, V.ref.injEq, V.bl.injEq, V.str.injEq, List.set_cons_zero, List.set_cons_succ, List.cons.injEq, and_true, true_and, Nat.reduceAdd, Nat.reduceSub, List.replicate_succ, List.replicate_zero, rIxI, rIxH, rIxTH, rSetI, rSetH, rCatI, rRepI, rSlI, rAppendI, rExtendI, decide_eq_true_eq, upd_same, IL_inj, HO.lst.injEq, toInts_cons, toInts_nil, Option.map_some, if_true, if_false, Bool.true_eq_false, Bool.false_eq_true, Bool.not_true, Bool.not_false, Bool.not_eq_true', decide_eq_false_iff_not, atI_0, atI_1, atI_2, atI_3, atI_4, Int.reduceToNat, Int.reduceLT, Int.reduceLE, Int.reduceNeg, Int.reducePow, cast_lit, upd_upd, Int.reduceAdd, Int.reduceMul, Int.reduceSub, Nat.reduceLT, Nat.reduceLeDiff, cmul_r, cdiv_r, tSl, tPart, tNoPart, rEq, rNe, scal_nn, scal_ii, scal_bb, scal_ss, scal_is, scal_si, V.ty.injEq, and_assoc, tyH_non, tyH_bl, tyH_int, tyH_str, tyH_ref, tyO_lst, tyO_IL, tyO_tup, itO_lst, itO_tup, itO_IL, Dw.rIxD, rLenI, rLenH, rLenTH, rLenQ, rLenB, rListI, Dw.rListS, rIntI, rIntB, rSumI, rIsiD, rIsX, tCallS, tMakeS, tMake, tMakeC, tMakeSC, tFld, sFld, HO.ins.injEq, HO.tup.injEq, cxOf_K, nox_K, tr_K, suite_K, rTupleI, rAllB, rAnyB, BL_inj, tChain, wOnly, wAs, wMany, rEqI, rNeI, Dw.rMax2, rMin2, Dw.rIsN, rIsNotN, rStrIn, rStrNotIn, not_true_eq_false, not_false_eq_true, reduceCtorEq, cl_bool, cl_int, cl_str, cl_list, cl_tuple, isB_NoneType_bool, isB_NoneType_int, isB_NoneType_str, isB_NoneType_list, isB_NoneType_tuple, isB_bool_bool, isB_bool_int, isB_bool_str, isB_bool_list, isB_bool_tuple, isB_int_bool, isB_int_int, isB_int_str, isB_int_list, isB_int_tuple, isB_str_bool, isB_str_int, isB_str_str, isB_str_list, isB_str_tuple, isB_list_bool, isB_list_int, isB_list_str, isB_list_list, isB_list_tuple, isB_tuple_bool, isB_tuple_int, isB_tuple_str, isB_tuple_list, isB_tuple_tuple, iSeqA, Dw.rIxL, Dw.rSetL, rTupT, tPar, tNotT, tMkO, tFmt, tJs, tOst, Dw.rIsXD, L2.tXf]
  refine ⟨p, q, m + 1, rfl, hP, by omega, by omega, fun n H1 n0 n1 hP1 s1 => ?_⟩
  try simp only [tSeq, tAsg, tVar, tC, tOp, rI0, rI, tUn, rU, tIfS, tTest, tRet, tRetN, tDrop, tCB, tCons, tNil, tLst, tLstI, tTup, gName, tB, tAnd, tOr, tNot, tAndV, tOrV, tNotV, tIf, tNext, tBreak, tCont, gSub, tCall, tCallN, tAug, ipI, tBML, tBML0, isL_IL, isL_lst, L2.start, List.map_cons, List.map_nil, List.length_cons, List.length_nil, List.cons_append, List.nil_append, List.getElem?_cons_succ, List.getElem?_cons_zero, Option.some.injEq, exists_eq_left', exists_eq_left, exists_and_left, V.int.injEq, V.ref.injEq, V.bl.injEq, V.str.injEq, List.set_cons_zero, List.set_cons_succ, List.cons.injEq, and_true, true_and, Nat.reduceAdd, Nat.reduceSub, List.replicate_succ, List.replicate_zero, rIxI, rIxH, rIxTH, rSetI, rSetH, rCatI, rRepI, rSlI, rAppendI, rExtendI, decide_eq_true_eq, upd_same, IL_inj, HO.lst.injEq, toInts_cons, toInts_nil, Option.map_some, if_true, if_false, Bool.true_eq_false, Bool.false_eq_true, Bool.not_true, Bool.not_false, Bool.not_eq_true', decide_eq_false_iff_not, atI_0, atI_1, atI_2, atI_3, atI_4, Int.reduceToNat, Int.reduceLT, Int.reduceLE, Int.reduceNeg, Int.reducePow, cast_lit, upd_upd, Int.reduceAdd, Int.reduceMul, Int.reduceSub, Nat.reduceLT, Nat.reduceLeDiff, cmul_r, cdiv_r, tSl, tPart, tNoPart, rEq, rNe, scal_nn, scal_ii, scal_bb, scal_ss, scal_is, scal_si, V.ty.injEq, and_assoc, tyH_non, tyH_bl, tyH_int, tyH_str, tyH_ref, tyO_lst, tyO_IL, tyO_tup, itO_lst, itO_tup, itO_IL, Dw.rIxD, rLenI, rLenH, rLenTH, rLenQ, rLenB, rListI, Dw.rListS, rIntI, rIntB, rSumI, rIsiD, rIsX, tCallS, tMakeS, tMake, tMakeC, tMakeSC, tFld, sFld, HO.ins.injEq, HO.tup.injEq, cxOf_K, nox_K, tr_K, suite_K, rTupleI, rAllB, rAnyB, BL_inj, tChain, wOnly, wAs, wMany, rEqI, rNeI, Dw.rMax2, rMin2, Dw.rIsN, rIsNotN, rStrIn, rStrNotIn, not_true_eq_false, not_false_eq_true, reduceCtorEq, cl_bool, cl_int, cl_str, cl_list, cl_tuple, isB_NoneType_bool, isB_NoneType_int, isB_NoneType_str, isB_NoneType_list, isB_NoneType_tuple, isB_bool_bool, isB_bool_int, isB_bool_str, isB_bool_list, isB_bool_tuple, isB_int_bool, isB_int_int, isB_int_str, isB_int_list, isB_int_tuple, isB_str_bool, isB_str_int, isB_str_str, isB_str_list, isB_str_tuple, isB_list_bool, isB_list_int, isB_list_str, isB_list_list, isB_list_tuple, isB_tuple_bool, isB_tuple_int, isB_tuple_str, isB_tuple_list, isB_tuple_tuple, iSeqA, Dw.rIxL, Dw.rSetL, rTupT, tPar, tNotT, tMkO, tFmt, tJs, tOst, Dw.rIsXD, L2.tXf]
  refine ⟨p, q, 4, rfl, hP1, by omega, by omega, fun t H2 t0 t1 hP2 s2 => ?_⟩
  have s12 := s1.trans s2
  try simp only [tSeq, tAsg, tVar, tC, tOp, rI0, rI, tUn, rU, tIfS, tTest, tRet, tRetN, tDrop, tCB, tCons, tNil, tLst, tLstI, tTup, gName, tB, tAnd, tOr, tNot, tAndV, tOrV, tNotV, tIf, tNext, tBreak, tCont, gSub, tCall, tCallN, tAug, ipI, tBML, tBML0, isL_IL, isL_lst, L2.start, List.map_cons, List.map_nil, List.length_cons, List.length_nil, List.cons_append, List.nil_append, List.getElem?_cons_succ, List.getElem?_cons_zero, Option.some.injEq, exists_eq_left', exists_eq_left, exists_and_left, V.int.injEq, V.ref.injEq, V.bl.injEq, V.str.injEq, List.set_cons_zero, List.set_cons_succ, List.cons.injEq, and_true, true_and, Nat.reduceAdd, Nat.reduceSub, List.replicate_succ, List.replicate_zero, rIxI, rIxH, rIxTH, rSetI, rSetH, rCatI, rRepI, rSlI, rAppendI, rExtendI, decide_eq_true_eq, upd_same, IL_inj, HO.lst.injEq, toInts_cons, toInts_nil, Option.map_some, if_true, if_false, Bool.true_eq_false, Bool.false_eq_true, Bool.not_true, Bool.not_false, Bool.not_eq_true', decide_eq_false_iff_not, atI_0, atI_1, atI_2, atI_3, atI_4, Int.reduceToNat, Int.reduceLT, Int.reduceLE, Int.reduceNeg, Int.reducePow, cast_lit, upd_upd, Int.reduceAdd, Int.reduceMul, Int.reduceSub, Nat.reduceLT, Nat.reduceLeDiff, cmul_r, cdiv_r, tSl, tPart, tNoPart, rEq, rNe, scal_nn, scal_ii, scal_bb, scal_ss, scal_is, scal_si, V.ty.injEq, and_assoc, tyH_non, tyH_bl, tyH_int, tyH_str, tyH_ref, tyO_lst, tyO_IL, tyO_tup, itO_lst, itO_tup, itO_IL, Dw.rIxD, rLenI, rLenH, rLenTH, rLenQ, rLenB, rListI, Dw.rListS, rIntI, rIntB, rSumI, rIsiD, rIsX, tCallS, tMakeS, tMake, tMakeC, tMakeSC, tFld, sFld, HO.ins.injEq, HO.tup.injEq, cxOf_K, nox_K, tr_K, suite_K, rTupleI, rAllB, rAnyB, BL_inj, tChain, wOnly, wAs, wMany, rEqI, rNeI, Dw.rMax2, rMin2, Dw.rIsN, rIsNotN, rStrIn, rStrNotIn, not_true_eq_false, not_false_eq_true, reduceCtorEq, cl_bool, cl_int, cl_str, cl_list, cl_tuple, isB_NoneType_bool, isB_NoneType_int, isB_NoneType_str, isB_NoneType_list, isB_NoneType_tuple, isB_bool_bool, isB_bool_int, isB_bool_str, isB_bool_list, isB_bool_tuple, isB_int_bool, isB_int_int, isB_int_str, isB_int_list, isB_int_tuple, isB_str_bool, isB_str_int, isB_str_str, isB_str_list, isB_str_tuple, isB_list_bool, isB_list_int, isB_list_str, isB_list_list, isB_list_tuple, isB_tuple_bool, isB_tuple_int, isB_tuple_str, isB_tuple_list, isB_tuple_tuple, iSeqA, Dw.rIxL, Dw.rSetL, rTupT, tPar, tNotT, tMkO, tFmt, tJs, tOst, Dw.rIsXD, L2.tXf]
  by_cases c : t = 0
  · rw [if_pos c]
    refine ⟨p, q, 256, rfl, hP2, by omega, by omega, fun b H3 b0 b1 hP3 s3 => ?_⟩
    have s13 := s12.trans s3
    try simp only [tSeq, tAsg, tVar, tC, tOp, rI0, rI, tUn, rU, tIfS, tTest, tRet, tRetN, tDrop, tCB, tCons, tNil, tLst, tLstI, tTup, gName, tB, tAnd, tOr, tNot, tAndV, tOrV, tNotV, tIf, tNext, tBreak, tCont, gSub, tCall, tCallN, tAug, ipI, tBML, tBML0, isL_IL, isL_lst, L2.start, List.map_cons, List.map_nil, List.length_cons, List.length_nil, List.cons_append, List.nil_append, List.getElem?_cons_succ, List.getElem?_cons_zero, Option.some.injEq, exists_eq_left', exists_eq_left, exists_and_left, V.int.injEq, V.ref.injEq, V.bl.injEq, V.str.injEq, List.set_cons_zero, List.set_cons_succ, List.cons.injEq, and_true, true_and, Nat.reduceAdd, Nat.reduceSub, List.replicate_succ, List.replicate_zero, rIxI, rIxH, rIxTH, rSetI, rSetH, rCatI, rRepI, rSlI, rAppendI, rExtendI, decide_eq_true_eq, upd_same, IL_inj, HO.lst.injEq, toInts_cons, toInts_nil, Option.map_some, if_true, if_false, Bool.true_eq_false, Bool.false_eq_true, Bool.not_true, Bool.not_false, Bool.not_eq_true', decide_eq_false_iff_not, atI_0, atI_1, atI_2, atI_3, atI_4, Int.reduceToNat, Int.reduceLT, Int.reduceLE, Int.reduceNeg, Int.reducePow, cast_lit, upd_upd, Int.reduceAdd, Int.reduceMul, Int.reduceSub, Nat.reduceLT, Nat.reduceLeDiff, cmul_r, cdiv_r, tSl, tPart, tNoPart, rEq, rNe, scal_nn, scal_ii, scal_bb, scal_ss, scal_is, scal_si, V.ty.injEq, and_assoc, tyH_non, tyH_bl, tyH_int, tyH_str, tyH_ref, tyO_lst, tyO_IL, tyO_tup, itO_lst, itO_tup, itO_IL, Dw.rIxD, rLenI, rLenH, rLenTH, rLenQ, rLenB, rListI, Dw.rListS, rIntI, rIntB, rSumI, rIsiD, rIsX, tCallS, tMakeS, tMake, tMakeC, tMakeSC, tFld, sFld, HO.ins.injEq, HO.tup.injEq, cxOf_K, nox_K, tr_K, suite_K, rTupleI, rAllB, rAnyB, BL_inj, tChain, wOnly, wAs, wMany, rEqI, rNeI, Dw.rMax2, rMin2, Dw.rIsN, rIsNotN, rStrIn, rStrNotIn, not_true_eq_false, not_false_eq_true, reduceCtorEq, cl_bool, cl_int, cl_str, cl_list, cl_tuple, isB_NoneType_bool, isB_NoneType_int, isB_NoneType_str, isB_NoneType_list, isB_NoneType_tuple, isB_bool_bool, isB_bool_int, isB_bool_str, isB_bool_list, isB_bool_tuple, isB_int_bool, isB_int_int, isB_int_str, isB_int_list, isB_int_tuple, isB_str_bool, isB_str_int, isB_str_str, isB_str_list, isB_str_tuple, isB_list_bool, isB_list_int, isB_list_str, isB_list_list, isB_list_tuple, isB_tuple_bool, isB_tuple_int, isB_tuple_str, isB_tuple_list, isB_tuple_tuple, iSeqA, Dw.rIxL, Dw.rSetL, rTupT, tPar, tNotT, tMkO, tFmt, tJs, tOst, Dw.rIsXD, L2.tXf]
    refine ⟨line_le (by decide), fun r hr1 => ⟨by omega, by omega, line_le (by omega), fun u hu => ?_⟩⟩
    have hP4 := hP3.upd (o := IL [b]) hr1
    have hP5 := hP4.upd (o := IL (rep n [b])) hu
    refine k u (rep n [b]) _ hP5 (s13.trans ((Same.b (same_new hr1 _)).trans (Same.b (same_new hu _)))) ?_ upd_same ?_ ?_
    · exact (s13.trans (Same.b (same_new hr1 (IL [b])))).none hP4 hu
    · rw [rep_one]
      intro x hx
      rw [List.eq_of_mem_replicate hx]
      exact ⟨b0, by omega⟩
    · rw [rep_one, List.length_replicate]
      omega
  · rw [if_neg c]
    have fin : ∀ (D : Addr) (ns : List Int) (H' : Hp), H2 D = none → ns.length = n.toNat → (∀ v ∈ ns, 0 ≤ v ∧ v < 256) → Pool H' p q → SameB p H2 H' → H' D = some (IL ns) → Q (V.ref D) H' := fun D ns H' hD hl hb hP' hs he =>
      k D ns H' hP' (s12.trans hs) (s12.none hP2 hD) he hb (by omega)
    by_cases c2 : t = 1
    · rw [if_pos c2]
      refine ⟨_, rfl, n, rfl, by omega, by omega, fun D hD => lc_pool (p := p) (q := q) (j := 4) (R := fun v => 0 ≤ v ∧ v < 256) (by omega) hP2 hD (fun _ => rfl) ?_ fun ns H' h1 h2 h3 h4 h5 => fin D ns H' hD h1 h2 h3 h4 h5⟩
      intro i H3 Q' hi hP3 hs3 hq
      try simp only [tSeq, tAsg, tVar, tC, tOp, rI0, rI, tUn, rU, tIfS, tTest, tRet, tRetN, tDrop, tCB, tCons, tNil, tLst, tLstI, tTup, gName, tB, tAnd, tOr, tNot, tAndV, tOrV, tNotV, tIf, tNext, tBreak, tCont, gSub, tCall, tCallN, tAug, ipI, tBML, tBML0, isL_IL, isL_lst, L2.start, List.map_cons, List.map_nil, List.length_cons, List.length_nil, List.cons_append, List.nil_append, List.getElem?_cons_succ, List.getElem?_cons_zero, Option.some.injEq, exists_eq_left', exists_eq_left, exists_and_left, V.int.injEq, V.ref.injEq, V.bl.injEq, V.str.injEq, List.set_cons_zero, List.set_cons_succ, List.cons.injEq, and_true, true_and, Nat.reduceAdd, Nat.reduceSub, List.replicate_succ, List.replicate_zero, rIxI, rIxH, rIxTH, rSetI, rSetH, rCatI, rRepI, rSlI, rAppendI, rExtendI, decide_eq_true_eq, upd_same, IL_inj, HO.lst.injEq, toInts_cons, toInts_nil, Option.map_some, if_true, if_false, Bool.true_eq_false, Bool.false_eq_true, Bool.not_true, Bool.not_false, Bool.not_eq_true', decide_eq_false_iff_not, atI_0, atI_1, atI_2, atI_3, atI_4, Int.reduceToNat, Int.reduceLT, Int.reduceLE, Int.reduceNeg, Int.reducePow, cast_lit, upd_upd, Int.reduceAdd, Int.reduceMul, Int.reduceSub, Nat.reduceLT, Nat.reduceLeDiff, cmul_r, cdiv_r, tSl, tPart, tNoPart, rEq, rNe, scal_nn, scal_ii, scal_bb, scal_ss, scal_is, scal_si, V.ty.injEq, and_assoc, tyH_non, tyH_bl, tyH_int, tyH_str, tyH_ref, tyO_lst, tyO_IL, tyO_tup, itO_lst, itO_tup, itO_IL, Dw.rIxD, rLenI, rLenH, rLenTH, rLenQ, rLenB, rListI, Dw.rListS, rIntI, rIntB, rSumI, rIsiD, rIsX, tCallS, tMakeS, tMake, tMakeC, tMakeSC, tFld, sFld, HO.ins.injEq, HO.tup.injEq, cxOf_K, nox_K, tr_K, suite_K, rTupleI, rAllB, rAnyB, BL_inj, tChain, wOnly, wAs, wMany, rEqI, rNeI, Dw.rMax2, rMin2, Dw.rIsN, rIsNotN, rStrIn, rStrNotIn, not_true_eq_false, not_false_eq_true, reduceCtorEq, cl_bool, cl_int, cl_str, cl_list, cl_tuple, isB_NoneType_bool, isB_NoneType_int, isB_NoneType_str, isB_NoneType_list, isB_NoneType_tuple, isB_bool_bool, isB_bool_int, isB_bool_str, isB_bool_list, isB_bool_tuple, isB_int_bool, isB_int_int, isB_int_str, isB_int_list, isB_int_tuple, isB_str_bool, isB_str_int, isB_str_str, isB_str_list, isB_str_tuple, isB_list_bool, isB_list_int, isB_list_str, isB_list_list, isB_list_tuple, isB_tuple_bool, isB_tuple_int, isB_tuple_str, isB_tuple_list, isB_tuple_tuple, iSeqA, Dw.rIxL, Dw.rSetL, rTupT, tPar, tNotT, tMkO, tFmt, tJs, tOst, Dw.rIsXD, L2.tXf, wipe]
      refine ⟨line_le (by decide), fun r hr1 => ⟨p, q, 4, rfl, hP3.upd hr1, by omega, by omega, fun x H4 x0 x1 hP4 s4 => ?_⟩⟩
      have e : H4 r = some (IL [0, 255, 1, 128]) := s4 _ _ (Ne.symm (hP3.ne hr1)) upd_same
      try simp only [tSeq, tAsg, tVar, tC, tOp, rI0, rI, tUn, rU, tIfS, tTest, tRet, tRetN, tDrop, tCB, tCons, tNil, tLst, tLstI, tTup, gName, tB, tAnd, tOr, tNot, tAndV, tOrV, tNotV, tIf, tNext, tBreak, tCont, gSub, tCall, tCallN, tAug, ipI, tBML, tBML0, isL_IL, isL_lst, L2.start, List.map_cons, List.map_nil, List.length_cons, List.length_nil, List.cons_append, List.nil_append, List.getElem?_cons_succ, List.getElem?_cons_zero, Option.some.injEq, exists_eq_left', exists_eq_left, exists_and_left, V.int.injEq, V.ref.injEq, V.bl.injEq, V.str.injEq, List.set_cons_zero, List.set_cons_succ, List.cons.injEq, and_true, true_and, Nat.reduceAdd, Nat.reduceSub, List.replicate_succ, List.replicate_zero, rIxI, rIxH, rIxTH, rSetI, rSetH, rCatI, rRepI, rSlI, rAppendI, rExtendI, decide_eq_true_eq, upd_same, IL_inj, HO.lst.injEq, toInts_cons, toInts_nil, Option.map_some, if_true, if_false, Bool.true_eq_false, Bool.false_eq_true, Bool.not_true, Bool.not_false, Bool.not_eq_true', decide_eq_false_iff_not, atI_0, atI_1, atI_2, atI_3, atI_4, Int.reduceToNat, Int.reduceLT, Int.reduceLE, Int.reduceNeg, Int.reducePow, cast_lit, upd_upd, Int.reduceAdd, Int.reduceMul, Int.reduceSub, Nat.reduceLT, Nat.reduceLeDiff, cmul_r, cdiv_r, tSl, tPart, tNoPart, rEq, rNe, scal_nn, scal_ii, scal_bb, scal_ss, scal_is, scal_si, V.ty.injEq, and_assoc, tyH_non, tyH_bl, tyH_int, tyH_str, tyH_ref, tyO_lst, tyO_IL, tyO_tup, itO_lst, itO_tup, itO_IL, Dw.rIxD, rLenI, rLenH, rLenTH, rLenQ, rLenB, rListI, Dw.rListS, rIntI, rIntB, rSumI, rIsiD, rIsX, tCallS, tMakeS, tMake, tMakeC, tMakeSC, tFld, sFld, HO.ins.injEq, HO.tup.injEq, cxOf_K, nox_K, tr_K, suite_K, rTupleI, rAllB, rAnyB, BL_inj, tChain, wOnly, wAs, wMany, rEqI, rNeI, Dw.rMax2, rMin2, Dw.rIsN, rIsNotN, rStrIn, rStrNotIn, not_true_eq_false, not_false_eq_true, reduceCtorEq, cl_bool, cl_int, cl_str, cl_list, cl_tuple, isB_NoneType_bool, isB_NoneType_int, isB_NoneType_str, isB_NoneType_list, isB_NoneType_tuple, isB_bool_bool, isB_bool_int, isB_bool_str, isB_bool_list, isB_bool_tuple, isB_int_bool, isB_int_int, isB_int_str, isB_int_list, isB_int_tuple, isB_str_bool, isB_str_int, isB_str_str, isB_str_list, isB_str_tuple, isB_list_bool, isB_list_int, isB_list_str, isB_list_list, isB_list_tuple, isB_tuple_bool, isB_tuple_int, isB_tuple_str, isB_tuple_list, isB_tuple_tuple, iSeqA, Dw.rIxL, Dw.rSetL, rTupT, tPar, tNotT, tMkO, tFmt, tJs, tOst, Dw.rIsXD, L2.tXf, e]
      refine ⟨x0, by omega, hq _ _ ?_ hP4 ((Same.b (same_new hr1 _)).trans s4)⟩
      have : x.toNat = 0 ∨ x.toNat = 1 ∨ x.toNat = 2 ∨ x.toNat = 3 := by omega
      rcases this with h | h | h | h <;> rw [h] <;> decide
    · rw [if_neg c2]
      refine ⟨_, rfl, n, rfl, by omega, by omega, fun D hD => lc_pool (p := p) (q := q) (j := 4) (R := fun v => 0 ≤ v ∧ v < 256) (by omega) hP2 hD (fun _ => rfl) ?_ fun ns H' h1 h2 h3 h4 h5 => fin D ns H' hD h1 h2 h3 h4 h5⟩
      intro i H3 Q' hi hP3 hs3 hq
      try simp only [tSeq, tAsg, tVar, tC, tOp, rI0, rI, tUn, rU, tIfS, tTest, tRet, tRetN, tDrop, tCB, tCons, tNil, tLst, tLstI, tTup, gName, tB, tAnd, tOr, tNot, tAndV, tOrV, tNotV, tIf, tNext, tBreak, tCont, gSub, tCall, tCallN, tAug, ipI, tBML, tBML0, isL_IL, isL_lst, L2.start, List.map_cons, List.map_nil, List.length_cons, List.length_nil, List.cons_append, List.nil_append, List.getElem?_cons_succ, List.getElem?_cons_zero, Option.some.injEq, exists_eq_left', exists_eq_left, exists_and_left, V.int.injEq, V.ref.injEq, V.bl.injEq, V.str.injEq, List.set_cons_zero, List.set_cons_succ, List.cons.injEq, and_true, true_and, Nat.reduceAdd, Nat.reduceSub, List.replicate_succ, List.replicate_zero, rIxI, rIxH, rIxTH, rSetI, rSetH, rCatI, rRepI, rSlI, rAppendI, rExtendI, decide_eq_true_eq, upd_same, IL_inj, HO.lst.injEq, toInts_cons, toInts_nil, Option.map_some, if_true, if_false, Bool.true_eq_false, Bool.false_eq_true, Bool.not_true, Bool.not_false, Bool.not_eq_true', decide_eq_false_iff_not, atI_0, atI_1, atI_2, atI_3, atI_4, Int.reduceToNat, Int.reduceLT, Int.reduceLE, Int.reduceNeg, Int.reducePow, cast_lit, upd_upd, Int.reduceAdd, Int.reduceMul, Int.reduceSub, Nat.reduceLT, Nat.reduceLeDiff, cmul_r, cdiv_r, tSl, tPart, tNoPart, rEq, rNe, scal_nn, scal_ii, scal_bb, scal_ss, scal_is, scal_si, V.ty.injEq, and_assoc, tyH_non, tyH_bl, tyH_int, tyH_str, tyH_ref, tyO_lst, tyO_IL, tyO_tup, itO_lst, itO_tup, itO_IL, Dw.rIxD, rLenI, rLenH, rLenTH, rLenQ, rLenB, rListI, Dw.rListS, rIntI, rIntB, rSumI, rIsiD, rIsX, tCallS, tMakeS, tMake, tMakeC, tMakeSC, tFld, sFld, HO.ins.injEq, HO.tup.injEq, cxOf_K, nox_K, tr_K, suite_K, rTupleI, rAllB, rAnyB, BL_inj, tChain, wOnly, wAs, wMany, rEqI, rNeI, Dw.rMax2, rMin2, Dw.rIsN, rIsNotN, rStrIn, rStrNotIn, not_true_eq_false, not_false_eq_true, reduceCtorEq, cl_bool, cl_int, cl_str, cl_list, cl_tuple, isB_NoneType_bool, isB_NoneType_int, isB_NoneType_str, isB_NoneType_list, isB_NoneType_tuple, isB_bool_bool, isB_bool_int, isB_bool_str, isB_bool_list, isB_bool_tuple, isB_int_bool, isB_int_int, isB_int_str, isB_int_list, isB_int_tuple, isB_str_bool, isB_str_int, isB_str_str, isB_str_list, isB_str_tuple, isB_list_bool, isB_list_int, isB_list_str, isB_list_list, isB_list_tuple, isB_tuple_bool, isB_tuple_int, isB_tuple_str, isB_tuple_list, isB_tuple_tuple, iSeqA, Dw.rIxL, Dw.rSetL, rTupT, tPar, tNotT, tMkO, tFmt, tJs, tOst, Dw.rIsXD, L2.tXf, wipe]
      exact ⟨p, q, 256, rfl, hP3, by omega, by omega, fun x H4 x0 x1 hP4 s4 => hq _ _ ⟨x0, x1⟩ hP4 s4⟩
end
section
variable {P : Program} [SupP P] {w : World} {K : PySem.W.Frag} {mg : Str → Option Value} {base : Heap} {A : Ad}
def spGSecs : Sp := fun vs H Q _ => ∃ (p q : Addr) (m : Int) (n : Nat), vs = [.ref p, .int m, .int n] ∧ Pool H p q ∧ 0 ≤ m ∧ m ≤ 30 ∧ n ≤ 9 ∧ ∀ D xs ss H', Pool H' p q → SameB p H H' → H D = none → H' D = some (.lst xs) → AllAt (PairAt H') xs ss → (∀ s ∈ ss, OkG n s) → (ss.length : Int) = m → Q (.ref D) H'
theorem ok_law_group_sectors (T : Tx K mg A) : FnOk P w K mg base CX0 3 A.f_law_group_sectors A.d_law_group_sectors ["pool", "many", "size"] spGSecs := by
  refine T.F_law_group_sectors.ok sc_law_group_sectors (fun vs H Q E h => ?_) (fun cdv A' outer s H vs Q E hr h => ?_)
  · obtain ⟨p, q, m, n, rfl, _⟩ := h
    rfl
  obtain ⟨p, q, m, n, rfl, hP, hm0, hm1, hn, k⟩ := h
  refine ⟨_, (pss_cons (ps_set (i := 3) sc_law_group_sectors.nd rfl (Or.inl rfl) (pe_lst pa_nil))
      (pss_cons (ps_for PassesOwn.never rfl (pi_range1 rfl T.z_range (pa_cons (pv 1) pa_nil)) (pg_name (i := 4) sc_law_group_sectors.nd rfl (Or.inl rfl))
        (pss_cons (ps_set (i := 5) sc_law_group_sectors.nd rfl (Or.inl rfl) (pe_tup (pa_cons (pe_call (ok_law_draw (P := P) T) (hr.mono (by decide)) rfl T.g_law_draw T.F_law_draw.kp T.b_law_draw .nil pass0 (pa_cons (pv 0) (pa_cons pe_int pa_nil))) (pa_cons (pv 4) (pa_cons (pe_call (ok_law_draw (P := P) T) (hr.mono (by decide)) rfl T.g_law_draw T.F_law_draw.kp T.b_law_draw .nil pass0 (pa_cons (pv 0) (pa_cons pe_int pa_nil))) (pa_cons (pe_ix ix_listI (pe_lstI (pa_cons (pe_call (ok_law_draw (P := P) T) (hr.mono (by decide)) rfl T.g_law_draw T.F_law_draw.kp T.b_law_draw .nil pass0 (pa_cons (pv 0) (pa_cons pe_int pa_nil))) (pa_cons pe_int pa_nil))) (pe_call (ok_law_draw (P := P) T) (hr.mono (by decide)) rfl T.g_law_draw T.F_law_draw.kp T.b_law_draw .nil pass0 (pa_cons (pv 0) (pa_cons pe_int pa_nil))) (fun _ _ => rfl)) pa_nil))))))
      (pss_cons (ps_set (i := 6) sc_law_group_sectors.nd rfl (Or.inl rfl) (pe_ix ix_listH (pe_lst (pa_cons (pe_op op_repI (pe_lstI (pa_cons (pe_call (ok_law_draw (P := P) T) (hr.mono (by decide)) rfl T.g_law_draw T.F_law_draw.kp T.b_law_draw .nil pass0 (pa_cons (pv 0) (pa_cons pe_int pa_nil))) pa_nil)) (pe_op op_shl pe_int (pv 2))) (pa_cons (pe_lc (own := [("j", 7)]) (g := (gName 7)) (tt := tYes) rfl sc_law_group_sectors.nd (pi_range1 rfl T.z_range (pa_cons (pe_op op_shl pe_int (pv 2)) pa_nil)) (blkOk_by (N := n_law_group_sectors) (sc := (defScope s_law_group_sectors)) (by decide +kernel)) (fun _ _ _ _ _ => (pg_name (i := 7) sc_law_group_sectors.nd rfl (Or.inl rfl))) (fun _ _ _ _ _ => pts_nil) (fun _ _ _ _ _ => (pe_call (ok_law_draw (P := P) T) (hr.mono (by decide)) rfl T.g_law_draw T.F_law_draw.kp T.b_law_draw .nil pass0 (pa_cons (pv 0) (pa_cons pe_int pa_nil))))) pa_nil))) (pe_call (ok_law_draw (P := P) T) (hr.mono (by decide)) rfl T.g_law_draw T.F_law_draw.kp T.b_law_draw .nil pass0 (pa_cons (pv 0) (pa_cons pe_int pa_nil))) (fun _ _ => rfl)))
      (pss_one (ps_expr (PE.imp (pe_bm PySem.F.plainAttrs_list PySem.F.slot_list_append PySem.F.type_list_append mt_append (pv 3) (pa_cons (pe_tup (pa_cons (pv 5) (pa_cons (pv 6) pa_nil))) pa_nil)) bml_imp))))))
      (pss_one (ps_ret (pv 3))))), ?_⟩
  try simp only [tSeq, tAsg, tVar, tC, tOp, rI0, rI, tUn, rU, tIfS, tTest, tRet, tRetN, tDrop, tCB, tCons, tNil, tLst, tLstI, tTup, gName, tB, tAnd, tOr, tNot, tAndV, tOrV, tNotV, tIf, tNext, tBreak, tCont, gSub, tCall, tCallN, tAug, ipI, tBML, tBML0, isL_IL, isL_lst, L2.start, List.map_cons, List.map_nil, List.length_cons, List.length_nil, List.cons_append, List.nil_append, List.getElem?_cons_succ, List.getElem?_cons_zero, Option.some.injEq, exists_eq_left', exists_eq_left, exists_and_left, V.int.injEq, V.ref.injEq, V.bl.injEq, V.str.injEq, List.set_cons_zero, List.set_cons_succ, List.cons.injEq, and_true, true_and, Nat.reduceAdd, Nat.reduceSub, List.replicate_succ, List.replicate_zero, rIxI, rIxH, rIxTH, rSetI, rSetH, rCatI, rRepI, rSlI, rAppendI, rExtendI, decide_eq_true_eq, upd_same, IL_inj, HO.lst.injEq, toInts_cons, toInts_nil, Option.map_some, if_true, if_false, Bool.true_eq_false, Bool.false_eq_true, Bool.not_true, Bool.not_false, Bool.not_eq_true', decide_eq_false_iff_not, atI_0, atI_1, atI_2, atI_3, atI_4, Int.reduceToNat, Int.reduceLT, Int.reduceLE, Int.reduceNeg, Int.reducePow, cast_lit, upd_upd, Int.reduceAdd, Int.reduceMul, Int.reduceSub, Nat.reduceLT, Nat.reduceLeDiff, cmul_r, cdiv_r, tSl, tPart, tNoPart, rEq, rNe, scal_nn, scal_ii, scal_bb, scal_ss, scal_is, scal_si, V.ty.injEq, and_assoc, tyH_non, tyH_bl, tyH_int, tyH_str, tyH_ref, tyO_lst, tyO_IL, tyO_tup, itO_lst, itO_tup, itO_IL, Dw.rIxD, rLenI, rLenH, rLenTH, rLenQ, rLenB, rListI, Dw.rListS, rIntI, rIntB, rSumI, rIsiD, rIsX, tCallS, tMakeS, tMake, tMakeC, tMakeSC, tFld, sFld, HO.ins.injEq, HO.tup.injEq, cxOf_K, nox_K, tr_K, suite_K, rTupleI, rAllB, rAnyB, BL_inj, tChain, wOnly, wAs, wMany, rEqI, rNeI, Dw.rMax2, rMin2, Dw.rIsN, rIsNotN, rStrIn, rStrNotIn, not_true_eq_false, not_false_eq_true, reduceCtorEq, cl_bool, cl_int, cl_str, cl_list, cl_tuple, isB_NoneType_bool, isB_NoneType_int, isB_NoneType_str, isB_NoneType_list, isB_NoneType_tuple, isB_bool_bool, isB_bool_int, isB_bool_str, isB_bool_list, isB_bool_tuple, isB_int_bool, isB_int_int, isB_int_str, isB_int_list, isB_int_tuple, isB_str_bool, isB_str_int, isB_str_str, isB_str_list, isB_str_tuple, isB_list_bool, isB_list_int, isB_list_str, isB_list_list, isB_list_tuple, isB_tuple_bool, isB_tuple_int, isB_tuple_str, isB_tuple_list, isB_tuple_tuple, rSlCI, iRng3, iRev, gCons, gNil, iZip, iEnum, tLc_eq, tFor_eq, iRng1, iRng2, iList, iTup, rSetD, iKeys, tDNewK, Int.reducePow, Int.reduceNeg, iSeqA, Dw.rIxL, Dw.rSetL, rTupT, tPar, tNotT, tMkO, tFmt, tJs, tOst, Dw.rIsXD, L2.tXf]
  refine ⟨Nat.zero_le _, fun D hD => ⟨by omega, by omega, ?_⟩⟩
  have hDp : p ≠ D := hP.ne hD
  obtain ⟨I, hI⟩ : ∃ F : Nat → L2.St → Hp → Prop, F = (fun i σ H' => Pool H' p q ∧ SameB p H H' ∧ ∃ (xs : List V) (ss : List GSec) (y4 y5 y6 y7 : Option V), H' D = some (.lst xs) ∧ AllAt (PairD D H') xs ss ∧ (∀ s ∈ ss, OkG n s) ∧ ss.length = i ∧ σ = [some (V.ref p), some (V.int m), some (V.int (n : Int)), some (V.ref D), y4, y5, y6, y7]) := ⟨_, rfl⟩
  refine forR I (by rw [hI]; exact ⟨hP.upd hD, Same.b (same_new hD _), [], [], _, _, _, _, upd_same, .nil, (fun s hs => by cases hs), rfl, rfl⟩) ?_ ?_
  · intro i σ H1 hi h
    rw [hI] at h
    obtain ⟨hP1, s1, xs, ss, y4, y5, y6, y7, e1, A1, ok1, hsl, rfl⟩ := h
    try simp only [tSeq, tAsg, tVar, tC, tOp, rI0, rI, tUn, rU, tIfS, tTest, tRet, tRetN, tDrop, tCB, tCons, tNil, tLst, tLstI, tTup, gName, tB, tAnd, tOr, tNot, tAndV, tOrV, tNotV, tIf, tNext, tBreak, tCont, gSub, tCall, tCallN, tAug, ipI, tBML, tBML0, isL_IL, isL_lst, L2.start, List.map_cons, List.map_nil, List.length_cons, List.length_nil, List.cons_append, List.nil_append, List.getElem?_cons_succ, List.getElem?_cons_zero, Option.some.injEq, exists_eq_left', exists_eq_left, exists_and_left, V.int.injEq, V.ref.injEq, V.bl.injEq, V.str.injEq, List.set_cons_zero, List.set_cons_succ, List.cons.injEq, and_true, true_and, Nat.reduceAdd, Nat.reduceSub, List.replicate_succ, List.replicate_zero, rIxI, rIxH, rIxTH, rSetI, rSetH, rCatI, rRepI, rSlI, rAppendI, rExtendI, decide_eq_true_eq, upd_same, IL_inj, HO.lst.injEq, toInts_cons, toInts_nil, Option.map_some, if_true, if_false, Bool.true_eq_false, Bool.false_eq_true, Bool.not_true, Bool.not_false, Bool.not_eq_true', decide_eq_false_iff_not, atI_0, atI_1, atI_2, atI_3, atI_4, Int.reduceToNat, Int.reduceLT, Int.reduceLE, Int.reduceNeg, Int.reducePow, cast_lit, upd_upd, Int.reduceAdd, Int.reduceMul, Int.reduceSub, Nat.reduceLT, Nat.reduceLeDiff, cmul_r, cdiv_r, tSl, tPart, tNoPart, rEq, rNe, scal_nn, scal_ii, scal_bb, scal_ss, scal_is, scal_si, V.ty.injEq, and_assoc, tyH_non, tyH_bl, tyH_int, tyH_str, tyH_ref, tyO_lst, tyO_IL, tyO_tup, itO_lst, itO_tup, itO_IL, Dw.rIxD, rLenI, rLenH, rLenTH, rLenQ, rLenB, rListI, Dw.rListS, rIntI, rIntB, rSumI, rIsiD, rIsX, tCallS, tMakeS, tMake, tMakeC, tMakeSC, tFld, sFld, HO.ins.injEq, HO.tup.injEq, cxOf_K, nox_K, tr_K, suite_K, rTupleI, rAllB, rAnyB, BL_inj, tChain, wOnly, wAs, wMany, rEqI, rNeI, Dw.rMax2, rMin2, Dw.rIsN, rIsNotN, rStrIn, rStrNotIn, not_true_eq_false, not_false_eq_true, reduceCtorEq, cl_bool, cl_int, cl_str, cl_list, cl_tuple, isB_NoneType_bool, isB_NoneType_int, isB_NoneType_str, isB_NoneType_list, isB_NoneType_tuple, isB_bool_bool, isB_bool_int, isB_bool_str, isB_bool_list, isB_bool_tuple, isB_int_bool, isB_int_int, isB_int_str, isB_int_list, isB_int_tuple, isB_str_bool, isB_str_int, isB_str_str, isB_str_list, isB_str_tuple, isB_list_bool, isB_list_int, isB_list_str, isB_list_list, isB_list_tuple, isB_tuple_bool, isB_tuple_int, isB_tuple_str, isB_tuple_list, isB_tuple_tuple, rSlCI, iRng3, iRev, gCons, gNil, iZip, iEnum, tLc_eq, tFor_eq, iRng1, iRng2, iList, iTup, rSetD, iKeys, tDNewK, Int.reducePow, Int.reduceNeg, iSeqA, Dw.rIxL, Dw.rSetL, rTupT, tPar, tNotT, tMkO, tFmt, tJs, tOst, Dw.rIsXD, L2.tXf]
    refine ⟨p, q, 256, rfl, hP1, by omega, by omega, fun a0 H2 a00 a01 hP2 s2 => ?_⟩
    try simp only [tSeq, tAsg, tVar, tC, tOp, rI0, rI, tUn, rU, tIfS, tTest, tRet, tRetN, tDrop, tCB, tCons, tNil, tLst, tLstI, tTup, gName, tB, tAnd, tOr, tNot, tAndV, tOrV, tNotV, tIf, tNext, tBreak, tCont, gSub, tCall, tCallN, tAug, ipI, tBML, tBML0, isL_IL, isL_lst, L2.start, List.map_cons, List.map_nil, List.length_cons, List.length_nil, List.cons_append, List.nil_append, List.getElem?_cons_succ, List.getElem?_cons_zero, Option.some.injEq, exists_eq_left', exists_eq_left, exists_and_left, V.int.injEq, V.ref.injEq, V.bl.injEq, V.str.injEq, List.set_cons_zero, List.set_cons_succ, List.cons.injEq, and_true, true_and, Nat.reduceAdd, Nat.reduceSub, List.replicate_succ, List.replicate_zero, rIxI, rIxH, rIxTH, rSetI, rSetH, rCatI, rRepI, rSlI, rAppendI, rExtendI, decide_eq_true_eq, upd_same, IL_inj, HO.lst.injEq, toInts_cons, toInts_nil, Option.map_some, if_true, if_false, Bool.true_eq_false, Bool.false_eq_true, Bool.not_true, Bool.not_false, Bool.not_eq_true', decide_eq_false_iff_not, atI_0, atI_1, atI_2, atI_3, atI_4, Int.reduceToNat, Int.reduceLT, Int.reduceLE, Int.reduceNeg, Int.reducePow, cast_lit, upd_upd, Int.reduceAdd, Int.reduceMul, Int.reduceSub, Nat.reduceLT, Nat.reduceLeDiff, cmul_r, cdiv_r, tSl, tPart, tNoPart, rEq, rNe, scal_nn, scal_ii, scal_bb, scal_ss, scal_is, scal_si, V.ty.injEq, and_assoc, tyH_non, tyH_bl, tyH_int, tyH_str, tyH_ref, tyO_lst, tyO_IL, tyO_tup, itO_lst, itO_tup, itO_IL, Dw.rIxD, rLenI, rLenH, rLenTH, rLenQ, rLenB, rListI, Dw.rListS, rIntI, rIntB, rSumI, rIsiD, rIsX, tCallS, tMakeS, tMake, tMakeC, tMakeSC, tFld, sFld, HO.ins.injEq, HO.tup.injEq, cxOf_K, nox_K, tr_K, suite_K, rTupleI, rAllB, rAnyB, BL_inj, tChain, wOnly, wAs, wMany, rEqI, rNeI, Dw.rMax2, rMin2, Dw.rIsN, rIsNotN, rStrIn, rStrNotIn, not_true_eq_false, not_false_eq_true, reduceCtorEq, cl_bool, cl_int, cl_str, cl_list, cl_tuple, isB_NoneType_bool, isB_NoneType_int, isB_NoneType_str, isB_NoneType_list, isB_NoneType_tuple, isB_bool_bool, isB_bool_int, isB_bool_str, isB_bool_list, isB_bool_tuple, isB_int_bool, isB_int_int, isB_int_str, isB_int_list, isB_int_tuple, isB_str_bool, isB_str_int, isB_str_str, isB_str_list, isB_str_tuple, isB_list_bool, isB_list_int, isB_list_str, isB_list_list, isB_list_tuple, isB_tuple_bool, isB_tuple_int, isB_tuple_str, isB_tuple_list, isB_tuple_tuple, rSlCI, iRng3, iRev, gCons, gNil, iZip, iEnum, tLc_eq, tFor_eq, iRng1, iRng2, iList, iTup, rSetD, iKeys, tDNewK, Int.reducePow, Int.reduceNeg, iSeqA, Dw.rIxL, Dw.rSetL, rTupT, tPar, tNotT, tMkO, tFmt, tJs, tOst, Dw.rIsXD, L2.tXf]
    refine ⟨p, q, 256, rfl, hP2, by omega, by omega, fun a2 H3 a20 a21 hP3 s3 => ?_⟩
    try simp only [tSeq, tAsg, tVar, tC, tOp, rI0, rI, tUn, rU, tIfS, tTest, tRet, tRetN, tDrop, tCB, tCons, tNil, tLst, tLstI, tTup, gName, tB, tAnd, tOr, tNot, tAndV, tOrV, tNotV, tIf, tNext, tBreak, tCont, gSub, tCall, tCallN, tAug, ipI, tBML, tBML0, isL_IL, isL_lst, L2.start, List.map_cons, List.map_nil, List.length_cons, List.length_nil, List.cons_append, List.nil_append, List.getElem?_cons_succ, List.getElem?_cons_zero, Option.some.injEq, exists_eq_left', exists_eq_left, exists_and_left, V.int.injEq, V.ref.injEq, V.bl.injEq, V.str.injEq, List.set_cons_zero, List.set_cons_succ, List.cons.injEq, and_true, true_and, Nat.reduceAdd, Nat.reduceSub, List.replicate_succ, List.replicate_zero, rIxI, rIxH, rIxTH, rSetI, rSetH, rCatI, rRepI, rSlI, rAppendI, rExtendI, decide_eq_true_eq, upd_same, IL_inj, HO.lst.injEq, toInts_cons, toInts_nil, Option.map_some, if_true, if_false, Bool.true_eq_false, Bool.false_eq_true, Bool.not_true, Bool.not_false, Bool.not_eq_true', decide_eq_false_iff_not, atI_0, atI_1, atI_2, atI_3, atI_4, Int.reduceToNat, Int.reduceLT, Int.reduceLE, Int.reduceNeg, Int.reducePow, cast_lit, upd_upd, Int.reduceAdd, Int.reduceMul, Int.reduceSub, Nat.reduceLT, Nat.reduceLeDiff, cmul_r, cdiv_r, tSl, tPart, tNoPart, rEq, rNe, scal_nn, scal_ii, scal_bb, scal_ss, scal_is, scal_si, V.ty.injEq, and_assoc, tyH_non, tyH_bl, tyH_int, tyH_str, tyH_ref, tyO_lst, tyO_IL, tyO_tup, itO_lst, itO_tup, itO_IL, Dw.rIxD, rLenI, rLenH, rLenTH, rLenQ, rLenB, rListI, Dw.rListS, rIntI, rIntB, rSumI, rIsiD, rIsX, tCallS, tMakeS, tMake, tMakeC, tMakeSC, tFld, sFld, HO.ins.injEq, HO.tup.injEq, cxOf_K, nox_K, tr_K, suite_K, rTupleI, rAllB, rAnyB, BL_inj, tChain, wOnly, wAs, wMany, rEqI, rNeI, Dw.rMax2, rMin2, Dw.rIsN, rIsNotN, rStrIn, rStrNotIn, not_true_eq_false, not_false_eq_true, reduceCtorEq, cl_bool, cl_int, cl_str, cl_list, cl_tuple, isB_NoneType_bool, isB_NoneType_int, isB_NoneType_str, isB_NoneType_list, isB_NoneType_tuple, isB_bool_bool, isB_bool_int, isB_bool_str, isB_bool_list, isB_bool_tuple, isB_int_bool, isB_int_int, isB_int_str, isB_int_list, isB_int_tuple, isB_str_bool, isB_str_int, isB_str_str, isB_str_list, isB_str_tuple, isB_list_bool, isB_list_int, isB_list_str, isB_list_list, isB_list_tuple, isB_tuple_bool, isB_tuple_int, isB_tuple_str, isB_tuple_list, isB_tuple_tuple, rSlCI, iRng3, iRev, gCons, gNil, iZip, iEnum, tLc_eq, tFor_eq, iRng1, iRng2, iList, iTup, rSetD, iKeys, tDNewK, Int.reducePow, Int.reduceNeg, iSeqA, Dw.rIxL, Dw.rSetL, rTupT, tPar, tNotT, tMkO, tFmt, tJs, tOst, Dw.rIsXD, L2.tXf]
    refine ⟨p, q, 256, rfl, hP3, by omega, by omega, fun a3 H4 a30 a31 hP4 s4 => ?_⟩
    try simp only [tSeq, tAsg, tVar, tC, tOp, rI0, rI, tUn, rU, tIfS, tTest, tRet, tRetN, tDrop, tCB, tCons, tNil, tLst, tLstI, tTup, gName, tB, tAnd, tOr, tNot, tAndV, tOrV, tNotV, tIf, tNext, tBreak, tCont, gSub, tCall, tCallN, tAug, ipI, tBML, tBML0, isL_IL, isL_lst, L2.start, List.map_cons, List.map_nil, List.length_cons, List.length_nil, List.cons_append, List.nil_append, List.getElem?_cons_succ, List.getElem?_cons_zero, Option.some.injEq, exists_eq_left', exists_eq_left, exists_and_left, V.int.injEq, V.ref.injEq, V.bl.injEq, V.str.injEq, List.set_cons_zero, List.set_cons_succ, List.cons.injEq, and_true, true_and, Nat.reduceAdd, Nat.reduceSub, List.replicate_succ, List.replicate_zero, rIxI, rIxH, rIxTH, rSetI, rSetH, rCatI, rRepI, rSlI, rAppendI, rExtendI, decide_eq_true_eq, upd_same, IL_inj, HO.lst.injEq, toInts_cons, toInts_nil, Option.map_some, if_true, if_false, Bool.true_eq_false, Bool.false_eq_true, Bool.not_true, Bool.not_false, Bool.not_eq_true', decide_eq_false_iff_not, atI_0, atI_1, atI_2, atI_3, atI_4, Int.reduceToNat, Int.reduceLT, Int.reduceLE, Int.reduceNeg, Int.reducePow, cast_lit, upd_upd, Int.reduceAdd, Int.reduceMul, Int.reduceSub, Nat.reduceLT, Nat.reduceLeDiff, cmul_r, cdiv_r, tSl, tPart, tNoPart, rEq, rNe, scal_nn, scal_ii, scal_bb, scal_ss, scal_is, scal_si, V.ty.injEq, and_assoc, tyH_non, tyH_bl, tyH_int, tyH_str, tyH_ref, tyO_lst, tyO_IL, tyO_tup, itO_lst, itO_tup, itO_IL, Dw.rIxD, rLenI, rLenH, rLenTH, rLenQ, rLenB, rListI, Dw.rListS, rIntI, rIntB, rSumI, rIsiD, rIsX, tCallS, tMakeS, tMake, tMakeC, tMakeSC, tFld, sFld, HO.ins.injEq, HO.tup.injEq, cxOf_K, nox_K, tr_K, suite_K, rTupleI, rAllB, rAnyB, BL_inj, tChain, wOnly, wAs, wMany, rEqI, rNeI, Dw.rMax2, rMin2, Dw.rIsN, rIsNotN, rStrIn, rStrNotIn, not_true_eq_false, not_false_eq_true, reduceCtorEq, cl_bool, cl_int, cl_str, cl_list, cl_tuple, isB_NoneType_bool, isB_NoneType_int, isB_NoneType_str, isB_NoneType_list, isB_NoneType_tuple, isB_bool_bool, isB_bool_int, isB_bool_str, isB_bool_list, isB_bool_tuple, isB_int_bool, isB_int_int, isB_int_str, isB_int_list, isB_int_tuple, isB_str_bool, isB_str_int, isB_str_str, isB_str_list, isB_str_tuple, isB_list_bool, isB_list_int, isB_list_str, isB_list_list, isB_list_tuple, isB_tuple_bool, isB_tuple_int, isB_tuple_str, isB_tuple_list, isB_tuple_tuple, rSlCI, iRng3, iRev, gCons, gNil, iZip, iEnum, tLc_eq, tFor_eq, iRng1, iRng2, iList, iTup, rSetD, iKeys, tDNewK, Int.reducePow, Int.reduceNeg, iSeqA, Dw.rIxL, Dw.rSetL, rTupT, tPar, tNotT, tMkO, tFmt, tJs, tOst, Dw.rIsXD, L2.tXf]
    have sA1 := s2.trans (s3.trans s4)
    refine ⟨line_le (by decide), fun u1 hu1 => ?_⟩
    have hu1p : p ≠ u1 := hP4.ne hu1
    have b1 : SameB p H4 (upd H4 u1 (IL [a3, 65])) := Same.b (same_new hu1 _)
    have eu1 : upd H4 u1 (IL [a3, 65]) u1 = some (IL [a3, 65]) := upd_same
    have hP5 := hP4.upd (o := IL [a3, 65]) hu1
    generalize upd H4 u1 (IL [a3, 65]) = H5 at b1 eu1 hP5 ⊢
    refine ⟨p, q, 2, rfl, hP5, by omega, by omega, fun c H6 c0 c1 hP6 s6 => ⟨[a3, 65], c, rfl, s6 _ _ (Ne.symm hu1p) eu1, c0, c1, line_le (by decide), fun u2 hu2 => ?_⟩⟩
    obtain ⟨a4, ea4, a40, a41⟩ : ∃ a4 : Int, [a3, 65].getD c.toNat 0 = a4 ∧ 0 ≤ a4 ∧ a4 < 256 := by
      have : c = 0 ∨ c = 1 := by omega
      rcases this with h | h <;> subst h
      · exact ⟨a3, rfl, a30, a31⟩
      · exact ⟨65, rfl, by decide, by decide⟩
    rw [ea4]
    have sA2 := sA1.trans (b1.trans s6)
    have ek : (0 : Int) + (i : Int) = (i : Int) := by omega
    rw [ek]
    have hu2p : p ≠ u2 := hP6.ne hu2
    have b2 : SameB p H6 (upd H6 u2 (HO.tup [V.int a0, V.int (i : Int), V.int a2, V.int a4])) := Same.b (same_new hu2 _)
    have eu2 : upd H6 u2 (HO.tup [V.int a0, V.int (i : Int), V.int a2, V.int a4]) u2 = some (HO.tup ([a0, (i : Int), a2, a4].map V.int)) := upd_same
    have hP7 := hP6.upd (o := HO.tup [V.int a0, V.int (i : Int), V.int a2, V.int a4]) hu2
    generalize upd H6 u2 (HO.tup [V.int a0, V.int (i : Int), V.int a2, V.int a4]) = H7 at b2 eu2 hP7 ⊢
    refine ⟨p, q, 256, rfl, hP7, by omega, by omega, fun y H8 y0 y1 hP8 s8 => ⟨[y], rfl, line_le (by show 1 ≤ _; decide), fun u3 hu3 => ?_⟩⟩
    have eu28 := s8 _ _ (Ne.symm hu2p) eu2
    have h2n : (2 : Nat) ^ n ≤ 512 := Nat.pow_le_pow_right (n := 2) (by decide) hn
    have eN : (16 : Int) * 2 ^ (n : Int).toNat = ((16 * 2 ^ n : Nat) : Int) := by
      rw [Int.toNat_natCast]
      push_cast
      rfl
    rw [eN]
    have cp : CPow 16 (n : Int) := ⟨by omega, by omega, by decide⟩
    have b3 : SameB p H8 (upd H8 u3 (IL [y])) := Same.b (same_new hu3 _)
    have eu2b := b3 _ _ (Ne.symm hu2p) eu28
    have hP9 := hP8.upd (o := IL [y]) hu3
    generalize hH9 : upd H8 u3 (IL [y]) = H9 at b3 eu2b hP9 ⊢
    refine ⟨cp, by omega, by omega, line_le (by rw [Int.toNat_natCast]; show 1 * _ ≤ _; omega), fun u4 hu4 => ⟨cp, by omega, by omega, fun D1 hD1 => ?_⟩⟩
    rw [rep_one, Int.toNat_natCast] at hD1 ⊢
    have hu4p : p ≠ u4 := hP9.ne hu4
    have nDp : D ≠ p := Ne.symm hDp
    have e9 : H9 D = some (.lst xs) := (sA2.trans (b2.trans (s8.trans b3))) _ _ nDp e1
    have nu4 : u4 ≠ D := fun e => by subst e; rw [e9] at hu4; cases hu4
    have b4 : SameB p H9 (upd H9 u4 (IL (List.replicate (16 * 2 ^ n) y))) := Same.b (same_new hu4 _)
    have eu4 : upd H9 u4 (IL (List.replicate (16 * 2 ^ n) y)) u4 = some (IL (List.replicate (16 * 2 ^ n) y)) := upd_same
    have eu2c := b4 _ _ (Ne.symm hu2p) eu2b
    have hP10 := hP9.upd (o := IL (List.replicate (16 * 2 ^ n) y)) hu4
    generalize upd H9 u4 (IL (List.replicate (16 * 2 ^ n) y)) = H10 at b4 eu4 eu2c hP10 hD1 ⊢
    have hD1p : p ≠ D1 := hP10.ne hD1
    have e10 : H10 D = some (.lst xs) := b4 _ _ nDp e9
    have nD1 : D1 ≠ D := fun e => by subst e; rw [e10] at hD1; cases hD1
    refine lc_pool (p := p) (q := q) (R := fun v => 0 ≤ v ∧ v < 256) (by omega) hP10 hD1 (fun _ => rfl) ?_ fun zs H11 hzl hzb hP11 s11 eD1 => ?_
    · intro i2 H12 Q2 hi2 hP12 hs12 hq2
      try simp only [tSeq, tAsg, tVar, tC, tOp, rI0, rI, tUn, rU, tIfS, tTest, tRet, tRetN, tDrop, tCB, tCons, tNil, tLst, tLstI, tTup, gName, tB, tAnd, tOr, tNot, tAndV, tOrV, tNotV, tIf, tNext, tBreak, tCont, gSub, tCall, tCallN, tAug, ipI, tBML, tBML0, isL_IL, isL_lst, L2.start, List.map_cons, List.map_nil, List.length_cons, List.length_nil, List.cons_append, List.nil_append, List.getElem?_cons_succ, List.getElem?_cons_zero, Option.some.injEq, exists_eq_left', exists_eq_left, exists_and_left, V.int.injEq, V.ref.injEq, V.bl.injEq, V.str.injEq, List.set_cons_zero, List.set_cons_succ, List.cons.injEq, and_true, true_and, Nat.reduceAdd, Nat.reduceSub, List.replicate_succ, List.replicate_zero, rIxI, rIxH, rIxTH, rSetI, rSetH, rCatI, rRepI, rSlI, rAppendI, rExtendI, decide_eq_true_eq, upd_same, IL_inj, HO.lst.injEq, toInts_cons, toInts_nil, Option.map_some, if_true, if_false, Bool.true_eq_false, Bool.false_eq_true, Bool.not_true, Bool.not_false, Bool.not_eq_true', decide_eq_false_iff_not, atI_0, atI_1, atI_2, atI_3, atI_4, Int.reduceToNat, Int.reduceLT, Int.reduceLE, Int.reduceNeg, Int.reducePow, cast_lit, upd_upd, Int.reduceAdd, Int.reduceMul, Int.reduceSub, Nat.reduceLT, Nat.reduceLeDiff, cmul_r, cdiv_r, tSl, tPart, tNoPart, rEq, rNe, scal_nn, scal_ii, scal_bb, scal_ss, scal_is, scal_si, V.ty.injEq, and_assoc, tyH_non, tyH_bl, tyH_int, tyH_str, tyH_ref, tyO_lst, tyO_IL, tyO_tup, itO_lst, itO_tup, itO_IL, Dw.rIxD, rLenI, rLenH, rLenTH, rLenQ, rLenB, rListI, Dw.rListS, rIntI, rIntB, rSumI, rIsiD, rIsX, tCallS, tMakeS, tMake, tMakeC, tMakeSC, tFld, sFld, HO.ins.injEq, HO.tup.injEq, cxOf_K, nox_K, tr_K, suite_K, rTupleI, rAllB, rAnyB, BL_inj, tChain, wOnly, wAs, wMany, rEqI, rNeI, Dw.rMax2, rMin2, Dw.rIsN, rIsNotN, rStrIn, rStrNotIn, not_true_eq_false, not_false_eq_true, reduceCtorEq, cl_bool, cl_int, cl_str, cl_list, cl_tuple, isB_NoneType_bool, isB_NoneType_int, isB_NoneType_str, isB_NoneType_list, isB_NoneType_tuple, isB_bool_bool, isB_bool_int, isB_bool_str, isB_bool_list, isB_bool_tuple, isB_int_bool, isB_int_int, isB_int_str, isB_int_list, isB_int_tuple, isB_str_bool, isB_str_int, isB_str_str, isB_str_list, isB_str_tuple, isB_list_bool, isB_list_int, isB_list_str, isB_list_list, isB_list_tuple, isB_tuple_bool, isB_tuple_int, isB_tuple_str, isB_tuple_list, isB_tuple_tuple, rSlCI, iRng3, iRev, gCons, gNil, iZip, iEnum, tLc_eq, tFor_eq, iRng1, iRng2, iList, iTup, rSetD, iKeys, tDNewK, Int.reducePow, Int.reduceNeg, iSeqA, Dw.rIxL, Dw.rSetL, rTupT, tPar, tNotT, tMkO, tFmt, tJs, tOst, Dw.rIsXD, L2.tXf, wipe]
      exact ⟨p, q, 256, rfl, hP12, by omega, by omega, fun x H13 x0 x1 hP13 s13 => hq2 _ _ ⟨x0, x1⟩ hP13 s13⟩
    have eu4d := s11 _ _ (Ne.symm hu4p) eu4
    have eu2d := s11 _ _ (Ne.symm hu2p) eu2c
    have sA3 := sA2.trans (b2.trans (s8.trans (b3.trans (b4.trans s11))))
    refine ⟨line_le (by decide), fun u5 hu5 => ?_⟩
    have hu5p : p ≠ u5 := hP11.ne hu5
    have b5 : SameB p H11 (upd H11 u5 (HO.lst [V.ref u4, V.ref D1])) := Same.b (same_new hu5 _)
    have eu5 : upd H11 u5 (HO.lst [V.ref u4, V.ref D1]) u5 = some (HO.lst [V.ref u4, V.ref D1]) := upd_same
    have hP12 := hP11.upd (o := HO.lst [V.ref u4, V.ref D1]) hu5
    have eu4e := b5 _ _ (Ne.symm hu4p) eu4d
    have eu2e := b5 _ _ (Ne.symm hu2p) eu2d
    have eD1e := b5 _ _ (Ne.symm hD1p) eD1
    generalize upd H11 u5 (HO.lst [V.ref u4, V.ref D1]) = H12 at b5 eu5 hP12 eu4e eu2e eD1e ⊢
    refine ⟨p, q, 2, rfl, hP12, by omega, by omega, fun cc H13 cc0 cc1 hP13 s13 => ?_⟩
    have b13 : SameB p H1 H13 := sA3.trans (b5.trans s13)
    have eD13 := b13 _ _ nDp e1
    have eu213 := s13 _ _ (Ne.symm hu2p) eu2e
    have eu413 := s13 _ _ (Ne.symm hu4p) eu4e
    have eD113 := s13 _ _ (Ne.symm hD1p) eD1e
    obtain ⟨vd, dd, hat, evd, hdl, hdb, nvd⟩ : ∃ vd dd, atI [V.ref u4, V.ref D1] cc = some (.ref vd) ∧ H13 vd = some (IL dd) ∧ dd.length = 16 * 2 ^ n ∧ Bytes dd ∧ vd ≠ D := by
      have : cc = 0 ∨ cc = 1 := by omega
      rcases this with h | h <;> subst h
      · exact ⟨u4, _, rfl, eu413, List.length_replicate, bytes_rep ⟨y0, y1⟩, nu4⟩
      · exact ⟨D1, zs, rfl, eD113, hzl, hzb, nD1⟩
    refine ⟨_, cc, rfl, s13 _ _ (Ne.symm hu5p) eu5, _, hat, by rw [eD13]; rfl, line_le (by decide), fun t ht => ?_⟩
    have A13 := A1.imp fun _ _ h => PairD.sameB hP1 b13 h
    have st := same_new ht (HO.tup [V.ref u2, V.ref vd])
    have et : upd H13 t (HO.tup [V.ref u2, V.ref vd]) t = some (HO.tup [V.ref u2, V.ref vd]) := upd_same
    have hP14 := hP13.upd (o := HO.tup [V.ref u2, V.ref vd]) ht
    generalize upd H13 t (HO.tup [V.ref u2, V.ref vd]) = H14 at st et hP14 ⊢
    have eD14 := st _ _ eD13
    have A14 := A13.imp fun _ _ h => PairD.same st h
    have hi30 : i < 30 := by omega
    refine ⟨D, xs, _, rfl, rfl, eD14, by rw [A1.1, hsl]; exact line_le (by omega), ?_⟩
    rw [hI]
    have F : PairD D H14 (.ref t) ([a0, (i : Int), a2, a4], dd) := ⟨t, u2, vd, rfl, et, st _ _ eu213, st _ _ evd, nvd⟩
    refine ⟨hP14.ups hDp (hP.ne2 hD), fun b o nb hb => ?_, _, ss ++ [([a0, (i : Int), a2, a4], dd)], _, _, _, _, upd_same, (A14.push F).imp fun _ _ h => PairD.ups eD14 h, fun sc hsc => ?_, by rw [List.length_append, hsl]; rfl, rfl⟩
    · rw [upd_ne (ne_of_none hb hD)]
      exact st _ _ (b13 _ _ nb (s1 _ _ nb hb))
    · rcases List.mem_append.mp hsc with h | h
      · exact ok1 sc h
      · rw [List.mem_singleton.mp h]
        refine ⟨⟨_, _, _, _, rfl⟩, fun x hx => ?_, hdl, hdb⟩
        simp only [List.mem_cons, List.not_mem_nil, or_false] at hx
        omega
  · intro σ H' h
    rw [hI] at h
    obtain ⟨hP1, s1, xs, ss, y4, y5, y6, y7, e1, A1, ok1, hsl, rfl⟩ := h
    try simp only [tSeq, tAsg, tVar, tC, tOp, rI0, rI, tUn, rU, tIfS, tTest, tRet, tRetN, tDrop, tCB, tCons, tNil, tLst, tLstI, tTup, gName, tB, tAnd, tOr, tNot, tAndV, tOrV, tNotV, tIf, tNext, tBreak, tCont, gSub, tCall, tCallN, tAug, ipI, tBML, tBML0, isL_IL, isL_lst, L2.start, List.map_cons, List.map_nil, List.length_cons, List.length_nil, List.cons_append, List.nil_append, List.getElem?_cons_succ, List.getElem?_cons_zero, Option.some.injEq, exists_eq_left', exists_eq_left, exists_and_left, V.int.injEq, V.ref.injEq, V.bl.injEq, V.str.injEq, List.set_cons_zero, List.set_cons_succ, List.cons.injEq, and_true, true_and, Nat.reduceAdd, Nat.reduceSub, List.replicate_succ, List.replicate_zero, rIxI, rIxH, rIxTH, rSetI, rSetH, rCatI, rRepI, rSlI, rAppendI, rExtendI, decide_eq_true_eq, upd_same, IL_inj, HO.lst.injEq, toInts_cons, toInts_nil, Option.map_some, if_true, if_false, Bool.true_eq_false, Bool.false_eq_true, Bool.not_true, Bool.not_false, Bool.not_eq_true', decide_eq_false_iff_not, atI_0, atI_1, atI_2, atI_3, atI_4, Int.reduceToNat, Int.reduceLT, Int.reduceLE, Int.reduceNeg, Int.reducePow, cast_lit, upd_upd, Int.reduceAdd, Int.reduceMul, Int.reduceSub, Nat.reduceLT, Nat.reduceLeDiff, cmul_r, cdiv_r, tSl, tPart, tNoPart, rEq, rNe, scal_nn, scal_ii, scal_bb, scal_ss, scal_is, scal_si, V.ty.injEq, and_assoc, tyH_non, tyH_bl, tyH_int, tyH_str, tyH_ref, tyO_lst, tyO_IL, tyO_tup, itO_lst, itO_tup, itO_IL, Dw.rIxD, rLenI, rLenH, rLenTH, rLenQ, rLenB, rListI, Dw.rListS, rIntI, rIntB, rSumI, rIsiD, rIsX, tCallS, tMakeS, tMake, tMakeC, tMakeSC, tFld, sFld, HO.ins.injEq, HO.tup.injEq, cxOf_K, nox_K, tr_K, suite_K, rTupleI, rAllB, rAnyB, BL_inj, tChain, wOnly, wAs, wMany, rEqI, rNeI, Dw.rMax2, rMin2, Dw.rIsN, rIsNotN, rStrIn, rStrNotIn, not_true_eq_false, not_false_eq_true, reduceCtorEq, cl_bool, cl_int, cl_str, cl_list, cl_tuple, isB_NoneType_bool, isB_NoneType_int, isB_NoneType_str, isB_NoneType_list, isB_NoneType_tuple, isB_bool_bool, isB_bool_int, isB_bool_str, isB_bool_list, isB_bool_tuple, isB_int_bool, isB_int_int, isB_int_str, isB_int_list, isB_int_tuple, isB_str_bool, isB_str_int, isB_str_str, isB_str_list, isB_str_tuple, isB_list_bool, isB_list_int, isB_list_str, isB_list_list, isB_list_tuple, isB_tuple_bool, isB_tuple_int, isB_tuple_str, isB_tuple_list, isB_tuple_tuple, rSlCI, iRng3, iRev, gCons, gNil, iZip, iEnum, tLc_eq, tFor_eq, iRng1, iRng2, iList, iTup, rSetD, iKeys, tDNewK, Int.reducePow, Int.reduceNeg, iSeqA, Dw.rIxL, Dw.rSetL, rTupT, tPar, tNotT, tMkO, tFmt, tJs, tOst, Dw.rIsXD, L2.tXf]
    exact k D xs ss H' hP1 s1 hD e1 (A1.imp fun _ _ h => h.at) ok1 (by omega)
end
section
variable {P : Program} [SupP P] {w : World} {K : PySem.W.Frag} {mg : Str → Option Value} {base : Heap} {A : Ad}
def bits5 (n : Nat) : List Int := (List.range 5).map fun k => ((n / 2 ^ (4 - k) % 2 : Nat) : Int)
def strs5 (n : Nat) : List Str := (List.range 5).map fun i => Str.ofString (toString ((bits5 n).getD i 0))
def txt5 (n : Nat) : Str := Txt.join (Str.ofString "") (strs5 n)
def ok5 (n : Nat) : Bool := !decide (cutS (txt5 n) none (some 2) = Str.ofString "00") && (!decide (cutS (txt5 n) (some 3) none = Str.ofString "00") && (Builtin.Str.occurrences (txt5 n) (Str.ofString "000") 0 (txt5 n).length 1).isEmpty)
def sel5 (t : Nat) : List Nat := ((List.range t).filter ok5).take 16
theorem sel5_all : sel5 32 = GC.map Int.toNat := by decide +kernel
theorem lens5 : ((List.range 32).all fun n => decide ((txt5 n).length ≤ 16777216) && decide (((strs5 n).map fun x => x.length).sum + (strs5 n).length * (Str.ofString "").length ≤ 16777216)) = true := by decide +kernel
theorem len5 {n : Nat} (h : n < 32) : (txt5 n).length ≤ sizeLine ∧ ((strs5 n).map fun x => x.length).sum + (strs5 n).length * (Str.ofString "").length ≤ 16777216 := by
  have h2 := List.all_eq_true.mp lens5 n (List.mem_range.mpr h)
  rw [Bool.and_eq_true, decide_eq_true_eq, decide_eq_true_eq] at h2
  exact ⟨line_le h2.1, h2.2⟩
theorem sel5_no {t : Nat} (h : ok5 t = false) : sel5 (t + 1) = sel5 t := by
  unfold sel5
  rw [List.range_succ, List.filter_append, List.filter_cons_of_neg (by rw [h]; decide)]
  simp
theorem sel5_yes {t : Nat} (h : ok5 t = true) (hl : (sel5 t).length < 16) : sel5 (t + 1) = sel5 t ++ [t] := by
  unfold sel5 at hl ⊢
  rw [List.length_take] at hl
  rw [List.range_succ, List.filter_append, List.filter_cons_of_pos h]
  rw [List.take_of_length_le (by rw [List.length_append]; show _ + 1 ≤ 16; omega), List.take_of_length_le (by omega)]
  rfl
theorem sel5_full {t : Nat} (hl : ¬ (sel5 t).length < 16) : sel5 (t + 1) = sel5 t := by
  unfold sel5 at hl ⊢
  rw [List.length_take] at hl
  rw [List.range_succ, List.filter_append, List.take_append_of_le_length (by omega)]
def spGroups : Sp := fun vs H Q _ => vs = [] ∧ ∀ D H', Same H H' → H D = none → RowsAt H' D (GC.map fun c => bits5 c.toNat) → Q (.ref D) H'
theorem ok_law_groups_of (T : Tx K mg A) : FnOk P w K mg base CX0 1 A.f_law_groups_of A.d_law_groups_of [] spGroups := by
  refine T.F_law_groups_of.ok sc_law_groups_of (fun vs H Q E h => ?_) (fun cdv A' outer s H vs Q E hr h => ?_)
  · obtain ⟨rfl, _⟩ := h
    rfl
  obtain ⟨rfl, k⟩ := h
  refine ⟨_, (pss_cons (ps_set (i := 0) sc_law_groups_of.nd rfl (Or.inl rfl) (pe_lstI pa_nil))
      (pss_cons (ps_for PassesOwn.never rfl (pi_range1 rfl T.z_range (pa_cons pe_int pa_nil)) (pg_name (i := 1) sc_law_groups_of.nd rfl (Or.inr rfl))
        (pss_cons (ps_setLc (i := 2) (own := [("k", 3)]) (g := (gName 3)) (tt := tYes) rfl sc_law_groups_of.nd rfl rfl (sw_true rfl rfl rfl (by decide +kernel)) (pi_range1 rfl T.z_range (pa_cons pe_int pa_nil)) (blkOk_by (N := n_law_groups_of) (sc := (defScope s_law_groups_of)) (by decide +kernel)) (fun _ _ _ _ _ => (pg_name (i := 3) sc_law_groups_of.nd rfl (Or.inl rfl))) (fun _ _ _ _ _ => pts_nil) (fun _ _ _ _ _ => (pe_op op_and (pe_op op_shr (pv 1) (pe_op op_sub pe_int (pv 3))) pe_int)))
      (pss_cons (ps_set (i := 4) sc_law_groups_of.nd rfl (Or.inl rfl) (pe_join pe_str (pe_lc (own := [("cell", 5)]) (g := (gName 5)) (tt := tYes) rfl sc_law_groups_of.nd (pi_list (pv 2)) (blkOk_by (N := n_law_groups_of) (sc := (defScope s_law_groups_of)) (by decide +kernel)) (fun _ _ _ _ _ => (pg_name (i := 5) sc_law_groups_of.nd rfl (Or.inl rfl))) (fun _ _ _ _ _ => pts_nil) (fun _ _ _ _ _ => (pe_callTy call_str_int (by rfl) T.z_str (by decide +kernel) (pa_cons (pv 5) pa_nil))))))
      (pss_one (ps_if (PW.pt (pw_and (pt_cmpR op_ne (pe_slice sl_str (pv 4) po_none (po_some pe_int)) pe_str (nomark _)) (pw_and (pt_cmpR op_ne (pe_slice sl_str (pv 4) (po_some pe_int) po_none) pe_str (nomark _)) (pw_and (pt_cmpR op_strNotIn pe_str (pv 4) (by rfl)) (pw_and1 (pt_cmpR op_lt (pe_callB call_lenH (by rfl) T.z_len (by decide +kernel) (pa_cons (pv 0) pa_nil)) pe_int (nomark _))))))) (pss_one (ps_expr (PE.imp (pe_bm PySem.F.plainAttrs_list PySem.F.slot_list_append PySem.F.type_list_append mt_append (pv 0) (pa_cons (pv 2) pa_nil)) bml_imp))) pss_nil)))))
      (pss_one (ps_ret (pv 0))))), ?_⟩
  try simp only [tSeq, tAsg, tVar, tC, tOp, rI0, rI, tUn, rU, tIfS, tTest, tRet, tRetN, tDrop, tCB, tCons, tNil, tLst, tLstI, tTup, gName, tB, tAnd, tOr, tNot, tAndV, tOrV, tNotV, tIf, tNext, tBreak, tCont, gSub, tCall, tCallN, tAug, ipI, tBML, tBML0, isL_IL, isL_lst, L2.start, List.map_cons, List.map_nil, List.length_cons, List.length_nil, List.cons_append, List.nil_append, List.getElem?_cons_succ, List.getElem?_cons_zero, Option.some.injEq, exists_eq_left', exists_eq_left, exists_and_left, V.int.injEq, V.ref.injEq, V.bl.injEq, V.str.injEq, List.set_cons_zero, List.set_cons_succ, List.cons.injEq, and_true, true_and, Nat.reduceAdd, Nat.reduceSub, List.replicate_succ, List.replicate_zero, rIxI, rIxH, rIxTH, rSetI, rSetH, rCatI, rRepI, rSlI, rAppendI, rExtendI, decide_eq_true_eq, upd_same, IL_inj, HO.lst.injEq, toInts_cons, toInts_nil, Option.map_some, if_true, if_false, Bool.true_eq_false, Bool.false_eq_true, Bool.not_true, Bool.not_false, Bool.not_eq_true', decide_eq_false_iff_not, atI_0, atI_1, atI_2, atI_3, atI_4, Int.reduceToNat, Int.reduceLT, Int.reduceLE, Int.reduceNeg, Int.reducePow, cast_lit, upd_upd, Int.reduceAdd, Int.reduceMul, Int.reduceSub, Nat.reduceLT, Nat.reduceLeDiff, cmul_r, cdiv_r, tSl, tPart, tNoPart, rEq, rNe, scal_nn, scal_ii, scal_bb, scal_ss, scal_is, scal_si, V.ty.injEq, and_assoc, tyH_non, tyH_bl, tyH_int, tyH_str, tyH_ref, tyO_lst, tyO_IL, tyO_tup, itO_lst, itO_tup, itO_IL, Dw.rIxD, rLenI, rLenH, rLenTH, rLenQ, rLenB, rListI, Dw.rListS, rIntI, rIntB, rSumI, rIsiD, rIsX, tCallS, tMakeS, tMake, tMakeC, tMakeSC, tFld, sFld, HO.ins.injEq, HO.tup.injEq, cxOf_K, nox_K, tr_K, suite_K, rTupleI, rAllB, rAnyB, BL_inj, tChain, wOnly, wAs, wMany, rEqI, rNeI, Dw.rMax2, rMin2, Dw.rIsN, rIsNotN, rStrIn, rStrNotIn, not_true_eq_false, not_false_eq_true, reduceCtorEq, cl_bool, cl_int, cl_str, cl_list, cl_tuple, isB_NoneType_bool, isB_NoneType_int, isB_NoneType_str, isB_NoneType_list, isB_NoneType_tuple, isB_bool_bool, isB_bool_int, isB_bool_str, isB_bool_list, isB_bool_tuple, isB_int_bool, isB_int_int, isB_int_str, isB_int_list, isB_int_tuple, isB_str_bool, isB_str_int, isB_str_str, isB_str_list, isB_str_tuple, isB_list_bool, isB_list_int, isB_list_str, isB_list_list, isB_list_tuple, isB_tuple_bool, isB_tuple_int, isB_tuple_str, isB_tuple_list, isB_tuple_tuple, rSlCI, iRng3, iRev, gCons, gNil, iZip, iEnum, tLc_eq, tFor_eq, iRng1, iRng2, iList, iTup, rSetD, iKeys, tDNewK, Int.reducePow, Int.reduceNeg, iSeqA, Dw.rIxL, Dw.rSetL, rTupT, tPar, tNotT, tMkO, tFmt, tJs, tOst, Dw.rIsXD, L2.tXf]
  refine ⟨Nat.zero_le _, fun D hD => ?_⟩
  obtain ⟨I, hI⟩ : ∃ F : Nat → L2.St → Hp → Prop, F = (fun t σ H' => Same H H' ∧ ∃ (x1 x2 x3 x4 x5 : Option V), RowsAt H' D ((sel5 t).map bits5) ∧ σ = [some (.ref D), x1, x2, x3, x4, x5]) := ⟨_, rfl⟩
  refine forR I (by rw [hI]; exact ⟨same_new hD _, none, none, none, none, none, ⟨[], upd_same, rfl, fun i a h => by simp at h⟩, rfl⟩) ?_ ?_
  · intro t σ H' ht h
    rw [hI] at h
    obtain ⟨s1, x1, x2, x3, x4, x5, hR, rfl⟩ := h
    try simp only [tSeq, tAsg, tVar, tC, tOp, rI0, rI, tUn, rU, tIfS, tTest, tRet, tRetN, tDrop, tCB, tCons, tNil, tLst, tLstI, tTup, gName, tB, tAnd, tOr, tNot, tAndV, tOrV, tNotV, tIf, tNext, tBreak, tCont, gSub, tCall, tCallN, tAug, ipI, tBML, tBML0, isL_IL, isL_lst, L2.start, List.map_cons, List.map_nil, List.length_cons, List.length_nil, List.cons_append, List.nil_append, List.getElem?_cons_succ, List.getElem?_cons_zero, Option.some.injEq, exists_eq_left', exists_eq_left, exists_and_left, V.int.injEq, V.ref.injEq, V.bl.injEq, V.str.injEq, List.set_cons_zero, List.set_cons_succ, List.cons.injEq, and_true, true_and, Nat.reduceAdd, Nat.reduceSub, List.replicate_succ, List.replicate_zero, rIxI, rIxH, rIxTH, rSetI, rSetH, rCatI, rRepI, rSlI, rAppendI, rExtendI, decide_eq_true_eq, upd_same, IL_inj, HO.lst.injEq, toInts_cons, toInts_nil, Option.map_some, if_true, if_false, Bool.true_eq_false, Bool.false_eq_true, Bool.not_true, Bool.not_false, Bool.not_eq_true', decide_eq_false_iff_not, atI_0, atI_1, atI_2, atI_3, atI_4, Int.reduceToNat, Int.reduceLT, Int.reduceLE, Int.reduceNeg, Int.reducePow, cast_lit, upd_upd, Int.reduceAdd, Int.reduceMul, Int.reduceSub, Nat.reduceLT, Nat.reduceLeDiff, cmul_r, cdiv_r, tSl, tPart, tNoPart, rEq, rNe, scal_nn, scal_ii, scal_bb, scal_ss, scal_is, scal_si, V.ty.injEq, and_assoc, tyH_non, tyH_bl, tyH_int, tyH_str, tyH_ref, tyO_lst, tyO_IL, tyO_tup, itO_lst, itO_tup, itO_IL, Dw.rIxD, rLenI, rLenH, rLenTH, rLenQ, rLenB, rListI, Dw.rListS, rIntI, rIntB, rSumI, rIsiD, rIsX, tCallS, tMakeS, tMake, tMakeC, tMakeSC, tFld, sFld, HO.ins.injEq, HO.tup.injEq, cxOf_K, nox_K, tr_K, suite_K, rTupleI, rAllB, rAnyB, BL_inj, tChain, wOnly, wAs, wMany, rEqI, rNeI, Dw.rMax2, rMin2, Dw.rIsN, rIsNotN, rStrIn, rStrNotIn, not_true_eq_false, not_false_eq_true, reduceCtorEq, cl_bool, cl_int, cl_str, cl_list, cl_tuple, isB_NoneType_bool, isB_NoneType_int, isB_NoneType_str, isB_NoneType_list, isB_NoneType_tuple, isB_bool_bool, isB_bool_int, isB_bool_str, isB_bool_list, isB_bool_tuple, isB_int_bool, isB_int_int, isB_int_str, isB_int_list, isB_int_tuple, isB_str_bool, isB_str_int, isB_str_str, isB_str_list, isB_str_tuple, isB_list_bool, isB_list_int, isB_list_str, isB_list_list, isB_list_tuple, isB_tuple_bool, isB_tuple_int, isB_tuple_str, isB_tuple_list, isB_tuple_tuple, rSlCI, iRng3, iRev, gCons, gNil, iZip, iEnum, tLc_eq, tFor_eq, iRng1, iRng2, iList, iTup, rSetD, iKeys, tDNewK, Int.reducePow, Int.reduceNeg, iSeqA, Dw.rIxL, Dw.rSetL, rTupT, tPar, tNotT, tMkO, tFmt, tJs, tOst, Dw.rIsXD, L2.tXf]
    intro B hB
    refine lc_rangeI (lo := 0) (n := 5) (f := fun k => ((t / 2 ^ (4 - k) % 2 : Nat) : Int)) (by decide) hB (fun _ => rfl) ?_ fun H2 s2 e2 => ?_
    · intro i H3 Q' hi s3 hq
      have e3 : (4 - (0 + (i : Int))).toNat = 4 - i := by omega
      have e0 : (0 : Int) + (t : Int) = (t : Int) := by omega
      try simp only [tSeq, tAsg, tVar, tC, tOp, rI0, rI, tUn, rU, tIfS, tTest, tRet, tRetN, tDrop, tCB, tCons, tNil, tLst, tLstI, tTup, gName, tB, tAnd, tOr, tNot, tAndV, tOrV, tNotV, tIf, tNext, tBreak, tCont, gSub, tCall, tCallN, tAug, ipI, tBML, tBML0, isL_IL, isL_lst, L2.start, List.map_cons, List.map_nil, List.length_cons, List.length_nil, List.cons_append, List.nil_append, List.getElem?_cons_succ, List.getElem?_cons_zero, Option.some.injEq, exists_eq_left', exists_eq_left, exists_and_left, V.int.injEq, V.ref.injEq, V.bl.injEq, V.str.injEq, List.set_cons_zero, List.set_cons_succ, List.cons.injEq, and_true, true_and, Nat.reduceAdd, Nat.reduceSub, List.replicate_succ, List.replicate_zero, rIxI, rIxH, rIxTH, rSetI, rSetH, rCatI, rRepI, rSlI, rAppendI, rExtendI, decide_eq_true_eq, upd_same, IL_inj, HO.lst.injEq, toInts_cons, toInts_nil, Option.map_some, if_true, if_false, Bool.true_eq_false, Bool.false_eq_true, Bool.not_true, Bool.not_false, Bool.not_eq_true', decide_eq_false_iff_not, atI_0, atI_1, atI_2, atI_3, atI_4, Int.reduceToNat, Int.reduceLT, Int.reduceLE, Int.reduceNeg, Int.reducePow, cast_lit, upd_upd, Int.reduceAdd, Int.reduceMul, Int.reduceSub, Nat.reduceLT, Nat.reduceLeDiff, cmul_r, cdiv_r, tSl, tPart, tNoPart, rEq, rNe, scal_nn, scal_ii, scal_bb, scal_ss, scal_is, scal_si, V.ty.injEq, and_assoc, tyH_non, tyH_bl, tyH_int, tyH_str, tyH_ref, tyO_lst, tyO_IL, tyO_tup, itO_lst, itO_tup, itO_IL, Dw.rIxD, rLenI, rLenH, rLenTH, rLenQ, rLenB, rListI, Dw.rListS, rIntI, rIntB, rSumI, rIsiD, rIsX, tCallS, tMakeS, tMake, tMakeC, tMakeSC, tFld, sFld, HO.ins.injEq, HO.tup.injEq, cxOf_K, nox_K, tr_K, suite_K, rTupleI, rAllB, rAnyB, BL_inj, tChain, wOnly, wAs, wMany, rEqI, rNeI, Dw.rMax2, rMin2, Dw.rIsN, rIsNotN, rStrIn, rStrNotIn, not_true_eq_false, not_false_eq_true, reduceCtorEq, cl_bool, cl_int, cl_str, cl_list, cl_tuple, isB_NoneType_bool, isB_NoneType_int, isB_NoneType_str, isB_NoneType_list, isB_NoneType_tuple, isB_bool_bool, isB_bool_int, isB_bool_str, isB_bool_list, isB_bool_tuple, isB_int_bool, isB_int_int, isB_int_str, isB_int_list, isB_int_tuple, isB_str_bool, isB_str_int, isB_str_str, isB_str_list, isB_str_tuple, isB_list_bool, isB_list_int, isB_list_str, isB_list_list, isB_list_tuple, isB_tuple_bool, isB_tuple_int, isB_tuple_str, isB_tuple_list, isB_tuple_tuple, rSlCI, iRng3, iRev, gCons, gNil, iZip, iEnum, tLc_eq, tFor_eq, iRng1, iRng2, iList, iTup, rSetD, iKeys, tDNewK, Int.reducePow, Int.reduceNeg, iSeqA, Dw.rIxL, Dw.rSetL, rTupT, tPar, tNotT, tMkO, tFmt, tJs, tOst, Dw.rIsXD, L2.tXf, wipe, e0, e3, bit_div]
      exact ⟨by omega, hq _ (Same.refl _)⟩
    have e2 : H2 B = some (IL (bits5 t)) := e2
    try simp only [tSeq, tAsg, tVar, tC, tOp, rI0, rI, tUn, rU, tIfS, tTest, tRet, tRetN, tDrop, tCB, tCons, tNil, tLst, tLstI, tTup, gName, tB, tAnd, tOr, tNot, tAndV, tOrV, tNotV, tIf, tNext, tBreak, tCont, gSub, tCall, tCallN, tAug, ipI, tBML, tBML0, isL_IL, isL_lst, L2.start, List.map_cons, List.map_nil, List.length_cons, List.length_nil, List.cons_append, List.nil_append, List.getElem?_cons_succ, List.getElem?_cons_zero, Option.some.injEq, exists_eq_left', exists_eq_left, exists_and_left, V.int.injEq, V.ref.injEq, V.bl.injEq, V.str.injEq, List.set_cons_zero, List.set_cons_succ, List.cons.injEq, and_true, true_and, Nat.reduceAdd, Nat.reduceSub, List.replicate_succ, List.replicate_zero, rIxI, rIxH, rIxTH, rSetI, rSetH, rCatI, rRepI, rSlI, rAppendI, rExtendI, decide_eq_true_eq, upd_same, IL_inj, HO.lst.injEq, toInts_cons, toInts_nil, Option.map_some, if_true, if_false, Bool.true_eq_false, Bool.false_eq_true, Bool.not_true, Bool.not_false, Bool.not_eq_true', decide_eq_false_iff_not, atI_0, atI_1, atI_2, atI_3, atI_4, Int.reduceToNat, Int.reduceLT, Int.reduceLE, Int.reduceNeg, Int.reducePow, cast_lit, upd_upd, Int.reduceAdd, Int.reduceMul, Int.reduceSub, Nat.reduceLT, Nat.reduceLeDiff, cmul_r, cdiv_r, tSl, tPart, tNoPart, rEq, rNe, scal_nn, scal_ii, scal_bb, scal_ss, scal_is, scal_si, V.ty.injEq, and_assoc, tyH_non, tyH_bl, tyH_int, tyH_str, tyH_ref, tyO_lst, tyO_IL, tyO_tup, itO_lst, itO_tup, itO_IL, Dw.rIxD, rLenI, rLenH, rLenTH, rLenQ, rLenB, rListI, Dw.rListS, rIntI, rIntB, rSumI, rIsiD, rIsX, tCallS, tMakeS, tMake, tMakeC, tMakeSC, tFld, sFld, HO.ins.injEq, HO.tup.injEq, cxOf_K, nox_K, tr_K, suite_K, rTupleI, rAllB, rAnyB, BL_inj, tChain, wOnly, wAs, wMany, rEqI, rNeI, Dw.rMax2, rMin2, Dw.rIsN, rIsNotN, rStrIn, rStrNotIn, not_true_eq_false, not_false_eq_true, reduceCtorEq, cl_bool, cl_int, cl_str, cl_list, cl_tuple, isB_NoneType_bool, isB_NoneType_int, isB_NoneType_str, isB_NoneType_list, isB_NoneType_tuple, isB_bool_bool, isB_bool_int, isB_bool_str, isB_bool_list, isB_bool_tuple, isB_int_bool, isB_int_int, isB_int_str, isB_int_list, isB_int_tuple, isB_str_bool, isB_str_int, isB_str_str, isB_str_list, isB_str_tuple, isB_list_bool, isB_list_int, isB_list_str, isB_list_list, isB_list_tuple, isB_tuple_bool, isB_tuple_int, isB_tuple_str, isB_tuple_list, isB_tuple_tuple, rSlCI, iRng3, iRev, gCons, gNil, iZip, iEnum, tLc_eq, tFor_eq, iRng1, iRng2, iList, iTup, rSetD, iKeys, tDNewK, Int.reducePow, Int.reduceNeg, iSeqA, Dw.rIxL, Dw.rSetL, rTupT, tPar, tNotT, tMkO, tFmt, tJs, tOst, Dw.rIsXD, L2.tXf, tM1]
    refine ⟨⟨_, rfl⟩, ⟨_, .of e2⟩, fun S hS => ?_⟩
    refine lc_listV (K := K) (a := B) (xs := (bits5 t).map V.int) (f := fun i => V.str (Str.ofString (toString ((bits5 t).getD i 0)))) (by show 5 ≤ _; decide) (.of e2) hS (fun _ => rfl) ?_ fun H3 s3 e3 => ?_
    · intro i x H4 Q' hx s4 hq
      obtain ⟨z, rfl, hz⟩ := ints_at hx
      have hzg : (bits5 t).getD i 0 = z := by rw [List.getD_eq_getElem?_getD, hz]; rfl
      have hq2 := hq _ (Same.refl _)
      rw [hzg] at hq2
      obtain ⟨m, hm, rfl⟩ : ∃ m : Nat, m < 2 ∧ z = (m : Int) := by
        have hmem := List.mem_of_getElem? hz
        unfold bits5 at hmem
        obtain ⟨q, hq, rfl⟩ := List.mem_map.mp hmem
        exact ⟨_, Nat.mod_lt _ (by decide), rfl⟩
      try simp only [tSeq, tAsg, tVar, tC, tOp, rI0, rI, tUn, rU, tIfS, tTest, tRet, tRetN, tDrop, tCB, tCons, tNil, tLst, tLstI, tTup, gName, tB, tAnd, tOr, tNot, tAndV, tOrV, tNotV, tIf, tNext, tBreak, tCont, gSub, tCall, tCallN, tAug, ipI, tBML, tBML0, isL_IL, isL_lst, L2.start, List.map_cons, List.map_nil, List.length_cons, List.length_nil, List.cons_append, List.nil_append, List.getElem?_cons_succ, List.getElem?_cons_zero, Option.some.injEq, exists_eq_left', exists_eq_left, exists_and_left, V.int.injEq, V.ref.injEq, V.bl.injEq, V.str.injEq, List.set_cons_zero, List.set_cons_succ, List.cons.injEq, and_true, true_and, Nat.reduceAdd, Nat.reduceSub, List.replicate_succ, List.replicate_zero, rIxI, rIxH, rIxTH, rSetI, rSetH, rCatI, rRepI, rSlI, rAppendI, rExtendI, decide_eq_true_eq, upd_same, IL_inj, HO.lst.injEq, toInts_cons, toInts_nil, Option.map_some, if_true, if_false, Bool.true_eq_false, Bool.false_eq_true, Bool.not_true, Bool.not_false, Bool.not_eq_true', decide_eq_false_iff_not, atI_0, atI_1, atI_2, atI_3, atI_4, Int.reduceToNat, Int.reduceLT, Int.reduceLE, Int.reduceNeg, Int.reducePow, cast_lit, upd_upd, Int.reduceAdd, Int.reduceMul, Int.reduceSub, Nat.reduceLT, Nat.reduceLeDiff, cmul_r, cdiv_r, tSl, tPart, tNoPart, rEq, rNe, scal_nn, scal_ii, scal_bb, scal_ss, scal_is, scal_si, V.ty.injEq, and_assoc, tyH_non, tyH_bl, tyH_int, tyH_str, tyH_ref, tyO_lst, tyO_IL, tyO_tup, itO_lst, itO_tup, itO_IL, Dw.rIxD, rLenI, rLenH, rLenTH, rLenQ, rLenB, rListI, Dw.rListS, rIntI, rIntB, rSumI, rIsiD, rIsX, tCallS, tMakeS, tMake, tMakeC, tMakeSC, tFld, sFld, HO.ins.injEq, HO.tup.injEq, cxOf_K, nox_K, tr_K, suite_K, rTupleI, rAllB, rAnyB, BL_inj, tChain, wOnly, wAs, wMany, rEqI, rNeI, Dw.rMax2, rMin2, Dw.rIsN, rIsNotN, rStrIn, rStrNotIn, not_true_eq_false, not_false_eq_true, reduceCtorEq, cl_bool, cl_int, cl_str, cl_list, cl_tuple, isB_NoneType_bool, isB_NoneType_int, isB_NoneType_str, isB_NoneType_list, isB_NoneType_tuple, isB_bool_bool, isB_bool_int, isB_bool_str, isB_bool_list, isB_bool_tuple, isB_int_bool, isB_int_int, isB_int_str, isB_int_list, isB_int_tuple, isB_str_bool, isB_str_int, isB_str_str, isB_str_list, isB_str_tuple, isB_list_bool, isB_list_int, isB_list_str, isB_list_list, isB_list_tuple, isB_tuple_bool, isB_tuple_int, isB_tuple_str, isB_tuple_list, isB_tuple_tuple, rSlCI, iRng3, iRev, gCons, gNil, iZip, iEnum, tLc_eq, tFor_eq, iRng1, iRng2, iList, iTup, rSetD, iKeys, tDNewK, Int.reducePow, Int.reduceNeg, iSeqA, Dw.rIxL, Dw.rSetL, rTupT, tPar, tNotT, tMkO, tFmt, tJs, tOst, Dw.rIsXD, L2.tXf, wipe]
      refine ⟨?_, hq2⟩
      have : m = 0 ∨ m = 1 := by omega
      rcases this with rfl | rfl <;> decide
    have e4 : H3 S = some (.lst ((strs5 t).map V.str)) := by
      rw [e3]
      unfold strs5
      rw [List.map_map]
      rfl
    refine ⟨strs5 t, .inl (.of e4), ?_, ?_⟩
    · exact (len5 ht).2
    have e5 := s3 _ _ e2
    try simp only [tSeq, tAsg, tVar, tC, tOp, rI0, rI, tUn, rU, tIfS, tTest, tRet, tRetN, tDrop, tCB, tCons, tNil, tLst, tLstI, tTup, gName, tB, tAnd, tOr, tNot, tAndV, tOrV, tNotV, tIf, tNext, tBreak, tCont, gSub, tCall, tCallN, tAug, ipI, tBML, tBML0, isL_IL, isL_lst, L2.start, List.map_cons, List.map_nil, List.length_cons, List.length_nil, List.cons_append, List.nil_append, List.getElem?_cons_succ, List.getElem?_cons_zero, Option.some.injEq, exists_eq_left', exists_eq_left, exists_and_left, V.int.injEq, V.ref.injEq, V.bl.injEq, V.str.injEq, List.set_cons_zero, List.set_cons_succ, List.cons.injEq, and_true, true_and, Nat.reduceAdd, Nat.reduceSub, List.replicate_succ, List.replicate_zero, rIxI, rIxH, rIxTH, rSetI, rSetH, rCatI, rRepI, rSlI, rAppendI, rExtendI, decide_eq_true_eq, upd_same, IL_inj, HO.lst.injEq, toInts_cons, toInts_nil, Option.map_some, if_true, if_false, Bool.true_eq_false, Bool.false_eq_true, Bool.not_true, Bool.not_false, Bool.not_eq_true', decide_eq_false_iff_not, atI_0, atI_1, atI_2, atI_3, atI_4, Int.reduceToNat, Int.reduceLT, Int.reduceLE, Int.reduceNeg, Int.reducePow, cast_lit, upd_upd, Int.reduceAdd, Int.reduceMul, Int.reduceSub, Nat.reduceLT, Nat.reduceLeDiff, cmul_r, cdiv_r, tSl, tPart, tNoPart, rEq, rNe, scal_nn, scal_ii, scal_bb, scal_ss, scal_is, scal_si, V.ty.injEq, and_assoc, tyH_non, tyH_bl, tyH_int, tyH_str, tyH_ref, tyO_lst, tyO_IL, tyO_tup, itO_lst, itO_tup, itO_IL, Dw.rIxD, rLenI, rLenH, rLenTH, rLenQ, rLenB, rListI, Dw.rListS, rIntI, rIntB, rSumI, rIsiD, rIsX, tCallS, tMakeS, tMake, tMakeC, tMakeSC, tFld, sFld, HO.ins.injEq, HO.tup.injEq, cxOf_K, nox_K, tr_K, suite_K, rTupleI, rAllB, rAnyB, BL_inj, tChain, wOnly, wAs, wMany, rEqI, rNeI, Dw.rMax2, rMin2, Dw.rIsN, rIsNotN, rStrIn, rStrNotIn, not_true_eq_false, not_false_eq_true, reduceCtorEq, cl_bool, cl_int, cl_str, cl_list, cl_tuple, isB_NoneType_bool, isB_NoneType_int, isB_NoneType_str, isB_NoneType_list, isB_NoneType_tuple, isB_bool_bool, isB_bool_int, isB_bool_str, isB_bool_list, isB_bool_tuple, isB_int_bool, isB_int_int, isB_int_str, isB_int_list, isB_int_tuple, isB_str_bool, isB_str_int, isB_str_str, isB_str_list, isB_str_tuple, isB_list_bool, isB_list_int, isB_list_str, isB_list_list, isB_list_tuple, isB_tuple_bool, isB_tuple_int, isB_tuple_str, isB_tuple_list, isB_tuple_tuple, rSlCI, iRng3, iRev, gCons, gNil, iZip, iEnum, tLc_eq, tFor_eq, iRng1, iRng2, iList, iTup, rSetD, iKeys, tDNewK, Int.reducePow, Int.reduceNeg, iSeqA, Dw.rIxL, Dw.rSetL, rTupT, tPar, tNotT, tMkO, tFmt, tJs, tOst, Dw.rIsXD, L2.tXf, L2.rSlS, rAppend]
    have s123 := s1.trans (s2.trans s3)
    have hR3 := (hR.same s2).same s3
    have hl5 := (len5 ht).1
    have ht5 : Txt.join (Str.ofString "") (strs5 t) = txt5 t := rfl
    rw [ht5]
    have hsl : (sel5 t).length ≤ 16 := by
      unfold sel5
      rw [List.length_take]
      omega
    have keep : sel5 (t + 1) = sel5 t → ∀ (y1 y2 y3 y4 y5 : Option V), I (t + 1) [some (.ref D), y1, y2, y3, y4, y5] H3 := by
      intro hs y1 y2 y3 y4 y5
      rw [hI]
      exact ⟨s123, _, _, _, _, _, by rw [hs]; exact hR3, rfl⟩
    refine ⟨hl5, ?_⟩
    by_cases c1 : cutS (txt5 t) none (some 2) = Str.ofString "00"
    · rw [if_neg (fun h => h c1)]
      exact keep (sel5_no (by unfold ok5; rw [decide_eq_true c1]; rfl)) _ _ _ _ _
    rw [if_pos c1]
    refine ⟨hl5, ?_⟩
    by_cases c2 : cutS (txt5 t) (some 3) none = Str.ofString "00"
    · rw [if_neg (fun h => h c2)]
      exact keep (sel5_no (by unfold ok5; rw [decide_eq_true c2, decide_eq_false c1]; rfl)) _ _ _ _ _
    rw [if_pos c2]
    cases c3 : (Builtin.Str.occurrences (txt5 t) (Str.ofString "000") 0 (txt5 t).length 1).isEmpty with
    | false =>
      rw [if_neg (by decide)]
      exact keep (sel5_no (by unfold ok5; rw [decide_eq_false c1, decide_eq_false c2, c3]; rfl)) _ _ _ _ _
    | true =>
      rw [if_pos (by decide)]
      have hok : ok5 t = true := by unfold ok5; rw [decide_eq_false c1, decide_eq_false c2, c3]; rfl
      obtain ⟨as, ha1, ha2, ha3⟩ := hR3
      rw [List.length_map] at ha2
      refine ⟨as.map V.ref, ha1, ?_⟩
      rw [List.length_map, ha2]
      by_cases c4 : ((sel5 t).length : Int) < 16
      · rw [if_pos c4]
        have nB : B ≠ D := fun e => by
          subst e
          obtain ⟨as0, q1, _⟩ := hR
          rw [q1] at hB
          cases hB
        refine ⟨by rw [ha1]; rfl, as.map V.ref, ha1, by rw [List.length_map]; exact line_lt (by omega), ?_⟩
        have hpush := RowsAt.push (r := bits5 t) ha1 (by rw [List.length_map]; exact ha2) ha3 e5 nB
        rw [hI]
        refine ⟨fun b o hb => ?_, _, _, _, _, _, ?_, rfl⟩
        · rw [upd_ne (ne_of_none hb hD)]
          exact s123 _ _ hb
        · rw [sel5_yes hok (by omega), List.map_append]
          exact hpush
      · rw [if_neg c4]
        exact keep (sel5_full (by omega)) _ _ _ _ _
  · intro σ H' h
    rw [hI] at h
    obtain ⟨s1, x1, x2, x3, x4, x5, hR, rfl⟩ := h
    try simp only [tSeq, tAsg, tVar, tC, tOp, rI0, rI, tUn, rU, tIfS, tTest, tRet, tRetN, tDrop, tCB, tCons, tNil, tLst, tLstI, tTup, gName, tB, tAnd, tOr, tNot, tAndV, tOrV, tNotV, tIf, tNext, tBreak, tCont, gSub, tCall, tCallN, tAug, ipI, tBML, tBML0, isL_IL, isL_lst, L2.start, List.map_cons, List.map_nil, List.length_cons, List.length_nil, List.cons_append, List.nil_append, List.getElem?_cons_succ, List.getElem?_cons_zero, Option.some.injEq, exists_eq_left', exists_eq_left, exists_and_left, V.int.injEq, V.ref.injEq, V.bl.injEq, V.str.injEq, List.set_cons_zero, List.set_cons_succ, List.cons.injEq, and_true, true_and, Nat.reduceAdd, Nat.reduceSub, List.replicate_succ, List.replicate_zero, rIxI, rIxH, rIxTH, rSetI, rSetH, rCatI, rRepI, rSlI, rAppendI, rExtendI, decide_eq_true_eq, upd_same, IL_inj, HO.lst.injEq, toInts_cons, toInts_nil, Option.map_some, if_true, if_false, Bool.true_eq_false, Bool.false_eq_true, Bool.not_true, Bool.not_false, Bool.not_eq_true', decide_eq_false_iff_not, atI_0, atI_1, atI_2, atI_3, atI_4, Int.reduceToNat, Int.reduceLT, Int.reduceLE, Int.reduceNeg, Int.reducePow, cast_lit, upd_upd, Int.reduceAdd, Int.reduceMul, Int.reduceSub, Nat.reduceLT, Nat.reduceLeDiff, cmul_r, cdiv_r, tSl, tPart, tNoPart, rEq, rNe, scal_nn, scal_ii, scal_bb, scal_ss, scal_is, scal_si, V.ty.injEq, and_assoc, tyH_non, tyH_bl, tyH_int, tyH_str, tyH_ref, tyO_lst, tyO_IL, tyO_tup, itO_lst, itO_tup, itO_IL, Dw.rIxD, rLenI, rLenH, rLenTH, rLenQ, rLenB, rListI, Dw.rListS, rIntI, rIntB, rSumI, rIsiD, rIsX, tCallS, tMakeS, tMake, tMakeC, tMakeSC, tFld, sFld, HO.ins.injEq, HO.tup.injEq, cxOf_K, nox_K, tr_K, suite_K, rTupleI, rAllB, rAnyB, BL_inj, tChain, wOnly, wAs, wMany, rEqI, rNeI, Dw.rMax2, rMin2, Dw.rIsN, rIsNotN, rStrIn, rStrNotIn, not_true_eq_false, not_false_eq_true, reduceCtorEq, cl_bool, cl_int, cl_str, cl_list, cl_tuple, isB_NoneType_bool, isB_NoneType_int, isB_NoneType_str, isB_NoneType_list, isB_NoneType_tuple, isB_bool_bool, isB_bool_int, isB_bool_str, isB_bool_list, isB_bool_tuple, isB_int_bool, isB_int_int, isB_int_str, isB_int_list, isB_int_tuple, isB_str_bool, isB_str_int, isB_str_str, isB_str_list, isB_str_tuple, isB_list_bool, isB_list_int, isB_list_str, isB_list_list, isB_list_tuple, isB_tuple_bool, isB_tuple_int, isB_tuple_str, isB_tuple_list, isB_tuple_tuple, rSlCI, iRng3, iRev, gCons, gNil, iZip, iEnum, tLc_eq, tFor_eq, iRng1, iRng2, iList, iTup, rSetD, iKeys, tDNewK, Int.reducePow, Int.reduceNeg, iSeqA, Dw.rIxL, Dw.rSetL, rTupT, tPar, tNotT, tMkO, tFmt, tJs, tOst, Dw.rIsXD, L2.tXf]
    refine k D H' s1 hD ?_
    have e : sel5 32 = GC.map Int.toNat := sel5_all
    rw [e, List.map_map] at hR
    exact hR
end
section
variable {P : Program} [SupP P] {w : World} {K : PySem.W.Frag} {mg : Str → Option Value} {base : Heap} {A : Ad}
theorem code5 : ∀ n, n < 16 → bits5 (GC.getD n 0).toNat = codeZ n := by decide
theorem grp_at {D : Addr} {H : Hp} (h : RowsAt H D (GC.map fun c => bits5 c.toNat)) {n : Nat} (hn : n < 16) : ∃ (xs : List V) (a : Addr), H D = some (.lst xs) ∧ atI xs (n : Int) = some (.ref a) ∧ H a = some (IL (codeZ n)) := by
  obtain ⟨as, h1, h2, h3⟩ := h
  have hl : as.length = 16 := h2
  have hna : as[n]? = some (as[n]'(by omega)) := List.getElem?_eq_getElem (by omega)
  refine ⟨_, as[n]'(by omega), h1, ?_, ?_⟩
  · rw [atI_k, List.getElem?_map, hna]
    rfl
  · rw [h3 n _ hna, ← code5 n hn]
    congr 2
    rw [List.getD_eq_getElem?_getD, List.getElem?_map, List.getElem?_eq_getElem (show n < GC.length by show n < 16; omega), List.getD_eq_getElem?_getD, List.getElem?_eq_getElem (show n < GC.length by show n < 16; omega)]
    rfl
theorem and15 (a : Nat) : Builtin.bitAnd (a : Int) 15 = ((a % 16 : Nat) : Int) := by
  have h := Bits.bitAnd_mask 4 (Int.natCast_nonneg a)
  have e : (2 : Int) ^ 4 - 1 = 15 := by decide
  rw [e] at h
  rw [h]
  have e2 : (2 : Int) ^ 4 = 16 := by decide
  rw [e2]
  omega
theorem ok_law_group_cells (T : Tx K mg A) : FnOk P w K mg base CX0 2 A.f_law_group_cells A.d_law_group_cells ["values"] spGcrCells := by
  refine T.F_law_group_cells.ok sc_law_group_cells (fun vs H Q E h => ?_) (fun cdv A' outer s H vs Q E hr h => ?_)
  · obtain ⟨a, ns, rfl, _⟩ := h
    rfl
  obtain ⟨a, ns, rfl, hA, hb, hl, k⟩ := h
  refine ⟨_, (pss_cons (ps_set (i := 1) sc_law_group_cells.nd rfl (Or.inl rfl) (pe_call0 (ok_law_groups_of (P := P) T) (hr.mono (by decide)) rfl T.g_law_groups_of T.F_law_groups_of.kp T.b_law_groups_of .nil pass0))
      (pss_cons (ps_set (i := 2) sc_law_group_cells.nd rfl (Or.inl rfl) (pe_lstI pa_nil))
      (pss_cons (ps_for PassesOwn.never rfl (pi_list (pv 0)) (pg_name (i := 3) sc_law_group_cells.nd rfl (Or.inl rfl))
        (pss_one (ps_set (i := 2) sc_law_group_cells.nd rfl (Or.inl rfl) (pe_op op_catI (pe_op op_catI (pv 2) (pe_ix ix_listH (pv 1) (pe_op op_shr (pv 3) pe_int) (fun _ _ => rfl))) (pe_ix ix_listH (pv 1) (pe_op op_and (pv 3) pe_int) (fun _ _ => rfl))))))
      (pss_one (ps_ret (pv 2)))))), ?_⟩
  try simp only [tSeq, tAsg, tVar, tC, tOp, rI0, rI, tUn, rU, tIfS, tTest, tRet, tRetN, tDrop, tCB, tCons, tNil, tLst, tLstI, tTup, gName, tB, tAnd, tOr, tNot, tAndV, tOrV, tNotV, tIf, tNext, tBreak, tCont, gSub, tCall, tCallN, tAug, ipI, tBML, tBML0, isL_IL, isL_lst, L2.start, List.map_cons, List.map_nil, List.length_cons, List.length_nil, List.cons_append, List.nil_append, List.getElem?_cons_succ, List.getElem?_cons_zero, Option.some.injEq, exists_eq_left', exists_eq_left, exists_and_left, V.int.injEq, V.ref.injEq, V.bl.injEq, V.str.injEq, List.set_cons_zero, List.set_cons_succ, List.cons.injEq, and_true, true_and, Nat.reduceAdd, Nat.reduceSub, List.replicate_succ, List.replicate_zero, rIxI, rIxH, rIxTH, rSetI, rSetH, rCatI, rRepI, rSlI, rAppendI, rExtendI, decide_eq_true_eq, upd_same, IL_inj, HO.lst.injEq, toInts_cons, toInts_nil, Option.map_some, if_true, if_false, Bool.true_eq_false, Bool.false_eq_true, Bool.not_true, Bool.not_false, Bool.not_eq_true', decide_eq_false_iff_not, atI_0, atI_1, atI_2, atI_3, atI_4, Int.reduceToNat, Int.reduceLT, Int.reduceLE, Int.reduceNeg, Int.reducePow, cast_lit, upd_upd, Int.reduceAdd, Int.reduceMul, Int.reduceSub, Nat.reduceLT, Nat.reduceLeDiff, cmul_r, cdiv_r, tSl, tPart, tNoPart, rEq, rNe, scal_nn, scal_ii, scal_bb, scal_ss, scal_is, scal_si, V.ty.injEq, and_assoc, tyH_non, tyH_bl, tyH_int, tyH_str, tyH_ref, tyO_lst, tyO_IL, tyO_tup, itO_lst, itO_tup, itO_IL, Dw.rIxD, rLenI, rLenH, rLenTH, rLenQ, rLenB, rListI, Dw.rListS, rIntI, rIntB, rSumI, rIsiD, rIsX, tCallS, tMakeS, tMake, tMakeC, tMakeSC, tFld, sFld, HO.ins.injEq, HO.tup.injEq, cxOf_K, nox_K, tr_K, suite_K, rTupleI, rAllB, rAnyB, BL_inj, tChain, wOnly, wAs, wMany, rEqI, rNeI, Dw.rMax2, rMin2, Dw.rIsN, rIsNotN, rStrIn, rStrNotIn, not_true_eq_false, not_false_eq_true, reduceCtorEq, cl_bool, cl_int, cl_str, cl_list, cl_tuple, isB_NoneType_bool, isB_NoneType_int, isB_NoneType_str, isB_NoneType_list, isB_NoneType_tuple, isB_bool_bool, isB_bool_int, isB_bool_str, isB_bool_list, isB_bool_tuple, isB_int_bool, isB_int_int, isB_int_str, isB_int_list, isB_int_tuple, isB_str_bool, isB_str_int, isB_str_str, isB_str_list, isB_str_tuple, isB_list_bool, isB_list_int, isB_list_str, isB_list_list, isB_list_tuple, isB_tuple_bool, isB_tuple_int, isB_tuple_str, isB_tuple_list, isB_tuple_tuple, rSlCI, iRng3, iRev, gCons, gNil, iZip, iEnum, tLc_eq, tFor_eq, iRng1, iRng2, iList, iTup, rSetD, iKeys, tDNewK, Int.reducePow, Int.reduceNeg, iSeqA, Dw.rIxL, Dw.rSetL, rTupT, tPar, tNotT, tMkO, tFmt, tJs, tOst, Dw.rIsXD, L2.tXf]
  refine ⟨rfl, fun D H1 s1 nD hR => ⟨Nat.zero_le _, fun u hu => ?_⟩⟩
  have sH := s1.trans (same_new hu (IL []))
  try simp only [tSeq, tAsg, tVar, tC, tOp, rI0, rI, tUn, rU, tIfS, tTest, tRet, tRetN, tDrop, tCB, tCons, tNil, tLst, tLstI, tTup, gName, tB, tAnd, tOr, tNot, tAndV, tOrV, tNotV, tIf, tNext, tBreak, tCont, gSub, tCall, tCallN, tAug, ipI, tBML, tBML0, isL_IL, isL_lst, L2.start, List.map_cons, List.map_nil, List.length_cons, List.length_nil, List.cons_append, List.nil_append, List.getElem?_cons_succ, List.getElem?_cons_zero, Option.some.injEq, exists_eq_left', exists_eq_left, exists_and_left, V.int.injEq, V.ref.injEq, V.bl.injEq, V.str.injEq, List.set_cons_zero, List.set_cons_succ, List.cons.injEq, and_true, true_and, Nat.reduceAdd, Nat.reduceSub, List.replicate_succ, List.replicate_zero, rIxI, rIxH, rIxTH, rSetI, rSetH, rCatI, rRepI, rSlI, rAppendI, rExtendI, decide_eq_true_eq, upd_same, IL_inj, HO.lst.injEq, toInts_cons, toInts_nil, Option.map_some, if_true, if_false, Bool.true_eq_false, Bool.false_eq_true, Bool.not_true, Bool.not_false, Bool.not_eq_true', decide_eq_false_iff_not, atI_0, atI_1, atI_2, atI_3, atI_4, Int.reduceToNat, Int.reduceLT, Int.reduceLE, Int.reduceNeg, Int.reducePow, cast_lit, upd_upd, Int.reduceAdd, Int.reduceMul, Int.reduceSub, Nat.reduceLT, Nat.reduceLeDiff, cmul_r, cdiv_r, tSl, tPart, tNoPart, rEq, rNe, scal_nn, scal_ii, scal_bb, scal_ss, scal_is, scal_si, V.ty.injEq, and_assoc, tyH_non, tyH_bl, tyH_int, tyH_str, tyH_ref, tyO_lst, tyO_IL, tyO_tup, itO_lst, itO_tup, itO_IL, Dw.rIxD, rLenI, rLenH, rLenTH, rLenQ, rLenB, rListI, Dw.rListS, rIntI, rIntB, rSumI, rIsiD, rIsX, tCallS, tMakeS, tMake, tMakeC, tMakeSC, tFld, sFld, HO.ins.injEq, HO.tup.injEq, cxOf_K, nox_K, tr_K, suite_K, rTupleI, rAllB, rAnyB, BL_inj, tChain, wOnly, wAs, wMany, rEqI, rNeI, Dw.rMax2, rMin2, Dw.rIsN, rIsNotN, rStrIn, rStrNotIn, not_true_eq_false, not_false_eq_true, reduceCtorEq, cl_bool, cl_int, cl_str, cl_list, cl_tuple, isB_NoneType_bool, isB_NoneType_int, isB_NoneType_str, isB_NoneType_list, isB_NoneType_tuple, isB_bool_bool, isB_bool_int, isB_bool_str, isB_bool_list, isB_bool_tuple, isB_int_bool, isB_int_int, isB_int_str, isB_int_list, isB_int_tuple, isB_str_bool, isB_str_int, isB_str_str, isB_str_list, isB_str_tuple, isB_list_bool, isB_list_int, isB_list_str, isB_list_list, isB_list_tuple, isB_tuple_bool, isB_tuple_int, isB_tuple_str, isB_tuple_list, isB_tuple_tuple, rSlCI, iRng3, iRev, gCons, gNil, iZip, iEnum, tLc_eq, tFor_eq, iRng1, iRng2, iList, iTup, rSetD, iKeys, tDNewK, Int.reducePow, Int.reduceNeg, iSeqA, Dw.rIxL, Dw.rSetL, rTupT, tPar, tNotT, tMkO, tFmt, tJs, tOst, Dw.rIsXD, L2.tXf]
  refine ⟨⟨_, .of (sH _ _ hA)⟩, ?_⟩
  obtain ⟨I, hI⟩ : ∃ F : Nat → L2.St → Hp → Prop, F = (fun i σ H' => Same H H' ∧ RowsAt H' D (GC.map fun c => bits5 c.toNat) ∧ ∃ (v : Addr) (y : Option V), H v = none ∧ H' v = some (IL (gcrZ (ns.take i))) ∧ σ = [some (V.ref a), some (V.ref D), some (V.ref v), y]) := ⟨_, rfl⟩
  refine forL (xs := ns.map V.int) I (by rw [hI]; exact ⟨sH, hR.same (same_new hu _), u, none, same_none s1 hu, upd_same, rfl⟩) (fun i σ H' _ h => by rw [hI] at h; exact .of (h.1 _ _ hA)) ?_ ?_
  · intro i v σ H' hi h
    rw [hI] at h
    obtain ⟨s2, hR2, v, y, nv, e1, rfl⟩ := h
    obtain ⟨z, rfl, hz⟩ := ints_at hi
    obtain ⟨x, rfl, hx⟩ := bytes_at hb hz
    have hlt : i < ns.length := (List.getElem?_eq_some_iff.mp hz).1
    have d1 : (x : Int) / 16 = ((x / 16 : Nat) : Int) := by omega
    have hgl := gcrZ_len (ns.take i) fun x hx => hb x (List.mem_of_mem_take hx)
    rw [List.length_take] at hgl
    have l1 := codeZ_len (n := x / 16) (by omega)
    have l2 := codeZ_len (n := x % 16) (by omega)
    obtain ⟨xs1, a1, p1, p2, p3⟩ := grp_at hR2 (n := x / 16) (by omega)
    try simp only [tSeq, tAsg, tVar, tC, tOp, rI0, rI, tUn, rU, tIfS, tTest, tRet, tRetN, tDrop, tCB, tCons, tNil, tLst, tLstI, tTup, gName, tB, tAnd, tOr, tNot, tAndV, tOrV, tNotV, tIf, tNext, tBreak, tCont, gSub, tCall, tCallN, tAug, ipI, tBML, tBML0, isL_IL, isL_lst, L2.start, List.map_cons, List.map_nil, List.length_cons, List.length_nil, List.cons_append, List.nil_append, List.getElem?_cons_succ, List.getElem?_cons_zero, Option.some.injEq, exists_eq_left', exists_eq_left, exists_and_left, V.int.injEq, V.ref.injEq, V.bl.injEq, V.str.injEq, List.set_cons_zero, List.set_cons_succ, List.cons.injEq, and_true, true_and, Nat.reduceAdd, Nat.reduceSub, List.replicate_succ, List.replicate_zero, rIxI, rIxH, rIxTH, rSetI, rSetH, rCatI, rRepI, rSlI, rAppendI, rExtendI, decide_eq_true_eq, upd_same, IL_inj, HO.lst.injEq, toInts_cons, toInts_nil, Option.map_some, if_true, if_false, Bool.true_eq_false, Bool.false_eq_true, Bool.not_true, Bool.not_false, Bool.not_eq_true', decide_eq_false_iff_not, atI_0, atI_1, atI_2, atI_3, atI_4, Int.reduceToNat, Int.reduceLT, Int.reduceLE, Int.reduceNeg, Int.reducePow, cast_lit, upd_upd, Int.reduceAdd, Int.reduceMul, Int.reduceSub, Nat.reduceLT, Nat.reduceLeDiff, cmul_r, cdiv_r, tSl, tPart, tNoPart, rEq, rNe, scal_nn, scal_ii, scal_bb, scal_ss, scal_is, scal_si, V.ty.injEq, and_assoc, tyH_non, tyH_bl, tyH_int, tyH_str, tyH_ref, tyO_lst, tyO_IL, tyO_tup, itO_lst, itO_tup, itO_IL, Dw.rIxD, rLenI, rLenH, rLenTH, rLenQ, rLenB, rListI, Dw.rListS, rIntI, rIntB, rSumI, rIsiD, rIsX, tCallS, tMakeS, tMake, tMakeC, tMakeSC, tFld, sFld, HO.ins.injEq, HO.tup.injEq, cxOf_K, nox_K, tr_K, suite_K, rTupleI, rAllB, rAnyB, BL_inj, tChain, wOnly, wAs, wMany, rEqI, rNeI, Dw.rMax2, rMin2, Dw.rIsN, rIsNotN, rStrIn, rStrNotIn, not_true_eq_false, not_false_eq_true, reduceCtorEq, cl_bool, cl_int, cl_str, cl_list, cl_tuple, isB_NoneType_bool, isB_NoneType_int, isB_NoneType_str, isB_NoneType_list, isB_NoneType_tuple, isB_bool_bool, isB_bool_int, isB_bool_str, isB_bool_list, isB_bool_tuple, isB_int_bool, isB_int_int, isB_int_str, isB_int_list, isB_int_tuple, isB_str_bool, isB_str_int, isB_str_str, isB_str_list, isB_str_tuple, isB_list_bool, isB_list_int, isB_list_str, isB_list_list, isB_list_tuple, isB_tuple_bool, isB_tuple_int, isB_tuple_str, isB_tuple_list, isB_tuple_tuple, rSlCI, iRng3, iRev, gCons, gNil, iZip, iEnum, tLc_eq, tFor_eq, iRng1, iRng2, iList, iTup, rSetD, iKeys, tDNewK, Int.reducePow, Int.reduceNeg, iSeqA, Dw.rIxL, Dw.rSetL, rTupT, tPar, tNotT, tMkO, tFmt, tJs, tOst, Dw.rIsXD, L2.tXf, e1, d1, and15, p1, p2, p3]
    refine ⟨line_le (by omega), fun w1 hw1 => ?_⟩
    have sw := same_new hw1 (IL (gcrZ (ns.take i) ++ codeZ (x / 16)))
    obtain ⟨xs2, a2, q1, q2, q3⟩ := grp_at (hR2.same sw) (n := x % 16) (by omega)
    refine ⟨xs2, q1, _, q2, a2, rfl, _, q3, line_le (by rw [List.length_append]; omega), fun w2 hw2 => ?_⟩
    have sw2 := sw.trans (same_new hw2 (IL (gcrZ (ns.take i) ++ codeZ (x / 16) ++ codeZ (x % 16))))
    rw [hI]
    exact ⟨s2.trans sw2, hR2.same sw2, w2, _, same_none (s2.trans sw) hw2, by rw [upd_same, gcrZ_more hz], rfl⟩
  · intro σ H' h
    rw [hI] at h
    obtain ⟨s2, hR2, v, y, nv, e1, rfl⟩ := h
    try simp only [tSeq, tAsg, tVar, tC, tOp, rI0, rI, tUn, rU, tIfS, tTest, tRet, tRetN, tDrop, tCB, tCons, tNil, tLst, tLstI, tTup, gName, tB, tAnd, tOr, tNot, tAndV, tOrV, tNotV, tIf, tNext, tBreak, tCont, gSub, tCall, tCallN, tAug, ipI, tBML, tBML0, isL_IL, isL_lst, L2.start, List.map_cons, List.map_nil, List.length_cons, List.length_nil, List.cons_append, List.nil_append, List.getElem?_cons_succ, List.getElem?_cons_zero, Option.some.injEq, exists_eq_left', exists_eq_left, exists_and_left, V.int.injEq, V.ref.injEq, V.bl.injEq, V.str.injEq, List.set_cons_zero, List.set_cons_succ, List.cons.injEq, and_true, true_and, Nat.reduceAdd, Nat.reduceSub, List.replicate_succ, List.replicate_zero, rIxI, rIxH, rIxTH, rSetI, rSetH, rCatI, rRepI, rSlI, rAppendI, rExtendI, decide_eq_true_eq, upd_same, IL_inj, HO.lst.injEq, toInts_cons, toInts_nil, Option.map_some, if_true, if_false, Bool.true_eq_false, Bool.false_eq_true, Bool.not_true, Bool.not_false, Bool.not_eq_true', decide_eq_false_iff_not, atI_0, atI_1, atI_2, atI_3, atI_4, Int.reduceToNat, Int.reduceLT, Int.reduceLE, Int.reduceNeg, Int.reducePow, cast_lit, upd_upd, Int.reduceAdd, Int.reduceMul, Int.reduceSub, Nat.reduceLT, Nat.reduceLeDiff, cmul_r, cdiv_r, tSl, tPart, tNoPart, rEq, rNe, scal_nn, scal_ii, scal_bb, scal_ss, scal_is, scal_si, V.ty.injEq, and_assoc, tyH_non, tyH_bl, tyH_int, tyH_str, tyH_ref, tyO_lst, tyO_IL, tyO_tup, itO_lst, itO_tup, itO_IL, Dw.rIxD, rLenI, rLenH, rLenTH, rLenQ, rLenB, rListI, Dw.rListS, rIntI, rIntB, rSumI, rIsiD, rIsX, tCallS, tMakeS, tMake, tMakeC, tMakeSC, tFld, sFld, HO.ins.injEq, HO.tup.injEq, cxOf_K, nox_K, tr_K, suite_K, rTupleI, rAllB, rAnyB, BL_inj, tChain, wOnly, wAs, wMany, rEqI, rNeI, Dw.rMax2, rMin2, Dw.rIsN, rIsNotN, rStrIn, rStrNotIn, not_true_eq_false, not_false_eq_true, reduceCtorEq, cl_bool, cl_int, cl_str, cl_list, cl_tuple, isB_NoneType_bool, isB_NoneType_int, isB_NoneType_str, isB_NoneType_list, isB_NoneType_tuple, isB_bool_bool, isB_bool_int, isB_bool_str, isB_bool_list, isB_bool_tuple, isB_int_bool, isB_int_int, isB_int_str, isB_int_list, isB_int_tuple, isB_str_bool, isB_str_int, isB_str_str, isB_str_list, isB_str_tuple, isB_list_bool, isB_list_int, isB_list_str, isB_list_list, isB_list_tuple, isB_tuple_bool, isB_tuple_int, isB_tuple_str, isB_tuple_list, isB_tuple_tuple, rSlCI, iRng3, iRev, gCons, gNil, iZip, iEnum, tLc_eq, tFor_eq, iRng1, iRng2, iList, iTup, rSetD, iKeys, tDNewK, Int.reducePow, Int.reduceNeg, iSeqA, Dw.rIxL, Dw.rSetL, rTupT, tPar, tNotT, tMkO, tFmt, tJs, tOst, Dw.rIsXD, L2.tXf]
    rw [List.length_map, List.take_length] at e1
    exact k v H' s2 nv e1
end
section
variable {P : Program} [SupP P] {w : World} {K : PySem.W.Frag} {mg : Str → Option Value} {base : Heap} {A : Ad}
def spFldGL : Sp := fun vs H Q _ => ∃ (a : Addr) (ns : List Int), vs = [.ref a] ∧ H a = some (IL ns) ∧ Bytes ns ∧ ns.length ≤ 10000 ∧ ∀ r H', Same H H' → H r = none → H' r = some (IL (fldG ns)) → Q (.ref r) H'
theorem ok_law_group_part (T : Tx K mg A) : FnOk P w K mg base CX0 3 A.f_law_group_part A.d_law_group_part ["values"] spFldGL := by
  refine T.F_law_group_part.ok sc_law_group_part (fun vs H Q E h => ?_) (fun cdv A' outer s H vs Q E hr h => ?_)
  · obtain ⟨a, ns, rfl, _⟩ := h
    rfl
  obtain ⟨a, ns, rfl, hA, hb, hl, k⟩ := h
  refine ⟨_, (pss_one (ps_ret (pe_op op_catI (pe_op op_catI (pe_op op_repI (pe_lstI (pa_cons pe_int pa_nil)) pe_int) (pe_call (ok_law_group_cells (P := P) T) (hr.mono (by decide)) rfl T.g_law_group_cells T.F_law_group_cells.kp T.b_law_group_cells .nil pass0 (pa_cons (pv 0) pa_nil))) (pe_op op_repI (pe_lstI (pa_cons pe_int (pa_cons pe_int (pa_cons pe_int (pa_cons pe_int (pa_cons pe_int (pa_cons pe_int (pa_cons pe_int (pa_cons pe_int pa_nil))))))))) pe_int)))), ?_⟩
  try simp only [tSeq, tAsg, tVar, tC, tOp, rI0, rI, tUn, rU, tIfS, tTest, tRet, tRetN, tDrop, tCB, tCons, tNil, tLst, tLstI, tTup, gName, tB, tAnd, tOr, tNot, tAndV, tOrV, tNotV, tIf, tNext, tBreak, tCont, gSub, tCall, tCallN, tAug, ipI, tBML, tBML0, isL_IL, isL_lst, L2.start, List.map_cons, List.map_nil, List.length_cons, List.length_nil, List.cons_append, List.nil_append, List.getElem?_cons_succ, List.getElem?_cons_zero, Option.some.injEq, exists_eq_left', exists_eq_left, exists_and_left, V.int.injEq, V.ref.injEq, V.bl.injEq, V.str.injEq, List.set_cons_zero, List.set_cons_succ, List.cons.injEq, and_true, true_and, Nat.reduceAdd, Nat.reduceSub, List.replicate_succ, List.replicate_zero, rIxI, rIxH, rIxTH, rSetI, rSetH, rCatI, rRepI, rSlI, rAppendI, rExtendI, decide_eq_true_eq, upd_same, IL_inj, HO.lst.injEq, toInts_cons, toInts_nil, Option.map_some, if_true, if_false, Bool.true_eq_false, Bool.false_eq_true, Bool.not_true, Bool.not_false, Bool.not_eq_true', decide_eq_false_iff_not, atI_0, atI_1, atI_2, atI_3, atI_4, Int.reduceToNat, Int.reduceLT, Int.reduceLE, Int.reduceNeg, Int.reducePow, cast_lit, upd_upd, Int.reduceAdd, Int.reduceMul, Int.reduceSub, Nat.reduceLT, Nat.reduceLeDiff, cmul_r, cdiv_r, tSl, tPart, tNoPart, rEq, rNe, scal_nn, scal_ii, scal_bb, scal_ss, scal_is, scal_si, V.ty.injEq, and_assoc, tyH_non, tyH_bl, tyH_int, tyH_str, tyH_ref, tyO_lst, tyO_IL, tyO_tup, itO_lst, itO_tup, itO_IL, Dw.rIxD, rLenI, rLenH, rLenTH, rLenQ, rLenB, rListI, Dw.rListS, rIntI, rIntB, rSumI, rIsiD, rIsX, tCallS, tMakeS, tMake, tMakeC, tMakeSC, tFld, sFld, HO.ins.injEq, HO.tup.injEq, cxOf_K, nox_K, tr_K, suite_K, rTupleI, rAllB, rAnyB, BL_inj, tChain, wOnly, wAs, wMany, rEqI, rNeI, Dw.rMax2, rMin2, Dw.rIsN, rIsNotN, rStrIn, rStrNotIn, not_true_eq_false, not_false_eq_true, reduceCtorEq, cl_bool, cl_int, cl_str, cl_list, cl_tuple, isB_NoneType_bool, isB_NoneType_int, isB_NoneType_str, isB_NoneType_list, isB_NoneType_tuple, isB_bool_bool, isB_bool_int, isB_bool_str, isB_bool_list, isB_bool_tuple, isB_int_bool, isB_int_int, isB_int_str, isB_int_list, isB_int_tuple, isB_str_bool, isB_str_int, isB_str_str, isB_str_list, isB_str_tuple, isB_list_bool, isB_list_int, isB_list_str, isB_list_list, isB_list_tuple, isB_tuple_bool, isB_tuple_int, isB_tuple_str, isB_tuple_list, isB_tuple_tuple, rSlCI, iRng3, iRev, gCons, gNil, iZip, iEnum, tLc_eq, tFor_eq, iRng1, iRng2, iList, iTup, rSetD, iKeys, tDNewK, Int.reducePow, Int.reduceNeg, iSeqA, Dw.rIxL, Dw.rSetL, rTupT, tPar, tNotT, tMkO, tFmt, tJs, tOst, Dw.rIsXD, L2.tXf]
  refine ⟨line_le (by decide), fun u1 hu1 => ⟨line_le (by decide), fun u2 hu2 => ?_⟩⟩
  have s2 := (same_new hu1 (IL [1])).trans (same_new hu2 (IL (rep 20 [1])))
  have e2 : upd (upd H u1 (IL [1])) u2 (IL (rep 20 [1])) u2 = some (IL (List.replicate 20 1)) := upd_same
  generalize upd (upd H u1 (IL [1])) u2 (IL (rep 20 [1])) = H2 at s2 e2 ⊢
  refine ⟨a, ns, rfl, s2 _ _ hA, hb, by omega, fun g H3 s3 n3 e3 => ?_⟩
  have hgl := gcrZ_len ns hb
  refine ⟨g, rfl, _, s3 _ _ e2, _, e3, line_le (by rw [List.length_replicate, hgl]; omega), fun u4 hu4 => ⟨line_le (by decide), fun u5 hu5 => ⟨line_le (by decide), fun u6 hu6 => ?_⟩⟩⟩
  have s4 := same_new hu4 (IL (List.replicate 20 1 ++ gcrZ ns))
  have s5 := same_new hu5 (IL [0, 1, 0, 1, 0, 1, 0, 1])
  have s6 := same_new hu6 (IL (rep 9 [0, 1, 0, 1, 0, 1, 0, 1]))
  have e4 := s6 _ _ (s5 _ _ (upd_same (H := H3) (a := u4) (o := IL (List.replicate 20 1 ++ gcrZ ns))))
  have s16 := s2.trans (s3.trans (s4.trans (s5.trans s6)))
  refine ⟨_, e4, line_le (by rw [List.length_append, List.length_replicate, hgl]; show 20 + 10 * ns.length + 72 ≤ _; omega), fun u7 hu7 => ?_⟩
  exact k u7 _ (s16.trans (same_new hu7 _)) (same_none s16 hu7) upd_same
theorem ok_law_xor_of (T : Tx K mg A) : FnOk P w K mg base CX0 2 A.f_law_xor_of A.d_law_xor_of ["values"] (spXorOf K) := by
  refine T.F_law_xor_of.ok sc_law_xor_of (fun vs H Q E h => ?_) (fun cdv A' outer s H vs Q E hr h => ?_)
  · obtain ⟨a, ns, rfl, _⟩ := h
    rfl
  obtain ⟨a, ns, rfl, hA, hb, k⟩ := h
  refine ⟨_, (pss_cons (ps_set (i := 1) sc_law_xor_of.nd rfl (Or.inl rfl) pe_int)
      (pss_cons (ps_for PassesOwn.never rfl (pi_seqA (pv 0)) (pg_name (i := 2) sc_law_xor_of.nd rfl (Or.inl rfl))
        (pss_one (ps_set (i := 1) sc_law_xor_of.nd rfl (Or.inl rfl) (pe_call (ok_law_or (P := P) T) (hr.mono (by decide)) rfl T.g_law_or T.F_law_or.kp T.b_law_or .nil pass0 (pa_cons (pv 1) (pa_cons (pv 2) pa_nil))))))
      (pss_one (ps_ret (pv 1))))), ?_⟩
  try simp only [tSeq, tAsg, tVar, tC, tOp, rI0, rI, tUn, rU, tIfS, tTest, tRet, tRetN, tDrop, tCB, tCons, tNil, tLst, tLstI, tTup, gName, tB, tAnd, tOr, tNot, tAndV, tOrV, tNotV, tIf, tNext, tBreak, tCont, gSub, tCall, tCallN, tAug, ipI, tBML, tBML0, isL_IL, isL_lst, L2.start, List.map_cons, List.map_nil, List.length_cons, List.length_nil, List.cons_append, List.nil_append, List.getElem?_cons_succ, List.getElem?_cons_zero, Option.some.injEq, exists_eq_left', exists_eq_left, exists_and_left, V.int.injEq, V.ref.injEq, V.bl.injEq, V.str.injEq, List.set_cons_zero, List.set_cons_succ, List.cons.injEq, and_true, true_and, Nat.reduceAdd, Nat.reduceSub, List.replicate_succ, List.replicate_zero, rIxI, rIxH, rIxTH, rSetI, rSetH, rCatI, rRepI, rSlI, rAppendI, rExtendI, decide_eq_true_eq, upd_same, IL_inj, HO.lst.injEq, toInts_cons, toInts_nil, Option.map_some, if_true, if_false, Bool.true_eq_false, Bool.false_eq_true, Bool.not_true, Bool.not_false, Bool.not_eq_true', decide_eq_false_iff_not, atI_0, atI_1, atI_2, atI_3, atI_4, Int.reduceToNat, Int.reduceLT, Int.reduceLE, Int.reduceNeg, Int.reducePow, cast_lit, upd_upd, Int.reduceAdd, Int.reduceMul, Int.reduceSub, Nat.reduceLT, Nat.reduceLeDiff, cmul_r, cdiv_r, tSl, tPart, tNoPart, rEq, rNe, scal_nn, scal_ii, scal_bb, scal_ss, scal_is, scal_si, V.ty.injEq, and_assoc, tyH_non, tyH_bl, tyH_int, tyH_str, tyH_ref, tyO_lst, tyO_IL, tyO_tup, itO_lst, itO_tup, itO_IL, Dw.rIxD, rLenI, rLenH, rLenTH, rLenQ, rLenB, rListI, Dw.rListS, rIntI, rIntB, rSumI, rIsiD, rIsX, tCallS, tMakeS, tMake, tMakeC, tMakeSC, tFld, sFld, HO.ins.injEq, HO.tup.injEq, cxOf_K, nox_K, tr_K, suite_K, rTupleI, rAllB, rAnyB, BL_inj, tChain, wOnly, wAs, wMany, rEqI, rNeI, Dw.rMax2, rMin2, Dw.rIsN, rIsNotN, rStrIn, rStrNotIn, not_true_eq_false, not_false_eq_true, reduceCtorEq, cl_bool, cl_int, cl_str, cl_list, cl_tuple, isB_NoneType_bool, isB_NoneType_int, isB_NoneType_str, isB_NoneType_list, isB_NoneType_tuple, isB_bool_bool, isB_bool_int, isB_bool_str, isB_bool_list, isB_bool_tuple, isB_int_bool, isB_int_int, isB_int_str, isB_int_list, isB_int_tuple, isB_str_bool, isB_str_int, isB_str_str, isB_str_list, isB_str_tuple, isB_list_bool, isB_list_int, isB_list_str, isB_list_list, isB_list_tuple, isB_tuple_bool, isB_tuple_int, isB_tuple_str, isB_tuple_list, isB_tuple_tuple, rSlCI, iRng3, iRev, gCons, gNil, iZip, iEnum, tLc_eq, tFor_eq, iRng1, iRng2, iList, iTup, rSetD, iKeys, tDNewK, Int.reducePow, Int.reduceNeg, iSeqA, Dw.rIxL, Dw.rSetL, rTupT, tPar, tNotT, tMkO, tFmt, tJs, tOst, Dw.rIsXD, L2.tXf]
  obtain ⟨I, hI⟩ : ∃ F : Nat → L2.St → Hp → Prop, F = (fun i σ H' => Same H H' ∧ ∃ y, σ = [some (V.ref a), some (V.int (xorG (ns.take i) : Nat)), y]) := ⟨_, rfl⟩
  refine ⟨ns.map V.int, ?_⟩
  rcases hA with hA | hA
  · refine .inl ⟨hA, forL (xs := ns.map V.int) I (by rw [hI]; exact ⟨.refl _, _, rfl⟩) (fun i σ H' _ h => by rw [hI] at h; exact h.1.seq hA) ?_ ?_⟩
    · intro i v σ H' hi h
      rw [hI] at h
      obtain ⟨s1, y, rfl⟩ := h
      obtain ⟨z, rfl, hz⟩ := ints_at hi
      obtain ⟨v, rfl, hv⟩ := bytes_at hb hz
      try simp only [tSeq, tAsg, tVar, tC, tOp, rI0, rI, tUn, rU, tIfS, tTest, tRet, tRetN, tDrop, tCB, tCons, tNil, tLst, tLstI, tTup, gName, tB, tAnd, tOr, tNot, tAndV, tOrV, tNotV, tIf, tNext, tBreak, tCont, gSub, tCall, tCallN, tAug, ipI, tBML, tBML0, isL_IL, isL_lst, L2.start, List.map_cons, List.map_nil, List.length_cons, List.length_nil, List.cons_append, List.nil_append, List.getElem?_cons_succ, List.getElem?_cons_zero, Option.some.injEq, exists_eq_left', exists_eq_left, exists_and_left, V.int.injEq, V.ref.injEq, V.bl.injEq, V.str.injEq, List.set_cons_zero, List.set_cons_succ, List.cons.injEq, and_true, true_and, Nat.reduceAdd, Nat.reduceSub, List.replicate_succ, List.replicate_zero, rIxI, rIxH, rIxTH, rSetI, rSetH, rCatI, rRepI, rSlI, rAppendI, rExtendI, decide_eq_true_eq, upd_same, IL_inj, HO.lst.injEq, toInts_cons, toInts_nil, Option.map_some, if_true, if_false, Bool.true_eq_false, Bool.false_eq_true, Bool.not_true, Bool.not_false, Bool.not_eq_true', decide_eq_false_iff_not, atI_0, atI_1, atI_2, atI_3, atI_4, Int.reduceToNat, Int.reduceLT, Int.reduceLE, Int.reduceNeg, Int.reducePow, cast_lit, upd_upd, Int.reduceAdd, Int.reduceMul, Int.reduceSub, Nat.reduceLT, Nat.reduceLeDiff, cmul_r, cdiv_r, tSl, tPart, tNoPart, rEq, rNe, scal_nn, scal_ii, scal_bb, scal_ss, scal_is, scal_si, V.ty.injEq, and_assoc, tyH_non, tyH_bl, tyH_int, tyH_str, tyH_ref, tyO_lst, tyO_IL, tyO_tup, itO_lst, itO_tup, itO_IL, Dw.rIxD, rLenI, rLenH, rLenTH, rLenQ, rLenB, rListI, Dw.rListS, rIntI, rIntB, rSumI, rIsiD, rIsX, tCallS, tMakeS, tMake, tMakeC, tMakeSC, tFld, sFld, HO.ins.injEq, HO.tup.injEq, cxOf_K, nox_K, tr_K, suite_K, rTupleI, rAllB, rAnyB, BL_inj, tChain, wOnly, wAs, wMany, rEqI, rNeI, Dw.rMax2, rMin2, Dw.rIsN, rIsNotN, rStrIn, rStrNotIn, not_true_eq_false, not_false_eq_true, reduceCtorEq, cl_bool, cl_int, cl_str, cl_list, cl_tuple, isB_NoneType_bool, isB_NoneType_int, isB_NoneType_str, isB_NoneType_list, isB_NoneType_tuple, isB_bool_bool, isB_bool_int, isB_bool_str, isB_bool_list, isB_bool_tuple, isB_int_bool, isB_int_int, isB_int_str, isB_int_list, isB_int_tuple, isB_str_bool, isB_str_int, isB_str_str, isB_str_list, isB_str_tuple, isB_list_bool, isB_list_int, isB_list_str, isB_list_list, isB_list_tuple, isB_tuple_bool, isB_tuple_int, isB_tuple_str, isB_tuple_list, isB_tuple_tuple, rSlCI, iRng3, iRev, gCons, gNil, iZip, iEnum, tLc_eq, tFor_eq, iRng1, iRng2, iList, iTup, rSetD, iKeys, tDNewK, Int.reducePow, Int.reduceNeg, iSeqA, Dw.rIxL, Dw.rSetL, rTupT, tPar, tNotT, tMkO, tFmt, tJs, tOst, Dw.rIsXD, L2.tXf]
      refine ⟨xorG (ns.take i), v, rfl, ?_⟩
      rw [hI]
      exact ⟨s1, _, by rw [xorG_more hz]⟩
    · intro σ H' h
      rw [hI] at h
      obtain ⟨s1, y, rfl⟩ := h
      rw [List.length_map, List.take_length]
      try simp only [tSeq, tAsg, tVar, tC, tOp, rI0, rI, tUn, rU, tIfS, tTest, tRet, tRetN, tDrop, tCB, tCons, tNil, tLst, tLstI, tTup, gName, tB, tAnd, tOr, tNot, tAndV, tOrV, tNotV, tIf, tNext, tBreak, tCont, gSub, tCall, tCallN, tAug, ipI, tBML, tBML0, isL_IL, isL_lst, L2.start, List.map_cons, List.map_nil, List.length_cons, List.length_nil, List.cons_append, List.nil_append, List.getElem?_cons_succ, List.getElem?_cons_zero, Option.some.injEq, exists_eq_left', exists_eq_left, exists_and_left, V.int.injEq, V.ref.injEq, V.bl.injEq, V.str.injEq, List.set_cons_zero, List.set_cons_succ, List.cons.injEq, and_true, true_and, Nat.reduceAdd, Nat.reduceSub, List.replicate_succ, List.replicate_zero, rIxI, rIxH, rIxTH, rSetI, rSetH, rCatI, rRepI, rSlI, rAppendI, rExtendI, decide_eq_true_eq, upd_same, IL_inj, HO.lst.injEq, toInts_cons, toInts_nil, Option.map_some, if_true, if_false, Bool.true_eq_false, Bool.false_eq_true, Bool.not_true, Bool.not_false, Bool.not_eq_true', decide_eq_false_iff_not, atI_0, atI_1, atI_2, atI_3, atI_4, Int.reduceToNat, Int.reduceLT, Int.reduceLE, Int.reduceNeg, Int.reducePow, cast_lit, upd_upd, Int.reduceAdd, Int.reduceMul, Int.reduceSub, Nat.reduceLT, Nat.reduceLeDiff, cmul_r, cdiv_r, tSl, tPart, tNoPart, rEq, rNe, scal_nn, scal_ii, scal_bb, scal_ss, scal_is, scal_si, V.ty.injEq, and_assoc, tyH_non, tyH_bl, tyH_int, tyH_str, tyH_ref, tyO_lst, tyO_IL, tyO_tup, itO_lst, itO_tup, itO_IL, Dw.rIxD, rLenI, rLenH, rLenTH, rLenQ, rLenB, rListI, Dw.rListS, rIntI, rIntB, rSumI, rIsiD, rIsX, tCallS, tMakeS, tMake, tMakeC, tMakeSC, tFld, sFld, HO.ins.injEq, HO.tup.injEq, cxOf_K, nox_K, tr_K, suite_K, rTupleI, rAllB, rAnyB, BL_inj, tChain, wOnly, wAs, wMany, rEqI, rNeI, Dw.rMax2, rMin2, Dw.rIsN, rIsNotN, rStrIn, rStrNotIn, not_true_eq_false, not_false_eq_true, reduceCtorEq, cl_bool, cl_int, cl_str, cl_list, cl_tuple, isB_NoneType_bool, isB_NoneType_int, isB_NoneType_str, isB_NoneType_list, isB_NoneType_tuple, isB_bool_bool, isB_bool_int, isB_bool_str, isB_bool_list, isB_bool_tuple, isB_int_bool, isB_int_int, isB_int_str, isB_int_list, isB_int_tuple, isB_str_bool, isB_str_int, isB_str_str, isB_str_list, isB_str_tuple, isB_list_bool, isB_list_int, isB_list_str, isB_list_list, isB_list_tuple, isB_tuple_bool, isB_tuple_int, isB_tuple_str, isB_tuple_list, isB_tuple_tuple, rSlCI, iRng3, iRev, gCons, gNil, iZip, iEnum, tLc_eq, tFor_eq, iRng1, iRng2, iList, iTup, rSetD, iKeys, tDNewK, Int.reducePow, Int.reduceNeg, iSeqA, Dw.rIxL, Dw.rSetL, rTupT, tPar, tNotT, tMkO, tFmt, tJs, tOst, Dw.rIsXD, L2.tXf]
      exact k _ s1
  · refine .inr ⟨hA, for_tup (xs := ns.map V.int) I (by rw [hI]; exact ⟨.refl _, _, rfl⟩) (fun i σ H' _ h => by rw [hI] at h; exact Dw.Same.seqT h.1 hA) ?_ ?_⟩
    · intro i v σ H' hi h
      rw [hI] at h
      obtain ⟨s1, y, rfl⟩ := h
      obtain ⟨z, rfl, hz⟩ := ints_at hi
      obtain ⟨v, rfl, hv⟩ := bytes_at hb hz
      try simp only [tSeq, tAsg, tVar, tC, tOp, rI0, rI, tUn, rU, tIfS, tTest, tRet, tRetN, tDrop, tCB, tCons, tNil, tLst, tLstI, tTup, gName, tB, tAnd, tOr, tNot, tAndV, tOrV, tNotV, tIf, tNext, tBreak, tCont, gSub, tCall, tCallN, tAug, ipI, tBML, tBML0, isL_IL, isL_lst, L2.start, List.map_cons, List.map_nil, List.length_cons, List.length_nil, List.cons_append, List.nil_append, List.getElem?_cons_succ, List.getElem?_cons_zero, Option.some.injEq, exists_eq_left', exists_eq_left, exists_and_left, V.int.injEq, V.ref.injEq, V.bl.injEq, V.str.injEq, List.set_cons_zero, List.set_cons_succ, List.cons.injEq, and_true, true_and, Nat.reduceAdd, Nat.reduceSub, List.replicate_succ, List.replicate_zero, rIxI, rIxH, rIxTH, rSetI, rSetH, rCatI, rRepI, rSlI, rAppendI, rExtendI, decide_eq_true_eq, upd_same, IL_inj, HO.lst.injEq, toInts_cons, toInts_nil, Option.map_some, if_true, if_false, Bool.true_eq_false, Bool.false_eq_true, Bool.not_true, Bool.not_false, Bool.not_eq_true', decide_eq_false_iff_not, atI_0, atI_1, atI_2, atI_3, atI_4, Int.reduceToNat, Int.reduceLT, Int.reduceLE, Int.reduceNeg, Int.reducePow, cast_lit, upd_upd, Int.reduceAdd, Int.reduceMul, Int.reduceSub, Nat.reduceLT, Nat.reduceLeDiff, cmul_r, cdiv_r, tSl, tPart, tNoPart, rEq, rNe, scal_nn, scal_ii, scal_bb, scal_ss, scal_is, scal_si, V.ty.injEq, and_assoc, tyH_non, tyH_bl, tyH_int, tyH_str, tyH_ref, tyO_lst, tyO_IL, tyO_tup, itO_lst, itO_tup, itO_IL, Dw.rIxD, rLenI, rLenH, rLenTH, rLenQ, rLenB, rListI, Dw.rListS, rIntI, rIntB, rSumI, rIsiD, rIsX, tCallS, tMakeS, tMake, tMakeC, tMakeSC, tFld, sFld, HO.ins.injEq, HO.tup.injEq, cxOf_K, nox_K, tr_K, suite_K, rTupleI, rAllB, rAnyB, BL_inj, tChain, wOnly, wAs, wMany, rEqI, rNeI, Dw.rMax2, rMin2, Dw.rIsN, rIsNotN, rStrIn, rStrNotIn, not_true_eq_false, not_false_eq_true, reduceCtorEq, cl_bool, cl_int, cl_str, cl_list, cl_tuple, isB_NoneType_bool, isB_NoneType_int, isB_NoneType_str, isB_NoneType_list, isB_NoneType_tuple, isB_bool_bool, isB_bool_int, isB_bool_str, isB_bool_list, isB_bool_tuple, isB_int_bool, isB_int_int, isB_int_str, isB_int_list, isB_int_tuple, isB_str_bool, isB_str_int, isB_str_str, isB_str_list, isB_str_tuple, isB_list_bool, isB_list_int, isB_list_str, isB_list_list, isB_list_tuple, isB_tuple_bool, isB_tuple_int, isB_tuple_str, isB_tuple_list, isB_tuple_tuple, rSlCI, iRng3, iRev, gCons, gNil, iZip, iEnum, tLc_eq, tFor_eq, iRng1, iRng2, iList, iTup, rSetD, iKeys, tDNewK, Int.reducePow, Int.reduceNeg, iSeqA, Dw.rIxL, Dw.rSetL, rTupT, tPar, tNotT, tMkO, tFmt, tJs, tOst, Dw.rIsXD, L2.tXf]
      refine ⟨xorG (ns.take i), v, rfl, ?_⟩
      rw [hI]
      exact ⟨s1, _, by rw [xorG_more hz]⟩
    · intro σ H' h
      rw [hI] at h
      obtain ⟨s1, y, rfl⟩ := h
      rw [List.length_map, List.take_length]
      try simp only [tSeq, tAsg, tVar, tC, tOp, rI0, rI, tUn, rU, tIfS, tTest, tRet, tRetN, tDrop, tCB, tCons, tNil, tLst, tLstI, tTup, gName, tB, tAnd, tOr, tNot, tAndV, tOrV, tNotV, tIf, tNext, tBreak, tCont, gSub, tCall, tCallN, tAug, ipI, tBML, tBML0, isL_IL, isL_lst, L2.start, List.map_cons, List.map_nil, List.length_cons, List.length_nil, List.cons_append, List.nil_append, List.getElem?_cons_succ, List.getElem?_cons_zero, Option.some.injEq, exists_eq_left', exists_eq_left, exists_and_left, V.int.injEq, V.ref.injEq, V.bl.injEq, V.str.injEq, List.set_cons_zero, List.set_cons_succ, List.cons.injEq, and_true, true_and, Nat.reduceAdd, Nat.reduceSub, List.replicate_succ, List.replicate_zero, rIxI, rIxH, rIxTH, rSetI, rSetH, rCatI, rRepI, rSlI, rAppendI, rExtendI, decide_eq_true_eq, upd_same, IL_inj, HO.lst.injEq, toInts_cons, toInts_nil, Option.map_some, if_true, if_false, Bool.true_eq_false, Bool.false_eq_true, Bool.not_true, Bool.not_false, Bool.not_eq_true', decide_eq_false_iff_not, atI_0, atI_1, atI_2, atI_3, atI_4, Int.reduceToNat, Int.reduceLT, Int.reduceLE, Int.reduceNeg, Int.reducePow, cast_lit, upd_upd, Int.reduceAdd, Int.reduceMul, Int.reduceSub, Nat.reduceLT, Nat.reduceLeDiff, cmul_r, cdiv_r, tSl, tPart, tNoPart, rEq, rNe, scal_nn, scal_ii, scal_bb, scal_ss, scal_is, scal_si, V.ty.injEq, and_assoc, tyH_non, tyH_bl, tyH_int, tyH_str, tyH_ref, tyO_lst, tyO_IL, tyO_tup, itO_lst, itO_tup, itO_IL, Dw.rIxD, rLenI, rLenH, rLenTH, rLenQ, rLenB, rListI, Dw.rListS, rIntI, rIntB, rSumI, rIsiD, rIsX, tCallS, tMakeS, tMake, tMakeC, tMakeSC, tFld, sFld, HO.ins.injEq, HO.tup.injEq, cxOf_K, nox_K, tr_K, suite_K, rTupleI, rAllB, rAnyB, BL_inj, tChain, wOnly, wAs, wMany, rEqI, rNeI, Dw.rMax2, rMin2, Dw.rIsN, rIsNotN, rStrIn, rStrNotIn, not_true_eq_false, not_false_eq_true, reduceCtorEq, cl_bool, cl_int, cl_str, cl_list, cl_tuple, isB_NoneType_bool, isB_NoneType_int, isB_NoneType_str, isB_NoneType_list, isB_NoneType_tuple, isB_bool_bool, isB_bool_int, isB_bool_str, isB_bool_list, isB_bool_tuple, isB_int_bool, isB_int_int, isB_int_str, isB_int_list, isB_int_tuple, isB_str_bool, isB_str_int, isB_str_str, isB_str_list, isB_str_tuple, isB_list_bool, isB_list_int, isB_list_str, isB_list_list, isB_list_tuple, isB_tuple_bool, isB_tuple_int, isB_tuple_str, isB_tuple_list, isB_tuple_tuple, rSlCI, iRng3, iRev, gCons, gNil, iZip, iEnum, tLc_eq, tFor_eq, iRng1, iRng2, iList, iTup, rSetD, iKeys, tDNewK, Int.reducePow, Int.reduceNeg, iSeqA, Dw.rIxL, Dw.rSetL, rTupT, tPar, tNotT, tMkO, tFmt, tJs, tOst, Dw.rIsXD, L2.tXf]
      exact k _ s1
def spLFGr : Sp := fun vs H Q _ => ∃ (a : Addr) (cs : List Int) (n : Nat), vs = [.ref a, .int n] ∧ H a = some (IL cs) ∧ cs.length ≤ 100000 ∧ n ≤ 4 ∧ Bits cs ∧ ∀ D ys H', Same H H' → H D = none → H' D = some (.lst ys) → AllAt (FndAt H') ys (foundG cs (16 * 2 ^ n)) → Q (.ref D) H'
end
section
variable {P : Program} [SupP P] {w : World} {K : PySem.W.Frag} {mg : Str → Option Value} {base : Heap} {A : Ad}
theorem bitsApp {a b : List Int} (h1 : Bits a) (h2 : Bits b) : Bits (a ++ b) := fun x hx => (List.mem_append.mp hx).elim (h1 x) (h2 x)
theorem codeZ_bits : ∀ a, a < 16 → ∀ x ∈ codeZ a, x = 0 ∨ x = 1 := by decide +kernel
theorem gcrZ_bits : ∀ ns : List Int, Bytes ns → Bits (gcrZ ns)
  | [], _ => fun x hx => by cases hx
  | b :: r, h => by
    have hb := h b List.mem_cons_self
    rw [gcrZ_cons]
    exact bitsApp (fun x hx => codeZ_bits _ (by omega) x hx) (bitsApp (fun x hx => codeZ_bits _ (by omega) x hx) (gcrZ_bits r fun x hx => h x (List.mem_cons_of_mem _ hx)))
theorem gapG_bits : Bits gapG := by
  have : ∀ x ∈ gapG, x = 0 ∨ x = 1 := by decide +kernel
  exact this
theorem fldG_bits {ns : List Int} (h : Bytes ns) : Bits (fldG ns) := bitsApp (bitsApp (fun x hx => .inr (List.eq_of_mem_replicate hx)) (gcrZ_bits ns h)) gapG_bits
theorem groupZ_bits {z : Nat} {ss : List GSec} (h : ∀ s ∈ ss, OkG z s) : Bits (groupZ ss) := by
  rw [groupZ_flat]
  refine bitsApp gapG_bits fun x hx => ?_
  obtain ⟨s, hs, hx⟩ := List.mem_flatMap.mp hx
  have ok := h s hs
  exact bitsApp (fldG_bits (adG_by ok.1 ok.2.1).1) (fldG_bits (daG_by ok.2.2.2).1) x hx
def spLGT (K : PySem.W.Frag) : Sp := fun vs H Q _ => ∃ (l : Addr) (xs : List V) (ss : List GSec) (n : Nat), vs = [.ref l] ∧ n ≤ 9 ∧ SqL K H l xs ∧ AllAt (PairAt H) xs ss ∧ (∀ s ∈ ss, OkG n s) ∧ ss.length ≤ 40 ∧ ∀ r H', Same H H' → H r = none → H' r = some (IL (groupZ ss)) → Q (.ref r) H'
theorem ok_law_group_track (T : Tx K mg A) : FnOk P w K mg base CX0 4 A.f_law_group_track A.d_law_group_track ["sectors"] (spLGT K) := by
  refine T.F_law_group_track.ok sc_law_group_track (fun vs H Q E h => ?_) (fun cdv A' outer s H vs Q E hr h => ?_)
  · obtain ⟨l, xs, ss, n, rfl, _⟩ := h
    rfl
  obtain ⟨l, xs, ss, n, rfl, hn, hL, hA, hok, hl, k⟩ := h
  refine ⟨_, (pss_cons (ps_set (i := 1) sc_law_group_track.nd rfl (Or.inl rfl) (pe_op op_repI (pe_lstI (pa_cons pe_int (pa_cons pe_int (pa_cons pe_int (pa_cons pe_int (pa_cons pe_int (pa_cons pe_int (pa_cons pe_int (pa_cons pe_int pa_nil))))))))) pe_int))
      (pss_cons (ps_for PassesOwn.never rfl (pi_list (pv 0)) (pg_tup (n := 2) rfl (pgs_cons (pg_name (i := 2) sc_law_group_track.nd rfl (Or.inl rfl)) (pgs_cons (pg_name (i := 3) sc_law_group_track.nd rfl (Or.inl rfl)) pgs_nil)))
        (pss_cons (ps_asg (pv 2) (pg_tup (n := 4) rfl (pgs_cons (pg_name (i := 4) sc_law_group_track.nd rfl (Or.inl rfl)) (pgs_cons (pg_name (i := 5) sc_law_group_track.nd rfl (Or.inl rfl)) (pgs_cons (pg_name (i := 6) sc_law_group_track.nd rfl (Or.inl rfl)) (pgs_cons (pg_name (i := 7) sc_law_group_track.nd rfl (Or.inl rfl)) pgs_nil))))))
      (pss_cons (ps_set (i := 1) sc_law_group_track.nd rfl (Or.inl rfl) (pe_op op_catI (pv 1) (pe_call (ok_law_group_part (P := P) T) (hr.mono (by decide)) rfl T.g_law_group_part T.F_law_group_part.kp T.b_law_group_part .nil pass0 (pa_cons (pe_lstI (pa_cons pe_int (pa_cons (pe_call (ok_law_xor_of (P := P) T) (hr.mono (by decide)) rfl T.g_law_xor_of T.F_law_xor_of.kp T.b_law_xor_of .nil pass0 (pa_cons (pv 2) pa_nil)) (pa_cons (pv 5) (pa_cons (pv 4) (pa_cons (pv 7) (pa_cons (pv 6) (pa_cons pe_int (pa_cons pe_int pa_nil))))))))) pa_nil))))
      (pss_one (ps_set (i := 1) sc_law_group_track.nd rfl (Or.inl rfl) (pe_op op_catI (pv 1) (pe_call (ok_law_group_part (P := P) T) (hr.mono (by decide)) rfl T.g_law_group_part T.F_law_group_part.kp T.b_law_group_part .nil pass0 (pa_cons (pe_op op_catI (pe_op op_catI (pe_lstI (pa_cons pe_int pa_nil)) (pv 3)) (pe_lstI (pa_cons (pe_call (ok_law_xor_of (P := P) T) (hr.mono (by decide)) rfl T.g_law_xor_of T.F_law_xor_of.kp T.b_law_xor_of .nil pass0 (pa_cons (pv 3) pa_nil)) (pa_cons pe_int (pa_cons pe_int pa_nil))))) pa_nil))))))))
      (pss_one (ps_ret (pv 1))))), ?_⟩
  try simp only [tSeq, tAsg, tVar, tC, tOp, rI0, rI, tUn, rU, tIfS, tTest, tRet, tRetN, tDrop, tCB, tCons, tNil, tLst, tLstI, tTup, gName, tB, tAnd, tOr, tNot, tAndV, tOrV, tNotV, tIf, tNext, tBreak, tCont, gSub, tCall, tCallN, tAug, ipI, tBML, tBML0, isL_IL, isL_lst, L2.start, List.map_cons, List.map_nil, List.length_cons, List.length_nil, List.cons_append, List.nil_append, List.getElem?_cons_succ, List.getElem?_cons_zero, Option.some.injEq, exists_eq_left', exists_eq_left, exists_and_left, V.int.injEq, V.ref.injEq, V.bl.injEq, V.str.injEq, List.set_cons_zero, List.set_cons_succ, List.cons.injEq, and_true, true_and, Nat.reduceAdd, Nat.reduceSub, List.replicate_succ, List.replicate_zero, rIxI, rIxH, rIxTH, rSetI, rSetH, rCatI, rRepI, rSlI, rAppendI, rExtendI, decide_eq_true_eq, upd_same, IL_inj, HO.lst.injEq, toInts_cons, toInts_nil, Option.map_some, if_true, if_false, Bool.true_eq_false, Bool.false_eq_true, Bool.not_true, Bool.not_false, Bool.not_eq_true', decide_eq_false_iff_not, atI_0, atI_1, atI_2, atI_3, atI_4, Int.reduceToNat, Int.reduceLT, Int.reduceLE, Int.reduceNeg, Int.reducePow, cast_lit, upd_upd, Int.reduceAdd, Int.reduceMul, Int.reduceSub, Nat.reduceLT, Nat.reduceLeDiff, cmul_r, cdiv_r, tSl, tPart, tNoPart, rEq, rNe, scal_nn, scal_ii, scal_bb, scal_ss, scal_is, scal_si, V.ty.injEq, and_assoc, tyH_non, tyH_bl, tyH_int, tyH_str, tyH_ref, tyO_lst, tyO_IL, tyO_tup, itO_lst, itO_tup, itO_IL, Dw.rIxD, rLenI, rLenH, rLenTH, rLenQ, rLenB, rListI, Dw.rListS, rIntI, rIntB, rSumI, rIsiD, rIsX, tCallS, tMakeS, tMake, tMakeC, tMakeSC, tFld, sFld, HO.ins.injEq, HO.tup.injEq, cxOf_K, nox_K, tr_K, suite_K, rTupleI, rAllB, rAnyB, BL_inj, tChain, wOnly, wAs, wMany, rEqI, rNeI, Dw.rMax2, rMin2, Dw.rIsN, rIsNotN, rStrIn, rStrNotIn, not_true_eq_false, not_false_eq_true, reduceCtorEq, cl_bool, cl_int, cl_str, cl_list, cl_tuple, isB_NoneType_bool, isB_NoneType_int, isB_NoneType_str, isB_NoneType_list, isB_NoneType_tuple, isB_bool_bool, isB_bool_int, isB_bool_str, isB_bool_list, isB_bool_tuple, isB_int_bool, isB_int_int, isB_int_str, isB_int_list, isB_int_tuple, isB_str_bool, isB_str_int, isB_str_str, isB_str_list, isB_str_tuple, isB_list_bool, isB_list_int, isB_list_str, isB_list_list, isB_list_tuple, isB_tuple_bool, isB_tuple_int, isB_tuple_str, isB_tuple_list, isB_tuple_tuple, rSlCI, iRng3, iRev, gCons, gNil, iZip, iEnum, tLc_eq, tFor_eq, iRng1, iRng2, iList, iTup, rSetD, iKeys, tDNewK, Int.reducePow, Int.reduceNeg, iSeqA, Dw.rIxL, Dw.rSetL, rTupT, tPar, tNotT, tMkO, tFmt, tJs, tOst, Dw.rIsXD, L2.tXf]
  refine ⟨line_le (by decide), fun u1 hu1 => ⟨line_le (by decide), fun u2 hu2 => ?_⟩⟩
  have s2 := (same_new hu1 (IL [0, 1, 0, 1, 0, 1, 0, 1])).trans (same_new hu2 (IL gapG))
  have e2 : upd (upd H u1 (IL [0, 1, 0, 1, 0, 1, 0, 1])) u2 (IL gapG) u2 = some (IL gapG) := upd_same
  have n2 : H u2 = none := same_none (same_new hu1 (IL [0, 1, 0, 1, 0, 1, 0, 1])) hu2
  refine ⟨⟨_, s2.seq hL⟩, ?_⟩
  have e2 : upd (upd H u1 (IL [0, 1, 0, 1, 0, 1, 0, 1])) u2 (IL (rep 9 [0, 1, 0, 1, 0, 1, 0, 1])) u2 = some (IL gapG) := upd_same
  have s2 : Same H (upd (upd H u1 (IL [0, 1, 0, 1, 0, 1, 0, 1])) u2 (IL (rep 9 [0, 1, 0, 1, 0, 1, 0, 1]))) := s2
  generalize upd (upd H u1 (IL [0, 1, 0, 1, 0, 1, 0, 1])) u2 (IL (rep 9 [0, 1, 0, 1, 0, 1, 0, 1])) = H2 at s2 e2 ⊢
  have hgz : ∀ i, (groupZ (ss.take i)).length ≤ 72 + 82224 * i := fun i => by
    have h1 := groupZ_len (z := n) (ss := ss.take i) (fun s hs => hok s (List.mem_of_mem_take hs))
    have h2n : (2 : Nat) ^ n ≤ 512 := Nat.pow_le_pow_right (n := 2) (by decide) hn
    have h2 : (ss.take i).length ≤ i := List.length_take_le _ _
    have h3 : (ss.take i).length * (172 + (132 + 160 * 2 ^ n)) ≤ i * 82224 := Nat.mul_le_mul h2 (by omega)
    omega
  obtain ⟨I, hI⟩ : ∃ F : Nat → L2.St → Hp → Prop, F = (fun i σ H' => Same H H' ∧ ∃ (c : Addr) (y2 y3 y4 y5 y6 y7 : Option V), H c = none ∧ H' c = some (IL (groupZ (ss.take i))) ∧ σ = [some (V.ref l), some (V.ref c), y2, y3, y4, y5, y6, y7]) := ⟨_, rfl⟩
  refine forL (xs := xs) I (by rw [hI]; exact ⟨s2, u2, _, _, _, _, _, _, n2, e2, rfl⟩) (fun i σ H' _ h => by rw [hI] at h; exact h.1.seq hL) ?_ ?_
  · intro i v σ H3 hi h
    rw [hI] at h
    obtain ⟨s3, c, y2, y3, y4, y5, y6, y7, nc, e3, rfl⟩ := h
    obtain ⟨sc, hs, hA1⟩ := hA.2 i v hi
    obtain ⟨tt, p, q, rfl, o1, o2, o3⟩ := hA1
    have h1 := s3 _ _ o1
    have h2 := s3 _ _ o2
    have h3 := s3 _ _ o3
    obtain ⟨⟨a0, a1, a2, a3, ha⟩, hab, hdl, hdb⟩ := hok _ (List.mem_of_getElem? hs)
    have hz := hgz i
    refine ⟨tt, _, rfl, .of h1, rfl, ?_⟩
    rw [ha] at h2
    try simp only [tSeq, tAsg, tVar, tC, tOp, rI0, rI, tUn, rU, tIfS, tTest, tRet, tRetN, tDrop, tCB, tCons, tNil, tLst, tLstI, tTup, gName, tB, tAnd, tOr, tNot, tAndV, tOrV, tNotV, tIf, tNext, tBreak, tCont, gSub, tCall, tCallN, tAug, ipI, tBML, tBML0, isL_IL, isL_lst, L2.start, List.map_cons, List.map_nil, List.length_cons, List.length_nil, List.cons_append, List.nil_append, List.getElem?_cons_succ, List.getElem?_cons_zero, Option.some.injEq, exists_eq_left', exists_eq_left, exists_and_left, V.int.injEq, V.ref.injEq, V.bl.injEq, V.str.injEq, List.set_cons_zero, List.set_cons_succ, List.cons.injEq, and_true, true_and, Nat.reduceAdd, Nat.reduceSub, List.replicate_succ, List.replicate_zero, rIxI, rIxH, rIxTH, rSetI, rSetH, rCatI, rRepI, rSlI, rAppendI, rExtendI, decide_eq_true_eq, upd_same, IL_inj, HO.lst.injEq, toInts_cons, toInts_nil, Option.map_some, if_true, if_false, Bool.true_eq_false, Bool.false_eq_true, Bool.not_true, Bool.not_false, Bool.not_eq_true', decide_eq_false_iff_not, atI_0, atI_1, atI_2, atI_3, atI_4, Int.reduceToNat, Int.reduceLT, Int.reduceLE, Int.reduceNeg, Int.reducePow, cast_lit, upd_upd, Int.reduceAdd, Int.reduceMul, Int.reduceSub, Nat.reduceLT, Nat.reduceLeDiff, cmul_r, cdiv_r, tSl, tPart, tNoPart, rEq, rNe, scal_nn, scal_ii, scal_bb, scal_ss, scal_is, scal_si, V.ty.injEq, and_assoc, tyH_non, tyH_bl, tyH_int, tyH_str, tyH_ref, tyO_lst, tyO_IL, tyO_tup, itO_lst, itO_tup, itO_IL, Dw.rIxD, rLenI, rLenH, rLenTH, rLenQ, rLenB, rListI, Dw.rListS, rIntI, rIntB, rSumI, rIsiD, rIsX, tCallS, tMakeS, tMake, tMakeC, tMakeSC, tFld, sFld, HO.ins.injEq, HO.tup.injEq, cxOf_K, nox_K, tr_K, suite_K, rTupleI, rAllB, rAnyB, BL_inj, tChain, wOnly, wAs, wMany, rEqI, rNeI, Dw.rMax2, rMin2, Dw.rIsN, rIsNotN, rStrIn, rStrNotIn, not_true_eq_false, not_false_eq_true, reduceCtorEq, cl_bool, cl_int, cl_str, cl_list, cl_tuple, isB_NoneType_bool, isB_NoneType_int, isB_NoneType_str, isB_NoneType_list, isB_NoneType_tuple, isB_bool_bool, isB_bool_int, isB_bool_str, isB_bool_list, isB_bool_tuple, isB_int_bool, isB_int_int, isB_int_str, isB_int_list, isB_int_tuple, isB_str_bool, isB_str_int, isB_str_str, isB_str_list, isB_str_tuple, isB_list_bool, isB_list_int, isB_list_str, isB_list_list, isB_list_tuple, isB_tuple_bool, isB_tuple_int, isB_tuple_str, isB_tuple_list, isB_tuple_tuple, rSlCI, iRng3, iRev, gCons, gNil, iZip, iEnum, tLc_eq, tFor_eq, iRng1, iRng2, iList, iTup, rSetD, iKeys, tDNewK, Int.reducePow, Int.reduceNeg, iSeqA, Dw.rIxL, Dw.rSetL, rTupT, tPar, tNotT, tMkO, tFmt, tJs, tOst, Dw.rIsXD, L2.tXf]
    refine ⟨p, _, rfl, .of h2, rfl, ?_⟩
    try simp only [tSeq, tAsg, tVar, tC, tOp, rI0, rI, tUn, rU, tIfS, tTest, tRet, tRetN, tDrop, tCB, tCons, tNil, tLst, tLstI, tTup, gName, tB, tAnd, tOr, tNot, tAndV, tOrV, tNotV, tIf, tNext, tBreak, tCont, gSub, tCall, tCallN, tAug, ipI, tBML, tBML0, isL_IL, isL_lst, L2.start, List.map_cons, List.map_nil, List.length_cons, List.length_nil, List.cons_append, List.nil_append, List.getElem?_cons_succ, List.getElem?_cons_zero, Option.some.injEq, exists_eq_left', exists_eq_left, exists_and_left, V.int.injEq, V.ref.injEq, V.bl.injEq, V.str.injEq, List.set_cons_zero, List.set_cons_succ, List.cons.injEq, and_true, true_and, Nat.reduceAdd, Nat.reduceSub, List.replicate_succ, List.replicate_zero, rIxI, rIxH, rIxTH, rSetI, rSetH, rCatI, rRepI, rSlI, rAppendI, rExtendI, decide_eq_true_eq, upd_same, IL_inj, HO.lst.injEq, toInts_cons, toInts_nil, Option.map_some, if_true, if_false, Bool.true_eq_false, Bool.false_eq_true, Bool.not_true, Bool.not_false, Bool.not_eq_true', decide_eq_false_iff_not, atI_0, atI_1, atI_2, atI_3, atI_4, Int.reduceToNat, Int.reduceLT, Int.reduceLE, Int.reduceNeg, Int.reducePow, cast_lit, upd_upd, Int.reduceAdd, Int.reduceMul, Int.reduceSub, Nat.reduceLT, Nat.reduceLeDiff, cmul_r, cdiv_r, tSl, tPart, tNoPart, rEq, rNe, scal_nn, scal_ii, scal_bb, scal_ss, scal_is, scal_si, V.ty.injEq, and_assoc, tyH_non, tyH_bl, tyH_int, tyH_str, tyH_ref, tyO_lst, tyO_IL, tyO_tup, itO_lst, itO_tup, itO_IL, Dw.rIxD, rLenI, rLenH, rLenTH, rLenQ, rLenB, rListI, Dw.rListS, rIntI, rIntB, rSumI, rIsiD, rIsX, tCallS, tMakeS, tMake, tMakeC, tMakeSC, tFld, sFld, HO.ins.injEq, HO.tup.injEq, cxOf_K, nox_K, tr_K, suite_K, rTupleI, rAllB, rAnyB, BL_inj, tChain, wOnly, wAs, wMany, rEqI, rNeI, Dw.rMax2, rMin2, Dw.rIsN, rIsNotN, rStrIn, rStrNotIn, not_true_eq_false, not_false_eq_true, reduceCtorEq, cl_bool, cl_int, cl_str, cl_list, cl_tuple, isB_NoneType_bool, isB_NoneType_int, isB_NoneType_str, isB_NoneType_list, isB_NoneType_tuple, isB_bool_bool, isB_bool_int, isB_bool_str, isB_bool_list, isB_bool_tuple, isB_int_bool, isB_int_int, isB_int_str, isB_int_list, isB_int_tuple, isB_str_bool, isB_str_int, isB_str_str, isB_str_list, isB_str_tuple, isB_list_bool, isB_list_int, isB_list_str, isB_list_list, isB_list_tuple, isB_tuple_bool, isB_tuple_int, isB_tuple_str, isB_tuple_list, isB_tuple_tuple, rSlCI, iRng3, iRev, gCons, gNil, iZip, iEnum, tLc_eq, tFor_eq, iRng1, iRng2, iList, iTup, rSetD, iKeys, tDNewK, Int.reducePow, Int.reduceNeg, iSeqA, Dw.rIxL, Dw.rSetL, rTupT, tPar, tNotT, tMkO, tFmt, tJs, tOst, Dw.rIsXD, L2.tXf]
    obtain ⟨fl1, fl2⟩ := okG_len (hok _ (List.mem_of_getElem? hs))
    obtain ⟨adb, adl⟩ := adG_by (hok _ (List.mem_of_getElem? hs)).1 (hok _ (List.mem_of_getElem? hs)).2.1
    obtain ⟨dab, dal⟩ := daG_by hdb
    have hgm := groupZ_more hs
    rw [ha] at adb adl hgm fl1 hab
    have h2n : (2 : Nat) ^ n ≤ 512 := Nat.pow_le_pow_right (n := 2) (by decide) hn
    have hi2 : i < ss.length := (List.getElem?_eq_some_iff.mp hs).1
    refine ⟨p, [a0, a1, a2, a3], rfl, .inr (.of h2), hab, fun H4 s4 => ⟨adG [a0, a1, a2, a3], rfl, line_le (by rw [adl]; decide), fun u5 hu5 => ?_⟩⟩
    have s5 := same_new hu5 (IL (adG [a0, a1, a2, a3]))
    have e5 : upd H4 u5 (IL (adG [a0, a1, a2, a3])) u5 = some (IL (adG [a0, a1, a2, a3])) := upd_same
    generalize upd H4 u5 (IL (adG [a0, a1, a2, a3])) = H5 at s5 e5 ⊢
    refine ⟨u5, _, rfl, e5, adb, by rw [adl]; decide, fun f6 H6 s6 n6 e6 => ?_⟩
    have c6 := s6 _ _ (s5 _ _ (s4 _ _ e3))
    refine ⟨f6, rfl, _, c6, _, e6, line_le (by rw [fl1]; omega), fun p1 hp1 => ⟨line_le (by decide), fun v1 hv1 => ?_⟩⟩
    have s06 := s3.trans (s4.trans (s5.trans s6))
    have np1 : H p1 = none := same_none s06 hp1
    have w0 := same_new hp1 (IL (groupZ (ss.take i) ++ fldG (adG [a0, a1, a2, a3])))
    have ec7 : upd H6 p1 (IL (groupZ (ss.take i) ++ fldG (adG [a0, a1, a2, a3]))) p1 = some (IL (groupZ (ss.take i) ++ fldG (adG [a0, a1, a2, a3]))) := upd_same
    generalize upd H6 p1 (IL (groupZ (ss.take i) ++ fldG (adG [a0, a1, a2, a3]))) = H7 at w0 ec7 hv1 ⊢
    have w1 := same_new hv1 (IL [7])
    generalize upd H7 v1 (IL [7]) = H8 at w1 ⊢
    have q8 := w1 _ _ (w0 _ _ (s6 _ _ (s5 _ _ (s4 _ _ h3))))
    refine ⟨sc.2, q8, line_le (by rw [hdl]; omega), fun v3 hv3 => ?_⟩
    have w3 := same_new hv3 (IL (7 :: sc.2))
    have ev3 : upd H8 v3 (IL (7 :: sc.2)) v3 = some (IL (7 :: sc.2)) := upd_same
    generalize upd H8 v3 (IL (7 :: sc.2)) = H9 at w3 ev3 ⊢
    refine ⟨q, sc.2, rfl, .inl (.of (w3 _ _ q8)), hdb, fun H11 w4 => ⟨[(xorG sc.2 : Int), 0, 0], rfl, line_le (by show 3 ≤ _; decide), fun v4 hv4 => ?_⟩⟩
    have w5 := same_new hv4 (IL [(xorG sc.2 : Int), 0, 0])
    generalize upd H11 v4 (IL [(xorG sc.2 : Int), 0, 0]) = H12 at w5 ⊢
    refine ⟨7 :: sc.2, w5 _ _ (w4 _ _ ev3), line_le (by rw [List.length_cons, hdl]; show _ + 3 ≤ _; omega), fun v5 hv5 => ?_⟩
    have w6 := same_new hv5 (IL (7 :: sc.2 ++ [(xorG sc.2 : Int), 0, 0]))
    have ev5 : upd H12 v5 (IL (7 :: sc.2 ++ [(xorG sc.2 : Int), 0, 0])) v5 = some (IL (daG sc.2)) := upd_same
    generalize upd H12 v5 (IL (7 :: sc.2 ++ [(xorG sc.2 : Int), 0, 0])) = H13 at w6 ev5 ⊢
    refine ⟨v5, _, rfl, ev5, dab, by rw [dal, hdl]; omega, fun f14 H14 w7 n14 e14 => ?_⟩
    have w17 := w1.trans (w3.trans (w4.trans (w5.trans (w6.trans w7))))
    refine ⟨f14, rfl, _, w17 _ _ ec7, _, e14, line_le (by rw [List.length_append, fl1, fl2]; omega), fun p6 hp6 => ?_⟩
    rw [hI]
    have s014 := s06.trans (w0.trans w17)
    exact ⟨s014.trans (same_new hp6 _), p6, _, _, _, _, _, _, same_none s014 hp6, by rw [upd_same, hgm], rfl⟩
  · intro σ H' h
    rw [hI] at h
    obtain ⟨s3, c, y2, y3, y4, y5, y6, y7, nc, e3, rfl⟩ := h
    try simp only [tSeq, tAsg, tVar, tC, tOp, rI0, rI, tUn, rU, tIfS, tTest, tRet, tRetN, tDrop, tCB, tCons, tNil, tLst, tLstI, tTup, gName, tB, tAnd, tOr, tNot, tAndV, tOrV, tNotV, tIf, tNext, tBreak, tCont, gSub, tCall, tCallN, tAug, ipI, tBML, tBML0, isL_IL, isL_lst, L2.start, List.map_cons, List.map_nil, List.length_cons, List.length_nil, List.cons_append, List.nil_append, List.getElem?_cons_succ, List.getElem?_cons_zero, Option.some.injEq, exists_eq_left', exists_eq_left, exists_and_left, V.int.injEq, V.ref.injEq, V.bl.injEq, V.str.injEq, List.set_cons_zero, List.set_cons_succ, List.cons.injEq, and_true, true_and, Nat.reduceAdd, Nat.reduceSub, List.replicate_succ, List.replicate_zero, rIxI, rIxH, rIxTH, rSetI, rSetH, rCatI, rRepI, rSlI, rAppendI, rExtendI, decide_eq_true_eq, upd_same, IL_inj, HO.lst.injEq, toInts_cons, toInts_nil, Option.map_some, if_true, if_false, Bool.true_eq_false, Bool.false_eq_true, Bool.not_true, Bool.not_false, Bool.not_eq_true', decide_eq_false_iff_not, atI_0, atI_1, atI_2, atI_3, atI_4, Int.reduceToNat, Int.reduceLT, Int.reduceLE, Int.reduceNeg, Int.reducePow, cast_lit, upd_upd, Int.reduceAdd, Int.reduceMul, Int.reduceSub, Nat.reduceLT, Nat.reduceLeDiff, cmul_r, cdiv_r, tSl, tPart, tNoPart, rEq, rNe, scal_nn, scal_ii, scal_bb, scal_ss, scal_is, scal_si, V.ty.injEq, and_assoc, tyH_non, tyH_bl, tyH_int, tyH_str, tyH_ref, tyO_lst, tyO_IL, tyO_tup, itO_lst, itO_tup, itO_IL, Dw.rIxD, rLenI, rLenH, rLenTH, rLenQ, rLenB, rListI, Dw.rListS, rIntI, rIntB, rSumI, rIsiD, rIsX, tCallS, tMakeS, tMake, tMakeC, tMakeSC, tFld, sFld, HO.ins.injEq, HO.tup.injEq, cxOf_K, nox_K, tr_K, suite_K, rTupleI, rAllB, rAnyB, BL_inj, tChain, wOnly, wAs, wMany, rEqI, rNeI, Dw.rMax2, rMin2, Dw.rIsN, rIsNotN, rStrIn, rStrNotIn, not_true_eq_false, not_false_eq_true, reduceCtorEq, cl_bool, cl_int, cl_str, cl_list, cl_tuple, isB_NoneType_bool, isB_NoneType_int, isB_NoneType_str, isB_NoneType_list, isB_NoneType_tuple, isB_bool_bool, isB_bool_int, isB_bool_str, isB_bool_list, isB_bool_tuple, isB_int_bool, isB_int_int, isB_int_str, isB_int_list, isB_int_tuple, isB_str_bool, isB_str_int, isB_str_str, isB_str_list, isB_str_tuple, isB_list_bool, isB_list_int, isB_list_str, isB_list_list, isB_list_tuple, isB_tuple_bool, isB_tuple_int, isB_tuple_str, isB_tuple_list, isB_tuple_tuple, rSlCI, iRng3, iRev, gCons, gNil, iZip, iEnum, tLc_eq, tFor_eq, iRng1, iRng2, iList, iTup, rSetD, iKeys, tDNewK, Int.reducePow, Int.reduceNeg, iSeqA, Dw.rIxL, Dw.rSetL, rTupT, tPar, tNotT, tMkO, tFmt, tJs, tOst, Dw.rIsXD, L2.tXf]
    rw [hA.1, List.take_length] at e3
    exact k c H' s3 nc e3
end
section
variable {P : Program} [SupP P] {w : World} {K : PySem.W.Frag} {mg : Str → Option Value} {base : Heap} {A : Ad}
theorem PairAt.sameB {p q : Addr} {H H' : Hp} {x : V} {s : GSec} (hP : Pool H p q) (b : SameB p H H') (h : PairAt H x s) : PairAt H' x s := by
  obtain ⟨t, a, c, e, h1, h2, h3⟩ := h
  exact ⟨t, a, c, e, b _ _ (pool_tup hP h1) h1, b _ _ (pool_tup hP h2) h2, b _ _ (pool_il hP h3) h3⟩
def spLaw (K : PySem.W.Frag) : Sp := fun vs H Q _ => ∃ (a : Addr) (ns : List Int), vs = [.ref a] ∧ SqL K H a (ns.map V.int) ∧ ns.length ≤ 63 ∧ ∀ H', Q (.bl true) H'
theorem ok_law (T : Tx K mg A) : FnOk P w K mg base CX0 9 A.f_law A.d_law ["script"] (spLaw K) := by
  refine T.F_law.ok sc_law (fun vs H Q E h => ?_) (fun cdv A' outer s H vs Q E hr h => ?_)
  · obtain ⟨a, ns, rfl, _⟩ := h
    rfl
  obtain ⟨a, ss, rfl, hS, hl, k⟩ := h
  refine ⟨_, (pss_cons (ps_set (i := 1) sc_law.nd rfl (Or.inl rfl) (pe_call (ok_law_pool (P := P) T) (hr.mono (by decide)) rfl T.g_law_pool T.F_law_pool.kp T.b_law_pool .nil pass0 (pa_cons (pv 0) pa_nil)))
      (pss_cons (ps_set (i := 2) sc_law.nd rfl (Or.inl rfl) (pe_ix ix_listI (pe_lstI (pa_cons pe_int (pa_cons pe_int (pa_cons pe_int (pa_cons pe_int pa_nil))))) (pe_call (ok_law_draw (P := P) T) (hr.mono (by decide)) rfl T.g_law_draw T.F_law_draw.kp T.b_law_draw .nil pass0 (pa_cons (pv 1) (pa_cons pe_int pa_nil))) (fun _ _ => rfl)))
      (pss_cons (ps_set (i := 3) sc_law.nd rfl (Or.inl rfl) (pe_call (ok_law_group_sectors (P := P) T) (hr.mono (by decide)) rfl T.g_law_group_sectors T.F_law_group_sectors.kp T.b_law_group_sectors .nil pass0 (pa_cons (pv 1) (pa_cons (pe_ix ix_listI (pe_lstI (pa_cons (pe_call (ok_law_draw (P := P) T) (hr.mono (by decide)) rfl T.g_law_draw T.F_law_draw.kp T.b_law_draw .nil pass0 (pa_cons (pv 1) (pa_cons pe_int pa_nil))) (pa_cons pe_int pa_nil))) (pe_op op_fdiv (pv 2) pe_int) (fun _ _ => rfl)) (pa_cons (pv 2) pa_nil)))))
      (pss_cons (ps_set (i := 4) sc_law.nd rfl (Or.inl rfl) (pe_call (ok_law_some_bytes (P := P) T) (hr.mono (by decide)) rfl T.g_law_some_bytes T.F_law_some_bytes.kp T.b_law_some_bytes .nil pass0 (pa_cons (pv 1) (pa_cons pe_int pa_nil))))
      (pss_cons (ps_if (PW.pt (pw_or (pt_not (pt_val (pe_call (ok_law_same (P := P) T) (hr.mono (by decide)) rfl T.g_law_same T.F_law_same.kp T.b_law_same .nil pass0 (pa_cons (pe_call (ok_exclusive_of (P := P) T) (hr.mono (by decide)) rfl T.g_exclusive_of T.F_exclusive_of.kp T.b_exclusive_of .nil pass0 (pa_cons (pv 4) pa_nil)) (pa_cons (pe_call (ok_law_xor_of (P := P) T) (hr.mono (by decide)) rfl T.g_law_xor_of T.F_law_xor_of.kp T.b_law_xor_of .nil pass0 (pa_cons (pv 4) pa_nil)) pa_nil))))) (pw_or1 (pt_not (pt_val (pe_call (ok_law_same (P := P) T) (hr.mono (by decide)) rfl T.g_law_same T.F_law_same.kp T.b_law_same .nil pass0 (pa_cons (pe_call (ok_group_cells (P := P) T) (hr.mono (by decide)) rfl T.g_group_cells T.F_group_cells.kp T.b_group_cells .nil Dw.passLN (pa_cons (pv 3) (pa_cons (pv 2) pa_nil))) (pa_cons (pe_call (ok_law_group_track (P := P) T) (hr.mono (by decide)) rfl T.g_law_group_track T.F_law_group_track.kp T.b_law_group_track .nil pass0 (pa_cons (pv 3) pa_nil)) pa_nil)))))))) (pss_one (ps_ret pe_bl)) pss_nil)
      (pss_cons (ps_set (i := 5) sc_law.nd rfl (Or.inl rfl) (pe_op op_repI (pe_lstI (pa_cons pe_int pa_nil)) (pe_op op_shl pe_int (pv 2))))
      (pss_cons (ps_set (i := 6) sc_law.nd rfl (Or.inl rfl) (pe_ix ix_listH (pe_lst (pa_cons (pe_tup (pa_cons (pe_tup (pa_cons pe_int (pa_cons pe_int (pa_cons pe_int (pa_cons pe_int pa_nil))))) (pa_cons (pv 5) pa_nil))) (pa_cons (pe_tup (pa_cons (pe_tup (pa_cons pe_int (pa_cons (pe_un un_neg pe_int) (pa_cons pe_int (pa_cons pe_int pa_nil))))) (pa_cons (pv 5) pa_nil))) (pa_cons (pe_tup (pa_cons (pe_tup (pa_cons pe_int (pa_cons pe_int (pa_cons pe_int (pa_cons pe_int pa_nil))))) (pa_cons (pe_slice sl_listI (pv 5) (po_some pe_int) po_none) pa_nil))) (pa_cons (pe_tup (pa_cons (pe_tup (pa_cons pe_int (pa_cons pe_int (pa_cons pe_int (pa_cons pe_int pa_nil))))) (pa_cons (pe_lstI pa_nil) pa_nil))) (pa_cons (pe_tup (pa_cons (pe_tup (pa_cons pe_int (pa_cons pe_int (pa_cons pe_int (pa_cons pe_int pa_nil))))) (pa_cons (pe_op op_catI (pe_slice sl_listI (pv 5) (po_some pe_int) po_none) (pe_lstI (pa_cons pe_int pa_nil))) pa_nil))) pa_nil)))))) (pe_call (ok_law_draw (P := P) T) (hr.mono (by decide)) rfl T.g_law_draw T.F_law_draw.kp T.b_law_draw .nil pass0 (pa_cons (pv 1) (pa_cons pe_int pa_nil))) (fun _ _ => rfl)))
      (pss_cons (L2N.ps_try_as (i := 7) rfl rfl sc_law.nd rfl rfl ⟨rfl, by decide, .inl T.x_InvalidSector.g⟩ takes0N (fun W pn xe tk po => (pss_one (ps_expr (pe_callS (ok_group_cells (P := P) T) (hr.mono (by decide)) (by rfl) T.g_group_cells T.F_group_cells.kp T.b_group_cells (fun σ => L2N.passAt tk σ) (pa_cons (pe_op op_cat (pe_op op_cat (pe_op op_cat (pv 3) (pe_lst (pa_cons (pv 6) pa_nil))) (pv 3)) (pe_lst (pa_cons (pv 6) pa_nil))) (pa_cons (pv 2) pa_nil)))))) (fun a oe cls d pn hzn hf => (have hz : Zc cls d oe := ⟨hzn.1, hzn.2.1⟩; (pss_one (ps_ret (pe_and (L2H.pe_callH (ok_law_sameH (P := P) T) (show L2H.RoomH _ _ from ⟨(hr.mono (j := 1) (by decide)).dp, (hr.mono (j := 1) (by decide)).un⟩) (hot_suite hzn hf) rfl T.g_law_same T.F_law_same.kp T.b_law_same (fun σ => passH0 (E := E0)) (pa_cons (pe_xf T.x_InvalidSector.xf T.x_InvalidSector.fld hz hf (pv 7)) (pa_cons (pe_callB call_lenH (by rfl) T.z_len (by decide +kernel) (pa_cons (pv 3) pa_nil)) pa_nil))) (pe_one (pe_not (pe_callB (call_isXD T.i_InvalidSector hz hf) (by rfl) T.z_isinstance (by decide +kernel) (pa_cons (pv 7) (pa_cons (pe_glob (v := .ref A.c_InvalidDisc) rfl T.x_InvalidDisc.g rfl) pa_nil)))))))))))
      (pss_one (ps_ret pe_bl)))))))))), ?_⟩
  try simp only [tSeq, tAsg, tVar, tC, tOp, rI0, rI, tUn, rU, tIfS, tTest, tRet, tRetN, tDrop, tCB, tCons, tNil, tLst, tLstI, tTup, gName, tB, tAnd, tOr, tNot, tAndV, tOrV, tNotV, tIf, tNext, tBreak, tCont, gSub, tCall, tCallN, tAug, ipI, tBML, tBML0, isL_IL, isL_lst, L2.start, List.map_cons, List.map_nil, List.length_cons, List.length_nil, List.cons_append, List.nil_append, List.getElem?_cons_succ, List.getElem?_cons_zero, Option.some.injEq, exists_eq_left', exists_eq_left, exists_and_left, V.int.injEq, V.ref.injEq, V.bl.injEq, V.str.injEq, List.set_cons_zero, List.set_cons_succ, List.cons.injEq, and_true, true_and, Nat.reduceAdd, Nat.reduceSub, List.replicate_succ, List.replicate_zero, rIxI, rIxH, rIxTH, rSetI, rSetH, rCatI, rRepI, rSlI, rAppendI, rExtendI, decide_eq_true_eq, upd_same, IL_inj, HO.lst.injEq, toInts_cons, toInts_nil, Option.map_some, if_true, if_false, Bool.true_eq_false, Bool.false_eq_true, Bool.not_true, Bool.not_false, Bool.not_eq_true', decide_eq_false_iff_not, atI_0, atI_1, atI_2, atI_3, atI_4, Int.reduceToNat, Int.reduceLT, Int.reduceLE, Int.reduceNeg, Int.reducePow, cast_lit, upd_upd, Int.reduceAdd, Int.reduceMul, Int.reduceSub, Nat.reduceLT, Nat.reduceLeDiff, cmul_r, cdiv_r, tSl, tPart, tNoPart, rEq, rNe, scal_nn, scal_ii, scal_bb, scal_ss, scal_is, scal_si, V.ty.injEq, and_assoc, tyH_non, tyH_bl, tyH_int, tyH_str, tyH_ref, tyO_lst, tyO_IL, tyO_tup, itO_lst, itO_tup, itO_IL, Dw.rIxD, rLenI, rLenH, rLenTH, rLenQ, rLenB, rListI, Dw.rListS, rIntI, rIntB, rSumI, rIsiD, rIsX, tCallS, tMakeS, tMake, tMakeC, tMakeSC, tFld, sFld, HO.ins.injEq, HO.tup.injEq, cxOf_K, nox_K, tr_K, suite_K, rTupleI, rAllB, rAnyB, BL_inj, tChain, wOnly, wAs, wMany, rEqI, rNeI, Dw.rMax2, rMin2, Dw.rIsN, rIsNotN, rStrIn, rStrNotIn, not_true_eq_false, not_false_eq_true, reduceCtorEq, cl_bool, cl_int, cl_str, cl_list, cl_tuple, isB_NoneType_bool, isB_NoneType_int, isB_NoneType_str, isB_NoneType_list, isB_NoneType_tuple, isB_bool_bool, isB_bool_int, isB_bool_str, isB_bool_list, isB_bool_tuple, isB_int_bool, isB_int_int, isB_int_str, isB_int_list, isB_int_tuple, isB_str_bool, isB_str_int, isB_str_str, isB_str_list, isB_str_tuple, isB_list_bool, isB_list_int, isB_list_str, isB_list_list, isB_list_tuple, isB_tuple_bool, isB_tuple_int, isB_tuple_str, isB_tuple_list, isB_tuple_tuple, rSlCI, iRng3, iRev, gCons, gNil, iZip, iEnum, tLc_eq, tFor_eq, iRng1, iRng2, iList, iTup, rSetD, iKeys, tDNewK, Int.reducePow, Int.reduceNeg, iSeqA, Dw.rIxL, Dw.rSetL, rTupT, tPar, tNotT, tMkO, tFmt, tJs, tOst, Dw.rIsXD, L2.tXf]
  refine ⟨a, ss, rfl, hS, hl, fun p q H1 s1 np nq hP1 => ?_⟩
  try simp only [tSeq, tAsg, tVar, tC, tOp, rI0, rI, tUn, rU, tIfS, tTest, tRet, tRetN, tDrop, tCB, tCons, tNil, tLst, tLstI, tTup, gName, tB, tAnd, tOr, tNot, tAndV, tOrV, tNotV, tIf, tNext, tBreak, tCont, gSub, tCall, tCallN, tAug, ipI, tBML, tBML0, isL_IL, isL_lst, L2.start, List.map_cons, List.map_nil, List.length_cons, List.length_nil, List.cons_append, List.nil_append, List.getElem?_cons_succ, List.getElem?_cons_zero, Option.some.injEq, exists_eq_left', exists_eq_left, exists_and_left, V.int.injEq, V.ref.injEq, V.bl.injEq, V.str.injEq, List.set_cons_zero, List.set_cons_succ, List.cons.injEq, and_true, true_and, Nat.reduceAdd, Nat.reduceSub, List.replicate_succ, List.replicate_zero, rIxI, rIxH, rIxTH, rSetI, rSetH, rCatI, rRepI, rSlI, rAppendI, rExtendI, decide_eq_true_eq, upd_same, IL_inj, HO.lst.injEq, toInts_cons, toInts_nil, Option.map_some, if_true, if_false, Bool.true_eq_false, Bool.false_eq_true, Bool.not_true, Bool.not_false, Bool.not_eq_true', decide_eq_false_iff_not, atI_0, atI_1, atI_2, atI_3, atI_4, Int.reduceToNat, Int.reduceLT, Int.reduceLE, Int.reduceNeg, Int.reducePow, cast_lit, upd_upd, Int.reduceAdd, Int.reduceMul, Int.reduceSub, Nat.reduceLT, Nat.reduceLeDiff, cmul_r, cdiv_r, tSl, tPart, tNoPart, rEq, rNe, scal_nn, scal_ii, scal_bb, scal_ss, scal_is, scal_si, V.ty.injEq, and_assoc, tyH_non, tyH_bl, tyH_int, tyH_str, tyH_ref, tyO_lst, tyO_IL, tyO_tup, itO_lst, itO_tup, itO_IL, Dw.rIxD, rLenI, rLenH, rLenTH, rLenQ, rLenB, rListI, Dw.rListS, rIntI, rIntB, rSumI, rIsiD, rIsX, tCallS, tMakeS, tMake, tMakeC, tMakeSC, tFld, sFld, HO.ins.injEq, HO.tup.injEq, cxOf_K, nox_K, tr_K, suite_K, rTupleI, rAllB, rAnyB, BL_inj, tChain, wOnly, wAs, wMany, rEqI, rNeI, Dw.rMax2, rMin2, Dw.rIsN, rIsNotN, rStrIn, rStrNotIn, not_true_eq_false, not_false_eq_true, reduceCtorEq, cl_bool, cl_int, cl_str, cl_list, cl_tuple, isB_NoneType_bool, isB_NoneType_int, isB_NoneType_str, isB_NoneType_list, isB_NoneType_tuple, isB_bool_bool, isB_bool_int, isB_bool_str, isB_bool_list, isB_bool_tuple, isB_int_bool, isB_int_int, isB_int_str, isB_int_list, isB_int_tuple, isB_str_bool, isB_str_int, isB_str_str, isB_str_list, isB_str_tuple, isB_list_bool, isB_list_int, isB_list_str, isB_list_list, isB_list_tuple, isB_tuple_bool, isB_tuple_int, isB_tuple_str, isB_tuple_list, isB_tuple_tuple, rSlCI, iRng3, iRev, gCons, gNil, iZip, iEnum, tLc_eq, tFor_eq, iRng1, iRng2, iList, iTup, rSetD, iKeys, tDNewK, Int.reducePow, Int.reduceNeg, iSeqA, Dw.rIxL, Dw.rSetL, rTupT, tPar, tNotT, tMkO, tFmt, tJs, tOst, Dw.rIsXD, L2.tXf]
  refine ⟨line_le (by decide), fun u1 hu1 => ?_⟩
  have eu1 : upd H1 u1 (IL [0, 1, 0, 4]) u1 = some (IL [0, 1, 0, 4]) := upd_same
  have hP2 := hP1.upd (o := IL [0, 1, 0, 4]) hu1
  have hu1p : p ≠ u1 := hP1.ne hu1
  generalize upd H1 u1 (IL [0, 1, 0, 4]) = H2 at eu1 hP2 ⊢
  refine ⟨p, q, 4, rfl, hP2, by omega, by omega, fun c H3 c0 c1 hP3 s3 => ?_⟩
  refine ⟨_, c, rfl, s3 _ _ (Ne.symm hu1p) eu1, c0, c1, ?_⟩
  obtain ⟨n, hn, hn4⟩ : ∃ n : Nat, [0, 1, 0, 4].getD c.toNat (0 : Int) = (n : Int) ∧ (n = 0 ∨ n = 1 ∨ n = 4) := by
    have : c = 0 ∨ c = 1 ∨ c = 2 ∨ c = 3 := by omega
    rcases this with h | h | h | h <;> subst h
    · exact ⟨0, rfl, .inl rfl⟩
    · exact ⟨1, rfl, .inr (.inl rfl)⟩
    · exact ⟨0, rfl, .inl rfl⟩
    · exact ⟨4, rfl, .inr (.inr rfl)⟩
  rw [hn]
  refine ⟨p, q, 4, rfl, hP3, by omega, by omega, fun cm H4 cm0 cm1 hP4 s4 => ?_⟩
  refine ⟨[cm, 1], rfl, line_le (by show 2 ≤ _; decide), fun u2 hu2 => ?_⟩
  have hP5 := hP4.upd (o := IL [cm, 1]) hu2
  generalize upd H4 u2 (IL [cm, 1]) = H5 at hP5 ⊢
  obtain ⟨m, hm, hm0, hm4⟩ : ∃ m : Int, [cm, 1].getD ((n : Int) / 4).toNat 0 = m ∧ 0 ≤ m ∧ m < 4 := by
    rcases hn4 with h | h | h <;> subst h
    · exact ⟨cm, rfl, cm0, cm1⟩
    · exact ⟨cm, rfl, cm0, cm1⟩
    · exact ⟨1, rfl, by decide, by decide⟩
  rw [hm]
  have hn9 : n ≤ 4 := by omega
  refine ⟨by omega, by show (n : Int) / 4 < ((2 : Nat) : Int); omega, p, q, m, n, rfl, hP5, by omega, by omega, by omega, fun D xs sec H6 hP6 s6 hD eD A6 ok6 hsl => ?_⟩
  have nDp : D ≠ p := by
    intro e
    subst e
    exact absurd hD (fun h => by obtain ⟨o, ho⟩ := hP5.there; rw [ho] at h; cases h)
  have sec4 : sec.length ≤ 4 := by omega
  refine ⟨p, q, 12, rfl, hP6, by omega, by omega, fun va vs H7 hP7 s7 nva eva hvb hvl => ?_⟩
  have A7 := A6.imp fun _ _ h => PairAt.sameB hP6 s7 h
  have eD7 := s7 _ _ nDp eD
  have SL : ∀ {H : Hp} {b : Addr} {zs : List V}, H b = some (.lst zs) → SqL K H b zs := fun h => .of h
  refine ⟨va, vs, rfl, .inl (.of eva), hvb, fun H8 s8 => ?_⟩
  refine ⟨va, vs, rfl, .inl (.of (s8 _ _ eva)), hvb, fun H9 s9 => ?_⟩
  refine same_int ⟨true, rfl, ?_⟩
  rw [if_neg (by decide)]
  have s79 := s8.trans s9
  have A9 := A7.imp fun _ _ h => PairAt.same s79 h
  have eD9 := s79 _ _ eD7
  have hP9 := hP7.same s79
  have h2n : 2 ^ n ≤ 16 := by rcases hn4 with h | h | h <;> subst h <;> decide
  have hlen : ∀ s ∈ sec, s.1.length ≤ 100 ∧ s.2.length ≤ 10000 := fun s hs => by
    obtain ⟨⟨_, _, _, _, e⟩, _, h2, _⟩ := ok6 s hs
    rw [e, h2]
    exact ⟨by show 4 ≤ 100; decide, by omega⟩
  refine ⟨D, xs, sec, n, rfl, by omega, .of eD9, A9, hlen, by omega, .inl ⟨ok6, fun g1 H10 s10 n10 e10 => ?_⟩⟩
  refine ⟨D, xs, sec, n, rfl, by omega, .of (s10 _ _ eD9), A9.imp (fun _ _ h => PairAt.same s10 h), ok6, by omega, fun g2 H11 s11 n11 e11 => ?_⟩
  refine same_IL (s11 _ _ e10) e11 ⟨true, rfl, ?_⟩
  rw [if_neg (by decide)]
  have s91 := s10.trans s11
  have A11 := A9.imp fun _ _ h => PairAt.same s91 h
  have eD11 := s91 _ _ eD9
  have hP11 := hP9.same s91
  clear s1 hS hl ss eu1 hu1 u1 hu1p hP2 s3 s4 hP5 s6 hP6 s7 s8 s9 s79 s10 s11 s91 A6 A7 A9 hP7 hP9 hvb hvl
  refine ⟨line_le (by decide), fun v0 hv0 => ?_⟩
  have w0 := same_new hv0 (IL [1])
  generalize upd H11 v0 (IL [1]) = G0 at w0 ⊢
  have cp : CPow 16 (n : Int) := ⟨by omega, by omega, by decide⟩
  have eN : (16 : Int) * 2 ^ (n : Int).toNat = ((16 * 2 ^ n : Nat) : Int) := by
    rw [Int.toNat_natCast]
    push_cast
    rfl
  rw [eN, rep_one, Int.toNat_natCast]
  obtain ⟨N, hN⟩ : ∃ N : Nat, N = 16 * 2 ^ n := ⟨_, rfl⟩
  rw [← hN]
  have hN0 : 1 ≤ N := by rcases hn4 with h | h | h <;> subst h <;> rw [hN] <;> decide
  have hN1 : N ≤ 256 := by omega
  refine ⟨cp, by omega, by omega, line_le (by omega), fun row hrow => ?_⟩
  have w1 := same_new hrow (IL (List.replicate N 1))
  have er : upd G0 row (IL (List.replicate N 1)) row = some (IL (List.replicate N 1)) := upd_same
  have n1 : H11 row = none := same_none w0 hrow
  generalize upd G0 row (IL (List.replicate N 1)) = G1 at w1 er ⊢
  have w1 := w0.trans w1
  clear w0 hv0 hrow
  refine ⟨line_le (by decide), fun t1 ht1 => ?_⟩
  have q1 := same_new ht1 (.tup [.int 256, .int 0, .int 1, .int 1])
  have et1 : upd G1 t1 (.tup [.int 256, .int 0, .int 1, .int 1]) t1 = some (.tup [.int 256, .int 0, .int 1, .int 1]) := upd_same
  generalize upd G1 t1 (.tup [.int 256, .int 0, .int 1, .int 1]) = G2 at q1 et1 ⊢
  refine ⟨line_le (by decide), fun p1 hp1 => ?_⟩
  have q2 := same_new hp1 (.tup [.ref t1, .ref row])
  have B1 : PairAt (upd G2 p1 (.tup [.ref t1, .ref row])) (.ref p1) ([256, 0, 1, 1], List.replicate N 1) := ⟨p1, t1, row, rfl, upd_same, q2 _ _ et1, q2 _ _ (q1 _ _ er)⟩
  generalize upd G2 p1 (.tup [.ref t1, .ref row]) = G3 at q2 B1 ⊢
  have er := q2 _ _ (q1 _ _ er)
  have w1 := w1.trans (q1.trans q2)
  clear q1 q2 et1 ht1 hp1
  refine ⟨line_le (by decide), fun t2 ht2 => ?_⟩
  have q1 := same_new ht2 (.tup [.int 0, .int (-1), .int 1, .int 1])
  have et2 : upd G3 t2 (.tup [.int 0, .int (-1), .int 1, .int 1]) t2 = some (.tup [.int 0, .int (-1), .int 1, .int 1]) := upd_same
  generalize upd G3 t2 (.tup [.int 0, .int (-1), .int 1, .int 1]) = G4 at q1 et2 ⊢
  refine ⟨line_le (by decide), fun p2 hp2 => ?_⟩
  have q2 := same_new hp2 (.tup [.ref t2, .ref row])
  have B2 : PairAt (upd G4 p2 (.tup [.ref t2, .ref row])) (.ref p2) ([0, -1, 1, 1], List.replicate N 1) := ⟨p2, t2, row, rfl, upd_same, q2 _ _ et2, q2 _ _ (q1 _ _ er)⟩
  generalize upd G4 p2 (.tup [.ref t2, .ref row]) = G5 at q2 B2 ⊢
  have er := q2 _ _ (q1 _ _ er)
  have B1 := B1.same (q1.trans q2)
  have w1 := w1.trans (q1.trans q2)
  clear q1 q2 et2 ht2 hp2
  refine ⟨line_le (by decide), fun t3 ht3 => ?_⟩
  have q1 := same_new ht3 (.tup [.int 0, .int 0, .int 1, .int 1])
  have et3 : upd G5 t3 (.tup [.int 0, .int 0, .int 1, .int 1]) t3 = some (.tup [.int 0, .int 0, .int 1, .int 1]) := upd_same
  generalize upd G5 t3 (.tup [.int 0, .int 0, .int 1, .int 1]) = G6 at q1 et3 ⊢
  have er := q1 _ _ er
  obtain ⟨r1, hr1, hr1l⟩ : ∃ r1, cutI (List.replicate N (1 : Int)) (some 1) none = r1 ∧ r1.length = N - 1 := ⟨_, rfl, by rw [show (some 1 : Option Int) = some ((1 : Nat) : Int) from rfl, cutI_from (by rw [List.length_replicate]; omega), List.length_drop, List.length_replicate]⟩
  have NL : (IL (List.replicate N (1 : Int)) : HO) = IL (List.replicate N 1) := rfl
  refine ⟨_, er, fun c1 hc1 => ?_⟩
  rw [hr1]
  have q2 := same_new hc1 (IL r1)
  have ec1 : upd G6 c1 (IL r1) c1 = some (IL r1) := upd_same
  generalize upd G6 c1 (IL r1) = G7 at q2 ec1 ⊢
  refine ⟨line_le (by decide), fun p3 hp3 => ?_⟩
  have q3 := same_new hp3 (.tup [.ref t3, .ref c1])
  have B3 : PairAt (upd G7 p3 (.tup [.ref t3, .ref c1])) (.ref p3) ([0, 0, 1, 1], r1) := ⟨p3, t3, c1, rfl, upd_same, q3 _ _ (q2 _ _ et3), q3 _ _ ec1⟩
  generalize upd G7 p3 (.tup [.ref t3, .ref c1]) = G8 at q3 B3 ⊢
  have er := q3 _ _ (q2 _ _ er)
  have q13 := q1.trans (q2.trans q3)
  have B1 := B1.same q13
  have B2 := B2.same q13
  have w1 := w1.trans q13
  clear q13 q1 q2 q3 et3 ht3 hp3 ec1 hc1
  refine ⟨line_le (by decide), fun t4 ht4 => ?_⟩
  have q1 := same_new ht4 (.tup [.int 0, .int 0, .int 1, .int 1])
  have et4 : upd G8 t4 (.tup [.int 0, .int 0, .int 1, .int 1]) t4 = some (.tup [.int 0, .int 0, .int 1, .int 1]) := upd_same
  generalize upd G8 t4 (.tup [.int 0, .int 0, .int 1, .int 1]) = G9 at q1 et4 ⊢
  refine ⟨Nat.zero_le _, fun c2 hc2 => ?_⟩
  have q2 := same_new hc2 (IL [])
  have ec2 : upd G9 c2 (IL []) c2 = some (IL []) := upd_same
  generalize upd G9 c2 (IL []) = G10 at q2 ec2 ⊢
  refine ⟨line_le (by decide), fun p4 hp4 => ?_⟩
  have q3 := same_new hp4 (.tup [.ref t4, .ref c2])
  have B4 : PairAt (upd G10 p4 (.tup [.ref t4, .ref c2])) (.ref p4) ([0, 0, 1, 1], []) := ⟨p4, t4, c2, rfl, upd_same, q3 _ _ (q2 _ _ et4), q3 _ _ ec2⟩
  generalize upd G10 p4 (.tup [.ref t4, .ref c2]) = G11 at q3 B4 ⊢
  have q13 := q1.trans (q2.trans q3)
  have er := q13 _ _ er
  have B1 := B1.same q13
  have B2 := B2.same q13
  have B3 := B3.same q13
  have w1 := w1.trans q13
  clear q13 q1 q2 q3 et4 ht4 hp4 ec2 hc2
  refine ⟨line_le (by decide), fun t5 ht5 => ?_⟩
  have q1 := same_new ht5 (.tup [.int 0, .int 0, .int 1, .int 1])
  have et5 : upd G11 t5 (.tup [.int 0, .int 0, .int 1, .int 1]) t5 = some (.tup [.int 0, .int 0, .int 1, .int 1]) := upd_same
  generalize upd G11 t5 (.tup [.int 0, .int 0, .int 1, .int 1]) = G12 at q1 et5 ⊢
  refine ⟨_, q1 _ _ er, fun c3 hc3 => ?_⟩
  rw [hr1]
  have q2 := same_new hc3 (IL r1)
  have ec3 : upd G12 c3 (IL r1) c3 = some (IL r1) := upd_same
  generalize upd G12 c3 (IL r1) = G13 at q2 ec3 ⊢
  refine ⟨line_le (by decide), fun c4 hc4 => ?_⟩
  have q3 := same_new hc4 (IL [300])
  have ec4 : upd G13 c4 (IL [300]) c4 = some (IL [300]) := upd_same
  generalize upd G13 c4 (IL [300]) = G14 at q3 ec4 ⊢
  refine ⟨r1, q3 _ _ ec3, line_le (by omega), fun c5 hc5 => ?_⟩
  have q4 := same_new hc5 (IL (r1 ++ [300]))
  have ec5 : upd G14 c5 (IL (r1 ++ [300])) c5 = some (IL (r1 ++ [300])) := upd_same
  generalize upd G14 c5 (IL (r1 ++ [300])) = G15 at q4 ec5 ⊢
  refine ⟨line_le (by decide), fun p5 hp5 => ?_⟩
  have q5 := same_new hp5 (.tup [.ref t5, .ref c5])
  have B5 : PairAt (upd G15 p5 (.tup [.ref t5, .ref c5])) (.ref p5) ([0, 0, 1, 1], r1 ++ [300]) := ⟨p5, t5, c5, rfl, upd_same, q5 _ _ (q4 _ _ (q3 _ _ (q2 _ _ et5))), q5 _ _ ec5⟩
  generalize upd G15 p5 (.tup [.ref t5, .ref c5]) = G16 at q5 B5 ⊢
  have q15 := q1.trans (q2.trans (q3.trans (q4.trans q5)))
  have B1 := B1.same q15
  have B2 := B2.same q15
  have B3 := B3.same q15
  have B4 := B4.same q15
  have w1 := w1.trans q15
  clear q15 q1 q2 q3 q4 q5 et5 ht5 hp5 ec3 hc3 ec4 hc4 ec5 hc5 er
  refine ⟨line_le (by decide), fun lb hlb => ?_⟩
  have q1 := same_new hlb (.lst [.ref p1, .ref p2, .ref p3, .ref p4, .ref p5])
  have elb : upd G16 lb (.lst [.ref p1, .ref p2, .ref p3, .ref p4, .ref p5]) lb = some (.lst [.ref p1, .ref p2, .ref p3, .ref p4, .ref p5]) := upd_same
  have hP16 := hP11.same w1
  have nlb : lb ≠ p := Ne.symm (hP16.ne hlb)
  generalize upd G16 lb (.lst [.ref p1, .ref p2, .ref p3, .ref p4, .ref p5]) = G17 at q1 elb ⊢
  have hP17 := hP16.same q1
  have BB : AllAt (PairAt G17) [.ref p1, .ref p2, .ref p3, .ref p4, .ref p5] [([256, 0, 1, 1], List.replicate N 1), ([0, -1, 1, 1], List.replicate N 1), ([0, 0, 1, 1], r1), ([0, 0, 1, 1], []), ([0, 0, 1, 1], r1 ++ [300])] := ((((AllAt.nil.push (B1.same q1)).push (B2.same q1)).push (B3.same q1)).push (B4.same q1)).push (B5.same q1)
  have bad : ∀ s ∈ [([256, 0, 1, 1], List.replicate N 1), ([0, -1, 1, 1], List.replicate N 1), ([0, 0, 1, 1], r1), ([0, 0, 1, 1], []), ([0, 0, 1, 1], r1 ++ [300])], okC n s = false ∧ s.1.length ≤ 100 ∧ s.2.length ≤ 10000 := by
    intro s hs
    have len : ∀ (a b : List Int), b.length ≠ N → okC n (a, b) = false := fun a b hb => by
      unfold okC
      rw [decide_eq_false (show ¬ (b.length = 16 * 2 ^ n) by rw [← hN]; exact hb), Bool.and_false, Bool.and_false]
    simp only [List.mem_cons, List.not_mem_nil, or_false] at hs
    rcases hs with rfl | rfl | rfl | rfl | rfl
    · exact ⟨rfl, by show 4 ≤ 100; decide, by show (List.replicate N (1 : Int)).length ≤ 10000; rw [List.length_replicate]; omega⟩
    · exact ⟨rfl, by show 4 ≤ 100; decide, by show (List.replicate N (1 : Int)).length ≤ 10000; rw [List.length_replicate]; omega⟩
    · exact ⟨len _ _ (by omega), by show 4 ≤ 100; decide, by show r1.length ≤ 10000; omega⟩
    · exact ⟨len _ _ (by show 0 ≠ N; omega), by show 4 ≤ 100; decide, by show 0 ≤ 10000; decide⟩
    · refine ⟨?_, by show 4 ≤ 100; decide, by show (r1 ++ [(300 : Int)]).length ≤ 10000; rw [List.length_append]; show r1.length + 1 ≤ _; omega⟩
      unfold okC
      rw [show ((([0, 0, 1, 1] : List Int), r1 ++ [(300 : Int)]).2.all fun z => decide (0 ≤ z) && decide (z ≤ 255)) = false by
        show (r1 ++ [(300 : Int)]).all _ = false
        rw [List.all_append]
        show (_ && false) = false
        rw [Bool.and_false], Bool.false_and, Bool.and_false]
  refine ⟨p, q, 5, rfl, hP17, by omega, by omega, fun cb H12 cb0 cb1 hP12 s12 => ?_⟩
  obtain ⟨j, rfl⟩ := Int.eq_ofNat_of_zero_le cb0
  obtain ⟨sb, hsb⟩ : ∃ sb, [([256, 0, 1, 1], List.replicate N 1), ([0, -1, 1, 1], List.replicate N 1), ([0, 0, 1, 1], r1), ([0, 0, 1, 1], []), ([0, 0, 1, 1], r1 ++ [(300 : Int)])][j]? = some sb := ⟨_, List.getElem?_eq_getElem (show j < 5 by omega)⟩
  obtain ⟨xb, hxb, Pb⟩ := BB.at hsb
  obtain ⟨bF, bl1, bl2⟩ := bad sb (List.mem_of_getElem? hsb)
  have w2 := w1.trans q1
  refine ⟨_, j, rfl, s12 _ _ nlb elb, xb, by rw [atI_nat]; exact hxb, ?_⟩
  have A12 := (A11.imp fun _ _ h => PairAt.same w2 h).imp fun _ _ h => PairAt.sameB hP17 s12 h
  have eD12 := s12 _ _ nDp (w2 _ _ eD11)
  have Pb12 := PairAt.sameB hP17 s12 Pb
  clear BB B1 B2 B3 B4 B5 bad hlb elb q1 w1 w2 s12 hP16 hP17 nlb A11 eD11 hP11 er hxb hsb
  have AL := A12.1
  have A1 : AllAt (PairAt H12) [xb] [sb] := AllAt.nil.push Pb12
  have AB := ((A12.app A1).app A12).app A1
  have AL2 := AB.1
  refine ⟨line_le (by decide), fun l1 hl1 => ?_⟩
  have z1 := same_new hl1 (.lst [xb])
  have e1 : upd H12 l1 (.lst [xb]) l1 = some (.lst [xb]) := upd_same
  generalize upd H12 l1 (.lst [xb]) = J1 at z1 e1 ⊢
  refine ⟨D, l1, xs, [xb], rfl, rfl, z1 _ _ eD12, e1, line_le (by show xs.length + 1 ≤ _; omega), fun l2 hl2 => ?_⟩
  have z2 := same_new hl2 (.lst (xs ++ [xb]))
  have e2 : upd J1 l2 (.lst (xs ++ [xb])) l2 = some (.lst (xs ++ [xb])) := upd_same
  generalize upd J1 l2 (.lst (xs ++ [xb])) = J2 at z2 e2 ⊢
  refine ⟨l2, D, xs ++ [xb], xs, rfl, rfl, e2, z2 _ _ (z1 _ _ eD12), line_le (by rw [List.length_append]; show xs.length + 1 + _ ≤ _; omega), fun l3 hl3 => ?_⟩
  have z3 := same_new hl3 (.lst (xs ++ [xb] ++ xs))
  have e3 : upd J2 l3 (.lst (xs ++ [xb] ++ xs)) l3 = some (.lst (xs ++ [xb] ++ xs)) := upd_same
  generalize upd J2 l3 (.lst (xs ++ [xb] ++ xs)) = J3 at z3 e3 ⊢
  refine ⟨line_le (by decide), fun l4 hl4 => ?_⟩
  have z4 := same_new hl4 (.lst [xb])
  have e4 : upd J3 l4 (.lst [xb]) l4 = some (.lst [xb]) := upd_same
  generalize upd J3 l4 (.lst [xb]) = J4 at z4 e4 ⊢
  refine ⟨l3, l4, _, [xb], rfl, rfl, z4 _ _ e3, e4, line_le (by rw [List.length_append, List.length_append]; show xs.length + 1 + xs.length + 1 ≤ _; omega), fun l5 hl5 => ?_⟩
  have z5 := same_new hl5 (.lst (xs ++ [xb] ++ xs ++ [xb]))
  have e5 : upd J4 l5 (.lst (xs ++ [xb] ++ xs ++ [xb])) l5 = some (.lst (xs ++ [xb] ++ xs ++ [xb])) := upd_same
  generalize upd J4 l5 (.lst (xs ++ [xb] ++ xs ++ [xb])) = J5 at z5 e5 ⊢
  have z15 := z1.trans (z2.trans (z3.trans (z4.trans z5)))
  have eD5 := z15 _ _ eD12
  refine ⟨l5, _, sec ++ [sb] ++ sec ++ [sb], n, rfl, by omega, .of e5, AB.imp fun _ _ h => PairAt.same z15 h, fun s hs => ?_, by rw [List.length_append, List.length_append, List.length_append]; show sec.length + 1 + sec.length + 1 ≤ 40; omega, .inr ⟨sec.length, sb, ?_, bF, fun i s hi hs => ?_, by omega, fun d H' s' nd ed => ?_⟩⟩
  · simp only [List.mem_append, List.mem_singleton] at hs
    rcases hs with ((h | h) | h) | h
    · exact hlen s h
    · rw [h]; exact ⟨bl1, bl2⟩
    · exact hlen s h
    · rw [h]; exact ⟨bl1, bl2⟩
  · rw [List.append_assoc, List.append_assoc, List.getElem?_append_right (Nat.le_refl _), Nat.sub_self]
    rfl
  · rw [List.append_assoc, List.append_assoc, List.getElem?_append_left hi] at hs
    exact okC_of (ok6 s (List.mem_of_getElem? hs))
  refine ⟨true, T.x_InvalidSector.e, fun _ ea hea => ?_, fun h => by cases h⟩
  try simp only [tSeq, tAsg, tVar, tC, tOp, rI0, rI, tUn, rU, tIfS, tTest, tRet, tRetN, tDrop, tCB, tCons, tNil, tLst, tLstI, tTup, gName, tB, tAnd, tOr, tNot, tAndV, tOrV, tNotV, tIf, tNext, tBreak, tCont, gSub, tCall, tCallN, tAug, ipI, tBML, tBML0, isL_IL, isL_lst, L2.start, List.map_cons, List.map_nil, List.length_cons, List.length_nil, List.cons_append, List.nil_append, List.getElem?_cons_succ, List.getElem?_cons_zero, Option.some.injEq, exists_eq_left', exists_eq_left, exists_and_left, V.int.injEq, V.ref.injEq, V.bl.injEq, V.str.injEq, List.set_cons_zero, List.set_cons_succ, List.cons.injEq, and_true, true_and, Nat.reduceAdd, Nat.reduceSub, List.replicate_succ, List.replicate_zero, rIxI, rIxH, rIxTH, rSetI, rSetH, rCatI, rRepI, rSlI, rAppendI, rExtendI, decide_eq_true_eq, upd_same, IL_inj, HO.lst.injEq, toInts_cons, toInts_nil, Option.map_some, if_true, if_false, Bool.true_eq_false, Bool.false_eq_true, Bool.not_true, Bool.not_false, Bool.not_eq_true', decide_eq_false_iff_not, atI_0, atI_1, atI_2, atI_3, atI_4, Int.reduceToNat, Int.reduceLT, Int.reduceLE, Int.reduceNeg, Int.reducePow, cast_lit, upd_upd, Int.reduceAdd, Int.reduceMul, Int.reduceSub, Nat.reduceLT, Nat.reduceLeDiff, cmul_r, cdiv_r, tSl, tPart, tNoPart, rEq, rNe, scal_nn, scal_ii, scal_bb, scal_ss, scal_is, scal_si, V.ty.injEq, and_assoc, tyH_non, tyH_bl, tyH_int, tyH_str, tyH_ref, tyO_lst, tyO_IL, tyO_tup, itO_lst, itO_tup, itO_IL, Dw.rIxD, rLenI, rLenH, rLenTH, rLenQ, rLenB, rListI, Dw.rListS, rIntI, rIntB, rSumI, rIsiD, rIsX, tCallS, tMakeS, tMake, tMakeC, tMakeSC, tFld, sFld, HO.ins.injEq, HO.tup.injEq, cxOf_K, nox_K, tr_K, suite_K, rTupleI, rAllB, rAnyB, BL_inj, tChain, wOnly, wAs, wMany, rEqI, rNeI, Dw.rMax2, rMin2, Dw.rIsN, rIsNotN, rStrIn, rStrNotIn, not_true_eq_false, not_false_eq_true, reduceCtorEq, cl_bool, cl_int, cl_str, cl_list, cl_tuple, isB_NoneType_bool, isB_NoneType_int, isB_NoneType_str, isB_NoneType_list, isB_NoneType_tuple, isB_bool_bool, isB_bool_int, isB_bool_str, isB_bool_list, isB_bool_tuple, isB_int_bool, isB_int_int, isB_int_str, isB_int_list, isB_int_tuple, isB_str_bool, isB_str_int, isB_str_str, isB_str_list, isB_str_tuple, isB_list_bool, isB_list_int, isB_list_str, isB_list_list, isB_list_tuple, isB_tuple_bool, isB_tuple_int, isB_tuple_str, isB_tuple_list, isB_tuple_tuple, rSlCI, iRng3, iRev, gCons, gNil, iZip, iEnum, tLc_eq, tFor_eq, iRng1, iRng2, iList, iTup, rSetD, iKeys, tDNewK, Int.reducePow, Int.reduceNeg, iSeqA, Dw.rIxL, Dw.rSetL, rTupT, tPar, tNotT, tMkO, tFmt, tJs, tOst, Dw.rIsXD, L2.tXf]
  have hlook : List.lookup (Str.ofString "index") [("index", V.int (sec.length : Int))] = some (V.int (sec.length : Int)) := by rfl
  refine ⟨_, ed, _, hlook, _, s' _ _ eD5, (sec.length : Int), by rw [AL], true, rfl, ?_⟩
  rw [if_pos rfl]
  exact ⟨⟨_, ed⟩, false, T.kit_InvalidSector_InvalidDisc, k _⟩
end
theorem all_mk {l : PySem.W.OpenLaw} {w : World} {K : PySem.W.Frag} {h : Heap} {mg : Str → Option Value} {fa f1 f2 f3 f4 f5 f6 f7 f8 f9 f10 f11 f12 f13 f14 f15 f16 f17 f18 f19 f20 f21 f22 f23 f24 C_GROUP_CODES C_InvalidDisc C_InvalidSector sf_InvalidSector sc_InvalidSector se_InvalidSector : Addr} (X : K.In h) (G : h.Ns mainGlobals mg) (hfa : mg "law" = some (.ref fa))
    {od1 an1 od2 an2 od3 an3 od4 an4 od5 an5 od6 an6 od7 an7 od8 an8 od9 an9 od10 an10 od11 an11 od12 an12 od13 an13 od14 an14 od15 an15 od16 an16 od17 an17 od18 an18 od19 an19 od20 an20 od21 an21 od22 an22 od23 an23 od24 an24 sod_InvalidSector san_InvalidSector sd1_InvalidSector sd2_InvalidSector : Option Addr} {sl1 sl2 sl3 sl4 sl5 sl6 sl7 sl8 sl9 sl10 sl11 sl12 sl13 sl14 sl15 sl16 sl17 sl18 sl19 sl20 sl21 sl22 sl23 sl24 sl_GROUP_CODES ssl_InvalidSector ss1_InvalidSector ss2_InvalidSector : Array (Option Value)} {oc1 kV1 dc1 pm1 cd1 ct1 oc2 kV2 dc2 pm2 cd2 ct2 oc3 kV3 dc3 pm3 cd3 ct3 oc4 kV4 dc4 pm4 cd4 ct4 oc5 kV5 dc5 pm5 cd5 ct5 oc6 kV6 dc6 pm6 cd6 ct6 oc7 kV7 dc7 pm7 cd7 ct7 oc8 kV8 dc8 pm8 cd8 ct8 oc9 kV9 dc9 pm9 cd9 ct9 oc10 kV10 dc10 pm10 cd10 ct10 oc11 kV11 dc11 pm11 cd11 ct11 oc12 kV12 dc12 pm12 cd12 ct12 oc13 kV13 dc13 pm13 cd13 ct13 oc14 kV14 dc14 pm14 cd14 ct14 oc15 kV15 dc15 pm15 cd15 ct15 oc16 kV16 dc16 pm16 cd16 ct16 oc17 kV17 dc17 pm17 cd17 ct17 oc18 kV18 dc18 pm18 cd18 ct18 oc19 kV19 dc19 pm19 cd19 ct19 oc20 kV20 dc20 pm20 cd20 ct20 oc21 kV21 dc21 pm21 cd21 ct21 oc22 kV22 dc22 pm22 cd22 ct22 oc23 kV23 dc23 pm23 cd23 ct23 oc24 kV24 dc24 pm24 cd24 ct24 u_SYNC_CELLS u_GAP_BYTES u_ADDRESS_BYTE u_DATA_BYTE soc_InvalidSector skV_InvalidSector sdc_InvalidSector spm_InvalidSector sct_InvalidSector scl1_InvalidSector scl2_InvalidSector : Value} {tk_GROUP_CODES_0 tk_GROUP_CODES_1 tk_GROUP_CODES_2 tk_GROUP_CODES_3 tk_GROUP_CODES_4 tk_GROUP_CODES_5 tk_GROUP_CODES_6 tk_GROUP_CODES_7 tk_GROUP_CODES_8 tk_GROUP_CODES_9 tk_GROUP_CODES_10 tk_GROUP_CODES_11 tk_GROUP_CODES_12 tk_GROUP_CODES_13 tk_GROUP_CODES_14 tk_GROUP_CODES_15 : Tok} {nn_GROUP_CODES : Nat} {vcv_InvalidSector : Array Value} {vtf_InvalidSector : Tok} {vcd_InvalidSector : ClassData} [SupP l.prog]
    (cn_SYNC_CELLS : PySem.W.nsIn K mainGlobals "SYNC_CELLS" = some (some u_SYNC_CELLS)) (rl_SYNC_CELLS : RelV (.int 20) u_SYNC_CELLS)
    (cn_GAP_BYTES : PySem.W.nsIn K mainGlobals "GAP_BYTES" = some (some u_GAP_BYTES)) (rl_GAP_BYTES : RelV (.int 9) u_GAP_BYTES)
    (cn_ADDRESS_BYTE : PySem.W.nsIn K mainGlobals "ADDRESS_BYTE" = some (some u_ADDRESS_BYTE)) (rl_ADDRESS_BYTE : RelV (.int 8) u_ADDRESS_BYTE)
    (cn_DATA_BYTE : PySem.W.nsIn K mainGlobals "DATA_BYTE" = some (some u_DATA_BYTE)) (rl_DATA_BYTE : RelV (.int 7) u_DATA_BYTE)
    (an_GROUP_CODES : PySem.W.nsIn K mainGlobals "GROUP_CODES" = some (some (.ref C_GROUP_CODES))) (lk_GROUP_CODES : K.lookup C_GROUP_CODES = some ⟨.type "tuple", none, .seq #[.int 9 tk_GROUP_CODES_0, .int 10 tk_GROUP_CODES_1, .int 11 tk_GROUP_CODES_2, .int 13 tk_GROUP_CODES_3, .int 14 tk_GROUP_CODES_4, .int 15 tk_GROUP_CODES_5, .int 18 tk_GROUP_CODES_6, .int 19 tk_GROUP_CODES_7, .int 21 tk_GROUP_CODES_8, .int 22 tk_GROUP_CODES_9, .int 23 tk_GROUP_CODES_10, .int 25 tk_GROUP_CODES_11, .int 26 tk_GROUP_CODES_12, .int 27 tk_GROUP_CODES_13, .int 29 tk_GROUP_CODES_14, .int 30 tk_GROUP_CODES_15] nn_GROUP_CODES, sl_GROUP_CODES⟩)
    (a1 : PySem.W.nsIn K mainGlobals "byte_bits" = some (some (.ref f1))) (l1 : K.lookup f1 = some ⟨oc1, od1, .func (PySem.W.fnOf "byte_bits" "byte_bits" (defArgs s_byte_bits) (defBody s_byte_bits) (defScope s_byte_bits) .none kV1 dc1 pm1 an1 cd1 ct1), sl1⟩) (c1 : PySem.W.codeIn K cd1 "byte_bits" = true) (k1 : PySem.W.keepIn K (.ref f1) = true)
    (a2 : PySem.W.nsIn K mainGlobals "are_bytes" = some (some (.ref f2))) (l2 : K.lookup f2 = some ⟨oc2, od2, .func (PySem.W.fnOf "are_bytes" "are_bytes" (defArgs s_are_bytes) (defBody s_are_bytes) (defScope s_are_bytes) .none kV2 dc2 pm2 an2 cd2 ct2), sl2⟩) (c2 : PySem.W.codeIn K cd2 "are_bytes" = true) (k2 : PySem.W.keepIn K (.ref f2) = true)
    (a3 : PySem.W.nsIn K mainGlobals "exclusive" = some (some (.ref f3))) (l3 : K.lookup f3 = some ⟨oc3, od3, .func (PySem.W.fnOf "exclusive" "exclusive" (defArgs s_exclusive) (defBody s_exclusive) (defScope s_exclusive) .none kV3 dc3 pm3 an3 cd3 ct3), sl3⟩) (c3 : PySem.W.codeIn K cd3 "exclusive" = true) (k3 : PySem.W.keepIn K (.ref f3) = true)
    (a4 : PySem.W.nsIn K mainGlobals "gcr_code" = some (some (.ref f4))) (l4 : K.lookup f4 = some ⟨oc4, od4, .func (PySem.W.fnOf "gcr_code" "gcr_code" (defArgs s_gcr_code) (defBody s_gcr_code) (defScope s_gcr_code) .none kV4 dc4 pm4 an4 cd4 ct4), sl4⟩) (c4 : PySem.W.codeIn K cd4 "gcr_code" = true) (k4 : PySem.W.keepIn K (.ref f4) = true)
    (a5 : PySem.W.nsIn K mainGlobals "gcr_cells" = some (some (.ref f5))) (l5 : K.lookup f5 = some ⟨oc5, od5, .func (PySem.W.fnOf "gcr_cells" "gcr_cells" (defArgs s_gcr_cells) (defBody s_gcr_cells) (defScope s_gcr_cells) .none kV5 dc5 pm5 an5 cd5 ct5), sl5⟩) (c5 : PySem.W.codeIn K cd5 "gcr_cells" = true) (k5 : PySem.W.keepIn K (.ref f5) = true)
    (a6 : PySem.W.nsIn K mainGlobals "data_length" = some (some (.ref f6))) (l6 : K.lookup f6 = some ⟨oc6, od6, .func (PySem.W.fnOf "data_length" "data_length" (defArgs s_data_length) (defBody s_data_length) (defScope s_data_length) .none kV6 dc6 pm6 an6 cd6 ct6), sl6⟩) (c6 : PySem.W.codeIn K cd6 "data_length" = true) (k6 : PySem.W.keepIn K (.ref f6) = true)
    (a7 : PySem.W.nsIn K mainGlobals "exclusive_of" = some (some (.ref f7))) (l7 : K.lookup f7 = some ⟨oc7, od7, .func (PySem.W.fnOf "exclusive_of" "exclusive_of" (defArgs s_exclusive_of) (defBody s_exclusive_of) (defScope s_exclusive_of) .none kV7 dc7 pm7 an7 cd7 ct7), sl7⟩) (c7 : PySem.W.codeIn K cd7 "exclusive_of" = true) (k7 : PySem.W.keepIn K (.ref f7) = true)
    (a8 : PySem.W.nsIn K mainGlobals "check_pairs" = some (some (.ref f8))) (l8 : K.lookup f8 = some ⟨oc8, od8, .func (PySem.W.fnOf "check_pairs" "check_pairs" (defArgs s_check_pairs) (defBody s_check_pairs) (defScope s_check_pairs) .none kV8 dc8 pm8 an8 cd8 ct8), sl8⟩) (c8 : PySem.W.codeIn K cd8 "check_pairs" = true) (k8 : PySem.W.keepIn K (.ref f8) = true)
    (a9 : PySem.W.nsIn K mainGlobals "gap_cells" = some (some (.ref f9))) (l9 : K.lookup f9 = some ⟨oc9, od9, .func (PySem.W.fnOf "gap_cells" "gap_cells" (defArgs s_gap_cells) (defBody s_gap_cells) (defScope s_gap_cells) .none kV9 dc9 pm9 an9 cd9 ct9), sl9⟩) (c9 : PySem.W.codeIn K cd9 "gap_cells" = true) (k9 : PySem.W.keepIn K (.ref f9) = true)
    (a10 : PySem.W.nsIn K mainGlobals "field_cells" = some (some (.ref f10))) (l10 : K.lookup f10 = some ⟨oc10, od10, .func (PySem.W.fnOf "field_cells" "field_cells" (defArgs s_field_cells) (defBody s_field_cells) (defScope s_field_cells) .none kV10 dc10 pm10 an10 cd10 ct10), sl10⟩) (c10 : PySem.W.codeIn K cd10 "field_cells" = true) (k10 : PySem.W.keepIn K (.ref f10) = true)
    (a11 : PySem.W.nsIn K mainGlobals "group_cells" = some (some (.ref f11))) (l11 : K.lookup f11 = some ⟨oc11, od11, .func (PySem.W.fnOf "group_cells" "group_cells" (defArgs s_group_cells) (defBody s_group_cells) (defScope s_group_cells) .none kV11 dc11 pm11 an11 cd11 ct11), sl11⟩) (c11 : PySem.W.codeIn K cd11 "group_cells" = true) (k11 : PySem.W.keepIn K (.ref f11) = true)
    (a12 : PySem.W.nsIn K mainGlobals "_law_pool" = some (some (.ref f12))) (l12 : K.lookup f12 = some ⟨oc12, od12, .func (PySem.W.fnOf "_law_pool" "_law_pool" (defArgs s_law_pool) (defBody s_law_pool) (defScope s_law_pool) .none kV12 dc12 pm12 an12 cd12 ct12), sl12⟩) (c12 : PySem.W.codeIn K cd12 "_law_pool" = true) (k12 : PySem.W.keepIn K (.ref f12) = true)
    (a13 : PySem.W.nsIn K mainGlobals "_law_spread" = some (some (.ref f13))) (l13 : K.lookup f13 = some ⟨oc13, od13, .func (PySem.W.fnOf "_law_spread" "_law_spread" (defArgs s_law_spread) (defBody s_law_spread) (defScope s_law_spread) .none kV13 dc13 pm13 an13 cd13 ct13), sl13⟩) (c13 : PySem.W.codeIn K cd13 "_law_spread" = true) (k13 : PySem.W.keepIn K (.ref f13) = true)
    (a14 : PySem.W.nsIn K mainGlobals "_law_draw" = some (some (.ref f14))) (l14 : K.lookup f14 = some ⟨oc14, od14, .func (PySem.W.fnOf "_law_draw" "_law_draw" (defArgs s_law_draw) (defBody s_law_draw) (defScope s_law_draw) .none kV14 dc14 pm14 an14 cd14 ct14), sl14⟩) (c14 : PySem.W.codeIn K cd14 "_law_draw" = true) (k14 : PySem.W.keepIn K (.ref f14) = true)
    (a15 : PySem.W.nsIn K mainGlobals "_law_same" = some (some (.ref f15))) (l15 : K.lookup f15 = some ⟨oc15, od15, .func (PySem.W.fnOf "_law_same" "_law_same" (defArgs s_law_same) (defBody s_law_same) (defScope s_law_same) .none kV15 dc15 pm15 an15 cd15 ct15), sl15⟩) (c15 : PySem.W.codeIn K cd15 "_law_same" = true) (k15 : PySem.W.keepIn K (.ref f15) = true)
    (a16 : PySem.W.nsIn K mainGlobals "_law_or" = some (some (.ref f16))) (l16 : K.lookup f16 = some ⟨oc16, od16, .func (PySem.W.fnOf "_law_or" "_law_or" (defArgs s_law_or) (defBody s_law_or) (defScope s_law_or) .none kV16 dc16 pm16 an16 cd16 ct16), sl16⟩) (c16 : PySem.W.codeIn K cd16 "_law_or" = true) (k16 : PySem.W.keepIn K (.ref f16) = true)
    (a17 : PySem.W.nsIn K mainGlobals "_law_some_bytes" = some (some (.ref f17))) (l17 : K.lookup f17 = some ⟨oc17, od17, .func (PySem.W.fnOf "_law_some_bytes" "_law_some_bytes" (defArgs s_law_some_bytes) (defBody s_law_some_bytes) (defScope s_law_some_bytes) .none kV17 dc17 pm17 an17 cd17 ct17), sl17⟩) (c17 : PySem.W.codeIn K cd17 "_law_some_bytes" = true) (k17 : PySem.W.keepIn K (.ref f17) = true)
    (a18 : PySem.W.nsIn K mainGlobals "_law_groups_of" = some (some (.ref f18))) (l18 : K.lookup f18 = some ⟨oc18, od18, .func (PySem.W.fnOf "_law_groups_of" "_law_groups_of" (defArgs s_law_groups_of) (defBody s_law_groups_of) (defScope s_law_groups_of) .none kV18 dc18 pm18 an18 cd18 ct18), sl18⟩) (c18 : PySem.W.codeIn K cd18 "_law_groups_of" = true) (k18 : PySem.W.keepIn K (.ref f18) = true)
    (a19 : PySem.W.nsIn K mainGlobals "_law_group_cells" = some (some (.ref f19))) (l19 : K.lookup f19 = some ⟨oc19, od19, .func (PySem.W.fnOf "_law_group_cells" "_law_group_cells" (defArgs s_law_group_cells) (defBody s_law_group_cells) (defScope s_law_group_cells) .none kV19 dc19 pm19 an19 cd19 ct19), sl19⟩) (c19 : PySem.W.codeIn K cd19 "_law_group_cells" = true) (k19 : PySem.W.keepIn K (.ref f19) = true)
    (a20 : PySem.W.nsIn K mainGlobals "_law_group_part" = some (some (.ref f20))) (l20 : K.lookup f20 = some ⟨oc20, od20, .func (PySem.W.fnOf "_law_group_part" "_law_group_part" (defArgs s_law_group_part) (defBody s_law_group_part) (defScope s_law_group_part) .none kV20 dc20 pm20 an20 cd20 ct20), sl20⟩) (c20 : PySem.W.codeIn K cd20 "_law_group_part" = true) (k20 : PySem.W.keepIn K (.ref f20) = true)
    (a21 : PySem.W.nsIn K mainGlobals "_law_xor_of" = some (some (.ref f21))) (l21 : K.lookup f21 = some ⟨oc21, od21, .func (PySem.W.fnOf "_law_xor_of" "_law_xor_of" (defArgs s_law_xor_of) (defBody s_law_xor_of) (defScope s_law_xor_of) .none kV21 dc21 pm21 an21 cd21 ct21), sl21⟩) (c21 : PySem.W.codeIn K cd21 "_law_xor_of" = true) (k21 : PySem.W.keepIn K (.ref f21) = true)
    (a22 : PySem.W.nsIn K mainGlobals "_law_group_track" = some (some (.ref f22))) (l22 : K.lookup f22 = some ⟨oc22, od22, .func (PySem.W.fnOf "_law_group_track" "_law_group_track" (defArgs s_law_group_track) (defBody s_law_group_track) (defScope s_law_group_track) .none kV22 dc22 pm22 an22 cd22 ct22), sl22⟩) (c22 : PySem.W.codeIn K cd22 "_law_group_track" = true) (k22 : PySem.W.keepIn K (.ref f22) = true)
    (a23 : PySem.W.nsIn K mainGlobals "_law_group_sectors" = some (some (.ref f23))) (l23 : K.lookup f23 = some ⟨oc23, od23, .func (PySem.W.fnOf "_law_group_sectors" "_law_group_sectors" (defArgs s_law_group_sectors) (defBody s_law_group_sectors) (defScope s_law_group_sectors) .none kV23 dc23 pm23 an23 cd23 ct23), sl23⟩) (c23 : PySem.W.codeIn K cd23 "_law_group_sectors" = true) (k23 : PySem.W.keepIn K (.ref f23) = true)
    (a24 : PySem.W.nsIn K mainGlobals "law" = some (some (.ref f24))) (l24 : K.lookup f24 = some ⟨oc24, od24, .func (PySem.W.fnOf "law" "law" (defArgs s_law) (defBody s_law) (defScope s_law) .none kV24 dc24 pm24 an24 cd24 ct24), sl24⟩) (c24 : PySem.W.codeIn K cd24 "law" = true) (k24 : PySem.W.keepIn K (.ref f24) = true)
    (z_all : PySem.W.nsIn K mainGlobals "all" = some none)
    (z_bool : PySem.W.nsIn K mainGlobals "bool" = some none)
    (z_enumerate : PySem.W.nsIn K mainGlobals "enumerate" = some none)
    (z_int : PySem.W.nsIn K mainGlobals "int" = some none)
    (z_isinstance : PySem.W.nsIn K mainGlobals "isinstance" = some none)
    (z_len : PySem.W.nsIn K mainGlobals "len" = some none)
    (z_list : PySem.W.nsIn K mainGlobals "list" = some none)
    (z_range : PySem.W.nsIn K mainGlobals "range" = some none)
    (z_str : PySem.W.nsIn K mainGlobals "str" = some none)
    (z_tuple : PySem.W.nsIn K mainGlobals "tuple" = some none)
    (a_InvalidDisc : PySem.W.nsIn K mainGlobals "InvalidDisc" = some (some (.ref C_InvalidDisc))) (x_InvalidDisc : PySem.W.excIn K C_InvalidDisc [.type "ValueError", .type "Exception", .type "BaseException", .type "object"] "ValueError.__new__" = true) (k_InvalidDisc : PySem.W.keepIn K (.ref C_InvalidDisc) = true) (b_InvalidDisc : PySem.W.subIn K (.ref C_InvalidDisc) (.type "BaseException") = some true) (t_InvalidDisc : PySem.W.typeIn K (.ref C_InvalidDisc) = some (.type "type")) (i_InvalidDisc : PySem.W.isClsIn K C_InvalidDisc = true) (s_InvalidDisc : PySem.W.subIn K (.ref C_InvalidDisc) (.ref C_InvalidDisc) = some true)
    (a_InvalidSector : PySem.W.nsIn K mainGlobals "InvalidSector" = some (some (.ref C_InvalidSector))) (ox_InvalidSector : oexIn K C_InvalidSector = true) (k_InvalidSector : PySem.W.keepIn K (.ref C_InvalidSector) = true) (b_InvalidSector : PySem.W.subIn K (.ref C_InvalidSector) (.type "BaseException") = some true) (t_InvalidSector : PySem.W.typeIn K (.ref C_InvalidSector) = some (.type "type")) (i_InvalidSector : PySem.W.isClsIn K C_InvalidSector = true) (s_InvalidSector : PySem.W.subIn K (.ref C_InvalidSector) (.ref C_InvalidSector) = some true) (sa_InvalidSector : PySem.W.findIn K (.ref C_InvalidSector) "__setattr__" = some (some (.builtin "object.__setattr__"))) (mr_InvalidSector : PySem.W.mroIn K C_InvalidSector (.ref C_InvalidSector) = some true) (su_InvalidSector : PySem.W.ks_superIn K C_InvalidSector C_InvalidSector "__init__" = some (some (.builtin "ValueError.__init__"))) (sv_InvalidSector : PySem.W.subIn K (.ref C_InvalidSector) (.type "ValueError") = some true)
    (ai_InvalidSector : PySem.W.findIn K (.ref C_InvalidSector) "__init__" = some (some (.ref sf_InvalidSector))) (ti_InvalidSector : PySem.W.typeIn K (.ref sf_InvalidSector) = some (.type "function")) (sl_InvalidSector : K.lookup sf_InvalidSector = some ⟨soc_InvalidSector, sod_InvalidSector, .func (PySem.W.ksFn "__init__" "InvalidSector.__init__" (defArgs s_InvalidSectorinit) (defBody s_InvalidSectorinit) (defScope s_InvalidSectorinit) .none skV_InvalidSector sdc_InvalidSector spm_InvalidSector san_InvalidSector (.ref sc_InvalidSector) sct_InvalidSector se_InvalidSector), ssl_InvalidSector⟩) (cd_InvalidSector : PySem.W.codeIn K (.ref sc_InvalidSector) "InvalidSector.__init__" = true)
    (lc_InvalidSector : K.lookup sc_InvalidSector = some ⟨scl1_InvalidSector, sd1_InvalidSector, .fields vcv_InvalidSector, ss1_InvalidSector⟩) (vc2_InvalidSector : vcv_InvalidSector[2]? = some (.str ("/claim/cut.py" : Str) vtf_InvalidSector)) (le_InvalidSector : K.lookup se_InvalidSector = some ⟨scl2_InvalidSector, sd2_InvalidSector, .cell (some (.ref C_InvalidSector)), ss2_InvalidSector⟩) (di_InvalidSector : PySem.W.clsIn K C_InvalidSector = some vcd_InvalidSector) (st_InvalidSector : PySem.W.nsIn K cStatics "thirdparty.any" = some none) (gs_InvalidSector : PySem.W.nsIn K mainGlobals "super" = some none)
    (hg_InvalidSector : PySem.W.findIn K (.ref C_InvalidSector) "__getattribute__" = some (some (.builtin "BaseException.__getattribute__"))) (hk_InvalidSector : PySem.W.findIn K (.ref C_InvalidSector) "__getattr__" = some none) (hd_InvalidSector : PySem.W.hasDictIn K C_InvalidSector = true) (fl_InvalidSector : PySem.W.findIn K (.ref C_InvalidSector) "index" = some none)
    (ha_InvalidSector : PySem.W.findIn K (.ref C_InvalidSector) "__class__" = some (some (.builtin "object.__class__"))) (hm_InvalidSector : PySem.W.mroIn K C_InvalidSector (.type "object") = some true)
    (hn_ : PySem.W.specialIn K (.builtin "object.__class__") "__get__" = some (some (.builtin "getset_descriptor.__get__"))) (ht_ : PySem.W.takesIn K (.builtin "object.__class__") = some true)
    (kit_InvalidSector_InvalidDisc : PySem.W.kitOne K (.ref C_InvalidSector) (.ref C_InvalidDisc) = some false)
    : ∃ fd : FuncData, (∀ (s : Shared) (v : Value), BindsTo s fd ⟨[v], []⟩ [("script", v)]) ∧ ∀ base : Heap, K.In base → base.Ns mainGlobals mg → FnOk l.prog w K mg base CX0 9 fa fd ["script"] (spLaw K) := by
  have e := hfa.symm.trans (PySem.W.mg_of X G a24)
  cases e
  have F1 := fun_mk (st := s_byte_bits) l1 c1 k1
  have b1 := F1.binds (ps := ["value"]) fun _ _ _ _ _ _ us hl => match us, hl with | [_], _ => rfl
  have F2 := fun_mk (st := s_are_bytes) l2 c2 k2
  have b2 := F2.binds (ps := ["values"]) fun _ _ _ _ _ _ us hl => match us, hl with | [_], _ => rfl
  have F3 := fun_mk (st := s_exclusive) l3 c3 k3
  have b3 := F3.binds (ps := ["first", "second"]) fun _ _ _ _ _ _ us hl => match us, hl with | [_, _], _ => rfl
  have F4 := fun_mk (st := s_gcr_code) l4 c4 k4
  have b4 := F4.binds (ps := ["number"]) fun _ _ _ _ _ _ us hl => match us, hl with | [_], _ => rfl
  have F5 := fun_mk (st := s_gcr_cells) l5 c5 k5
  have b5 := F5.binds (ps := ["values"]) fun _ _ _ _ _ _ us hl => match us, hl with | [_], _ => rfl
  have F6 := fun_mk (st := s_data_length) l6 c6 k6
  have b6 := F6.binds (ps := ["size"]) fun _ _ _ _ _ _ us hl => match us, hl with | [_], _ => rfl
  have F7 := fun_mk (st := s_exclusive_of) l7 c7 k7
  have b7 := F7.binds (ps := ["values"]) fun _ _ _ _ _ _ us hl => match us, hl with | [_], _ => rfl
  have F8 := fun_mk (st := s_check_pairs) l8 c8 k8
  have b8 := F8.binds (ps := ["sectors", "size"]) fun _ _ _ _ _ _ us hl => match us, hl with | [_, _], _ => rfl
  have F9 := fun_mk (st := s_gap_cells) l9 c9 k9
  have b9 := F9.binds (ps := []) fun _ _ _ _ _ _ us hl => match us, hl with | [], _ => rfl
  have F10 := fun_mk (st := s_field_cells) l10 c10 k10
  have b10 := F10.binds (ps := ["values"]) fun _ _ _ _ _ _ us hl => match us, hl with | [_], _ => rfl
  have F11 := fun_mk (st := s_group_cells) l11 c11 k11
  have b11 := F11.binds (ps := ["sectors", "size"]) fun _ _ _ _ _ _ us hl => match us, hl with | [_, _], _ => rfl
  have F12 := fun_mk (st := s_law_pool) l12 c12 k12
  have b12 := F12.binds (ps := ["script"]) fun _ _ _ _ _ _ us hl => match us, hl with | [_], _ => rfl
  have F13 := fun_mk (st := s_law_spread) l13 c13 k13
  have b13 := F13.binds (ps := ["cell"]) fun _ _ _ _ _ _ us hl => match us, hl with | [_], _ => rfl
  have F14 := fun_mk (st := s_law_draw) l14 c14 k14
  have b14 := F14.binds (ps := ["pool", "many"]) fun _ _ _ _ _ _ us hl => match us, hl with | [_, _], _ => rfl
  have F15 := fun_mk (st := s_law_same) l15 c15 k15
  have b15 := F15.binds (ps := ["actual", "due"]) fun _ _ _ _ _ _ us hl => match us, hl with | [_, _], _ => rfl
  have F16 := fun_mk (st := s_law_or) l16 c16 k16
  have b16 := F16.binds (ps := ["a", "b"]) fun _ _ _ _ _ _ us hl => match us, hl with | [_, _], _ => rfl
  have F17 := fun_mk (st := s_law_some_bytes) l17 c17 k17
  have b17 := F17.binds (ps := ["pool", "most"]) fun _ _ _ _ _ _ us hl => match us, hl with | [_, _], _ => rfl
  have F18 := fun_mk (st := s_law_groups_of) l18 c18 k18
  have b18 := F18.binds (ps := []) fun _ _ _ _ _ _ us hl => match us, hl with | [], _ => rfl
  have F19 := fun_mk (st := s_law_group_cells) l19 c19 k19
  have b19 := F19.binds (ps := ["values"]) fun _ _ _ _ _ _ us hl => match us, hl with | [_], _ => rfl
  have F20 := fun_mk (st := s_law_group_part) l20 c20 k20
  have b20 := F20.binds (ps := ["values"]) fun _ _ _ _ _ _ us hl => match us, hl with | [_], _ => rfl
  have F21 := fun_mk (st := s_law_xor_of) l21 c21 k21
  have b21 := F21.binds (ps := ["values"]) fun _ _ _ _ _ _ us hl => match us, hl with | [_], _ => rfl
  have F22 := fun_mk (st := s_law_group_track) l22 c22 k22
  have b22 := F22.binds (ps := ["sectors"]) fun _ _ _ _ _ _ us hl => match us, hl with | [_], _ => rfl
  have F23 := fun_mk (st := s_law_group_sectors) l23 c23 k23
  have b23 := F23.binds (ps := ["pool", "many", "size"]) fun _ _ _ _ _ _ us hl => match us, hl with | [_, _, _], _ => rfl
  have F24 := fun_mk (st := s_law) l24 c24 k24
  have b24 := F24.binds (ps := ["script"]) fun _ _ _ _ _ _ us hl => match us, hl with | [_], _ => rfl
  have sb_InvalidSector := sup_binds (K := K) (qual := "InvalidSector.__init__") (st := s_InvalidSectorinit) (kV := skV_InvalidSector) (doc := sdc_InvalidSector) (pm := spm_InvalidSector) (ct := sct_InvalidSector) (an := san_InvalidSector) (cda := sc_InvalidSector) (cc := se_InvalidSector) (ps := ["self", "index"]) fun us hl => match us, hl with | [_, _], _ => rfl
  have T : Tx K mg ⟨f1, _, f2, _, f3, _, f4, _, f5, _, f6, _, f7, _, f8, _, f9, _, f10, _, f11, _, f12, _, f13, _, f14, _, f15, _, f16, _, f17, _, f18, _, f19, _, f20, _, f21, _, f22, _, f23, _, fa, _, u_SYNC_CELLS, u_GAP_BYTES, u_ADDRESS_BYTE, u_DATA_BYTE, C_InvalidDisc, C_InvalidSector, sf_InvalidSector, _, C_GROUP_CODES⟩ := { F_byte_bits := F1, b_byte_bits := b1, g_byte_bits := PySem.W.mg_of X G a1, F_are_bytes := F2, b_are_bytes := b2, g_are_bytes := PySem.W.mg_of X G a2, F_exclusive := F3, b_exclusive := b3, g_exclusive := PySem.W.mg_of X G a3, F_gcr_code := F4, b_gcr_code := b4, g_gcr_code := PySem.W.mg_of X G a4, F_gcr_cells := F5, b_gcr_cells := b5, g_gcr_cells := PySem.W.mg_of X G a5, F_data_length := F6, b_data_length := b6, g_data_length := PySem.W.mg_of X G a6, F_exclusive_of := F7, b_exclusive_of := b7, g_exclusive_of := PySem.W.mg_of X G a7, F_check_pairs := F8, b_check_pairs := b8, g_check_pairs := PySem.W.mg_of X G a8, F_gap_cells := F9, b_gap_cells := b9, g_gap_cells := PySem.W.mg_of X G a9, F_field_cells := F10, b_field_cells := b10, g_field_cells := PySem.W.mg_of X G a10, F_group_cells := F11, b_group_cells := b11, g_group_cells := PySem.W.mg_of X G a11, F_law_pool := F12, b_law_pool := b12, g_law_pool := PySem.W.mg_of X G a12, F_law_spread := F13, b_law_spread := b13, g_law_spread := PySem.W.mg_of X G a13, F_law_draw := F14, b_law_draw := b14, g_law_draw := PySem.W.mg_of X G a14, F_law_same := F15, b_law_same := b15, g_law_same := PySem.W.mg_of X G a15, F_law_or := F16, b_law_or := b16, g_law_or := PySem.W.mg_of X G a16, F_law_some_bytes := F17, b_law_some_bytes := b17, g_law_some_bytes := PySem.W.mg_of X G a17, F_law_groups_of := F18, b_law_groups_of := b18, g_law_groups_of := PySem.W.mg_of X G a18, F_law_group_cells := F19, b_law_group_cells := b19, g_law_group_cells := PySem.W.mg_of X G a19, F_law_group_part := F20, b_law_group_part := b20, g_law_group_part := PySem.W.mg_of X G a20, F_law_xor_of := F21, b_law_xor_of := b21, g_law_xor_of := PySem.W.mg_of X G a21, F_law_group_track := F22, b_law_group_track := b22, g_law_group_track := PySem.W.mg_of X G a22, F_law_group_sectors := F23, b_law_group_sectors := b23, g_law_group_sectors := PySem.W.mg_of X G a23, F_law := F24, b_law := b24, g_law := PySem.W.mg_of X G a24, z_all := PySem.W.mg_none_of X G z_all, z_bool := PySem.W.mg_none_of X G z_bool, z_enumerate := PySem.W.mg_none_of X G z_enumerate, z_int := PySem.W.mg_none_of X G z_int, z_isinstance := PySem.W.mg_none_of X G z_isinstance, z_len := PySem.W.mg_none_of X G z_len, z_list := PySem.W.mg_none_of X G z_list, z_range := PySem.W.mg_none_of X G z_range, z_str := PySem.W.mg_none_of X G z_str, z_tuple := PySem.W.mg_none_of X G z_tuple, c_SYNC_CELLS := PySem.W.mg_of X G cn_SYNC_CELLS, r_SYNC_CELLS := rl_SYNC_CELLS, c_GAP_BYTES := PySem.W.mg_of X G cn_GAP_BYTES, r_GAP_BYTES := rl_GAP_BYTES, c_ADDRESS_BYTE := PySem.W.mg_of X G cn_ADDRESS_BYTE, r_ADDRESS_BYTE := rl_ADDRESS_BYTE, c_DATA_BYTE := PySem.W.mg_of X G cn_DATA_BYTE, r_DATA_BYTE := rl_DATA_BYTE, x_InvalidDisc := ⟨PySem.W.mg_of X G a_InvalidDisc, x_InvalidDisc, k_InvalidDisc, b_InvalidDisc, t_InvalidDisc, exm_selfD b_InvalidDisc i_InvalidDisc t_InvalidDisc s_InvalidDisc⟩, x_InvalidSector := ⟨⟨_, _, _, _, _, _, _, _, _, _, _, _, _, _, _, _, _, _, _, rfl, sl_InvalidSector, cd_InvalidSector, lc_InvalidSector, vc2_InvalidSector, le_InvalidSector, di_InvalidSector⟩, st_InvalidSector, PySem.W.mg_none_of X G gs_InvalidSector, ⟨⟨oex_cls ox_InvalidSector, sa_InvalidSector, b_InvalidSector, t_InvalidSector, k_InvalidSector⟩, mr_InvalidSector, su_InvalidSector, sv_InvalidSector⟩, ai_InvalidSector, ti_InvalidSector, PySem.W.mg_of X G a_InvalidSector, ⟨hg_InvalidSector, hk_InvalidSector, b_InvalidSector, hd_InvalidSector⟩, k_InvalidSector, b_InvalidSector, t_InvalidSector, exm_selfD b_InvalidSector i_InvalidSector t_InvalidSector s_InvalidSector, fl_InvalidSector⟩, b_InvalidSectorinit := sb_InvalidSector, ct_GROUP_CODES := PySem.W.mg_of X G an_GROUP_CODES, ty_GROUP_CODES := ⟨_, lk_GROUP_CODES, rfl, rfl⟩, tt_GROUP_CODES := fun H => .inr ⟨_, _, _, lk_GROUP_CODES, rfl, rfl, line_le (show 16 ≤ 16777216 by decide), (.cons ⟨_, rfl⟩ (.cons ⟨_, rfl⟩ (.cons ⟨_, rfl⟩ (.cons ⟨_, rfl⟩ (.cons ⟨_, rfl⟩ (.cons ⟨_, rfl⟩ (.cons ⟨_, rfl⟩ (.cons ⟨_, rfl⟩ (.cons ⟨_, rfl⟩ (.cons ⟨_, rfl⟩ (.cons ⟨_, rfl⟩ (.cons ⟨_, rfl⟩ (.cons ⟨_, rfl⟩ (.cons ⟨_, rfl⟩ (.cons ⟨_, rfl⟩ (.cons ⟨_, rfl⟩ .nil))))))))))))))))⟩, i_InvalidSector := ⟨hg_InvalidSector, hk_InvalidSector, b_InvalidSector, hd_InvalidSector, ha_InvalidSector, hn_, ht_, hm_InvalidSector⟩, kit_InvalidSector_InvalidDisc := kit_InvalidSector_InvalidDisc }
  exact ⟨_, fun s v => .of_eq rfl, fun base _ _ => ok_law T⟩
end K92
open PySem PySem.W PyProof.Rows
set_option maxRecDepth 100000 in
set_option maxHeartbeats 0 in
theorem PySem.Challenge.cw_discwright_k92_group_coded_tracks_holds : PySem.Challenge.rw_discwright_k92_group_coded_tracks.Holds := by
  w_on; o_law; k_head; (case hw => w_witness2)
  k_fill
  refine L2.walk_of (l := PySem.Challenge.rw_discwright_k92_group_coded_tracks) (n := 63) (k := 9) (x := "script") (CX := fun _ => L2.CX0) (sp := fun w => K92.spLaw _) rfl (by decide) rfl ⟨rfl, by decide, by decide⟩ (fun w h Y => PySem.W.kIn_of Y) ?F (fun _ _ a ns hl _ hS => ⟨a, ns, rfl, hS, hl, fun _ => rfl⟩) (fun _ _ _ _ _ h => h)
  case F =>
    intro w mg fa h KX G hmg
    haveI : Dw.SupP (PySem.Challenge.rw_discwright_k92_group_coded_tracks).prog := ⟨by first | rfl | decide +kernel, by rfl⟩
    refine' K92.all_mk KX G hmg ?cn_SYNC_CELLS ?rl_SYNC_CELLS ?cn_GAP_BYTES ?rl_GAP_BYTES ?cn_ADDRESS_BYTE ?rl_ADDRESS_BYTE ?cn_DATA_BYTE ?rl_DATA_BYTE ?an_GROUP_CODES ?lk_GROUP_CODES ?a1 ?l1 ?c1 ?k1 ?a2 ?l2 ?c2 ?k2 ?a3 ?l3 ?c3 ?k3 ?a4 ?l4 ?c4 ?k4 ?a5 ?l5 ?c5 ?k5 ?a6 ?l6 ?c6 ?k6 ?a7 ?l7 ?c7 ?k7 ?a8 ?l8 ?c8 ?k8 ?a9 ?l9 ?c9 ?k9 ?a10 ?l10 ?c10 ?k10 ?a11 ?l11 ?c11 ?k11 ?a12 ?l12 ?c12 ?k12 ?a13 ?l13 ?c13 ?k13 ?a14 ?l14 ?c14 ?k14 ?a15 ?l15 ?c15 ?k15 ?a16 ?l16 ?c16 ?k16 ?a17 ?l17 ?c17 ?k17 ?a18 ?l18 ?c18 ?k18 ?a19 ?l19 ?c19 ?k19 ?a20 ?l20 ?c20 ?k20 ?a21 ?l21 ?c21 ?k21 ?a22 ?l22 ?c22 ?k22 ?a23 ?l23 ?c23 ?k23 ?a24 ?l24 ?c24 ?k24 ?z_all ?z_bool ?z_enumerate ?z_int ?z_isinstance ?z_len ?z_list ?z_range ?z_str ?z_tuple ?a_InvalidDisc ?x_InvalidDisc ?k_InvalidDisc ?b_InvalidDisc ?t_InvalidDisc ?i_InvalidDisc ?s_InvalidDisc ?a_InvalidSector ?ox_InvalidSector ?k_InvalidSector ?b_InvalidSector ?t_InvalidSector ?i_InvalidSector ?s_InvalidSector ?sa_InvalidSector ?mr_InvalidSector ?su_InvalidSector ?sv_InvalidSector ?ai_InvalidSector ?ti_InvalidSector ?sl_InvalidSector ?cd_InvalidSector ?lc_InvalidSector ?vc2_InvalidSector ?le_InvalidSector ?di_InvalidSector ?st_InvalidSector ?gs_InvalidSector ?hg_InvalidSector ?hk_InvalidSector ?hd_InvalidSector ?fl_InvalidSector ?ha_InvalidSector ?hm_InvalidSector ?hn_ ?ht_ ?kit_InvalidSector_InvalidDisc
    (case cn_SYNC_CELLS => k_is)
    (case rl_SYNC_CELLS => first | exact ⟨_, rfl⟩ | rfl)
    (case cn_GAP_BYTES => k_is)
    (case rl_GAP_BYTES => first | exact ⟨_, rfl⟩ | rfl)
    (case cn_ADDRESS_BYTE => k_is)
    (case rl_ADDRESS_BYTE => first | exact ⟨_, rfl⟩ | rfl)
    (case cn_DATA_BYTE => k_is)
    (case rl_DATA_BYTE => first | exact ⟨_, rfl⟩ | rfl)
    (case an_GROUP_CODES => k_is)
    (case lk_GROUP_CODES => k_is)
    (case a1 => k_is)
    (case l1 => k_is)
    (case c1 => k_is)
    (case k1 => k_is)
    (case a2 => k_is)
    (case l2 => k_is)
    (case c2 => k_is)
    (case k2 => k_is)
    (case a3 => k_is)
    (case l3 => k_is)
    (case c3 => k_is)
    (case k3 => k_is)
    (case a4 => k_is)
    (case l4 => k_is)
    (case c4 => k_is)
    (case k4 => k_is)
    (case a5 => k_is)
    (case l5 => k_is)
    (case c5 => k_is)
    (case k5 => k_is)
    (case a6 => k_is)
    (case l6 => k_is)
    (case c6 => k_is)
    (case k6 => k_is)
    (case a7 => k_is)
    (case l7 => k_is)
    (case c7 => k_is)
    (case k7 => k_is)
    (case a8 => k_is)
    (case l8 => k_is)
    (case c8 => k_is)
    (case k8 => k_is)
    (case a9 => k_is)
    (case l9 => k_is)
    (case c9 => k_is)
    (case k9 => k_is)
    (case a10 => k_is)
    (case l10 => k_is)
    (case c10 => k_is)
    (case k10 => k_is)
    (case a11 => k_is)
    (case l11 => k_is)
    (case c11 => k_is)
    (case k11 => k_is)
    (case a12 => k_is)
    (case l12 => k_is)
    (case c12 => k_is)
    (case k12 => k_is)
    (case a13 => k_is)
    (case l13 => k_is)
    (case c13 => k_is)
    (case k13 => k_is)
    (case a14 => k_is)
    (case l14 => k_is)
    (case c14 => k_is)
    (case k14 => k_is)
    (case a15 => k_is)
    (case l15 => k_is)
    (case c15 => k_is)
    (case k15 => k_is)
    (case a16 => k_is)
    (case l16 => k_is)
    (case c16 => k_is)
    (case k16 => k_is)
    (case a17 => k_is)
    (case l17 => k_is)
    (case c17 => k_is)
    (case k17 => k_is)
    (case a18 => k_is)
    (case l18 => k_is)
    (case c18 => k_is)
    (case k18 => k_is)
    (case a19 => k_is)
    (case l19 => k_is)
    (case c19 => k_is)
    (case k19 => k_is)
    (case a20 => k_is)
    (case l20 => k_is)
    (case c20 => k_is)
    (case k20 => k_is)
    (case a21 => k_is)
    (case l21 => k_is)
    (case c21 => k_is)
    (case k21 => k_is)
    (case a22 => k_is)
    (case l22 => k_is)
    (case c22 => k_is)
    (case k22 => k_is)
    (case a23 => k_is)
    (case l23 => k_is)
    (case c23 => k_is)
    (case k23 => k_is)
    (case a24 => k_is)
    (case l24 => k_is)
    (case c24 => k_is)
    (case k24 => k_is)
    (case z_all => k_is)
    (case z_bool => k_is)
    (case z_enumerate => k_is)
    (case z_int => k_is)
    (case z_isinstance => k_is)
    (case z_len => k_is)
    (case z_list => k_is)
    (case z_range => k_is)
    (case z_str => k_is)
    (case z_tuple => k_is)
    (case a_InvalidDisc => k_is)
    (case x_InvalidDisc => k_exc)
    (case k_InvalidDisc => k_is)
    (case b_InvalidDisc => k_is)
    (case t_InvalidDisc => k_is)
    (case i_InvalidDisc => k_is)
    (case s_InvalidDisc => first | rfl | k_is)
    (case a_InvalidSector => k_is)
    (case ox_InvalidSector => first | rfl | kernel_rfl | decide +kernel)
    (case k_InvalidSector => k_is)
    (case b_InvalidSector => k_is)
    (case t_InvalidSector => k_is)
    (case i_InvalidSector => k_is)
    (case s_InvalidSector => first | rfl | k_is)
    (case sa_InvalidSector => k_is)
    (case mr_InvalidSector => k_is)
    (case su_InvalidSector => first | ks_is | rfl | kernel_rfl | k_is)
    (case sv_InvalidSector => k_is)
    (case ai_InvalidSector => k_is)
    (case ti_InvalidSector => k_is)
    (case sl_InvalidSector => k_is)
    (case cd_InvalidSector => k_is)
    (case lc_InvalidSector => k_is)
    (case vc2_InvalidSector => first | rfl | kernel_rfl | decide +kernel)
    (case le_InvalidSector => k_is)
    (case di_InvalidSector => k_is)
    (case st_InvalidSector => k_is)
    (case gs_InvalidSector => k_is)
    (case hg_InvalidSector => k_is)
    (case hk_InvalidSector => k_is)
    (case hd_InvalidSector => k_is)
    (case fl_InvalidSector => k_is)
    (case ha_InvalidSector => k_is)
    (case hm_InvalidSector => k_is)
    (case hn_ => k_is)
    (case ht_ => k_is)
    (case kit_InvalidSector_InvalidDisc => first | rfl | k_is)

