import PyProof.Rows.All
import Wide.All
import OpenK.AllK
import Wide.FinOn
import HandS.ForMost
import HandS.IsInst
import HandS.Flow
import HandS.WideBits
import HandS.Defaults
import HandS.Exc
import HandS.ExcOwn
import HandS.TryOnly
import HandS.TryMany
import HandS.WordsExc
import HandS.ExcIs
import HandS.Walk
import HandS.Small
import HandS.Wide
import HandS.Style
import HandS.Strs
import HandS.SetFor
import HandS.Dict
import HandS.Codes
import HandS.OwnEq
import HandS.MakeKwOnly
import HandS.TupAny
import HandS.Zip
import KE.GoesMore
import KE.KDictZip
import HandS.Deep
import HandS.SuiteRaise
import PyProof.StrLawsFirst
import HandS.Text
import HandS.StrMore
import HandS.More
import HandS.WordsDict
import HandS.Conv
import PySem.Challenge.RW_discwright_k71_whole_votes_give_the_true
set_option Elab.async false
set_option linter.all false
set_option maxRecDepth 100000
set_option maxHeartbeats 4000000
namespace Dw
open PySem PySem.Spec PyProof.Rows L2
/-! ### sizes -/
theorem line_le {n : Nat} (h : n ≤ 16777216) : n ≤ sizeLine := by rw [sizeLine_eq]; exact h
theorem line_lt {n : Nat} (h : n < 16777216) : n < sizeLine := by rw [sizeLine_eq]; exact h
/-! ### heaps -/
theorem same_new {H : Hp} {p : Addr} (h : H p = none) (o : HO) : Same H (upd H p o) := fun b u q => by rw [upd_ne (ne_of_none q h)]; exact q
/-- all but P stands as it was -/
def SameB (P : Addr) (H H' : Hp) : Prop := ∀ b o, b ≠ P → H b = some o → H' b = some o
theorem SameB.refl (P : Addr) (H : Hp) : SameB P H H := fun _ _ _ h => h
theorem SameB.trans {P : Addr} {H H1 H2 : Hp} (a : SameB P H H1) (b : SameB P H1 H2) : SameB P H H2 := fun x o n h => b x o n (a x o n h)
theorem Same.b {P : Addr} {H H' : Hp} (a : Same H H') : SameB P H H' := fun x o _ h => a x o h
theorem sameB_upd {P : Addr} {H : Hp} (o : HO) : SameB P H (upd H P o) := fun b u n q => by rw [upd_ne n]; exact q
/-- a ghost heap without P stands in what was changed at P alone -/
theorem Same.but {P : Addr} {G H H' : Hp} (g : Same G H) (n : G P = none) (s : SameB P H H') : Same G H' := fun b o q => s b o (ne_of_none q n) (g b o q)
theorem same_upd {G H : Hp} {p : Addr} {o : HO} (g : Same G H) : Same (upd G p o) (upd H p o) := fun b u q => by
  by_cases e : b = p
  · subst e
    rw [upd_same] at q ⊢
    exact q
  · rw [upd_ne e] at q ⊢
    exact g b u q
theorem same_none {G H : Hp} {p : Addr} (g : Same G H) (h : H p = none) : G p = none := by
  cases e : G p with
  | none => rfl
  | some o => rw [g p o e] at h; cases h
theorem upd_none {G : Hp} {p P : Addr} {o : HO} (n : G P = none) (ne : P ≠ p) : upd G p o P = none := by rw [upd_ne ne]; exact n
/-! ### the script -/
/-- the pool at p: the script's numbers at q, and four numbers -/
def PoolL (q : Addr) (a b c d : Int) : HO := .lst [.ref q, .int a, .int b, .int c, .int d]
def Pool (H : Hp) (p q : Addr) : Prop := ∃ (ns : List Int) (a b c d : Int), H p = some (PoolL q a b c d) ∧ H q = some (.lst (ns.map V.int)) ∧ 0 ≤ a ∧ ns.length ≤ 63
theorem Pool.same {H H' : Hp} {p q : Addr} (h : Pool H p q) (s : Same H H') : Pool H' p q := by
  obtain ⟨ns, a, b, c, d, h1, h2, h3⟩ := h
  exact ⟨ns, a, b, c, d, s _ _ h1, s _ _ h2, h3⟩
theorem Pool.there {H : Hp} {p q : Addr} (h : Pool H p q) : ∃ o, H p = some o := by
  obtain ⟨ns, a, b, c, d, h1, _⟩ := h
  exact ⟨_, h1⟩
theorem Pool.ne {H : Hp} {p q r : Addr} (h : Pool H p q) (n : H r = none) : p ≠ r := by
  obtain ⟨o, e⟩ := h.there
  exact ne_of_none e n
theorem Pool.ne2 {H : Hp} {p q r : Addr} (h : Pool H p q) (n : H r = none) : q ≠ r := by
  obtain ⟨ns, a, b, c, d, h1, h2, _⟩ := h
  exact ne_of_none h2 n
theorem pool_ne {H : Hp} {p q : Addr} {a b c d : Int} {ns : List Int} (h1 : H p = some (PoolL q a b c d)) (h2 : H q = some (.lst (ns.map V.int))) : q ≠ p := by
  refine ne_of h2 h1 fun e => ?_
  unfold PoolL at e
  injection e with e
  cases ns with
  | nil => cases e
  | cons x r => rw [List.map_cons] at e; injection e with e _; cases e
/-- a pool's numbers written anew -/
theorem Pool.put {H : Hp} {p q : Addr} {a b c d a' b' c' d' : Int} {ns : List Int} (h1 : H p = some (PoolL q a b c d)) (h2 : H q = some (.lst (ns.map V.int))) (h3 : 0 ≤ a') (h4 : ns.length ≤ 63) : Pool (upd H p (PoolL q a' b' c' d')) p q :=
  ⟨ns, a', b', c', d', upd_same, by rw [upd_ne (pool_ne h1 h2)]; exact h2, h3, h4⟩
/-! ### what the shared defs promise -/
def spPool (K : PySem.W.Frag) : Sp := fun vs H Q _ => ∃ (a : Addr) (ns : List Int), vs = [.ref a] ∧ SqL K H a (ns.map V.int) ∧ ns.length ≤ 63 ∧ ∀ p q H', Same H H' → H p = none → H q = none → Pool H' p q → Q (.ref p) H'
def spSpread : Sp := fun vs H Q _ => ∃ n : Int, vs = [.int n] ∧ ∀ m : Int, Q (.int m) H
def spDraw : Sp := fun vs H Q _ => ∃ (p q : Addr) (m : Int), vs = [.ref p, .int m] ∧ Pool H p q ∧ 0 < m ∧ m < 1073741824 ∧ ∀ r H', 0 ≤ r → r < m → Pool H' p q → SameB p H H' → Q (.int r) H'
/-- a def of whole numbers -/
def spI1 (C : Int → Prop) (g : Int → Int) : Sp := fun vs H Q _ => ∃ n : Int, vs = [.int n] ∧ C n ∧ Q (.int (g n)) H
def spI2 (C : Int → Int → Prop) (g : Int → Int → Int) : Sp := fun vs H Q _ => ∃ n m : Int, vs = [.int n, .int m] ∧ C n m ∧ Q (.int (g n m)) H

/-! ### rules by a stronger reading -/
section
variable {X : Cx}
theorem OpR.imp {f : Value → Value → Sem Value} {r r' : R2} (h : OpR X f r) (i : ∀ x y H Q, r' x y H Q → r x y H Q) : OpR X f r' := fun pins s σ H x y v u Q I rx ry q => h pins s σ H x y v u Q I rx ry (i _ _ _ _ q)
theorem CallR.imp {f : Value} {r r' : List V → Hp → VK → Prop} (h : CallR X f r) (i : ∀ xs H Q, r' xs H Q → r xs H Q) : CallR X f r' := fun pins s σ H xs us Q I r q => h pins s σ H xs us Q I r (i _ _ _ q)
theorem IxR.imp {r r' : R2} (h : IxR X r) (i : ∀ x y H Q, r' x y H Q → r x y H Q) : IxR X r' := fun a b pins s σ H x y v u Q I rx ry q => h a b pins s σ H x y v u Q I rx ry (i _ _ _ _ q)
theorem MtR.imp {id : String} {r r' : V → List V → Hp → VK → Prop} (h : MtR X id r) (i : ∀ x xs H Q, r' x xs H Q → r x xs H Q) : MtR X id r' := fun pins s σ H x xs v us Q I rx ry q => h pins s σ H x xs v us Q I rx ry (i _ _ _ _ q)
theorem SlR.imp {r r' : V → Option Int → Option Int → Hp → VK → Prop} (h : SlR X r) (i : ∀ x lo hi H Q, r' x lo hi H Q → r x lo hi H Q) : SlR X r' := fun pins s σ H x v vl vu lo hi sl Q I rx hs pl pu q => h pins s σ H x v vl vu lo hi sl Q I rx hs pl pu (i _ _ _ _ _ q)
theorem PE.imp {e : Expr} {t t' : TE} (h : PE X e t) (i : ∀ σ H Q, t' σ H Q → t σ H Q) : PE X e t' := ⟨fun pins s σ H Q I q => h.run pins s σ H Q I (i _ _ _ q)⟩
theorem PT.imp {e : Expr} {t t' : TT} (h : PT X e t) (i : ∀ σ H Q, t' σ H Q → t σ H Q) : PT X e t' := ⟨fun pins s σ H Q I q => h.run pins s σ H Q I (i _ _ _ q)⟩
theorem PS.imp {e : Stmt} {t t' : TS} (h : PS X e t) (i : ∀ D σ H, t' D σ H → t D σ H) : PS X e t' := ⟨fun pins s σ H D I q => h.run pins s σ H D I (i _ _ _ q)⟩
theorem PSet.imp {r r' : TSet} (h : PSet X r) (i : ∀ o k v H Q, r' o k v H Q → r o k v H Q) : PSet X r' := fun pins s σ H o k v ov iv u Q I ro ri rv q => h pins s σ H o k v ov iv u Q I ro ri rv (i _ _ _ _ _ q)
/-! ### lists of ints -/
def IL (ns : List Int) : HO := .lst (ns.map V.int)
theorem IL_inj {a b : List Int} : (IL a = IL b) = (a = b) := by
  apply propext
  constructor
  · intro h
    unfold IL at h
    injection h with h
    exact List.map_inj_right (fun x y e => V.int.inj e) |>.mp h
  · intro h
    rw [h]
def toInts : List V → Option (List Int)
  | [] => some []
  | .int i :: r => (toInts r).map (i :: ·)
  | _ => none
theorem toInts_eq : ∀ {xs : List V} {ns : List Int}, toInts xs = some ns → xs = ns.map V.int
  | [], ns, h => by
    unfold toInts at h
    cases h
    rfl
  | .int i :: r, ns, h => by
    unfold toInts at h
    cases e : toInts r with
    | none => rw [e] at h; cases h
    | some ms =>
      rw [e] at h
      cases h
      rw [List.map_cons, toInts_eq e]
  | .non :: _, _, h => by unfold toInts at h; cases h
  | .bl _ :: _, _, h => by unfold toInts at h; cases h
  | .str _ :: _, _, h => by unfold toInts at h; cases h
  | .byt _ :: _, _, h => by unfold toInts at h; cases h
  | .flt _ :: _, _, h => by unfold toInts at h; cases h
  | .ref _ :: _, _, h => by unfold toInts at h; cases h
  | .ty _ :: _, _, h => by unfold toInts at h; cases h
theorem toInts_cons {i : Int} {r : List V} : toInts (.int i :: r) = (toInts r).map (i :: ·) := rfl
theorem toInts_nil : toInts [] = some [] := rfl
def isL : Option HO → Bool
  | some (.lst _) => true
  | _ => false
theorem isL_IL {ns : List Int} : isL (some (IL ns)) = true := rfl
theorem isL_lst {xs : List V} : isL (some (.lst xs)) = true := rfl
theorem isL_of {o : Option HO} (h : isL o = true) : ∃ xs, o = some (.lst xs) := by
  cases o with
  | none => cases h
  | some u =>
    cases u with
    | lst xs => exact ⟨xs, rfl⟩
    | _ => cases h
def rCatI : R2 := fun x y H Q => ∃ l b xs zs, x = .ref l ∧ y = .ref b ∧ H l = some (IL xs) ∧ H b = some (IL zs) ∧ xs.length + zs.length ≤ sizeLine ∧ ∀ p, H p = none → Q (.ref p) (upd H p (IL (xs ++ zs)))
theorem op_catI : OpR X (binaryOp .Add) rCatI := OpR.imp op_cat fun x y H Q h => by
  obtain ⟨l, b, xs, zs, e1, e2, h1, h2, h3, q⟩ := h
  exact ⟨l, b, _, _, e1, e2, h1, h2, by rw [List.length_map, List.length_map]; exact h3, fun p hp => by rw [← List.map_append]; exact q p hp⟩
def rep (k : Int) (xs : List Int) : List Int := (List.replicate k.toNat xs).flatten
theorem rep_one (k : Int) (x : Int) : rep k [x] = List.replicate k.toNat x := by
  unfold rep
  generalize k.toNat = n
  induction n with
  | zero => rfl
  | succ n ih => rw [List.replicate_succ, List.flatten_cons, ih, List.replicate_succ]; rfl
def rRepI : R2 := fun x y H Q => ∃ l k xs, x = .ref l ∧ y = .int k ∧ H l = some (IL xs) ∧ (-(2 ^ 63) ≤ k ∧ k < 2 ^ 63 ∧ xs.length * k.toNat ≤ sizeLine) ∧ ∀ p, H p = none → Q (.ref p) (upd H p (IL (rep k xs)))
theorem map_rep (k : Nat) (xs : List Int) : (List.replicate k (xs.map V.int)).flatten = (List.replicate k xs).flatten.map V.int := by
  induction k with
  | zero => rfl
  | succ n ih => rw [List.replicate_succ, List.flatten_cons, ih, List.replicate_succ, List.flatten_cons, List.map_append]
theorem op_repI : OpR X (binaryOp .Mult) rRepI := OpR.imp op_rep fun x y H Q h => by
  obtain ⟨l, k, xs, e1, e2, h1, ⟨h2, h3, h4⟩, q⟩ := h
  exact ⟨l, k, _, e1, e2, h1, h2, h3, by rw [List.length_map]; exact h4, fun p hp => by rw [map_rep]; exact q p hp⟩
def rIxI : R2 := fun x y H Q => ∃ p ns i, x = .ref p ∧ y = .int i ∧ H p = some (IL ns) ∧ (0 ≤ i ∧ i < (ns.length : Int)) ∧ Q (.int (ns.getD i.toNat 0)) H
theorem atI_int {ns : List Int} {i : Int} (h0 : 0 ≤ i) (h1 : i < (ns.length : Int)) : atI (ns.map V.int) i = some (.int (ns.getD i.toNat 0)) := by
  have hk : i.toNat < ns.length := by omega
  have e : i = ((i.toNat : Nat) : Int) := by omega
  have q : atI (ns.map V.int) ((i.toNat : Nat) : Int) = some (.int (ns.getD i.toNat 0)) := atI_nat (by
    rw [List.getElem?_map, List.getElem?_eq_getElem hk, List.getD_eq_getElem?_getD, List.getElem?_eq_getElem hk]
    rfl)
  rw [← e] at q
  exact q
theorem ix_listI : IxR X rIxI := IxR.imp ix_list fun x y H Q h => by
  obtain ⟨p, ns, i, e1, e2, h1, ⟨h2, h3⟩, q⟩ := h
  exact ⟨p, _, i, _, e1, e2, .of h1, atI_int h2 h3, q⟩
def rIxH : R2 := fun x y H Q => ∃ p xs i v, x = .ref p ∧ y = .int i ∧ H p = some (.lst xs) ∧ atI xs i = some v ∧ Q v H
theorem ix_listH : IxR X rIxH := IxR.imp ix_list fun x y H Q h => by
  obtain ⟨p, xs, i, v, e1, e2, h1, h2, q⟩ := h
  exact ⟨p, _, i, _, e1, e2, .of h1, h2, q⟩
def rIxTH : R2 := fun x y H Q => ∃ p xs i v, x = .ref p ∧ y = .int i ∧ H p = some (.tup xs) ∧ atI xs i = some v ∧ Q v H
theorem ix_tupH : IxR X rIxTH := IxR.imp ix_tup fun x y H Q h => by
  obtain ⟨p, xs, i, v, e1, e2, h1, h2, q⟩ := h
  exact ⟨p, _, i, _, e1, e2, .of h1, h2, q⟩
def cutI (xs : List Int) (lo hi : Option Int) : List Int := (xs.drop (HT.sIx xs.length 0 lo)).take (HT.sIx xs.length xs.length hi - HT.sIx xs.length 0 lo)
theorem cutV_int (ns : List Int) (lo hi : Option Int) : cutV (ns.map V.int) lo hi = (cutI ns lo hi).map V.int := by
  unfold cutV cutI
  rw [List.length_map, List.map_take, List.map_drop]
def rSlI : V → Option Int → Option Int → Hp → VK → Prop := fun x lo hi H Q => ∃ a ns, x = .ref a ∧ H a = some (IL ns) ∧ ∀ p, H p = none → Q (.ref p) (upd H p (IL (cutI ns lo hi)))
theorem sl_listI : SlR X rSlI := SlR.imp sl_list fun x lo hi H Q h => by
  obtain ⟨a, ns, e1, h1, q⟩ := h
  exact ⟨a, _, e1, .of h1, fun p hp => by rw [cutV_int]; exact q p hp⟩
def rSlS (K : PySem.W.Frag) : V → Option Int → Option Int → Hp → VK → Prop := fun x lo hi H Q => ∃ a ns, x = .ref a ∧ SqL K H a (ns.map V.int) ∧ ∀ p, H p = none → Q (.ref p) (upd H p (IL (cutI ns lo hi)))
theorem sl_listS : SlR X (rSlS X.K) := SlR.imp sl_list fun x lo hi H Q h => by
  obtain ⟨a, ns, e1, h1, q⟩ := h
  exact ⟨a, _, e1, h1, fun p hp => by rw [cutV_int]; exact q p hp⟩
def rLenI : List V → Hp → VK → Prop := fun xs H Q => ∃ p ns, xs = [.ref p] ∧ H p = some (IL ns) ∧ Q (.int (ns.length : Int)) H
theorem call_lenI : CallR X (.builtin "len") rLenI := CallR.imp call_len_seq fun xs H Q h => by
  obtain ⟨p, ns, e, h1, q⟩ := h
  exact ⟨p, _, e, .inl (.of h1), by rw [List.length_map]; exact q⟩
def rLenH : List V → Hp → VK → Prop := fun xs H Q => ∃ p ys, xs = [.ref p] ∧ H p = some (.lst ys) ∧ Q (.int (ys.length : Int)) H
theorem call_lenH : CallR X (.builtin "len") rLenH := CallR.imp call_len_seq fun xs H Q h => by
  obtain ⟨p, ns, e, h1, q⟩ := h
  exact ⟨p, _, e, .inl (.of h1), q⟩
def rLenTH : List V → Hp → VK → Prop := fun xs H Q => ∃ p ys, xs = [.ref p] ∧ H p = some (.tup ys) ∧ Q (.int (ys.length : Int)) H
theorem call_lenTH : CallR X (.builtin "len") rLenTH := CallR.imp call_len_seq fun xs H Q h => by
  obtain ⟨p, ns, e, h1, q⟩ := h
  exact ⟨p, _, e, .inr (.of h1), q⟩
def rListI : List V → Hp → VK → Prop := fun xs H Q => ∃ p ns, xs = [.ref p] ∧ H p = some (IL ns) ∧ ∀ l, H l = none → Q (.ref l) (upd H l (IL ns))
theorem call_listI : CallR X (.type "list") rListI := CallR.imp call_list_of fun xs H Q h => by
  obtain ⟨p, ns, e, h1, q⟩ := h
  exact ⟨p, _, e, .inl (.of h1), q⟩
def rListS (K : PySem.W.Frag) : List V → Hp → VK → Prop := fun xs H Q => ∃ p ns, xs = [.ref p] ∧ SqL K H p (ns.map V.int) ∧ ∀ l, H l = none → Q (.ref l) (upd H l (IL ns))
theorem call_listS : CallR X (.type "list") (rListS X.K) := CallR.imp call_list_of fun xs H Q h => by
  obtain ⟨p, ns, e, h1, q⟩ := h
  exact ⟨p, _, e, .inl h1, q⟩
def rIntI : List V → Hp → VK → Prop := fun xs H Q => ∃ i, xs = [.int i] ∧ Q (.int i) H
theorem call_intI : CallR X (.type "int") rIntI := CallR.imp call_int1 fun xs H Q h => .inl h
def rIntB : List V → Hp → VK → Prop := fun xs H Q => ∃ k, xs = [.bl k] ∧ Q (.int (if k = true then 1 else 0)) H
theorem call_intB : CallR X (.type "int") rIntB := CallR.imp call_int1 fun xs H Q h => .inr h
def rSumI : List V → Hp → VK → Prop := fun xs H Q => ∃ p ns, xs = [.ref p] ∧ H p = some (IL ns) ∧ Q (.int ns.sum) H
theorem cr_sumI (hc : X.calm = true) : CallR X (.builtin "sum") rSumI := CallR.imp (cr_sum hc) fun xs H Q h => by
  obtain ⟨p, ns, e, h1, q⟩ := h
  exact ⟨p, _, e, .of h1, q⟩
def rAppendI : V → List V → Hp → VK → Prop := fun x vs H Q => ∃ l xs y, x = .ref l ∧ vs = [.int y] ∧ H l = some (IL xs) ∧ xs.length < sizeLine ∧ Q .non (upd H l (IL (xs ++ [y])))
theorem mt_appendI : MtR X "list.append" rAppendI := MtR.imp mt_append fun x vs H Q h => by
  obtain ⟨l, xs, y, e1, e2, h1, h2, q⟩ := h
  refine ⟨l, _, _, e1, e2, h1, by rw [List.length_map]; exact h2, ?_⟩
  have e : xs.map V.int ++ [V.int y] = (xs ++ [y]).map V.int := by rw [List.map_append]; rfl
  rw [e]
  exact q
def rExtendI : V → List V → Hp → VK → Prop := fun x vs H Q => ∃ l b xs zs, x = .ref l ∧ vs = [.ref b] ∧ H l = some (IL xs) ∧ H b = some (IL zs) ∧ xs.length + zs.length ≤ sizeLine ∧ Q .non (upd H l (IL (xs ++ zs)))
theorem mt_extendI : MtR X "list.extend" rExtendI := MtR.imp mt_extend fun x vs H Q h => by
  obtain ⟨l, b, xs, zs, e1, e2, h1, h2, h3, q⟩ := h
  exact ⟨l, b, _, _, e1, e2, h1, h2, by rw [List.length_map, List.length_map]; exact h3, by rw [← List.map_append]; exact q⟩
def rSetI : TSet := fun o i v H Q => ∃ p ns k y, o = .ref p ∧ i = .int k ∧ v = .int y ∧ H p = some (IL ns) ∧ (0 ≤ k ∧ k < (ns.length : Int)) ∧ Q (upd H p (IL (ns.set k.toNat y)))
theorem ixN_nn {n : Nat} {k : Int} (h0 : 0 ≤ k) (h1 : k < (n : Int)) : ixN n k = some k.toNat := by
  unfold ixN
  rw [if_pos h0, if_pos h1]
theorem set_listI : PSet X rSetI := PSet.imp set_list fun o i v H Q h => by
  obtain ⟨p, ns, k, y, e1, e2, e3, h1, ⟨h2, h3⟩, q⟩ := h
  refine ⟨p, _, k, k.toNat, e1, e2, h1, ixN_nn h2 (by rw [List.length_map]; exact h3), ?_⟩
  rw [e3, ← List.map_set]
  exact q
/-- xs[k] = v of any list at a written place -/
def rSetH : TSet := fun o i v H Q => ∃ p xs k, o = .ref p ∧ i = .int k ∧ H p = some (.lst xs) ∧ (0 ≤ k ∧ k < (xs.length : Int)) ∧ Q (upd H p (.lst (xs.set k.toNat v)))
theorem set_listH : PSet X rSetH := PSet.imp set_list fun o i v H Q h => by
  obtain ⟨p, xs, k, e1, e2, h1, ⟨h2, h3⟩, q⟩ := h
  exact ⟨p, _, k, k.toNat, e1, e2, h1, ixN_nn h2 h3, q⟩
/-! ### == of lists of ints -/
theorem dp_ints {K : PySem.W.Frag} {H : Hp} : ∀ ns : List Int, DpAll K H (ns.map V.int) (ns.map PyData.int)
  | [] => .nil
  | n :: r => .cons (.int n) (dp_ints r)
theorem dp_IL {K : PySem.W.Frag} {H : Hp} {p : Addr} {ns : List Int} (h : H p = some (IL ns)) : Dp K H (.ref p) (.list (ns.map PyData.int)) := .lst (.of h) (dp_ints ns)
theorem eqvAll_ints : ∀ ns ms : List Int, PyData.eqvAll (ns.map PyData.int) (ms.map PyData.int) = decide (ns = ms)
  | [], [] => by
    show PyData.eqvAll [] [] = _
    rw [PyData.eqvAll]
    rfl
  | [], _ :: _ => by
    show PyData.eqvAll [] (_ :: _) = _
    rw [PyData.eqvAll, decide_eq_false (fun e => by cases e)]
  | _ :: _, [] => by
    show PyData.eqvAll (_ :: _) [] = _
    rw [PyData.eqvAll, decide_eq_false (fun e => by cases e)]
  | n :: ns, m :: ms => by
    show PyData.eqvAll (.int n :: ns.map PyData.int) (.int m :: ms.map PyData.int) = _
    rw [PyData.eqvAll, eqvAll_ints ns ms, PyData.eqv]
    by_cases h : n = m
    · subst h
      by_cases h2 : ns = ms
      · subst h2; simp
      · rw [decide_eq_false h2, decide_eq_false (fun e => h2 (List.cons.inj e).2)]; simp
    · rw [decide_eq_false (fun e => h (List.cons.inj e).1)]
      have : (n == m) = false := by simp [h]
      rw [this]; rfl
theorem canLay_ints : ∀ ns : List Int, PyData.canLayAll0 (ns.map PyData.int) = true
  | [] => rfl
  | n :: ns => by
    show PyData.canLayAll0 (.int n :: ns.map PyData.int) = true
    rw [PyData.canLayAll0, canLay_ints ns]; rfl
theorem depthAll_ints : ∀ ns : List Int, PyData.depthAll (ns.map PyData.int) ≤ 1
  | [] => by decide
  | n :: ns => by
    show PyData.depthAll (.int n :: ns.map PyData.int) ≤ 1
    have := depthAll_ints ns
    simp only [PyData.depthAll, PyData.depth]
    omega
theorem shaped_ints (ns : List Int) : SeqAt.shaped (.list (ns.map PyData.int)) = true := by
  have h1 := canLay_ints ns
  have h2 := depthAll_ints ns
  unfold SeqAt.shaped
  rw [Bool.and_eq_true]
  refine ⟨by rw [PyData.canLay0]; exact h1, decide_eq_true ?_⟩
  simp only [PyData.depth]
  omega
def rEqI : R2 := fun x y H Q => ∃ p q ns ms, x = .ref p ∧ y = .ref q ∧ H p = some (IL ns) ∧ H q = some (IL ms) ∧ Q (.bl (decide (ns = ms))) H
theorem op_eqI (hu : X.A.units + 64 < cLine) : OpR X (compareOp .Eq) rEqI := OpR.imp (op_eqD hu) fun x y H Q h => by
  obtain ⟨p, q, ns, ms, rfl, rfl, h1, h2, k⟩ := h
  refine ⟨_, _, dp_IL h1, dp_IL h2, shaped_ints ns, shaped_ints ms, ?_⟩
  rw [PyData.eqv, eqvAll_ints]
  exact k
def rNeI : R2 := fun x y H Q => ∃ p q ns ms, x = .ref p ∧ y = .ref q ∧ H p = some (IL ns) ∧ H q = some (IL ms) ∧ Q (.bl (!decide (ns = ms))) H
theorem op_neI (hu : X.A.units + 64 < cLine) : OpR X (compareOp .NotEq) rNeI := OpR.imp (op_neD hu) fun x y H Q h => by
  obtain ⟨p, q, ns, ms, rfl, rfl, h1, h2, k⟩ := h
  refine ⟨_, _, dp_IL h1, dp_IL h2, shaped_ints ns, shaped_ints ms, ?_⟩
  rw [PyData.eqv, eqvAll_ints]
  exact k
/-! ### displays of ints, methods of lists -/
def rMax2 : List V → Hp → VK → Prop := fun xs H Q => ∃ i j, xs = [.int i, .int j] ∧ Q (.int (max i j)) H
def rMin2 : List V → Hp → VK → Prop := fun xs H Q => ∃ i j, xs = [.int i, .int j] ∧ Q (.int (min i j)) H
theorem max_if (i j : Int) : (if j > i then j else i) = max i j := by
  split <;> omega
theorem min_if (i j : Int) : (if j < i then j else i) = min i j := by
  split <;> omega
theorem call_maxI (hc : X.calm = true) : CallR X (.builtin "max") rMax2 := CallR.imp (call_max2 hc) fun xs H Q h => by
  obtain ⟨i, j, e, q⟩ := h
  exact ⟨i, j, e, by rw [max_if]; exact q⟩
theorem call_minI (hc : X.calm = true) : CallR X (.builtin "min") rMin2 := CallR.imp (call_min2 hc) fun xs H Q h => by
  obtain ⟨i, j, e, q⟩ := h
  exact ⟨i, j, e, by rw [min_if]; exact q⟩
def rIsN : R2 := fun x y H Q => y = V.non ∧ Q (.bl (decide (x = V.non))) H
def rIsNotN : R2 := fun x y H Q => y = V.non ∧ Q (.bl (!decide (x = V.non))) H
theorem op_isNone : OpR X (compareOp .Is) rIsN := op_isN
theorem op_notNone : OpR X (compareOp .IsNot) rIsNotN := op_notN
def rStrIn : R2 := fun x y H Q => ∃ i j, x = .str i ∧ y = .str j ∧ Q (.bl (!(Builtin.Str.occurrences j i 0 j.length 1).isEmpty)) H
theorem op_strIn : OpR X (compareOp .In) rStrIn := op_in_str
def rStrNotIn : R2 := fun x y H Q => ∃ i j, x = .str i ∧ y = .str j ∧ Q (.bl (!(!(Builtin.Str.occurrences j i 0 j.length 1).isEmpty))) H
theorem op_strNotIn : OpR X (compareOp .NotIn) rStrNotIn := op_notin_str
def tLstI (t : TA) : TE := fun σ H Q => t σ H fun xs H1 => ∃ ns, toInts xs = some ns ∧ ns.length ≤ sizeLine ∧ ∀ p, H1 p = none → Q (.ref p) (upd H1 p (IL ns))
theorem pe_lstI {es : List Expr} {t : TA} {pos : Pos} (h : PA X es t) : PE X (.List es pos) (tLstI t) := by
  refine ⟨fun pins s σ H Q I hq => ?_⟩
  refine wpAny_List_spliced (thn (h.run pos pins s σ H _ I hq) fun us s1 ⟨xs, H1, I1, r, ns, e, z, q⟩ => ?_)
  have e2 := toInts_eq e
  have z2 : xs.length ≤ sizeLine := by rw [e2, List.length_map]; exact z
  refine ⟨by rw [← r.length]; exact z2, ?_⟩
  have hf : H1 s1.heap.objs.size = none := I1.hok.fresh (Nat.le_refl _)
  have q' := q _ hf
  have e3 : IL ns = .lst xs := by unfold IL; rw [e2]
  rw [e3] at q'
  refine ⟨.ref s1.heap.objs.size, upd H1 s1.heap.objs.size (.lst xs), I1.laid (t' := s1.toks) (fun b u e => Heap.get?_push_of_some _ e) (Nat.le_refl _) ?_, rfl, q'⟩
  exact ⟨z2, us, 0, r, Heap.get?_push_size _ rfl⟩
/-- a method of a list that stands in a name: the slot i -/
def tBML (i : Nat) (r : V → List V → Hp → VK → Prop) (t : TA) : TE := fun σ H Q => ∃ p, σ[i]? = some (some (.ref p)) ∧ isL (H p) = true ∧ t σ H fun xs H2 => r (.ref p) xs H2 Q
theorem bml_imp {K : PySem.W.Frag} {i : Nat} {r : V → List V → Hp → VK → Prop} {t : TA} : ∀ σ H Q, tBML i r t σ H Q → tBM K "list" r (tVar i) t σ H Q := by
  intro σ H Q ⟨p, e, h, q⟩
  obtain ⟨xs, hx⟩ := isL_of h
  exact ⟨_, e, .inl ⟨rfl, _, .of hx⟩, q⟩
def tBML0 (i : Nat) (r : V → List V → Hp → VK → Prop) : TE := fun σ H Q => ∃ p, σ[i]? = some (some (.ref p)) ∧ isL (H p) = true ∧ r (.ref p) [] H Q
theorem bml0_imp {K : PySem.W.Frag} {i : Nat} {r : V → List V → Hp → VK → Prop} : ∀ σ H Q, tBML0 i r σ H Q → tBM0 K "list" r (tVar i) σ H Q := by
  intro σ H Q ⟨p, e, h, q⟩
  obtain ⟨xs, hx⟩ := isL_of h
  exact ⟨_, e, .inl ⟨rfl, _, .of hx⟩, q⟩
end
/-! ### written places and bounds -/
theorem atI_k {α : Type} (xs : List α) (k : Nat) : atI xs (k : Int) = xs[k]? := by
  unfold atI ixN
  rw [if_pos (Int.natCast_nonneg k)]
  by_cases h : k < xs.length
  · rw [if_pos (by omega), Int.toNat_natCast]; rfl
  · rw [if_neg (by omega), List.getElem?_eq_none (by omega)]; rfl
theorem atI_0 {α : Type} (xs : List α) : atI xs 0 = xs[0]? := atI_k xs 0
theorem atI_1 {α : Type} (xs : List α) : atI xs 1 = xs[1]? := atI_k xs 1
theorem atI_2 {α : Type} (xs : List α) : atI xs 2 = xs[2]? := atI_k xs 2
theorem atI_3 {α : Type} (xs : List α) : atI xs 3 = xs[3]? := atI_k xs 3
theorem atI_4 {α : Type} (xs : List α) : atI xs 4 = xs[4]? := atI_k xs 4
theorem cmul_r {i j : Int} (h1 : -18446744073709551616 < j) (h2 : j < 18446744073709551616) : CMul i j = True := eq_true (.inr ⟨h1, h2⟩)
theorem cmul_l {i j : Int} (h1 : -18446744073709551616 < i) (h2 : i < 18446744073709551616) : CMul i j = True := eq_true (.inl ⟨h1, h2⟩)
theorem cdiv_r {i j : Int} (h1 : 0 < j) (h2 : j < 1073741824) : CDiv i j = True := eq_true ⟨h1, h2⟩
theorem cast_lit (n : Nat) : ((no_index (OfNat.ofNat n) : Nat) : Int) = OfNat.ofNat n := rfl
/-! ### data that is tracked -/
mutual
inductive Dt (H : Hp) : V → PyData → Prop
  | non : Dt H .non .none
  | bl (b : Bool) : Dt H (.bl b) (.bool b)
  | int (i : Int) : Dt H (.int i) (.int i)
  | str (x : Str) : Dt H (.str x) (.str x)
  | lst {a : Addr} {xs : List V} {ds : List PyData} : H a = some (.lst xs) → DtAll H xs ds → Dt H (.ref a) (.list ds)
  | tup {a : Addr} {xs : List V} {ds : List PyData} : H a = some (.tup xs) → DtAll H xs ds → Dt H (.ref a) (.tuple ds)
inductive DtAll (H : Hp) : List V → List PyData → Prop
  | nil : DtAll H [] []
  | cons {v : V} {vs : List V} {d : PyData} {ds : List PyData} : Dt H v d → DtAll H vs ds → DtAll H (v :: vs) (d :: ds)
end
mutual
theorem Dt.same {H H' : Hp} (s : Same H H') : ∀ (d : PyData) (v : V), Dt H v d → Dt H' v d
  | .none, _, h => by cases h; exact .non
  | .bool b, _, h => by cases h; exact .bl b
  | .int i, _, h => by cases h; exact .int i
  | .str z, _, h => by cases h; exact .str z
  | .list ds, _, h => by cases h with | lst h1 h2 => exact .lst (s _ _ h1) (DtAll.same s ds _ h2)
  | .tuple ds, _, h => by cases h with | tup h1 h2 => exact .tup (s _ _ h1) (DtAll.same s ds _ h2)
  | .dict _, _, h => by cases h
theorem DtAll.same {H H' : Hp} (s : Same H H') : ∀ (ds : List PyData) (vs : List V), DtAll H vs ds → DtAll H' vs ds
  | [], _, h => by cases h; exact .nil
  | d :: ds, _, h => by cases h with | cons h1 h2 => exact .cons (Dt.same s d _ h1) (DtAll.same s ds _ h2)
end
mutual
theorem Dt.dp {K : PySem.W.Frag} {H : Hp} : ∀ (d : PyData) (v : V), Dt H v d → Dp K H v d
  | .none, _, h => by cases h; exact .non
  | .bool b, _, h => by cases h; exact .bl b
  | .int i, _, h => by cases h; exact .int i
  | .str z, _, h => by cases h; exact .str z
  | .list ds, _, h => by cases h with | lst h1 h2 => exact .lst (.of h1) (DtAll.dp ds _ h2)
  | .tuple ds, _, h => by cases h with | tup h1 h2 => exact .tup (.of h1) (DtAll.dp ds _ h2)
  | .dict _, _, h => by cases h
theorem DtAll.dp {K : PySem.W.Frag} {H : Hp} : ∀ (ds : List PyData) (vs : List V), DtAll H vs ds → DpAll K H vs ds
  | [], _, h => by cases h; exact .nil
  | d :: ds, _, h => by cases h with | cons h1 h2 => exact .cons (Dt.dp d _ h1) (DtAll.dp ds _ h2)
end
theorem dtAll_len {H : Hp} : ∀ {xs : List V} {ds : List PyData}, DtAll H xs ds → xs.length = ds.length
  | _, _, .nil => rfl
  | _, _, .cons _ t => by rw [List.length_cons, List.length_cons, dtAll_len t]
theorem dtAll_get {H : Hp} : ∀ {xs : List V} {ds : List PyData} {i : Nat}, DtAll H xs ds → i < ds.length → ∃ x d, xs[i]? = some x ∧ ds[i]? = some d ∧ Dt H x d
  | _, _, _, .nil, h => absurd h (Nat.not_lt_zero _)
  | _, _, 0, .cons a _, _ => ⟨_, _, rfl, rfl, a⟩
  | _, _, i + 1, .cons _ t, h => by
    obtain ⟨x, d, e1, e2, q⟩ := dtAll_get (i := i) t (Nat.lt_of_succ_lt_succ h)
    exact ⟨x, d, e1, e2, q⟩
theorem dt_ints {H : Hp} : ∀ ns : List Int, DtAll H (ns.map V.int) (ns.map PyData.int)
  | [] => .nil
  | n :: r => .cons (.int n) (dt_ints r)
theorem dt_IL {H : Hp} {p : Addr} {ns : List Int} (h : H p = some (IL ns)) : Dt H (.ref p) (.list (ns.map PyData.int)) := .lst h (dt_ints ns)
/-! ### isinstance of data -/
def tn : PyData → String
  | .none => "NoneType"
  | .bool _ => "bool"
  | .int _ => "int"
  | .str _ => "str"
  | .list _ => "list"
  | .tuple _ => "tuple"
  | .dict _ => "dict"
def tyO : Option HO → Option String
  | some (.lst _) => some "list"
  | some (.tup _) => some "tuple"
  | _ => none
def tyH (H : Hp) : V → Option String
  | .non => some "NoneType"
  | .bl _ => some "bool"
  | .int _ => some "int"
  | .str _ => some "str"
  | .ref a => tyO (H a)
  | _ => none
theorem tyH_non {H : Hp} : tyH H .non = some "NoneType" := rfl
theorem tyH_bl {H : Hp} {b : Bool} : tyH H (.bl b) = some "bool" := rfl
theorem tyH_int {H : Hp} {i : Int} : tyH H (.int i) = some "int" := rfl
theorem tyH_str {H : Hp} {x : Str} : tyH H (.str x) = some "str" := rfl
theorem tyH_ref {H : Hp} {a : Addr} : tyH H (.ref a) = tyO (H a) := rfl
theorem tyO_lst {xs : List V} : tyO (some (.lst xs)) = some "list" := rfl
theorem tyO_IL {xs : List Int} : tyO (some (IL xs)) = some "list" := rfl
theorem tyO_tup {xs : List V} : tyO (some (.tup xs)) = some "tuple" := rfl
theorem Dt.ty {H : Hp} {x : V} {d : PyData} (h : Dt H x d) : tyH H x = some (tn d) := by
  cases h with
  | non => rfl
  | bl b => rfl
  | int i => rfl
  | str z => rfl
  | lst h _ => rw [tyH_ref, h]; rfl
  | tup h _ => rw [tyH_ref, h]; rfl
theorem tyO_cases {o : Option HO} {t : String} (h : tyO o = some t) : (t = "list" ∧ ∃ xs, o = some (.lst xs)) ∨ (t = "tuple" ∧ ∃ xs, o = some (.tup xs)) := by
  cases o with
  | none => cases h
  | some u =>
    cases u with
    | lst xs => cases h; exact .inl ⟨rfl, xs, rfl⟩
    | tup xs => cases h; exact .inr ⟨rfl, xs, rfl⟩
    | _ => cases h
/-- isinstance(x, T), both built-in, by the name of x's type -/
def isB (a T : String) : Bool := a == T || (a == "bool" && T == "int")
def tyNames : List String := ["NoneType", "bool", "int", "str", "list", "tuple"]
def clNames : List String := ["bool", "int", "str", "list", "tuple"]
def isCl (T : String) : Bool := clNames.contains T
theorem isB_all : (tyNames.all fun a => clNames.all fun b => decide (kitB a b = some (isB a b))) = true := by decide +kernel
theorem isB_kit {a b : String} (h1 : a ∈ tyNames) (h2 : isCl b = true) : kitB a b = some (isB a b) := by
  have h := isB_all
  rw [List.all_eq_true] at h
  have h' := h a h1
  rw [List.all_eq_true] at h'
  exact of_decide_eq_true (h' b (List.contains_iff_mem.mp h2))
theorem tyH_x {K : PySem.W.Frag} {H : Hp} {x : V} {t : String} (h : tyH H x = some t) : TyX K H x (.type t) ∧ t ∈ tyNames := by
  cases x with
  | non => cases h; exact ⟨.base .non, by decide⟩
  | bl b => cases h; exact ⟨.base (.bl b), by decide⟩
  | int i => cases h; exact ⟨.base (.int i), by decide⟩
  | str z => cases h; exact ⟨.base (.str z), by decide⟩
  | ref a =>
    rcases tyO_cases h with ⟨rfl, xs, e⟩ | ⟨rfl, xs, e⟩
    · exact ⟨.base (.lst e), by decide⟩
    · exact ⟨.base (.tup e), by decide⟩
  | _ => cases h
def rIsiD : List V → Hp → VK → Prop := fun xs H Q => ∃ x T, xs = [x, .ty T] ∧ ∃ t, tyH H x = some t ∧ isCl T = true ∧ Q (.bl (isB t T)) H
theorem call_isiD {X : Cx} : CallR X (.builtin "isinstance") rIsiD := CallR.imp call_isi fun xs H Q h => by
  obtain ⟨x, T, rfl, t, ty, h2, q⟩ := h
  obtain ⟨h0, h1⟩ := tyH_x (K := X.K) ty
  exact ⟨x, .ty T, .type t, .type T, isB t T, rfl, .ty T, h0, kit_ty (isB_kit h1 h2), q⟩
theorem cl_bool : isCl "bool" = true := by decide
theorem cl_int : isCl "int" = true := by decide
theorem cl_str : isCl "str" = true := by decide
theorem cl_list : isCl "list" = true := by decide
theorem cl_tuple : isCl "tuple" = true := by decide
theorem isB_NoneType_bool : isB "NoneType" "bool" = false := by decide
theorem isB_NoneType_int : isB "NoneType" "int" = false := by decide
theorem isB_NoneType_str : isB "NoneType" "str" = false := by decide
theorem isB_NoneType_list : isB "NoneType" "list" = false := by decide
theorem isB_NoneType_tuple : isB "NoneType" "tuple" = false := by decide
theorem isB_bool_bool : isB "bool" "bool" = true := by decide
theorem isB_bool_int : isB "bool" "int" = true := by decide
theorem isB_bool_str : isB "bool" "str" = false := by decide
theorem isB_bool_list : isB "bool" "list" = false := by decide
theorem isB_bool_tuple : isB "bool" "tuple" = false := by decide
theorem isB_int_bool : isB "int" "bool" = false := by decide
theorem isB_int_int : isB "int" "int" = true := by decide
theorem isB_int_str : isB "int" "str" = false := by decide
theorem isB_int_list : isB "int" "list" = false := by decide
theorem isB_int_tuple : isB "int" "tuple" = false := by decide
theorem isB_str_bool : isB "str" "bool" = false := by decide
theorem isB_str_int : isB "str" "int" = false := by decide
theorem isB_str_str : isB "str" "str" = true := by decide
theorem isB_str_list : isB "str" "list" = false := by decide
theorem isB_str_tuple : isB "str" "tuple" = false := by decide
theorem isB_list_bool : isB "list" "bool" = false := by decide
theorem isB_list_int : isB "list" "int" = false := by decide
theorem isB_list_str : isB "list" "str" = false := by decide
theorem isB_list_list : isB "list" "list" = true := by decide
theorem isB_list_tuple : isB "list" "tuple" = false := by decide
theorem isB_tuple_bool : isB "tuple" "bool" = false := by decide
theorem isB_tuple_int : isB "tuple" "int" = false := by decide
theorem isB_tuple_str : isB "tuple" "str" = false := by decide
theorem isB_tuple_list : isB "tuple" "list" = false := by decide
theorem isB_tuple_tuple : isB "tuple" "tuple" = true := by decide
theorem scal_nn : scal .non .non = true := rfl
theorem scal_ii {a b : Int} : scal (.int a) (.int b) = true := rfl
theorem scal_bb {a b : Bool} : scal (.bl a) (.bl b) = true := rfl
theorem scal_ss {a b : Str} : scal (.str a) (.str b) = true := rfl
theorem scal_is {a : Int} {b : Str} : scal (.int a) (.str b) = true := rfl
theorem scal_si {a : Int} {b : Str} : scal (.str b) (.int a) = true := rfl
/-! ### lists and tuples that are tracked: their items -/
def itO : Option HO → Option (List V)
  | some (.lst xs) => some xs
  | some (.tup xs) => some xs
  | _ => none
theorem itO_lst {xs : List V} : itO (some (.lst xs)) = some xs := rfl
theorem itO_tup {xs : List V} : itO (some (.tup xs)) = some xs := rfl
theorem itO_IL {ns : List Int} : itO (some (IL ns)) = some (ns.map V.int) := rfl
theorem itO_cases {o : Option HO} {xs : List V} (h : itO o = some xs) : o = some (.lst xs) ∨ o = some (.tup xs) := by
  cases o with
  | none => cases h
  | some u =>
    cases u with
    | lst xs => cases h; exact .inl rfl
    | tup xs => cases h; exact .inr rfl
    | _ => cases h
def rLenQ : List V → Hp → VK → Prop := fun xs H Q => ∃ p ys, xs = [.ref p] ∧ itO (H p) = some ys ∧ Q (.int (ys.length : Int)) H
theorem call_lenQ {X : Cx} : CallR X (.builtin "len") rLenQ := CallR.imp call_len_seq fun xs H Q h => by
  obtain ⟨p, ys, e, h1, q⟩ := h
  rcases itO_cases h1 with h1 | h1
  · exact ⟨p, _, e, .inl (.of h1), q⟩
  · exact ⟨p, _, e, .inr (.of h1), q⟩
def rLenB : List V → Hp → VK → Prop := fun xs H Q => ∃ p ys, xs = [.ref p] ∧ itO (H p) = some ys ∧ (ys.length ≤ 16777216 → Q (.int (ys.length : Int)) H)
theorem call_lenB {X : Cx} : CallR X (.builtin "len") rLenB := fun pins s σ H xs us Q I r h => by
  obtain ⟨p, ys, e, h1, q⟩ := h
  refine call_lenQ pins s σ H xs us Q I r ⟨p, ys, e, h1, q ?_⟩
  rcases itO_cases h1 with h1 | h1
  · obtain ⟨_, _, _, z⟩ := I.list (.of h1)
    rw [sizeLine_eq] at z
    exact z
  · obtain ⟨_, _, _, z⟩ := I.tuple (.of h1)
    rw [sizeLine_eq] at z
    exact z
def rIxD : R2 := fun x y H Q => ∃ p xs i v, x = .ref p ∧ y = .int i ∧ itO (H p) = some xs ∧ atI xs i = some v ∧ Q v H
theorem ix_seqD {X : Cx} : IxR X rIxD := IxR.imp (ix_list.or ix_tup) fun x y H Q h => by
  obtain ⟨p, xs, i, v, e1, e2, h1, h2, q⟩ := h
  rcases itO_cases h1 with h1 | h1
  · exact .inl ⟨p, _, i, _, e1, e2, .of h1, h2, q⟩
  · exact .inr ⟨p, _, i, _, e1, e2, .of h1, h2, q⟩
/-- data that is told the same twice -/
def spSame (n : Nat) : Sp := fun vs H Q _ => ∃ (x y : V) (d : PyData), vs = [x, y] ∧ Dt H x d ∧ Dt H y d ∧ d.depth < n ∧ SeqAt.shaped d = true ∧ Q (.bl true) H
theorem depthAll_get : ∀ {ds : List PyData} {i : Nat} {d : PyData}, ds[i]? = some d → d.depth ≤ PyData.depthAll ds
  | [], _, _, h => by simp at h
  | a :: r, 0, d, h => by
    have e : a = d := Option.some.inj h
    subst e
    simp only [PyData.depthAll]
    omega
  | a :: r, i + 1, d, h => by
    have q := depthAll_get (ds := r) (i := i) (d := d) h
    simp only [PyData.depthAll]
    omega
theorem canLayAll_get : ∀ {ds : List PyData} {i : Nat} {d : PyData}, ds[i]? = some d → PyData.canLayAll0 ds = true → d.canLay0 = true
  | [], _, _, h, _ => by simp at h
  | a :: r, 0, d, h, c => by
    have e : a = d := Option.some.inj h
    subst e
    rw [PyData.canLayAll0, Bool.and_eq_true] at c
    exact c.1
  | a :: r, i + 1, d, h, c => by
    rw [PyData.canLayAll0, Bool.and_eq_true] at c
    exact canLayAll_get (ds := r) (i := i) (d := d) h c.2
theorem shaped_item {ds : List PyData} {i : Nat} {d : PyData} (h : ds[i]? = some d) (c : PyData.canLayAll0 ds = true) (k : PyData.depthAll ds + 1 ≤ 64) : SeqAt.shaped d = true := by
  unfold SeqAt.shaped
  rw [Bool.and_eq_true]
  refine ⟨canLayAll_get h c, decide_eq_true ?_⟩
  have := depthAll_get h
  omega
theorem none_fn {P : Program} {w : World} {K : PySem.W.Frag} {mg : Str → Option Value} {base : Heap} {CX : CXT} {f : Addr} {fd : FuncData} {ps : List Str} {sp : Sp} {k : Nat} (no : ∀ vs H Q E, ¬ sp vs H Q E) : FnOk P w K mg base CX k f fd ps sp :=
  ⟨fun vs H Q E h => absurd h (no vs H Q E), fun A outer s H args us vs Q E _ _ _ _ h => absurd h (no vs H Q E)⟩
end Dw

/-! sums of rows of bits: a basis by the highest bit, what it reaches, how many sums give a number -/
namespace Dw
open PySem PySem.Spec PyProof.Rows L2
def sz (n : Nat) : Nat := if n = 0 then 0 else n.log2 + 1
theorem sz_bits (n : Nat) : Builtin.Int.intBits (n : Int) = sz n := by
  unfold Builtin.Int.intBits sz
  by_cases c : n = 0
  · subst c
    rfl
  · rw [if_neg c, if_neg (by simp; omega)]
    rfl
theorem sz_zero {n : Nat} : sz n = 0 ↔ n = 0 := by
  unfold sz
  by_cases c : n = 0
  · simp [c]
  · simp [c]
theorem sz_le {n k : Nat} : sz n ≤ k ↔ n < 2 ^ k := by
  unfold sz
  by_cases c : n = 0
  · subst c
    rw [if_pos rfl]
    exact ⟨fun _ => Nat.two_pow_pos k, fun _ => Nat.zero_le _⟩
  · rw [if_neg c, ← Nat.log2_lt c]
    omega
theorem sz_lt {n : Nat} : n < 2 ^ sz n := sz_le.mp (Nat.le_refl _)
theorem sz_top {n : Nat} (h : n ≠ 0) : n.testBit (sz n - 1) = true := by
  have h1 : sz n = n.log2 + 1 := by unfold sz; rw [if_neg h]
  rw [h1, Nat.add_sub_cancel]
  exact Nat.testBit_log2 h
theorem sz_high {n i : Nat} (h : sz n ≤ i) : n.testBit i = false := Nat.testBit_lt_two_pow (Nat.lt_of_lt_of_le sz_lt (Nat.pow_le_pow_right (by decide) h))
theorem sz_of_high {n k : Nat} (h : ∀ i, k ≤ i → n.testBit i = false) : sz n ≤ k := sz_le.mpr (Nat.lt_pow_two_of_testBit n fun i hi => h i hi)
theorem xor_less {a b : Nat} (h : sz a = sz b) (ha : a ≠ 0) : sz (a ^^^ b) < sz a := by
  have hb : b ≠ 0 := fun e => ha (sz_zero.mp (by rw [h]; exact sz_zero.mpr e))
  have hp : 0 < sz a := Nat.pos_of_ne_zero fun e => ha (sz_zero.mp e)
  have : sz (a ^^^ b) ≤ sz a - 1 := sz_of_high fun i hi => by
    rw [Nat.testBit_xor]
    by_cases c : i = sz a - 1
    · rw [c, sz_top ha, h, sz_top hb]
      rfl
    · rw [sz_high (show sz a ≤ i by omega), sz_high (show sz b ≤ i by omega)]
      rfl
  omega
theorem xor_keep {a b : Nat} (h : sz b < sz a) : sz (a ^^^ b) = sz a := by
  have ha : a ≠ 0 := fun e => by rw [sz_zero.mpr e] at h; omega
  apply Nat.le_antisymm
  · refine sz_of_high fun i hi => ?_
    rw [Nat.testBit_xor, sz_high hi, sz_high (show sz b ≤ i by omega)]
    rfl
  · apply Nat.le_of_not_lt
    intro hlt
    have := sz_high (n := a ^^^ b) (i := sz a - 1) (by omega)
    rw [Nat.testBit_xor, sz_top ha, sz_high (show sz b ≤ sz a - 1 by omega)] at this
    cases this
abbrev Bs := List (Nat × Nat)
def look (B : Bs) (k : Nat) : Option (Nat × Nat) := B.find? fun e => decide (sz e.1 = k)
theorem look_mem {B : Bs} {k : Nat} {e : Nat × Nat} (h : look B k = some e) : e ∈ B ∧ sz e.1 = k := by
  refine ⟨List.mem_of_find?_eq_some h, ?_⟩
  have := List.find?_some h
  exact of_decide_eq_true this
theorem look_none {B : Bs} {k : Nat} : look B k = none ↔ ∀ e ∈ B, sz e.1 ≠ k := by
  unfold look
  rw [List.find?_eq_none]
  exact ⟨fun h e he q => h e he (decide_eq_true q), fun h e he q => h e he (of_decide_eq_true q)⟩
theorem look_app {B : Bs} {e : Nat × Nat} {k : Nat} : look (B ++ [e]) k = (look B k).or (if sz e.1 = k then some e else none) := by
  unfold look
  rw [List.find?_append]
  congr 1
  by_cases c : sz e.1 = k
  · rw [if_pos c, List.find?_cons, decide_eq_true c]
  · rw [if_neg c, List.find?_cons, decide_eq_false c]
    rfl
/-- one number and what is chosen, step by step, to the end -/
inductive Red (B : Bs) : Nat → Nat → Nat → Nat → Prop
  | stop {d c : Nat} : look B (sz d) = none → Red B d c d c
  | step {d c b x d' c' : Nat} : look B (sz d) = some (b, x) → Red B (d ^^^ b) (c ^^^ x) d' c' → Red B d c d' c'
/-- rows that are not 0 -/
def Nz (B : Bs) : Prop := ∀ e ∈ B, e.1 ≠ 0
theorem Nz.less {B : Bs} (h : Nz B) {d b x : Nat} (e : look B (sz d) = some (b, x)) : sz (d ^^^ b) < sz d := by
  obtain ⟨hm, hs⟩ := look_mem e
  have hb := h _ hm
  exact xor_less hs.symm fun z => hb (sz_zero.mp (by rw [hs]; exact sz_zero.mpr z))
theorem Nz.ex {B : Bs} (h : Nz B) : ∀ (n d c : Nat), sz d ≤ n → ∃ d' c', Red B d c d' c'
  | 0, d, c, hd => by
    refine ⟨d, c, .stop (look_none.mpr fun e he q => ?_)⟩
    exact h e he (sz_zero.mp (by omega))
  | n + 1, d, c, hd => by
    cases hl : look B (sz d) with
    | none => exact ⟨d, c, .stop hl⟩
    | some e =>
      obtain ⟨b, x⟩ := e
      have := h.less hl
      obtain ⟨d', c', r⟩ := h.ex n (d ^^^ b) (c ^^^ x) (by omega)
      exact ⟨d', c', .step hl r⟩
theorem Red.end {B : Bs} {d c d' c' : Nat} (h : Red B d c d' c') : look B (sz d') = none := by
  induction h with
  | stop h => exact h
  | step _ _ ih => exact ih
theorem Red.det {B : Bs} {d c d' c' d2 c2 : Nat} (h : Red B d c d' c') (g : Red B d c d2 c2) : d' = d2 ∧ c' = c2 := by
  induction h with
  | stop h =>
    cases g with
    | stop => exact ⟨rfl, rfl⟩
    | step q _ => rw [h] at q; cases q
  | step h _ ih =>
    cases g with
    | stop q => rw [h] at q; cases q
    | step q r =>
      rw [h] at q
      cases q
      exact ih r
/-- it comes down to nothing -/
inductive Zr (B : Bs) : Nat → Prop
  | zero : Zr B 0
  | step {d b x : Nat} : look B (sz d) = some (b, x) → Zr B (d ^^^ b) → Zr B d
theorem xor_cancel (a b : Nat) : a ^^^ b ^^^ b = a := by rw [Nat.xor_assoc, Nat.xor_self, Nat.xor_zero]
theorem xor_right (a b c : Nat) : a ^^^ b ^^^ c = a ^^^ c ^^^ b := by rw [Nat.xor_assoc, Nat.xor_comm b c, ← Nat.xor_assoc]
theorem xor_both (a b c : Nat) : (a ^^^ c) ^^^ (b ^^^ c) = a ^^^ b := by
  rw [Nat.xor_comm b c, ← Nat.xor_assoc, xor_cancel]
theorem Zr.inv {B : Bs} {d : Nat} (h : Zr B d) (hd : d ≠ 0) : ∃ b x, look B (sz d) = some (b, x) ∧ Zr B (d ^^^ b) := by
  cases h with
  | zero => exact absurd rfl hd
  | step a b => exact ⟨_, _, a, b⟩
theorem Zr.xor {B : Bs} (hB : Nz B) : ∀ (n : Nat) {d e : Nat}, sz d + sz e ≤ n → Zr B d → Zr B e → Zr B (d ^^^ e)
  | 0, d, e, hn, h, g => by
    rw [sz_zero.mp (show sz d = 0 by omega), Nat.zero_xor]
    exact g
  | n + 1, d, e, hn, h, g => by
    by_cases cd : d = 0
    · rw [cd, Nat.zero_xor]
      exact g
    by_cases ce : e = 0
    · rw [ce, Nat.xor_zero]
      exact h
    obtain ⟨b, x, h1, h2⟩ := h.inv cd
    obtain ⟨b', x', g1, g2⟩ := g.inv ce
    have l1 := hB.less h1
    have l2 := hB.less g1
    rcases Nat.lt_trichotomy (sz d) (sz e) with c | c | c
    · refine .step (b := b') (x := x') (by rw [Nat.xor_comm, xor_keep c]; exact g1) ?_
      rw [Nat.xor_assoc]
      exact Zr.xor hB n (by omega) h g2
    · rw [c, g1] at h1
      cases h1
      rw [← xor_both d e b]
      exact Zr.xor hB n (by omega) h2 g2
    · refine .step (b := b) (x := x) (by rw [xor_keep c]; exact h1) ?_
      rw [xor_right]
      exact Zr.xor hB n (by omega) h2 g
theorem Zr.add {B : Bs} (hB : Nz B) {d e : Nat} (h : Zr B d) (g : Zr B e) : Zr B (d ^^^ e) := Zr.xor hB _ (Nat.le_refl _) h g
/-- no two rows of one length -/
def Ech (B : Bs) : Prop := Nz B ∧ ∀ e ∈ B, look B (sz e.1) = some e
theorem Ech.mem {B : Bs} (h : Ech B) {e : Nat × Nat} (he : e ∈ B) : Zr B e.1 := by
  refine .step (h.2 e he) ?_
  rw [Nat.xor_self]
  exact .zero
theorem Red.zr {B : Bs} (hB : Ech B) {d c d' c' : Nat} (h : Red B d c d' c') : Zr B (d ^^^ d') := by
  induction h with
  | stop _ =>
    rw [Nat.xor_self]
    exact .zero
  | step hl _ ih =>
    have := Zr.add hB.1 ih (hB.mem (look_mem hl).1)
    rw [xor_right, xor_cancel] at this
    exact this
theorem Red.zero {B : Bs} (hB : Ech B) {d c d' c' : Nat} (h : Red B d c d' c') : Zr B d ↔ d' = 0 := by
  have hz := h.zr hB
  refine ⟨fun g => ?_, fun e => by rw [e, Nat.xor_zero] at hz; exact hz⟩
  have h2 : Zr B d' := by
    have := Zr.add hB.1 hz g
    rw [Nat.xor_comm d d', xor_cancel] at this
    exact this
  apply Classical.byContradiction
  intro hn
  obtain ⟨b, x, h3, _⟩ := h2.inv hn
  rw [h.end] at h3
  cases h3
theorem Ech.snoc {B : Bs} (hB : Ech B) {v c : Nat} (hv : v ≠ 0) (hl : look B (sz v) = none) : Ech (B ++ [(v, c)]) := by
  refine ⟨fun e he => ?_, fun e he => ?_⟩
  · rcases List.mem_append.mp he with h | h
    · exact hB.1 e h
    · rw [List.mem_singleton.mp h]
      exact hv
  · rw [look_app]
    rcases List.mem_append.mp he with h | h
    · rw [hB.2 e h]
      rfl
    · rw [List.mem_singleton.mp h]
      show (look B (sz v)).or _ = _
      rw [hl, if_pos rfl]
      rfl
theorem Zr.more {B : Bs} {e : Nat × Nat} {d : Nat} (h : Zr B d) : Zr (B ++ [e]) d := by
  induction h with
  | zero => exact .zero
  | step hl _ ih => exact .step (by rw [look_app, hl]; rfl) ih
/-- what one more row adds -/
theorem Zr.snoc {B : Bs} (hB : Ech B) {v c v' c' : Nat} (h : Red B v c v' c') (hv : v' ≠ 0) (d : Nat) : Zr (B ++ [(v', c')]) d ↔ Zr B d ∨ Zr B (d ^^^ v) := by
  have hl := h.end
  have hz := h.zr hB
  have hE := hB.snoc (c := c') hv hl
  constructor
  · intro g
    induction g with
    | zero => exact .inl .zero
    | step hx _ ih =>
      rename_i d b x _
      rw [look_app] at hx
      cases q : look B (sz d) with
      | some e =>
        rw [q] at hx
        cases hx
        have hm := hB.mem (look_mem q).1
        rcases ih with ih | ih
        · refine .inl ?_
          have := Zr.add hB.1 ih hm
          rw [xor_cancel] at this
          exact this
        · refine .inr ?_
          have := Zr.add hB.1 ih hm
          rw [xor_right, xor_cancel] at this
          exact this
      | none =>
        rw [q] at hx
        replace hx : (if sz v' = sz d then some (v', c') else none) = some (b, x) := hx
        split at hx
        · cases hx
          rcases ih with ih | ih
          · refine .inr ?_
            have := Zr.add hB.1 ih hz
            rw [Nat.xor_comm v v', ← Nat.xor_assoc, xor_cancel] at this
            exact this
          · refine .inl ?_
            have := Zr.add hB.1 ih hz
            rw [Nat.xor_assoc (d ^^^ v') v, ← Nat.xor_assoc v v v', Nat.xor_self, Nat.zero_xor, xor_cancel] at this
            exact this
        · cases hx
  · rintro (g | g)
    · exact g.more
    · have h1 : Zr (B ++ [(v', c')]) v' := hE.mem (List.mem_append_right _ (List.mem_singleton.mpr rfl))
      have h2 := Zr.add hE.1 (hz.more (e := (v', c'))) h1
      rw [xor_cancel] at h2
      have h3 := Zr.add hE.1 (g.more (e := (v', c'))) h2
      rw [xor_cancel] at h3
      exact h3
/-- how many choices of rows sum to d; the newest row first -/
def cnt : List Nat → Nat → Nat
  | [], d => if d = 0 then 1 else 0
  | v :: r, d => cnt r d + cnt r (d ^^^ v)
/-- the sum of the chosen rows -/
def comb : List Nat → Nat → Nat
  | [], _ => 0
  | v :: r, c => (if c.testBit r.length then v else 0) ^^^ comb r c
theorem comb_xor : ∀ (vs : List Nat) (a b : Nat), comb vs (a ^^^ b) = comb vs a ^^^ comb vs b
  | [], _, _ => (Nat.zero_xor 0).symm
  | v :: r, a, b => by
    show (if (a ^^^ b).testBit r.length then v else 0) ^^^ comb r (a ^^^ b) = ((if a.testBit r.length then v else 0) ^^^ comb r a) ^^^ ((if b.testBit r.length then v else 0) ^^^ comb r b)
    rw [comb_xor r, Nat.testBit_xor]
    have e : ∀ p q x y : Nat, (p ^^^ x) ^^^ (q ^^^ y) = (p ^^^ q) ^^^ (x ^^^ y) := fun p q x y => by
      rw [Nat.xor_assoc, ← Nat.xor_assoc x q y, Nat.xor_comm x q, Nat.xor_assoc q x y, ← Nat.xor_assoc]
    rw [e]
    congr 1
    cases a.testBit r.length <;> cases b.testBit r.length <;> simp
theorem comb_low : ∀ (vs : List Nat) (c : Nat) {v : Nat}, c < 2 ^ vs.length → comb (v :: vs) c = comb vs c := fun vs c v h => by
  show (if c.testBit vs.length then v else 0) ^^^ comb vs c = comb vs c
  rw [Nat.testBit_lt_two_pow h]
  exact Nat.zero_xor _
/-- a basis of the rows, with what was chosen for each -/
structure Bas (vs : List Nat) (B : Bs) : Prop where
  ech : Ech B
  com : ∀ e ∈ B, e.2 < 2 ^ vs.length ∧ comb vs e.2 = e.1
  le : B.length ≤ vs.length
  num : ∀ d, (Zr B d → cnt vs d = 2 ^ (vs.length - B.length)) ∧ (¬ Zr B d → cnt vs d = 0)
theorem bas_nil : Bas [] [] where
  ech := ⟨(fun _ h => by cases h), (fun _ h => by cases h)⟩
  com := fun _ h => by cases h
  le := Nat.le_refl _
  num := fun d => by
    refine ⟨fun h => ?_, fun h => ?_⟩
    · have : d = 0 := Classical.byContradiction fun hn => by
        obtain ⟨b, x, q, _⟩ := h.inv hn
        cases q
      subst this
      rfl
    · have : d ≠ 0 := fun e => h (by subst e; exact .zero)
      show (if d = 0 then 1 else 0) = 0
      rw [if_neg this]
theorem red_comb {B : Bs} {ws : List Nat} {m : Nat} (hB : ∀ e ∈ B, e.2 < 2 ^ m ∧ comb ws e.2 = e.1) {d c d' c' : Nat} (r : Red B d c d' c') (hc : c < 2 ^ m) : c' < 2 ^ m ∧ d' ^^^ comb ws c' = d ^^^ comb ws c := by
  induction r with
  | stop _ => exact ⟨hc, rfl⟩
  | step hl _ ih =>
    obtain ⟨h1, h2⟩ := hB _ (look_mem hl).1
    obtain ⟨i1, i2⟩ := ih (Nat.xor_lt_two_pow hc h1)
    refine ⟨i1, ?_⟩
    rw [i2, comb_xor, h2]
    exact xor_both _ _ _
theorem comb_high : ∀ (vs : List Nat) {n : Nat}, vs.length ≤ n → comb vs (2 ^ n) = 0
  | [], _, _ => rfl
  | v :: r, n, h => by
    have h : r.length + 1 ≤ n := h
    show (if (2 ^ n).testBit r.length then v else 0) ^^^ comb r (2 ^ n) = 0
    rw [comb_high r (by omega), Nat.testBit_two_pow, decide_eq_false (by omega), if_neg Bool.false_ne_true]
    exact Nat.zero_xor 0
theorem Bas.comS {vs : List Nat} {B : Bs} (h : Bas vs B) (v : Nat) : ∀ e ∈ B, e.2 < 2 ^ (v :: vs).length ∧ comb (v :: vs) e.2 = e.1 := fun e he => by
  obtain ⟨h1, h2⟩ := h.com e he
  refine ⟨Nat.lt_of_lt_of_le h1 (Nat.pow_le_pow_right (by decide) (by show _ ≤ vs.length + 1; omega)), ?_⟩
  rw [comb_low vs _ h1, h2]
theorem Bas.row {vs : List Nat} {B : Bs} (h : Bas vs B) {v v' c' : Nat} (r : Red B v (2 ^ vs.length) v' c') : c' < 2 ^ (v :: vs).length ∧ comb (v :: vs) c' = v' := by
  have hl : (2 : Nat) ^ vs.length < 2 ^ (v :: vs).length := Nat.pow_lt_pow_right (by decide) (Nat.lt_succ_self _)
  obtain ⟨h1, h2⟩ := red_comb (h.comS v) r hl
  refine ⟨h1, ?_⟩
  have e : comb (v :: vs) (2 ^ vs.length) = v := by
    show (if (2 ^ vs.length).testBit vs.length then v else 0) ^^^ comb vs (2 ^ vs.length) = v
    rw [comb_high vs (Nat.le_refl _), Nat.testBit_two_pow_self, if_pos rfl, Nat.xor_zero]
  rw [e, Nat.xor_self] at h2
  have := congrArg (· ^^^ comb (v :: vs) c') h2
  simp only [xor_cancel, Nat.zero_xor] at this
  exact this.symm
/-- a row that comes down to 0 -/
theorem Bas.same {vs : List Nat} {B : Bs} (h : Bas vs B) {v c' : Nat} (r : Red B v (2 ^ vs.length) 0 c') : Bas (v :: vs) B where
  ech := h.ech
  com := h.comS v
  le := by have := h.le; show B.length ≤ vs.length + 1; omega
  num := fun d => by
    have hv : Zr B v := (r.zero h.ech).mpr rfl
    have hl := h.le
    refine ⟨fun g => ?_, fun g => ?_⟩
    · show cnt vs d + cnt vs (d ^^^ v) = 2 ^ (vs.length + 1 - B.length)
      rw [(h.num d).1 g, (h.num _).1 (Zr.add h.ech.1 g hv), show vs.length + 1 - B.length = (vs.length - B.length) + 1 by omega, Nat.pow_succ]
      omega
    · show cnt vs d + cnt vs (d ^^^ v) = 0
      rw [(h.num d).2 g, (h.num _).2 fun q => g ?_]
      have := Zr.add h.ech.1 q hv
      rw [xor_cancel] at this
      exact this
/-- a row that is new -/
theorem Bas.put {vs : List Nat} {B : Bs} (h : Bas vs B) {v v' c' : Nat} (r : Red B v (2 ^ vs.length) v' c') (hv : v' ≠ 0) : Bas (v :: vs) (B ++ [(v', c')]) where
  ech := h.ech.snoc hv r.end
  com := fun e he => by
    rcases List.mem_append.mp he with q | q
    · exact h.comS v e q
    · rw [List.mem_singleton.mp q]
      exact h.row r
  le := by
    have := h.le
    rw [List.length_append]
    show B.length + 1 ≤ vs.length + 1
    omega
  num := fun d => by
    have hl := h.le
    have hno : ¬ Zr B v := fun q => hv ((r.zero h.ech).mp q)
    rw [Zr.snoc h.ech r hv]
    have hlen : (v :: vs).length - (B ++ [(v', c')]).length = vs.length - B.length := by
      rw [List.length_append]
      show vs.length + 1 - (B.length + 1) = _
      omega
    rw [hlen]
    refine ⟨fun g => ?_, fun g => ?_⟩
    · show cnt vs d + cnt vs (d ^^^ v) = _
      rcases g with g | g
      · rw [(h.num d).1 g, (h.num _).2 fun q => hno ?_, Nat.add_zero]
        have := Zr.add h.ech.1 g q
        rw [← Nat.xor_assoc, Nat.xor_self, Nat.zero_xor] at this
        exact this
      · rw [(h.num _).1 g, (h.num d).2 fun q => hno ?_, Nat.zero_add]
        have := Zr.add h.ech.1 q g
        rw [← Nat.xor_assoc, Nat.xor_self, Nat.zero_xor] at this
        exact this
    · show cnt vs d + cnt vs (d ^^^ v) = 0
      rw [(h.num d).2 fun q => g (.inl q), (h.num _).2 fun q => g (.inr q)]
/-- all choices, in the order of pairs behind one another -/
def chAll : Nat → List Nat
  | 0 => [0]
  | n + 1 => (chAll n).flatMap fun c => [c, c + 2 ^ n]
theorem chAll_lt : ∀ (n : Nat), ∀ c ∈ chAll n, c < 2 ^ n
  | 0, c, h => by rw [List.mem_singleton.mp h]; decide
  | n + 1, c, h => by
    obtain ⟨b, hb, hc⟩ := List.mem_flatMap.mp h
    have := chAll_lt n b hb
    rw [Nat.pow_succ]
    rcases List.mem_cons.mp hc with e | e
    · omega
    · rw [List.mem_singleton.mp e]; omega
theorem chAll_mem : ∀ (n c : Nat), c < 2 ^ n → c ∈ chAll n
  | 0, c, h => List.mem_singleton.mpr (by omega)
  | n + 1, c, h => by
    rw [Nat.pow_succ] at h
    by_cases q : c < 2 ^ n
    · exact List.mem_flatMap.mpr ⟨c, chAll_mem n c q, List.mem_cons_self⟩
    · exact List.mem_flatMap.mpr ⟨c - 2 ^ n, chAll_mem n _ (by omega), List.mem_cons_of_mem _ (List.mem_singleton.mpr (by omega))⟩
theorem chAll_len : ∀ n : Nat, (chAll n).length = 2 ^ n
  | 0 => rfl
  | n + 1 => by
    have : ∀ L : List Nat, (L.flatMap fun c => [c, c + 2 ^ n]).length = 2 * L.length := fun L => by
      induction L with
      | nil => rfl
      | cons x r ih =>
        rw [List.flatMap_cons, List.length_append, ih]
        show 2 + 2 * r.length = 2 * (r.length + 1)
        omega
    show ((chAll n).flatMap fun c => [c, c + 2 ^ n]).length = _
    rw [this, chAll_len n, Nat.pow_succ]
    omega
theorem count_two (p : Nat → Bool) (m : Nat) : ∀ L : List Nat, (L.flatMap fun c => [c, c + m]).countP p = L.countP p + L.countP (fun c => p (c + m))
  | [] => rfl
  | x :: r => by
    rw [List.flatMap_cons, List.countP_append, count_two p m r]
    simp only [List.countP_cons, List.countP_nil]
    omega
theorem comb_up {vs : List Nat} {v c : Nat} (h : c < 2 ^ vs.length) : comb (v :: vs) (c + 2 ^ vs.length) = v ^^^ comb vs c := by
  have e : c + 2 ^ vs.length = 2 ^ vs.length ^^^ c := by
    rw [Nat.add_comm]
    apply Nat.eq_of_testBit_eq
    intro i
    rw [Nat.testBit_xor, Nat.testBit_two_pow]
    by_cases q : vs.length = i
    · subst q
      rw [decide_eq_true rfl, Nat.testBit_two_pow_add_eq, Bool.true_xor]
    · rw [decide_eq_false q, Bool.false_xor]
      by_cases q2 : i < vs.length
      · rw [Nat.testBit_two_pow_add_gt q2]
      · have h1 : c.testBit i = false := Nat.testBit_lt_two_pow (Nat.lt_of_lt_of_le h (Nat.pow_le_pow_right (by decide) (by omega)))
        rw [h1]
        exact Nat.testBit_lt_two_pow (by
          have : (2 : Nat) ^ (vs.length + 1) ≤ 2 ^ i := Nat.pow_le_pow_right (by decide) (by omega)
          rw [Nat.pow_succ] at this
          omega)
  show (if (c + 2 ^ vs.length).testBit vs.length then v else 0) ^^^ comb vs (c + 2 ^ vs.length) = _
  rw [e, comb_xor, comb_high vs (Nat.le_refl _), Nat.zero_xor, Nat.testBit_xor, Nat.testBit_two_pow_self, Nat.testBit_lt_two_pow h]
  rfl
theorem cnt_all : ∀ (vs : List Nat) (d : Nat), cnt vs d = (chAll vs.length).countP fun c => decide (comb vs c = d)
  | [], d => by
    show (if d = 0 then 1 else 0) = List.countP (fun c => decide (comb [] c = d)) [0]
    rw [List.countP_cons, List.countP_nil]
    show _ = 0 + if decide (0 = d) = true then 1 else 0
    by_cases c : d = 0
    · subst c; rfl
    · rw [if_neg c, decide_eq_false (fun e => c e.symm)]; rfl
  | v :: r, d => by
    show cnt r d + cnt r (d ^^^ v) = ((chAll r.length).flatMap fun c => [c, c + 2 ^ r.length]).countP _
    rw [count_two, cnt_all r d, cnt_all r (d ^^^ v)]
    congr 1
    · refine List.countP_congr fun c hc => ?_
      rw [comb_low r c (chAll_lt _ c hc)]
    · refine List.countP_congr fun c hc => ?_
      rw [comb_up (chAll_lt _ c hc)]
      simp only [decide_eq_true_eq]
      constructor
      · intro e
        rw [e, Nat.xor_comm d v, ← Nat.xor_assoc, Nat.xor_self, Nat.zero_xor]
      · intro e
        rw [← e, Nat.xor_comm v, xor_cancel]
end Dw

namespace Dw
open PySem PySem.Spec PyProof.Rows L2
/-! ### the CRC, on natural numbers -/
/-- one bit -/
def stepB (n b : Nat) : Nat := (2 * n % 65536) ^^^ (if n / 32768 % 2 = b then 0 else 4129)
/-- one byte, bit by bit from the highest on -/
def byteB (n v : Nat) : Nat := (List.range 8).foldl (fun m k => stepB m (v / 2 ^ (7 - k) % 2)) n
/-- one byte, at once -/
def byteP (n v : Nat) : Nat :=
  let t := (n / 256) ^^^ v
  let u := t ^^^ (t / 16)
  ((((n * 256) ^^^ (u * 4096)) ^^^ (u * 32)) ^^^ u) % 65536
def crcN (vs : List Nat) : Nat := vs.foldl byteP 65535
theorem xor_lt {a b k : Nat} (h1 : a < 2 ^ k) (h2 : b < 2 ^ k) : a ^^^ b < 2 ^ k := Nat.xor_lt_two_pow h1 h2
theorem stepB_lt (n b : Nat) : stepB n b < 65536 := by
  unfold stepB
  refine xor_lt (k := 16) ?_ ?_
  · exact Nat.mod_lt _ (by decide)
  · split <;> decide
theorem byteP_lt (n v : Nat) : byteP n v < 65536 := Nat.mod_lt _ (by decide)
theorem mul2 (a b : Nat) : 2 * (a ^^^ b) = (2 * a) ^^^ (2 * b) := by
  have h := @Nat.shiftLeft_xor_distrib 1 a b
  simp only [Nat.shiftLeft_eq, Nat.pow_one] at h
  rw [Nat.mul_comm 2, Nat.mul_comm 2, Nat.mul_comm 2]
  exact h
theorem mulp (k a b : Nat) : (a ^^^ b) * 2 ^ k = (a * 2 ^ k) ^^^ (b * 2 ^ k) := by
  have h := @Nat.shiftLeft_xor_distrib k a b
  simp only [Nat.shiftLeft_eq] at h
  exact h
theorem divp (k a b : Nat) : (a ^^^ b) / 2 ^ k = (a / 2 ^ k) ^^^ (b / 2 ^ k) := by
  have h := @Nat.shiftRight_xor_distrib k a b
  simp only [Nat.shiftRight_eq_div_pow] at h
  exact h
theorem modp (k a b : Nat) : (a ^^^ b) % 2 ^ k = (a % 2 ^ k) ^^^ (b % 2 ^ k) := Nat.xor_mod_two_pow
theorem xor4 (a b c d : Nat) : (a ^^^ b) ^^^ (c ^^^ d) = (a ^^^ c) ^^^ (b ^^^ d) := by
  rw [Nat.xor_assoc, ← Nat.xor_assoc b c d, Nat.xor_comm b c, Nat.xor_assoc c b d, ← Nat.xor_assoc]
theorem bit_cases (n : Nat) : n % 2 = 0 ∨ n % 2 = 1 := by omega
theorem stepB_xor (n m b c : Nat) (hb : b < 2) (hc : c < 2) : stepB (n ^^^ m) (b ^^^ c) = stepB n b ^^^ stepB m c := by
  unfold stepB
  have e1 : 2 * (n ^^^ m) % 65536 = (2 * n % 65536) ^^^ (2 * m % 65536) := by rw [mul2]; exact modp 16 _ _
  have e2 : (n ^^^ m) / 32768 % 2 = (n / 32768 % 2) ^^^ (m / 32768 % 2) := by
    have q := divp 15 n m
    have q2 := modp 1 (n / 32768) (m / 32768)
    simp only [Nat.pow_one] at q2
    have : (n ^^^ m) / 32768 = (n / 32768) ^^^ (m / 32768) := q
    rw [this, q2]
  rw [e1, e2, xor4]
  congr 1
  have k1 : b = 0 ∨ b = 1 := by omega
  have k2 : c = 0 ∨ c = 1 := by omega
  rcases bit_cases (n / 32768) with h1 | h1 <;> rcases bit_cases (m / 32768) with h2 | h2 <;> rcases k1 with rfl | rfl <;> rcases k2 with rfl | rfl <;> rw [h1, h2] <;> decide
theorem bit_xor (v u k : Nat) : (v ^^^ u) / 2 ^ k % 2 = (v / 2 ^ k % 2) ^^^ (u / 2 ^ k % 2) := by
  rw [divp]
  have q2 := modp 1 (v / 2 ^ k) (u / 2 ^ k)
  simp only [Nat.pow_one] at q2
  exact q2
theorem fold_xor (v u : Nat) : ∀ (l : List Nat) (n m : Nat), l.foldl (fun m k => stepB m ((v ^^^ u) / 2 ^ (7 - k) % 2)) (n ^^^ m) = l.foldl (fun m k => stepB m (v / 2 ^ (7 - k) % 2)) n ^^^ l.foldl (fun m k => stepB m (u / 2 ^ (7 - k) % 2)) m
  | [], _, _ => rfl
  | k :: r, n, m => by
    rw [List.foldl_cons, List.foldl_cons, List.foldl_cons, bit_xor, stepB_xor _ _ _ _ (Nat.mod_lt _ (by decide)) (Nat.mod_lt _ (by decide))]
    exact fold_xor v u r _ _
theorem byteB_xor (n m v u : Nat) : byteB (n ^^^ m) (v ^^^ u) = byteB n v ^^^ byteB m u := fold_xor v u _ n m
theorem byteP_xor (n m v u : Nat) : byteP (n ^^^ m) (v ^^^ u) = byteP n v ^^^ byteP m u := by
  have d8 := divp 8 n m
  have e0 : (n ^^^ m) / 256 ^^^ (v ^^^ u) = (n / 256 ^^^ v) ^^^ (m / 256 ^^^ u) := by
    have : (n ^^^ m) / 256 = (n / 256) ^^^ (m / 256) := d8
    rw [this, xor4]
  unfold byteP
  simp only
  rw [e0]
  generalize n / 256 ^^^ v = t
  generalize m / 256 ^^^ u = s
  have d4 : (t ^^^ s) / 16 = (t / 16) ^^^ (s / 16) := divp 4 t s
  rw [d4, xor4 t s]
  generalize t ^^^ t / 16 = a
  generalize s ^^^ s / 16 = b
  have m8 : (n ^^^ m) * 256 = (n * 256) ^^^ (m * 256) := mulp 8 n m
  have m12 : (a ^^^ b) * 4096 = (a * 4096) ^^^ (b * 4096) := mulp 12 a b
  have m5 : (a ^^^ b) * 32 = (a * 32) ^^^ (b * 32) := mulp 5 a b
  have md : ∀ x y : Nat, (x ^^^ y) % 65536 = (x % 65536) ^^^ (y % 65536) := modp 16
  rw [m8, m12, m5, ← md, xor4 (n * 256), xor4 (n * 256 ^^^ a * 4096), xor4 ((n * 256 ^^^ a * 4096) ^^^ a * 32)]
theorem tab_hi : ((List.range 256).all fun h => byteB (h * 256) 0 == byteP (h * 256) 0) = true := by decide +kernel
theorem tab_lo : ((List.range 256).all fun h => byteB h 0 == byteP h 0) = true := by decide +kernel
theorem tab_v : ((List.range 256).all fun h => byteB 0 h == byteP 0 h) = true := by decide +kernel
theorem of_tab {f g : Nat → Nat} {n k : Nat} (h : ((List.range n).all fun h => f h == g h) = true) (hk : k < n) : f k = g k := by
  rw [List.all_eq_true] at h
  have := h k (List.mem_range.mpr hk)
  exact eq_of_beq this
theorem hi_lo {n : Nat} : n = (n / 256 * 256) ^^^ (n % 256) := by
  apply Nat.eq_of_testBit_eq
  intro i
  have e1 : n / 256 * 256 = (n >>> 8) <<< 8 := by rw [Nat.shiftLeft_eq, Nat.shiftRight_eq_div_pow]
  have e2 : n % 256 = n % 2 ^ 8 := rfl
  rw [Nat.testBit_xor, e1, e2, Nat.testBit_mod_two_pow, Nat.testBit_shiftLeft, Nat.testBit_shiftRight]
  by_cases h : i < 8
  · have : ¬ i ≥ 8 := by omega
    simp [h, this]
  · have : i ≥ 8 := by omega
    have e : 8 + (i - 8) = i := by omega
    simp [h, this, e]
theorem byte_eq {n v : Nat} (hn : n < 65536) (hv : v < 256) : byteB n v = byteP n v := by
  have e := @hi_lo n
  have z : v = 0 ^^^ v := by rw [Nat.zero_xor]
  have z0 : n = n ^^^ 0 := by rw [Nat.xor_zero]
  have a1 : byteB n v = byteB n 0 ^^^ byteB 0 v := by
    have := byteB_xor n 0 0 v
    rw [Nat.xor_zero, Nat.zero_xor] at this
    exact this
  have a2 : byteP n v = byteP n 0 ^^^ byteP 0 v := by
    have := byteP_xor n 0 0 v
    rw [Nat.xor_zero, Nat.zero_xor] at this
    exact this
  have b1 : byteB n 0 = byteB (n / 256 * 256) 0 ^^^ byteB (n % 256) 0 := by
    have := byteB_xor (n / 256 * 256) (n % 256) 0 0
    rw [← e] at this
    exact this
  have b2 : byteP n 0 = byteP (n / 256 * 256) 0 ^^^ byteP (n % 256) 0 := by
    have := byteP_xor (n / 256 * 256) (n % 256) 0 0
    rw [← e] at this
    exact this
  rw [a1, a2, b1, b2, of_tab (f := fun h => byteB (h * 256) 0) (g := fun h => byteP (h * 256) 0) tab_hi (show n / 256 < 256 by omega), of_tab (f := fun h => byteB h 0) (g := fun h => byteP h 0) tab_lo (show n % 256 < 256 by omega), of_tab (f := fun h => byteB 0 h) (g := fun h => byteP 0 h) tab_v hv]
/-! ### whole numbers as natural ones -/
theorem xorN (a b : Nat) : Builtin.bitXor (a : Int) (b : Int) = ((a ^^^ b : Nat) : Int) := by
  rw [Bits.bitXor_pp (Int.natCast_nonneg a) (Int.natCast_nonneg b), Int.toNat_natCast, Int.toNat_natCast]
theorem orN (a b : Nat) : Builtin.bitOr (a : Int) (b : Int) = ((a ||| b : Nat) : Int) := by
  rw [Bits.bitOr_pp (Int.natCast_nonneg a) (Int.natCast_nonneg b), Int.toNat_natCast, Int.toNat_natCast]
theorem andN (a b : Nat) : Builtin.bitAnd (a : Int) (b : Int) = ((a &&& b : Nat) : Int) := by
  rw [bitAnd_pp (Int.natCast_nonneg a) (Int.natCast_nonneg b), Int.toNat_natCast, Int.toNat_natCast]
theorem and65535 (a : Nat) : Builtin.bitAnd (a : Int) 65535 = ((a % 65536 : Nat) : Int) := by
  have h := Bits.bitAnd_mask 16 (Int.natCast_nonneg a)
  have e : (2 : Int) ^ 16 - 1 = 65535 := by decide
  rw [e] at h
  rw [h]
  have e2 : (2 : Int) ^ 16 = 65536 := by decide
  rw [e2]
  omega
theorem and1 (a : Nat) : Builtin.bitAnd (a : Int) 1 = ((a % 2 : Nat) : Int) := by
  have h := Bits.bitAnd_mask 1 (Int.natCast_nonneg a)
  have e : (2 : Int) ^ 1 - 1 = 1 := by decide
  rw [e] at h
  rw [h]
  have e2 : (2 : Int) ^ 1 = 2 := by decide
  rw [e2]
  omega
theorem and255 (a : Nat) : Builtin.bitAnd (a : Int) 255 = ((a % 256 : Nat) : Int) := by
  have h := Bits.bitAnd_mask 8 (Int.natCast_nonneg a)
  have e : (2 : Int) ^ 8 - 1 = 255 := by decide
  rw [e] at h
  rw [h]
  have e2 : (2 : Int) ^ 8 = 256 := by decide
  rw [e2]
  omega
/-- (a | b) - (a & b) -/
theorem or_sub_and (a b : Nat) : Builtin.bitOr (a : Int) (b : Int) - Builtin.bitAnd (a : Int) (b : Int) = ((a ^^^ b : Nat) : Int) := by
  rw [orN, andN]
  have h1 := Bits.nat_xor_add_and a b
  have h2 := nat_or_add_and a b
  omega
/-- a list of bytes -/
def Bytes (ns : List Int) : Prop := ∀ n ∈ ns, 0 ≤ n ∧ n < 256
def crcZ (ns : List Int) : Int := (crcN (ns.map Int.toNat) : Nat)
theorem crcN_lt : ∀ vs : List Nat, crcN vs < 65536 := by
  intro vs
  unfold crcN
  have : ∀ (l : List Nat) (n : Nat), n < 65536 → l.foldl byteP n < 65536 := by
    intro l
    induction l with
    | nil => intro n h; exact h
    | cons a r ih => intro n _; exact ih _ (byteP_lt _ _)
  exact this vs 65535 (by decide)
theorem crcZ_nn (ns : List Int) : 0 ≤ crcZ ns ∧ crcZ ns < 65536 := by
  have := crcN_lt (ns.map Int.toNat)
  unfold crcZ
  omega
theorem take_more {α : Type} : ∀ {l : List α} {i : Nat} {x : α}, l[i]? = some x → l.take (i + 1) = l.take i ++ [x]
  | [], i, x, h => by simp at h
  | a :: l, 0, x, h => by
    have e : a = x := Option.some.inj h
    subst e
    rfl
  | a :: l, i + 1, x, h => by
    have ih := take_more (l := l) (i := i) (x := x) h
    show a :: l.take (i + 1) = a :: l.take i ++ [x]
    rw [ih]
    rfl
theorem crcN_more {ns : List Int} {i : Nat} {v : Nat} (h : ns[i]? = some (v : Int)) : crcN ((ns.take (i + 1)).map Int.toNat) = byteP (crcN ((ns.take i).map Int.toNat)) v := by
  unfold crcN
  rw [take_more h, List.map_append, List.foldl_append]
  simp
theorem ints_at {ns : List Int} {i : Nat} {v : V} (h : (ns.map V.int)[i]? = some v) : ∃ z : Int, v = V.int z ∧ ns[i]? = some z := by
  rw [List.getElem?_map] at h
  cases e : ns[i]? with
  | none => rw [e] at h; cases h
  | some z => rw [e] at h; exact ⟨z, (Option.some.inj h).symm, rfl⟩
theorem bytes_at {ns : List Int} {i : Nat} {z : Int} (hb : Bytes ns) (h : ns[i]? = some z) : ∃ v : Nat, z = (v : Int) ∧ v < 256 := by
  have := hb z (List.mem_of_getElem? h)
  exact ⟨z.toNat, by omega, by omega⟩
def spCrc : Sp := fun vs H Q _ => ∃ (a : Addr) (ns : List Int), vs = [.ref a] ∧ H a = some (IL ns) ∧ Bytes ns ∧ Q (.int (crcZ ns)) H
end Dw
namespace Dw
open PySem PySem.Spec PyProof.Rows L2
theorem zdiv (a k : Nat) : (a : Int) / 2 ^ k = ((a / 2 ^ k : Nat) : Int) := by
  rw [two_pow_cast]
  exact (Int.natCast_ediv _ _).symm
theorem zmul (a k : Nat) : (a : Int) * 2 ^ k = ((a * 2 ^ k : Nat) : Int) := by
  rw [two_pow_cast]
  exact (Int.natCast_mul _ _).symm
def takenN (n v : Nat) : Nat := ((n / 256) ^^^ v) ^^^ (((n / 256) ^^^ v) / 16)
theorem takenZ (n v : Nat) : Builtin.bitXor (Builtin.bitXor ((n : Int) / 256) (v : Int)) (Builtin.bitXor ((n : Int) / 256) (v : Int) / 16) = ((takenN n v : Nat) : Int) := by
  have e1 : (n : Int) / 256 = ((n / 256 : Nat) : Int) := zdiv n 8
  rw [e1, xorN]
  have e2 : ((n / 256 ^^^ v : Nat) : Int) / 16 = (((n / 256 ^^^ v) / 16 : Nat) : Int) := zdiv _ 4
  rw [e2, xorN]
  rfl
theorem takenN_lt {n v : Nat} (hn : n < 65536) (hv : v < 256) : takenN n v < 256 := by
  unfold takenN
  have h1 : n / 256 ^^^ v < 2 ^ 8 := xor_lt (by omega) hv
  exact xor_lt (k := 8) h1 (by omega)
/-- the program's step on whole numbers -/
theorem stepZ (n v : Nat) : Builtin.bitAnd (Builtin.bitXor (Builtin.bitXor (Builtin.bitXor ((n : Int) * 256) ((takenN n v : Int) * 4096)) ((takenN n v : Int) * 32)) (takenN n v : Int)) 65535 = ((byteP n v : Nat) : Int) := by
  have e1 : (n : Int) * 256 = ((n * 256 : Nat) : Int) := zmul n 8
  have e2 : (takenN n v : Int) * 4096 = ((takenN n v * 4096 : Nat) : Int) := zmul _ 12
  have e3 : (takenN n v : Int) * 32 = ((takenN n v * 32 : Nat) : Int) := zmul _ 5
  rw [e1, e2, e3, xorN, xorN, xorN, and65535]
  rfl
end Dw
namespace Dw
open PySem PySem.Spec PyProof.Rows L2
theorem SameB.none {p q r : Addr} {H H' : Hp} (s : SameB p H H') (hP : Pool H' p q) (h : H' r = none) : H r = none := by
  cases e : H r with
  | none => rfl
  | some o =>
    by_cases q : r = p
    · subst q
      obtain ⟨u, hu⟩ := hP.there
      rw [hu] at h; cases h
    · rw [s r o q e] at h; cases h
theorem Pool.upd {H : Hp} {p q r : Addr} {o : HO} (h : Pool H p q) (n : H r = none) : Pool (upd H r o) p q := h.same (same_new n o)
theorem Pool.ups {H : Hp} {p q r : Addr} {o : HO} (h : Pool H p q) (n : p ≠ r) (n2 : q ≠ r) : Pool (L2.upd H r o) p q := by
  obtain ⟨ns, a, b, c, d, h1, h2, h3⟩ := h
  exact ⟨ns, a, b, c, d, by rw [upd_ne n]; exact h1, by rw [upd_ne n2]; exact h2, h3⟩
/-- [e for k in range(..)] of numbers that are drawn -/
theorem lc_pool {p q : Addr} {R : Int → Prop} {lo : Int} {n j : Nat} {te : TE} {vs : List Nat} {σ : L2.St} {H1 : Hp} {D : Addr} {Qd : Hp → Prop} (hn : n ≤ 16777215) (hP : Pool H1 p q) (hD : H1 D = none) (hw : ∀ v, wipe ((wipe σ vs).set j v) vs = wipe σ vs)
    (hte : ∀ i H3 (Q' : VK), i < n → Pool H3 p q → SameB p H1 H3 → (∀ v H4, R v → Pool H4 p q → SameB p H3 H4 → Q' (.int v) H4) → te ((wipe σ vs).set j (some (.int (lo + (i : Nat))))) H3 Q')
    (hd : ∀ ns H', ns.length = n → (∀ v ∈ ns, R v) → Pool H' p q → SameB p H1 H' → H' D = some (IL ns) → Qd H') :
    ∃ W : Nat → Nat → Hp → Prop, (∃ m, W 0 m (L2.upd H1 D (.lst []))) ∧ ∀ i m H, W i m H →
      ((Itr lo n).stop i H ∧ Qd H) ∨ ((Itr lo n).go i H ∧ ∃ Nx : Hp → Prop, (∀ H', Nx H' → ∃ m', m' < m ∧ W (i + 1) m' H') ∧ ∀ x H', (Itr lo n).yld i H x H' → gName j x (wipe σ vs) H' fun σ2 H2 => wipe σ2 vs = wipe σ vs ∧ tYes σ2 H2 fun b H3 =>
        if b = true then te σ2 H3 fun y H4 => ∃ acc, H4 D = some (.lst acc) ∧ acc.length < sizeLine ∧ Nx (L2.upd H4 D (.lst (acc ++ [y]))) else Nx H3) := by
  have hDp : p ≠ D := hP.ne hD
  have hDq : q ≠ D := hP.ne2 hD
  refine lc_range (lo := lo) (n := n) (fun i H' => Pool H' p q ∧ SameB p H1 H' ∧ ∃ ns : List Int, H' D = some (IL ns) ∧ ns.length = i ∧ ∀ v ∈ ns, R v) ⟨hP.upd hD, Same.b (same_new hD _), [], upd_same, rfl, fun v h => by cases h⟩ ?_ ?_
  · intro i H hi h
    obtain ⟨h1, h2, ns, h3, h4, h5⟩ := h
    refine ⟨hw _, ?_⟩
    simp only [tYes, if_true]
    refine hte i H _ hi h1 h2 fun v H4 hR hP4 hs => ?_
    have e : H4 D = some (IL ns) := hs D _ hDp.symm h3
    have ez : ns.map V.int ++ [V.int v] = (ns ++ [v]).map V.int := by rw [List.map_append]; rfl
    refine ⟨ns.map V.int, e, by rw [List.length_map, h4]; exact line_lt (by omega), hP4.ups hDp hDq, ?_, ns ++ [v], ?_, by rw [List.length_append, h4]; rfl, ?_⟩
    · intro b o nb hb
      rw [upd_ne (ne_of_none hb hD)]
      exact hs b o nb (h2 b o nb hb)
    · rw [upd_same, ez]
      rfl
    · intro x hx
      rcases List.mem_append.mp hx with hx | hx
      · exact h5 x hx
      · rw [List.mem_singleton.mp hx]; exact hR
  · intro H h
    obtain ⟨h1, h2, ns, h3, h4, h5⟩ := h
    exact hd ns H h4 h5 h1 h2 h3
/-- drawn bytes: a new list -/
def spSomeBytes : Sp := fun vs H Q _ => ∃ (p q : Addr) (m : Int), vs = [.ref p, .int m] ∧ Pool H p q ∧ 0 ≤ m ∧ m < 100000 ∧ ∀ r ns H', Pool H' p q → SameB p H H' → H r = none → H' r = some (IL ns) → Bytes ns → (ns.length : Int) ≤ m → Q (.ref r) H'
def spOr : Sp := fun vs H Q _ => ∃ a b : Nat, vs = [.int a, .int b] ∧ Q (.int ((a ^^^ b : Nat) : Int)) H
end Dw
namespace Dw
open PySem PySem.Spec PyProof.Rows L2
/-- the first k bits of a byte -/
def byteK (n v k : Nat) : Nat := (List.range k).foldl (fun m k => stepB m (v / 2 ^ (7 - k) % 2)) n
theorem byteK_succ (n v k : Nat) : byteK n v (k + 1) = stepB (byteK n v k) (v / 2 ^ (7 - k) % 2) := by
  unfold byteK
  rw [List.range_succ, List.foldl_append]
  rfl
theorem byteK_lt {n v : Nat} (hn : n < 65536) : ∀ k, byteK n v k < 65536
  | 0 => hn
  | k + 1 => by rw [byteK_succ]; exact stepB_lt _ _
theorem stepB_ne {n b : Nat} (h : n / 32768 % 2 ≠ b) : (2 * n % 65536) ^^^ 4129 = stepB n b := by
  unfold stepB
  rw [if_neg h]
theorem stepB_eq {n b : Nat} (h : n / 32768 % 2 = b) : 2 * n % 65536 = stepB n b := by
  unfold stepB
  rw [if_pos h, Nat.xor_zero]
end Dw
namespace Dw
open PySem PySem.Spec PyProof.Rows L2
theorem dep_int (i : Int) : (PyData.int i).depth < 8 := by simp only [PyData.depth]; decide
theorem sh_int (i : Int) : SeqAt.shaped (PyData.int i) = true := by
  unfold SeqAt.shaped
  simp only [PyData.depth, PyData.canLay0]
  rfl
theorem same_int {i : Int} {H : Hp} {Q : VK} {E : XK} (q : Q (.bl true) H) : spSame 8 [.int i, .int i] H Q E := ⟨_, _, .int i, rfl, .int i, .int i, dep_int i, sh_int i, q⟩
theorem dep_ints (ns : List Int) : (PyData.list (ns.map PyData.int)).depth < 8 := by
  have := depthAll_ints ns
  simp only [PyData.depth]
  omega
theorem same_IL {ns : List Int} {r u : Addr} {H : Hp} {Q : VK} {E : XK} (h1 : H r = some (IL ns)) (h2 : H u = some (IL ns)) (q : Q (.bl true) H) : spSame 8 [.ref r, .ref u] H Q E :=
  ⟨_, _, _, rfl, dt_IL h1, dt_IL h2, dep_ints ns, shaped_ints ns, q⟩
end Dw
namespace Dw
open PySem PySem.Spec PyProof.Rows L2
/-! ### bits -/
/-- the eight bits of a byte, the highest first -/
def bits8 (v : Nat) : List Int := [((v / 128 % 2 : Nat) : Int), ((v / 64 % 2 : Nat) : Int), ((v / 32 % 2 : Nat) : Int), ((v / 16 % 2 : Nat) : Int), ((v / 8 % 2 : Nat) : Int), ((v / 4 % 2 : Nat) : Int), ((v / 2 % 2 : Nat) : Int), ((v % 2 : Nat) : Int)]
def spByteBits : Sp := fun vs H Q _ => ∃ v : Nat, vs = [.int (v : Int)] ∧ v < 256 ∧ ∀ r H', Same H H' → H r = none → H' r = some (IL (bits8 v)) → Q (.ref r) H'
end Dw


namespace Dw
open PySem PySem.Spec PyProof.Rows L2
theorem Same.seqT {K : PySem.W.Frag} {H H' : Hp} {a : Addr} {xs : List V} (e : Same H H') (h : SqT K H a xs) : SqT K H' a xs := by
  rcases h with (h | ⟨o, h⟩) | h
  · exact .inl (.inl (e _ _ h))
  · exact .inl (.inr ⟨o, e _ _ h⟩)
  · exact .inr h
/-! ### comprehensions whose items are ints that hang on the place alone (with a test: F) -/
theorem lc_rangeI {lo : Int} {n : Nat} {f : Nat → Int} {j : Nat} {te : TE} {vs : List Nat} {σ : L2.St} {H1 : Hp} {D : Addr} {Qd : Hp → Prop} (hn : n ≤ 16777215) (hD : H1 D = none) (hw : ∀ v, wipe ((wipe σ vs).set j v) vs = wipe σ vs)
    (hte : ∀ i H3 (Q' : VK), i < n → Same H1 H3 → (∀ H4, Same H3 H4 → Q' (.int (f i)) H4) → te ((wipe σ vs).set j (some (.int (lo + (i : Nat))))) H3 Q')
    (hd : ∀ H', Same H1 H' → H' D = some (IL ((List.range n).map f)) → Qd H') :
    ∃ W : Nat → Nat → Hp → Prop, (∃ m, W 0 m (L2.upd H1 D (.lst []))) ∧ ∀ i m H, W i m H →
      ((Itr lo n).stop i H ∧ Qd H) ∨ ((Itr lo n).go i H ∧ ∃ Nx : Hp → Prop, (∀ H', Nx H' → ∃ m', m' < m ∧ W (i + 1) m' H') ∧ ∀ x H', (Itr lo n).yld i H x H' → gName j x (wipe σ vs) H' fun σ2 H2 => wipe σ2 vs = wipe σ vs ∧ tYes σ2 H2 fun b H3 =>
        if b = true then te σ2 H3 fun y H4 => ∃ acc, H4 D = some (.lst acc) ∧ acc.length < sizeLine ∧ Nx (L2.upd H4 D (.lst (acc ++ [y]))) else Nx H3) := by
  refine lc_range (lo := lo) (n := n) (fun i H' => Same H1 H' ∧ H' D = some (IL ((List.range i).map f))) ⟨same_new hD _, upd_same⟩ ?_ ?_
  · intro i H hi h
    obtain ⟨h1, h2⟩ := h
    refine ⟨hw _, ?_⟩
    simp only [tYes, if_true]
    refine hte i H _ hi h1 fun H4 hs => ?_
    have hlt : i < n := hi
    have e : H4 D = some (IL ((List.range i).map f)) := hs D _ h2
    have ez : ((List.range i).map f).map V.int ++ [V.int (f i)] = ((List.range (i + 1)).map f).map V.int := by rw [List.range_succ, List.map_append, List.map_append]; rfl
    refine ⟨_, e, by rw [List.length_map, List.length_map, List.length_range]; exact line_lt (by omega), fun b o hb => ?_, ?_⟩
    · rw [upd_ne (ne_of_none hb hD)]
      exact hs _ _ (h1 b o hb)
    · rw [upd_same, ez]
      rfl
  · intro H h
    exact hd H h.1 h.2
theorem lc_rangeF {lo : Int} {n : Nat} {f : Nat → Int} {kp : Nat → Bool} {tt : TT} {j : Nat} {te : TE} {vs : List Nat} {σ : L2.St} {H1 : Hp} {D : Addr} {Qd : Hp → Prop} (hn : n ≤ 16777215) (hD : H1 D = none) (hw : ∀ v, wipe ((wipe σ vs).set j v) vs = wipe σ vs)
    (htt : ∀ i H3 (Q' : Bool → Hp → Prop), i < n → Same H1 H3 → (∀ H4, Same H3 H4 → Q' (kp i) H4) → tt ((wipe σ vs).set j (some (.int (lo + (i : Nat))))) H3 Q')
    (hte : ∀ i H3 (Q' : VK), i < n → kp i = true → Same H1 H3 → (∀ H4, Same H3 H4 → Q' (.int (f i)) H4) → te ((wipe σ vs).set j (some (.int (lo + (i : Nat))))) H3 Q')
    (hd : ∀ H', Same H1 H' → H' D = some (IL (((List.range n).filter kp).map f)) → Qd H') :
    ∃ W : Nat → Nat → Hp → Prop, (∃ m, W 0 m (L2.upd H1 D (.lst []))) ∧ ∀ i m H, W i m H →
      ((Itr lo n).stop i H ∧ Qd H) ∨ ((Itr lo n).go i H ∧ ∃ Nx : Hp → Prop, (∀ H', Nx H' → ∃ m', m' < m ∧ W (i + 1) m' H') ∧ ∀ x H', (Itr lo n).yld i H x H' → gName j x (wipe σ vs) H' fun σ2 H2 => wipe σ2 vs = wipe σ vs ∧ tt σ2 H2 fun b H3 =>
        if b = true then te σ2 H3 fun y H4 => ∃ acc, H4 D = some (.lst acc) ∧ acc.length < sizeLine ∧ Nx (L2.upd H4 D (.lst (acc ++ [y]))) else Nx H3) := by
  refine lc_range (lo := lo) (n := n) (fun i H' => Same H1 H' ∧ H' D = some (IL (((List.range i).filter kp).map f))) ⟨same_new hD _, upd_same⟩ ?_ ?_
  · intro i H hi h
    obtain ⟨h1, h2⟩ := h
    refine ⟨hw _, ?_⟩
    refine htt i H _ hi h1 fun H4 hs => ?_
    have hlt : i < n := hi
    by_cases c : kp i = true
    · rw [if_pos c]
      refine hte i H4 _ hi c (h1.trans hs) fun H5 hs5 => ?_
      have e : H5 D = some (IL (((List.range i).filter kp).map f)) := hs5 D _ (hs D _ h2)
      have ez : (((List.range i).filter kp).map f).map V.int ++ [V.int (f i)] = (((List.range (i + 1)).filter kp).map f).map V.int := by
        rw [List.range_succ, List.filter_append, List.map_append, List.map_append]
        simp [c]
      refine ⟨_, e, ?_, fun b o hb => ?_, ?_⟩
      · rw [List.length_map, List.length_map]
        have := List.length_filter_le kp (List.range i)
        rw [List.length_range] at this
        exact line_lt (by omega)
      · rw [upd_ne (ne_of_none hb hD)]
        exact hs5 _ _ (hs _ _ (h1 b o hb))
      · rw [upd_same, ez]
        rfl
    · rw [if_neg c]
      refine ⟨h1.trans hs, ?_⟩
      rw [hs D _ h2, List.range_succ, List.filter_append]
      simp [c]
  · intro H h
    exact hd H h.1 h.2
theorem lc_listI {K : PySem.W.Frag} {a : Addr} {xs : List V} {f : Nat → Int} {j : Nat} {te : TE} {vs : List Nat} {σ : L2.St} {H1 : Hp} {D : Addr} {Qd : Hp → Prop} (hn : xs.length ≤ 16777215) (hS : SqL K H1 a xs) (hD : H1 D = none) (hw : ∀ v, wipe ((wipe σ vs).set j v) vs = wipe σ vs)
    (hte : ∀ i x H3 (Q' : VK), xs[i]? = some x → Same H1 H3 → (∀ H4, Same H3 H4 → Q' (.int (f i)) H4) → te ((wipe σ vs).set j (some (x))) H3 Q')
    (hd : ∀ H', Same H1 H' → H' D = some (IL ((List.range xs.length).map f)) → Qd H') :
    ∃ W : Nat → Nat → Hp → Prop, (∃ m, W 0 m (L2.upd H1 D (.lst []))) ∧ ∀ i m H, W i m H →
      ((Itl K a).stop i H ∧ Qd H) ∨ ((Itl K a).go i H ∧ ∃ Nx : Hp → Prop, (∀ H', Nx H' → ∃ m', m' < m ∧ W (i + 1) m' H') ∧ ∀ x H', (Itl K a).yld i H x H' → gName j x (wipe σ vs) H' fun σ2 H2 => wipe σ2 vs = wipe σ vs ∧ tYes σ2 H2 fun b H3 =>
        if b = true then te σ2 H3 fun y H4 => ∃ acc, H4 D = some (.lst acc) ∧ acc.length < sizeLine ∧ Nx (L2.upd H4 D (.lst (acc ++ [y]))) else Nx H3) := by
  refine lc_list (K := K) (a := a) (xs := xs) (fun i H' => Same H1 H' ∧ H' D = some (IL ((List.range i).map f))) ⟨same_new hD _, upd_same⟩ (fun i H' _ h => ?_) ?_ ?_
  · exact Same.seq h.1 hS
  · intro i x H hi h
    obtain ⟨h1, h2⟩ := h
    refine ⟨hw _, ?_⟩
    simp only [tYes, if_true]
    refine hte i _ H _ hi h1 fun H4 hs => ?_
    have hlt : i < xs.length := (List.getElem?_eq_some_iff.mp hi).1
    have e : H4 D = some (IL ((List.range i).map f)) := hs D _ h2
    have ez : ((List.range i).map f).map V.int ++ [V.int (f i)] = ((List.range (i + 1)).map f).map V.int := by rw [List.range_succ, List.map_append, List.map_append]; rfl
    refine ⟨_, e, by rw [List.length_map, List.length_map, List.length_range]; exact line_lt (by omega), fun b o hb => ?_, ?_⟩
    · rw [upd_ne (ne_of_none hb hD)]
      exact hs _ _ (h1 b o hb)
    · rw [upd_same, ez]
      rfl
  · intro H h
    exact hd H h.1 h.2
theorem lc_listF {K : PySem.W.Frag} {a : Addr} {xs : List V} {f : Nat → Int} {kp : Nat → Bool} {tt : TT} {j : Nat} {te : TE} {vs : List Nat} {σ : L2.St} {H1 : Hp} {D : Addr} {Qd : Hp → Prop} (hn : xs.length ≤ 16777215) (hS : SqL K H1 a xs) (hD : H1 D = none) (hw : ∀ v, wipe ((wipe σ vs).set j v) vs = wipe σ vs)
    (htt : ∀ i x H3 (Q' : Bool → Hp → Prop), xs[i]? = some x → Same H1 H3 → (∀ H4, Same H3 H4 → Q' (kp i) H4) → tt ((wipe σ vs).set j (some (x))) H3 Q')
    (hte : ∀ i x H3 (Q' : VK), xs[i]? = some x → kp i = true → Same H1 H3 → (∀ H4, Same H3 H4 → Q' (.int (f i)) H4) → te ((wipe σ vs).set j (some (x))) H3 Q')
    (hd : ∀ H', Same H1 H' → H' D = some (IL (((List.range xs.length).filter kp).map f)) → Qd H') :
    ∃ W : Nat → Nat → Hp → Prop, (∃ m, W 0 m (L2.upd H1 D (.lst []))) ∧ ∀ i m H, W i m H →
      ((Itl K a).stop i H ∧ Qd H) ∨ ((Itl K a).go i H ∧ ∃ Nx : Hp → Prop, (∀ H', Nx H' → ∃ m', m' < m ∧ W (i + 1) m' H') ∧ ∀ x H', (Itl K a).yld i H x H' → gName j x (wipe σ vs) H' fun σ2 H2 => wipe σ2 vs = wipe σ vs ∧ tt σ2 H2 fun b H3 =>
        if b = true then te σ2 H3 fun y H4 => ∃ acc, H4 D = some (.lst acc) ∧ acc.length < sizeLine ∧ Nx (L2.upd H4 D (.lst (acc ++ [y]))) else Nx H3) := by
  refine lc_list (K := K) (a := a) (xs := xs) (fun i H' => Same H1 H' ∧ H' D = some (IL (((List.range i).filter kp).map f))) ⟨same_new hD _, upd_same⟩ (fun i H' _ h => ?_) ?_ ?_
  · exact Same.seq h.1 hS
  · intro i x H hi h
    obtain ⟨h1, h2⟩ := h
    refine ⟨hw _, ?_⟩
    refine htt i _ H _ hi h1 fun H4 hs => ?_
    have hlt : i < xs.length := (List.getElem?_eq_some_iff.mp hi).1
    by_cases c : kp i = true
    · rw [if_pos c]
      refine hte i _ H4 _ hi c (h1.trans hs) fun H5 hs5 => ?_
      have e : H5 D = some (IL (((List.range i).filter kp).map f)) := hs5 D _ (hs D _ h2)
      have ez : (((List.range i).filter kp).map f).map V.int ++ [V.int (f i)] = (((List.range (i + 1)).filter kp).map f).map V.int := by
        rw [List.range_succ, List.filter_append, List.map_append, List.map_append]
        simp [c]
      refine ⟨_, e, ?_, fun b o hb => ?_, ?_⟩
      · rw [List.length_map, List.length_map]
        have := List.length_filter_le kp (List.range i)
        rw [List.length_range] at this
        exact line_lt (by omega)
      · rw [upd_ne (ne_of_none hb hD)]
        exact hs5 _ _ (hs _ _ (h1 b o hb))
      · rw [upd_same, ez]
        rfl
    · rw [if_neg c]
      refine ⟨h1.trans hs, ?_⟩
      rw [hs D _ h2, List.range_succ, List.filter_append]
      simp [c]
  · intro H h
    exact hd H h.1 h.2
theorem lc_tupI {K : PySem.W.Frag} {a : Addr} {xs : List V} {f : Nat → Int} {j : Nat} {te : TE} {vs : List Nat} {σ : L2.St} {H1 : Hp} {D : Addr} {Qd : Hp → Prop} (hn : xs.length ≤ 16777215) (hS : SqT K H1 a xs) (hD : H1 D = none) (hw : ∀ v, wipe ((wipe σ vs).set j v) vs = wipe σ vs)
    (hte : ∀ i x H3 (Q' : VK), xs[i]? = some x → Same H1 H3 → (∀ H4, Same H3 H4 → Q' (.int (f i)) H4) → te ((wipe σ vs).set j (some (x))) H3 Q')
    (hd : ∀ H', Same H1 H' → H' D = some (IL ((List.range xs.length).map f)) → Qd H') :
    ∃ W : Nat → Nat → Hp → Prop, (∃ m, W 0 m (L2.upd H1 D (.lst []))) ∧ ∀ i m H, W i m H →
      ((Itt K a).stop i H ∧ Qd H) ∨ ((Itt K a).go i H ∧ ∃ Nx : Hp → Prop, (∀ H', Nx H' → ∃ m', m' < m ∧ W (i + 1) m' H') ∧ ∀ x H', (Itt K a).yld i H x H' → gName j x (wipe σ vs) H' fun σ2 H2 => wipe σ2 vs = wipe σ vs ∧ tYes σ2 H2 fun b H3 =>
        if b = true then te σ2 H3 fun y H4 => ∃ acc, H4 D = some (.lst acc) ∧ acc.length < sizeLine ∧ Nx (L2.upd H4 D (.lst (acc ++ [y]))) else Nx H3) := by
  refine lc_tup (K := K) (a := a) (xs := xs) (fun i H' => Same H1 H' ∧ H' D = some (IL ((List.range i).map f))) ⟨same_new hD _, upd_same⟩ (fun i H' _ h => ?_) ?_ ?_
  · exact Same.seqT h.1 hS
  · intro i x H hi h
    obtain ⟨h1, h2⟩ := h
    refine ⟨hw _, ?_⟩
    simp only [tYes, if_true]
    refine hte i _ H _ hi h1 fun H4 hs => ?_
    have hlt : i < xs.length := (List.getElem?_eq_some_iff.mp hi).1
    have e : H4 D = some (IL ((List.range i).map f)) := hs D _ h2
    have ez : ((List.range i).map f).map V.int ++ [V.int (f i)] = ((List.range (i + 1)).map f).map V.int := by rw [List.range_succ, List.map_append, List.map_append]; rfl
    refine ⟨_, e, by rw [List.length_map, List.length_map, List.length_range]; exact line_lt (by omega), fun b o hb => ?_, ?_⟩
    · rw [upd_ne (ne_of_none hb hD)]
      exact hs _ _ (h1 b o hb)
    · rw [upd_same, ez]
      rfl
  · intro H h
    exact hd H h.1 h.2
theorem lc_tupF {K : PySem.W.Frag} {a : Addr} {xs : List V} {f : Nat → Int} {kp : Nat → Bool} {tt : TT} {j : Nat} {te : TE} {vs : List Nat} {σ : L2.St} {H1 : Hp} {D : Addr} {Qd : Hp → Prop} (hn : xs.length ≤ 16777215) (hS : SqT K H1 a xs) (hD : H1 D = none) (hw : ∀ v, wipe ((wipe σ vs).set j v) vs = wipe σ vs)
    (htt : ∀ i x H3 (Q' : Bool → Hp → Prop), xs[i]? = some x → Same H1 H3 → (∀ H4, Same H3 H4 → Q' (kp i) H4) → tt ((wipe σ vs).set j (some (x))) H3 Q')
    (hte : ∀ i x H3 (Q' : VK), xs[i]? = some x → kp i = true → Same H1 H3 → (∀ H4, Same H3 H4 → Q' (.int (f i)) H4) → te ((wipe σ vs).set j (some (x))) H3 Q')
    (hd : ∀ H', Same H1 H' → H' D = some (IL (((List.range xs.length).filter kp).map f)) → Qd H') :
    ∃ W : Nat → Nat → Hp → Prop, (∃ m, W 0 m (L2.upd H1 D (.lst []))) ∧ ∀ i m H, W i m H →
      ((Itt K a).stop i H ∧ Qd H) ∨ ((Itt K a).go i H ∧ ∃ Nx : Hp → Prop, (∀ H', Nx H' → ∃ m', m' < m ∧ W (i + 1) m' H') ∧ ∀ x H', (Itt K a).yld i H x H' → gName j x (wipe σ vs) H' fun σ2 H2 => wipe σ2 vs = wipe σ vs ∧ tt σ2 H2 fun b H3 =>
        if b = true then te σ2 H3 fun y H4 => ∃ acc, H4 D = some (.lst acc) ∧ acc.length < sizeLine ∧ Nx (L2.upd H4 D (.lst (acc ++ [y]))) else Nx H3) := by
  refine lc_tup (K := K) (a := a) (xs := xs) (fun i H' => Same H1 H' ∧ H' D = some (IL (((List.range i).filter kp).map f))) ⟨same_new hD _, upd_same⟩ (fun i H' _ h => ?_) ?_ ?_
  · exact Same.seqT h.1 hS
  · intro i x H hi h
    obtain ⟨h1, h2⟩ := h
    refine ⟨hw _, ?_⟩
    refine htt i _ H _ hi h1 fun H4 hs => ?_
    have hlt : i < xs.length := (List.getElem?_eq_some_iff.mp hi).1
    by_cases c : kp i = true
    · rw [if_pos c]
      refine hte i _ H4 _ hi c (h1.trans hs) fun H5 hs5 => ?_
      have e : H5 D = some (IL (((List.range i).filter kp).map f)) := hs5 D _ (hs D _ h2)
      have ez : (((List.range i).filter kp).map f).map V.int ++ [V.int (f i)] = (((List.range (i + 1)).filter kp).map f).map V.int := by
        rw [List.range_succ, List.filter_append, List.map_append, List.map_append]
        simp [c]
      refine ⟨_, e, ?_, fun b o hb => ?_, ?_⟩
      · rw [List.length_map, List.length_map]
        have := List.length_filter_le kp (List.range i)
        rw [List.length_range] at this
        exact line_lt (by omega)
      · rw [upd_ne (ne_of_none hb hD)]
        exact hs5 _ _ (hs _ _ (h1 b o hb))
      · rw [upd_same, ez]
        rfl
    · rw [if_neg c]
      refine ⟨h1.trans hs, ?_⟩
      rw [hs D _ h2, List.range_succ, List.filter_append]
      simp [c]
  · intro H h
    exact hd H h.1 h.2
/-! ### .. any values -/
theorem lc_rangeV {lo : Int} {n : Nat} {f : Nat → V} {j : Nat} {te : TE} {vs : List Nat} {σ : L2.St} {H1 : Hp} {D : Addr} {Qd : Hp → Prop} (hn : n ≤ 16777215) (hD : H1 D = none) (hw : ∀ v, wipe ((wipe σ vs).set j v) vs = wipe σ vs)
    (hte : ∀ i H3 (Q' : VK), i < n → Same H1 H3 → (∀ H4, Same H3 H4 → Q' (f i) H4) → te ((wipe σ vs).set j (some (.int (lo + (i : Nat))))) H3 Q')
    (hd : ∀ H', Same H1 H' → H' D = some (.lst ((List.range n).map f)) → Qd H') :
    ∃ W : Nat → Nat → Hp → Prop, (∃ m, W 0 m (L2.upd H1 D (.lst []))) ∧ ∀ i m H, W i m H →
      ((Itr lo n).stop i H ∧ Qd H) ∨ ((Itr lo n).go i H ∧ ∃ Nx : Hp → Prop, (∀ H', Nx H' → ∃ m', m' < m ∧ W (i + 1) m' H') ∧ ∀ x H', (Itr lo n).yld i H x H' → gName j x (wipe σ vs) H' fun σ2 H2 => wipe σ2 vs = wipe σ vs ∧ tYes σ2 H2 fun b H3 =>
        if b = true then te σ2 H3 fun y H4 => ∃ acc, H4 D = some (.lst acc) ∧ acc.length < sizeLine ∧ Nx (L2.upd H4 D (.lst (acc ++ [y]))) else Nx H3) := by
  refine lc_range (lo := lo) (n := n) (fun i H' => Same H1 H' ∧ H' D = some (.lst ((List.range i).map f))) ⟨same_new hD _, upd_same⟩ ?_ ?_
  · intro i H hi h
    obtain ⟨h1, h2⟩ := h
    refine ⟨hw _, ?_⟩
    simp only [tYes, if_true]
    refine hte i H _ hi h1 fun H4 hs => ?_
    have hlt : i < n := hi
    have e : H4 D = some (.lst ((List.range i).map f)) := hs D _ h2
    have ez : ((List.range i).map f) ++ [f i] = ((List.range (i + 1)).map f) := by rw [List.range_succ, List.map_append]; rfl
    refine ⟨_, e, by rw [List.length_map, List.length_range]; exact line_lt (by omega), fun b o hb => ?_, ?_⟩
    · rw [upd_ne (ne_of_none hb hD)]
      exact hs _ _ (h1 b o hb)
    · rw [upd_same, ez]
  · intro H h
    exact hd H h.1 h.2
theorem lc_rangeVF {lo : Int} {n : Nat} {f : Nat → V} {kp : Nat → Bool} {tt : TT} {j : Nat} {te : TE} {vs : List Nat} {σ : L2.St} {H1 : Hp} {D : Addr} {Qd : Hp → Prop} (hn : n ≤ 16777215) (hD : H1 D = none) (hw : ∀ v, wipe ((wipe σ vs).set j v) vs = wipe σ vs)
    (htt : ∀ i H3 (Q' : Bool → Hp → Prop), i < n → Same H1 H3 → (∀ H4, Same H3 H4 → Q' (kp i) H4) → tt ((wipe σ vs).set j (some (.int (lo + (i : Nat))))) H3 Q')
    (hte : ∀ i H3 (Q' : VK), i < n → kp i = true → Same H1 H3 → (∀ H4, Same H3 H4 → Q' (f i) H4) → te ((wipe σ vs).set j (some (.int (lo + (i : Nat))))) H3 Q')
    (hd : ∀ H', Same H1 H' → H' D = some (.lst (((List.range n).filter kp).map f)) → Qd H') :
    ∃ W : Nat → Nat → Hp → Prop, (∃ m, W 0 m (L2.upd H1 D (.lst []))) ∧ ∀ i m H, W i m H →
      ((Itr lo n).stop i H ∧ Qd H) ∨ ((Itr lo n).go i H ∧ ∃ Nx : Hp → Prop, (∀ H', Nx H' → ∃ m', m' < m ∧ W (i + 1) m' H') ∧ ∀ x H', (Itr lo n).yld i H x H' → gName j x (wipe σ vs) H' fun σ2 H2 => wipe σ2 vs = wipe σ vs ∧ tt σ2 H2 fun b H3 =>
        if b = true then te σ2 H3 fun y H4 => ∃ acc, H4 D = some (.lst acc) ∧ acc.length < sizeLine ∧ Nx (L2.upd H4 D (.lst (acc ++ [y]))) else Nx H3) := by
  refine lc_range (lo := lo) (n := n) (fun i H' => Same H1 H' ∧ H' D = some (.lst (((List.range i).filter kp).map f))) ⟨same_new hD _, upd_same⟩ ?_ ?_
  · intro i H hi h
    obtain ⟨h1, h2⟩ := h
    refine ⟨hw _, ?_⟩
    refine htt i H _ hi h1 fun H4 hs => ?_
    have hlt : i < n := hi
    by_cases c : kp i = true
    · rw [if_pos c]
      refine hte i H4 _ hi c (h1.trans hs) fun H5 hs5 => ?_
      have e : H5 D = some (.lst (((List.range i).filter kp).map f)) := hs5 D _ (hs D _ h2)
      have ez : (((List.range i).filter kp).map f) ++ [f i] = (((List.range (i + 1)).filter kp).map f) := by
        rw [List.range_succ, List.filter_append, List.map_append]
        simp [c]
      refine ⟨_, e, ?_, fun b o hb => ?_, ?_⟩
      · rw [List.length_map]
        have := List.length_filter_le kp (List.range i)
        rw [List.length_range] at this
        exact line_lt (by omega)
      · rw [upd_ne (ne_of_none hb hD)]
        exact hs5 _ _ (hs _ _ (h1 b o hb))
      · rw [upd_same, ez]
    · rw [if_neg c]
      refine ⟨h1.trans hs, ?_⟩
      rw [hs D _ h2, List.range_succ, List.filter_append]
      simp [c]
  · intro H h
    exact hd H h.1 h.2
theorem lc_listV {K : PySem.W.Frag} {a : Addr} {xs : List V} {f : Nat → V} {j : Nat} {te : TE} {vs : List Nat} {σ : L2.St} {H1 : Hp} {D : Addr} {Qd : Hp → Prop} (hn : xs.length ≤ 16777215) (hS : SqL K H1 a xs) (hD : H1 D = none) (hw : ∀ v, wipe ((wipe σ vs).set j v) vs = wipe σ vs)
    (hte : ∀ i x H3 (Q' : VK), xs[i]? = some x → Same H1 H3 → (∀ H4, Same H3 H4 → Q' (f i) H4) → te ((wipe σ vs).set j (some (x))) H3 Q')
    (hd : ∀ H', Same H1 H' → H' D = some (.lst ((List.range xs.length).map f)) → Qd H') :
    ∃ W : Nat → Nat → Hp → Prop, (∃ m, W 0 m (L2.upd H1 D (.lst []))) ∧ ∀ i m H, W i m H →
      ((Itl K a).stop i H ∧ Qd H) ∨ ((Itl K a).go i H ∧ ∃ Nx : Hp → Prop, (∀ H', Nx H' → ∃ m', m' < m ∧ W (i + 1) m' H') ∧ ∀ x H', (Itl K a).yld i H x H' → gName j x (wipe σ vs) H' fun σ2 H2 => wipe σ2 vs = wipe σ vs ∧ tYes σ2 H2 fun b H3 =>
        if b = true then te σ2 H3 fun y H4 => ∃ acc, H4 D = some (.lst acc) ∧ acc.length < sizeLine ∧ Nx (L2.upd H4 D (.lst (acc ++ [y]))) else Nx H3) := by
  refine lc_list (K := K) (a := a) (xs := xs) (fun i H' => Same H1 H' ∧ H' D = some (.lst ((List.range i).map f))) ⟨same_new hD _, upd_same⟩ (fun i H' _ h => ?_) ?_ ?_
  · exact Same.seq h.1 hS
  · intro i x H hi h
    obtain ⟨h1, h2⟩ := h
    refine ⟨hw _, ?_⟩
    simp only [tYes, if_true]
    refine hte i _ H _ hi h1 fun H4 hs => ?_
    have hlt : i < xs.length := (List.getElem?_eq_some_iff.mp hi).1
    have e : H4 D = some (.lst ((List.range i).map f)) := hs D _ h2
    have ez : ((List.range i).map f) ++ [f i] = ((List.range (i + 1)).map f) := by rw [List.range_succ, List.map_append]; rfl
    refine ⟨_, e, by rw [List.length_map, List.length_range]; exact line_lt (by omega), fun b o hb => ?_, ?_⟩
    · rw [upd_ne (ne_of_none hb hD)]
      exact hs _ _ (h1 b o hb)
    · rw [upd_same, ez]
  · intro H h
    exact hd H h.1 h.2
theorem lc_listVF {K : PySem.W.Frag} {a : Addr} {xs : List V} {f : Nat → V} {kp : Nat → Bool} {tt : TT} {j : Nat} {te : TE} {vs : List Nat} {σ : L2.St} {H1 : Hp} {D : Addr} {Qd : Hp → Prop} (hn : xs.length ≤ 16777215) (hS : SqL K H1 a xs) (hD : H1 D = none) (hw : ∀ v, wipe ((wipe σ vs).set j v) vs = wipe σ vs)
    (htt : ∀ i x H3 (Q' : Bool → Hp → Prop), xs[i]? = some x → Same H1 H3 → (∀ H4, Same H3 H4 → Q' (kp i) H4) → tt ((wipe σ vs).set j (some (x))) H3 Q')
    (hte : ∀ i x H3 (Q' : VK), xs[i]? = some x → kp i = true → Same H1 H3 → (∀ H4, Same H3 H4 → Q' (f i) H4) → te ((wipe σ vs).set j (some (x))) H3 Q')
    (hd : ∀ H', Same H1 H' → H' D = some (.lst (((List.range xs.length).filter kp).map f)) → Qd H') :
    ∃ W : Nat → Nat → Hp → Prop, (∃ m, W 0 m (L2.upd H1 D (.lst []))) ∧ ∀ i m H, W i m H →
      ((Itl K a).stop i H ∧ Qd H) ∨ ((Itl K a).go i H ∧ ∃ Nx : Hp → Prop, (∀ H', Nx H' → ∃ m', m' < m ∧ W (i + 1) m' H') ∧ ∀ x H', (Itl K a).yld i H x H' → gName j x (wipe σ vs) H' fun σ2 H2 => wipe σ2 vs = wipe σ vs ∧ tt σ2 H2 fun b H3 =>
        if b = true then te σ2 H3 fun y H4 => ∃ acc, H4 D = some (.lst acc) ∧ acc.length < sizeLine ∧ Nx (L2.upd H4 D (.lst (acc ++ [y]))) else Nx H3) := by
  refine lc_list (K := K) (a := a) (xs := xs) (fun i H' => Same H1 H' ∧ H' D = some (.lst (((List.range i).filter kp).map f))) ⟨same_new hD _, upd_same⟩ (fun i H' _ h => ?_) ?_ ?_
  · exact Same.seq h.1 hS
  · intro i x H hi h
    obtain ⟨h1, h2⟩ := h
    refine ⟨hw _, ?_⟩
    refine htt i _ H _ hi h1 fun H4 hs => ?_
    have hlt : i < xs.length := (List.getElem?_eq_some_iff.mp hi).1
    by_cases c : kp i = true
    · rw [if_pos c]
      refine hte i _ H4 _ hi c (h1.trans hs) fun H5 hs5 => ?_
      have e : H5 D = some (.lst (((List.range i).filter kp).map f)) := hs5 D _ (hs D _ h2)
      have ez : (((List.range i).filter kp).map f) ++ [f i] = (((List.range (i + 1)).filter kp).map f) := by
        rw [List.range_succ, List.filter_append, List.map_append]
        simp [c]
      refine ⟨_, e, ?_, fun b o hb => ?_, ?_⟩
      · rw [List.length_map]
        have := List.length_filter_le kp (List.range i)
        rw [List.length_range] at this
        exact line_lt (by omega)
      · rw [upd_ne (ne_of_none hb hD)]
        exact hs5 _ _ (hs _ _ (h1 b o hb))
      · rw [upd_same, ez]
    · rw [if_neg c]
      refine ⟨h1.trans hs, ?_⟩
      rw [hs D _ h2, List.range_succ, List.filter_append]
      simp [c]
  · intro H h
    exact hd H h.1 h.2
theorem lc_tupV {K : PySem.W.Frag} {a : Addr} {xs : List V} {f : Nat → V} {j : Nat} {te : TE} {vs : List Nat} {σ : L2.St} {H1 : Hp} {D : Addr} {Qd : Hp → Prop} (hn : xs.length ≤ 16777215) (hS : SqT K H1 a xs) (hD : H1 D = none) (hw : ∀ v, wipe ((wipe σ vs).set j v) vs = wipe σ vs)
    (hte : ∀ i x H3 (Q' : VK), xs[i]? = some x → Same H1 H3 → (∀ H4, Same H3 H4 → Q' (f i) H4) → te ((wipe σ vs).set j (some (x))) H3 Q')
    (hd : ∀ H', Same H1 H' → H' D = some (.lst ((List.range xs.length).map f)) → Qd H') :
    ∃ W : Nat → Nat → Hp → Prop, (∃ m, W 0 m (L2.upd H1 D (.lst []))) ∧ ∀ i m H, W i m H →
      ((Itt K a).stop i H ∧ Qd H) ∨ ((Itt K a).go i H ∧ ∃ Nx : Hp → Prop, (∀ H', Nx H' → ∃ m', m' < m ∧ W (i + 1) m' H') ∧ ∀ x H', (Itt K a).yld i H x H' → gName j x (wipe σ vs) H' fun σ2 H2 => wipe σ2 vs = wipe σ vs ∧ tYes σ2 H2 fun b H3 =>
        if b = true then te σ2 H3 fun y H4 => ∃ acc, H4 D = some (.lst acc) ∧ acc.length < sizeLine ∧ Nx (L2.upd H4 D (.lst (acc ++ [y]))) else Nx H3) := by
  refine lc_tup (K := K) (a := a) (xs := xs) (fun i H' => Same H1 H' ∧ H' D = some (.lst ((List.range i).map f))) ⟨same_new hD _, upd_same⟩ (fun i H' _ h => ?_) ?_ ?_
  · exact Same.seqT h.1 hS
  · intro i x H hi h
    obtain ⟨h1, h2⟩ := h
    refine ⟨hw _, ?_⟩
    simp only [tYes, if_true]
    refine hte i _ H _ hi h1 fun H4 hs => ?_
    have hlt : i < xs.length := (List.getElem?_eq_some_iff.mp hi).1
    have e : H4 D = some (.lst ((List.range i).map f)) := hs D _ h2
    have ez : ((List.range i).map f) ++ [f i] = ((List.range (i + 1)).map f) := by rw [List.range_succ, List.map_append]; rfl
    refine ⟨_, e, by rw [List.length_map, List.length_range]; exact line_lt (by omega), fun b o hb => ?_, ?_⟩
    · rw [upd_ne (ne_of_none hb hD)]
      exact hs _ _ (h1 b o hb)
    · rw [upd_same, ez]
  · intro H h
    exact hd H h.1 h.2
theorem lc_tupVF {K : PySem.W.Frag} {a : Addr} {xs : List V} {f : Nat → V} {kp : Nat → Bool} {tt : TT} {j : Nat} {te : TE} {vs : List Nat} {σ : L2.St} {H1 : Hp} {D : Addr} {Qd : Hp → Prop} (hn : xs.length ≤ 16777215) (hS : SqT K H1 a xs) (hD : H1 D = none) (hw : ∀ v, wipe ((wipe σ vs).set j v) vs = wipe σ vs)
    (htt : ∀ i x H3 (Q' : Bool → Hp → Prop), xs[i]? = some x → Same H1 H3 → (∀ H4, Same H3 H4 → Q' (kp i) H4) → tt ((wipe σ vs).set j (some (x))) H3 Q')
    (hte : ∀ i x H3 (Q' : VK), xs[i]? = some x → kp i = true → Same H1 H3 → (∀ H4, Same H3 H4 → Q' (f i) H4) → te ((wipe σ vs).set j (some (x))) H3 Q')
    (hd : ∀ H', Same H1 H' → H' D = some (.lst (((List.range xs.length).filter kp).map f)) → Qd H') :
    ∃ W : Nat → Nat → Hp → Prop, (∃ m, W 0 m (L2.upd H1 D (.lst []))) ∧ ∀ i m H, W i m H →
      ((Itt K a).stop i H ∧ Qd H) ∨ ((Itt K a).go i H ∧ ∃ Nx : Hp → Prop, (∀ H', Nx H' → ∃ m', m' < m ∧ W (i + 1) m' H') ∧ ∀ x H', (Itt K a).yld i H x H' → gName j x (wipe σ vs) H' fun σ2 H2 => wipe σ2 vs = wipe σ vs ∧ tt σ2 H2 fun b H3 =>
        if b = true then te σ2 H3 fun y H4 => ∃ acc, H4 D = some (.lst acc) ∧ acc.length < sizeLine ∧ Nx (L2.upd H4 D (.lst (acc ++ [y]))) else Nx H3) := by
  refine lc_tup (K := K) (a := a) (xs := xs) (fun i H' => Same H1 H' ∧ H' D = some (.lst (((List.range i).filter kp).map f))) ⟨same_new hD _, upd_same⟩ (fun i H' _ h => ?_) ?_ ?_
  · exact Same.seqT h.1 hS
  · intro i x H hi h
    obtain ⟨h1, h2⟩ := h
    refine ⟨hw _, ?_⟩
    refine htt i _ H _ hi h1 fun H4 hs => ?_
    have hlt : i < xs.length := (List.getElem?_eq_some_iff.mp hi).1
    by_cases c : kp i = true
    · rw [if_pos c]
      refine hte i _ H4 _ hi c (h1.trans hs) fun H5 hs5 => ?_
      have e : H5 D = some (.lst (((List.range i).filter kp).map f)) := hs5 D _ (hs D _ h2)
      have ez : (((List.range i).filter kp).map f) ++ [f i] = (((List.range (i + 1)).filter kp).map f) := by
        rw [List.range_succ, List.filter_append, List.map_append]
        simp [c]
      refine ⟨_, e, ?_, fun b o hb => ?_, ?_⟩
      · rw [List.length_map]
        have := List.length_filter_le kp (List.range i)
        rw [List.length_range] at this
        exact line_lt (by omega)
      · rw [upd_ne (ne_of_none hb hD)]
        exact hs5 _ _ (hs _ _ (h1 b o hb))
      · rw [upd_same, ez]
    · rw [if_neg c]
      refine ⟨h1.trans hs, ?_⟩
      rw [hs D _ h2, List.range_succ, List.filter_append]
      simp [c]
  · intro H h
    exact hd H h.1 h.2
def BL (bs : List Bool) : HO := .lst (bs.map V.bl)
def rAllB : List V → Hp → VK → Prop := fun vs H Q => ∃ (a : Addr) (bs : List Bool), vs = [V.ref a] ∧ H a = some (BL bs) ∧ Q (.bl (bs.all id)) H
def rAnyB : List V → Hp → VK → Prop := fun vs H Q => ∃ (a : Addr) (bs : List Bool), vs = [V.ref a] ∧ H a = some (BL bs) ∧ Q (.bl (bs.any id)) H
theorem cr_allB {X : Cx} (hc : X.calm = true) : CallR X (.builtin "all") rAllB := CallR.imp (cr_all hc) fun xs H Q h => by
  obtain ⟨a, bs, e, h1, q⟩ := h
  exact ⟨a, bs, e, .of h1, q⟩
theorem cr_anyB {X : Cx} (hc : X.calm = true) : CallR X (.builtin "any") rAnyB := CallR.imp (cr_any hc) fun xs H Q h => by
  obtain ⟨a, bs, e, h1, q⟩ := h
  exact ⟨a, bs, e, .of h1, q⟩
theorem BL_inj {a b : List Bool} : (BL a = BL b) = (a = b) := by
  apply propext
  constructor
  · intro h
    unfold BL at h
    injection h with h
    exact List.map_inj_right (fun x y e => V.bl.inj e) |>.mp h
  · intro h
    rw [h]
theorem BL_of {H : Hp} {D : Addr} {n : Nat} {f : Nat → Bool} (h : H D = some (.lst ((List.range n).map fun i => V.bl (f i)))) : H D = some (BL ((List.range n).map f)) := by
  rw [h]
  unfold BL
  rw [List.map_map]
  rfl
/-- all of the items of a list, by their places -/
theorem all_items {ns : List Int} {p : Int → Bool} : (((List.range ns.length).map fun i => p (ns.getD i 0)).all id) = ns.all p := by
  induction ns with
  | nil => rfl
  | cons n r ih =>
    rw [List.length_cons, List.range_succ_eq_map, List.map_cons, List.map_map, List.all_cons, List.all_cons, ← ih]
    rfl
end Dw

namespace Dw
open PySem PySem.Spec PyProof.Rows L2
/-- what the top says of an own error class over ValueError, without an __init__ of its own -/
structure ExcF (K : PySem.W.Frag) (mg : Str → Option Value) (x : Str) (C : Addr) : Prop where
  g : mg x = some (.ref C)
  x : PySem.W.excIn K C [.type "ValueError", .type "Exception", .type "BaseException", .type "object"] "ValueError.__new__" = true
  k : PySem.W.keepIn K (.ref C) = true
  b : PySem.W.subIn K (.ref C) (.type "BaseException") = some true
  t : PySem.W.typeIn K (.ref C) = some (.type "type")
  e : PySem.W.exmOne K (.ref C) (.ref C) = some true
theorem exm_selfD {K : PySem.W.Frag} {S : Addr} (h1 : PySem.W.subIn K (.ref S) (.type "BaseException") = some true) (h2 : PySem.W.isClsIn K S = true) (h3 : PySem.W.typeIn K (.ref S) = some (.type "type")) (h4 : PySem.W.subIn K (.ref S) (.ref S) = some true) :
    PySem.W.exmOne K (.ref S) (.ref S) = some true := by
  have e1 : (PySem.W.subIn K (.ref S) (.type "BaseException") == some true) = true := by rw [h1] <;> rfl
  have e2 : ((PySem.W.clsIn K S).isSome && PySem.W.typeIn K (.ref S) == some (.type "type")) = true := by
    have h2' : (PySem.W.clsIn K S).isSome = true := h2
    rw [h2', h3] <;> rfl
  show (if (PySem.W.subIn K (.ref S) (.type "BaseException") == some true) = true then (if ((PySem.W.clsIn K S).isSome && PySem.W.typeIn K (.ref S) == some (.type "type")) = true then PySem.W.subIn K (.ref S) (.ref S) else none) else none) = some true
  rw [if_pos e1, if_pos e2]
  exact h4
/-- an error of another class C, asked for the class S -/
theorem exm_otherD {K : PySem.W.Frag} {C S : Addr} {b : Bool} (h1 : PySem.W.subIn K (.ref S) (.type "BaseException") = some true) (h2 : PySem.W.isClsIn K S = true) (h3 : PySem.W.typeIn K (.ref S) = some (.type "type")) (h4 : PySem.W.subIn K (.ref C) (.ref S) = some b) :
    PySem.W.exmOne K (.ref C) (.ref S) = some b := by
  have e1 : (PySem.W.subIn K (.ref S) (.type "BaseException") == some true) = true := by rw [h1] <;> rfl
  have e2 : ((PySem.W.clsIn K S).isSome && PySem.W.typeIn K (.ref S) == some (.type "type")) = true := by
    have h2' : (PySem.W.clsIn K S).isSome = true := h2
    rw [h2', h3] <;> rfl
  show (if (PySem.W.subIn K (.ref S) (.type "BaseException") == some true) = true then (if ((PySem.W.clsIn K S).isSome && PySem.W.typeIn K (.ref S) == some (.type "type")) = true then PySem.W.subIn K (.ref C) (.ref S) else none) else none) = some b
  rw [if_pos e1, if_pos e2]
  exact h4
/-- isinstance(e, c) of a caught error: its class is told by the reading -/
def rIsX (K : PySem.W.Frag) (D a : Addr) (cls : Value) (d : Option Addr) : List V → Hp → VK → Prop := fun xs H Q => cls = .ref D ∧ d = none ∧ ∃ (c : Addr) (b : Bool), xs = [.ref a, .ref c] ∧ PySem.W.kitOne K (.ref D) (.ref c) = some b ∧ Q (.bl b) H
theorem call_isX {X : Cx} {a D : Addr} {oe : Obj} {pn : List (Addr × Obj)} {cls : Value} {d : Option Addr} (C : ExcC X.K D) (hz : Zc cls d oe) (hf : ∃ vs, oe.data = .fields vs) : CallR (X.suite a ((a, oe) :: pn)) (.builtin "isinstance") (rIsX X.K D a cls d) := by
  intro pins s σ H xs us Q I r h
  obtain ⟨rfl, rfl, c, b, e, k, q⟩ := h
  exact call_isE C hz hf pins s σ H xs us Q I r ⟨.ref c, .ref c, b, e, fun u hu => hu, k, q⟩
/-! ### C(..) within a try -/
section
variable {X : Cx} {CX : CXT} {k : Nat} {f C : Addr} {fd : FuncData} {ps : List Str} {sp : Sp} {E : L2.St → XK} {x : Str} {p pos : Pos} {e : Expr} {es : List Expr} {t : TA}
theorem run_makeS {pins : List (Addr × Obj)} {σ : L2.St} {H : Hp} {s : Shared} {Q : VK} {us : List Value} {vs : List V} (M : Mk X.K C f) (F : FnOk X.prog X.w X.K X.mg X.base CX k f fd ps sp) (hr : Room (k + 1) X.A) (hb : Binds X.K fd ps [])
    (hx : PassesAt CX X σ (E σ)) (I : Inv X pins σ H s) (r : Vals vs us)
    (h : ∀ x dx, H x = none → H dx = none → dx ≠ x → sp (.ref x :: vs) (upd (upd H dx (.own x)) x (.ins C dx [])) (fun v H2 => v = .non ∧ Q (.ref x) H2) (E σ)) :
    wpAny (model X.prog X.w) X.A (call (.ref C) us) (EP X pins σ Q) X.xe s := by
  have hq := h (s.heap.objs.size + 1) s.heap.objs.size (I.hok.fresh (Nat.le_succ _)) (I.hok.fresh (Nat.le_refl _)) (Nat.ne_of_lt (Nat.lt_succ_self _))
  have I2 := Inv.made (C := C) I
  have r2 : Vals (V.ref (s.heap.objs.size + 1) :: vs) (Value.ref (s.heap.objs.size + 1) :: us) := .cons rfl r
  have hl : ((Value.ref (s.heap.objs.size + 1) :: us) ++ []).length = ps.length := by
    have e := r2.length
    rw [F.len _ _ _ _ hq] at e
    rw [List.append_nil]
    exact e.symm
  have bt : BindsTo _ fd ⟨Value.ref (s.heap.objs.size + 1) :: us, []⟩ (ps.zip ((Value.ref (s.heap.objs.size + 1) :: us) ++ [])) := hb _ (Value.ref (s.heap.objs.size + 1) :: us) I2.kIn hl
  rw [List.append_nil] at bt
  refine wpAny_call (make_map (f := f) I.kIn M.makes M.init (beq_iff_eq.mp M.fn) (codeAny_mono (F.run _ X.stack _ _ ⟨Value.ref (s.heap.objs.size + 1) :: us, []⟩ (Value.ref (s.heap.objs.size + 1) :: us) _ _ (E σ) (hr.make C us [])
    (I2.env0.make C us []) bt r2 hq) fun r s' hq' => ?_))
  cases r with
  | error e => exact hx pins _ _ e s' I2 hq'
  | ok fl =>
    cases fl with
    | ret u =>
      obtain ⟨v, H', I3, rv, ev, q3⟩ := I2.after hq'
      subst ev
      exact ⟨rv, ⟨V.ref (s.heap.objs.size + 1), H', I3, rfl, q3⟩⟩
    | next => exact False.elim hq'
    | brk => exact False.elim hq'
    | cont => exact False.elim hq'
def tMakeS (C : Addr) (sp : Sp) (E : L2.St → XK) (t : TA) : TE := fun σ H Q => t σ H fun vs H1 => ∀ x dx, H1 x = none → H1 dx = none → dx ≠ x →
  sp (.ref x :: vs) (upd (upd H1 dx (.own x)) x (.ins C dx [])) (fun v H2 => v = .non ∧ Q (.ref x) H2) (E σ)
theorem pe_makeS (M : Mk X.K C f) (F : FnOk X.prog X.w X.K X.mg X.base CX k f fd ps sp) (hr : Room (k + 1) X.A) (hg : Gl X x) (hm : X.mg x = some (.ref C)) (hb : Binds X.K fd ps []) (hx : ∀ σ, PassesAt CX X σ (E σ))
    (ha : PA X (e :: es) t) (hdb : (x == ("__debug__" : Str)) = false := by decide) (he : starEach (e :: es) X.env = (false, eval e X.env) :: starEach es X.env := by rfl) (hpl : (backTo pos (starEach es X.env)).any (·.1) = false := by rfl) :
    PE X (.Call (.Name x p) (e :: es) [] pos) (tMakeS C sp E t) := by
  refine ⟨fun pins s σ H Q I h => ?_⟩
  refine wpAny_Call_Name_kw (ld_glob I hg hm ?_ hdb)
  refine PySem.W.callWith_K (h₀ := X.base) I.ok.mod.kin M.kp (thn (ha.run pos pins s σ H _ I h) fun us s1 ⟨vs, H1, I1, r, q⟩ => ⟨I1.kIn, ?_⟩) he hpl
  exact run_makeS M F hr hb (hx σ) I1 r q
/-! ### C(..) by a promise of the whole: conv turns it into that of __init__ at the new instance -/
def Conv (C : Addr) (sp rd : Sp) : Prop := ∀ vs H Q E, rd vs H Q E → ∀ x dx, H x = none → H dx = none → dx ≠ x → sp (.ref x :: vs) (upd (upd H dx (.own x)) x (.ins C dx [])) (fun v H2 => v = .non ∧ Q (.ref x) H2) E
def tMakeC (rd : Sp) (E : XK) (t : TA) : TE := fun σ H Q => t σ H fun vs H1 => rd vs H1 Q E
theorem pe_makeC {rd : Sp} {E : XK} (cv : Conv C sp rd) (M : Mk X.K C f) (F : FnOk X.prog X.w X.K X.mg X.base CX k f fd ps sp) (hr : Room (k + 1) X.A) (hg : Gl X x) (hm : X.mg x = some (.ref C)) (hb : Binds X.K fd ps []) (hx : Passes CX X E)
    (ha : PA X (e :: es) t) (hdb : (x == ("__debug__" : Str)) = false := by decide) (he : starEach (e :: es) X.env = (false, eval e X.env) :: starEach es X.env := by rfl) (hpl : (backTo pos (starEach es X.env)).any (·.1) = false := by rfl) :
    PE X (.Call (.Name x p) (e :: es) [] pos) (tMakeC rd E t) := by
  refine ⟨fun pins s σ H Q I h => ?_⟩
  refine wpAny_Call_Name_kw (ld_glob I hg hm ?_ hdb)
  refine PySem.W.callWith_K (h₀ := X.base) I.ok.mod.kin M.kp (thn (ha.run pos pins s σ H _ I h) fun us s1 ⟨vs, H1, I1, r, q⟩ => ⟨I1.kIn, ?_⟩) he hpl
  refine run_make (dvs := []) (ds := []) M F hr hb .nil hx I1 r ?_
  rw [List.append_nil]
  exact cv vs H1 Q E q
def tMakeSC (rd : Sp) (E : L2.St → XK) (t : TA) : TE := fun σ H Q => t σ H fun vs H1 => rd vs H1 Q (E σ)
theorem pe_makeSC {rd : Sp} (cv : Conv C sp rd) (M : Mk X.K C f) (F : FnOk X.prog X.w X.K X.mg X.base CX k f fd ps sp) (hr : Room (k + 1) X.A) (hg : Gl X x) (hm : X.mg x = some (.ref C)) (hb : Binds X.K fd ps []) (hx : ∀ σ, PassesAt CX X σ (E σ))
    (ha : PA X (e :: es) t) (hdb : (x == ("__debug__" : Str)) = false := by decide) (he : starEach (e :: es) X.env = (false, eval e X.env) :: starEach es X.env := by rfl) (hpl : (backTo pos (starEach es X.env)).any (·.1) = false := by rfl) :
    PE X (.Call (.Name x p) (e :: es) [] pos) (tMakeSC rd E t) := by
  refine ⟨fun pins s σ H Q I h => ?_⟩
  refine wpAny_Call_Name_kw (ld_glob I hg hm ?_ hdb)
  refine PySem.W.callWith_K (h₀ := X.base) I.ok.mod.kin M.kp (thn (ha.run pos pins s σ H _ I h) fun us s1 ⟨vs, H1, I1, r, q⟩ => ⟨I1.kIn, ?_⟩) he hpl
  exact run_makeS M F hr hb (hx σ) I1 r (cv vs H1 Q (E σ) q)
/-- what a caller's own wish takes of a callee that may raise -/
theorem passW {X : Cx} {W : WX} (tk : Takes X W) {E : XK} (hW : ∀ cls d σ H, E cls d H → W cls d σ H) : Passes (L2.CX X.prog X.w) X E := passes_call tk hW
end
theorem cxOf_K {CX : CXT} {P : Program} {w : World} {K : PySem.W.Frag} {mg : Str → Option Value} {base : Heap} {N : List Str} {qual : Str} {scope : Scope} {f : Addr} {cd : Value} {A : Around} {outer : List Env} {s : Shared} {H : Hp} {E : XK} :
    (cxOf CX P w K mg base N qual scope f cd A outer s H E).K = K := rfl
theorem nox_K {X : Cx} : X.nox.K = X.K := rfl
theorem tr_K {X : Cx} {pn : List (Addr × Obj)} {xe : Value → Shared → Prop} : (X.tr pn xe).K = X.K := rfl
theorem suite_K {X : Cx} {a : Addr} {pn : List (Addr × Obj)} : (X.suite a pn).K = X.K := rfl
end Dw

namespace Dw
open PySem PySem.Spec PyProof.Rows L2
/-! ### the laws' own small defs -/
def rTupleI : List V → Hp → VK → Prop := fun xs H Q => ∃ p ns, xs = [.ref p] ∧ H p = some (IL ns) ∧ ∀ l, H l = none → Q (.ref l) (upd H l (.tup (ns.map V.int)))
theorem call_tupleI {X : Cx} : CallR X (.type "tuple") rTupleI := CallR.imp call_tuple_of fun xs H Q h => by
  obtain ⟨p, ns, e, h1, q⟩ := h
  exact ⟨p, _, e, .inl ⟨.of h1, q⟩⟩
/-- an item of the script, or 0 -/
def spCell (K : PySem.W.Frag) : Sp := fun vs H Q _ => ∃ (a : Addr) (ns : List Int) (k : Int), vs = [.ref a, .int k] ∧ SqL K H a (ns.map V.int) ∧ 0 ≤ k ∧ ∀ z, Q (.int z) H
def D12 (ns : List Int) : Prop := ∀ z ∈ ns, 0 ≤ z ∧ z < 4096
def spDraws : Sp := fun vs H Q _ => ∃ (c n : Int), vs = [.int c, .int n] ∧ 0 ≤ n ∧ n ≤ 1000 ∧ ∀ r ns H', Same H H' → H r = none → H' r = some (IL ns) → (ns.length : Int) = n → D12 ns → Q (.ref r) H'
def spIsInt : Sp := fun vs H Q _ => ∃ i : Int, vs = [.int i] ∧ Q (.bl true) H
def spInts : Sp := fun vs H Q _ => ∃ (p : Addr) (ns : List Int), ((vs = [.ref p, .str "list"] ∧ H p = some (IL ns)) ∨ (vs = [.ref p, .str "tuple"] ∧ H p = some (.tup (ns.map V.int)))) ∧ Q (.bl true) H
def spIsList : Sp := fun vs H Q _ => ∃ (p u : Addr) (ns : List Int), vs = [.ref p, .ref u] ∧ H p = some (IL ns) ∧ H u = some (IL ns) ∧ Q (.bl true) H
def spIsTuple : Sp := fun vs H Q _ => ∃ (p u : Addr) (ns : List Int), vs = [.ref p, .ref u] ∧ H p = some (.tup (ns.map V.int)) ∧ H u = some (.tup (ns.map V.int)) ∧ Q (.bl true) H
def spIsNumber : Sp := fun vs H Q _ => ∃ i : Int, vs = [.int i, .int i] ∧ Q (.bl true) H
theorem getD_mem {ns : List Int} {k : Nat} (h : k < ns.length) : ns.getD k 0 ∈ ns := by
  rw [List.getD_eq_getElem?_getD, List.getElem?_eq_getElem h]
  exact List.getElem_mem h
theorem D12.get {ns : List Int} (h : D12 ns) {k : Nat} (hk : k < ns.length) : 0 ≤ ns.getD k 0 ∧ ns.getD k 0 < 4096 := h _ (getD_mem hk)
/-! ### reads -/
def readF (t : Addr) (r : Int) : List (Str × V) := [("intervals", .ref t), ("rest", .int r)]
theorem rf_int (t : Addr) (r : Int) : List.lookup ("intervals" : Str) (readF t r) = some (.ref t) := by
  unfold readF
  simp [List.lookup]
theorem rf_rest (t : Addr) (r : Int) : List.lookup ("rest" : Str) (readF t r) = some (.int r) := by
  have e : (("rest" : Str) == ("intervals" : Str)) = false := by decide +kernel
  unfold readF
  simp [List.lookup, e]
theorem rf_put (t : Addr) (r : Int) : putF "rest" (.int r) (putF "intervals" (.ref t) []) = readF t r := by
  have e : ¬ ("intervals" : Str) = "rest" := by decide +kernel
  show putF "rest" (.int r) [("intervals", .ref t)] = _
  unfold putF
  rw [if_neg e]
  rfl
def OkRead (ns : List Int) (rest : Int) : Prop := ns.length ≤ 60000 ∧ (∀ t ∈ ns, 1 ≤ t ∧ t ≤ 1000000) ∧ 0 ≤ rest ∧ rest ≤ 1000000
/-- a read at r -/
def RdAt (C : Addr) (H : Hp) (r : Addr) (ns : List Int) (rest : Int) : Prop := ∃ dx t, H r = some (.ins C dx (readF t rest)) ∧ H t = some (.tup (ns.map V.int))
theorem RdAt.same {C : Addr} {H H' : Hp} {r : Addr} {ns : List Int} {rest : Int} (h : RdAt C H r ns rest) (s : Same H H') : RdAt C H' r ns rest := by
  obtain ⟨dx, t, h1, h2⟩ := h
  exact ⟨dx, t, s _ _ h1, s _ _ h2⟩
def spReadInit (C CE : Addr) : Sp := fun vs H Q E => ∃ (x dx a : Addr) (ns : List Int) (rest : Int), vs = [.ref x, .ref a, .int rest] ∧ H x = some (.ins C dx []) ∧ H a = some (IL ns) ∧
  (OkRead ns rest → ∀ t H', H x ≠ none → SameB x H H' → H t = none → H' x = some (.ins C dx (readF t rest)) → H' t = some (.tup (ns.map V.int)) → Q .non H') ∧
  (¬ OkRead ns rest → ∀ H', Same H H' → E (.ref CE) none H')
/-- Read(intervals, rest) -/
def spRead (C CE : Addr) : Sp := fun vs H Q E => ∃ (a : Addr) (ns : List Int) (rest : Int), vs = [.ref a, .int rest] ∧ H a = some (IL ns) ∧
  (OkRead ns rest → ∀ r H', Same H H' → H r = none → RdAt C H' r ns rest → Q (.ref r) H') ∧ (¬ OkRead ns rest → ∀ H', Same H H' → E (.ref CE) none H')
theorem conv_read {C CE : Addr} : Conv C (spReadInit C CE) (spRead C CE) := by
  intro vs H Q E ⟨a, ns, rest, e, hA, h1, h2⟩ x dx nx nd ne
  subst e
  have s0 : Same H (upd H dx (.own x)) := same_new nd _
  have nx' : upd H dx (.own x) x = none := by rw [upd_ne ne.symm]; exact nx
  have s1 : Same (upd H dx (.own x)) (upd (upd H dx (.own x)) x (.ins C dx [])) := same_new nx' _
  have s := s0.trans s1
  refine ⟨x, dx, a, ns, rest, rfl, upd_same, s _ _ hA, fun ok t H' _ sb nt e1 e2 => ⟨rfl, h1 ok x H' (fun b o hb => sb b o (ne_of_none hb nx) (s b o hb)) nx ⟨dx, t, e1, e2⟩⟩, fun no H' sH => h2 no H' (s.trans sH)⟩
def okCell (c : Int) : Prop := 10 ≤ c ∧ c ≤ 1000
def spIsCell : Sp := fun vs H Q _ => ∃ c : Int, vs = [.int c] ∧ Q (.bl (decide (10 ≤ c) && decide (c ≤ 1000))) H
def spCheckCell (CE : Addr) : Sp := fun vs H Q E => ∃ c : Int, vs = [.int c] ∧ (okCell c → Q .non H) ∧ (¬ okCell c → E (.ref CE) none H)
/-! ### the fixed clock -/
/-- how many cells t ticks stand for -/
def nCells (t c : Int) : Int := (2 * t + c) / (2 * c)
def oneCells (n : Int) : List Int := List.replicate (n - 1).toNat 0 ++ [1]
def fixedZ (ns : List Int) (rest c : Int) : List Int := (ns.map fun t => oneCells (max 1 (nCells t c))).flatten ++ List.replicate (nCells rest c).toNat 0
def fixedP (ns : List Int) (c : Int) : List Int := (ns.map fun t => oneCells (max 1 (nCells t c))).flatten
theorem fixedP_more {ns : List Int} {i : Nat} {t c : Int} (h : ns[i]? = some t) : fixedP (ns.take (i + 1)) c = fixedP (ns.take i) c ++ oneCells (max 1 (nCells t c)) := by
  unfold fixedP
  rw [take_more h, List.map_append, List.flatten_append]
  simp
theorem oneCells_len {n : Int} (h : 1 ≤ n) : ((oneCells n).length : Int) = n := by
  unfold oneCells
  rw [List.length_append, List.length_replicate]
  show (((n - 1).toNat + 1 : Nat) : Int) = n
  omega
/-- the sum of the counts stays small -/
def Few (ns : List Int) (rest c : Int) : Prop := ((fixedP ns c).length : Int) + nCells rest c ≤ 16000000
def spFixed (C CE : Addr) : Sp := fun vs H Q E => ∃ (r : Addr) (c : Int) (ns : List Int) (rest : Int), vs = [.ref r, .int c] ∧ RdAt C H r ns rest ∧ OkRead ns rest ∧
  (okCell c → Few ns rest c ∧ ∀ u H', Same H H' → H u = none → H' u = some (IL (fixedZ ns rest c)) → Q (.ref u) H') ∧ (¬ okCell c → E (.ref CE) none H)
theorem take_len_le {α : Type} (l : List α) (i : Nat) : (l.take i).length ≤ l.length := by rw [List.length_take]; exact Nat.min_le_right _ _
theorem fixedP_take_len (ns : List Int) (c : Int) (i : Nat) : (fixedP (ns.take i) c).length ≤ (fixedP ns c).length := by
  have e : fixedP ns c = fixedP (ns.take i) c ++ fixedP (ns.drop i) c := by
    unfold fixedP
    rw [← List.flatten_append, ← List.map_append, List.take_append_drop]
  rw [e, List.length_append]
  omega
end Dw
namespace Dw
theorem ite_t {c : Bool} {A B : Prop} (hc : c = true) (h : A) : if c = true then A else B := by
  rw [if_pos hc]
  exact h
theorem ite_f {c : Bool} {A B : Prop} (hc : c = false) (h : B) : if c = true then A else B := by
  rw [hc, if_neg Bool.false_ne_true]
  exact h
end Dw
namespace Dw
open PySem PySem.Spec PyProof.Rows L2
theorem fld_of {K : PySem.W.Frag} {C dx r t : Addr} {rest : Int} {H : Hp} {i : Nat} {σ : L2.St} {Q : VK} (hσ : σ[i]? = some (some (.ref r))) (hR : H r = some (.ins C dx (readF t rest))) (cl : Cls K C) (na : NoAttr K C "intervals") (q : Q (.ref t) H) : tFld K (tVar i) "intervals" σ H Q :=
  ⟨_, hσ, r, C, dx, _, _, rfl, hR, cl, na, rf_int t rest, q⟩
theorem fld_rest {K : PySem.W.Frag} {C dx r t : Addr} {rest : Int} {H : Hp} {i : Nat} {σ : L2.St} {Q : VK} (hσ : σ[i]? = some (some (.ref r))) (hR : H r = some (.ins C dx (readF t rest))) (cl : Cls K C) (na : NoAttr K C "rest") (q : Q (.int rest) H) : tFld K (tVar i) "rest" σ H Q :=
  ⟨_, hσ, r, C, dx, _, _, rfl, hR, cl, na, rf_rest t rest, q⟩
theorem upd_self {H : Hp} {a : Addr} {o u : HO} : upd (upd H a o) a u a = some u := upd_same
theorem rep_zero (n : Int) : rep n [0] = List.replicate n.toNat 0 := rep_one n 0
theorem nCells_nn {t c : Int} (ht : 0 ≤ t) (hc : 0 < c) : 0 ≤ nCells t c := Int.ediv_nonneg (by omega) (by omega)
end Dw
namespace Dw
open PySem PySem.Spec PyProof.Rows L2
theorem oneCells_nat {n : Int} (h : 1 ≤ n) : (oneCells n).length = (n - 1).toNat + 1 := by
  unfold oneCells
  rw [List.length_append, List.length_replicate]
  rfl
end Dw
namespace Dw
theorem pick2 {P : Int → Prop} {a b : Int} (ha : P a) (hb : P b) {i : Nat} (h : i < 2) : P ([a, b].getD i 0) := by
  match i, h with
  | 0, _ => exact ha
  | 1, _ => exact hb
theorem pick3 {P : Int → Prop} {a b c : Int} (ha : P a) (hb : P b) (hc : P c) {i : Nat} (h : i < 3) : P ([a, b, c].getD i 0) := by
  match i, h with
  | 0, _ => exact ha
  | 1, _ => exact hb
  | 2, _ => exact hc
theorem pick4 {P : Int → Prop} {a b c d : Int} (ha : P a) (hb : P b) (hc : P c) (hd : P d) {i : Nat} (h : i < 4) : P ([a, b, c, d].getD i 0) := by
  match i, h with
  | 0, _ => exact ha
  | 1, _ => exact hb
  | 2, _ => exact hc
  | 3, _ => exact hd
end Dw
namespace Dw
open PySem PySem.Spec PyProof.Rows L2
theorem fixedP_len_le {c : Int} {M : Nat} (hM : 1 ≤ M) : ∀ {ns : List Int}, (∀ t ∈ ns, nCells t c ≤ (M : Int)) → (fixedP ns c).length ≤ ns.length * M
  | [], _ => Nat.zero_le _
  | t :: r, h => by
    have ih := fixedP_len_le (c := c) hM (ns := r) fun x hx => h x (List.mem_cons_of_mem _ hx)
    have ht := h t List.mem_cons_self
    have e : fixedP (t :: r) c = oneCells (max 1 (nCells t c)) ++ fixedP r c := by
      unfold fixedP
      rw [List.map_cons, List.flatten_cons]
    rw [e, List.length_append, oneCells_nat (by omega), List.length_cons, Nat.succ_mul]
    omega
theorem nCells_le {t c m : Int} (hc : 0 < c) (h : t ≤ m * c) : nCells t c ≤ m := by
  unfold nCells
  have : (2 * t + c) / (2 * c) < m + 1 := Int.ediv_lt_of_lt_mul (by omega) (by
    have e1 : (m + 1) * (2 * c) = 2 * (m * c) + 2 * c := by rw [Int.add_mul, Int.one_mul, Int.mul_left_comm]
    rw [e1]
    omega)
  omega
theorem oneCells_split (n : Int) : List.replicate (n - 1).toNat 0 ++ [1] = oneCells n := rfl
end Dw
namespace Dw
open PySem PySem.Spec PyProof.Rows L2
/-! ### cells as flux -/
def fluxT (c : Int) (s : List Int × Int) (b : Int) : List Int × Int := if b = 1 then (s.1 ++ [c * (s.2 + 1)], 0) else (s.1, s.2 + 1)
def fluxS (c : Int) (cells : List Int) : List Int × Int := cells.foldl (fluxT c) ([], 0)
theorem fluxS_more {c : Int} {cells : List Int} {i : Nat} {b : Int} (h : cells[i]? = some b) : fluxS c (cells.take (i + 1)) = fluxT c (fluxS c (cells.take i)) b := by
  unfold fluxS
  rw [take_more h, List.foldl_append]
  rfl
theorem fluxT_len {c : Int} (s : List Int × Int) (b : Int) : (fluxT c s b).1.length ≤ s.1.length + 1 ∧ 0 ≤ (fluxT c s b).2 ∨ s.2 < 0 := by
  unfold fluxT
  by_cases h : b = 1
  · rw [if_pos h]
    exact .inl ⟨by rw [List.length_append]; exact Nat.le_refl _, Int.le_refl 0⟩
  · rw [if_neg h]
    by_cases h2 : s.2 < 0
    · exact .inr h2
    · exact .inl ⟨Nat.le_succ _, by show 0 ≤ s.2 + 1; omega⟩
theorem fluxS_bound (c : Int) (cells : List Int) : ∀ i, i ≤ cells.length → (fluxS c (cells.take i)).1.length ≤ i ∧ 0 ≤ (fluxS c (cells.take i)).2 ∧ (fluxS c (cells.take i)).2 ≤ i
  | 0, _ => ⟨Nat.le_refl _, Int.le_refl _, Int.le_refl _⟩
  | i + 1, h => by
    obtain ⟨h1, h2, h3⟩ := fluxS_bound c cells i (by omega)
    have e : cells[i]? = some (cells[i]'(by omega)) := List.getElem?_eq_getElem (by omega)
    rw [fluxS_more e]
    unfold fluxT
    split
    · refine ⟨by rw [List.length_append]; show _ + 1 ≤ _; omega, Int.le_refl _, by show (0 : Int) ≤ _; omega⟩
    · exact ⟨by show (fluxS c (List.take i cells)).1.length ≤ i + 1; omega, by show 0 ≤ (fluxS c (List.take i cells)).2 + 1; omega, by show (fluxS c (List.take i cells)).2 + 1 ≤ ((i + 1 : Nat) : Int); omega⟩
def spFlux (C CE CR : Addr) : Sp := fun vs H Q E => ∃ (a : Addr) (c : Int) (cells : List Int), vs = [.ref a, .int c] ∧ H a = some (IL cells) ∧ cells.length ≤ 1000000 ∧
  (okCell c → OkRead (fluxS c cells).1 (c * (fluxS c cells).2) → ∀ r H', Same H H' → H r = none → RdAt C H' r (fluxS c cells).1 (c * (fluxS c cells).2) → Q (.ref r) H') ∧
  (okCell c → ¬ OkRead (fluxS c cells).1 (c * (fluxS c cells).2) → ∀ H', Same H H' → E (.ref CR) none H') ∧ (¬ okCell c → E (.ref CE) none H)
/-! ### ints that are only known to be of a kind -/
theorem lc_rangeP {R : Int → Prop} {lo : Int} {n : Nat} {j : Nat} {te : TE} {vs : List Nat} {σ : L2.St} {H1 : Hp} {D : Addr} {Qd : Hp → Prop} (hn : n ≤ 16777215) (hD : H1 D = none) (hw : ∀ v, wipe ((wipe σ vs).set j v) vs = wipe σ vs)
    (hte : ∀ i H3 (Q' : VK), i < n → Same H1 H3 → (∀ v H4, R v → Same H3 H4 → Q' (.int v) H4) → te ((wipe σ vs).set j (some (.int (lo + (i : Nat))))) H3 Q')
    (hd : ∀ ns H', ns.length = n → (∀ v ∈ ns, R v) → Same H1 H' → H' D = some (IL ns) → Qd H') :
    ∃ W : Nat → Nat → Hp → Prop, (∃ m, W 0 m (L2.upd H1 D (.lst []))) ∧ ∀ i m H, W i m H →
      ((Itr lo n).stop i H ∧ Qd H) ∨ ((Itr lo n).go i H ∧ ∃ Nx : Hp → Prop, (∀ H', Nx H' → ∃ m', m' < m ∧ W (i + 1) m' H') ∧ ∀ x H', (Itr lo n).yld i H x H' → gName j x (wipe σ vs) H' fun σ2 H2 => wipe σ2 vs = wipe σ vs ∧ tYes σ2 H2 fun b H3 =>
        if b = true then te σ2 H3 fun y H4 => ∃ acc, H4 D = some (.lst acc) ∧ acc.length < sizeLine ∧ Nx (L2.upd H4 D (.lst (acc ++ [y]))) else Nx H3) := by
  refine lc_range (lo := lo) (n := n) (fun i H' => Same H1 H' ∧ ∃ ns : List Int, H' D = some (IL ns) ∧ ns.length = i ∧ ∀ v ∈ ns, R v) ⟨same_new hD _, [], upd_same, rfl, fun v h => by cases h⟩ ?_ ?_
  · intro i H hi h
    obtain ⟨h1, ns, h3, h4, h5⟩ := h
    refine ⟨hw _, ?_⟩
    simp only [tYes, if_true]
    refine hte i H _ hi h1 fun v H4 hR hs => ?_
    have e : H4 D = some (IL ns) := hs D _ h3
    have ez : ns.map V.int ++ [V.int v] = (ns ++ [v]).map V.int := by rw [List.map_append]; rfl
    refine ⟨ns.map V.int, e, by rw [List.length_map, h4]; exact line_lt (by omega), fun b o hb => ?_, ns ++ [v], ?_, by rw [List.length_append, h4]; rfl, ?_⟩
    · rw [upd_ne (ne_of_none hb hD)]
      exact hs _ _ (h1 b o hb)
    · rw [upd_same, ez]
      rfl
    · intro x hx
      rcases List.mem_append.mp hx with hx | hx
      · exact h5 x hx
      · rw [List.mem_singleton.mp hx]; exact hR
  · intro H h
    obtain ⟨h1, ns, h3, h4, h5⟩ := h
    exact hd ns H h4 h5 h1 h3
end Dw

namespace Dw
open PySem PySem.Spec PyProof.Rows L2
/-! ### bits, FM, MFM -/
/-- a def of one list of ints that hands back a new one -/
def spL1 (C : List Int → Prop) (f : List Int → List Int) : Sp := fun vs H Q _ => ∃ (a : Addr) (ns : List Int), vs = [.ref a] ∧ H a = some (IL ns) ∧ C ns ∧ ∀ r H', Same H H' → H r = none → H' r = some (IL (f ns)) → Q (.ref r) H'
def CB (ns : List Int) : Prop := Bytes ns ∧ ns.length ≤ 100000
def bitsOf (ns : List Int) : List Int := (ns.map fun n => bits8 n.toNat).flatten
theorem bits8_len (v : Nat) : (bits8 v).length = 8 := rfl
theorem bitsOf_len : ∀ ns : List Int, (bitsOf ns).length = 8 * ns.length
  | [] => rfl
  | n :: r => by
    unfold bitsOf
    rw [List.map_cons, List.flatten_cons, List.length_append, bits8_len]
    have := bitsOf_len r
    unfold bitsOf at this
    rw [this, List.length_cons]
    omega
theorem bitsOf_more {ns : List Int} {i v : Nat} (h : ns[i]? = some (v : Int)) : bitsOf (ns.take (i + 1)) = bitsOf (ns.take i) ++ bits8 v := by
  unfold bitsOf
  rw [take_more h, List.map_append, List.flatten_append]
  simp
/-- each bit behind a 1 -/
def fmZ (bs : List Int) : List Int := (bs.map fun b => [1, b]).flatten
theorem fmZ_len : ∀ bs : List Int, (fmZ bs).length = 2 * bs.length
  | [] => rfl
  | n :: r => by
    unfold fmZ
    rw [List.map_cons, List.flatten_cons, List.length_append]
    have := fmZ_len r
    unfold fmZ at this
    rw [this, List.length_cons]
    show 2 + 2 * r.length = 2 * (r.length + 1)
    omega
theorem fmZ_more {bs : List Int} {i : Nat} {b : Int} (h : bs[i]? = some b) : fmZ (bs.take (i + 1)) = fmZ (bs.take i) ++ [1, b] := by
  unfold fmZ
  rw [take_more h, List.map_append, List.flatten_append]
  simp
def clk (last b : Int) : Int := if last = 0 ∧ b = 0 then 1 else 0
/-- the bit behind a beginning of a list -/
def lastOf (before : Int) (bs : List Int) : Int := bs.getLastD before
def mfmZ (before : Int) (bs : List Int) : List Int := (List.range bs.length).flatMap fun i => [clk (lastOf before (bs.take i)) (bs.getD i 0), bs.getD i 0]
/-- the loop's way: cells so far -/
def mfmF (before : Int) : List Int → List Int
  | [] => []
  | b :: r => clk before b :: b :: mfmF b r
theorem mfmF_len : ∀ (before : Int) (bs : List Int), (mfmF before bs).length = 2 * bs.length
  | _, [] => rfl
  | _, b :: r => by
    show (mfmF b r).length + 1 + 1 = 2 * (r.length + 1)
    rw [mfmF_len b r]
    omega
theorem mfmF_append : ∀ (before : Int) (bs cs : List Int), mfmF before (bs ++ cs) = mfmF before bs ++ mfmF (lastOf before bs) cs
  | _, [], _ => rfl
  | before, b :: r, cs => by
    show clk before b :: b :: mfmF b (r ++ cs) = clk before b :: b :: (mfmF b r ++ mfmF (lastOf before (b :: r)) cs)
    rw [mfmF_append b r cs]
    have : lastOf before (b :: r) = lastOf b r := by
      unfold lastOf
      cases r with
      | nil => rfl
      | cons x t => simp [List.getLastD]
    rw [this]
theorem mfmF_more {before : Int} {bs : List Int} {i : Nat} {b : Int} (h : bs[i]? = some b) : mfmF before (bs.take (i + 1)) = mfmF before (bs.take i) ++ [clk (lastOf before (bs.take i)) b, b] := by
  rw [take_more h, mfmF_append]
  rfl
theorem lastOf_more {before : Int} {bs : List Int} {i : Nat} {b : Int} (h : bs[i]? = some b) : lastOf before (bs.take (i + 1)) = b := by
  rw [take_more h]
  unfold lastOf
  simp
def spClk : Sp := fun vs H Q _ => ∃ a b : Int, vs = [.int a, .int b] ∧ Q (.int (clk a b)) H
def spMfm : Sp := fun vs H Q _ => ∃ (a : Addr) (ns : List Int) (b : Int), vs = [.ref a, .int b] ∧ H a = some (IL ns) ∧ CB ns ∧ ∀ r H', Same H H' → H r = none → H' r = some (IL (mfmF b (bitsOf ns))) → Q (.ref r) H'
theorem bit_div (v k : Nat) : Builtin.bitAnd ((v : Int) / 2 ^ k) 1 = ((v / 2 ^ k % 2 : Nat) : Int) := by rw [zdiv, and1]
end Dw
namespace Dw
open PySem PySem.Spec PyProof.Rows L2
def Bits (bs : List Int) : Prop := ∀ b ∈ bs, b = 0 ∨ b = 1
theorem bits8_bits (v : Nat) : Bits (bits8 v) := by
  intro b hb
  unfold bits8 at hb
  simp only [List.mem_cons, List.not_mem_nil, or_false] at hb
  rcases hb with h | h | h | h | h | h | h | h <;> (subst h; omega)
theorem bitsOf_bits : ∀ ns : List Int, Bits (bitsOf ns)
  | [] => fun b hb => by cases hb
  | n :: r => fun b hb => by
    unfold bitsOf at hb
    rw [List.map_cons, List.flatten_cons] at hb
    rcases List.mem_append.mp hb with hb | hb
    · exact bits8_bits _ b hb
    · exact bitsOf_bits r b hb
theorem bits_at {bs : List Int} {i : Nat} {z : Int} (h : Bits bs) (hz : bs[i]? = some z) : z = 0 ∨ z = 1 := h z (List.mem_of_getElem? hz)
theorem lastOf_bit {before : Int} {bs : List Int} (h0 : before = 0 ∨ before = 1) (h : Bits bs) : lastOf before bs = 0 ∨ lastOf before bs = 1 := by
  unfold lastOf
  cases bs with
  | nil => exact h0
  | cons b r =>
    have : (b :: r).getLastD before ∈ (b :: r) := by
      rw [List.getLastD_cons]
      cases r with
      | nil => exact List.mem_cons_self
      | cons x t =>
        have e : (x :: t).getLastD b = (x :: t).getLast (List.cons_ne_nil _ _) := by simp [List.getLastD]
        rw [e]
        exact List.mem_cons_of_mem _ (List.getLast_mem _)
    exact h _ this
theorem take_bits {bs : List Int} {k : Nat} (h : Bits bs) : Bits (bs.take k) := fun b hb => h b (List.mem_of_mem_take hb)
/-- int(last + bit == 0) -/
theorem clk_sum {a b : Int} (ha : a = 0 ∨ a = 1) (hb : b = 0 ∨ b = 1) : (if a + b = 0 then (1 : Int) else 0) = clk a b := by
  unfold clk
  rcases ha with rfl | rfl <;> rcases hb with rfl | rfl <;> decide
theorem dtl3 {H : Hp} {x y z : V} {d e f : PyData} (h1 : Dt H x d) (h2 : Dt H y e) (h3 : Dt H z f) : DtAll H [x, y, z] [d, e, f] := .cons h1 (.cons h2 (.cons h3 .nil))
theorem shaped_list3 {d e f : PyData} (h1 : d.canLay0 = true) (h2 : e.canLay0 = true) (h3 : f.canLay0 = true) (k1 : d.depth ≤ 6) (k2 : e.depth ≤ 6) (k3 : f.depth ≤ 6) : SeqAt.shaped (.list [d, e, f]) = true ∧ (PyData.list [d, e, f]).depth < 8 := by
  unfold SeqAt.shaped
  simp only [PyData.canLay0, PyData.canLayAll0, PyData.depth, PyData.depthAll, h1, h2, h3, Bool.and_true, Bool.true_and, decide_eq_true_eq]
  have : max d.depth (max e.depth (max f.depth 0)) ≤ 6 := by
    rw [Nat.max_le, Nat.max_le, Nat.max_le]
    exact ⟨k1, k2, k3, Nat.zero_le _⟩
  exact ⟨decide_eq_true (Nat.le_trans (Nat.succ_le_succ this) (by decide)), Nat.lt_of_le_of_lt (Nat.succ_le_succ this) (by decide)⟩
theorem lay_ints (ns : List Int) : (PyData.list (ns.map PyData.int)).canLay0 = true := by rw [PyData.canLay0]; exact canLay_ints ns
theorem dep6_ints (ns : List Int) : (PyData.list (ns.map PyData.int)).depth ≤ 6 := by
  have := depthAll_ints ns
  simp only [PyData.depth]
  omega
end Dw
namespace Dw
open PySem PySem.Spec PyProof.Rows L2
theorem IL_ne {H : Hp} {a b x : Addr} {ns : List Int} {r : List V} (h1 : H a = some (IL ns)) (h2 : H b = some (.lst (.ref x :: r))) : a ≠ b := by
  refine ne_of h1 h2 fun e => ?_
  unfold IL at e
  injection e with e
  cases ns with
  | nil => cases e
  | cons x t => rw [List.map_cons] at e; injection e with e _; cases e
theorem Pool.ne_len {H : Hp} {p q b : Addr} {xs : List V} (h : Pool H p q) (h2 : H b = some (.lst xs)) (hx : xs.length ≠ 5) : p ≠ b := by
  obtain ⟨ns, a, b', c, d, e, _⟩ := h
  refine ne_of e h2 fun z => hx ?_
  unfold PoolL at z
  injection z with z
  rw [← z]
  rfl
theorem Pool.ne_ref {H : Hp} {p q b x : Addr} {r : List V} (h : Pool H p q) (h2 : H b = some (.lst (.ref x :: r))) : q ≠ b := by
  obtain ⟨ns, a, b', c, d, e, e2, _⟩ := h
  exact IL_ne (ns := ns) e2 h2
end Dw

namespace Dw
open PySem PySem.Spec PyProof.Rows L2
theorem nCells_mul {c m e : Int} (hc : 0 < c) (h1 : -c < 2 * e) (h2 : 2 * e < c) : nCells (c * m + e) c = m := by
  unfold nCells
  have e1 : 2 * (c * m + e) + c = (2 * e + c) + m * (2 * c) := by
    have : m * (2 * c) = 2 * (c * m) := by rw [Int.mul_left_comm, Int.mul_comm m c]
    rw [this]
    omega
  rw [e1, Int.add_mul_ediv_right _ _ (by omega), Int.ediv_eq_zero_of_lt (by omega) (by omega)]
  omega
theorem fixedP_congr {c : Int} {ns ms : List Int} (h : ns.map (fun t => nCells t c) = ms.map (fun t => nCells t c)) : fixedP ns c = fixedP ms c := by
  have e : ∀ l : List Int, fixedP l c = ((l.map fun t => nCells t c).map fun n => oneCells (max 1 n)).flatten := by
    intro l
    unfold fixedP
    rw [List.map_map]
    rfl
  rw [e, e, h]
theorem fixedP_append (ns ms : List Int) (c : Int) : fixedP (ns ++ ms) c = fixedP ns c ++ fixedP ms c := by
  unfold fixedP
  rw [List.map_append, List.flatten_append]
theorem replicate_snoc0 (n : Nat) : List.replicate (n + 1) (0 : Int) = List.replicate n 0 ++ [0] := by
  rw [List.replicate_succ']
/-- the clock gives the cells again, behind any beginning -/
theorem flux_back {c : Int} (hc : 0 < c) {cells : List Int} (hb : Bits cells) : ∀ i, i ≤ cells.length →
    fixedP (fluxS c (cells.take i)).1 c ++ List.replicate (fluxS c (cells.take i)).2.toNat 0 = cells.take i ∧ (∀ t ∈ (fluxS c (cells.take i)).1, ∃ m : Int, 1 ≤ m ∧ m ≤ i ∧ t = c * m)
  | 0, _ => ⟨rfl, fun t h => by cases h⟩
  | i + 1, h => by
    obtain ⟨h1, h2⟩ := flux_back hc hb i (by omega)
    have hbd := fluxS_bound c cells i (by omega)
    have e : cells[i]? = some (cells[i]'(by omega)) := List.getElem?_eq_getElem (by omega)
    have hbit := bits_at hb e
    generalize cells[i]'(by omega) = b at e hbit
    rw [fluxS_more e, take_more e]
    generalize fluxS c (cells.take i) = s at h1 h2 hbd
    obtain ⟨is, n⟩ := s
    simp only at h1 h2 hbd ⊢
    unfold fluxT
    rcases hbit with rfl | rfl
    · rw [if_neg (by decide)]
      refine ⟨?_, fun t ht => ?_⟩
      · have : (n + 1).toNat = n.toNat + 1 := by omega
        show fixedP is c ++ List.replicate (n + 1).toNat 0 = _
        rw [this, replicate_snoc0, ← List.append_assoc, h1]
      · obtain ⟨m, m1, m2, m3⟩ := h2 t ht
        exact ⟨m, m1, by omega, m3⟩
    · rw [if_pos rfl]
      have hn : nCells (c * (n + 1)) c = n + 1 := by
        have := nCells_mul (c := c) (m := n + 1) (e := 0) hc (by omega) (by omega)
        rw [Int.add_zero] at this
        exact this
      refine ⟨?_, fun t ht => ?_⟩
      · show fixedP (is ++ [c * (n + 1)]) c ++ List.replicate (0 : Int).toNat 0 = _
        have e1 : fixedP [c * (n + 1)] c = List.replicate n.toNat 0 ++ [1] := by
          unfold fixedP
          rw [List.map_cons, List.map_nil, List.flatten_cons, List.flatten_nil, List.append_nil, hn]
          have : max 1 (n + 1) = n + 1 := by omega
          rw [this]
          unfold oneCells
          have : (n + 1 - 1).toNat = n.toNat := by omega
          rw [this]
        rw [fixedP_append, e1, ← h1]
        simp
      · rcases List.mem_append.mp ht with ht | ht
        · obtain ⟨m, m1, m2, m3⟩ := h2 t ht
          exact ⟨m, m1, by omega, m3⟩
        · rw [List.mem_singleton.mp ht]
          exact ⟨n + 1, by omega, by omega, rfl⟩
theorem flux_back_all {c : Int} (hc : 0 < c) {cells : List Int} (hb : Bits cells) :
    fixedP (fluxS c cells).1 c ++ List.replicate (fluxS c cells).2.toNat 0 = cells ∧ (∀ t ∈ (fluxS c cells).1, ∃ m : Int, 1 ≤ m ∧ m ≤ cells.length ∧ t = c * m) := by
  have h := flux_back hc hb cells.length (Nat.le_refl _)
  rw [List.take_length] at h
  exact h
theorem flux_bound_all (c : Int) (cells : List Int) : (fluxS c cells).1.length ≤ cells.length ∧ 0 ≤ (fluxS c cells).2 ∧ (fluxS c cells).2 ≤ cells.length := by
  have h := fluxS_bound c cells cells.length (Nat.le_refl _)
  rw [List.take_length] at h
  exact h
theorem fixedP_len_bits {c : Int} (hc : 0 < c) {cells : List Int} (hb : Bits cells) : (fixedP (fluxS c cells).1 c).length ≤ cells.length := by
  have h := (flux_back_all hc hb).1
  have e : (fixedP (fluxS c cells).1 c ++ List.replicate (fluxS c cells).2.toNat 0).length = cells.length := by rw [h]
  rw [List.length_append] at e
  omega
end Dw
namespace Dw
open PySem PySem.Spec PyProof.Rows L2
/-! ### the following clock -/
def folN (t p : Int) : Int := max 1 ((32 * t + p) / (2 * p))
def folP (t p c : Int) : Int := min (max (p + (16 * t - folN t p * p) / (8 * folN t p)) (12 * c)) (20 * c)
def folT (c : Int) (s : Int × List Int) (t : Int) : Int × List Int := (folP t s.1 c, s.2 ++ oneCells (folN t s.1))
def folS (c : Int) (ns : List Int) : Int × List Int := ns.foldl (folT c) (16 * c, [])
def folR (rest p : Int) : Int := (32 * rest + p) / (2 * p)
def followZ (ns : List Int) (rest c : Int) : List Int := (folS c ns).2 ++ List.replicate (folR rest (folS c ns).1).toNat 0
theorem folS_more {c : Int} {ns : List Int} {i : Nat} {t : Int} (h : ns[i]? = some t) : folS c (ns.take (i + 1)) = folT c (folS c (ns.take i)) t := by
  unfold folS
  rw [take_more h, List.foldl_append]
  rfl
theorem folS_period {c : Int} (hc : 0 < c) (ns : List Int) : 12 * c ≤ (folS c ns).1 ∧ (folS c ns).1 ≤ 20 * c := by
  have : ∀ (l : List Int) (s : Int × List Int), 12 * c ≤ s.1 → s.1 ≤ 20 * c → 12 * c ≤ (l.foldl (folT c) s).1 ∧ (l.foldl (folT c) s).1 ≤ 20 * c := by
    intro l
    induction l with
    | nil => intro s h1 h2; exact ⟨h1, h2⟩
    | cons t r ih =>
      intro s _ _
      refine ih _ ?_ ?_
      · show 12 * c ≤ folP t s.1 c
        unfold folP
        omega
      · show folP t s.1 c ≤ 20 * c
        unfold folP
        omega
  exact this ns _ (by show 12 * c ≤ 16 * c; omega) (by show 16 * c ≤ 20 * c; omega)
theorem folS_len {c : Int} (ns : List Int) (i : Nat) : (folS c (ns.take i)).2.length ≤ (folS c ns).2.length := by
  have : ∀ (l : List Int) (s : Int × List Int), s.2.length ≤ (l.foldl (folT c) s).2.length := by
    intro l
    induction l with
    | nil => intro s; exact Nat.le_refl _
    | cons t r ih =>
      intro s
      refine Nat.le_trans ?_ (ih _)
      show s.2.length ≤ (s.2 ++ oneCells _).length
      rw [List.length_append]
      omega
  have e : folS c ns = (ns.drop i).foldl (folT c) (folS c (ns.take i)) := by
    unfold folS
    rw [← List.foldl_append, List.take_append_drop]
  rw [e]
  exact this _ _
theorem folN_le {t p m : Int} (hp : 0 < p) (h1 : 1 ≤ m) (h : 32 * t + p < (m + 1) * (2 * p)) : folN t p ≤ m := by
  unfold folN
  have : (32 * t + p) / (2 * p) < m + 1 := Int.ediv_lt_of_lt_mul (by omega) h
  omega
def FewF (ns : List Int) (rest c : Int) : Prop := ((folS c ns).2.length : Int) + folR rest (folS c ns).1 ≤ 16000000
theorem folR_nn {t p : Int} (ht : 0 ≤ t) (hp : 0 < p) : 0 ≤ folR t p := Int.ediv_nonneg (by omega) (by omega)
def spFollow (C CE : Addr) : Sp := fun vs H Q E => ∃ (r : Addr) (c : Int) (ns : List Int) (rest : Int), vs = [.ref r, .int c] ∧ RdAt C H r ns rest ∧ OkRead ns rest ∧
  (okCell c → FewF ns rest c ∧ ∀ u H', Same H H' → H u = none → H' u = some (IL (followZ ns rest c)) → Q (.ref u) H') ∧ (¬ okCell c → E (.ref CE) none H)
end Dw
namespace Dw
theorem folS_len_le {c : Int} (hc : 0 < c) {ns : List Int} (h : ∀ t ∈ ns, t ≤ 6 * c) : (folS c ns).2.length ≤ 8 * ns.length := by
  have : ∀ (l : List Int) (s : Int × List Int), (∀ t ∈ l, t ≤ 6 * c) → 12 * c ≤ s.1 → s.1 ≤ 20 * c → (l.foldl (folT c) s).2.length ≤ s.2.length + 8 * l.length := by
    intro l
    induction l with
    | nil => intro s _ _ _; exact Nat.le_refl _
    | cons t r ih =>
      intro s hl h1 h2
      have ht := hl t List.mem_cons_self
      have hN : folN t s.1 ≤ 8 := folN_le (by omega) (by decide) (by omega)
      have hN1 : 1 ≤ folN t s.1 := by unfold folN; omega
      have := ih (folT c s t) (fun x hx => hl x (List.mem_cons_of_mem _ hx)) (by show 12 * c ≤ folP t s.1 c; unfold folP; omega) (by show folP t s.1 c ≤ 20 * c; unfold folP; omega)
      refine Nat.le_trans this ?_
      show (s.2 ++ oneCells (folN t s.1)).length + _ ≤ _
      rw [List.length_append, oneCells_nat hN1, List.length_cons]
      omega
  have := this ns (16 * c, []) h (by show 12 * c ≤ 16 * c; omega) (by show 16 * c ≤ 20 * c; omega)
  have e : ([] : List Int).length + 8 * ns.length = 8 * ns.length := by simp
  rw [← e]
  exact this
end Dw

namespace Dw
open PySem PySem.Spec PyProof.Rows L2
/-! ### loops under a name, so that a symbolic run stops in front of them -/
def LcW (J : It) (g : TG) (tt : TT) (te : TE) (vs : List Nat) (σ : L2.St) (H1 : Hp) (D : Addr) (Qd : Hp → Prop) : Prop :=
  ∃ W : Nat → Nat → Hp → Prop, (∃ m, W 0 m (L2.upd H1 D (.lst []))) ∧ ∀ i m H, W i m H →
    (J.stop i H ∧ Qd H) ∨ (J.go i H ∧ ∃ Nx : Hp → Prop, (∀ H', Nx H' → ∃ m', m' < m ∧ W (i + 1) m' H') ∧ ∀ x H', J.yld i H x H' → g x (wipe σ vs) H' fun σ2 H2 => wipe σ2 vs = wipe σ vs ∧ tt σ2 H2 fun b H3 =>
        if b = true then te σ2 H3 fun y H4 => ∃ acc, H4 D = some (.lst acc) ∧ acc.length < sizeLine ∧ Nx (L2.upd H4 D (.lst (acc ++ [y]))) else Nx H3)
theorem tLc_eq {wi : TI} {g : TG} {tt : TT} {te : TE} {vs : List Nat} {σ : L2.St} {H : Hp} {Q : VK} :
    tLc wi g tt te vs σ H Q = wi σ H fun J H1 => ∀ D, H1 D = none → LcW J g tt te vs σ H1 D fun H' => Q (.ref D) H' := rfl
def ForW (J : It) (g : TG) (tb : TS) (D : Ends) (σ : L2.St) (H1 : Hp) : Prop := ∃ W : Nat → Nat → L2.St → Hp → Prop, (∃ m, W 0 m σ H1) ∧ ∀ i m σ H, W i m σ H →
  (J.stop i H ∧ D.nx σ H) ∨ (J.go i H ∧ ∃ N : L2.St → Hp → Prop, (∀ σ' H', N σ' H' → ∃ m', m' < m ∧ W (i + 1) m' σ' H') ∧ ∀ x H', J.yld i H x H' → g x σ H' fun σ2 H2 => tb { D with nx := N, ct := N, bk := D.nx } σ2 H2)
theorem tFor_eq {wi : TI} {g : TG} {tb : TS} {D : Ends} {σ : L2.St} {H : Hp} : tFor wi g tb D σ H = wi σ H fun J H1 => ForW J g tb D σ H1 := rfl
end Dw

namespace Dw
open PySem PySem.Spec PyProof.Rows L2
/-! ### lists of lists of ints -/
def RowsAt (H : Hp) (p : Addr) (rs : List (List Int)) : Prop := ∃ as : List Addr, H p = some (.lst (as.map V.ref)) ∧ as.length = rs.length ∧ ∀ i a, as[i]? = some a → H a = some (IL (rs.getD i []))
theorem RowsAt.same {H H' : Hp} {p : Addr} {rs : List (List Int)} (h : RowsAt H p rs) (s : Same H H') : RowsAt H' p rs := by
  obtain ⟨as, h1, h2, h3⟩ := h
  exact ⟨as, s _ _ h1, h2, fun i a e => s _ _ (h3 i a e)⟩
theorem refs_at {as : List Addr} {i : Nat} {x : V} (h : (as.map V.ref)[i]? = some x) : ∃ a, as[i]? = some a ∧ x = .ref a := by
  rw [List.getElem?_map] at h
  cases hh : as[i]? with
  | none => rw [hh] at h; cases h
  | some a => rw [hh] at h; exact ⟨a, rfl, (Option.some.inj h).symm⟩
/-- the lists of lists as data -/
def LL (rs : List (List Int)) : List PyData := rs.map fun r => .list (r.map PyData.int)
theorem dp_LL {K : PySem.W.Frag} {H : Hp} : ∀ (as : List Addr) (rs : List (List Int)), as.length = rs.length → (∀ i a, as[i]? = some a → H a = some (IL (rs.getD i []))) → DpAll K H (as.map V.ref) (LL rs)
  | [], [], _, _ => .nil
  | a :: as, r :: rs, hl, h => .cons (dp_IL (h 0 a rfl)) (dp_LL as rs (by simpa using hl) fun i a e => h (i + 1) a e)
  | [], _ :: _, hl, _ => by simp at hl
  | _ :: _, [], hl, _ => by simp at hl
theorem RowsAt.dp {K : PySem.W.Frag} {H : Hp} {p : Addr} {rs : List (List Int)} (h : RowsAt H p rs) : Dp K H (.ref p) (.list (LL rs)) := by
  obtain ⟨as, h1, h2, h3⟩ := h
  exact .lst (.of h1) (dp_LL as rs h2 h3)
theorem dt_LL {H : Hp} : ∀ (as : List Addr) (rs : List (List Int)), as.length = rs.length → (∀ i a, as[i]? = some a → H a = some (IL (rs.getD i []))) → DtAll H (as.map V.ref) (LL rs)
  | [], [], _, _ => .nil
  | a :: as, r :: rs, hl, h => .cons (dt_IL (h 0 a rfl)) (dt_LL as rs (by simpa using hl) fun i a e => h (i + 1) a e)
  | [], _ :: _, hl, _ => by simp at hl
  | _ :: _, [], hl, _ => by simp at hl
theorem RowsAt.dt {H : Hp} {p : Addr} {rs : List (List Int)} (h : RowsAt H p rs) : Dt H (.ref p) (.list (LL rs)) := by
  obtain ⟨as, h1, h2, h3⟩ := h
  exact .lst h1 (dt_LL as rs h2 h3)
theorem LL_lay : ∀ rs : List (List Int), PyData.canLayAll0 (LL rs) = true
  | [] => rfl
  | r :: rs => by
    show PyData.canLayAll0 (.list (r.map PyData.int) :: LL rs) = true
    rw [PyData.canLayAll0, LL_lay rs, PyData.canLay0, canLay_ints r]
    rfl
theorem LL_depth : ∀ rs : List (List Int), PyData.depthAll (LL rs) ≤ 3
  | [] => by decide
  | r :: rs => by
    show PyData.depthAll (.list (r.map PyData.int) :: LL rs) ≤ 3
    have h1 := LL_depth rs
    have h2 := Dw.depthAll_ints r
    simp only [PyData.depthAll, PyData.depth]
    omega
theorem shaped_LL (rs : List (List Int)) : SeqAt.shaped (.list (LL rs)) = true := by
  have h1 := LL_lay rs
  have h2 := LL_depth rs
  unfold SeqAt.shaped
  rw [Bool.and_eq_true]
  refine ⟨by rw [PyData.canLay0]; exact h1, decide_eq_true ?_⟩
  simp only [PyData.depth]
  omega
theorem eqvAll_LL : ∀ rs ts : List (List Int), PyData.eqvAll (LL rs) (LL ts) = decide (rs = ts)
  | [], [] => by
    show PyData.eqvAll [] [] = _
    rw [PyData.eqvAll]
    rfl
  | [], _ :: _ => by
    show PyData.eqvAll [] (_ :: _) = _
    rw [PyData.eqvAll, decide_eq_false (fun e => by cases e)]
  | _ :: _, [] => by
    show PyData.eqvAll (_ :: _) [] = _
    rw [PyData.eqvAll, decide_eq_false (fun e => by cases e)]
  | r :: rs, t :: ts => by
    show PyData.eqvAll (.list (r.map PyData.int) :: LL rs) (.list (t.map PyData.int) :: LL ts) = _
    rw [PyData.eqvAll, eqvAll_LL rs ts, PyData.eqv, eqvAll_ints]
    by_cases h : r = t
    · subst h
      by_cases h2 : rs = ts
      · subst h2; simp
      · rw [decide_eq_false h2, decide_eq_false (fun e => h2 (List.cons.inj e).2)]; simp
    · rw [decide_eq_false h, decide_eq_false (fun e => h (List.cons.inj e).1)]
      rfl
theorem RowsAt.push {H : Hp} {p u : Addr} {as : List Addr} {rs : List (List Int)} {r : List Int} (h1 : H p = some (.lst (as.map V.ref))) (h2 : as.length = rs.length) (h3 : ∀ i a, as[i]? = some a → H a = some (IL (rs.getD i []))) (hu : H u = some (IL r)) (n : u ≠ p) :
    RowsAt (upd H p (.lst (as.map V.ref ++ [.ref u]))) p (rs ++ [r]) := by
  refine ⟨as ++ [u], by rw [upd_same, List.map_append]; rfl, by rw [List.length_append, List.length_append, h2]; rfl, fun i a e => ?_⟩
  by_cases hi : i < as.length
  · rw [List.getElem?_append_left hi] at e
    have e3 := h3 i a e
    have na : a ≠ p := fun q => by
      subst q
      rw [h1] at e3
      unfold IL at e3
      injection e3 with e3
      injection e3 with e3
      cases as with
      | nil => simp at hi
      | cons b bs =>
        cases hr : rs.getD i [] with
        | nil => rw [hr] at e3; cases e3
        | cons c cs => rw [hr] at e3; cases e3
    rw [upd_ne na, e3]
    rw [List.getD_eq_getElem?_getD, List.getD_eq_getElem?_getD, List.getElem?_append_left (by omega)]
  · have hi' : i = as.length := by
      have := (List.getElem?_eq_some_iff.mp e).1
      rw [List.length_append] at this
      simp at this
      omega
    subst hi'
    rw [List.getElem?_append_right (Nat.le_refl _), Nat.sub_self] at e
    cases e
    rw [upd_ne n, hu, List.getD_eq_getElem?_getD, List.getElem?_append_right (by omega), h2, Nat.sub_self]
    rfl
/-- all but P stands: rows that are not at P -/
theorem RowsAt.sameB {P : Addr} {H H' : Hp} {p : Addr} {rs : List (List Int)} (h : RowsAt H p rs) (s : SameB P H H') (n : p ≠ P) (hn : ∀ ns, H P ≠ some (IL ns)) : RowsAt H' p rs := by
  obtain ⟨as, h1, h2, h3⟩ := h
  exact ⟨as, s _ _ n h1, h2, fun i a e => s _ _ (fun q => by subst q; exact hn _ (h3 i _ e)) (h3 i a e)⟩
theorem Pool.nIL {H : Hp} {p q : Addr} (h : Pool H p q) (ns : List Int) : H p ≠ some (IL ns) := by
  obtain ⟨ss, a, b, c, d, h1, _⟩ := h
  rw [h1]
  intro e
  unfold PoolL IL at e
  injection e with e
  injection e with e
  cases ns with
  | nil => cases e
  | cons n r => rw [List.map_cons] at e; injection e with e _; cases e
theorem RowsAt.pool {H H' : Hp} {P q p : Addr} {rs : List (List Int)} (h : RowsAt H p rs) (hP : Pool H P q) (s : SameB P H H') (n : p ≠ P) : RowsAt H' p rs := h.sameB s n hP.nIL
theorem RowsAt.len {H : Hp} {p : Addr} {rs : List (List Int)} (h : RowsAt H p rs) : ∃ xs, H p = some (.lst xs) ∧ xs.length = rs.length := by
  obtain ⟨as, h1, h2, _⟩ := h
  exact ⟨_, h1, by rw [List.length_map, h2]⟩
/-- [[..] for j in range(n)] of drawn lists -/
theorem lc_rowsP {p q : Addr} {R : List Int → Prop} {lo : Int} {n j : Nat} {te : TE} {vs : List Nat} {σ : L2.St} {H1 : Hp} {D : Addr} {Qd : Hp → Prop} (hn : n ≤ 16777215) (hP : Pool H1 p q) (hD : H1 D = none) (hw : ∀ v, wipe ((wipe σ vs).set j v) vs = wipe σ vs)
    (hte : ∀ i H3 (Q' : VK), i < n → Pool H3 p q → SameB p H1 H3 → (∀ u r H4, R r → Pool H4 p q → SameB p H3 H4 → H3 u = none → H4 u = some (IL r) → Q' (.ref u) H4) → te ((wipe σ vs).set j (some (.int (lo + (i : Nat))))) H3 Q')
    (hd : ∀ rs H', rs.length = n → (∀ r ∈ rs, R r) → Pool H' p q → SameB p H1 H' → RowsAt H' D rs → Qd H') :
    LcW (Itr lo n) (gName j) tYes te vs σ H1 D Qd := by
  have hDp : p ≠ D := hP.ne hD
  have hDq : q ≠ D := hP.ne2 hD
  refine lc_range (lo := lo) (n := n) (fun i H' => Pool H' p q ∧ SameB p H1 H' ∧ ∃ rs : List (List Int), RowsAt H' D rs ∧ rs.length = i ∧ ∀ r ∈ rs, R r) ⟨hP.upd hD, Same.b (same_new hD _), [], ⟨[], upd_same, rfl, fun i a h => by simp at h⟩, rfl, fun v h => by cases h⟩ ?_ ?_
  · intro i H hi h
    obtain ⟨h1, h2, rs, h3, h4, h5⟩ := h
    refine ⟨hw _, ?_⟩
    simp only [tYes, if_true]
    refine hte i H _ hi h1 h2 fun u r H4 hR hP4 hs hu eu => ?_
    have h6 := h3.pool h1 hs hDp.symm
    obtain ⟨as, k1, k2, k3⟩ := h6
    obtain ⟨xs, m1, _⟩ := h3.len
    have nu : u ≠ D := fun e => by subst e; rw [m1] at hu; cases hu
    refine ⟨as.map V.ref, k1, by rw [List.length_map, k2, h4]; exact line_lt (by omega), hP4.ups hDp hDq, ?_, rs ++ [r], RowsAt.push k1 k2 k3 eu nu, by rw [List.length_append, h4]; rfl, ?_⟩
    · intro b o nb hb
      rw [upd_ne (ne_of_none hb hD)]
      exact hs b o nb (h2 b o nb hb)
    · intro x hx
      rcases List.mem_append.mp hx with hx | hx
      · exact h5 x hx
      · rw [List.mem_singleton.mp hx]; exact hR
  · intro H h
    obtain ⟨h1, h2, rs, h3, h4, h5⟩ := h
    exact hd rs H h4 h5 h1 h2 h3
/-- [f(x, y) for x, y in zip(xs, ys)] -/
theorem lc_zipI {K : PySem.W.Frag} {a b : Addr} {xs ys : List Int} {f : Int → Int → Int} {i1 i2 : Nat} {te : TE} {vs : List Nat} {σ : L2.St} {H1 : Hp} {D : Addr} {Qd : Hp → Prop} (hn : xs.length ≤ 16777215) (hx : H1 a = some (IL xs)) (hy : H1 b = some (IL ys)) (hD : H1 D = none)
    (hw : ∀ v w, wipe (((wipe σ vs).set i1 v).set i2 w) vs = wipe σ vs)
    (hte : ∀ (i : Nat) x y H3 (Q' : VK), xs[i]? = some x → ys[i]? = some y → Same H1 H3 → (∀ H4, Same H3 H4 → Q' (.int (f x y)) H4) → te (((wipe σ vs).set i1 (some (.int x))).set i2 (some (.int y))) H3 Q')
    (hd : ∀ H', Same H1 H' → H' D = some (IL (List.zipWith f xs ys)) → Qd H') :
    LcW (Itz K a b) (gTup K 2 (gCons (gName i1) (gCons (gName i2) gNil))) tYes te vs σ H1 D Qd := by
  have hl : (List.zipWith f xs ys).length = min (xs.map V.int).length (ys.map V.int).length := by rw [List.length_zipWith, List.length_map, List.length_map]
  refine lc_it (walk_zip (K := K) (a := a) (b := b) (xs := xs.map V.int) (ys := ys.map V.int) hl) (fun i H' => Same H1 H' ∧ H' D = some (IL ((List.zipWith f xs ys).take i))) ⟨same_new hD _, upd_same⟩ (fun i H _ h => ⟨.of (h.1 _ _ hx), .of (h.1 _ _ hy)⟩) ?_ ?_
  · intro i x H H' hi h hy'
    obtain ⟨h1, h2⟩ := h
    obtain ⟨t, x, y, rfl, nt, rfl, ex, ey⟩ := hy'
    obtain ⟨x, rfl, fx⟩ := ints_at ex
    obtain ⟨y, rfl, fy⟩ := ints_at ey
    refine ⟨t, _, rfl, .of upd_same, rfl, V.int x, [V.int y], rfl, V.int y, [], rfl, rfl, hw _ _, ?_⟩
    simp only [tYes, if_true]
    refine hte i x y _ _ fx fy (h1.trans (same_new nt _)) fun H4 hs => ?_
    have e4 : H4 D = some (IL ((List.zipWith f xs ys).take i)) := hs _ _ (same_new nt _ _ _ h2)
    have em : (List.zipWith f xs ys)[i]? = some (f x y) := by rw [List.getElem?_zipWith, fx, fy]
    refine ⟨_, e4, ?_, fun c o hc => ?_, ?_⟩
    · rw [List.length_map]
      have := List.length_take_le i (List.zipWith f xs ys)
      have h3 : (List.zipWith f xs ys).length ≤ xs.length := by rw [List.length_zipWith]; omega
      have := List.length_take_le' i (List.zipWith f xs ys)
      exact line_lt (by omega)
    · rw [upd_ne (ne_of_none hc hD)]
      exact hs _ _ (same_new nt _ _ _ (h1 _ _ hc))
    · rw [upd_same, take_more em]
      unfold IL
      rw [List.map_append]
      rfl
  · intro H h
    rw [List.take_length] at h
    exact hd H h.1 h.2
theorem any_rng {n : Nat} {f : Nat → Bool} : (((List.range n).map f).any id = true) ↔ ∃ i, i < n ∧ f i = true := by
  rw [List.any_map, List.any_eq_true]
  constructor
  · rintro ⟨i, hi, e⟩
    exact ⟨i, List.mem_range.mp hi, e⟩
  · rintro ⟨i, hi, e⟩
    exact ⟨i, List.mem_range.mpr hi, e⟩
/-! ### data of a small depth -/
def Shal (d : PyData) (k : Nat) : Prop := PyData.canLay0 d = true ∧ d.depth ≤ k
def ShalAll (ds : List PyData) (k : Nat) : Prop := PyData.canLayAll0 ds = true ∧ PyData.depthAll ds ≤ k
theorem Shal.int {i : Int} {k : Nat} : Shal (.int i) (k + 1) := ⟨by simp only [PyData.canLay0], by simp only [PyData.depth]; omega⟩
theorem Shal.bl {i : Bool} {k : Nat} : Shal (.bool i) (k + 1) := ⟨by simp only [PyData.canLay0], by simp only [PyData.depth]; omega⟩
theorem Shal.non {k : Nat} : Shal .none (k + 1) := ⟨by simp only [PyData.canLay0], by simp only [PyData.depth]; omega⟩
theorem ShalAll.ints {ns : List Int} {k : Nat} : ShalAll (ns.map PyData.int) (k + 1) := ⟨canLay_ints ns, by have := Dw.depthAll_ints ns; omega⟩
theorem ShalAll.nil {k : Nat} : ShalAll [] (k + 1) := ⟨by simp only [PyData.canLayAll0], by simp only [PyData.depthAll]; omega⟩
theorem ShalAll.cons {d : PyData} {ds : List PyData} {k : Nat} (a : Shal d k) (b : ShalAll ds k) : ShalAll (d :: ds) k := ⟨by rw [PyData.canLayAll0, a.1, b.1]; rfl, by
  have h1 := a.2
  have h2 := b.2
  simp only [PyData.depthAll]
  omega⟩
theorem Shal.list {ds : List PyData} {k : Nat} (a : ShalAll ds k) : Shal (.list ds) (k + 1) := ⟨by rw [PyData.canLay0]; exact a.1, by have := a.2; simp only [PyData.depth]; omega⟩
theorem Shal.tup {ds : List PyData} {k : Nat} (a : ShalAll ds k) : Shal (.tuple ds) (k + 1) := ⟨by rw [PyData.canLay0]; exact a.1, by have := a.2; simp only [PyData.depth]; omega⟩
theorem same_of {d : PyData} {x y : V} {H : Hp} {Q : VK} {E : XK} (hs : Shal d 7) (hx : Dt H x d) (hy : Dt H y d) (q : Q (.bl true) H) : spSame 8 [x, y] H Q E :=
  ⟨x, y, d, rfl, hx, hy, by have := hs.2; omega, by
    unfold SeqAt.shaped
    rw [Bool.and_eq_true]
    exact ⟨hs.1, decide_eq_true (by have := hs.2; omega)⟩, q⟩
theorem nat_of {z : Int} (h : 0 ≤ z) : ∃ n : Nat, z = (n : Int) := ⟨z.toNat, by omega⟩
theorem ins_at {α : Type} {l : List α} {i j : Nat} {x : α} (hi : i ≤ l.length) : (l.take i ++ [x] ++ l.drop i)[j]? = if j < i then l[j]? else if j = i then some x else l[j - 1]? := by
  have e1 : (l.take i).length = i := by rw [List.length_take]; omega
  by_cases h : j < i
  · rw [if_pos h, List.append_assoc, List.getElem?_append_left (by omega), List.getElem?_take_of_lt h]
  · rw [if_neg h]
    by_cases h2 : j = i
    · rw [if_pos h2, List.append_assoc, List.getElem?_append_right (by omega), e1, h2, Nat.sub_self]
      rfl
    · rw [if_neg h2, List.getElem?_append_right (by rw [List.length_append, e1]; simp; omega), List.length_append, e1, List.getElem?_drop]
      simp only [List.length_cons, List.length_nil]
      congr 1
      omega
theorem RowsAt.ins {H : Hp} {p u : Addr} {as : List Addr} {rs : List (List Int)} {r : List Int} {i : Nat} (hi : i ≤ as.length) (h1 : H p = some (.lst (as.map V.ref))) (h2 : as.length = rs.length) (h3 : ∀ i a, as[i]? = some a → H a = some (IL (rs.getD i []))) (hu : H u = some (IL r)) (n : u ≠ p) :
    RowsAt (upd H p (.lst ((as.map V.ref).take i ++ [.ref u] ++ (as.map V.ref).drop i))) p (rs.take i ++ [r] ++ rs.drop i) := by
  have nas : ∀ i a, as[i]? = some a → a ≠ p := fun i a e q => by
    subst q
    have e3 := h3 i _ e
    rw [h1] at e3
    unfold IL at e3
    injection e3 with e3
    injection e3 with e3
    cases as with
    | nil => simp at e
    | cons b bs =>
      cases hr : rs.getD i [] with
      | nil => rw [hr] at e3; cases e3
      | cons c cs => rw [hr] at e3; cases e3
  refine ⟨as.take i ++ [u] ++ as.drop i, by rw [upd_same, List.map_append, List.map_append, List.map_take, List.map_drop]; rfl, by simp only [List.length_append, List.length_take, List.length_drop, List.length_cons, List.length_nil, h2], fun j a e => ?_⟩
  rw [ins_at hi] at e
  rw [List.getD_eq_getElem?_getD, ins_at (by omega)]
  by_cases c : j < i
  · rw [if_pos c] at e ⊢
    rw [upd_ne (nas _ _ e), h3 _ _ e, List.getD_eq_getElem?_getD]
  · rw [if_neg c] at e ⊢
    by_cases c2 : j = i
    · rw [if_pos c2] at e ⊢
      cases e
      rw [upd_ne n, hu]
      rfl
    · rw [if_neg c2] at e ⊢
      rw [upd_ne (nas _ _ e), h3 _ _ e, List.getD_eq_getElem?_getD]
/-- [list(row) for row in rows] -/
theorem lc_copyRows {K : PySem.W.Frag} {p : Addr} {rs : List (List Int)} {j : Nat} {te : TE} {vs : List Nat} {σ : L2.St} {H1 : Hp} {D : Addr} {Qd : Hp → Prop} (hn : rs.length ≤ 16777215) (hR : RowsAt H1 p rs) (hD : H1 D = none) (hw : ∀ v, wipe ((wipe σ vs).set j v) vs = wipe σ vs)
    (hte : ∀ i a H3 (Q' : VK), i < rs.length → Same H1 H3 → H3 a = some (IL (rs.getD i [])) → (∀ u, H3 u = none → Q' (.ref u) (L2.upd H3 u (IL (rs.getD i [])))) → te ((wipe σ vs).set j (some (.ref a))) H3 Q')
    (hd : ∀ H', Same H1 H' → RowsAt H' D rs → Qd H') :
    LcW (Itl K p) (gName j) tYes te vs σ H1 D Qd := by
  obtain ⟨as, hp, hl, ha⟩ := hR
  refine lc_list (K := K) (a := p) (xs := as.map V.ref) (fun i H' => Same H1 H' ∧ RowsAt H' D (rs.take i)) ⟨same_new hD _, [], upd_same, by simp, fun j b h => by simp at h⟩ (fun i H' _ h => Same.seq h.1 (.of hp)) ?_ ?_
  · intro i x H' hx h
    obtain ⟨s7, cs, e7, hl7, hcs⟩ := h
    refine ⟨hw _, ?_⟩
    simp only [tYes, if_true]
    obtain ⟨a, hai, rfl⟩ := refs_at hx
    have hlt : i < as.length := (List.getElem?_eq_some_iff.mp hai).1
    have e8 := s7 _ _ (ha i a hai)
    refine hte i a H' _ (by omega) s7 e8 fun u hu => ?_
    have nu : D ≠ u := ne_of_none e7 hu
    have hP := RowsAt.push (H := L2.upd H' u (IL (rs.getD i []))) (p := D) (u := u) (as := cs) (rs := rs.take i) (r := rs.getD i []) (by rw [upd_ne nu]; exact e7) hl7 (fun j b e => same_new hu _ _ _ (hcs j b e)) upd_same nu.symm
    have et : rs.take (i + 1) = rs.take i ++ [rs.getD i []] := by
      rw [List.take_succ, List.getD_eq_getElem?_getD, List.getElem?_eq_getElem (by omega)]
      rfl
    have hcl : cs.length ≤ rs.length := by
      rw [hl7, List.length_take]
      omega
    refine ⟨_, by rw [upd_ne nu]; exact e7, by rw [List.length_map]; exact line_lt (by omega), fun b o hb' => ?_, ?_⟩
    · rw [upd_ne (ne_of_none hb' hD)]
      exact same_new hu _ _ _ (s7 _ _ hb')
    · rw [et]
      exact hP
  · intro H6 h
    obtain ⟨s7, hR6⟩ := h
    rw [List.length_map, hl, List.take_length] at hR6
    exact hd H6 s7 hR6
end Dw

namespace Dw
/-! ### up to three changed bits change the CRC -/
def sh (n : Nat) : Nat := stepB n 0
def shN : Nat → Nat → Nat
  | 0, n => n
  | k + 1, n => shN k (sh n)
theorem sh_xor (n m : Nat) : sh (n ^^^ m) = sh n ^^^ sh m := by
  have h := stepB_xor n m 0 0 (by decide) (by decide)
  exact h
theorem shN_xor : ∀ (k n m : Nat), shN k (n ^^^ m) = shN k n ^^^ shN k m
  | 0, _, _ => rfl
  | k + 1, n, m => by
    show shN k (sh (n ^^^ m)) = _
    rw [sh_xor, shN_xor k]
    rfl
theorem sh_lt (n : Nat) : sh n < 65536 := stepB_lt n 0
theorem shN_lt : ∀ (k n : Nat), n < 65536 → shN k n < 65536
  | 0, _, h => h
  | k + 1, n, _ => shN_lt k _ (sh_lt n)
theorem shN_add : ∀ (j k n : Nat), shN (j + k) n = shN k (shN j n)
  | 0, k, n => by rw [Nat.zero_add]; rfl
  | j + 1, k, n => by
    rw [Nat.succ_add]
    exact shN_add j k (sh n)
theorem shN_succ (k n : Nat) : shN (k + 1) n = sh (shN k n) := shN_add k 1 n
/-- eight bits 0 are one byte 0 -/
theorem tab8_hi : ((List.range 256).all fun h => byteP (h * 256) 0 == shN 8 (h * 256)) = true := by decide +kernel
theorem tab8_lo : ((List.range 256).all fun h => byteP h 0 == shN 8 h) = true := by decide +kernel
theorem byteP_zero {n : Nat} (hn : n < 65536) : byteP n 0 = shN 8 n := by
  have e := @hi_lo n
  have h1 := of_tab (f := fun h => byteP (h * 256) 0) (g := fun h => shN 8 (h * 256)) tab8_hi (show n / 256 < 256 by omega)
  have h2 := of_tab (f := fun h => byteP h 0) (g := fun h => shN 8 h) tab8_lo (show n % 256 < 256 by omega)
  have a := byteP_xor (n / 256 * 256) (n % 256) 0 0
  rw [← e, Nat.xor_zero] at a
  have b := shN_xor 8 (n / 256 * 256) (n % 256)
  rw [← e] at b
  rw [a, b]
  exact congr (congrArg _ h1) h2
/-- one bit of a byte -/
theorem byteP_bit (b : Nat) (hb : b < 8) : byteP 0 (128 / 2 ^ b) = shN (7 - b) 4129 := by
  have : b = 0 ∨ b = 1 ∨ b = 2 ∨ b = 3 ∨ b = 4 ∨ b = 5 ∨ b = 6 ∨ b = 7 := by omega
  rcases this with h | h | h | h | h | h | h | h <;> subst h <;> decide +kernel
def foldP (n : Nat) (vs : List Nat) : Nat := vs.foldl byteP n
theorem foldP_xor : ∀ (vs : List Nat) (n m : Nat), m < 65536 → foldP (n ^^^ m) vs = foldP n vs ^^^ shN (8 * vs.length) m
  | [], _, _, _ => rfl
  | v :: r, n, m, hm => by
    have h := byteP_xor n m v 0
    rw [Nat.xor_zero, byteP_zero hm] at h
    show foldP (byteP (n ^^^ m) v) r = foldP (byteP n v) r ^^^ _
    rw [h, foldP_xor r _ _ (shN_lt 8 m hm), ← shN_add]
    congr 2
    rw [List.length_cons]
    omega
/-- the place p of the bits of vs turned -/
def turnN (vs : List Nat) (p : Nat) : List Nat := vs.set (p / 8) (vs.getD (p / 8) 0 ^^^ 128 / 2 ^ (p % 8))
theorem turnN_len (vs : List Nat) (p : Nat) : (turnN vs p).length = vs.length := List.length_set
def effect (L p : Nat) : Nat := shN (L - 1 - p) 4129
theorem crc_turn {vs : List Nat} {p : Nat} (hp : p < 8 * vs.length) : foldP 65535 (turnN vs p) = foldP 65535 vs ^^^ effect (8 * vs.length) p := by
  have hi : p / 8 < vs.length := by omega
  have e1 : vs = vs.take (p / 8) ++ (vs.getD (p / 8) 0 :: vs.drop (p / 8 + 1)) := by
    rw [List.getD_eq_getElem?_getD, List.getElem?_eq_getElem hi]
    show vs = vs.take (p / 8) ++ (vs[p / 8] :: vs.drop (p / 8 + 1))
    rw [← List.drop_eq_getElem_cons hi, List.take_append_drop]
  have e2 : turnN vs p = vs.take (p / 8) ++ ((vs.getD (p / 8) 0 ^^^ 128 / 2 ^ (p % 8)) :: vs.drop (p / 8 + 1)) := by
    unfold turnN
    rw [List.set_eq_take_append_cons_drop, if_pos hi]
  have hl : (vs.drop (p / 8 + 1)).length = vs.length - (p / 8 + 1) := List.length_drop
  rw [e2]
  conv => rhs; lhs; rw [e1]
  generalize vs.getD (p / 8) 0 = v
  unfold foldP
  rw [List.foldl_append, List.foldl_append, List.foldl_cons, List.foldl_cons]
  generalize List.foldl byteP 65535 (List.take (p / 8) vs) = n
  have hb := byteP_xor n 0 v (128 / 2 ^ (p % 8))
  rw [Nat.xor_zero, byteP_bit _ (Nat.mod_lt _ (by decide))] at hb
  rw [hb]
  have hf := foldP_xor (vs.drop (p / 8 + 1)) (byteP n v) (shN (7 - p % 8) 4129) (shN_lt _ _ (by decide))
  unfold foldP at hf
  rw [hf, ← shN_add, hl]
  unfold effect
  congr 2
  omega
/-! the effects of bits -/
def par (n : Nat) : Bool := (List.range 16).foldl (fun b k => b ^^ n.testBit k) false
theorem par_xor (a b : Nat) : par (a ^^^ b) = (par a ^^ par b) := by
  unfold par
  have : ∀ (l : List Nat) (x y : Bool), l.foldl (fun c k => c ^^ (a ^^^ b).testBit k) (x ^^ y) = ((l.foldl (fun c k => c ^^ a.testBit k) x) ^^ (l.foldl (fun c k => c ^^ b.testBit k) y)) := by
    intro l
    induction l with
    | nil => intro x y; rfl
    | cons k r ih =>
      intro x y
      rw [List.foldl_cons, List.foldl_cons, List.foldl_cons, Nat.testBit_xor, ← ih]
      congr 1
      cases x <;> cases y <;> cases a.testBit k <;> cases b.testBit k <;> rfl
  exact this (List.range 16) false false
theorem tabp_hi : ((List.range 256).all fun h => par (sh (h * 256)) == par (h * 256)) = true := by decide +kernel
theorem tabp_lo : ((List.range 256).all fun h => par (sh h) == par h) = true := by decide +kernel
theorem of_tabB {f g : Nat → Bool} {n k : Nat} (h : ((List.range n).all fun h => f h == g h) = true) (hk : k < n) : f k = g k := by
  rw [List.all_eq_true] at h
  exact eq_of_beq (h k (List.mem_range.mpr hk))
theorem par_sh {n : Nat} (hn : n < 65536) : par (sh n) = par n := by
  have e := @hi_lo n
  have h1 := of_tabB (f := fun h => par (sh (h * 256))) (g := fun h => par (h * 256)) tabp_hi (show n / 256 < 256 by omega)
  have h2 := of_tabB (f := fun h => par (sh h)) (g := fun h => par h) tabp_lo (show n % 256 < 256 by omega)
  have a := sh_xor (n / 256 * 256) (n % 256)
  rw [← e] at a
  have b := par_xor (n / 256 * 256) (n % 256)
  rw [← e] at b
  rw [a, par_xor, b]
  exact congr (congrArg _ h1) h2
theorem par_shN : ∀ (k : Nat) {n : Nat}, n < 65536 → par (shN k n) = par n
  | 0, _, _ => rfl
  | k + 1, n, h => by
    show par (shN k (sh n)) = _
    rw [par_shN k (sh_lt n), par_sh h]
theorem par_effect (L p : Nat) : par (effect L p) = true := by
  unfold effect
  rw [par_shN _ (by decide)]
  decide +kernel
theorem par_zero : par 0 = false := by decide +kernel
/-- no return within 1600 steps -/
def ring : Nat → Nat → Bool
  | 0, _ => true
  | k + 1, n => (sh n != 4129) && ring k (sh n)
theorem ring_ok : ring 1600 4129 = true := by decide +kernel
theorem ring_at : ∀ (k n j : Nat), ring k n = true → j < k → shN (j + 1) n ≠ 4129
  | 0, _, _, _, h => absurd h (Nat.not_lt_zero _)
  | k + 1, n, 0, h, _ => by
    unfold ring at h
    rw [Bool.and_eq_true] at h
    intro e
    have q : sh n = 4129 := e
    rw [q] at h
    exact absurd h.1 (by decide)
  | k + 1, n, j + 1, h, hj => by
    unfold ring at h
    rw [Bool.and_eq_true] at h
    exact ring_at k (sh n) j h.2 (by omega)
/-- a step loses nothing -/
theorem xor_self_zero {a b : Nat} (h : a ^^^ b = 0) : a = b := by
  have : a ^^^ b ^^^ b = 0 ^^^ b := by rw [h]
  rw [Nat.xor_assoc, Nat.xor_self, Nat.xor_zero, Nat.zero_xor] at this
  exact this
theorem sh_zero {n : Nat} (hn : n < 65536) (h : sh n = 0) : n = 0 := by
  unfold sh stepB at h
  have e := xor_self_zero h
  by_cases c : n / 32768 % 2 = 0
  · rw [if_pos c] at e
    omega
  · rw [if_neg c] at e
    omega
theorem sh_inj {a b : Nat} (ha : a < 65536) (hb : b < 65536) (h : sh a = sh b) : a = b := by
  have e : sh (a ^^^ b) = 0 := by rw [sh_xor, h, Nat.xor_self]
  exact xor_self_zero (sh_zero (xor_lt (k := 16) ha hb) e)
theorem shN_inj : ∀ (k : Nat) {a b : Nat}, a < 65536 → b < 65536 → shN k a = shN k b → a = b
  | 0, _, _, _, _, h => h
  | k + 1, a, b, ha, hb, h => sh_inj ha hb (shN_inj k (sh_lt a) (sh_lt b) h)
theorem effect_ne_lt {L p q : Nat} (hL : L ≤ 1600) (h : p < q) (hq : q < L) : effect L p ≠ effect L q := by
  intro e
  unfold effect at e
  have : L - 1 - p = ((q - p - 1) + 1) + (L - 1 - q) := by omega
  rw [this, shN_add] at e
  have e2 := shN_inj _ (shN_lt _ _ (by decide)) (by decide) e
  exact ring_at 1600 4129 (q - p - 1) ring_ok (by omega) e2
theorem effect_ne {L p q : Nat} (hL : L ≤ 1600) (h : p ≠ q) (hp : p < L) (hq : q < L) : effect L p ≠ effect L q := by
  rcases Nat.lt_or_gt_of_ne h with h | h
  · exact effect_ne_lt hL h hq
  · exact fun e => effect_ne_lt hL h hp e.symm
def effects (L : Nat) (ps : List Nat) : Nat := ps.foldl (fun n p => n ^^^ effect L p) 0
theorem crc_turns : ∀ (ps : List Nat) {vs : List Nat}, (∀ p ∈ ps, p < 8 * vs.length) → foldP 65535 (ps.foldl turnN vs) = ps.foldl (fun n p => n ^^^ effect (8 * vs.length) p) (foldP 65535 vs)
  | [], _, _ => rfl
  | p :: r, vs, h => by
    rw [List.foldl_cons, List.foldl_cons, ← crc_turn (h p List.mem_cons_self)]
    have e := crc_turns r (vs := turnN vs p) fun q hq => by rw [turnN_len]; exact h q (List.mem_cons_of_mem _ hq)
    rw [turnN_len] at e
    exact e
/-- one to three bits -/
theorem crc_changed {ps : List Nat} {vs : List Nat} (hl : vs.length ≤ 200) (h0 : 0 < ps.length) (h3 : ps.length ≤ 3) (hn : ps.Nodup) (hp : ∀ p ∈ ps, p < 8 * vs.length) : crcN (ps.foldl turnN vs) ≠ crcN vs := by
  have e := crc_turns ps hp
  unfold foldP at e
  unfold crcN
  rw [e]
  generalize List.foldl byteP 65535 vs = n
  have hL : 8 * vs.length ≤ 1600 := by omega
  generalize 8 * vs.length = L at *
  intro q
  match ps, h0, h3, hn, hp with
  | [a], _, _, _, _ =>
    simp only [List.foldl_cons, List.foldl_nil] at q
    have z : effect L a = 0 := by
      have : n ^^^ (n ^^^ effect L a) = n ^^^ n := by rw [q]
      rw [← Nat.xor_assoc, Nat.xor_self, Nat.zero_xor] at this
      exact this
    have := par_effect L a
    rw [z, par_zero] at this
    cases this
  | [a, b], _, _, hn, hp =>
    simp only [List.foldl_cons, List.foldl_nil] at q
    have z : effect L a ^^^ effect L b = 0 := by
      have : n ^^^ (n ^^^ effect L a ^^^ effect L b) = n ^^^ n := by rw [q]
      rw [Nat.xor_assoc n, ← Nat.xor_assoc, Nat.xor_self, Nat.zero_xor] at this
      exact this
    have hab : a ≠ b := by
      rw [List.nodup_cons] at hn
      exact fun e => hn.1 (by rw [e]; exact List.mem_cons_self)
    exact effect_ne hL hab (hp a List.mem_cons_self) (hp b (List.mem_cons_of_mem _ List.mem_cons_self)) (xor_self_zero z)
  | [a, b, c], _, _, _, _ =>
    simp only [List.foldl_cons, List.foldl_nil] at q
    have z : effect L a ^^^ effect L b ^^^ effect L c = 0 := by
      have : n ^^^ (n ^^^ effect L a ^^^ effect L b ^^^ effect L c) = n ^^^ n := by rw [q]
      rw [Nat.xor_assoc n, Nat.xor_assoc n, ← Nat.xor_assoc, Nat.xor_self, Nat.zero_xor] at this
      exact this
    have := par_effect L a
    have k2 := par_effect L b
    have k3 := par_effect L c
    have k : par (effect L a ^^^ effect L b ^^^ effect L c) = par 0 := by rw [z]
    rw [par_xor, par_xor, this, k2, k3, par_zero] at k
    cases k
end Dw

namespace Dw
open PySem PySem.Spec PyProof.Rows L2
/-! ### numbers as digits of the base 128 -/
def digs (n : Nat) : List Int := if h : n > 127 then (128 + ((n % 128 : Nat) : Int)) :: digs (n / 128) else [(n : Int)]
termination_by n
decreasing_by omega
theorem digs_big {n : Nat} (h : n > 127) : digs n = (128 + ((n % 128 : Nat) : Int)) :: digs (n / 128) := by
  rw [digs, dif_pos h]
theorem digs_small {n : Nat} (h : ¬ n > 127) : digs n = [(n : Int)] := by
  rw [digs, dif_neg h]
theorem digs_len : ∀ (k n : Nat), n < 128 ^ (k + 1) → (digs n).length ≤ k + 1
  | 0, n, h => by
    rw [digs_small (by omega)]
    exact Nat.le_refl _
  | k + 1, n, h => by
    by_cases c : n > 127
    · rw [digs_big c, List.length_cons]
      have := digs_len k (n / 128) (by
        rw [Nat.div_lt_iff_lt_mul (by decide)]
        rw [Nat.pow_succ] at h
        exact h)
      omega
    · rw [digs_small c]
      exact Nat.le_add_left _ _
/-- how many digits there are in front of the last one -/
def lead : List Int → Nat
  | [] => 0
  | x :: r => if x > 127 then lead r + 1 else 0
def valD (ds : List Int) : Int := ds.foldr (fun d acc => acc * 128 + d % 128) 0
theorem valD_snoc : ∀ (ds : List Int) (x : Int), valD (ds ++ [x]) = valD ds + 128 ^ ds.length * (x % 128)
  | [], x => by
    show 0 * 128 + x % 128 = 0 + 128 ^ 0 * (x % 128)
    simp
  | d :: r, x => by
    have ih := valD_snoc r x
    show valD (r ++ [x]) * 128 + d % 128 = valD r * 128 + d % 128 + 128 ^ (r.length + 1) * (x % 128)
    rw [ih, Int.add_mul, Int.pow_succ, Int.mul_right_comm]
    omega
theorem lead_le : ∀ ns : List Int, lead ns ≤ ns.length
  | [] => Nat.le_refl _
  | x :: r => by
    have := lead_le r
    show (if x > 127 then lead r + 1 else 0) ≤ r.length + 1
    split <;> omega
theorem lead_at : ∀ {ns : List Int} {i : Nat}, i < lead ns → ∃ x, ns[i]? = some x ∧ x > 127
  | [], _, h => absurd h (Nat.not_lt_zero _)
  | x :: r, i, h => by
    unfold lead at h
    by_cases c : x > 127
    · rw [if_pos c] at h
      cases i with
      | zero => exact ⟨x, rfl, c⟩
      | succ i => exact lead_at (ns := r) (i := i) (by omega)
    · rw [if_neg c] at h
      exact absurd h (Nat.not_lt_zero _)
theorem lead_stop : ∀ {ns : List Int} {x : Int}, ns[lead ns]? = some x → ¬ x > 127
  | [], _, h => by cases h
  | y :: r, x, h => by
    unfold lead at h
    by_cases c : y > 127
    · rw [if_pos c, List.getElem?_cons_succ] at h
      exact lead_stop h
    · rw [if_neg c] at h
      cases h
      exact c
theorem lead_eq {ns : List Int} {i : Nat} {x : Int} (h1 : i ≤ lead ns) (h2 : ns[i]? = some x) (h3 : ¬ x > 127) : lead ns = i := by
  apply Classical.byContradiction
  intro c
  obtain ⟨y, e, hy⟩ := lead_at (ns := ns) (i := i) (by omega)
  rw [h2] at e
  cases e
  exact h3 hy
theorem lead_digs : ∀ (n : Nat) (r : List Int), lead (digs n ++ r) + 1 = (digs n).length := by
  intro n
  induction n using Nat.strongRecOn with
  | ind n ih =>
    intro r
    by_cases c : n > 127
    · rw [digs_big c, List.cons_append, List.length_cons]
      unfold lead
      rw [if_pos (by omega), ih (n / 128) (by omega) r]
    · rw [digs_small c]
      show lead ((n : Int) :: r) + 1 = 1
      unfold lead
      rw [if_neg (by omega)]
theorem val_digs : ∀ n : Nat, valD (digs n) = (n : Int) := by
  intro n
  induction n using Nat.strongRecOn with
  | ind n ih =>
    by_cases c : n > 127
    · rw [digs_big c]
      show valD (digs (n / 128)) * 128 + (128 + ((n % 128 : Nat) : Int)) % 128 = _
      rw [ih (n / 128) (by omega)]
      omega
    · rw [digs_small c]
      show 0 * 128 + (n : Int) % 128 = _
      omega
theorem last_digs : ∀ n : Nat, 1 < (digs n).length → (digs n).getD ((digs n).length - 1) 0 ≠ 0 := by
  intro n
  induction n using Nat.strongRecOn with
  | ind n ih =>
    intro h
    by_cases c : n > 127
    · have hl : 0 < (digs (n / 128)).length := by
        have := lead_digs (n / 128) []
        omega
      rw [digs_big c, List.length_cons]
      have e : (digs (n / 128)).length + 1 - 1 = ((digs (n / 128)).length - 1) + 1 := by omega
      rw [e, List.getD_cons_succ]
      by_cases h2 : 1 < (digs (n / 128)).length
      · exact ih (n / 128) (by omega) h2
      · have c2 : ¬ n / 128 > 127 := fun c2 => by
          rw [digs_big c2, List.length_cons] at h2
          have := lead_digs (n / 128 / 128) []
          omega
        rw [digs_small c2]
        show ((n / 128 : Nat) : Int) ≠ 0
        omega
    · rw [digs_small c] at h
      exact absurd h (Nat.lt_irrefl _)
/-- the number that begins at a place, and the place behind it -/
def rdZ (ns : List Int) (i : Nat) : Option (Int × Nat) :=
  let m := lead (ns.drop i)
  if i + m < ns.length ∧ ¬ (0 < m ∧ ns.getD (i + m) 0 = 0) then some (valD ((ns.drop i).take (m + 1)), i + m + 1) else none
theorem rd_digs (pre : List Int) (n : Nat) (r : List Int) : rdZ (pre ++ digs n ++ r) pre.length = some ((n : Int), pre.length + (digs n).length) := by
  have hd : (pre ++ digs n ++ r).drop pre.length = digs n ++ r := by
    rw [List.append_assoc, List.drop_left]
  have hl := lead_digs n r
  have hg : ∀ i, (pre ++ digs n ++ r).getD (pre.length + i) 0 = (digs n ++ r).getD i 0 := fun i => by
    rw [List.append_assoc, List.getD_eq_getElem?_getD, List.getElem?_append_right (by omega), List.getD_eq_getElem?_getD]
    congr 2
    omega
  unfold rdZ
  simp only [hd, hg]
  rw [if_pos]
  · have e : lead (digs n ++ r) + 1 = (digs n).length := hl
    rw [e, List.take_left, val_digs, ← e]
    rfl
  · refine ⟨by rw [List.length_append, List.length_append]; omega, fun ⟨h1, h2⟩ => ?_⟩
    have e : lead (digs n ++ r) = (digs n).length - 1 := by omega
    rw [e, List.getD_eq_getElem?_getD, List.getElem?_append_left (by omega), ← List.getD_eq_getElem?_getD] at h2
    exact last_digs n (by omega) h2
theorem cdivW_r {i j : Int} (h1 : 0 < j) (h2 : j < 18446744073709551616) : CDivW i j = True := eq_true ⟨h1, by
  have h3 : j.natAbs < 2 ^ 64 := by omega
  have h4 : j.natAbs ≠ 0 := by omega
  have := (Nat.log2_lt h4).mpr h3
  omega⟩
def spDrawW : Sp := fun vs H Q _ => ∃ (p q : Addr) (m : Int), vs = [.ref p, .int m] ∧ Pool H p q ∧ 0 < m ∧ m < 18446744073709551616 ∧ ∀ r H', 0 ≤ r → r < m → Pool H' p q → SameB p H H' → Q (.int r) H'
theorem drawW {vs : List V} {H : Hp} {Q : VK} {E : XK} (h : spDraw vs H Q E) : spDrawW vs H Q E := by
  obtain ⟨p, q, m, e, h1, h2, h3, k⟩ := h
  exact ⟨p, q, m, e, h1, h2, by omega, k⟩
def spWriteNumber : Sp := fun vs H Q _ => ∃ n : Nat, vs = [.int n] ∧ n < 128 ^ 100 ∧ ∀ D H', Same H H' → H D = none → H' D = some (IL (digs n)) → Q (.ref D) H'
def spReadNumber (CE : Addr) : Sp := fun vs H Q E => ∃ (a : Addr) (ns : List Int) (i : Nat), vs = [.ref a, .int i] ∧ H a = some (IL ns) ∧ ns.length ≤ 1000000 ∧
  (∀ v k, rdZ ns i = some (v, k) → ∀ t H', Same H H' → H t = none → H' t = some (.tup [.int v, .int (k : Int)]) → Q (.ref t) H') ∧ (rdZ ns i = none → ∀ H', Same H H' → E (.ref CE) none H')
theorem cutI_nat {ns : List Int} {i j : Nat} (h : i ≤ j) (h2 : j ≤ ns.length) : cutI ns (some (i : Int)) (some (j : Int)) = (ns.drop i).take (j - i) := by
  unfold cutI
  rw [HT.sIx_nat, HT.sIx_nat, Nat.min_eq_left h2, Nat.min_eq_left (Nat.le_trans h h2)]
theorem valD_drop {ds : List Int} {t : Nat} {x : Int} (h : t < ds.length) (hx : ds[ds.length - 1 - t]? = some x) : valD (ds.drop (ds.length - (t + 1))) = valD (ds.drop (ds.length - t)) * 128 + x % 128 := by
  have h1 : ds.length - (t + 1) < ds.length := by omega
  have e : ds.length - (t + 1) + 1 = ds.length - t := by omega
  have e2 : ds.length - 1 - t = ds.length - (t + 1) := by omega
  rw [e2, List.getElem?_eq_getElem h1] at hx
  rw [List.drop_eq_getElem_cons h1, e, Option.some.inj hx]
  rfl
end Dw

namespace Dw
open PySem PySem.Spec PyProof.Rows L2
/-! ### xs[lo:hi:c] of a list, c written and positive -/
def picks {α : Type} (xs : List α) (lo hi : Option Int) (c : Int) : List α :=
  (sliceRange (sliceBounds lo hi (some c) xs.length).1 (sliceBounds lo hi (some c) xs.length).2.1 (sliceBounds lo hi (some c) xs.length).2.2).filterMap (xs[·]?)
theorem vals_pick {xs : List V} {us : List Value} (r : Vals xs us) : ∀ is : List Nat, Vals (is.filterMap (xs[·]?)) (is.filterMap (us[·]?))
  | [] => .nil
  | i :: is => by
    have ih := vals_pick r is
    rw [List.filterMap_cons, List.filterMap_cons]
    cases e : xs[i]? with
    | none =>
      rw [Vals.none_of r e]
      exact ih
    | some x =>
      obtain ⟨u, eu, ru⟩ := Vals.get r e
      rw [eu]
      exact .cons ru ih
theorem picks_map {α β : Type} (f : α → β) (xs : List α) (lo hi : Option Int) (c : Int) : picks (xs.map f) lo hi c = (picks xs lo hi c).map f := by
  unfold picks
  rw [List.length_map, List.map_filterMap]
  congr 1
  funext i
  rw [List.getElem?_map]
/-- what is asked, by values: any reading that gives this -/
def SlcOk (K : PySem.W.Frag) (c : Int) (rd : V → Option Int → Option Int → Hp → VK → Prop) : Prop := ∀ x l u H Q, rd x l u H Q → ∃ a xs, x = .ref a ∧ SqL K H a xs ∧ ∀ p, H p = none → Q (.ref p) (upd H p (.lst (picks xs l u c)))
def rSlCI (c : Int) : V → Option Int → Option Int → Hp → VK → Prop := fun x l u H Q => ∃ a ns, x = .ref a ∧ H a = some (IL ns) ∧ ∀ p, H p = none → Q (.ref p) (upd H p (IL (picks ns l u c)))
theorem slcI {K : PySem.W.Frag} {c : Int} : SlcOk K c (rSlCI c) := fun x l u H Q h => by
  obtain ⟨a, ns, e, h1, q⟩ := h
  refine ⟨a, _, e, .of h1, fun p hp => ?_⟩
  rw [picks_map]
  exact q p hp
section
variable {X : Cx}
theorem pe_sliceC {e : Expr} {lo hi : Option Expr} {te : TE} {tl th : TO} {rd : V → Option Int → Option Int → Hp → VK → Prop} {c : Int} {k : Nat} {p1 p3 pos : Pos} (ok : SlcOk X.K c rd) (hc : (some c : Option Int) ≠ some 0) (he : PE X e te) (hl : PO X lo tl) (hu : PO X hi th) :
    PE X (.Subscript e (.Slice lo hi (some (.Constant (.int c) k p1)) p3) pos) (tSl rd te tl th) := by
  refine ⟨fun pins s σ H Q I h => ?_⟩
  refine Subscript_ (thn (he.run pins s σ H _ I h) fun v s1 ⟨x, H1, I1, r1, q1⟩ => ?_)
  have hst : PO X (some (.Constant (.int c) k p1)) (tPart (tC (.int c))) := po_some pe_int
  refine wpAny_Slice (thn (hl.run pins s1 σ H1 _ I1 q1) fun vl s2 ⟨l, H2, I2, pl, q2⟩ => ?_)
  refine thn (hu.run pins s2 σ H2 _ I2 q2) fun vu s3 ⟨u, H3, I3, pu, q3⟩ => ?_
  obtain ⟨a, xs, ex, hx, q⟩ := ok _ _ _ _ _ q3
  subst ex
  cases r1
  refine thn (hst.run pins s3 σ H3 (fun o H4 => o = some c ∧ H4 = H3) I3 ⟨c, rfl, rfl, rfl⟩) fun vs s4 ⟨o, H4, I4, ps, eo, e4⟩ => ?_
  subst eo e4
  have I5 : Inv X pins σ H4 { s4 with heap := s4.heap.push { cls := .type "slice", data := .fields #[vl, vu, vs] } } := I4.kept (t' := s4.toks) fun b ob q => Heap.get?_push_of_some _ q
  obtain ⟨its, r, ht, hz⟩ := I5.list hx
  have hlen := r.length
  show wpAny (model X.prog X.w) X.A (subscriptTail e (.Slice lo hi (some (.Constant (.int c) k p1)) p3) (.ref a) (.ref s4.heap.objs.size)) (EP X pins σ Q) X.xe { s4 with heap := s4.heap.push { cls := .type "slice", data := .fields #[vl, vu, vs] } }
  refine tail_any (ops := [.ref a, .ref s4.heap.objs.size]) ht.isList.typeIs (PySem.slot_list_getitem.lookup) ?_ (by with_unfolding_all rfl)
  refine wpAny_getItem_list_slice ht.isList (Heap.IsSliceOf.new _ vl vu vs) pl pu ps hc ?_ (by rw [List.size_toArray]; omega)
  have ep : slicePick its.toArray l u (some c) = (picks its l u c).toArray := by
    unfold slicePick picks
    rw [List.size_toArray]
    congr 2
    funext i
    exact List.getElem?_toArray ..
  rw [ep]
  have hle := slicePick_size_le its.toArray l u (some c)
  rw [ep, List.size_toArray, List.size_toArray] at hle
  have hv : Vals (picks xs l u c) (picks its l u c) := by
    unfold picks
    rw [hlen]
    exact vals_pick r _
  refine ⟨.ref _, _, I5.laid (t' := s4.toks) (o := .lst (picks xs l u c)) (fun b ob q => Heap.get?_push_of_some _ q) (Nat.le_refl _) ?_, rfl, q _ (I5.hok.fresh (Nat.le_refl _))⟩
  exact ⟨by rw [hv.length]; omega, _, 0, hv, Heap.get?_push_size _ rfl⟩
end
/-! every c-th one -/
theorem filterMap_some {α β : Type} {g : α → Option β} {h : α → β} : ∀ {l : List α}, (∀ i ∈ l, g i = some (h i)) → l.filterMap g = l.map h
  | [], _ => rfl
  | x :: r, q => by
    rw [List.filterMap_cons, q x List.mem_cons_self, List.map_cons, filterMap_some fun i hi => q i (List.mem_cons_of_mem _ hi)]
theorem range_pick {ns : List Int} {a c n : Nat} (hc : 0 < c) (ha : a ≤ n) (hn : n ≤ ns.length) :
    (sliceRange (a : Int) (n : Int) (c : Int)).filterMap (ns[·]?) = (List.range ((n - a + c - 1) / c)).map fun i => ns.getD (a + c * i) 0 := by
  have hcount : (if (c : Int) > 0 then (if (a : Int) < (n : Int) then ((n : Int) - (a : Int) + (c : Int) - 1) / (c : Int) else 0) else (if (a : Int) > (n : Int) then ((a : Int) - (n : Int) - (c : Int) - 1) / (-(c : Int)) else 0)).toNat = (n - a + c - 1) / c := by
    rw [if_pos (by omega)]
    by_cases h : a < n
    · rw [if_pos (by omega)]
      have e : (n : Int) - (a : Int) + (c : Int) - 1 = ((n - a + c - 1 : Nat) : Int) := by omega
      rw [e, ← Int.natCast_ediv, Int.toNat_natCast]
    · rw [if_neg (by omega)]
      have e : n - a + c - 1 = c - 1 := by omega
      rw [e, Nat.div_eq_of_lt (by omega)]
      rfl
  unfold sliceRange
  simp only
  rw [hcount, List.filterMap_map]
  refine filterMap_some fun i hi => ?_
  rw [List.mem_range] at hi
  have h1 : c * ((n - a + c - 1) / c) ≤ n - a + c - 1 := Nat.mul_div_le _ _
  have h2 : c * (i + 1) ≤ c * ((n - a + c - 1) / c) := Nat.mul_le_mul_left c hi
  rw [Nat.mul_add, Nat.mul_one] at h2
  have h3 : a + c * i < ns.length := by omega
  have e : ((a : Int) + (c : Int) * (i : Int)).toNat = a + c * i := by
    have : (c : Int) * (i : Int) = ((c * i : Nat) : Int) := by rw [Int.natCast_mul]
    omega
  simp only [Function.comp]
  rw [e, List.getElem?_eq_getElem h3, List.getD_eq_getElem?_getD, List.getElem?_eq_getElem h3]
  rfl
theorem range_none {ns : List Int} {a b c : Int} (hc : 0 < c) (h : b ≤ a) : (sliceRange a b c).filterMap (ns[·]?) = [] := by
  unfold sliceRange
  simp only
  rw [if_pos hc, if_neg (by omega)]
  rfl
theorem picks_to {ns : List Int} {a c n : Nat} (hc : 0 < c) (hn : n ≤ ns.length) :
    picks ns (some (a : Int)) (some (n : Int)) (c : Int) = (List.range ((n - a + c - 1) / c)).map fun i => ns.getD (a + c * i) 0 := by
  have hb : sliceBounds (some (a : Int)) (some (n : Int)) (some (c : Int)) ns.length = (((min a ns.length : Nat) : Int), (n : Int), (c : Int)) := by
    have h1 : (c : Int) > 0 := by omega
    have h2 : ¬ (a : Int) < 0 := by omega
    have h3 : ¬ (n : Int) < 0 := by omega
    simp only [sliceBounds, Option.getD_some, h1, h2, h3, if_true, if_false]
    congr 1
    · omega
    · congr 1
      omega
  unfold picks
  rw [hb]
  by_cases ha : a ≤ n
  · have e : min a ns.length = a := by omega
    rw [e]
    exact range_pick hc ha hn
  · simp only
    rw [range_none (by omega) (by omega)]
    have e : n - a + c - 1 = c - 1 := by omega
    rw [e, Nat.div_eq_of_lt (by omega)]
    rfl
theorem picks_from {ns : List Int} {a c : Nat} (hc : 0 < c) :
    picks ns (some (a : Int)) none (c : Int) = (List.range ((ns.length - a + c - 1) / c)).map fun i => ns.getD (a + c * i) 0 := by
  have hb : sliceBounds (some (a : Int)) none (some (c : Int)) ns.length = (((min a ns.length : Nat) : Int), (ns.length : Int), (c : Int)) := by
    have h1 : (c : Int) > 0 := by omega
    have h2 : ¬ (a : Int) < 0 := by omega
    simp only [sliceBounds, Option.getD_some, h1, h2, if_true, if_false]
    congr 1
    omega
  unfold picks
  rw [hb]
  by_cases ha : a ≤ ns.length
  · have e : min a ns.length = a := by omega
    rw [e]
    exact range_pick hc ha (Nat.le_refl _)
  · simp only
    rw [range_none (by omega) (by omega)]
    have e : ns.length - a + c - 1 = c - 1 := by omega
    rw [e, Nat.div_eq_of_lt (by omega)]
    rfl
/-! ### reading cells -/
def evens (cs : List Int) (n : Nat) : List Int := (List.range n).map fun i => cs.getD (2 * i) 0
def odds (cs : List Int) (n : Nat) : List Int := (List.range n).map fun i => cs.getD (2 * i + 1) 0
theorem evens_len (cs : List Int) (n : Nat) : (evens cs n).length = n := by unfold evens; rw [List.length_map, List.length_range]
theorem odds_len (cs : List Int) (n : Nat) : (odds cs n).length = n := by unfold odds; rw [List.length_map, List.length_range]
theorem evens_get {cs : List Int} {n i : Nat} (h : i < n) : (evens cs n).getD i 0 = cs.getD (2 * i) 0 := by
  unfold evens
  rw [List.getD_eq_getElem?_getD, List.getElem?_map, List.getElem?_range h]
  rfl
theorem odds_get {cs : List Int} {n i : Nat} (h : i < n) : (odds cs n).getD i 0 = cs.getD (2 * i + 1) 0 := by
  unfold odds
  rw [List.getD_eq_getElem?_getD, List.getElem?_map, List.getElem?_range h]
  rfl
theorem getD_take {cs : List Int} {n i : Nat} (h : i < n) : (cs.take n).getD i 0 = cs.getD i 0 := by
  rw [List.getD_eq_getElem?_getD, List.getD_eq_getElem?_getD, List.getElem?_take_of_lt h]
theorem whole_even {cs : List Int} {n : Nat} (h : 2 * n ≤ cs.length) : picks (cs.take (2 * n)) (some 0) none 2 = evens cs n := by
  have e := picks_from (ns := cs.take (2 * n)) (a := 0) (c := 2) (by decide)
  have hl : (cs.take (2 * n)).length = 2 * n := by rw [List.length_take]; omega
  rw [hl] at e
  have e2 : (2 * n - 0 + 2 - 1) / 2 = n := by omega
  rw [e2] at e
  refine e.trans ?_
  unfold evens
  refine List.map_congr_left fun i hi => ?_
  rw [List.mem_range] at hi
  rw [Nat.zero_add, getD_take (by omega)]
theorem whole_odd {cs : List Int} {n : Nat} (h : 2 * n ≤ cs.length) : picks (cs.take (2 * n)) (some 1) none 2 = odds cs n := by
  have e := picks_from (ns := cs.take (2 * n)) (a := 1) (c := 2) (by decide)
  have hl : (cs.take (2 * n)).length = 2 * n := by rw [List.length_take]; omega
  rw [hl] at e
  have e2 : (2 * n - 1 + 2 - 1) / 2 = n := by omega
  rw [e2] at e
  refine e.trans ?_
  unfold odds
  refine List.map_congr_left fun i hi => ?_
  rw [List.mem_range] at hi
  rw [getD_take (by omega), Nat.add_comm]
theorem part_even {cs : List Int} {n : Nat} (h : 2 * n ≤ cs.length) : picks cs (some 0) (some ((2 * n : Nat) : Int)) 2 = evens cs n := by
  have e := picks_to (ns := cs) (a := 0) (c := 2) (n := 2 * n) (by decide) h
  have e2 : (2 * n - 0 + 2 - 1) / 2 = n := by omega
  rw [e2] at e
  refine e.trans ?_
  unfold evens
  refine List.map_congr_left fun i hi => ?_
  rw [Nat.zero_add]
theorem part_odd {cs : List Int} {n : Nat} (h : 2 * n ≤ cs.length) : picks cs (some 1) (some ((2 * n : Nat) : Int)) 2 = odds cs n := by
  have e := picks_to (ns := cs) (a := 1) (c := 2) (n := 2 * n) (by decide) h
  have e2 : (2 * n - 1 + 2 - 1) / 2 = n := by omega
  rw [e2] at e
  refine e.trans ?_
  unfold odds
  refine List.map_congr_left fun i hi => ?_
  rw [Nat.add_comm]
def byteZ (ns : List Int) : Int := ns.foldl (fun v b => 2 * v + b) 0
theorem byteZ_more {ns : List Int} {i : Nat} {b : Int} (h : ns[i]? = some b) : byteZ (ns.take (i + 1)) = 2 * byteZ (ns.take i) + b := by
  unfold byteZ
  rw [List.take_succ, h, List.foldl_append]
  rfl
theorem byteZ_bits8 {v : Nat} (hv : v < 256) : byteZ (bits8 v) = (v : Int) := by
  unfold byteZ bits8
  simp only [List.foldl_cons, List.foldl_nil]
  omega
/-- bytes of eight bits each -/
def bytesZ (ns : List Int) : List Int := (List.range (ns.length / 8)).map fun k => byteZ ((ns.drop (8 * k)).take 8)
def fmF (cl : List Int) : List Int := ((List.range cl.length).filter fun i => !decide (cl.getD i 0 = 1)).map fun i : Nat => (i : Int)
def lastB (before : Int) (bs : List Int) (i : Nat) : Int := if i = 0 then before else bs.getD (i - 1) 0
def mfmT (before : Int) (cl bs : List Int) (i : Nat) : Bool := !decide (cl.getD i 0 = clk (lastB before bs i) (bs.getD i 0))
def mfmFa (before : Int) (cl bs : List Int) : List Int := ((List.range cl.length).filter (mfmT before cl bs)).map fun i : Nat => (i : Int)
def spReadFm : Sp := fun vs H Q _ => ∃ (a : Addr) (cs : List Int), vs = [.ref a] ∧ H a = some (IL cs) ∧ cs.length ≤ 1000000 ∧
  ∀ t b f H', Same H H' → H t = none → H' t = some (.tup [.ref b, .ref f]) → H' b = some (IL (bytesZ (odds cs (8 * (cs.length / 16))))) → H' f = some (IL (fmF (evens cs (8 * (cs.length / 16))))) → Q (.ref t) H'
def spReadMfm : Sp := fun vs H Q _ => ∃ (a : Addr) (cs : List Int) (before : Int), vs = [.ref a, .int before] ∧ H a = some (IL cs) ∧ cs.length ≤ 1000000 ∧
  ∀ t b f H', Same H H' → H t = none → H' t = some (.tup [.ref b, .ref f]) → H' b = some (IL (bytesZ (odds cs (8 * (cs.length / 16))))) → H' f = some (IL (mfmFa before (evens cs (8 * (cs.length / 16))) (odds cs (8 * (cs.length / 16))))) → Q (.ref t) H'
def spWhole : Sp := fun vs H Q _ => ∃ (a : Addr) (cs : List Int) (c : Nat), vs = [.ref a, .int (c : Int)] ∧ H a = some (IL cs) ∧ cs.length ≤ 1000000 ∧ 0 < c ∧ c < 1000 ∧ ∀ D H', Same H H' → H D = none → H' D = some (IL (cs.take (cs.length / c * c))) → Q (.ref D) H'
def spBytesOf : Sp := fun vs H Q _ => ∃ (a : Addr) (cs : List Int), vs = [.ref a] ∧ H a = some (IL cs) ∧ cs.length ≤ 1000000 ∧ cs.length % 8 = 0 ∧ ∀ D H', Same H H' → H D = none → H' D = some (IL (bytesZ cs)) → Q (.ref D) H'
def spBitsByte : Sp := fun vs H Q _ => ∃ (a : Addr) (ns : List Int), vs = [.ref a] ∧ H a = some (IL ns) ∧ Q (.int (byteZ ns)) H
def spMfmClock : Sp := fun vs H Q _ => ∃ (l b : Int), vs = [.int l, .int b] ∧ Q (.int (clk l b)) H
/-- [i for i, x in enumerate(xs) if ..] -/
theorem lc_enumF {K : PySem.W.Frag} {a : Addr} {xs : List Int} {kp : Nat → Bool} {i1 i2 : Nat} {tt : TT} {te : TE} {vs : List Nat} {σ : L2.St} {H1 : Hp} {D : Addr} {Qd : Hp → Prop} (hn : xs.length ≤ 16777215) (hx : H1 a = some (IL xs)) (hD : H1 D = none)
    (hw : ∀ v w, wipe (((wipe σ vs).set i1 v).set i2 w) vs = wipe σ vs)
    (htt : ∀ (i : Nat) x H3 (Q' : Bool → Hp → Prop), xs[i]? = some x → Same H1 H3 → (∀ H4, Same H3 H4 → Q' (kp i) H4) → tt (((wipe σ vs).set i1 (some (.int (i : Int)))).set i2 (some (.int x))) H3 Q')
    (hte : ∀ (i : Nat) x H3 (Q' : VK), xs[i]? = some x → Same H1 H3 → (∀ H4, Same H3 H4 → Q' (.int (i : Int)) H4) → te (((wipe σ vs).set i1 (some (.int (i : Int)))).set i2 (some (.int x))) H3 Q')
    (hd : ∀ H', Same H1 H' → H' D = some (IL (((List.range xs.length).filter kp).map fun i : Nat => (i : Int))) → Qd H') :
    LcW (Ite K a) (gTup K 2 (gCons (gName i1) (gCons (gName i2) gNil))) tt te vs σ H1 D Qd := by
  have wk := walk_enum (K := K) (a := a) (xs := xs.map V.int)
  rw [List.length_map] at wk
  refine lc_it wk (fun i H' => Same H1 H' ∧ H' D = some (IL (((List.range i).filter kp).map fun i : Nat => (i : Int)))) ⟨same_new hD _, upd_same⟩ (fun i H _ h => .of (h.1 _ _ hx)) ?_ ?_
  · intro i x H H' hi h hy
    obtain ⟨h1, h2⟩ := h
    obtain ⟨t, x, y, rfl, nt, rfl, ex, ey⟩ := hy
    cases ex
    obtain ⟨y, rfl, fy⟩ := ints_at ey
    have s1 := h1.trans (same_new nt (.tup [V.int (i : Int), V.int y]))
    refine ⟨t, _, rfl, .of upd_same, rfl, V.int (i : Int), [V.int y], rfl, V.int y, [], rfl, rfl, hw _ _, ?_⟩
    refine htt i y _ _ fy s1 fun H4 s4 => ?_
    have e4 : H4 D = some (IL (((List.range i).filter kp).map fun i : Nat => (i : Int))) := s4 _ _ (same_new nt _ _ _ h2)
    have hle := List.length_filter_le kp (List.range i)
    rw [List.length_range] at hle
    by_cases c : kp i = true
    · rw [if_pos c]
      refine hte i y _ _ fy (s1.trans s4) fun H5 s5 => ?_
      refine ⟨_, s5 _ _ e4, by rw [List.length_map, List.length_map]; exact line_lt (by omega), fun b o hb => ?_, ?_⟩
      · rw [upd_ne (ne_of_none hb hD)]
        exact s5 _ _ (s4 _ _ (s1 _ _ hb))
      · rw [upd_same, List.range_succ, List.filter_append, List.map_append]
        unfold IL
        rw [List.map_append]
        simp [c]
    · rw [if_neg c]
      refine ⟨s1.trans s4, ?_⟩
      rw [e4, List.range_succ, List.filter_append]
      simp [c]
  · intro H h
    exact hd H h.1 h.2
/-- [e for k in range(lo, hi, c)], ints by the place alone -/
theorem lc_rangeCI {lo c : Int} {n : Nat} {f : Nat → Int} {j : Nat} {te : TE} {vs : List Nat} {σ : L2.St} {H1 : Hp} {D : Addr} {Qd : Hp → Prop} (hn : n ≤ 16777215) (hD : H1 D = none) (hw : ∀ v, wipe ((wipe σ vs).set j v) vs = wipe σ vs)
    (hte : ∀ i H3 (Q' : VK), i < n → Same H1 H3 → (∀ H4, Same H3 H4 → Q' (.int (f i)) H4) → te ((wipe σ vs).set j (some (.int (lo + (i : Nat) * c)))) H3 Q')
    (hd : ∀ H', Same H1 H' → H' D = some (IL ((List.range n).map f)) → Qd H') : LcW (Itc lo c n) (gName j) tYes te vs σ H1 D Qd := by
  refine lc_it (walk_rangeC (lo := lo) (c := c) (n := n)) (fun i H' => Same H1 H' ∧ H' D = some (IL ((List.range i).map f))) ⟨same_new hD _, upd_same⟩ (fun i H _ h => trivial) ?_ ?_
  · intro i x H H' hi h hy
    obtain ⟨h1, h2⟩ := h
    obtain ⟨rfl, rfl⟩ := hy
    refine ⟨hw _, ?_⟩
    simp only [tYes, if_true]
    refine hte i _ _ hi h1 fun H4 hs => ?_
    have e := hs D _ h2
    refine ⟨_, e, by rw [List.length_map, List.length_map, List.length_range]; exact line_lt (by omega), fun b o hb => ?_, ?_⟩
    · rw [upd_ne (ne_of_none hb hD)]
      exact hs _ _ (h1 b o hb)
    · rw [upd_same, List.range_succ, List.map_append]
      unfold IL
      rw [List.map_append]
      rfl
  · intro H h
    exact hd H h.1 h.2
/-- range(0, a length, c) -/
theorem rgC_len {len c : Nat} (hc : 0 < c) (hc2 : c < 1073741824) (hl : len ≤ 16777216) : RgC 0 (len : Int) (c : Int) ((len + c - 1) / c) := by
  have e : Builtin.Range.rangeSize 0 (len : Int) (c : Int) = (((len + c - 1) / c : Nat) : Int) := by
    rw [PyProof.Rows.rangeSize_pos (by omega) (by omega), Int.natCast_ediv]
    congr 1
    omega
  have hq : (len + c - 1) / c ≤ len := by
    cases len with
    | zero => rw [Nat.div_eq_of_lt (by omega)]; exact Nat.le_refl _
    | succ n =>
      refine Nat.div_le_of_le_mul ?_
      have : c * (n + 1) = c * n + c := Nat.mul_succ c n
      have h2 : n ≤ c * n := Nat.le_mul_of_pos_left n hc
      omega
  refine ⟨by omega, by omega, ?_, e⟩
  unfold Builtin.Range.small
  rw [e]
  have h3 : (((len + c - 1) / c : Nat) : Int) * (c : Int) ≤ (len : Int) + (c : Int) - 1 := by
    have := Nat.div_mul_le_self (len + c - 1) c
    rw [← Int.natCast_mul]
    omega
  generalize (len + c - 1) / c = n at *
  simp only [Builtin.Range.rangeFitsLong, Bool.and_eq_true, Bool.or_eq_true, decide_eq_true_eq, beq_iff_eq]
  rw [if_pos (by omega), Bool.and_eq_true, decide_eq_true_eq, decide_eq_true_eq]
  exact ⟨by omega, .inr (by omega)⟩
/-! for loops, by the name ForW -/
theorem forR {lo : Int} {n : Nat} {g : TG} {tb : TS} {D : Ends} {σ : L2.St} {H : Hp} (Pv : Nat → L2.St → Hp → Prop) (h0 : Pv 0 σ H)
    (hs : ∀ i σ H, i < n → Pv i σ H → g (.int (lo + i)) σ H fun σ2 H2 => tb { D with nx := Pv (i + 1), ct := Pv (i + 1), bk := D.nx } σ2 H2) (hd : ∀ σ H, Pv n σ H → D.nx σ H) : ForW (Itr lo n) g tb D σ H := for_range Pv h0 hs hd
theorem forL {K : PySem.W.Frag} {a : Addr} {xs : List V} {g : TG} {tb : TS} {D : Ends} {σ : L2.St} {H : Hp} (Pv : Nat → L2.St → Hp → Prop) (h0 : Pv 0 σ H) (hl : ∀ i σ H, i ≤ xs.length → Pv i σ H → SqL K H a xs)
    (hs : ∀ i x σ H, xs[i]? = some x → Pv i σ H → g x σ H fun σ2 H2 => tb { D with nx := Pv (i + 1), ct := Pv (i + 1), bk := D.nx } σ2 H2) (hd : ∀ σ H, Pv xs.length σ H → D.nx σ H) : ForW (Itl K a) g tb D σ H := for_list Pv h0 hl hs hd
end Dw

namespace Dw
open PySem PySem.Spec PyProof.Rows L2
/-- the place of a whole number in a tuple of whole numbers, where it first stands -/
def rTupIxI (K : PySem.W.Frag) : V → List V → Hp → VK → Prop := fun x xs H Q => ∃ (p : Addr) (ns : List Int) (k : Int) (j : Nat), x = .ref p ∧ xs = [.int k] ∧ SqT K H p (ns.map V.int) ∧ ns[j]? = some k ∧ (∀ m, m < j → ns[m]? ≠ some k) ∧ Q (.int (j : Int)) H
theorem mt_tupIndexI {X : Cx} : MtR X "tuple.index" (rTupIxI X.K) := by
  intro pins s σ H x args v us Q inv rx rargs want
  obtain ⟨p, ns, k, j, rfl, rfl, isT, at_j, before, goal⟩ := want
  cases rx
  obtain ⟨u, rfl, t, rfl⟩ := rargs.one
  obtain ⟨its, rel, ⟨⟨cl, dd, dat, sl⟩, found, hcl, n, hdat⟩, small⟩ := inv.tuple isT
  simp only at hcl hdat
  subst hcl hdat
  have are := ints_of_vals rel
  have size : its.toArray.size = ns.length := by rw [List.size_toArray, ← rel.length, List.length_map]
  have jlt := (List.getElem?_eq_some_iff.mp at_j).1
  have item : ∀ (m : Nat) (hm : m < its.toArray.size), ∃ tm, its.toArray[m] = Value.int (ns[m]'(by omega)) tm := by
    intro m hm
    obtain ⟨tm, e⟩ := are.get m _ (List.getElem?_eq_getElem (show m < ns.length by omega))
    exact ⟨tm, by simpa using (List.getElem?_eq_some_iff.mp e).2⟩
  refine call_meets PySem.F.slot_tuple_index ⟨_, found, rfl⟩ PySem.F.entry_tuple_index (PySem.F.args_tuple_index_2 _ _)
    (TI.tuple_indexAt p its.toArray n dd sl (.int k t) (eqk k) j (by omega) ?_ ?_) ⟨found, fun y hy => (eqk_gives are y (by simpa using hy)).at _ _, ⟨.int (j : Int), H, inv.tok _, ⟨_, rfl⟩, goal⟩⟩
  · obtain ⟨tm, e⟩ := item j (by omega)
    rw [e]
    have : ns[j] = k := (List.getElem?_eq_some_iff.mp at_j).2
    rw [this]
    exact beq_self_eq_true k
  · intro m hm hmj
    obtain ⟨tm, e⟩ := item m hm
    rw [e]
    refine beq_eq_false_iff_ne.mpr fun same => before m hmj ?_
    rw [List.getElem?_eq_getElem (show m < ns.length by omega), same]
/-! ### the group code -/
def GC : List Int := [9, 10, 11, 13, 14, 15, 18, 19, 21, 22, 23, 25, 26, 27, 29, 30]
def codeZ (n : Nat) : List Int := (bits8 (GC.getD n 0).toNat).drop 3
def gcrZ (ns : List Int) : List Int := (ns.map fun n => codeZ (n.toNat / 16) ++ codeZ (n.toNat % 16)).flatten
theorem codeZ_len {n : Nat} (h : n < 16) : (codeZ n).length = 5 := by
  unfold codeZ
  rw [List.length_drop, bits8_len]
theorem gcrZ_more {ns : List Int} {i v : Nat} (h : ns[i]? = some (v : Int)) : gcrZ (ns.take (i + 1)) = gcrZ (ns.take i) ++ codeZ (v / 16) ++ codeZ (v % 16) := by
  unfold gcrZ
  rw [take_more h, List.map_append, List.flatten_append]
  simp
theorem gcrZ_len : ∀ ns : List Int, Bytes ns → (gcrZ ns).length = 10 * ns.length
  | [], _ => rfl
  | n :: r, h => by
    have ih := gcrZ_len r fun x hx => h x (List.mem_cons_of_mem _ hx)
    have hn := h n List.mem_cons_self
    unfold gcrZ at ih ⊢
    rw [List.map_cons, List.flatten_cons, List.length_append, List.length_append, ih, codeZ_len (by omega), codeZ_len (by omega), List.length_cons]
    omega
def idxG (c : Int) : Int := if c ∈ GC then ((GC.idxOf c : Nat) : Int) else 0
def grp (cs : List Int) (i : Nat) : List Int := (cs.drop (5 * i)).take 5
def numG (cs : List Int) (i : Nat) : Int := idxG (byteZ (grp cs i))
def badG (cs : List Int) (i : Nat) : Bool := !decide (byteZ (grp cs i) ∈ GC)
def numsG (cs : List Int) (n : Nat) : List Int := (List.range n).map (numG cs)
def faultsG (cs : List Int) (n : Nat) : List Int := ((List.range n).filter (badG cs)).map fun i : Nat => (i : Int)
def valsG (cs : List Int) (n : Nat) : List Int := (List.range n).map fun k => 16 * numG cs (2 * k) + numG cs (2 * k + 1)
theorem faultsG_more {cs : List Int} {i : Nat} : faultsG cs (i + 1) = faultsG cs i ++ (if badG cs i = true then [(i : Int)] else []) := by
  unfold faultsG
  rw [List.range_succ, List.filter_append, List.map_append]
  cases h : badG cs i with
  | true => rw [List.filter_cons_of_pos h, if_pos rfl]; rfl
  | false => rw [List.filter_cons_of_neg (by rw [h]; decide), if_neg (by decide)]; rfl
theorem faultsG_len (cs : List Int) (n : Nat) : (faultsG cs n).length ≤ n := by
  unfold faultsG
  rw [List.length_map]
  have := List.length_filter_le (badG cs) (List.range n)
  rw [List.length_range] at this
  exact this
theorem numsG_more {cs : List Int} {i : Nat} : numsG cs (i + 1) = numsG cs i ++ [numG cs i] := by
  unfold numsG
  rw [List.range_succ, List.map_append]
  rfl
theorem numsG_len (cs : List Int) (n : Nat) : (numsG cs n).length = n := by
  unfold numsG
  rw [List.length_map, List.length_range]
theorem numsG_get {cs : List Int} {n i : Nat} (h : i < n) : (numsG cs n).getD i 0 = numG cs i := by
  unfold numsG
  rw [List.getD_eq_getElem?_getD, List.getElem?_map, List.getElem?_range h]
  rfl
theorem all_even {cs : List Int} {n : Nat} (h : cs.length = 2 * n) : picks cs (some 0) none 2 = evens cs n := by
  have e := whole_even (cs := cs) (n := n) (by omega)
  rw [List.take_of_length_le (by omega)] at e
  exact e
theorem all_odd {cs : List Int} {n : Nat} (h : cs.length = 2 * n) : picks cs (some 1) none 2 = odds cs n := by
  have e := whole_odd (cs := cs) (n := n) (by omega)
  rw [List.take_of_length_le (by omega)] at e
  exact e
theorem zip_vals {cs : List Int} {n : Nat} : List.zipWith (fun h l => 16 * h + l) (evens (numsG cs (2 * n)) n) (odds (numsG cs (2 * n)) n) = valsG cs n := by
  unfold evens odds valsG
  rw [List.zipWith_map, List.zipWith_self]
  refine List.map_congr_left fun i hi => ?_
  rw [List.mem_range] at hi
  rw [numsG_get (by omega), numsG_get (by omega)]
theorem idx_first {c : Int} {ns : List Int} (h : c ∈ ns) : ns[ns.idxOf c]? = some c ∧ ∀ m, m < ns.idxOf c → ns[m]? ≠ some c := by
  have hl := List.idxOf_lt_length_of_mem h
  refine ⟨by rw [List.getElem?_eq_getElem hl, List.getElem_idxOf], fun m hm e => ?_⟩
  have hm2 : m < ns.length := by omega
  rw [List.getElem?_eq_getElem hm2] at e
  have := List.not_of_lt_findIdx (p := fun x => x == c) (xs := ns) (i := m) (by exact hm)
  rw [Option.some.inj e] at this
  simp at this
theorem inV_int {c : Int} : ∀ ns : List Int, inV (.int c) (ns.map V.int) = decide (c ∈ ns)
  | [] => rfl
  | y :: r => by
    have ih := inV_int (c := c) r
    unfold inV at ih ⊢
    rw [List.map_cons, List.any_cons, ih]
    have e : eqV (.int y) (.int c) = decide (c = y) := by
      show (y == c) = _
      by_cases h : c = y
      · subst h; simp
      · rw [decide_eq_false h]
        have : ¬ y = c := fun q => h q.symm
        simp [this]
    rw [e, ← Bool.decide_or, decide_eq_decide, List.mem_cons]
theorem flat_int : ∀ l : List Int, (l.map V.int).all flatV = true
  | [] => rfl
  | y :: r => by
    rw [List.map_cons, List.all_cons, flat_int r]
    rfl
def spGcrCode : Sp := fun vs H Q _ => ∃ n : Nat, vs = [.int n] ∧ n < 16 ∧ ∀ D H', Same H H' → H D = none → H' D = some (IL (codeZ n)) → Q (.ref D) H'
def spGcrCells : Sp := fun vs H Q _ => ∃ (a : Addr) (ns : List Int), vs = [.ref a] ∧ H a = some (IL ns) ∧ Bytes ns ∧ ns.length ≤ 100000 ∧ ∀ D H', Same H H' → H D = none → H' D = some (IL (gcrZ ns)) → Q (.ref D) H'
def spReadGcr : Sp := fun vs H Q _ => ∃ (a : Addr) (cs : List Int), vs = [.ref a] ∧ H a = some (IL cs) ∧ cs.length ≤ 1000000 ∧
  ∀ t b f H', Same H H' → H t = none → H' t = some (.tup [.ref b, .ref f]) → H' b = some (IL (valsG cs (cs.length / 10))) → H' f = some (IL (faultsG cs (2 * (cs.length / 10)))) → Q (.ref t) H'
theorem room65 {k : Nat} {A : Around} (hr : Room k A) : A.units + 65 < cLine := by
  have := hr.un
  omega
theorem RowsAt.isL {H : Hp} {p : Addr} {rs : List (List Int)} (h : RowsAt H p rs) : Dw.isL (H p) = true := by
  obtain ⟨as, e, _⟩ := h
  rw [e]
  rfl
end Dw

namespace Dw
open PySem PySem.Spec PyProof.Rows L2
/-! ### no long runs -/
def okR (v : Int) (k : Nat) : Nat → List Int → Bool
  | n, [] => decide (n < k)
  | n, b :: r => decide (n < k) && okR v k (if b = v then n + 1 else 0) r
def endR (v : Int) : Nat → List Int → Nat
  | n, [] => n
  | n, b :: r => endR v (if b = v then n + 1 else 0) r
theorem okR_append (v : Int) (k : Nat) : ∀ (xs ys : List Int) (n : Nat), okR v k n xs = true → okR v k (endR v n xs) ys = true → okR v k n (xs ++ ys) = true
  | [], _, _, _, h => h
  | x :: xs, ys, n, h1, h2 => by
    unfold okR at h1
    rw [Bool.and_eq_true] at h1
    show (decide (n < k) && okR v k (if x = v then n + 1 else 0) (xs ++ ys)) = true
    rw [Bool.and_eq_true]
    exact ⟨h1.1, okR_append v k xs ys _ h1.2 h2⟩
theorem endR_append (v : Int) : ∀ (xs ys : List Int) (n : Nat), endR v n (xs ++ ys) = endR v (endR v n xs) ys
  | [], _, _ => rfl
  | x :: xs, ys, n => endR_append v xs ys _
theorem okR_lt {v : Int} {k n : Nat} : ∀ {xs : List Int}, okR v k n xs = true → n < k
  | [], h => of_decide_eq_true h
  | x :: xs, h => by
    unfold okR at h
    rw [Bool.and_eq_true] at h
    exact of_decide_eq_true h.1
theorem okR_rep {v : Int} {k : Nat} : ∀ (m n : Nat) {ys : List Int}, okR v k n (List.replicate m v ++ ys) = true → n + m < k
  | 0, n, ys, h => okR_lt h
  | m + 1, n, ys, h => by
    rw [List.replicate_succ, List.cons_append] at h
    unfold okR at h
    rw [Bool.and_eq_true, if_pos rfl] at h
    have := okR_rep m (n + 1) h.2
    omega
theorem okR_drop {v : Int} {k : Nat} : ∀ (i n : Nat) {xs : List Int}, okR v k n xs = true → ∃ n', okR v k n' (xs.drop i) = true
  | 0, n, xs, h => ⟨n, h⟩
  | i + 1, n, [], h => ⟨n, h⟩
  | i + 1, n, x :: xs, h => by
    unfold okR at h
    rw [Bool.and_eq_true] at h
    exact okR_drop i _ h.2
theorem no_run {v : Int} {k n : Nat} {xs : List Int} (h : okR v k n xs = true) (i : Nat) : (xs.drop i).take k ≠ List.replicate k v := by
  intro e
  obtain ⟨n', h2⟩ := okR_drop i n h
  rw [← List.take_append_drop k (xs.drop i), e] at h2
  have := okR_rep k n' h2
  omega
/-! ### texts of bits -/
def strB (b : Int) : Str := Str.ofString (toString b)
def txtB (cs : List Int) : Str := Txt.join (Str.ofString "") (cs.map strB)
theorem joinL_nil : ∀ parts : List (List Nat), TL.joinL [] parts = parts.flatten
  | [] => rfl
  | [p] => by
    show p = p ++ []
    rw [List.append_nil]
  | p :: q :: r => by
    show p ++ ([] ++ TL.joinL [] (q :: r)) = _
    rw [List.nil_append, joinL_nil (q :: r)]
    rfl
theorem tl_strB {b : Int} (h : b = 0 ∨ b = 1) : TL.tl (strB b) = [(48 + b).toNat] := by
  rcases h with rfl | rfl <;> decide +kernel
theorem tl_txtB {cs : List Int} (h : ∀ b ∈ cs, b = 0 ∨ b = 1) : TL.tl (txtB cs) = cs.map fun b => (48 + b).toNat := by
  have e : TL.tl (txtB cs) = TL.joinL (TL.tl (Str.ofString "")) ((cs.map strB).map TL.tl) := by rw [show txtB cs = Str.join (Str.ofString "") (cs.map strB) from TL.join_eq _ _]; exact TL.tl_join _ _
  have e0 : TL.tl (Str.ofString "") = [] := rfl
  rw [e, e0, joinL_nil, List.map_map]
  induction cs with
  | nil => rfl
  | cons b r ih =>
    rw [List.map_cons, List.flatten_cons, ih (fun x hx => h x (List.mem_cons_of_mem _ hx)) (by rw [show txtB r = Str.join (Str.ofString "") (r.map strB) from TL.join_eq _ _]; exact TL.tl_join _ _), List.map_cons]
    show TL.tl (strB b) ++ _ = _
    rw [tl_strB (h b List.mem_cons_self)]
    rfl
theorem codes_inj {v : Int} (hv : v = 0 ∨ v = 1) : ∀ {xs : List Int} {k : Nat}, (∀ b ∈ xs, b = 0 ∨ b = 1) → xs.map (fun b => (48 + b).toNat) = List.replicate k (48 + v).toNat → xs = List.replicate k v
  | [], 0, _, _ => rfl
  | [], k + 1, _, h => by rw [List.replicate_succ] at h; cases h
  | x :: xs, 0, _, h => by cases h
  | x :: xs, k + 1, hb, h => by
    rw [List.map_cons, List.replicate_succ] at h
    have h1 := (List.cons.inj h).1
    have h2 := codes_inj hv (fun b hb' => hb b (List.mem_cons_of_mem _ hb')) (List.cons.inj h).2
    have hx := hb x List.mem_cons_self
    have : x = v := by omega
    rw [h2, this, List.replicate_succ]
theorem not_in {v : Int} (hv : v = 0 ∨ v = 1) {k : Nat} {cs : List Int} {sub : Str} (hb : ∀ b ∈ cs, b = 0 ∨ b = 1) (hs : TL.tl sub = List.replicate k (48 + v).toNat) (h : okR v k 0 cs = true) :
    (!(Builtin.Str.occurrences (txtB cs) sub 0 (txtB cs).length 1).isEmpty) = false := by
  cases c : (!(Builtin.Str.occurrences (txtB cs) sub 0 (txtB cs).length 1).isEmpty) with
  | false => rfl
  | true =>
    obtain ⟨i, hi, hsub⟩ := (StrLaws.found_iff _ _).mp c
    rw [StrLaws.subAt_eq] at hsub
    have e := eq_of_beq hsub
    have e1 : (txtB cs).cps.toList = cs.map fun b => (48 + b).toNat := tl_txtB hb
    have e2 : sub.cps.toList = List.replicate k (48 + v).toNat := hs
    have e3 : sub.length = k := by
      have : sub.cps.toList.length = k := by rw [e2, List.length_replicate]
      exact this
    rw [e1, e2, e3, ← List.map_drop, ← List.map_take] at e
    have := codes_inj hv (fun b hb' => hb b (List.mem_of_mem_drop (List.mem_of_mem_take hb'))) e
    exact absurd this (no_run h i)
theorem txtB_len {cs : List Int} (h : ∀ b ∈ cs, b = 0 ∨ b = 1) : (txtB cs).length = cs.length := by
  have e := congrArg List.length (tl_txtB h)
  rw [List.length_map] at e
  exact e
/-! ### the group code: its runs, and back -/
theorem runs0 : ∀ a, a < 16 → ∀ n, n < 2 → okR 0 3 n (codeZ a) = true ∧ endR 0 n (codeZ a) < 2 := by decide +kernel
theorem runs1 : ∀ a, a < 16 → ∀ n, n < 5 → okR 1 9 n (codeZ a) = true ∧ endR 1 n (codeZ a) < 5 := by decide +kernel
theorem gcr_runs {v : Int} {k m : Nat} (hm : m ≤ k) (h : ∀ a, a < 16 → ∀ n, n < m → okR v k n (codeZ a) = true ∧ endR v n (codeZ a) < m) : ∀ (ns : List Int) (n : Nat), Bytes ns → n < m → okR v k n (gcrZ ns) = true
  | [], n, _, hn => by
    show decide (n < k) = true
    exact decide_eq_true (by omega)
  | x :: r, n, hb, hn => by
    have hx := hb x List.mem_cons_self
    have e : gcrZ (x :: r) = codeZ (x.toNat / 16) ++ (codeZ (x.toNat % 16) ++ gcrZ r) := by
      unfold gcrZ
      rw [List.map_cons, List.flatten_cons, List.append_assoc]
    obtain ⟨a1, a2⟩ := h (x.toNat / 16) (by omega) n hn
    obtain ⟨b1, b2⟩ := h (x.toNat % 16) (by omega) _ a2
    rw [e]
    exact okR_append v k _ _ n a1 (okR_append v k _ _ _ b1 (gcr_runs hm h r _ (fun y hy => hb y (List.mem_cons_of_mem _ hy)) b2))
theorem back5 : ∀ a, a < 16 → byteZ (codeZ a) ∈ GC ∧ idxG (byteZ (codeZ a)) = (a : Int) := by decide +kernel
theorem grp_zero {a : Nat} (ha : a < 16) (L : List Int) : grp (codeZ a ++ L) 0 = codeZ a := by
  unfold grp
  rw [Nat.mul_zero, List.drop_zero]
  exact List.take_left' (codeZ_len ha)
theorem grp_succ {a : Nat} (ha : a < 16) (L : List Int) (i : Nat) : grp (codeZ a ++ L) (i + 1) = grp L i := by
  unfold grp
  have e : 5 * (i + 1) = (codeZ a).length + 5 * i := by rw [codeZ_len ha]; omega
  rw [e, List.drop_append, List.drop_eq_nil_of_le (by omega), List.nil_append, Nat.add_sub_cancel_left]
theorem gcr_groups : ∀ (ns : List Int) (rest : List Int), Bytes ns → ∀ k, k < ns.length → ∃ v : Nat, ns[k]? = some (v : Int) ∧ v < 256 ∧ grp (gcrZ ns ++ rest) (2 * k) = codeZ (v / 16) ∧ grp (gcrZ ns ++ rest) (2 * k + 1) = codeZ (v % 16)
  | [], _, _, k, h => absurd h (Nat.not_lt_zero _)
  | x :: r, rest, hb, k, h => by
    have hx := hb x List.mem_cons_self
    have e : gcrZ (x :: r) ++ rest = codeZ (x.toNat / 16) ++ (codeZ (x.toNat % 16) ++ (gcrZ r ++ rest)) := by
      unfold gcrZ
      rw [List.map_cons, List.flatten_cons]
      simp only [List.append_assoc]
    have h1 : x.toNat / 16 < 16 := by omega
    have h2 : x.toNat % 16 < 16 := by omega
    rw [e]
    cases k with
    | zero =>
      refine ⟨x.toNat, by show some x = _; congr 1; omega, by omega, grp_zero h1 _, ?_⟩
      rw [Nat.mul_zero, grp_succ h1, grp_zero h2]
    | succ k =>
      obtain ⟨v, q1, q2, q3, q4⟩ := gcr_groups r rest (fun y hy => hb y (List.mem_cons_of_mem _ hy)) k (by simpa using h)
      have e1 : 2 * (k + 1) = (2 * k + 1) + 1 := by omega
      refine ⟨v, q1, q2, ?_, ?_⟩
      · rw [e1, grp_succ h1, grp_succ h2]
        exact q3
      · rw [e1, grp_succ h1, grp_succ h2]
        exact q4
theorem gcr_vals {ns rest : List Int} (hb : Bytes ns) : valsG (gcrZ ns ++ rest) ns.length = ns := by
  unfold valsG
  apply List.ext_getElem
  · rw [List.length_map, List.length_range]
  · intro k h1 h2
    rw [List.getElem_map, List.getElem_range]
    obtain ⟨v, q1, q2, q3, q4⟩ := gcr_groups ns rest hb k h2
    unfold numG
    rw [q3, q4, (back5 _ (by omega)).2, (back5 _ (by omega)).2]
    rw [List.getElem?_eq_getElem h2] at q1
    rw [Option.some.inj q1]
    omega
theorem gcr_faults {ns rest : List Int} (hb : Bytes ns) : faultsG (gcrZ ns ++ rest) (2 * ns.length) = [] := by
  unfold faultsG
  have : (List.range (2 * ns.length)).filter (badG (gcrZ ns ++ rest)) = [] := by
    refine List.filter_eq_nil_iff.mpr fun i hi => ?_
    rw [List.mem_range] at hi
    obtain ⟨v, q1, q2, q3, q4⟩ := gcr_groups ns rest hb (i / 2) (by omega)
    unfold badG
    have : i = 2 * (i / 2) ∨ i = 2 * (i / 2) + 1 := by omega
    rcases this with e | e
    · rw [e, q3, decide_eq_true (back5 _ (by omega)).1]
      decide
    · rw [e, q4, decide_eq_true (back5 _ (by omega)).1]
      decide
  rw [this]
  rfl
/-! ### FM and MFM, and back -/
theorem evens_cons (x y : Int) (L : List Int) (n : Nat) : evens (x :: y :: L) (n + 1) = x :: evens L n := by
  unfold evens
  rw [List.range_succ_eq_map, List.map_cons, List.map_map]
  congr 1
theorem odds_cons (x y : Int) (L : List Int) (n : Nat) : odds (x :: y :: L) (n + 1) = y :: odds L n := by
  unfold odds
  rw [List.range_succ_eq_map, List.map_cons, List.map_map]
  congr 1
theorem fm_odds : ∀ bs rest : List Int, odds (fmZ bs ++ rest) bs.length = bs
  | [], _ => rfl
  | b :: r, rest => by
    have e : fmZ (b :: r) ++ rest = 1 :: b :: (fmZ r ++ rest) := rfl
    rw [e, List.length_cons, odds_cons, fm_odds r rest]
theorem fm_evens : ∀ bs rest : List Int, evens (fmZ bs ++ rest) bs.length = List.replicate bs.length 1
  | [], _ => rfl
  | b :: r, rest => by
    have e : fmZ (b :: r) ++ rest = 1 :: b :: (fmZ r ++ rest) := rfl
    rw [e, List.length_cons, evens_cons, fm_evens r rest, List.replicate_succ]
theorem mfm_odds : ∀ (l : Int) (bs rest : List Int), odds (mfmF l bs ++ rest) bs.length = bs
  | _, [], _ => rfl
  | l, b :: r, rest => by
    have e : mfmF l (b :: r) ++ rest = clk l b :: b :: (mfmF b r ++ rest) := rfl
    rw [e, List.length_cons, odds_cons, mfm_odds b r rest]
theorem mfm_evens : ∀ (l : Int) (bs rest : List Int) (i : Nat), i < bs.length → (evens (mfmF l bs ++ rest) bs.length).getD i 0 = clk (lastB l bs i) (bs.getD i 0)
  | _, [], _, _, h => absurd h (Nat.not_lt_zero _)
  | l, b :: r, rest, i, h => by
    have e : mfmF l (b :: r) ++ rest = clk l b :: b :: (mfmF b r ++ rest) := rfl
    rw [e, List.length_cons, evens_cons]
    cases i with
    | zero => rfl
    | succ i =>
      rw [List.getD_cons_succ, mfm_evens b r rest i (by simpa using h), List.getD_cons_succ]
      congr 1
      cases i with
      | zero => rfl
      | succ i => rfl
theorem fm_faults (n : Nat) : fmF (List.replicate n 1) = [] := by
  unfold fmF
  have : (List.range (List.replicate n (1 : Int)).length).filter (fun i => !decide ((List.replicate n (1 : Int)).getD i 0 = 1)) = [] := by
    refine List.filter_eq_nil_iff.mpr fun i hi => ?_
    rw [List.mem_range, List.length_replicate] at hi
    have : (List.replicate n (1 : Int)).getD i 0 = 1 := by
      rw [List.getD_eq_getElem?_getD, List.getElem?_replicate, if_pos hi]
      rfl
    rw [this]
    decide
  rw [this]
  rfl
theorem mfm_faults (l : Int) (bs rest : List Int) : mfmFa l (evens (mfmF l bs ++ rest) bs.length) bs = [] := by
  unfold mfmFa
  have : (List.range (evens (mfmF l bs ++ rest) bs.length).length).filter (mfmT l (evens (mfmF l bs ++ rest) bs.length) bs) = [] := by
    refine List.filter_eq_nil_iff.mpr fun i hi => ?_
    rw [List.mem_range, evens_len] at hi
    unfold mfmT
    rw [mfm_evens l bs rest i hi, decide_eq_true rfl]
    decide
  rw [this]
  rfl
theorem bytes_bits : ∀ ns : List Int, Bytes ns → bytesZ (bitsOf ns) = ns
  | [], _ => rfl
  | x :: r, hb => by
    have hx := hb x List.mem_cons_self
    have ih := bytes_bits r fun y hy => hb y (List.mem_cons_of_mem _ hy)
    have e : bitsOf (x :: r) = bits8 x.toNat ++ bitsOf r := rfl
    have hl : (bits8 x.toNat ++ bitsOf r).length / 8 = (bitsOf r).length / 8 + 1 := by rw [List.length_append, bits8_len]; omega
    unfold bytesZ at ih ⊢
    rw [e, hl, List.range_succ_eq_map, List.map_cons, List.map_map]
    have e0 : byteZ (((bits8 x.toNat ++ bitsOf r).drop (8 * 0)).take 8) = x := by
      rw [Nat.mul_zero, List.drop_zero, List.take_left' (bits8_len _), byteZ_bits8 (by omega)]
      omega
    rw [e0]
    refine congrArg (x :: ·) (Eq.trans ?_ ih)
    refine List.map_congr_left fun k _ => ?_
    simp only [Function.comp]
    have e8 : 8 * (k + 1) = (bits8 x.toNat).length + 8 * k := by rw [bits8_len]; omega
    rw [Nat.succ_eq_add_one, e8, List.drop_append, List.drop_eq_nil_of_le (by omega), List.nil_append, Nat.add_sub_cancel_left]
theorem mfm0 : ∀ l : Nat, l < 2 → ∀ b : Nat, b < 2 → ∀ n : Nat, n < 3 → (l = 1 ∧ n ≠ 0) ∨ (okR 0 4 n [clk (l : Nat) (b : Nat), (b : Nat)] = true ∧ (endR 0 n [clk (l : Nat) (b : Nat), (b : Nat)] < 3 ∧ (b ≠ 1 ∨ endR 0 n [clk (l : Nat) (b : Nat), (b : Nat)] = 0))) := by
  have t : ((List.range 2).all fun l => (List.range 2).all fun b => (List.range 3).all fun n => (decide (l = 1) && decide (n ≠ 0)) || (okR 0 4 n [clk (l : Nat) (b : Nat), (b : Nat)] && (decide (endR 0 n [clk (l : Nat) (b : Nat), (b : Nat)] < 3) && (decide (b ≠ 1) || decide (endR 0 n [clk (l : Nat) (b : Nat), (b : Nat)] = 0))))) = true := by decide +kernel
  simp only [List.all_eq_true, List.mem_range, Bool.or_eq_true, Bool.and_eq_true, decide_eq_true_eq] at t
  exact t
theorem mfm1 : ∀ l : Nat, l < 2 → ∀ b : Nat, b < 2 → okR 1 2 l [clk (l : Nat) (b : Nat), (b : Nat)] = true ∧ endR 1 l [clk (l : Nat) (b : Nat), (b : Nat)] = b := by decide +kernel
theorem mfm_run0 : ∀ (bs : List Int) (l n : Nat), (∀ b ∈ bs, b = 0 ∨ b = 1) → l < 2 → n < 3 → (l = 1 → n = 0) → okR 0 4 n (mfmF (l : Int) bs) = true
  | [], l, n, _, _, hn, _ => decide_eq_true (by omega)
  | b :: r, l, n, hb, hl, hn, hln => by
    obtain ⟨m, hm, rfl⟩ : ∃ m : Nat, m < 2 ∧ b = (m : Int) := by
      rcases hb b List.mem_cons_self with rfl | rfl
      · exact ⟨0, by decide, rfl⟩
      · exact ⟨1, by decide, rfl⟩
    obtain ⟨h1, h2, h3⟩ := (mfm0 l hl m hm n hn).resolve_left fun h => h.2 (hln h.1)
    exact okR_append 0 4 [clk (l : Int) (m : Int), (m : Int)] (mfmF (m : Int) r) n h1 (mfm_run0 r m _ (fun x hx => hb x (List.mem_cons_of_mem _ hx)) hm h2 fun e => h3.resolve_left fun q => q e)
theorem mfm_run1 : ∀ (bs : List Int) (l : Nat), (∀ b ∈ bs, b = 0 ∨ b = 1) → l < 2 → okR 1 2 l (mfmF (l : Int) bs) = true
  | [], l, _, hl => decide_eq_true (by omega)
  | b :: r, l, hb, hl => by
    obtain ⟨m, hm, rfl⟩ : ∃ m : Nat, m < 2 ∧ b = (m : Int) := by
      rcases hb b List.mem_cons_self with rfl | rfl
      · exact ⟨0, by decide, rfl⟩
      · exact ⟨1, by decide, rfl⟩
    obtain ⟨h1, h2⟩ := mfm1 l hl m hm
    refine okR_append 1 2 [clk (l : Int) (m : Int), (m : Int)] (mfmF (m : Int) r) l h1 ?_
    rw [h2]
    exact mfm_run1 r m (fun x hx => hb x (List.mem_cons_of_mem _ hx)) hm
def rRepS : R2 := fun x y H Q => ∃ i n, x = .str i ∧ y = .int n ∧ MulOk i n ∧ Q (.str (Txt.mul i n)) H
theorem op_rep_str : OpR X (binaryOp .Mult) rRepS := by
  intro pins s σ H x y v u Q I rx ry h
  obtain ⟨i, j, rfl, rfl, hz, q⟩ := h
  obtain ⟨t, rfl⟩ := rx
  obtain ⟨t', rfl⟩ := ry
  exact SB.mul hz (fun t' tk => ⟨.str (Txt.mul i j), H, I.tok _, ⟨_, rfl⟩, q⟩)
theorem nine_ok : MulOk (Str.ofString "1") 9 := by
  refine ⟨by decide, fun _ _ => by decide, fun _ _ => by decide⟩
theorem nine : TL.tl (Txt.mul (Str.ofString "1") 9) = List.replicate 9 (48 + (1 : Int)).toNat := by decide +kernel
theorem three0 : TL.tl (Str.ofString "000") = List.replicate 3 (48 + (0 : Int)).toNat := by decide +kernel
theorem four0 : TL.tl (Str.ofString "0000") = List.replicate 4 (48 + (0 : Int)).toNat := by decide +kernel
theorem two1 : TL.tl (Str.ofString "11") = List.replicate 2 (48 + (1 : Int)).toNat := by decide +kernel
end Dw

namespace Dw
open PySem PySem.Spec PyProof.Rows L2
/-! ### comprehensions over the int keys of a locked dict -/
theorem key_at {kvs : List (Key × V)} {ks : List Int} (hk : kvs.map (·.1) = ks.map Sum.inl) {i : Nat} {k : Key} {v : V} (h : kvs[i]? = some (k, v)) : ∃ z, ks[i]? = some z ∧ k = .inl z := by
  have e : (kvs.map (·.1))[i]? = some k := by rw [List.getElem?_map, h]; rfl
  rw [hk, List.getElem?_map] at e
  obtain ⟨z, hz, e2⟩ := Option.map_eq_some_iff.mp e
  exact ⟨z, hz, e2.symm⟩
theorem lc_keys {d : Addr} {o : Obj} {kvs : List (Key × V)} {ks : List Int} {p : Int → Bool} {g : Int → V} {tt : TT} {j : Nat} {te : TE} {vs : List Nat} {σ : L2.St} {H1 : Hp} {D : Addr} {Qd : Hp → Prop} (hk : kvs.map (·.1) = ks.map Sum.inl) (hn : ks.length ≤ 16777215) (hF : H1 d = some (.frz o (.dK kvs))) (hD : H1 D = none) (hw : ∀ v, wipe ((wipe σ vs).set j v) vs = wipe σ vs)
    (htt : ∀ k H3 (Q' : Bool → Hp → Prop), k ∈ ks → Same H1 H3 → (∀ H4, Same H3 H4 → Q' (p k) H4) → tt ((wipe σ vs).set j (some (.int k))) H3 Q')
    (hte : ∀ k H3 (Q' : VK), k ∈ ks → Same H1 H3 → (∀ H4, Same H3 H4 → Q' (g k) H4) → te ((wipe σ vs).set j (some (.int k))) H3 Q')
    (hd : ∀ H', Same H1 H' → H' D = some (.lst ((ks.filter p).map g)) → Qd H') : LcW (Itk d o kvs) (gName j) tt te vs σ H1 D Qd := by
  have kl : kvs.length = ks.length := by
    have := congrArg List.length hk
    rwa [List.length_map, List.length_map] at this
  refine lc_it walk_keys (fun i H' => Same H1 H' ∧ H' D = some (.lst (((ks.take i).filter p).map g))) ⟨same_new hD _, upd_same⟩ (fun i H _ h => h.1 _ _ hF) ?_ ?_
  · intro i x H H' hi h hy
    obtain ⟨h1, h2⟩ := h
    obtain ⟨rfl, ky, v, hkv, rfl⟩ := hy
    obtain ⟨z, hz, rfl⟩ := key_at hk hkv
    have hm := List.mem_of_getElem? hz
    refine ⟨hw _, ?_⟩
    refine htt z H' _ hm h1 fun H4 s4 => ?_
    have h4 := s4 _ _ h2
    by_cases c : p z = true
    · rw [if_pos c]
      refine hte z H4 _ hm (h1.trans s4) fun H5 s5 => ?_
      have h5 := s5 _ _ h4
      refine ⟨_, h5, ?_, ?_⟩
      · rw [List.length_map]
        have q1 := List.length_filter_le p (ks.take i)
        rw [List.length_take] at q1
        exact line_lt (by omega)
      · refine ⟨fun b ob hb => ?_, ?_⟩
        · rw [upd_ne (ne_of_none hb hD)]
          exact s5 _ _ (s4 _ _ (h1 _ _ hb))
        · rw [upd_same, take_more hz, List.filter_append, List.map_append, List.filter_cons_of_pos c]
          rfl
    · rw [if_neg c]
      refine ⟨h1.trans s4, ?_⟩
      rw [h4, take_more hz, List.filter_append, List.filter_cons_of_neg c, List.filter_nil, List.append_nil]
  · intro H h
    rw [kl, List.take_length] at h
    exact hd H h.1 h.2
theorem lc_intsF {K : PySem.W.Frag} {a : Addr} {ks : List Int} {p : Int → Bool} {g : Int → V} {tt : TT} {j : Nat} {te : TE} {vs : List Nat} {σ : L2.St} {H1 : Hp} {D : Addr} {Qd : Hp → Prop} (hn : ks.length ≤ 16777215) (hA : H1 a = some (IL ks)) (hD : H1 D = none) (hw : ∀ v, wipe ((wipe σ vs).set j v) vs = wipe σ vs)
    (htt : ∀ k H3 (Q' : Bool → Hp → Prop), k ∈ ks → Same H1 H3 → (∀ H4, Same H3 H4 → Q' (p k) H4) → tt ((wipe σ vs).set j (some (.int k))) H3 Q')
    (hte : ∀ k H3 (Q' : VK), k ∈ ks → Same H1 H3 → (∀ H4, Same H3 H4 → Q' (g k) H4) → te ((wipe σ vs).set j (some (.int k))) H3 Q')
    (hd : ∀ H', Same H1 H' → H' D = some (.lst ((ks.filter p).map g)) → Qd H') : LcW (Itl K a) (gName j) tt te vs σ H1 D Qd := by
  refine lc_list (K := K) (a := a) (xs := ks.map V.int) (fun i H' => Same H1 H' ∧ H' D = some (.lst (((ks.take i).filter p).map g))) ⟨same_new hD _, upd_same⟩ (fun i H _ h => .of (h.1 _ _ hA)) ?_ ?_
  · intro i x H hi h
    obtain ⟨h1, h2⟩ := h
    obtain ⟨z, rfl, hz⟩ := ints_at hi
    have hm := List.mem_of_getElem? hz
    refine ⟨hw _, ?_⟩
    refine htt z H _ hm h1 fun H4 s4 => ?_
    have h4 := s4 _ _ h2
    by_cases c : p z = true
    · rw [if_pos c]
      refine hte z H4 _ hm (h1.trans s4) fun H5 s5 => ?_
      have h5 := s5 _ _ h4
      refine ⟨_, h5, ?_, ?_⟩
      · rw [List.length_map]
        have q1 := List.length_filter_le p (ks.take i)
        rw [List.length_take] at q1
        exact line_lt (by omega)
      · refine ⟨fun b ob hb => ?_, ?_⟩
        · rw [upd_ne (ne_of_none hb hD)]
          exact s5 _ _ (s4 _ _ (h1 _ _ hb))
        · rw [upd_same, take_more hz, List.filter_append, List.map_append, List.filter_cons_of_pos c]
          rfl
    · rw [if_neg c]
      refine ⟨h1.trans s4, ?_⟩
      rw [h4, take_more hz, List.filter_append, List.filter_cons_of_neg c, List.filter_nil, List.append_nil]
  · intro H h
    rw [List.length_map, List.take_length] at h
    exact hd H h.1 h.2
theorem lc_rangeR {lo : Int} {n j : Nat} {R : Nat → V → Prop} {te : TE} {vs : List Nat} {σ : L2.St} {H1 : Hp} {D : Addr} {Qd : Hp → Prop} (hn : n ≤ 16777215) (hD : H1 D = none) (hw : ∀ v, wipe ((wipe σ vs).set j v) vs = wipe σ vs)
    (hte : ∀ i H3 (Q' : VK), i < n → Same H1 H3 → (∀ v H4, R i v → Same H3 H4 → Q' v H4) → te ((wipe σ vs).set j (some (.int (lo + (i : Nat))))) H3 Q')
    (hd : ∀ xs H', Same H1 H' → H' D = some (.lst xs) → xs.length = n → (∀ i v, xs[i]? = some v → R i v) → Qd H') : LcW (Itr lo n) (gName j) tYes te vs σ H1 D Qd := by
  refine lc_range (lo := lo) (n := n) (fun i H' => Same H1 H' ∧ ∃ xs : List V, H' D = some (.lst xs) ∧ xs.length = i ∧ ∀ i v, xs[i]? = some v → R i v) ⟨same_new hD _, [], upd_same, rfl, fun i v h => by simp at h⟩ ?_ ?_
  · intro i H hi h
    obtain ⟨h1, xs, h2, h3, h4⟩ := h
    refine ⟨hw _, ?_⟩
    simp only [tYes, if_true]
    refine hte i H _ hi h1 fun v H4 hR s4 => ?_
    refine ⟨xs, s4 _ _ h2, line_lt (by omega), fun b o hb => ?_, xs ++ [v], upd_same, by rw [List.length_append, h3]; rfl, fun k x hx => ?_⟩
    · rw [upd_ne (ne_of_none hb hD)]
      exact s4 _ _ (h1 _ _ hb)
    · by_cases c : k < xs.length
      · rw [List.getElem?_append_left c] at hx
        exact h4 k x hx
      · rw [List.getElem?_append_right (by omega)] at hx
        have : k - xs.length = 0 := by
          cases q : k - xs.length with
          | zero => rfl
          | succ m => rw [q] at hx; simp at hx
        rw [this] at hx
        have e : k = i := by omega
        rw [e, ← Option.some.inj hx]
        exact hR
  · intro H h
    obtain ⟨h1, xs, h2, h3, h4⟩ := h
    exact hd xs H h1 h2 h3 h4
/-! ### how often each value stands in a list -/
def keysOf (ns : List Int) : List Int := ns.foldl (fun ks v => if v ∈ ks then ks else ks ++ [v]) []
theorem keys_ok : ∀ (ns ks : List Int), ks.Nodup → (ns.foldl (fun ks v => if v ∈ ks then ks else ks ++ [v]) ks).Nodup ∧ ∀ z, z ∈ ns.foldl (fun ks v => if v ∈ ks then ks else ks ++ [v]) ks ↔ z ∈ ks ∨ z ∈ ns
  | [], ks, h => ⟨h, fun z => by simp⟩
  | v :: r, ks, h => by
    rw [List.foldl_cons]
    by_cases c : v ∈ ks
    · rw [if_pos c]
      obtain ⟨h1, h2⟩ := keys_ok r ks h
      refine ⟨h1, fun z => ?_⟩
      rw [h2, List.mem_cons]
      constructor
      · rintro (h | h)
        · exact .inl h
        · exact .inr (.inr h)
      · rintro (h | rfl | h)
        · exact .inl h
        · exact .inl c
        · exact .inr h
    · rw [if_neg c]
      obtain ⟨h1, h2⟩ := keys_ok r (ks ++ [v]) (by
        rw [List.nodup_append]
        refine ⟨h, by simp, fun a ha b hb => ?_⟩
        rw [List.mem_singleton] at hb
        exact fun e => c (hb ▸ e ▸ ha))
      refine ⟨h1, fun z => ?_⟩
      rw [h2, List.mem_append, List.mem_singleton, List.mem_cons]
      constructor
      · rintro ((h | h) | h)
        · exact .inl h
        · exact .inr (.inl h)
        · exact .inr (.inr h)
      · rintro (h | h | h)
        · exact .inl (.inl h)
        · exact .inl (.inr h)
        · exact .inr h
theorem keysOf_nodup (ns : List Int) : (keysOf ns).Nodup := (keys_ok ns [] List.nodup_nil).1
theorem mem_keysOf {ns : List Int} {z : Int} : z ∈ keysOf ns ↔ z ∈ ns := by
  unfold keysOf
  rw [(keys_ok ns [] List.nodup_nil).2]
  simp
theorem keysOf_len (ns : List Int) : (keysOf ns).length ≤ ns.length := by
  have h : ∀ (ns ks : List Int), (ns.foldl (fun ks v => if v ∈ ks then ks else ks ++ [v]) ks).length ≤ ks.length + ns.length := by
    intro ns
    induction ns with
    | nil => intro ks; exact Nat.le_refl _
    | cons v r ih =>
      intro ks
      rw [List.foldl_cons]
      refine Nat.le_trans (ih _) ?_
      rw [List.length_cons]
      split
      · omega
      · rw [List.length_append]; simp; omega
  have h2 := h ns []
  rw [List.length_nil, Nat.zero_add] at h2
  exact h2
theorem keysOf_more {ns : List Int} {i : Nat} {v : Int} (h : ns[i]? = some v) : keysOf (ns.take (i + 1)) = if v ∈ keysOf (ns.take i) then keysOf (ns.take i) else keysOf (ns.take i) ++ [v] := by
  unfold keysOf
  rw [take_more h, List.foldl_append]
  rfl
def kvC (ns : List Int) : List (Key × V) := (keysOf ns).map fun z => (.inl z, .int ((ns.count z : Nat) : Int))
theorem kvC_keys (ns : List Int) : (kvC ns).map (·.1) = (keysOf ns).map Sum.inl := by
  unfold kvC
  rw [List.map_map]
  rfl
theorem kvC_len (ns : List Int) : (kvC ns).length = (keysOf ns).length := List.length_map _
theorem valV_map (f : Int → V) (z : Int) : ∀ ks : List Int, valV (ks.map fun z => ((Sum.inl z : Key), f z)) (.inl z) = if z ∈ ks then some (f z) else none
  | [] => rfl
  | k :: r => by
    rw [List.map_cons]
    by_cases c : k = z
    · subst c
      rw [valV_pos rfl, if_pos List.mem_cons_self]
    · rw [valV_neg (fun e => c (Sum.inl.inj e)), valV_map f z r]
      have : (z ∈ k :: r) ↔ z ∈ r := by
        rw [List.mem_cons]
        exact ⟨fun h => h.resolve_left fun e => c e.symm, .inr⟩
      by_cases c2 : z ∈ r
      · rw [if_pos c2, if_pos (this.mpr c2)]
      · rw [if_neg c2, if_neg fun h => c2 (this.mp h)]
theorem valV_kvC (ns : List Int) (z : Int) : valV (kvC ns) (.inl z) = if z ∈ ns then some (.int ((ns.count z : Nat) : Int)) else none := by
  unfold kvC
  rw [valV_map]
  by_cases c : z ∈ ns
  · rw [if_pos c, if_pos (mem_keysOf.mpr c)]
  · rw [if_neg c, if_neg fun h => c (mem_keysOf.mp h)]
theorem getD_kvC (ns : List Int) (z : Int) : (valV (kvC ns) (.inl z)).getD (.int 0) = .int ((ns.count z : Nat) : Int) := by
  rw [valV_kvC]
  by_cases c : z ∈ ns
  · rw [if_pos c]; rfl
  · rw [if_neg c, List.count_eq_zero_of_not_mem c]; rfl
theorem putK_kvC {ns : List Int} {i : Nat} {v : Int} (h : ns[i]? = some v) : putK (kvC (ns.take i)) (.inl v) (.int (((ns.take i).count v : Nat) + 1 : Int)) = kvC (ns.take (i + 1)) := by
  have hc : ∀ z, (ns.take (i + 1)).count z = (ns.take i).count z + if v = z then 1 else 0 := fun z => by
    rw [take_more h, List.count_append]
    congr 1
    rw [List.count_cons, List.count_nil]
    by_cases e : v = z
    · subst e; simp
    · simp [e]
  by_cases c : v ∈ keysOf (ns.take i)
  · have hany : ((kvC (ns.take i)).any fun kv => decide (kv.1 = Sum.inl v)) = true := by
      rw [List.any_eq_true]
      exact ⟨_, List.mem_map.mpr ⟨v, c, rfl⟩, decide_eq_true rfl⟩
    unfold putK
    rw [if_pos hany]
    unfold kvC
    rw [keysOf_more h, if_pos c, List.map_map]
    refine List.map_congr_left fun z hz => ?_
    simp only [Function.comp]
    rw [hc z]
    by_cases e : z = v
    · subst e
      rw [if_pos rfl, if_pos rfl]
      rfl
    · rw [if_neg fun q => e (Sum.inl.inj q), if_neg fun q => e q.symm]
      rfl
  · rw [putK_new _ (by rw [valV_kvC, if_neg fun m => c (mem_keysOf.mpr m)])]
    unfold kvC
    rw [keysOf_more h, if_neg c, List.map_append]
    congr 1
    · refine List.map_congr_left fun z hz => ?_
      rw [hc z, if_neg fun q => c (by rw [q]; exact hz)]
      rfl
    · show [((Sum.inl v : Key), V.int (((ns.take i).count v : Nat) + 1 : Int))] = [((Sum.inl v : Key), V.int (((ns.take (i + 1)).count v : Nat) : Int))]
      rw [hc v, if_pos rfl]
      rfl
/-! ### the winner -/
def topOf (ns : List Int) (m : Int) : List Int := (keysOf ns).filter fun z => decide (((ns.count z : Nat) : Int) = m)
/-- what one place of a merged dump is -/
def mergedV (ns : List Int) (v : V) : Prop := ∃ m : Int, (∃ z ∈ ns, ((ns.count z : Nat) : Int) = m) ∧ (∀ z ∈ ns, ((ns.count z : Nat) : Int) ≤ m) ∧ v = if (topOf ns m).length = 1 then .int ((topOf ns m).getD 0 0) else .non
theorem merged_of {ns : List Int} {m : Int} (h1 : ∃ z ∈ ns, ((ns.count z : Nat) : Int) = m) (h2 : ∀ z ∈ ns, ((ns.count z : Nat) : Int) ≤ m) {best : List Int} (hp : best.Pairwise (· < ·)) (hb : ∀ z, z ∈ best ↔ z ∈ ns ∧ ((ns.count z : Nat) : Int) = m) {v : V} (hv : mergedV ns v) :
    v = if best.length = 1 then .int (best.getD 0 0) else .non := by
  obtain ⟨m2, ⟨z2, a1, a2⟩, a3, rfl⟩ := hv
  obtain ⟨z1, b1, b2⟩ := h1
  have hm : m2 = m := by
    have q1 := h2 z2 a1
    have q2 := a3 z1 b1
    omega
  subst hm
  have hmem : ∀ z, z ∈ topOf ns m2 ↔ z ∈ best := fun z => by
    unfold topOf
    rw [List.mem_filter, decide_eq_true_eq, mem_keysOf, hb]
  have hnd : (topOf ns m2).Nodup := (keysOf_nodup ns).filter _
  have hnb : best.Nodup := hp.imp fun h => by omega
  have perm : (topOf ns m2).Perm best := (List.perm_ext_iff_of_nodup hnd hnb).mpr hmem
  rw [perm.length_eq]
  by_cases c : best.length = 1
  · rw [if_pos c, if_pos c]
    match best, c with
    | [b], _ =>
      rw [List.perm_singleton.mp perm]
  · rw [if_neg c, if_neg c]
end Dw

/-! sums of tuples, an own __eq__ that may be False, isinstance of an own instance -/
namespace Dw
open PySem PySem.Spec PyProof.Rows L2
section
variable {prog : Program} {w : World} {A : Around} {E : Value → Shared → Prop} {s : Shared} {l : Addr} {xs : Array (Int × Tok)}
theorem sum_tupW {Q : Value → Shared → Prop} (hh : A.handled = none) (hl : s.heap.IsTuple l (intItems xs))
    (h : ∀ h' tk t', (∀ b o, s.heap.get? b = some o → h'.get? b = some o) → Q (.int (preSum (numAt xs) xs.size) t') { s with heap := h', toks := tk }) :
    wpAny (model prog w) A (call (.builtin "sum") [.ref l]) Q E s := by
  have hlt : l < s.heap.objs.size := by
    obtain ⟨_, e, _⟩ := hl
    exact Heap.lt_size e
  refine call_sum_walkG (wpAny_pyIter_tuple hl ?_)
  refine ⟨_, [s.heap.objs.size, l], [s.heap.objs.size], _, _, _, numAt xs, rfl, Walks.tuple (A := A.in1) hh _ l (Nat.ne_of_lt hlt) (intItems xs), ⟨⟨_, Heap.get?_push_size _ rfl, rfl, rfl⟩, hl.push _⟩, fun b hb => ?_, (fun _ _ => intItems_at), fun h' tk t' hk => ?_⟩
  · show b < (s.heap.push _).objs.size
    rw [Heap.size_push]
    simp only [List.mem_cons, List.not_mem_nil, or_false] at hb
    rcases hb with rfl | rfl
    · exact Nat.lt_succ_self _
    · exact Nat.lt_succ_of_lt hlt
  · have := h h' tk t' fun b o e => hk b o (fun hm => by
      have hb := Heap.lt_size e
      rw [List.mem_singleton.mp hm] at hb
      exact Nat.lt_irrefl _ hb) (Heap.get?_push_of_some _ e)
    simpa [intItems] using this
end
def rSumT (K : PySem.W.Frag) : List V → Hp → VK → Prop := fun vs H Q => ∃ (a : Addr) (ns : List Int), vs = [V.ref a] ∧ SqT K H a (ns.map V.int) ∧ Q (.int ns.sum) H
section
variable {X : Cx}
theorem cr_sumT (hc : X.calm = true) : CallR X (.builtin "sum") (rSumT X.K) := by
  intro pins s σ H vs us Q I r h
  obtain ⟨a, ns, rfl, hs, q⟩ := h
  obtain ⟨its, rv, hl, _⟩ := I.tuple hs
  rw [Vals.ref1 r]
  obtain ⟨xs, e⟩ := rv.ints.allInts.items
  have hn : numsOf (intItems xs).toList = ns := by
    rw [← e]
    exact rv.ints.numsOf
  rw [nums_intItems] at hn
  rw [e] at hl
  refine sum_tupW (I.ok.hd hc) hl fun h' tk t' hk => ?_
  rw [preSum_eq, List.take_of_length_le (by simp), hn]
  exact ⟨.int _, H, I.kept hk, ⟨_, rfl⟩, q⟩
def rEqOwn (C : Addr) (sp : Sp) : R2 := fun x y H Q => ∃ a b dx dy fs gs, x = .ref a ∧ y = .ref b ∧ H a = some (.ins C dx fs) ∧ H b = some (.ins C dy gs) ∧ sp [.ref a, .ref b] H (fun v H' => ∃ k, v = .bl k ∧ Q v H') E0
theorem op_eqOwn {n : Nat} {C f : Addr} {fd : FuncData} {ps : List Str} {sp : Sp} (M : Meth X.K C "__eq__" f) (F : FnOk X.prog X.w X.K X.mg X.base CX0 n f fd ps sp) (hb : Binds X.K fd ps []) (hr : Room n X.A) : OpR X (compareOp .Eq) (rEqOwn C sp) := by
  intro pins s σ H x y v u Q I rx ry hq
  obtain ⟨a, b, dx, dy, fs, gs, rfl, rfl, ha, hb', hsp⟩ := hq
  show wpAny (model X.prog X.w) X.A (richCompare .Eq v u) (EP X pins σ Q) X.xe s
  cases rx
  cases ry
  obtain ⟨mA, J, _⟩ := ins_get I.hok ha
  obtain ⟨mB, J', _⟩ := ins_get I.hok hb'
  obtain ⟨od, J, _⟩ := J.look
  obtain ⟨od', J', _⟩ := J'.look
  obtain ⟨m, hF⟩ := I.fr
  refine PySem.W.cmp_K (op := .Eq) (tb := .ref C) hr.units0 hF I.ok.mod.kin J J'.type (by simp [PySem.W.notFirst]) M.at_ M.fn ?_
  refine wpAny_mono (run_fn (us := [.ref a, .ref b]) (vs := [.ref a, .ref b]) (dvs := []) F hr hb .nil pass0 I (.cons rfl (.cons rfl .nil)) hsp) (fun v s' q => ?_) fun _ _ e => e
  obtain ⟨z, H', I', rz, k, ez, q⟩ := q
  subst ez
  cases rz
  exact ⟨.bl k, H', I', rfl, q⟩
def rIsC (C : Addr) : List V → Hp → VK → Prop := fun xs H Q => ∃ a dx fs, xs = [.ref a, .ref C] ∧ H a = some (.ins C dx fs) ∧ Q (.bl true) H
theorem call_isOwn {C : Addr} (c : C8.InsC X.K C) : CallR X (.builtin "isinstance") (rIsC C) := C8.call_isC c
end
end Dw

/-! != by an own __eq__ -/
namespace Dw
open PySem PySem.Spec PyProof.Rows L2
section
variable {X : Cx}
def rNeOwn (C : Addr) (sp : Sp) : R2 := fun x y H Q => ∃ a b dx dy fs gs, x = .ref a ∧ y = .ref b ∧ H a = some (.ins C dx fs) ∧ H b = some (.ins C dy gs) ∧ sp [.ref a, .ref b] H (fun v H' => ∃ k, v = .bl k ∧ Q (.bl (!k)) H') E0
/-- the call of the own __eq__, one builtin further in -/
theorem run_in1 {n : Nat} {f : Addr} {fd : FuncData} {ps : List Str} {sp : Sp} {A : Around} {pins : List (Addr × Obj)} {σ : L2.St} {H : Hp} {s : Shared} {a b : Addr} {R : VK} (Fn : FnOk X.prog X.w X.K X.mg X.base CX0 n f fd ps sp) (hb : Binds X.K fd ps []) (hr : Room n A) (hA : A.frames = X.A.frames) (I : Inv X pins σ H s)
    (hsp : sp [.ref a, .ref b] H R E0) : wpAny (model X.prog X.w) A (call (.ref f) [.ref a, .ref b]) (EP X pins σ R) X.xe s := by
  have e0 : Env0 X.prog X.w X.K X.mg X.base A X.stack s H := by
    have e := I.env0
    exact ⟨by rw [hA]; exact e.frames, e.mod, e.bs, e.bsz, e.funs, e.frf, e.hok, e.bare⟩
  have hl := Fn.len _ _ _ _ hsp
  refine wpAny_call (codeAny_mono (Fn.run A X.stack s H ⟨[.ref a, .ref b], []⟩ [.ref a, .ref b] [.ref a, .ref b] R E0 hr e0 (by
    have := hb s [.ref a, .ref b] I.kIn (by simpa using hl)
    simpa using this) (.cons rfl (.cons rfl .nil)) hsp) fun r s' hq => ?_)
  match r, hq with
  | .error e, hq => exact pass0 pins σ H s e s' I hq
  | .ok (.ret v), hq => exact I.after hq
/-- tuple(t), t a tuple -/
def rTupT (K : PySem.W.Frag) : List V → Hp → VK → Prop := fun xs H Q => ∃ p ys, xs = [V.ref p] ∧ SqT K H p ys ∧ Q (.ref p) H
theorem call_tupTT : CallR X (.type "tuple") (rTupT X.K) := by
  intro pins s σ H xs us Q I r h
  obtain ⟨p, ys, e, h1, q⟩ := h
  exact call_tuple_of pins s σ H xs us Q I r ⟨p, ys, e, .inr ⟨h1, q⟩⟩
theorem op_neOwn {n : Nat} {C f : Addr} {fd : FuncData} {ps : List Str} {sp : Sp} (M : Meth X.K C "__eq__" f) (hne : PySem.W.findIn X.K (.ref C) "__ne__" = some (some (.builtin "object.__ne__"))) (hob : PySem.W.mroIn X.K C (.type "object") = some true)
    (F : FnOk X.prog X.w X.K X.mg X.base CX0 n f fd ps sp) (hb : Binds X.K fd ps []) (hr : Room (n + 4) X.A) : OpR X (compareOp .NotEq) (rNeOwn C sp) := by
  intro pins s σ H x y v u Q I rx ry hq
  obtain ⟨a, b, dx, dy, fs, gs, rfl, rfl, ha, hb', hsp⟩ := hq
  show wpAny (model X.prog X.w) X.A (richCompare .NotEq v u) (EP X pins σ Q) X.xe s
  cases rx
  cases ry
  obtain ⟨mA, J, _⟩ := ins_get I.hok ha
  obtain ⟨mB, J', _⟩ := ins_get I.hok hb'
  obtain ⟨od, J, _⟩ := J.look
  obtain ⟨od', J', _⟩ := J'.look
  have one : wpAny (model X.prog X.w) X.A (tryCompare (.ref a) "__ne__" (.ref b)) (fun r s' => ∃ v, r = some v ∧ EP X pins σ Q v s') X.xe s := by
    have S := PySem.F.cmp_object.ne
    have kin := I.kIn
    have hi : PySem.W.Looks (model X.prog X.w) s.heap (isInstance (.ref a) (.type "object")) true := J.type.andThen (PySem.W.looks_mroIn kin hob)
    have hcall : wpAny (model X.prog X.w) X.A (call (.builtin "object.__ne__") [.ref a, .ref b]) (fun v s' => v ≠ .notImplemented ∧ EP X pins σ Q v s') X.xe s := by
      refine wpAny_call (codeAny_call_builtin S.plain PySem.F.cmpEntry_ne (PySem.W.check_slot PySem.F.cmpKind_ne PySem.F.cmpSplit_ne hi (PySem.F.cmpArgs_ne _ _) ?_))
      unfold Builtin.«object.__ne__»
      refine wpAny_bind (wpAny_of_eq (a := (Value.ref a, [Value.ref b])) (by rfl) ?_)
      dsimp only
      refine wpAny_bind (wpAny_cRoomFor (hr.in1 (k := n + 3)).units0 ?_)
      refine wpAny_bind (PySem.W.ifBound_K kin J M.at_ M.fn (wpAny_mono (run_in1 F hb ((hr.in1 (k := n + 3)).mono (by omega)) rfl I hsp) (fun v s' q => ?_) fun _ _ e => e))
      obtain ⟨z, H', I', rz, k, ez, q⟩ := q
      subst ez
      cases rz
      show wpAny _ _ (truthy (.bool k) >>= fun t => ret (.bool (!t))) _ _ _
      refine wpAny_bind (wpAny_of_eq (a := k) (by rfl) ?_)
      exact wpAny_pure ⟨(fun e => by cases e), .bl (!k), H', I', rfl, q⟩
    unfold tryCompare
    refine wpAny_bind ?_
    simp only [callSpecialIfBound?, bindSpecialIfBound?]
    refine wpAny_holding (wpAny_bind (wpAny_bind (wpAny_bind (J.type.here ((PySem.W.looks_findIn kin hne).here ?_)))))
    simp only [S.bind]
    refine wpAny_bind (wpAny_askSetting (wpAny_ite ?_))
    have fin : wpAny (model X.prog X.w) X.A (call (.builtin "object.__ne__") ([.ref a] ++ [.ref b]) >>= fun v => pure (some v)) (fun r s' => wpAny (model X.prog X.w) X.A
          (match r with
            | some Value.notImplemented => pure none
            | none => pure none
            | some v => pure (some v)) (fun r s' => ∃ v, r = some v ∧ EP X pins σ Q v s') X.xe s') X.xe s := by
      refine wpAny_bind (wpAny_mono hcall (fun v s' hv => wpAny_pure ?_) fun _ _ e => e)
      obtain ⟨h1, h2⟩ := hv
      cases v <;> first | exact absurd rfl h1 | exact wpAny_pure ⟨_, rfl, h2⟩
    split
    · exact wpAny_bind (wpAny_pure (wpAny_pure fin))
    · exact wpAny_tryCatch (wpAny_bind (wpAny_pure (wpAny_pure fin)))
  unfold richCompare
  simp only [oneThing_ref]
  refine wpAny_holding (wpAny_bind (wpAny_cRoomFor hr.units0 ?_))
  refine wpAny_bind (J.type.here (wpAny_bind (J'.type.here ?_)))
  rw [if_neg (by simp)]
  refine wpAny_bind (wpAny_pure ?_)
  simp only [Bool.false_eq_true, if_false]
  refine wpAny_bind (wpAny_mono one (fun r s' z => ?_) fun _ _ e => e)
  obtain ⟨v, rfl, hq⟩ := z
  exact wpAny_pure hq
end
end Dw

/-! changes of patches -/
namespace Dw
open PySem PySem.Spec PyProof.Rows L2
abbrev Ch := Int × List Int × List Int
def ChAt (H : Hp) (x : V) (c : Ch) : Prop := ∃ t o n, x = .ref t ∧ H t = some (.tup [.int c.1, .ref o, .ref n]) ∧ H o = some (.tup (c.2.1.map V.int)) ∧ H n = some (.tup (c.2.2.map V.int))
def ChsAt (H : Hp) (xs : List V) (cs : List Ch) : Prop := xs.length = cs.length ∧ ∀ (i : Nat) x, xs[i]? = some x → ∃ c, cs[i]? = some c ∧ ChAt H x c
theorem ChAt.same {H H' : Hp} {x : V} {c : Ch} (s : Same H H') (h : ChAt H x c) : ChAt H' x c := by
  obtain ⟨t, o, n, e, h1, h2, h3⟩ := h
  exact ⟨t, o, n, e, s _ _ h1, s _ _ h2, s _ _ h3⟩
theorem ChsAt.same {H H' : Hp} {xs : List V} {cs : List Ch} (s : Same H H') (h : ChsAt H xs cs) : ChsAt H' xs cs :=
  ⟨h.1, fun i x e => let ⟨c, h1, h2⟩ := h.2 i x e; ⟨c, h1, h2.same s⟩⟩
theorem ChsAt.nil {H : Hp} : ChsAt H [] [] := ⟨rfl, fun i x e => by simp at e⟩
theorem ChsAt.push {H : Hp} {xs : List V} {cs : List Ch} {x : V} {c : Ch} (h : ChsAt H xs cs) (hx : ChAt H x c) : ChsAt H (xs ++ [x]) (cs ++ [c]) := by
  refine ⟨by rw [List.length_append, List.length_append, h.1]; rfl, fun i y e => ?_⟩
  by_cases hi : i < xs.length
  · rw [List.getElem?_append_left hi] at e
    obtain ⟨d, h1, h2⟩ := h.2 i y e
    exact ⟨d, by rw [List.getElem?_append_left (by rw [← h.1]; exact hi)]; exact h1, h2⟩
  · rw [List.getElem?_append_right (by omega)] at e
    have h0 : i - xs.length = 0 := by
      cases q : i - xs.length with
      | zero => rfl
      | succ m => rw [q] at e; simp at e
    rw [h0] at e
    cases e
    refine ⟨c, ?_, hx⟩
    have hc := h.1
    have e2 : i = cs.length := by omega
    rw [e2, List.getElem?_append_right (Nat.le_refl _), Nat.sub_self]
    rfl
theorem ChAt.ups {H : Hp} {D : Addr} {u o' : HO} {x : V} {c : Ch} (hD : H D = some u) (hn : ∀ xs, u ≠ .tup xs) (h : ChAt H x c) : ChAt (upd H D o') x c := by
  obtain ⟨t, o, n, e, h1, h2, h3⟩ := h
  have ne : ∀ {a : Addr} {xs : List V}, H a = some (.tup xs) → a ≠ D := fun ha e => by
    subst e
    rw [hD] at ha
    exact hn _ (Option.some.inj ha)
  exact ⟨t, o, n, e, by rw [upd_ne (ne h1)]; exact h1, by rw [upd_ne (ne h2)]; exact h2, by rw [upd_ne (ne h3)]; exact h3⟩
theorem ChsAt.ups {H : Hp} {D : Addr} {u o' : HO} {xs : List V} {cs : List Ch} (hD : H D = some u) (hn : ∀ xs, u ≠ .tup xs) (h : ChsAt H xs cs) : ChsAt (upd H D o') xs cs :=
  ⟨h.1, fun i x e => let ⟨c, h1, h2⟩ := h.2 i x e; ⟨c, h1, h2.ups hD hn⟩⟩
def Fit : Int → List Ch → Prop
  | _, [] => True
  | l, c :: r => l ≤ c.1 ∧ Bytes c.2.1 ∧ Bytes c.2.2 ∧ c.2.1.length ≤ 4 ∧ c.2.2.length ≤ 4 ∧ c.2.1 ≠ c.2.2 ∧ Fit (c.1 + c.2.1.length + 1) r
def opp : Int → List Ch → List Ch
  | _, [] => []
  | s, c :: r => (c.1 + s, c.2.2, c.2.1) :: opp (s + c.2.2.length - c.2.1.length) r
theorem opp_len : ∀ (cs : List Ch) (s : Int), (opp s cs).length = cs.length
  | [], _ => rfl
  | c :: r, s => by show (opp _ r).length + 1 = r.length + 1; rw [opp_len r]
theorem opp_opp : ∀ (cs : List Ch) (s : Int), opp (-s) (opp s cs) = cs
  | [], _ => rfl
  | c :: r, s => by
    show (c.1 + s + -s, c.2.1, c.2.2) :: opp (-s + c.2.1.length - c.2.2.length) (opp (s + c.2.2.length - c.2.1.length) r) = c :: r
    have e : -s + (c.2.1.length : Int) - c.2.2.length = -(s + c.2.2.length - c.2.1.length) := by omega
    have e2 : c.1 + s + -s = c.1 := by omega
    rw [e, opp_opp r, e2]
theorem Fit.opp : ∀ (cs : List Ch) (l s : Int), Fit l cs → Fit (l + s) (Dw.opp s cs)
  | [], _, _, _ => trivial
  | c :: r, l, s, h => by
    obtain ⟨h1, h2, h3, h4, h5, h6, h7⟩ := h
    refine ⟨by show l + s ≤ c.1 + s; omega, h3, h2, h5, h4, Ne.symm h6, ?_⟩
    have := Fit.opp r _ (s + c.2.2.length - c.2.1.length) h7
    have e : c.1 + (c.2.1.length : Int) + 1 + (s + c.2.2.length - c.2.1.length) = c.1 + s + c.2.2.length + 1 := by omega
    rw [e] at this
    exact this
def chD (c : Ch) : PyData := .tuple [.int c.1, .tuple (c.2.1.map PyData.int), .tuple (c.2.2.map PyData.int)]
theorem chs_shal : ∀ cs : List Ch, ShalAll (cs.map chD) 6
  | [] => .nil
  | c :: r => .cons (.tup (.cons .int (.cons (.tup .ints) (.cons (.tup .ints) .nil)))) (chs_shal r)
theorem shaped_of {d : PyData} (hs : Shal d 7) : SeqAt.shaped d = true := by
  unfold SeqAt.shaped
  rw [Bool.and_eq_true]
  exact ⟨hs.1, decide_eq_true (by have := hs.2; omega)⟩
theorem eqvAll_chs : ∀ cs ds : List Ch, PyData.eqvAll (cs.map chD) (ds.map chD) = decide (cs = ds)
  | [], [] => by
    show PyData.eqvAll [] [] = _
    rw [PyData.eqvAll]
    rfl
  | [], _ :: _ => by
    show PyData.eqvAll [] (_ :: _) = _
    rw [PyData.eqvAll, decide_eq_false (fun e => by cases e)]
  | _ :: _, [] => by
    show PyData.eqvAll (_ :: _) [] = _
    rw [PyData.eqvAll, decide_eq_false (fun e => by cases e)]
  | (z, o, n) :: r, (z2, o2, n2) :: t => by
    show PyData.eqvAll (.tuple [.int z, .tuple (o.map PyData.int), .tuple (n.map PyData.int)] :: r.map chD) (.tuple [.int z2, .tuple (o2.map PyData.int), .tuple (n2.map PyData.int)] :: t.map chD) = _
    rw [PyData.eqvAll, eqvAll_chs r t, PyData.eqv, PyData.eqvAll, PyData.eqv, PyData.eqvAll, PyData.eqv, eqvAll_ints, PyData.eqvAll, PyData.eqv, eqvAll_ints, PyData.eqvAll, Bool.eq_iff_iff]
    simp only [Bool.and_eq_true, decide_eq_true_eq, beq_iff_eq, List.cons.injEq, Prod.mk.injEq]
    constructor
    · rintro ⟨⟨h1, h2, h3, _⟩, h4⟩
      exact ⟨⟨h1, h2, h3⟩, h4⟩
    · rintro ⟨⟨h1, h2, h3⟩, h4⟩
      exact ⟨⟨h1, h2, h3, trivial⟩, h4⟩
theorem dt_tupI {H : Hp} {p : Addr} {ns : List Int} (h : H p = some (.tup (ns.map V.int))) : Dt H (.ref p) (.tuple (ns.map PyData.int)) := .tup h (dt_ints ns)
theorem ChAt.dt {H : Hp} {x : V} {c : Ch} (h : ChAt H x c) : Dt H x (chD c) := by
  obtain ⟨t, o, n, rfl, h1, h2, h3⟩ := h
  exact .tup h1 (.cons (.int _) (.cons (dt_tupI h2) (.cons (dt_tupI h3) .nil)))
theorem ChsAt.dt {H : Hp} : ∀ {xs : List V} {cs : List Ch}, ChsAt H xs cs → DtAll H xs (cs.map chD)
  | [], [], _ => .nil
  | [], _ :: _, h => by have := h.1; simp at this
  | _ :: _, [], h => by have := h.1; simp at this
  | x :: r, c :: t, h => by
    obtain ⟨d, hd, hx⟩ := h.2 0 x rfl
    cases hd
    exact .cons hx.dt (ChsAt.dt ⟨by have := h.1; simpa using this, fun i y e => h.2 (i + 1) y e⟩)
def PatchAt (C : Addr) (H : Hp) (x : Addr) (cs : List Ch) : Prop := ∃ dx t xs, H x = some (.ins C dx [("changes", .ref t)]) ∧ H t = some (.tup xs) ∧ ChsAt H xs cs
theorem PatchAt.same {C : Addr} {H H' : Hp} {x : Addr} {cs : List Ch} (s : Same H H') (h : PatchAt C H x cs) : PatchAt C H' x cs := by
  obtain ⟨dx, t, xs, h1, h2, h3⟩ := h
  exact ⟨dx, t, xs, s _ _ h1, s _ _ h2, h3.same s⟩
def spPatchInit (C : Addr) : Sp := fun vs H Q _ => ∃ (x dx a : Addr) (xs : List V) (cs : List Ch), vs = [.ref x, .ref a] ∧ H x = some (.ins C dx []) ∧ H a = some (.lst xs) ∧ ChsAt H xs cs ∧ cs.length ≤ 100 ∧ Fit 0 cs ∧
  ∀ H', SameB x H H' → (∃ t ys, H' x = some (.ins C dx [("changes", .ref t)]) ∧ H' t = some (.tup ys) ∧ ChsAt H' ys cs) → Q .non H'
def spPatch (C : Addr) : Sp := fun vs H Q _ => ∃ (a : Addr) (xs : List V) (cs : List Ch), vs = [.ref a] ∧ H a = some (.lst xs) ∧ ChsAt H xs cs ∧ cs.length ≤ 100 ∧ Fit 0 cs ∧
  ∀ r H', Same H H' → H r = none → PatchAt C H' r cs → Q (.ref r) H'
theorem conv_patch {C : Addr} : Conv C (spPatchInit C) (spPatch C) := by
  intro vs H Q E ⟨a, xs, cs, e, hA, hC, hl, hF, h1⟩ x dx nx nd ne
  subst e
  have s0 : Same H (upd H dx (.own x)) := same_new nd _
  have nx' : upd H dx (.own x) x = none := by rw [upd_ne ne.symm]; exact nx
  have s1 : Same (upd H dx (.own x)) (upd (upd H dx (.own x)) x (.ins C dx [])) := same_new nx' _
  have s := s0.trans s1
  refine ⟨x, dx, a, xs, cs, rfl, upd_same, s _ _ hA, hC.same s, hl, hF, fun H' sb h => ⟨rfl, h1 x H' (fun b o hb => sb b o (ne_of_none hb nx) (s b o hb)) nx ?_⟩⟩
  obtain ⟨t, ys, e1, e2, e3⟩ := h
  exact ⟨dx, t, ys, e1, e2, e3⟩
def spEqP (C : Addr) : Sp := fun vs H Q _ => ∃ (x y : Addr) (cs ds : List Ch), vs = [.ref x, .ref y] ∧ PatchAt C H x cs ∧ PatchAt C H y ds ∧ Q (.bl (decide (cs = ds))) H
def spOpp (C : Addr) : Sp := fun vs H Q _ => ∃ (x : Addr) (cs : List Ch), vs = [.ref x] ∧ PatchAt C H x cs ∧ cs.length ≤ 100 ∧ Fit 0 cs ∧ ∀ r H', Same H H' → H r = none → PatchAt C H' r (opp 0 cs) → Q (.ref r) H'
theorem ChsAt.pool {H H' : Hp} {p q : Addr} {xs : List V} {cs : List Ch} (hP : Pool H p q) (s : SameB p H H') (h : ChsAt H xs cs) : ChsAt H' xs cs := by
  obtain ⟨ns, a, b, c, d, hp, _⟩ := hP
  have ne : ∀ {r : Addr} {ys : List V}, H r = some (.tup ys) → r ≠ p := fun hr e => by
    subst e
    rw [hp] at hr
    cases hr
  refine ⟨h.1, fun i x e => ?_⟩
  obtain ⟨c, h1, t, o, n, e1, q1, q2, q3⟩ := h.2 i x e
  exact ⟨c, h1, t, o, n, e1, s _ _ (ne q1) q1, s _ _ (ne q2) q2, s _ _ (ne q3) q3⟩
theorem Fit.more : ∀ (cs : List Ch) (l : Int) (c d : Ch), Fit l (cs ++ [c]) → c.1 + c.2.1.length + 1 ≤ d.1 → Bytes d.2.1 → Bytes d.2.2 → d.2.1.length ≤ 4 → d.2.2.length ≤ 4 → d.2.1 ≠ d.2.2 → Fit l (cs ++ [c] ++ [d])
  | [], l, c, d, h, h1, h2, h3, h4, h5, h6 => by
    obtain ⟨g1, g2, g3, g4, g5, g6, _⟩ := h
    exact ⟨g1, g2, g3, g4, g5, g6, h1, h2, h3, h4, h5, h6, trivial⟩
  | b :: r, l, c, d, h, h1, h2, h3, h4, h5, h6 => by
    obtain ⟨g1, g2, g3, g4, g5, g6, g7⟩ := h
    exact ⟨g1, g2, g3, g4, g5, g6, Fit.more r _ c d g7 h1 h2 h3 h4 h5 h6⟩
end Dw

/-! tracks as they are written: sectors, fields, gaps -/
namespace Dw
open PySem PySem.Spec PyProof.Rows L2
/-! ### small readings -/
/-- xs[-1] of a list of ints -/
def rIxL : R2 := fun x y H Q => ∃ p ns, x = .ref p ∧ y = .int (-1) ∧ H p = some (IL ns) ∧ ns ≠ [] ∧ Q (.int (ns.getLastD 0)) H
theorem ix_listL {X : Cx} : IxR X rIxL := IxR.imp ix_listH fun x y H Q h => by
  obtain ⟨p, ns, e1, e2, h1, h2, q⟩ := h
  refine ⟨p, ns.map V.int, -1, _, e1, e2, h1, ?_, q⟩
  have e : ns = ns.dropLast ++ [ns.getLastD 0] := by
    rw [List.getLastD_eq_getLast?, List.getLast?_eq_some_getLast h2]
    exact (List.dropLast_concat_getLast h2).symm
  rw [e, List.map_append]
  simp only [List.map_cons, List.map_nil]
  rw [atI_last]
  simp
/-- list(t) of a tuple of ints -/
def rListTI (K : PySem.W.Frag) : List V → Hp → VK → Prop := fun xs H Q => ∃ p ns, xs = [.ref p] ∧ SqT K H p (ns.map V.int) ∧ ∀ l, H l = none → Q (.ref l) (upd H l (IL ns))
theorem call_listTI {X : Cx} : CallR X (.type "list") (rListTI X.K) := CallR.imp call_list_of fun xs H Q h => by
  obtain ⟨p, ns, e, h1, q⟩ := h
  exact ⟨p, _, e, .inr h1, q⟩
/-! ### sectors -/
abbrev Sec := List Int × Option (List Int) × Bool × Bool
def dataV (da : Option (List Int)) : PyData := match da with | none => .none | some ns => .tuple (ns.map PyData.int)
/-- a value that is None or a list of ints -/
def DatL (H : Hp) (v : V) (da : Option (List Int)) : Prop := (da = none ∧ v = .non) ∨ ∃ a ns, da = some ns ∧ v = .ref a ∧ H a = some (IL ns)
/-- .. or a tuple of ints -/
def DatT (H : Hp) (v : V) (da : Option (List Int)) : Prop := (da = none ∧ v = .non) ∨ ∃ a ns, da = some ns ∧ v = .ref a ∧ H a = some (.tup (ns.map V.int))
theorem DatL.same {H H' : Hp} {v : V} {da : Option (List Int)} (s : Same H H') (h : DatL H v da) : DatL H' v da := by
  rcases h with h | ⟨a, ns, e1, e2, e3⟩
  · exact .inl h
  · exact .inr ⟨a, ns, e1, e2, s _ _ e3⟩
theorem DatT.same {H H' : Hp} {v : V} {da : Option (List Int)} (s : Same H H') (h : DatT H v da) : DatT H' v da := by
  rcases h with h | ⟨a, ns, e1, e2, e3⟩
  · exact .inl h
  · exact .inr ⟨a, ns, e1, e2, s _ _ e3⟩
theorem DatT.dt {H : Hp} {v : V} {da : Option (List Int)} (h : DatT H v da) : Dt H v (dataV da) := by
  rcases h with ⟨rfl, rfl⟩ | ⟨a, ns, rfl, rfl, h⟩
  · exact .non
  · exact dt_tupI h
theorem shal_data {da : Option (List Int)} {k : Nat} : Shal (dataV da) (k + 2) := by
  cases da with
  | none => exact .non
  | some ns => exact .tup .ints
theorem eqv_data (a b : Option (List Int)) : PyData.eqv (dataV a) (dataV b) = decide (a = b) := by
  cases a with
  | none =>
    cases b with
    | none => rw [decide_eq_true rfl]; rfl
    | some y => rw [decide_eq_false (fun e => by cases e)]; rfl
  | some x =>
    cases b with
    | none => rw [decide_eq_false (fun e => by cases e)]; rfl
    | some y =>
      show PyData.eqv (.tuple (x.map PyData.int)) (.tuple (y.map PyData.int)) = _
      rw [PyData.eqv, eqvAll_ints]
      by_cases c : x = y
      · rw [decide_eq_true c, decide_eq_true (congrArg some c)]
      · rw [decide_eq_false c, decide_eq_false (fun e => c (Option.some.inj e))]
theorem all_bytes {ns : List Int} (h : Bytes ns) : (ns.all fun z => decide (0 ≤ z) && decide (z ≤ 255)) = true := by
  rw [List.all_eq_true]
  intro y hy
  have := h y hy
  rw [decide_eq_true this.1, decide_eq_true (by omega)]
  rfl
theorem putF_le (x : Str) (v : V) : ∀ fs : List (Str × V), (putF x v fs).length ≤ fs.length + 1
  | [] => Nat.le_refl _
  | (y, u) :: r => by
    unfold putF
    split
    · exact Nat.le_succ _
    · have := putF_le x v r
      simp only [List.length_cons]
      omega
/-- the plan of a sector: a tuple of four -/
def RawAt (H : Hp) (x : V) (s : Sec) : Prop := ∃ t ta v, x = .ref t ∧ H t = some (.tup [.ref ta, v, .bl s.2.2.1, .bl s.2.2.2]) ∧ H ta = some (.tup (s.1.map V.int)) ∧ DatL H v s.2.1
theorem RawAt.same {H H' : Hp} {x : V} {s : Sec} (e : Same H H') (h : RawAt H x s) : RawAt H' x s := by
  obtain ⟨t, ta, v, h0, h1, h2, h3⟩ := h
  exact ⟨t, ta, v, h0, e _ _ h1, e _ _ h2, h3.same e⟩
def secF (ta : Addr) (v : V) (aw dw : Bool) : List (Str × V) := [("address", .ref ta), ("data", v), ("address_wrong", .bl aw), ("data_wrong", .bl dw)]
theorem sf_address {ta : Addr} {v : V} {aw dw : Bool} : List.lookup ("address" : Str) (secF ta v aw dw) = some (.ref ta) := by
  unfold secF
  simp [List.lookup]
theorem sf_data {ta : Addr} {v : V} {aw dw : Bool} : List.lookup ("data" : Str) (secF ta v aw dw) = some v := by
  have e1 : (("data" : Str) == ("address" : Str)) = false := by decide +kernel
  unfold secF
  simp [List.lookup, e1]
theorem sf_aw {ta : Addr} {v : V} {aw dw : Bool} : List.lookup ("address_wrong" : Str) (secF ta v aw dw) = some (.bl aw) := by
  have e1 : (("address_wrong" : Str) == ("address" : Str)) = false := by decide +kernel
  have e2 : (("address_wrong" : Str) == ("data" : Str)) = false := by decide +kernel
  unfold secF
  simp [List.lookup, e1, e2]
theorem sf_dw {ta : Addr} {v : V} {aw dw : Bool} : List.lookup ("data_wrong" : Str) (secF ta v aw dw) = some (.bl dw) := by
  have e1 : (("data_wrong" : Str) == ("address" : Str)) = false := by decide +kernel
  have e2 : (("data_wrong" : Str) == ("data" : Str)) = false := by decide +kernel
  have e3 : (("data_wrong" : Str) == ("address_wrong" : Str)) = false := by decide +kernel
  unfold secF
  simp [List.lookup, e1, e2, e3]
theorem sf_put {ta : Addr} {v : V} {aw dw : Bool} : putF "data_wrong" (.bl dw) (putF "address_wrong" (.bl aw) (putF "data" v (putF "address" (.ref ta) []))) = secF ta v aw dw := by
  have e1 : ¬ ("address" : Str) = "data" := by decide +kernel
  have e2 : ¬ ("address" : Str) = "address_wrong" := by decide +kernel
  have e3 : ¬ ("address" : Str) = "data_wrong" := by decide +kernel
  have e4 : ¬ ("data" : Str) = "address_wrong" := by decide +kernel
  have e5 : ¬ ("data" : Str) = "data_wrong" := by decide +kernel
  have e6 : ¬ ("address_wrong" : Str) = "data_wrong" := by decide +kernel
  simp [putF, secF, e1, e2, e3, e4, e5, e6]
/-- a Sector -/
def SecAt (C : Addr) (H : Hp) (x : V) (s : Sec) : Prop := ∃ p dx ta v, x = .ref p ∧ H p = some (.ins C dx (secF ta v s.2.2.1 s.2.2.2)) ∧ H ta = some (.tup (s.1.map V.int)) ∧ DatT H v s.2.1
theorem SecAt.same {C : Addr} {H H' : Hp} {x : V} {s : Sec} (e : Same H H') (h : SecAt C H x s) : SecAt C H' x s := by
  obtain ⟨t, dx, ta, v, h0, h1, h2, h3⟩ := h
  exact ⟨t, dx, ta, v, h0, e _ _ h1, e _ _ h2, h3.same e⟩
/-- things told one by one -/
def AllAt {α : Type} (R : V → α → Prop) (xs : List V) (ss : List α) : Prop := xs.length = ss.length ∧ ∀ (i : Nat) x, xs[i]? = some x → ∃ s, ss[i]? = some s ∧ R x s
theorem AllAt.imp {α : Type} {R R' : V → α → Prop} {xs : List V} {ss : List α} (h : AllAt R xs ss) (i : ∀ x s, R x s → R' x s) : AllAt R' xs ss := ⟨h.1, fun j x e => let ⟨s, h1, h2⟩ := h.2 j x e; ⟨s, h1, i _ _ h2⟩⟩
theorem AllAt.nil {α : Type} {R : V → α → Prop} : AllAt R [] ([] : List α) := ⟨rfl, fun i x e => by simp at e⟩
theorem AllAt.push {α : Type} {R : V → α → Prop} {xs : List V} {ss : List α} {x : V} {s : α} (h : AllAt R xs ss) (hx : R x s) : AllAt R (xs ++ [x]) (ss ++ [s]) := by
  refine ⟨by rw [List.length_append, List.length_append, h.1]; rfl, fun i y e => ?_⟩
  by_cases hi : i < xs.length
  · rw [List.getElem?_append_left hi] at e
    obtain ⟨c, h1, h2⟩ := h.2 i y e
    exact ⟨c, by rw [List.getElem?_append_left (h.1 ▸ hi)]; exact h1, h2⟩
  · have hi' : i = xs.length := by
      have := (List.getElem?_eq_some_iff.mp e).1
      rw [List.length_append] at this
      simp at this
      omega
    subst hi'
    rw [List.getElem?_append_right (Nat.le_refl _), Nat.sub_self] at e
    cases e
    exact ⟨s, by rw [h.1, List.getElem?_append_right (Nat.le_refl _), Nat.sub_self]; rfl, hx⟩
theorem AllAt.at {α : Type} {R : V → α → Prop} {xs : List V} {ss : List α} (h : AllAt R xs ss) {i : Nat} {s : α} (e : ss[i]? = some s) : ∃ x, xs[i]? = some x ∧ R x s := by
  have hl := (List.getElem?_eq_some_iff.mp e).1
  have hx : xs[i]? = some (xs[i]'(by have := h.1; omega)) := List.getElem?_eq_getElem _
  obtain ⟨s', h1, h2⟩ := h.2 i _ hx
  rw [e] at h1
  cases h1
  exact ⟨_, hx, h2⟩
/-- what a sector may be -/
def OkSec (s : Sec) : Prop := ∃ a b c d : Int, s.1 = [a, b, c, d] ∧ Bytes s.1 ∧ d ≤ 5 ∧ ∀ ns, s.2.1 = some ns → ns.length = 16 * 2 ^ d.toNat ∧ Bytes ns
/-! ### cells -/
def markZ : List Int := [0, 1, 0, 0, 0, 1, 0, 0, 1, 0, 0, 0, 1, 0, 0, 1]
def marksZ : List Int := markZ ++ markZ ++ markZ
def gapZ (n : Nat) (b : Int) : List Int := mfmF b (bitsOf (List.replicate n 78))
def pairZ (c : Int) : List Int := [c / 256, c % 256]
def chkZ (ns : List Int) (w : Bool) : Int := if w = true then crcZ ([161, 161, 161] ++ ns) + 1 - 2 * (crcZ ([161, 161, 161] ++ ns) % 2) else crcZ ([161, 161, 161] ++ ns)
theorem chkZ_nn (ns : List Int) (w : Bool) : 0 ≤ chkZ ns w ∧ chkZ ns w < 65536 := by
  have h := crcZ_nn ([161, 161, 161] ++ ns)
  unfold chkZ
  split
  · omega
  · exact h
theorem pairZ_bytes {c : Int} (h : 0 ≤ c ∧ c < 65536) : Bytes (pairZ c) := by
  intro x hx
  unfold pairZ at hx
  simp only [List.mem_cons, List.not_mem_nil, or_false] at hx
  rcases hx with rfl | rfl <;> omega
def fieldZ (ns : List Int) (w : Bool) : List Int := mfmF 0 (bitsOf (List.replicate 6 0)) ++ marksZ ++ mfmF 1 (bitsOf (ns ++ pairZ (chkZ ns w)))
def secStep (cells : List Int) (s : Sec) : List Int :=
  let c1 := cells ++ fieldZ (254 :: s.1) s.2.2.1
  let c2 := c1 ++ gapZ 8 (c1.getLastD 0)
  let c3 := match s.2.1 with | none => c2 | some d => c2 ++ fieldZ (251 :: d) s.2.2.2
  c3 ++ gapZ 8 (c3.getLastD 0)
/-- the data field behind c2, if there is one -/
def datC (c2 : List Int) (da : Option (List Int)) (dw : Bool) : List Int := match da with | none => c2 | some d => c2 ++ fieldZ (251 :: d) dw
theorem secStep_eq (Z ad : List Int) (da : Option (List Int)) (aw dw : Bool) : secStep Z (ad, da, aw, dw) = datC (Z ++ fieldZ (254 :: ad) aw ++ gapZ 8 ((Z ++ fieldZ (254 :: ad) aw).getLastD 0)) da dw ++ gapZ 8 ((datC (Z ++ fieldZ (254 :: ad) aw ++ gapZ 8 ((Z ++ fieldZ (254 :: ad) aw).getLastD 0)) da dw).getLastD 0) := by
  cases da <;> rfl
def trackZ (ss : List Sec) : List Int := ss.foldl secStep (gapZ 10 0)
theorem trackZ_more {ss : List Sec} {i : Nat} {s : Sec} (h : ss[i]? = some s) : trackZ (ss.take (i + 1)) = secStep (trackZ (ss.take i)) s := by
  unfold trackZ
  rw [take_more h, List.foldl_append]
  rfl
theorem gapZ_len (n : Nat) (b : Int) : (gapZ n b).length = 16 * n := by
  unfold gapZ
  rw [mfmF_len, bitsOf_len, List.length_replicate]
  omega
theorem fieldZ_len (ns : List Int) (w : Bool) : (fieldZ ns w).length = 16 * (11 + ns.length) := by
  unfold fieldZ
  rw [List.length_append, List.length_append, mfmF_len, mfmF_len, bitsOf_len, bitsOf_len, List.length_append, List.length_replicate]
  show 2 * (8 * 6) + 48 + 2 * (8 * (ns.length + 2)) = _
  omega
/-- bytes of a sector -/
def secN (s : Sec) : Nat := 32 + match s.2.1 with | none => 0 | some d => 12 + d.length
def trackN (ss : List Sec) : Nat := ss.foldl (fun n s => n + secN s) 10
theorem trackN_more {ss : List Sec} {i : Nat} {s : Sec} (h : ss[i]? = some s) : trackN (ss.take (i + 1)) = trackN (ss.take i) + secN s := by
  unfold trackN
  rw [take_more h, List.foldl_append]
  rfl
theorem secStep_len (cells : List Int) (s : Sec) (h : s.1.length = 4) : (secStep cells s).length = cells.length + 16 * secN s := by
  unfold secStep secN
  simp only
  cases s.2.1 with
  | none =>
    simp only [List.length_append, gapZ_len, fieldZ_len, List.length_cons, h]
    try omega
  | some d =>
    simp only [List.length_append, gapZ_len, fieldZ_len, List.length_cons, h]
    omega
theorem trackZ_len {ss : List Sec} (h : ∀ s ∈ ss, s.1.length = 4) : (trackZ ss).length = 16 * trackN ss := by
  have key : ∀ (ss : List Sec) (c : List Int) (n : Nat), (∀ s ∈ ss, s.1.length = 4) → c.length = 16 * n → (ss.foldl secStep c).length = 16 * ss.foldl (fun n s => n + secN s) n := by
    intro ss
    induction ss with
    | nil => intro c n _ h; exact h
    | cons s r ih =>
      intro c n h h2
      rw [List.foldl_cons, List.foldl_cons]
      refine ih _ _ (fun s hs => h s (List.mem_cons_of_mem _ hs)) ?_
      rw [secStep_len _ _ (h s List.mem_cons_self), h2]
      omega
  exact key ss _ _ h (gapZ_len _ _)
theorem okSec_len {s : Sec} (h : OkSec s) : s.1.length = 4 := by
  obtain ⟨a, b, c, d, e, _⟩ := h
  rw [e]
  rfl
theorem okSec_n {s : Sec} (h : OkSec s) : secN s ≤ 556 := by
  obtain ⟨a, b, c, d, e, hb, hd, h⟩ := h
  unfold secN
  cases h2 : s.2.1 with
  | none => decide
  | some ns =>
    have h3 := (h ns h2).1
    have h4 : 2 ^ d.toNat ≤ 2 ^ 5 := Nat.pow_le_pow_right (by decide) (by omega)
    simp only
    omega
theorem trackN_le {ss : List Sec} (h : ∀ s ∈ ss, OkSec s) : trackN ss ≤ 10 + 556 * ss.length := by
  have key : ∀ (ss : List Sec) (n : Nat), (∀ s ∈ ss, OkSec s) → ss.foldl (fun n s => n + secN s) n ≤ n + 556 * ss.length := by
    intro ss
    induction ss with
    | nil => intro n _; exact Nat.le_refl _
    | cons s r ih =>
      intro n h
      have h1 := ih (n + secN s) fun s hs => h s (List.mem_cons_of_mem _ hs)
      have h2 := okSec_n (h s List.mem_cons_self)
      rw [List.foldl_cons, List.length_cons]
      omega
  exact key ss 10 h
theorem take_all {α : Type} {P : α → Prop} {l : List α} (h : ∀ x ∈ l, P x) (i : Nat) : ∀ x ∈ l.take i, P x := fun x hx => h x (List.mem_of_mem_take hx)
theorem xor1 (n : Nat) : ((n ^^^ 1 : Nat) : Int) = (n : Int) + 1 - 2 * ((n : Int) % 2) := by
  have h := Nat.xor_mod_two_pow (a := n) (b := 1) (n := 1)
  have h2 : (n ^^^ 1) / 2 = n / 2 := by rw [Nat.xor_div_two]; simp
  have h3 : (n ^^^ 1) % 2 = (n % 2) ^^^ 1 := h
  have h4 : n % 2 = 0 ∨ n % 2 = 1 := by omega
  rcases h4 with h4 | h4 <;> rw [h4] at h3
  · have h5 : (n ^^^ 1) % 2 = 1 := h3
    omega
  · have h5 : (n ^^^ 1) % 2 = 0 := h3
    omega
theorem chk_xor (ns : List Int) : ((crcN (161 :: 161 :: 161 :: ns.map Int.toNat) ^^^ 1 : Nat) : Int) = chkZ ns true := by
  rw [xor1]
  rfl
theorem rep3_mark : rep 3 markZ = marksZ := by decide
theorem bytes_rep {n : Nat} {z : Int} (h : 0 ≤ z ∧ z < 256) : Bytes (List.replicate n z) := fun x hx => by
  rw [(List.mem_replicate.mp hx).2]
  exact h
theorem Bytes.app {a b : List Int} (h1 : Bytes a) (h2 : Bytes b) : Bytes (a ++ b) := fun x hx => by
  rcases List.mem_append.mp hx with h | h
  · exact h1 x h
  · exact h2 x h
theorem Bytes.one {z : Int} (h : 0 ≤ z ∧ z < 256) : Bytes [z] := fun x hx => by
  rw [List.mem_singleton.mp hx]
  exact h
/-! ### the law's own CRC -/
theorem flip_bit (n k : Nat) : ((n ^^^ 2 ^ k : Nat) : Int) = (n : Int) + 2 ^ k - 2 * 2 ^ k * ((n : Int) / 2 ^ k % 2) := by
  have e1 : (n ^^^ 2 ^ k) / 2 ^ k = (n / 2 ^ k) ^^^ 1 := by
    rw [divp, Nat.div_self (Nat.two_pow_pos k)]
  have e2 : (n ^^^ 2 ^ k) % 2 ^ k = n % 2 ^ k := by
    rw [modp, Nat.mod_self, Nat.xor_zero]
  have h1 := Nat.div_add_mod (n ^^^ 2 ^ k) (2 ^ k)
  have h2 := Nat.div_add_mod n (2 ^ k)
  rw [e1, e2] at h1
  have h3 := xor1 (n / 2 ^ k)
  have e3 : (n : Int) / 2 ^ k = ((n / 2 ^ k : Nat) : Int) := zdiv n k
  rw [e3]
  have h1' : (2 ^ k : Int) * (((n / 2 ^ k) ^^^ 1 : Nat) : Int) + ((n % 2 ^ k : Nat) : Int) = ((n ^^^ 2 ^ k : Nat) : Int) := by
    rw [← h1]; simp
  have h2' : (2 ^ k : Int) * ((n / 2 ^ k : Nat) : Int) + ((n % 2 ^ k : Nat) : Int) = (n : Int) := by
    conv => rhs; rw [← h2]
    simp
  rw [h3] at h1'
  rw [← h1', ← h2']
  generalize (2 ^ k : Int) = p
  generalize ((n / 2 ^ k : Nat) : Int) = q
  generalize ((n % 2 ^ k : Nat) : Int) = r
  generalize q % 2 = s
  have : p * (q + 1 - 2 * s) = p * q + p - 2 * p * s := by
    rw [Int.mul_sub, Int.mul_add, Int.mul_one, ← Int.mul_assoc, Int.mul_comm p 2]
  omega
def flipsN (m i : Nat) : Nat := ([1, 32, 4096].take i).foldl (· ^^^ ·) m
theorem flips3 (m : Nat) : flipsN m 3 = m ^^^ 4129 := by
  show ((m ^^^ 1) ^^^ 32) ^^^ 4096 = _
  rw [Nat.xor_assoc, Nat.xor_assoc]
  exact congrArg (m ^^^ ·) (by decide)
theorem bits8_get (v k : Nat) (h : k < 8) : (bits8 v)[k]? = some ((v / 2 ^ (7 - k) % 2 : Nat) : Int) := by
  match k, h with
  | 0, _ => rfl
  | 1, _ => rfl
  | 2, _ => rfl
  | 3, _ => rfl
  | 4, _ => rfl
  | 5, _ => rfl
  | 6, _ => rfl
  | 7, _ => simp [bits8]
theorem bits8_int (v : Nat) : [(v : Int) / 128 % 2, (v : Int) / 64 % 2, (v : Int) / 32 % 2, (v : Int) / 16 % 2, (v : Int) / 8 % 2, (v : Int) / 4 % 2, (v : Int) / 2 % 2, (v : Int) % 2] = bits8 v := by
  simp [bits8]
theorem mfmF_snoc (b : Int) (xs : List Int) (y : Int) : mfmF b (xs ++ [y]) = mfmF b xs ++ [clk (lastOf b xs) y, y] := by
  rw [mfmF_append]
  rfl
theorem lastOf_snoc (b : Int) (xs : List Int) (y : Int) : lastOf b (xs ++ [y]) = y := by
  unfold lastOf
  simp
/-! ### the last cell -/
theorem getLastD_append {a b : List Int} {x : Int} (h : b ≠ []) : (a ++ b).getLastD x = b.getLastD x := by
  rw [List.getLastD_eq_getLast?, List.getLastD_eq_getLast?, List.getLast?_append, List.getLast?_eq_some_getLast h]
  rfl
theorem mfmF_last : ∀ (b : Int) (bs : List Int) (x : Int), bs ≠ [] → (mfmF b bs).getLastD x = bs.getLastD x
  | _, [], _, h => absurd rfl h
  | b, [c], x, _ => rfl
  | b, c :: d :: r, x, _ => by
    have ih := mfmF_last c (d :: r) x (by simp)
    show (clk b c :: c :: mfmF c (d :: r)).getLastD x = _
    have e : mfmF c (d :: r) ≠ [] := by
      show clk c d :: d :: mfmF d r ≠ []
      simp
    have e2 : (clk b c :: c :: mfmF c (d :: r)) = [clk b c, c] ++ mfmF c (d :: r) := rfl
    rw [e2, getLastD_append e, ih]
    simp [List.getLastD]
theorem bitsOf_append (a b : List Int) : bitsOf (a ++ b) = bitsOf a ++ bitsOf b := by
  unfold bitsOf
  rw [List.map_append, List.flatten_append]
theorem gapZ_last {n : Nat} {b x : Int} (h : 0 < n) : (gapZ n b).getLastD x = 0 := by
  obtain ⟨m, rfl⟩ : ∃ m, n = m + 1 := ⟨n - 1, by omega⟩
  have e : bitsOf (List.replicate (m + 1) 78) = bitsOf (List.replicate m 78) ++ bits8 78 := by
    rw [List.replicate_succ', bitsOf_append]
    rfl
  unfold gapZ
  rw [mfmF_last _ _ _ (by rw [e]; simp [bits8]), e, getLastD_append (by simp [bits8])]
  rfl
theorem secStep_last (cells : List Int) (s : Sec) (x : Int) : (secStep cells s).getLastD x = 0 := by
  unfold secStep
  simp only
  have g : ∀ b, gapZ 8 b ≠ [] := fun b e => by
    have := gapZ_len 8 b
    rw [e] at this
    cases this
  rw [getLastD_append (g _), gapZ_last (by decide)]
theorem trackZ_last (ss : List Sec) (x : Int) : (trackZ ss).getLastD x = 0 := by
  have key : ∀ (ss : List Sec) (c : List Int), c.getLastD x = 0 → (ss.foldl secStep c).getLastD x = 0 := by
    intro ss
    induction ss with
    | nil => intro c h; exact h
    | cons s r ih => intro c _; rw [List.foldl_cons]; exact ih _ (secStep_last _ _ _)
  exact key ss _ (gapZ_last (by decide))
theorem trackZ_ne (ss : List Sec) : trackZ ss ≠ [] := fun e => by
  have h := trackZ_last ss 1
  rw [e] at h
  cases h
end Dw
namespace Dw
open PySem PySem.Spec PyProof.Rows L2
def lputZ (cs ns : List Int) : List Int := cs ++ mfmF (cs.getLastD 0) (bitsOf ns)
theorem lput_len (cs ns : List Int) : (lputZ cs ns).length = cs.length + 16 * ns.length := by
  unfold lputZ
  rw [List.length_append, mfmF_len, bitsOf_len]
  omega
theorem lfield_eq {cs ns : List Int} {wr : Bool} (h : cs.getLastD 0 = 0) : lputZ (lputZ cs [0, 0, 0, 0, 0, 0] ++ marksZ) (ns ++ pairZ (chkZ ns wr)) = cs ++ fieldZ ns wr := by
  have e1 : (lputZ cs [0, 0, 0, 0, 0, 0] ++ marksZ).getLastD 0 = 1 := by
    rw [getLastD_append (by decide)]
    rfl
  unfold lputZ at e1 ⊢
  rw [e1, h]
  unfold fieldZ
  simp only [List.append_assoc]
  rfl
theorem lput_gap {cs : List Int} {n : Nat} : lputZ cs (List.replicate n 78) = cs ++ gapZ n (cs.getLastD 0) := rfl
theorem flip1 (n : Nat) : ((n ^^^ 1 : Nat) : Int) = (n : Int) + 1 - 2 * ((n : Int) / 1 % 2) := flip_bit n 0
theorem flip32 (n : Nat) : ((n ^^^ 32 : Nat) : Int) = (n : Int) + 32 - 64 * ((n : Int) / 32 % 2) := flip_bit n 5
theorem flip4096 (n : Nat) : ((n ^^^ 4096 : Nat) : Int) = (n : Int) + 4096 - 8192 * ((n : Int) / 4096 % 2) := flip_bit n 12
def spCrcS : Sp := fun vs H Q _ => ∃ (a : Addr) (ns : List Int), vs = [.ref a] ∧ H a = some (IL ns) ∧ Bytes ns ∧ ∀ H', Same H H' → Q (.int (crcZ ns)) H'
end Dw
namespace Dw
open PySem PySem.Spec PyProof.Rows L2
theorem SecAt.ups {C D : Addr} {H : Hp} {xs : List V} {o : HO} {x : V} {s : Sec} (hD : H D = some (.lst xs)) (h : SecAt C H x s) : SecAt C (upd H D o) x s := by
  obtain ⟨p, dx, ta, v, rfl, h1, h2, h3⟩ := h
  have n1 : p ≠ D := fun e => by subst e; rw [h1] at hD; cases hD
  have n2 : ta ≠ D := fun e => by subst e; rw [h2] at hD; cases hD
  refine ⟨p, dx, ta, v, rfl, by rw [upd_ne n1]; exact h1, by rw [upd_ne n2]; exact h2, ?_⟩
  rcases h3 with h3 | ⟨a, ns, e1, e2, e3⟩
  · exact .inl h3
  · have n3 : a ≠ D := fun e => by subst e; rw [e3] at hD; cases hD
    exact .inr ⟨a, ns, e1, e2, by rw [upd_ne n3]; exact e3⟩
theorem RawAt.ups {D : Addr} {H : Hp} {xs : List V} {o : HO} {x : V} {s : Sec} (hD : H D = some (.lst xs)) (hr : ∀ y ∈ xs, ∃ a, y = .ref a) (hn : ∀ ns, s.2.1 = some ns → ns ≠ []) (h : RawAt H x s) : RawAt (upd H D o) x s := by
  obtain ⟨p, ta, v, rfl, h1, h2, h3⟩ := h
  have n1 : p ≠ D := fun e => by subst e; rw [h1] at hD; cases hD
  have n2 : ta ≠ D := fun e => by subst e; rw [h2] at hD; cases hD
  refine ⟨p, ta, v, rfl, by rw [upd_ne n1]; exact h1, by rw [upd_ne n2]; exact h2, ?_⟩
  rcases h3 with h3 | ⟨a, ns, e1, e2, e3⟩
  · exact .inl h3
  · have n3 : a ≠ D := fun e => by
      subst e
      rw [e3] at hD
      unfold IL at hD
      injection hD with hD
      injection hD with hD
      cases ns with
      | nil => exact hn _ e1 rfl
      | cons n r =>
        rw [List.map_cons] at hD
        obtain ⟨b, hb⟩ := hr (V.int n) (by rw [← hD]; exact List.mem_cons_self)
        cases hb
    exact .inr ⟨a, ns, e1, e2, by rw [upd_ne n3]; exact e3⟩
theorem RawAt.refs {H : Hp} {xs : List V} {ss : List Sec} (h : AllAt (RawAt H) xs ss) : ∀ y ∈ xs, ∃ a, y = V.ref a := fun y hy => by
  obtain ⟨i, hi, rfl⟩ := List.getElem_of_mem hy
  obtain ⟨s, _, p, _, _, e, _⟩ := h.2 i _ (List.getElem?_eq_getElem hi)
  exact ⟨p, e⟩
theorem okSec_ne {s : Sec} (h : OkSec s) : ∀ ns, s.2.1 = some ns → ns ≠ [] := fun ns e e2 => by
  obtain ⟨a, b, c, d, _, _, _, h4⟩ := h
  have h5 := (h4 ns e).1
  rw [e2] at h5
  have : 0 < 2 ^ d.toNat := Nat.two_pow_pos _
  simp at h5
  omega
end Dw

/-! discs of blocks -/
namespace Dw
open PySem PySem.Spec PyProof.Rows L2
/-- a walk over a list or a tuple -/
def iSeqA (K : PySem.W.Frag) (tl : TE) : TI := fun σ H R => tl σ H fun x H1 => ∃ a xs, x = .ref a ∧ ((SqL K H1 a xs ∧ R (Itl K a) H1) ∨ (SqT K H1 a xs ∧ R (Itt K a) H1))
theorem pi_seqA {X : Cx} {tg l : Expr} {tl : TE} (hl : PE X l tl) : PI X tg l (iSeqA X.K tl) := by
  refine ⟨fun pins s σ H R I h => ?_⟩
  refine thn (hl.run pins s σ H _ I h) fun v s1 ⟨x, H1, I1, r1, q1⟩ => ?_
  obtain ⟨a, xs, e, q⟩ := q1
  subst e
  cases r1
  have fin : ∀ b ∈ [s1.heap.objs.size], b = s1.heap.objs.size := fun b hb => by simpa using hb
  rcases q with ⟨hq, q⟩ | ⟨hq, q⟩
  · obtain ⟨its, rv, p, hz⟩ := I1.list hq
    refine wpAny_pyIter_list p.isList ?_
    refine ⟨s1.heap.objs.size, [s1.heap.objs.size], _, _, H1, rfl, I1.kept (t' := s1.toks) fun b o e => Heap.get?_push_of_some _ e, turn_list a _, ⟨_, Heap.get?_push_size _ rfl, rfl, rfl⟩, fun b hb => ?_, q⟩
    have e := fin b hb
    subst e
    exact I1.fpOk (Nat.le_refl _) (I1.hok.fresh (Nat.le_refl _))
  · obtain ⟨its, rv, p, hz⟩ := I1.tuple hq
    refine wpAny_pyIter_tuple (show s1.heap.IsTuple a its.toArray from p) ?_
    refine ⟨s1.heap.objs.size, [s1.heap.objs.size], _, _, H1, rfl, I1.kept (t' := s1.toks) fun b o e => Heap.get?_push_of_some _ e, turn_tuple a _, ⟨_, Heap.get?_push_size _ rfl, rfl, rfl⟩, fun b hb => ?_, q⟩
    have e := fin b hb
    subst e
    exact I1.fpOk (Nat.le_refl _) (I1.hok.fresh (Nat.le_refl _))
/-- tuple(x) of a list or a tuple -/
def rTupleA (K : PySem.W.Frag) : List V → Hp → VK → Prop := fun xs H Q => ∃ p ys, xs = [.ref p] ∧ ((SqL K H p ys ∧ ∀ l, H l = none → Q (.ref l) (upd H l (.tup ys))) ∨ (SqT K H p ys ∧ Q (.ref p) H))
theorem call_tupleA {X : Cx} : CallR X (.type "tuple") (rTupleA X.K) := call_tuple_of
/-- an expression that is read in one of two ways, whichever the wish takes -/
def tOrE (t1 t2 : TE) : TE := fun σ H Q => t1 σ H Q ∨ t2 σ H Q
theorem pe_or {X : Cx} {e : Expr} {t1 t2 : TE} (h1 : PE X e t1) (h2 : PE X e t2) : PE X e (tOrE t1 t2) := ⟨fun pins s σ H Q I h => h.elim (fun h => h1.run pins s σ H Q I h) (fun h => h2.run pins s σ H Q I h)⟩
/-! ### blocks -/
abbrev Bk := Option (List Int)
/-- a block: None, a list or a tuple of ints -/
def BkAt (H : Hp) (x : V) (b : Bk) : Prop := (x = .non ∧ b = none) ∨ ∃ p ns, x = .ref p ∧ b = some ns ∧ (H p = some (IL ns) ∨ H p = some (.tup (ns.map V.int)))
/-- a block as a disc keeps it -/
def TkAt (H : Hp) (x : V) (b : Bk) : Prop := (x = .non ∧ b = none) ∨ ∃ p ns, x = .ref p ∧ b = some ns ∧ H p = some (.tup (ns.map V.int))
theorem BkAt.same {H H' : Hp} {x : V} {b : Bk} (s : Same H H') (h : BkAt H x b) : BkAt H' x b := by
  rcases h with h | ⟨p, ns, e1, e2, h⟩
  · exact .inl h
  · exact .inr ⟨p, ns, e1, e2, h.imp (s _ _) (s _ _)⟩
theorem TkAt.same {H H' : Hp} {x : V} {b : Bk} (s : Same H H') (h : TkAt H x b) : TkAt H' x b := by
  rcases h with h | ⟨p, ns, e1, e2, h⟩
  · exact .inl h
  · exact .inr ⟨p, ns, e1, e2, s _ _ h⟩
theorem TkAt.bk {H : Hp} {x : V} {b : Bk} (h : TkAt H x b) : BkAt H x b := by
  rcases h with h | ⟨p, ns, e1, e2, h⟩
  · exact .inl h
  · exact .inr ⟨p, ns, e1, e2, .inr h⟩
/-- a list or a tuple of ints -/
def LsAt (H : Hp) (x : V) (ns : List Int) : Prop := ∃ p, x = .ref p ∧ (H p = some (IL ns) ∨ H p = some (.tup (ns.map V.int)))
theorem LsAt.same {H H' : Hp} {x : V} {b : List Int} (s : Same H H') (h : LsAt H x b) : LsAt H' x b := by
  obtain ⟨p, e1, h⟩ := h
  exact ⟨p, e1, h.imp (s _ _) (s _ _)⟩
/-- the blocks that are there -/
def ths (bs : List Bk) : List (List Int) := bs.filterMap id
theorem ths_mem {bs : List Bk} {ns : List Int} : ns ∈ ths bs ↔ some ns ∈ bs := by
  unfold ths
  rw [List.mem_filterMap]
  exact ⟨fun ⟨b, h, e⟩ => by cases e; exact h, fun h => ⟨_, h, rfl⟩⟩
theorem ths_more {bs : List Bk} {i : Nat} {b : Bk} (h : bs[i]? = some b) : ths (bs.take (i + 1)) = match b with | none => ths (bs.take i) | some ns => ths (bs.take i) ++ [ns] := by
  unfold ths
  rw [take_more h, List.filterMap_append]
  cases b with
  | none => simp
  | some ns => simp
theorem all_g {ts : List (List Int)} {z : Nat} : (ts.map fun ns => decide (ns.length = z) && ns.all fun z => decide (0 ≤ z) && decide (z ≤ 255)).all id = true ↔ ∀ ns ∈ ts, ns.length = z ∧ Bytes ns := by
  rw [List.all_map, List.all_eq_true]
  constructor
  · intro h ns hn
    have h2 := h ns hn
    simp only [Function.comp, id, Bool.and_eq_true, decide_eq_true_eq, List.all_eq_true] at h2
    exact ⟨h2.1, fun x hx => by have := h2.2 x hx; omega⟩
  · intro h ns hn
    have h2 := h ns hn
    simp only [Function.comp, id, Bool.and_eq_true, decide_eq_true_eq, List.all_eq_true]
    exact ⟨h2.1, fun x hx => by have := h2.2 x hx; omega⟩
theorem BkAt.upx {H : Hp} {x : Addr} {C dx : Addr} {fs : List (Str × V)} {o : HO} {v : V} {b : Bk} (hx : H x = some (.ins C dx fs)) (h : BkAt H v b) : BkAt (upd H x o) v b := by
  rcases h with h | ⟨p, ns, e1, e2, h⟩
  · exact .inl h
  · have n : p ≠ x := fun q => by subst q; rw [hx] at h; rcases h with h | h <;> cases h
    exact .inr ⟨p, ns, e1, e2, by rw [upd_ne n]; exact h⟩
theorem BkAt.upn {H : Hp} {D : Addr} {o : HO} {v : V} {b : Bk} (n : v ≠ .ref D) (h : BkAt H v b) : BkAt (upd H D o) v b := by
  rcases h with h | ⟨p, ns, e1, e2, h⟩
  · exact .inl h
  · have n2 : p ≠ D := fun q => n (by rw [e1, q])
    exact .inr ⟨p, ns, e1, e2, by rw [upd_ne n2]; exact h⟩
theorem TkAt.ups {D : Addr} {H : Hp} {xs : List V} {o : HO} {x : V} {b : Bk} (hD : H D = some (.lst xs)) (h : TkAt H x b) : TkAt (upd H D o) x b := by
  rcases h with h | ⟨p, ns, e1, e2, h⟩
  · exact .inl h
  · have n : p ≠ D := fun q => by subst q; rw [h] at hD; cases hD
    exact .inr ⟨p, ns, e1, e2, by rw [upd_ne n]; exact h⟩
theorem TkAt.upx {H : Hp} {x : Addr} {C dx : Addr} {fs : List (Str × V)} {o : HO} {v : V} {b : Bk} (hx : H x = some (.ins C dx fs)) (h : TkAt H v b) : TkAt (upd H x o) v b := by
  rcases h with h | ⟨p, ns, e1, e2, h⟩
  · exact .inl h
  · have n : p ≠ x := fun q => by subst q; rw [hx] at h; cases h
    exact .inr ⟨p, ns, e1, e2, by rw [upd_ne n]; exact h⟩
/-- a disc that is right -/
def okSz (z : Nat) : Bool := z == 16 || z == 32 || z == 64 || z == 128 || z == 256 || z == 512
def OkDisc (z : Nat) (bs : List Bk) : Prop := bs.length ≤ 2000 ∧ okSz z = true ∧ (∃ ns, some ns ∈ bs) ∧ ∀ ns, some ns ∈ bs → ns.length = z ∧ Bytes ns
def DiscAt (C : Addr) (H : Hp) (r : Addr) (z : Nat) (bs : List Bk) : Prop := ∃ dx t xs, H r = some (.ins C dx [("size", .int z), ("_blocks", .ref t)]) ∧ H t = some (.tup xs) ∧ AllAt (TkAt H) xs bs
theorem DiscAt.same {C : Addr} {H H' : Hp} {r : Addr} {z : Nat} {bs : List Bk} (s : Same H H') (h : DiscAt C H r z bs) : DiscAt C H' r z bs := by
  obtain ⟨dx, t, xs, h1, h2, h3⟩ := h
  exact ⟨dx, t, xs, s _ _ h1, s _ _ h2, h3.imp fun _ _ h => h.same s⟩
/-! ### zip of two tuples -/
def YZT (xs ys : List V) : Nat → Hp → V → Hp → Prop := fun i H v H' => ∃ T x y, v = .ref T ∧ H T = none ∧ H' = upd H T (.tup [x, y]) ∧ xs[i]? = some x ∧ ys[i]? = some y
theorem walk_zipT {K : PySem.W.Frag} {a b : Addr} {xs ys : List V} {n : Nat} (hn : n = min xs.length ys.length) : Walk (RZ.ItzT K a b) n (fun H => SqT K H a xs ∧ SqT K H b ys) (YZT xs ys) := by
  subst hn
  refine ⟨fun i _ hi q => ?_, fun _ q => ⟨xs, ys, q.1, q.2, by omega⟩, fun i H v H' _ q y => ?_⟩
  · have h1 : i < xs.length := by omega
    have h2 : i < ys.length := by omega
    exact ⟨xs, ys, xs[i], ys[i], q.1, q.2, List.getElem?_eq_getElem h1, List.getElem?_eq_getElem h2⟩
  · obtain ⟨T, x, y, h1, h2, h5, h6, h7⟩ := y
    exact ⟨T, x, y, h1, h2, h5, h6 xs q.1, h7 ys q.2⟩
theorem atI_lastI {ns : List Int} (h : 0 < ns.length) : atI (ns.map V.int) (-1) = some (.int (ns.getD (ns.length - 1) 0)) := by
  have hk : ns.length - 1 < ns.length := by omega
  unfold atI ixN
  rw [List.length_map, if_neg (by decide), if_pos (by omega)]
  show (ns.map V.int)[(-1 + (ns.length : Int)).toNat]? = _
  rw [show (-1 + (ns.length : Int)).toNat = ns.length - 1 by omega, List.getElem?_map, List.getElem?_eq_getElem hk, List.getD_eq_getElem?_getD, List.getElem?_eq_getElem hk]
  rfl
def ascZ (ns : List Int) : Bool := (List.range (ns.length - 1)).all fun i => decide (ns.getD i 0 < ns.getD (i + 1) 0)
/-- a group of a plan for n blocks -/
def okGr (n : Nat) (ns : List Int) : Bool := decide (2 ≤ ns.length) && (ascZ ns && (decide (0 ≤ ns.getD 0 0) && decide (ns.getD (ns.length - 1) 0 < n)))
/-- a tuple of ints -/
def TupI (H : Hp) (v : V) (ns : List Int) : Prop := ∃ p, v = .ref p ∧ H p = some (.tup (ns.map V.int))
theorem TupI.same {H H' : Hp} {v : V} {ns : List Int} (s : Same H H') (h : TupI H v ns) : TupI H' v ns := by
  obtain ⟨p, e, h⟩ := h
  exact ⟨p, e, s _ _ h⟩
def okPlan (n : Nat) (gs : List (List Int)) : Bool := gs.all (okGr n)
def spDiscInit (C CE : Addr) : Sp := fun vs H Q E => ∃ (x dx a : Addr) (xs : List V) (bs : List Bk), vs = [.ref x, .ref a] ∧ H x = some (.ins C dx []) ∧ H a = some (.lst xs) ∧ AllAt (BkAt H) xs bs ∧ bs.length ≤ 10000 ∧ (∀ ns, some ns ∈ bs → ns.length ≤ 10000) ∧
  (∀ z, OkDisc z bs → ∀ H', SameB x H H' → (∃ t ys, H' x = some (.ins C dx [("size", .int z), ("_blocks", .ref t)]) ∧ H' t = some (.tup ys) ∧ AllAt (TkAt H') ys bs) → Q .non H') ∧ ((∀ z, ¬ OkDisc z bs) → ∀ H', Same H H' → E (.ref CE) none H')
def spDisc (C CE : Addr) : Sp := fun vs H Q E => ∃ (a : Addr) (xs : List V) (bs : List Bk), vs = [.ref a] ∧ H a = some (.lst xs) ∧ AllAt (BkAt H) xs bs ∧ bs.length ≤ 10000 ∧ (∀ ns, some ns ∈ bs → ns.length ≤ 10000) ∧
  (∀ z, OkDisc z bs → ∀ r H', Same H H' → H r = none → DiscAt C H' r z bs → Q (.ref r) H') ∧ ((∀ z, ¬ OkDisc z bs) → ∀ H', Same H H' → E (.ref CE) none H')
theorem conv_disc {C CE : Addr} : Conv C (spDiscInit C CE) (spDisc C CE) := by
  intro vs H Q E ⟨a, xs, bs, e, hA, hB, hl, hl2, h1, h2⟩ x dx nx nd ne
  subst e
  have s0 : Same H (upd H dx (.own x)) := same_new nd _
  have nx' : upd H dx (.own x) x = none := by rw [upd_ne ne.symm]; exact nx
  have s1 : Same (upd H dx (.own x)) (upd (upd H dx (.own x)) x (.ins C dx [])) := same_new nx' _
  have s := s0.trans s1
  refine ⟨x, dx, a, xs, bs, rfl, upd_same, s _ _ hA, hB.imp fun _ _ h => BkAt.same s h, hl, hl2, fun z hz H' sb h => ⟨rfl, h1 z hz x H' (fun b o hb => sb b o (ne_of_none hb nx) (s b o hb)) nx ?_⟩, fun hz H' hs => h2 hz _ (s.trans hs)⟩
  obtain ⟨t, ys, e1, e2, e3⟩ := h
  exact ⟨dx, t, ys, e1, e2, e3⟩
/-! ### discs in work -/
def WorkAt (C : Addr) (H : Hp) (r d m : Addr) (kvs : List (Key × V)) : Prop := ∃ dx, H r = some (.ins C dx [("disc", .ref d), ("_changed", .ref m)]) ∧ H m = some (.dK kvs)
/-- what a disc in work gives for each block: ws -/
def WorkBs (C CB : Addr) (H : Hp) (r d m : Addr) (kvs : List (Key × V)) (z : Nat) (ws : List Bk) : Prop := ∃ bs : List Bk, WorkAt C H r d m kvs ∧ DiscAt CB H d z bs ∧ ws.length = bs.length ∧
  ∀ i < bs.length, (∃ a ns, valV kvs (.inl (i : Int)) = some (.ref a) ∧ H a = some (IL ns) ∧ ws[i]? = some (some ns)) ∨ (valV kvs (.inl (i : Int)) = none ∧ ws[i]? = bs[i]?)
theorem WorkBs.same {C CB : Addr} {H H' : Hp} {r d m : Addr} {kvs : List (Key × V)} {z : Nat} {ws : List Bk} (s : Same H H') (h : WorkBs C CB H r d m kvs z ws) : WorkBs C CB H' r d m kvs z ws := by
  obtain ⟨bs, ⟨dx, h1, h2⟩, h3, h4, h5⟩ := h
  refine ⟨bs, ⟨dx, s _ _ h1, s _ _ h2⟩, h3.same s, h4, fun i hi => ?_⟩
  rcases h5 i hi with ⟨a, ns, e1, e2, e3⟩ | h
  · exact .inl ⟨a, ns, e1, s _ _ e2, e3⟩
  · exact .inr h
def spWorkBlock (C CB : Addr) : Sp := fun vs H Q _ => ∃ (x d m : Addr) (kvs : List (Key × V)) (z : Nat) (ws : List Bk) (i : Nat) (b : Bk), vs = [.ref x, .int i] ∧ WorkBs C CB H x d m kvs z ws ∧ ws[i]? = some b ∧
  (b = none → Q .non H) ∧ (∀ ns, b = some ns → ∀ D, H D = none → Q (.ref D) (upd H D (IL ns)))
theorem DiscAt.sameD {C : Addr} {H H' : Hp} {r m : Addr} {z : Nat} {bs : List Bk} {kvs : List (Key × V)} (hm : H m = some (.dK kvs)) (s : SameB m H H') (h : DiscAt C H r z bs) : DiscAt C H' r z bs := by
  obtain ⟨dx, t, xs, h1, h2, h3⟩ := h
  have n1 : r ≠ m := fun e => by subst e; rw [h1] at hm; cases hm
  have n2 : t ≠ m := fun e => by subst e; rw [h2] at hm; cases hm
  refine ⟨dx, t, xs, s _ _ n1 h1, s _ _ n2 h2, h3.imp fun v b h => ?_⟩
  rcases h with h | ⟨p, ns, e1, e2, h⟩
  · exact .inl h
  · have n3 : p ≠ m := fun e => by subst e; rw [h] at hm; cases hm
    exact .inr ⟨p, ns, e1, e2, s _ _ n3 h⟩
theorem WorkBs.new {C CB : Addr} {H : Hp} {r d m dx : Addr} {z : Nat} {bs : List Bk} (h1 : H r = some (.ins C dx [("disc", .ref d), ("_changed", .ref m)])) (h2 : H m = some (.dK [])) (h3 : DiscAt CB H d z bs) : WorkBs C CB H r d m [] z bs :=
  ⟨bs, ⟨dx, h1, h2⟩, h3, rfl, fun i hi => .inr ⟨rfl, rfl⟩⟩
theorem WorkBs.put {C CB : Addr} {H H' : Hp} {r d m l : Addr} {kvs : List (Key × V)} {z : Nat} {ws : List Bk} {i : Nat} {ns : List Int} (h : WorkBs C CB H r d m kvs z ws) (hi : i < ws.length) (hl : H l = none) (sb : SameB m H H') (e1 : H' l = some (IL ns))
    (e2 : H' m = some (.dK (putK kvs (.inl (i : Int)) (.ref l)))) : WorkBs C CB H' r d m (putK kvs (.inl (i : Int)) (.ref l)) z (ws.set i (some ns)) := by
  obtain ⟨bs, ⟨dx, h1, h2⟩, h3, h4, h5⟩ := h
  have n1 : r ≠ m := fun e => by subst e; rw [h1] at h2; cases h2
  refine ⟨bs, ⟨dx, sb _ _ n1 h1, e2⟩, h3.sameD h2 sb, by rw [List.length_set, h4], fun j hj => ?_⟩
  by_cases c : i = j
  · subst c
    refine .inl ⟨l, ns, by rw [valV_put, if_pos rfl], e1, ?_⟩
    rw [List.getElem?_set_self hi]
  · have c2 : ¬ (Sum.inl (j : Int) : Key) = Sum.inl (i : Int) := fun e => c (by have := Sum.inl.inj e; omega)
    rw [valV_put, if_neg c2, List.getElem?_set_ne c]
    rcases h5 j hj with ⟨a, ms, q1, q2, q3⟩ | q
    · have n2 : a ≠ m := fun e => by subst e; rw [q2] at h2; cases h2
      exact .inl ⟨a, ms, q1, sb _ _ n2 q2, q3⟩
    · exact .inr q
/-- the places of the blocks that are missing -/
def missZ (bs : List Bk) (n : Nat) : List Int := ((List.range n).filter fun i => decide (bs[i]? = some none)).map fun i : Nat => (i : Int)
theorem missZ_more (bs : List Bk) (n : Nat) : missZ bs (n + 1) = if bs[n]? = some none then missZ bs n ++ [(n : Int)] else missZ bs n := by
  unfold missZ
  rw [List.range_succ, List.filter_append, List.map_append]
  split
  · rename_i e
    simp [e]
  · rename_i e
    simp [e]
theorem missZ_len (bs : List Bk) (n : Nat) : (missZ bs n).length ≤ n := by
  unfold missZ
  rw [List.length_map]
  have := List.length_filter_le (fun i => decide (bs[i]? = some none)) (List.range n)
  rw [List.length_range] at this
  exact this
theorem okGr_of {n : Nat} {ns : List Int} (hp : ns.Pairwise (· < ·)) (hb : ∀ v ∈ ns, 0 ≤ v ∧ v < n) (h2 : 2 ≤ ns.length) : okGr n ns = true := by
  have g : ∀ i (h : i < ns.length), ns.getD i 0 = ns[i] := fun i h => by rw [List.getD_eq_getElem?_getD, List.getElem?_eq_getElem h]; rfl
  unfold okGr
  rw [decide_eq_true h2, Bool.true_and]
  have ha : ascZ ns = true := by
    unfold ascZ
    rw [List.all_eq_true]
    intro i hi
    have hi := List.mem_range.mp hi
    rw [decide_eq_true_eq, g i (by omega), g (i + 1) (by omega)]
    exact List.pairwise_iff_getElem.mp hp i (i + 1) (by omega) (by omega) (by omega)
  rw [ha, Bool.true_and, g 0 (by omega), g (ns.length - 1) (by omega), decide_eq_true (hb _ (List.getElem_mem _)).1, Bool.true_and, decide_eq_true (hb _ (List.getElem_mem _)).2]
theorem TupI.ups {D : Addr} {H : Hp} {xs : List V} {o : HO} {v : V} {ns : List Int} (hD : H D = some (.lst xs)) (h : TupI H v ns) : TupI (upd H D o) v ns := by
  obtain ⟨p, e, h⟩ := h
  have n : p ≠ D := fun q => by subst q; rw [h] at hD; cases hD
  exact ⟨p, e, by rw [upd_ne n]; exact h⟩
theorem TupI.pool {H H' : Hp} {p q : Addr} {v : V} {ns : List Int} (hP : Pool H p q) (s : SameB p H H') (h : TupI H v ns) : TupI H' v ns := by
  obtain ⟨t, e, h⟩ := h
  have n : t ≠ p := fun z => by
    subst z
    obtain ⟨a, b, c, d, ns, h1, _⟩ := hP
    rw [h] at h1
    cases h1
  exact ⟨t, e, s _ _ n h⟩
theorem okPlan_app {n : Nat} {gs : List (List Int)} {g : List Int} (h : okPlan n gs = true) (hg : okGr n g = true) : okPlan n (gs ++ [g]) = true := by
  unfold okPlan at *
  rw [List.all_append, h, Bool.true_and]
  simp [hg]
end Dw

/-! enumerate(t) of a tuple -/
namespace Dw
open PySem PySem.Spec PyProof.Rows L2
open Sem (wp)
theorem meets_enumB {v : Value} {o : Obj} {G : Heap → Prop} (B : Begins v o G) :
    Meets (Builtin.«enumerate.__new__» ⟨[.type "enumerate", v], []⟩) (fun _ R s => G s.heap ∧
      R (.ok (.ret (.ref (s.heap.push o).objs.size))) { s with heap := (s.heap.push o).push { cls := .type "enumerate", data := .fields #[.none, .bool false, .ref s.heap.objs.size, rawInt 0, .none, .none] } }) :=
  .of_wp fun prog w A R s h => by
    have hsub := sub_enumerate
    obtain ⟨hp, gens, drawn, toks, outs⟩ := s
    obtain ⟨hG, hR⟩ := h
    have itr : ∀ {A' : Around} {E : Value → Shared → Prop} {Q : Value → Shared → Prop}, Q (.ref hp.objs.size) ⟨hp.push o, gens, drawn, toks, outs⟩ → wpAny (model prog w) A' (pyIter v) Q E ⟨hp, gens, drawn, toks, outs⟩ :=
      fun q => B.iter prog w _ _ ⟨hp, gens, drawn, toks, outs⟩ _ hG q
    wp_walk using itr
    refine wpAny_stack_any fun fr => wpAny_pure ?_
    split
    · rename_i cc _ _ _ _ _
      cases (cc == Value.type "enumerate")
      · (wp_walk using itr); exact ⟨_, rfl, hR⟩
      · (wp_walk using itr); exact ⟨_, rfl, hR⟩
    · (wp_walk using itr); exact ⟨_, rfl, hR⟩
section
variable {prog : Program} {w : World} {A : Around} {E : Value → Shared → Prop} {s : Shared}
theorem call_enumB {v : Value} {o : Obj} {G : Heap → Prop} {Q : Value → Shared → Prop} (B : Begins v o G) (hG : G s.heap)
    (h : ∀ h2, IsEnum h2 (s.heap.objs.size + 1) s.heap.objs.size 0 .none → h2.get? s.heap.objs.size = some o → (∀ b o2, s.heap.get? b = some o2 → h2.get? b = some o2) → Q (.ref (s.heap.objs.size + 1)) { s with heap := h2 }) :
    wpAny (model prog w) A (call (.type "enumerate") [v]) Q E s := by
  refine callType_new F.called_enumerate (by decide) (F.typeCall_enumerate_1 _) (F.newCall_enumerate_1 _) (fun ob => F.args_object_init_2 ob _) F.entry_enumerate_new (meets_enumB B) ⟨hG, ?_⟩
  have sz : (s.heap.push o).objs.size = s.heap.objs.size + 1 := Heap.size_push ..
  show _ ∧ _
  have g1 := Heap.get?_push_size (s.heap.push o) (o := { cls := .type "enumerate", data := .fields #[.none, .bool false, .ref s.heap.objs.size, rawInt 0, .none, .none] }) rfl
  rw [sz] at g1 ⊢
  exact ⟨⟨_, g1, rfl⟩, h _ g1 (Heap.get?_push_of_some _ (Heap.get?_push_size _ B.free)) fun b o2 x => Heap.get?_push_of_some _ (Heap.get?_push_of_some _ x)⟩
end
/-- the tuple at a as it stands at each turn, each item in a new pair -/
def Itet (K : PySem.W.Frag) (a : Addr) : It :=
  ⟨fun i H => ∃ (xs : List V) (x : V), SqT K H a xs ∧ xs[i]? = some x, fun i H v H' => ∃ T x, v = .ref T ∧ H T = none ∧ H' = upd H T (.tup [.int (i : Nat), x]) ∧ ∀ xs, SqT K H a xs → xs[i]? = some x, fun i H => ∃ xs : List V, SqT K H a xs ∧ xs.length ≤ i⟩
theorem turn_enumT {P : Program} {w : World} {K : PySem.W.Frag} {elts : List Expr} {kk : Nat} {tpos : Pos} (a e it : Addr) :
    Turn P w K (.Tuple elts kk tpos) (Itet K a) [e, it] e (fun i h => (∃ old, IsEnum h e it ((i : Nat) : Int) old) ∧ h.IsTupleIter it a i ∧ e ≠ it) where
  mem := List.mem_cons_self
  obj := fun i h st b hb => by
    obtain ⟨⟨old, he⟩, ⟨o, ho, hc, hd⟩, _⟩ := st
    rcases List.mem_cons.mp hb with z | z
    · subst z; exact ⟨_, he, fun v q => nomatch q⟩
    · rw [List.mem_singleton.mp z]; exact ⟨o, ho, fun v q => by rw [hd] at q; cases q⟩
  keep := fun i h h' st k => let ⟨⟨old, he⟩, hi, hne⟩ := st; ⟨⟨old, k e List.mem_cons_self _ he⟩, hi.at fun o q => k it (List.mem_cons_of_mem _ List.mem_cons_self) o q, hne⟩
  item := by
    intro X hP hw hK hc i pins s σ H E I hf st hg
    subst hP hw hK
    obtain ⟨⟨old, he⟩, hit, hne⟩ := st
    obtain ⟨xs, x, hq, hx⟩ := hg
    obtain ⟨its, rv, p, hz⟩ := I.tuple hq
    obtain ⟨u, hu, ru⟩ := rv.get hx
    have hel : e < s.heap.objs.size := Heap.lt_size he
    have hil : it < s.heap.objs.size := by obtain ⟨_, q, _⟩ := hit; exact Heap.lt_size q
    have pt : s.heap.IsTuple a its.toArray := p
    have nea : e ≠ a := fun z => by
      subst z
      obtain ⟨o, ho, hc2, _⟩ := pt
      rw [he] at ho
      cases ho
      injection hc2 with hc2
      exact absurd hc2 (by decide)
    have nia : a ≠ it := fun z => by
      subst z
      obtain ⟨o, ho, hc2, _⟩ := pt
      obtain ⟨o3, ho3, hc3, _⟩ := hit
      rw [ho] at ho3
      cases ho3
      rw [hc2] at hc3
      injection hc3 with hc3
      exact absurd hc3 (by decide)
    have hlt : i < its.toArray.size := by
      have := (List.getElem?_eq_some_iff.mp hu).1
      simpa using this
    have D : Draws X.prog X.w X.A.in1 it [it, a] its.toArray.size (fun j v => its.toArray[j]? = some v) (fun j h => h.IsTupleIter it a j ∧ h.IsTuple a its.toArray) := Draws.tuple (A := X.A.in1) (I.ok.hd hc) it a nia its.toArray
    refine wpAny_pyNext_enum_itemD D he ⟨hit, pt⟩ hlt hne (by simp only [List.mem_cons, List.not_mem_nil, or_false, not_or]; exact ⟨hne, nea⟩) fun x2 h' tk hP ho hs' hT hsz hk => ?_
    have ex2 : x2 = u := by
      have h1 : its.toArray[i]? = some x2 := hP
      have h2 : its.toArray[i]? = some u := by simpa using hu
      rw [h1] at h2
      exact Option.some.inj h2
    subst ex2
    refine ⟨_, rfl, wpAny_letOwnedTupleGo_enum (s := { s with heap := h', toks := tk + 1 }) ho fun h2 he2 sb => ?_⟩
    have hT2 : h2.get? s.heap.objs.size = some { cls := .type "tuple", data := .seq #[.int i tk, x2] } := (sb.2 _ (Nat.ne_of_gt hel)).trans hT
    have new : ObjOk X.prog X.w (upd H s.heap.objs.size (.tup [.int (i : Nat), x])) h2 s.heap.objs.size (.tup [.int (i : Nat), x]) :=
      ⟨by show 2 ≤ sizeLine; decide, [.int i tk, x2], .cons ⟨_, rfl⟩ (.cons ru .nil), ⟨_, hT2, rfl, _, rfl⟩⟩
    have I1 : Inv X pins σ (upd H s.heap.objs.size (.tup [.int (i : Nat), x])) { s with heap := h2, toks := tk + 1 } :=
      I.turnedNew (ch := [e, it]) (fun b ob hb q => by
        have n1 : b ≠ e := fun z => hb (by rw [z]; exact List.mem_cons_self)
        have n2 : b ≠ it := fun z => hb (by rw [z]; exact List.mem_cons_of_mem _ List.mem_cons_self)
        exact (sb.2 b n1).trans (hk b ob n1 n2 q)) hf (Nat.le_refl _) new
    refine ⟨.ref s.heap.objs.size, _, I1, rfl, ⟨_, x, rfl, I.hok.fresh (Nat.le_refl _), rfl, fun ys hy => by rw [I.tuple_inj hy hq]; exact hx⟩, ⟨⟨x2, ?_⟩, hs'.1.at fun o q => (sb.2 it (Ne.symm hne)).trans q, hne⟩, fun b hb => ?_⟩
    · rw [Int.natCast_succ]; exact he2
    · have hb2 : b < s.heap.objs.size := by
        rcases List.mem_cons.mp hb with z | z
        · rw [z]; exact hel
        · rw [List.mem_singleton.mp z]; exact hil
      rw [upd_ne (Nat.ne_of_lt hb2)]
      exact (hf b hb).1
  done := by
    intro X hP hw hK hc i pins s σ H E I hf st hg
    subst hP hw hK
    obtain ⟨⟨old, he⟩, hit, hne⟩ := st
    obtain ⟨xs, hq, hx⟩ := hg
    obtain ⟨its, rv, p, hz⟩ := I.tuple hq
    have pt : s.heap.IsTuple a its.toArray := p
    obtain ⟨f0, f1, f2, f3, f4, f5⟩ := hf it (List.mem_cons_of_mem _ List.mem_cons_self)
    have hl := rv.length
    have D : Draws X.prog X.w X.A.in1 it [it, a] i (fun _ _ => True) (fun j h => j = i ∧ h.IsTupleIter it a i ∧ h.IsTuple a its.toArray) :=
      { live := fun _ _ st => let ⟨o, ho, _⟩ := st.2.1; ⟨o, ho⟩
        frame := fun _ _ _ st k => ⟨st.1, st.2.1.at fun o e => k it List.mem_cons_self o e, st.2.2.at fun o e => k a (List.mem_cons_of_mem _ List.mem_cons_self) o e⟩
        item := fun j s Q E hj st _ => absurd st.1 (Nat.ne_of_lt hj)
        done := fun s Q E st hE => wpAny_nextOf_tuple_end (A := X.A.in1) (I.ok.hd hc) st.2.1 st.2.2 (by simp; omega) hE }
    exact wpAny_pyNext_enum_endD D he ⟨rfl, hit, pt⟩ fun h2 eb => ⟨rfl, I.turned (t' := s.toks) (fun b o hb q => eb b o hb q) f0 f1 f3 f4 f5⟩
  self := fun A i s Q E st h => let ⟨⟨_, he⟩, _⟩ := st; wpAny_pyIter_enum he h
def iEnumT (K : PySem.W.Frag) (ta : TA) : TI := fun σ H R => ta σ H fun vs H1 => ∃ a xs, vs = [.ref a] ∧ SqT K H1 a xs ∧ R (Itet K a) H1
theorem pi_enumT {X : Cx} {e : Expr} {ta : TA} {p pos tpos : Pos} {elts : List Expr} {kk : Nat} (hg : Gl X "enumerate") (hm : X.mg "enumerate" = none) (ha : PA X [e] ta) (hs : starEach [e] X.env = [(false, eval e X.env)] := by rfl) :
    PI X (.Tuple elts kk tpos) (.Call (.Name "enumerate" p) [e] [] pos) (iEnumT X.K ta) := by
  refine ⟨fun pins s σ H R I h => Call_ (ld_blt I hg hm boot_enumerate (PyProof.Rows.callWith_type1 (thn (ha.run pos pins s σ H _ I h) fun us s1 ⟨vs, H1, I1, r1, q1⟩ => ?_) hs rfl))⟩
  obtain ⟨a, xs, ex, hq, q⟩ := q1
  subst ex
  cases r1 with
  | cons r rr =>
    cases rr
    cases r
    obtain ⟨its, rv, p', hz⟩ := I1.tuple hq
    have pt : s1.heap.IsTuple a its.toArray := p'
    refine call_enumB (begins_tuple a its.toArray) pt fun h2 he hit hk => wpAny_pyIter_enum he ?_
    have I2 : Inv X pins σ H1 { s1 with heap := h2 } := I1.kept (t' := s1.toks) hk
    refine ⟨_, [s1.heap.objs.size + 1, s1.heap.objs.size], _, _, H1, rfl, I2, turn_enumT a (s1.heap.objs.size + 1) s1.heap.objs.size, ⟨⟨.none, he⟩, ⟨_, hit, rfl, rfl⟩, Nat.succ_ne_self _⟩, fun b hb => ?_, q⟩
    have hle : s1.heap.objs.size ≤ b := by
      rcases List.mem_cons.mp hb with z | z
      · rw [z]; exact Nat.le_succ _
      · rw [List.mem_singleton.mp z]; exact Nat.le_refl _
    exact I1.fpOk hle (I1.hok.fresh hle)
theorem walk_enumT {K : PySem.W.Frag} {a : Addr} {xs : List V} : Walk (Itet K a) xs.length (fun H => SqT K H a xs) (YPair (fun i => some (.int (i : Nat))) (fun i => xs[i]?)) := by
  refine ⟨fun i _ hi q => ⟨xs, xs[i], q, by simp [hi]⟩, fun _ q => ⟨xs, q, Nat.le_refl _⟩, fun i H v H' _ q y => ?_⟩
  obtain ⟨t, x, h1, h2, h3, h4⟩ := y
  exact ⟨t, .int (i : Nat), x, h1, h2, h3, rfl, h4 xs q⟩
end Dw

/-! enumerate(zip(xs, ys)) -/
namespace Dw
open PySem PySem.Spec PyProof.Rows L2
open Sem (wp)
/-- a zip, whatever it has given out -/
abbrev ZipO (h : Heap) (z TI TO : Addr) (f0 : Value) (f : Bool) : Prop :=
  h.get? z = some { cls := .type "zip", dict := none, data := .fields #[f0, .bool f, .bool false, .ref TI, .ref TO], slots := #[] }
def Out (f0 : Value) : Prop := f0 = .none ∨ ∃ T : Nat, f0 = rawInt T
section
variable {prog : Program} {w : World} {A : Around} {E : Value → Shared → Prop} {s : Shared}
theorem alive_any {a : Addr} {Q : Option Obj → Shared → Prop} (h : Q (s.heap.get? a) s) : wpAny (model prog w) A (loadIfAlive a) Q E s := fun _ _ _ => h
theorem free_zip {z TI TO : Addr} {f0 : Value} {f : Bool} {Q : Bool → Shared → Prop} (hz : ZipO s.heap z TI TO f0 f) (ho : Out f0) (ht : Q true s)
    (hf : ∀ g1, ZipO g1 z TI TO f0 true → Heap.SameBut z s.heap g1 → Q false { s with heap := g1 }) : wpAny (model prog w) A (Builtin.SmallTypes.ownedTupleIsFree (.ref z)) Q E s := by
  unfold Builtin.SmallTypes.ownedTupleIsFree
  rcases ho with rfl | ⟨T, rfl⟩
  · exact wpAny_bind (wpAny_field hz rfl (x := .none) rfl (wpAny_pure ht))
  · refine wpAny_bind (wpAny_field hz rfl (x := rawInt T) rfl ?_)
    show wpAny _ _ (loadIfAlive (Int.toNat (T : Int)) >>= _) _ _ _
    rw [Int.toNat_natCast]
    refine wpAny_bind (alive_any ?_)
    cases s.heap.get? T with
    | none =>
      simp only [Option.isNone_none, if_true]
      exact wpAny_pure ht
    | some ob =>
      simp only [Option.isNone_some, Bool.false_eq_true, if_false]
      refine wpAny_bind (wpAny_field hz rfl (x := .bool f) rfl ?_)
      cases f with
      | true =>
        rw [if_neg (show ¬ (Value.bool true != Value.bool true) = true from Bool.false_ne_true)]
        exact wpAny_pure (hf s.heap hz (Heap.SameBut.refl _ _))
      | false =>
        rw [if_pos (show (Value.bool false != Value.bool true) = true from rfl)]
        exact wpAny_bind (wpAny_setField_rec hz (by simp) fun g1 hz1 hs1 => wpAny_pure (hf g1 hz1 hs1))
theorem zip_any {z TI TO i1 i2 l1 l2 : Addr} {k : Nat} {xs ys : Array Value} {x y a b f0 : Value} {f : Bool} {Q : Value → Shared → Prop} (D : ZipApart z TI TO i1 i2 l1 l2)
    (hz : ZipO s.heap z TI TO f0 f) (ho : Out f0) (hTI : IsPair s.heap TI (.ref i1) (.ref i2)) (hTO : IsPair s.heap TO a b)
    (p1 : s.heap.IsListIter i1 l1 k) (p2 : s.heap.IsListIter i2 l2 k) (q1 : s.heap.IsList l1 xs) (q2 : s.heap.IsList l2 ys) (hx : xs[k]? = some x) (hy : ys[k]? = some y)
    (hQ : ∀ h2 g0 g a' b', Out g0 → ZipO h2 z TI TO g0 g → IsPair h2 TO a' b' → h2.IsListIter i1 l1 (k + 1) → h2.IsListIter i2 l2 (k + 1) → IsPair h2 s.heap.objs.size x y → h2.objs.size = s.heap.objs.size + 1 →
      (∀ c o, c ≠ z → c ≠ TO → c ≠ i1 → c ≠ i2 → s.heap.get? c = some o → h2.get? c = some o) → Q (.ref s.heap.objs.size) { s with heap := h2 }) :
    wpAny (model prog w) A (Builtin.«zip.__next__» ⟨[.ref z], []⟩) (fun fin s2 => ∃ v, fin = .done (.ret v) ∧ Q v s2) E s := by
  show wpAny _ _ (field (.ref z) 2 >>= _) _ _ _
  refine wpAny_bind (wpAny_field hz rfl (x := .bool false) rfl ?_)
  show wpAny _ _ (field (.ref z) 3 >>= _) _ _ _
  refine wpAny_bind (wpAny_field hz rfl (x := .ref TI) rfl (wpAny_bind (wpAny_seqItems hTI rfl ?_)))
  show wpAny _ _ (Builtin.SmallTypes.ownedTupleIsFree (.ref z) >>= _) _ _ _
  refine wpAny_bind (free_zip hz ho ?_ fun g1 hz1 hs1 => ?_)
  · simp only [if_true]
    refine wpAny_bind (wpAny_rule (wpAny_bind (wpAny_field hz rfl (x := .ref TO) rfl (wpAny_bind (wpAny_setField_rec hz (by simp) fun g1 hz1 hs1 => ?_)))))
    replace hz1 : ZipO g1 z TI TO .ellipsis f := hz1
    refine wpAny_bind ?_
    simp only [List.zipIdx_cons, List.zipIdx_nil, List.forIn_cons, List.forIn_nil]
    refine wpAny_bind (wpAny_bind (wpAny_onRaise ?_))
    show wpAny _ _ (Builtin.SmallTypes.nextOf (.ref i1) >>= _) _ _ _
    refine wpAny_bind (wpAny_nextOf_list_item (p1.extBut hs1.extBut D.i1z) (q1.extBut hs1.extBut D.l1z) hx fun g2 p12 hs2 => wpAny_pure ?_)
    have t2 : IsPair g2 TO a b := hs2.extBut _ _ D.TOi1 (hs1.extBut _ _ D.TOz hTO)
    refine wpAny_bind (wpAny_seqItems t2 rfl (wpAny_bind (wpAny_updateSeq_pair t2 fun g3 t3 hs3 => ?_)))
    replace t3 : IsPair g3 TO x b := t3
    refine wpAny_bind (wpAny_letGo (wpAny_pure (wpAny_bind (wpAny_bind (wpAny_onRaise ?_)))))
    show wpAny _ _ (Builtin.SmallTypes.nextOf (.ref i2) >>= _) _ _ _
    have p22 := ((p2.extBut hs1.extBut D.i2z).extBut hs2.extBut D.i12.symm).extBut hs3.extBut D.TOi2.symm
    have q22 := ((q2.extBut hs1.extBut D.l2z).extBut hs2.extBut D.l2i1).extBut hs3.extBut D.l2TO
    refine wpAny_bind (wpAny_nextOf_list_item p22 q22 hy fun g4 p24 hs4 => wpAny_pure ?_)
    have t4 : IsPair g4 TO x b := hs4.extBut _ _ D.TOi2 t3
    refine wpAny_bind (wpAny_seqItems t4 rfl (wpAny_bind (wpAny_updateSeq_pair t4 fun g5 t5 hs5 => ?_)))
    replace t5 : IsPair g5 TO x y := t5
    refine wpAny_bind (wpAny_letGo (wpAny_pure (wpAny_pure (wpAny_bind (wpAny_seqItems t5 rfl (wpAny_bind (wpAny_newTuple ?_)))))))
    have sz5 : g5.objs.size = s.heap.objs.size := by rw [hs5.1, hs4.1, hs3.1, hs2.1, hs1.1]
    have z5 : ZipO g5 z TI TO .ellipsis f := hs5.extBut _ _ D.TOz.symm (hs4.extBut _ _ D.i2z.symm (hs3.extBut _ _ D.TOz.symm (hs2.extBut _ _ D.i1z.symm hz1)))
    have keep5 : ∀ c o, c ≠ z → c ≠ TO → c ≠ i1 → c ≠ i2 → s.heap.get? c = some o → g5.get? c = some o := fun c o c1 c2 c3 c4 e =>
      hs5.extBut _ _ c2 (hs4.extBut _ _ c4 (hs3.extBut _ _ c2 (hs2.extBut _ _ c3 (hs1.extBut _ _ c1 e))))
    have p15 : g5.IsListIter i1 l1 (k + 1) := ((p12.extBut hs3.extBut D.TOi1.symm).extBut hs4.extBut D.i12).extBut hs5.extBut D.TOi1.symm
    have p25 : g5.IsListIter i2 l2 (k + 1) := p24.extBut hs5.extBut D.TOi2.symm
    have zlt : z < g5.objs.size := Heap.lt_size z5
    show wpAny _ _ (Builtin.SmallTypes.ownedTupleHandOut (.ref z) (.ref g5.objs.size) >>= _) _ _ _
    refine wpAny_bind ?_
    unfold Builtin.SmallTypes.ownedTupleHandOut
    have z6 : ZipO (g5.push { cls := .type "tuple", data := .seq #[x, y] }) z TI TO .ellipsis f := Heap.get?_push_of_some _ z5
    refine wpAny_bind (wpAny_setField_rec z6 (by simp) fun g7 z7 hs7 => ?_)
    replace z7 : ZipO g7 z TI TO (rawInt g5.objs.size) f := z7
    refine wpAny_setField_rec z7 (by simp) fun g8 z8 hs8 => ?_
    replace z8 : ZipO g8 z TI TO (rawInt g5.objs.size) false := z8
    have up : ∀ c o, c ≠ z → g5.get? c = some o → g8.get? c = some o := fun c o c1 e => hs8.extBut _ _ c1 (hs7.extBut _ _ c1 (Heap.get?_push_of_some _ e))
    have t8 : IsPair g8 g5.objs.size x y := hs8.extBut _ _ (Nat.ne_of_gt zlt) (hs7.extBut _ _ (Nat.ne_of_gt zlt) (Heap.get?_push_size _ rfl))
    have sz8 : g8.objs.size = g5.objs.size + 1 := by rw [hs8.1, hs7.1, Heap.size_push]
    rw [sz5] at z8 t8 sz8
    refine wpAny_pure ⟨_, rfl, ?_⟩
    show Q (.ref g5.objs.size) _
    rw [sz5]
    exact hQ g8 _ _ _ _ (.inr ⟨_, rfl⟩) z8 (up _ _ D.TOz t5) (p15.at fun o e => up _ o D.i1z e) (p25.at fun o e => up _ o D.i2z e) t8 sz8 fun c o c1 c2 c3 c4 e => up c o c1 (keep5 c o c1 c2 c3 c4 e)
  · simp only [Bool.false_eq_true, if_false]
    refine wpAny_bind ?_
    rw [← Array.forIn_toList]
    simp only [List.forIn_cons, List.forIn_nil]
    refine wpAny_bind (wpAny_bind (wpAny_holding ?_))
    show wpAny _ _ (Builtin.SmallTypes.nextOf (.ref i1) >>= _) _ _ _
    refine wpAny_bind (wpAny_nextOf_list_item (s := { s with heap := g1 }) (p1.extBut hs1.extBut D.i1z) (q1.extBut hs1.extBut D.l1z) hx fun g2 p12 hs2 => wpAny_pure (wpAny_pure ?_))
    refine wpAny_bind (wpAny_bind (wpAny_holding ?_))
    show wpAny _ _ (Builtin.SmallTypes.nextOf (.ref i2) >>= _) _ _ _
    have p22 := (p2.extBut hs1.extBut D.i2z).extBut hs2.extBut D.i12.symm
    have q22 := (q2.extBut hs1.extBut D.l2z).extBut hs2.extBut D.l2i1
    refine wpAny_bind (wpAny_nextOf_list_item (s := { s with heap := g2 }) p22 q22 hy fun g3 p23 hs3 => wpAny_pure (wpAny_pure (wpAny_pure ?_)))
    show wpAny _ _ (newTuple [x, y] >>= _) _ _ _
    refine wpAny_bind (wpAny_newTuple ?_)
    have sz3 : g3.objs.size = s.heap.objs.size := by rw [hs3.1, hs2.1, hs1.1]
    have z3 : ZipO g3 z TI TO f0 true := hs3.extBut _ _ D.i2z.symm (hs2.extBut _ _ D.i1z.symm hz1)
    have keep3 : ∀ c o, c ≠ z → c ≠ i1 → c ≠ i2 → s.heap.get? c = some o → g3.get? c = some o := fun c o c1 c2 c3 e => hs3.extBut _ _ c3 (hs2.extBut _ _ c2 (hs1.extBut _ _ c1 e))
    have p13 : g3.IsListIter i1 l1 (k + 1) := p12.extBut hs3.extBut D.i12
    refine wpAny_pure ⟨_, rfl, ?_⟩
    show Q (.ref g3.objs.size) _
    have t4 : IsPair (g3.push { cls := .type "tuple", data := .seq #[x, y] }) g3.objs.size x y := Heap.get?_push_size _ rfl
    have sz4 : (g3.push { cls := .type "tuple", data := .seq #[x, y] }).objs.size = g3.objs.size + 1 := Heap.size_push ..
    rw [sz3] at t4 sz4 ⊢
    exact hQ _ _ _ _ _ ho (Heap.get?_push_of_some _ z3) (Heap.get?_push_of_some _ (keep3 _ _ D.TOz D.TOi1 D.TOi2 hTO)) (p13.at fun o e => Heap.get?_push_of_some _ e) (p23.at fun o e => Heap.get?_push_of_some _ e) t4 sz4 fun c o c1 _ c2 c3 e => Heap.get?_push_of_some _ (keep3 c o c1 c2 c3 e)
theorem zip_stop {z TI TO i1 i2 l1 l2 : Addr} {k : Nat} {xs ys : Array Value} {a b f0 : Value} {f : Bool} {Q : Fin → Shared → Prop} (hh : A.handled = none) (D : ZipApart z TI TO i1 i2 l1 l2)
    (hz : ZipO s.heap z TI TO f0 f) (ho : Out f0) (hTI : IsPair s.heap TI (.ref i1) (.ref i2)) (hTO : IsPair s.heap TO a b)
    (p1 : s.heap.IsListIter i1 l1 k) (p2 : s.heap.IsListIter i2 l2 k) (q1 : s.heap.IsList l1 xs) (q2 : s.heap.IsList l2 ys) (hend : xs[k]? = none ∨ ys[k]? = none)
    (hE : ∀ h2 e, (∀ c o, c ≠ z → c ≠ TO → c ≠ i1 → c ≠ i2 → s.heap.get? c = some o → h2.get? c = some o) → (∃ o, h2.get? e = some o ∧ o.cls = .type "StopIteration") → E (.ref e) { s with heap := h2 }) :
    wpAny (model prog w) A (Builtin.«zip.__next__» ⟨[.ref z], []⟩) Q E s := by
  show wpAny _ _ (field (.ref z) 2 >>= _) _ _ _
  refine wpAny_bind (wpAny_field hz rfl (x := .bool false) rfl ?_)
  show wpAny _ _ (field (.ref z) 3 >>= _) _ _ _
  refine wpAny_bind (wpAny_field hz rfl (x := .ref TI) rfl (wpAny_bind (wpAny_seqItems hTI rfl ?_)))
  show wpAny _ _ (Builtin.SmallTypes.ownedTupleIsFree (.ref z) >>= _) _ _ _
  refine wpAny_bind (free_zip hz ho ?_ fun g1 hz1 hs1 => ?_)
  · simp only [if_true]
    refine wpAny_bind (wpAny_rule (wpAny_bind (wpAny_field hz rfl (x := .ref TO) rfl (wpAny_bind (wpAny_setField_rec hz (by simp) fun g1 hz1 hs1 => ?_)))))
    replace hz1 : ZipO g1 z TI TO .ellipsis f := hz1
    refine wpAny_bind ?_
    simp only [List.zipIdx_cons, List.zipIdx_nil, List.forIn_cons, List.forIn_nil]
    refine wpAny_bind (wpAny_bind (wpAny_onRaise ?_))
    show wpAny _ _ (Builtin.SmallTypes.nextOf (.ref i1) >>= _) _ _ _
    cases hx : xs[k]? with
    | none =>
      refine wpAny_bind (wpAny_nextOf_list_end hh (p1.extBut hs1.extBut D.i1z) (q1.extBut hs1.extBut D.l1z) hx fun g2 e hs2 he => ?_)
      obtain ⟨oe, hoe, hce⟩ := he
      have hz2 : ZipO g2 z TI TO .ellipsis f := hs2 _ _ D.i1z.symm hz1
      have nez : e ≠ z := fun q => by subst q; rw [hz2] at hoe; cases hoe; simp at hce
      exact wpAny_setField_rec hz2 (by simp) fun g3 _ hs3 => hE g3 e (fun c o c1 _ c3 _ q => hs3.extBut _ _ c1 (hs2 _ _ c3 (hs1.extBut _ _ c1 q))) ⟨oe, hs3.extBut _ _ nez hoe, hce⟩
    | some x =>
      have hy : ys[k]? = none := by rcases hend with h | h; (rw [hx] at h; cases h); exact h
      refine wpAny_bind (wpAny_nextOf_list_item (p1.extBut hs1.extBut D.i1z) (q1.extBut hs1.extBut D.l1z) hx fun g2 p12 hs2 => wpAny_pure ?_)
      have t2 : IsPair g2 TO a b := hs2.extBut _ _ D.TOi1 (hs1.extBut _ _ D.TOz hTO)
      refine wpAny_bind (wpAny_seqItems t2 rfl (wpAny_bind (wpAny_updateSeq_pair t2 fun g3 t3 hs3 => wpAny_bind (wpAny_letGo (wpAny_pure (wpAny_bind (wpAny_bind (wpAny_onRaise ?_))))))))
      show wpAny _ _ (Builtin.SmallTypes.nextOf (.ref i2) >>= _) _ _ _
      have p22 := ((p2.extBut hs1.extBut D.i2z).extBut hs2.extBut D.i12.symm).extBut hs3.extBut D.TOi2.symm
      have q22 := ((q2.extBut hs1.extBut D.l2z).extBut hs2.extBut D.l2i1).extBut hs3.extBut D.l2TO
      refine wpAny_bind (wpAny_nextOf_list_end hh p22 q22 hy fun g4 e hs4 he => ?_)
      obtain ⟨oe, hoe, hce⟩ := he
      have hz4 : ZipO g4 z TI TO .ellipsis f := hs4 _ _ D.i2z.symm (hs3.extBut _ _ D.TOz.symm (hs2.extBut _ _ D.i1z.symm hz1))
      have nez : e ≠ z := fun q => by subst q; rw [hz4] at hoe; cases hoe; simp at hce
      exact wpAny_setField_rec hz4 (by simp) fun g5 _ hs5 => hE g5 e (fun c o c1 c2 c3 c4 q => hs5.extBut _ _ c1 (hs4 _ _ c4 (hs3.extBut _ _ c2 (hs2.extBut _ _ c3 (hs1.extBut _ _ c1 q))))) ⟨oe, hs5.extBut _ _ nez hoe, hce⟩
  · simp only [Bool.false_eq_true, if_false]
    refine wpAny_bind ?_
    rw [← Array.forIn_toList]
    simp only [List.forIn_cons, List.forIn_nil]
    refine wpAny_bind (wpAny_bind (wpAny_holding ?_))
    show wpAny _ _ (Builtin.SmallTypes.nextOf (.ref i1) >>= _) _ _ _
    cases hx : xs[k]? with
    | none =>
      exact wpAny_bind (wpAny_nextOf_list_end (s := { s with heap := g1 }) hh (p1.extBut hs1.extBut D.i1z) (q1.extBut hs1.extBut D.l1z) hx fun g2 e hs2 he => hE g2 e (fun c o c1 _ c3 _ q => hs2 _ _ c3 (hs1.extBut _ _ c1 q)) he)
    | some x =>
      have hy : ys[k]? = none := by rcases hend with h | h; (rw [hx] at h; cases h); exact h
      refine wpAny_bind (wpAny_nextOf_list_item (s := { s with heap := g1 }) (p1.extBut hs1.extBut D.i1z) (q1.extBut hs1.extBut D.l1z) hx fun g2 p12 hs2 => wpAny_pure (wpAny_pure ?_))
      refine wpAny_bind (wpAny_bind (wpAny_holding ?_))
      show wpAny _ _ (Builtin.SmallTypes.nextOf (.ref i2) >>= _) _ _ _
      have p22 := (p2.extBut hs1.extBut D.i2z).extBut hs2.extBut D.i12.symm
      have q22 := (q2.extBut hs1.extBut D.l2z).extBut hs2.extBut D.l2i1
      exact wpAny_bind (wpAny_nextOf_list_end (s := { s with heap := g2 }) hh p22 q22 hy fun g3 e hs3 he => hE g3 e (fun c o c1 _ c3 c4 q => hs3 _ _ c4 (hs2.extBut _ _ c3 (hs1.extBut _ _ c1 q))) he)
/-- one turn of an enumerate, whatever it walks -/
theorem enum_any {e it : Addr} {i : Int} {old : Value} {R : Value → Heap → Prop} {Q : Value → Shared → Prop} (he : IsEnum s.heap e it i old)
    (inner : ∀ Qi : Value → Shared → Prop, (∀ x g1 tk, IsEnum g1 e it i old → R x g1 → Qi x { s with heap := g1, toks := tk }) → wpAny (model prog w) A (Builtin.SmallTypes.nextOf (.ref it)) Qi E s)
    (hQ : ∀ x g1 g2 tk, R x g1 → IsEnumOut g2 e it (i + 1) x g1.objs.size → g2.get? g1.objs.size = some { cls := .type "tuple", data := .seq #[.int i tk, x] } → g2.objs.size = g1.objs.size + 1 →
      (∀ b o, b ≠ e → g1.get? b = some o → g2.get? b = some o) → Q (.ref g1.objs.size) { s with heap := g2, toks := tk + 1 }) :
    wpAny (model prog w) A (Builtin.«enumerate.__next__» ⟨[.ref e], []⟩) (fun fin s2 => ∃ v, fin = .done (.ret v) ∧ Q v s2) E s := by
  obtain ⟨hp, gens, drawn, toks, outs⟩ := s
  show wpAny _ _ (field (.ref e) 2 >>= _) _ _ _
  refine wpAny_bind (wpAny_field he rfl (x := .ref it) rfl (wpAny_bind (inner _ fun x g1 tk he1 hR => ?_)))
  show wpAny _ _ (field (.ref e) 3 >>= _) _ _ ⟨g1, gens, drawn, tk, outs⟩
  refine wpAny_bind (wpAny_field he1 rfl (x := rawInt i) rfl ?_)
  show wpAny _ _ (field (.ref e) 4 >>= _) _ _ ⟨g1, gens, drawn, tk, outs⟩
  refine wpAny_bind (wpAny_field he1 rfl (x := .none) rfl ?_)
  show wpAny _ _ (mkInt i >>= _) _ _ ⟨g1, gens, drawn, tk, outs⟩
  refine wpAny_bind (wpAny_mkInt ?_)
  show wpAny _ _ (setField (.ref e) 3 (rawInt (i + 1)) >>= _) _ _ ⟨g1, gens, drawn, tk + 1, outs⟩
  refine wpAny_bind (wpAny_setField_rec he1 (by simp) fun g2 he2 hs2 => ?_)
  replace hs2 : Heap.SameBut e g1 g2 := hs2
  replace he2 : IsEnum g2 e it (i + 1) old := he2
  show wpAny _ _ (setField (.ref e) 4 .none >>= _) _ _ ⟨g2, gens, drawn, tk + 1, outs⟩
  refine wpAny_bind (wpAny_setField_rec he2 (by simp) fun g3 he3 hs3 => ?_)
  replace hs3 : Heap.SameBut e g2 g3 := hs3
  replace he3 : IsEnum g3 e it (i + 1) old := he3
  show wpAny _ _ (newTuple [.int i tk, x] >>= _) _ _ ⟨g3, gens, drawn, tk + 1, outs⟩
  refine wpAny_bind (wpAny_newTuple ?_)
  have he4 : IsEnum (g3.push { cls := .type "tuple", data := .seq #[.int i tk, x] }) e it (i + 1) old := Heap.get?_push_of_some _ he3
  have sz3 : g3.objs.size = g1.objs.size := by rw [hs3.1, hs2.1]
  have elt : e < g1.objs.size := Heap.lt_size he1
  have t4 : (g3.push { cls := .type "tuple", data := .seq #[.int i tk, x] }).get? g1.objs.size = some { cls := .type "tuple", data := .seq #[.int i tk, x] } := by rw [← sz3]; exact Heap.get?_push_size _ rfl
  have sz4 : (g3.push { cls := .type "tuple", data := .seq #[.int i tk, x] }).objs.size = g1.objs.size + 1 := by rw [Heap.size_push, sz3]
  have k4 : ∀ b o, b ≠ e → g1.get? b = some o → (g3.push { cls := .type "tuple", data := .seq #[.int i tk, x] }).get? b = some o := fun b o n hb => Heap.get?_push_of_some _ (hs3.extBut b o n (hs2.extBut b o n hb))
  generalize g3.push { cls := .type "tuple", data := .seq #[.int i tk, x] } = g4 at he4 t4 sz4 k4
  show wpAny _ _ (Builtin.SmallTypes.ownedTupleIsFree (.ref e) >>= _) _ _ ⟨g4, gens, drawn, tk + 1, outs⟩
  rw [sz3]
  refine wpAny_bind ?_
  unfold Builtin.SmallTypes.ownedTupleIsFree
  refine wpAny_bind (wpAny_field he4 rfl (x := .none) rfl (wpAny_pure ?_))
  simp only [if_true]
  refine wpAny_bind (wpAny_rule (wpAny_bind (wpAny_field he4 rfl (x := old) rfl (wpAny_bind (wpAny_setField_rec he4 (by simp) fun g5 he5 hs5 => ?_)))))
  replace hs5 : Heap.SameBut e g4 g5 := hs5
  replace he5 : IsEnum g5 e it (i + 1) x := he5
  show wpAny _ _ (Builtin.SmallTypes.ownedTupleHandOut (.ref e) (.ref g1.objs.size) >>= _) _ _ ⟨g5, gens, drawn, tk + 1, outs⟩
  refine wpAny_bind ?_
  unfold Builtin.SmallTypes.ownedTupleHandOut
  refine wpAny_bind (wpAny_setField_rec he5 (by simp) fun g6 he6 hs6 => ?_)
  replace hs6 : Heap.SameBut e g5 g6 := hs6
  replace he6 : IsEnumOut g6 e it (i + 1) x g1.objs.size := he6
  refine wpAny_setField_rec he6 (by simp) fun g7 he7 hs7 => wpAny_bind (wpAny_letGo (wpAny_pure ⟨_, rfl, ?_⟩))
  replace hs7 : Heap.SameBut e g6 g7 := hs7
  replace he7 : IsEnumOut g7 e it (i + 1) x g1.objs.size := he7
  have k7 : ∀ b o, b ≠ e → g4.get? b = some o → g7.get? b = some o := fun b o n hb => hs7.extBut b o n (hs6.extBut b o n (hs5.extBut b o n hb))
  exact hQ x g1 g7 tk hR he7 (k7 _ _ (Nat.ne_of_gt elt) t4) (by rw [hs7.1, hs6.1, hs5.1, sz4]) fun b o n hb => k7 b o n (k4 b o n hb)
/-- what a zip and its cells look like ahead of turn i -/
def ZipAt (z TI TO i1 i2 a b : Addr) (i : Nat) (h : Heap) : Prop := (∃ f0 f, Out f0 ∧ ZipO h z TI TO f0 f) ∧ IsPair h TI (.ref i1) (.ref i2) ∧ (∃ x y, IsPair h TO x y) ∧ h.IsListIter i1 a i ∧ h.IsListIter i2 b i
theorem zip_nextOf {z TI TO i1 i2 l1 l2 : Addr} {k : Nat} {xs ys : Array Value} {x y : Value} {Q : Value → Shared → Prop} (D : ZipApart z TI TO i1 i2 l1 l2) (st : ZipAt z TI TO i1 i2 l1 l2 k s.heap)
    (q1 : s.heap.IsList l1 xs) (q2 : s.heap.IsList l2 ys) (hx : xs[k]? = some x) (hy : ys[k]? = some y)
    (hQ : ∀ h2, ZipAt z TI TO i1 i2 l1 l2 (k + 1) h2 → IsPair h2 s.heap.objs.size x y → h2.objs.size = s.heap.objs.size + 1 →
      (∀ c o, c ≠ z → c ≠ TO → c ≠ i1 → c ≠ i2 → s.heap.get? c = some o → h2.get? c = some o) → Q (.ref s.heap.objs.size) { s with heap := h2 }) :
    wpAny (model prog w) A (Builtin.SmallTypes.nextOf (.ref z)) Q E s := by
  obtain ⟨⟨f0, f, ho, hz⟩, hTI, ⟨u, v, hTO⟩, p1, p2⟩ := st
  have hT : s.TypeIs (.ref z) "zip" := ⟨_, hz, rfl⟩
  unfold Builtin.SmallTypes.nextOf
  refine wpAny_bind (wpAny_callSpecial?_slot (name := Str.ofString "__next__") hT F.slot_zip_next (wpAny_call_entry F.slot_zip_next hT F.entry_zip_next ?_ (F.args_zip_next_1 _)))
  refine zip_any D hz ho hTI hTO p1 p2 q1 q2 hx hy fun h2 g0 g a2 b2 o1 z1 t1 r1 r2 pr sz kp => wpAny_pure (hQ h2 ⟨⟨g0, g, o1, z1⟩, kp _ _ D.TIz D.TITO D.TIi1 D.TIi2 hTI, ⟨a2, b2, t1⟩, r1, r2⟩ pr sz kp)
theorem ez_next {e z TI TO i1 i2 l1 l2 : Addr} {k : Nat} {xs ys : Array Value} {x y old : Value} {Q : Option Value → Shared → Prop} (D : ZipApart z TI TO i1 i2 l1 l2) (he : IsEnum s.heap e z k old) (st : ZipAt z TI TO i1 i2 l1 l2 k s.heap)
    (ne : e ≠ z ∧ e ≠ TI ∧ e ≠ TO ∧ e ≠ i1 ∧ e ≠ i2) (q1 : s.heap.IsList l1 xs) (q2 : s.heap.IsList l2 ys) (hx : xs[k]? = some x) (hy : ys[k]? = some y)
    (hQ : ∀ h1 h2 tk, IsPair h1 s.heap.objs.size x y → h1.objs.size = s.heap.objs.size + 1 → (∀ c o, c ≠ z → c ≠ TO → c ≠ i1 → c ≠ i2 → s.heap.get? c = some o → h1.get? c = some o) →
      IsEnumOut h2 e z ((k : Int) + 1) (.ref s.heap.objs.size) (s.heap.objs.size + 1) → ZipAt z TI TO i1 i2 l1 l2 (k + 1) h2 → h2.get? (s.heap.objs.size + 1) = some { cls := .type "tuple", data := .seq #[.int k tk, .ref s.heap.objs.size] } →
      (∀ c o, c ≠ e → h1.get? c = some o → h2.get? c = some o) → Q (some (.ref (s.heap.objs.size + 1))) { s with heap := h2, toks := tk + 1 }) :
    wpAny (model prog w) A (pyNext (.ref e)) Q E s := by
  have hT : s.TypeIs (.ref e) "enumerate" := ⟨_, he, rfl⟩
  unfold pyNext
  refine wpAny_bind (wpAny_attempt (wpAny_callSpecial?_slot (name := Str.ofString "__next__") hT F.slot_enumerate_next (wpAny_call_entry F.slot_enumerate_next hT F.entry_enumerate_next ?_ (F.args_enumerate_next_1 _))))
  refine enum_any (R := fun v g1 => v = .ref s.heap.objs.size ∧ ZipAt z TI TO i1 i2 l1 l2 (k + 1) g1 ∧ IsPair g1 s.heap.objs.size x y ∧ g1.objs.size = s.heap.objs.size + 1 ∧ ∀ c o, c ≠ z → c ≠ TO → c ≠ i1 → c ≠ i2 → s.heap.get? c = some o → g1.get? c = some o) he (fun Qi hi => ?_) fun v g1 g2 tk hR h1 h2 h3 h4 => ?_
  · exact zip_nextOf D st q1 q2 hx hy fun h2 a1 a2 a3 a4 => hi _ h2 s.toks (a4 _ _ ne.1 ne.2.2.1 ne.2.2.2.1 ne.2.2.2.2 he) ⟨rfl, a1, a2, a3, a4⟩
  · obtain ⟨rfl, ⟨⟨f0, f, o1, z1⟩, t1, ⟨u, v, t2⟩, r1, r2⟩, pr, sz, kp⟩ := hR
    rw [sz] at h1 h2 ⊢
    exact wpAny_pure (hQ g1 g2 tk pr sz kp h1 ⟨⟨f0, f, o1, h4 _ _ ne.1.symm z1⟩, h4 _ _ ne.2.1.symm t1, ⟨u, v, h4 _ _ ne.2.2.1.symm t2⟩, r1.at fun o q => h4 _ o ne.2.2.2.1.symm q, r2.at fun o q => h4 _ o ne.2.2.2.2.symm q⟩ h2 h4)
theorem ez_stop {e z TI TO i1 i2 l1 l2 : Addr} {k : Nat} {xs ys : Array Value} {old : Value} {Q : Option Value → Shared → Prop} (hh : A.handled = none) (D : ZipApart z TI TO i1 i2 l1 l2) (he : IsEnum s.heap e z k old) (st : ZipAt z TI TO i1 i2 l1 l2 k s.heap)
    (q1 : s.heap.IsList l1 xs) (q2 : s.heap.IsList l2 ys) (hend : xs[k]? = none ∨ ys[k]? = none)
    (hQ : ∀ h2, (∀ c o, c ≠ z → c ≠ TO → c ≠ i1 → c ≠ i2 → s.heap.get? c = some o → h2.get? c = some o) → Q none { s with heap := h2 }) : wpAny (model prog w) A (pyNext (.ref e)) Q E s := by
  obtain ⟨⟨f0, f, ho, hz⟩, hTI, ⟨u, v, hTO⟩, p1, p2⟩ := st
  have hT : s.TypeIs (.ref e) "enumerate" := ⟨_, he, rfl⟩
  have hZ : s.TypeIs (.ref z) "zip" := ⟨_, hz, rfl⟩
  unfold pyNext
  refine wpAny_bind (wpAny_attempt (wpAny_callSpecial?_slot (name := Str.ofString "__next__") hT F.slot_enumerate_next (wpAny_call_entry F.slot_enumerate_next hT F.entry_enumerate_next ?_ (F.args_enumerate_next_1 _))))
  show wpAny _ _ (field (.ref e) 2 >>= _) _ _ _
  refine wpAny_bind (wpAny_field he rfl (x := .ref z) rfl (wpAny_bind ?_))
  unfold Builtin.SmallTypes.nextOf
  refine wpAny_bind (wpAny_callSpecial?_slot (name := Str.ofString "__next__") hZ F.slot_zip_next (wpAny_call_entry F.slot_zip_next hZ F.entry_zip_next ?_ (F.args_zip_next_1 _)))
  refine zip_stop hh D hz ho hTI hTO p1 p2 q1 q2 hend fun h2 x kp ⟨o, hx, hc⟩ => ?_
  exact wpAny_bind (wpAny_isInstance (T := "StopIteration") (b := true) ⟨o, hx, hc⟩ isSubtype_stop (wpAny_pure (hQ _ kp)))
end
/-- the lists at a and b, their items in new pairs, each in a new pair with its place -/
def Itez (K : PySem.W.Frag) (a b : Addr) : It :=
  ⟨fun i H => ∃ (xs ys : List V) (x y : V), SqL K H a xs ∧ SqL K H b ys ∧ xs[i]? = some x ∧ ys[i]? = some y,
    fun i H v H' => ∃ T U x y, v = .ref U ∧ H T = none ∧ H U = none ∧ U ≠ T ∧ H' = upd (upd H T (.tup [x, y])) U (.tup [.int (i : Nat), .ref T]) ∧ (∀ xs, SqL K H a xs → xs[i]? = some x) ∧ ∀ ys, SqL K H b ys → ys[i]? = some y,
    fun i H => ∃ xs ys : List V, SqL K H a xs ∧ SqL K H b ys ∧ (xs.length ≤ i ∨ ys.length ≤ i)⟩
theorem turn_ez {P : Program} {w : World} {K : PySem.W.Frag} {elts : List Expr} {kk : Nat} {tpos : Pos} {a b e z TI TO i1 i2 : Addr} (D : ZipApart z TI TO i1 i2 a b) (ne : e ≠ z ∧ e ≠ TI ∧ e ≠ TO ∧ e ≠ i1 ∧ e ≠ i2) :
    Turn P w K (.Tuple elts kk tpos) (Itez K a b) [e, z, TI, TO, i1, i2] e (fun i h => (∃ old, IsEnum h e z ((i : Nat) : Int) old) ∧ ZipAt z TI TO i1 i2 a b i h) where
  mem := List.mem_cons_self
  obj := fun i h st c hc => by
    obtain ⟨⟨old, he⟩, ⟨f0, f, _, hz⟩, hTI, ⟨x, y, hTO⟩, ⟨o1, e1, _, d1⟩, ⟨o2, e2, _, d2⟩⟩ := st
    have hc2 : c = e ∨ c = z ∨ c = TI ∨ c = TO ∨ c = i1 ∨ c = i2 := by simpa using hc
    rcases hc2 with q | q | q | q | q | q <;> rw [q]
    · exact ⟨_, he, fun v q => nomatch q⟩
    · exact ⟨_, hz, fun v q => nomatch q⟩
    · exact ⟨_, hTI, fun v q => nomatch q⟩
    · exact ⟨_, hTO, fun v q => nomatch q⟩
    · exact ⟨o1, e1, fun v q => by rw [d1] at q; cases q⟩
    · exact ⟨o2, e2, fun v q => by rw [d2] at q; cases q⟩
  keep := fun i h h2 st k => by
    obtain ⟨⟨old, he⟩, ⟨f0, f, ho, hz⟩, hTI, ⟨x, y, hTO⟩, r1, r2⟩ := st
    exact ⟨⟨old, k e (by simp) _ he⟩, ⟨f0, f, ho, k z (by simp) _ hz⟩, k TI (by simp) _ hTI, ⟨x, y, k TO (by simp) _ hTO⟩, r1.at fun o q => k i1 (by simp) o q, r2.at fun o q => k i2 (by simp) o q⟩
  item := by
    intro X hP hw hK hc i pins s σ H E I hf st hg
    subst hP hw hK
    obtain ⟨⟨old, he⟩, hZ⟩ := st
    obtain ⟨xs, ys, x, y, hqx, hqy, hx, hy⟩ := hg
    obtain ⟨its, rv, p, _⟩ := I.list hqx
    obtain ⟨its2, rv2, p2, _⟩ := I.list hqy
    obtain ⟨u, hu, ru⟩ := rv.get hx
    obtain ⟨u2, hu2, ru2⟩ := rv2.get hy
    have hlt : ∀ c ∈ [e, z, TI, TO, i1, i2], c < s.heap.objs.size := fun c hcm => by
      obtain ⟨_, ⟨f0, f, _, hz⟩, hTI, ⟨x, y, hTO⟩, ⟨_, e1, _⟩, ⟨_, e2, _⟩⟩ : True ∧ ZipAt z TI TO i1 i2 a b i s.heap := ⟨trivial, hZ⟩
      have hc2 : c = e ∨ c = z ∨ c = TI ∨ c = TO ∨ c = i1 ∨ c = i2 := by simpa using hcm
      rcases hc2 with q | q | q | q | q | q <;> rw [q]
      · exact Heap.lt_size he
      · exact Heap.lt_size hz
      · exact Heap.lt_size hTI
      · exact Heap.lt_size hTO
      · exact Heap.lt_size e1
      · exact Heap.lt_size e2
    refine ez_next D he hZ ne p.isList p2.isList (x := u) (y := u2) (by simpa using hu) (by simpa using hu2) fun h1 h2 tk pr sz kp ho hZ2 hU k2 => ?_
    refine ⟨_, rfl, wpAny_letOwnedTupleGo_enum (s := { s with heap := h2, toks := tk + 1 }) ho fun h3 he3 sb => ?_⟩
    have he1 : e < s.heap.objs.size := hlt e (by simp)
    have pr3 : IsPair h3 s.heap.objs.size u u2 := (sb.2 _ (Nat.ne_of_gt he1)).trans (k2 _ _ (Nat.ne_of_gt he1) pr)
    have hU3 : h3.get? (s.heap.objs.size + 1) = some { cls := .type "tuple", data := .seq #[.int i tk, .ref s.heap.objs.size] } := (sb.2 _ (Nat.ne_of_gt (Nat.lt_succ_of_lt he1))).trans hU
    have new1 : ObjOk X.prog X.w (upd H s.heap.objs.size (.tup [x, y])) h1 s.heap.objs.size (.tup [x, y]) :=
      ⟨by show 2 ≤ sizeLine; decide, [u, u2], .cons ru (.cons ru2 .nil), ⟨_, pr, rfl, _, rfl⟩⟩
    have I1 : Inv X pins σ (upd H s.heap.objs.size (.tup [x, y])) { s with heap := h1, toks := tk + 1 } :=
      I.turnedNew (ch := [e, z, TI, TO, i1, i2]) (fun c o hb q => kp c o (fun q2 => hb (by simp [q2])) (fun q2 => hb (by simp [q2])) (fun q2 => hb (by simp [q2])) (fun q2 => hb (by simp [q2])) q) hf (Nat.le_refl _) new1
    have hf1 : ∀ c ∈ [e], FpOk X pins (upd H s.heap.objs.size (.tup [x, y])) c := fun c hcm => by
      rw [List.mem_singleton.mp hcm]
      have q := hf e (by simp)
      exact ⟨by rw [upd_ne (Nat.ne_of_lt he1)]; exact q.1, q.2⟩
    have new2 : ObjOk X.prog X.w (upd (upd H s.heap.objs.size (.tup [x, y])) (s.heap.objs.size + 1) (.tup [.int (i : Nat), .ref s.heap.objs.size])) h3 (s.heap.objs.size + 1) (.tup [.int (i : Nat), .ref s.heap.objs.size]) :=
      ⟨by show 2 ≤ sizeLine; decide, [.int i tk, .ref s.heap.objs.size], .cons ⟨_, rfl⟩ (.cons rfl .nil), ⟨_, hU3, rfl, _, rfl⟩⟩
    have I2 : Inv X pins σ (upd (upd H s.heap.objs.size (.tup [x, y])) (s.heap.objs.size + 1) (.tup [.int (i : Nat), .ref s.heap.objs.size])) { s with heap := h3, toks := tk + 1 } :=
      I1.turnedNew (t' := tk + 1) (ch := [e]) (fun c o hb q => (sb.2 c (fun q2 => hb (by simp [q2]))).trans (k2 c o (fun q2 => hb (by simp [q2])) q)) hf1 (by show h1.objs.size ≤ _; rw [sz]; exact Nat.le_refl _) new2
    refine ⟨.ref (s.heap.objs.size + 1), _, I2, rfl, ⟨s.heap.objs.size, s.heap.objs.size + 1, x, y, rfl, I.hok.fresh (Nat.le_refl _), I.hok.fresh (Nat.le_succ _), Nat.succ_ne_self _, rfl, fun l hl => by rw [I.list_inj hl hqx]; exact hx, fun l hl => by rw [I.list_inj hl hqy]; exact hy⟩, ⟨⟨_, by rw [Int.natCast_succ]; exact he3⟩, ?_⟩, fun c hcm => ?_⟩
    · obtain ⟨⟨f0, f, o1, z1⟩, t1, ⟨v1, v2, t2⟩, r1, r2⟩ := hZ2
      have sk : ∀ c o, c ≠ e → h2.get? c = some o → h3.get? c = some o := fun c o n q => (sb.2 c n).trans q
      exact ⟨⟨f0, f, o1, sk _ _ ne.1.symm z1⟩, sk _ _ ne.2.1.symm t1, ⟨v1, v2, sk _ _ ne.2.2.1.symm t2⟩, r1.at fun o q => sk _ o ne.2.2.2.1.symm q, r2.at fun o q => sk _ o ne.2.2.2.2.symm q⟩
    · have hcl := hlt c hcm
      rw [upd_ne (Nat.ne_of_lt (Nat.lt_succ_of_lt hcl)), upd_ne (Nat.ne_of_lt hcl)]
      exact (hf c hcm).1
  done := by
    intro X hP hw hK hc i pins s σ H E I hf st hg
    subst hP hw hK
    obtain ⟨⟨old, he⟩, hZ⟩ := st
    obtain ⟨xs, ys, hqx, hqy, hend⟩ := hg
    obtain ⟨its, rv, p, _⟩ := I.list hqx
    obtain ⟨its2, rv2, p2, _⟩ := I.list hqy
    have l1 := rv.length
    have l2 := rv2.length
    have hn : its.toArray[i]? = none ∨ its2.toArray[i]? = none := by
      rcases hend with q | q
      · exact .inl (by simp; omega)
      · exact .inr (by simp; omega)
    exact ez_stop (I.ok.hd hc) D he hZ p.isList p2.isList hn fun h2 hk => ⟨rfl, I.turnedL (t' := s.toks) (ch := [e, z, TI, TO, i1, i2]) (fun c o hb q =>
      hk c o (fun q2 => hb (by simp [q2])) (fun q2 => hb (by simp [q2])) (fun q2 => hb (by simp [q2])) (fun q2 => hb (by simp [q2])) q) hf⟩
  self := fun A i s Q E st h => let ⟨⟨_, he⟩, _⟩ := st; wpAny_pyIter_enum he h
theorem meets_enumZ {z TI TO : Addr} {f0 : Value} :
    Meets (Builtin.«enumerate.__new__» ⟨[.type "enumerate", .ref z], []⟩) (fun _ R s => IsZip s.heap z TI TO f0 ∧
      R (.ok (.ret (.ref s.heap.objs.size))) { s with heap := s.heap.push { cls := .type "enumerate", data := .fields #[.none, .bool false, .ref z, rawInt 0, .none, .none] } }) :=
  .of_wp fun prog w A R s h => by
    have hsub := sub_enumerate
    obtain ⟨hp, gens, drawn, toks, outs⟩ := s
    obtain ⟨hG, hR⟩ := h
    have itr : ∀ {A' : Around} {E : Value → Shared → Prop} {Q : Value → Shared → Prop}, Q (.ref z) ⟨hp, gens, drawn, toks, outs⟩ → wpAny (model prog w) A' (pyIter (.ref z)) Q E ⟨hp, gens, drawn, toks, outs⟩ :=
      fun q => wpAny_pyIter_zip (s := ⟨hp, gens, drawn, toks, outs⟩) hG q
    wp_walk using itr
    refine wpAny_stack_any fun fr => wpAny_pure ?_
    split
    · rename_i cc _ _ _ _ _
      cases (cc == Value.type "enumerate")
      · (wp_walk using itr); exact ⟨_, rfl, hR⟩
      · (wp_walk using itr); exact ⟨_, rfl, hR⟩
    · (wp_walk using itr); exact ⟨_, rfl, hR⟩
section
variable {prog : Program} {w : World} {A : Around} {E : Value → Shared → Prop} {s : Shared}
theorem call_enumZ {z TI TO : Addr} {f0 : Value} {Q : Value → Shared → Prop} (hG : IsZip s.heap z TI TO f0)
    (h : ∀ h2, IsEnum h2 s.heap.objs.size z 0 .none → (∀ b o2, s.heap.get? b = some o2 → h2.get? b = some o2) → Q (.ref s.heap.objs.size) { s with heap := h2 }) :
    wpAny (model prog w) A (call (.type "enumerate") [.ref z]) Q E s := by
  refine callType_new F.called_enumerate (by decide) (F.typeCall_enumerate_1 _) (F.newCall_enumerate_1 _) (fun ob => F.args_object_init_2 ob _) F.entry_enumerate_new (meets_enumZ (TI := TI) (TO := TO) (f0 := f0)) ⟨hG, ?_⟩
  show _ ∧ _
  have g1 := Heap.get?_push_size s.heap (o := { cls := .type "enumerate", data := .fields #[.none, .bool false, .ref z, rawInt 0, .none, .none] }) rfl
  exact ⟨⟨_, g1, rfl⟩, h _ g1 fun b o2 x => Heap.get?_push_of_some _ x⟩
end
def iEz (K : PySem.W.Frag) (ta : TA) : TI := fun σ H R => ta σ H fun vs H1 => ∃ a b xs ys, vs = [.ref a, .ref b] ∧ SqL K H1 a xs ∧ SqL K H1 b ys ∧ R (Itez K a b) H1
theorem pi_ez {X : Cx} {e e2 : Expr} {ta : TA} {p p2 pos pos2 tpos : Pos} {elts : List Expr} {kk : Nat} (hg : Gl X "enumerate") (hm : X.mg "enumerate" = none) (hg2 : Gl X "zip") (hm2 : X.mg "zip" = none) (ha : PA X [e, e2] ta)
    (hs : starEach [.Call (.Name "zip" p2) [e, e2] [] pos2] X.env = [(false, eval (.Call (.Name "zip" p2) [e, e2] [] pos2) X.env)] := by rfl)
    (hs2 : starEach [e, e2] X.env = (false, eval e X.env) :: starEach [e2] X.env := by rfl) (hpl : (backTo pos2 (starEach [e2] X.env)).any (·.1) = false := by rfl) :
    PI X (.Tuple elts kk tpos) (.Call (.Name "enumerate" p) [.Call (.Name "zip" p2) [e, e2] [] pos2] [] pos) (iEz X.K ta) := by
  refine ⟨fun pins s σ H R I h => Call_ (ld_blt I hg hm boot_enumerate (PyProof.Rows.callWith_type1 ?_ hs rfl))⟩
  rw [hs]
  show wpAny _ _ (spliced ((false, eval (.Call (.Name "zip" p2) [e, e2] [] pos2) X.env) :: backTo pos (starEach [] X.env))) _ _ s
  refine Calls.spliced_cons (Call_ (ld_blt I hg2 hm2 PyProof.Rows.boot_zip (PyProof.Rows.callWith_type1 (thn (ha.run pos2 pins s σ H _ I h) fun us s1 ⟨vs, H1, I1, r1, q1⟩ => ?_) hs2 hpl)))
  obtain ⟨a, b, xs, ys, ex, hqx, hqy, q⟩ := q1
  subst ex
  cases r1 with
  | cons r rr =>
    cases rr with
    | cons r2 rr =>
      cases rr
      cases r
      cases r2
      obtain ⟨its, rv, p1, _⟩ := I1.list hqx
      obtain ⟨its2, rv2, p2, _⟩ := I1.list hqy
      have la : a < s1.heap.objs.size := p1.lt
      have lb : b < s1.heap.objs.size := p2.lt
      refine call_zip_2 p1.isList p2.isList fun h2 hz hTI hTO r1 r2 hsz hk => Calls.spliced_nil ?_
      refine call_enumZ (s := { s1 with heap := h2 }) hz fun h3 he hk3 => wpAny_pyIter_enum he ?_
      have I2 : Inv X pins σ H1 { s1 with heap := h3 } := I1.kept (t' := s1.toks) fun c o q => hk3 c o (hk c o q)
      have hN : h2.objs.size = s1.heap.objs.size + 5 := hsz
      have ne5 : ∀ j : Nat, j < 5 → h2.objs.size ≠ s1.heap.objs.size + j := fun j hj => by
        rw [hN]
        exact fun q => by have := Nat.add_left_cancel q; omega
      refine ⟨h2.objs.size, [h2.objs.size, s1.heap.objs.size + 4, s1.heap.objs.size + 2, s1.heap.objs.size + 3, s1.heap.objs.size, s1.heap.objs.size + 1], _, _, H1, rfl, I2,
        turn_ez (PySem.W.ktu_apart s1.heap.objs.size a b la lb) ⟨ne5 4 (by decide), ne5 2 (by decide), ne5 3 (by decide), ne5 0 (by decide), ne5 1 (by decide)⟩,
        ⟨⟨.none, he⟩, ⟨.none, false, .inl rfl, hk3 _ _ hz⟩, hk3 _ _ hTI, ⟨_, _, hk3 _ _ hTO⟩, r1.at fun o q => hk3 _ o q, r2.at fun o q => hk3 _ o q⟩, fun c hcm => ?_, q⟩
      have hc2 : c = h2.objs.size ∨ c = s1.heap.objs.size + 4 ∨ c = s1.heap.objs.size + 2 ∨ c = s1.heap.objs.size + 3 ∨ c = s1.heap.objs.size ∨ c = s1.heap.objs.size + 1 := by simpa using hcm
      have hle : s1.heap.objs.size ≤ c := by
        rcases hc2 with z | z | z | z | z | z <;> rw [z]
        · rw [hN]; exact Nat.le_add_right _ _
        · exact Nat.le_add_right _ _
        · exact Nat.le_add_right _ _
        · exact Nat.le_add_right _ _
        · exact Nat.le_refl _
        · exact Nat.le_add_right _ _
      exact I1.fpOk hle (I1.hok.fresh hle)
/-- what a turn gives: a new pair of the place and a new pair -/
def YEz (xs ys : List V) : Nat → Hp → V → Hp → Prop := fun i H v H' => ∃ T U x y, v = .ref U ∧ H T = none ∧ H U = none ∧ U ≠ T ∧ H' = upd (upd H T (.tup [x, y])) U (.tup [.int (i : Nat), .ref T]) ∧ xs[i]? = some x ∧ ys[i]? = some y
theorem walk_ez {K : PySem.W.Frag} {a b : Addr} {xs ys : List V} {n : Nat} (hn : n = min xs.length ys.length) : Walk (Itez K a b) n (fun H => SqL K H a xs ∧ SqL K H b ys) (YEz xs ys) := by
  subst hn
  refine ⟨fun i _ hi q => ?_, fun _ q => ⟨xs, ys, q.1, q.2, by omega⟩, fun i H v H' _ q y => ?_⟩
  · have h1 : i < xs.length := by omega
    have h2 : i < ys.length := by omega
    exact ⟨xs, ys, xs[i], ys[i], q.1, q.2, List.getElem?_eq_getElem h1, List.getElem?_eq_getElem h2⟩
  · obtain ⟨T, U, x, y, h1, h2, h3, h4, h5, h6, h7⟩ := y
    exact ⟨T, U, x, y, h1, h2, h3, h4, h5, h6 xs q.1, h7 ys q.2⟩
end Dw

/-! try .. except A as n: .. except B: .. -/
namespace Dw
open PySem PySem.Spec PyProof.Rows L2
section
variable {X : Cx} {x n : Str} {c : Value} {i : Nat} {body suite : List Stmt} {b0 : Stmt} {np pos pos2 : Pos} {tb : WX → TS} {ts : Addr → Value → Option Addr → TS} {Wout : WX} {hs2 : List ExceptHandler} {l : List (Value × (Addr → Value → Option Addr → TS))}
theorem ps_try_as2 (hs : X.stack = X.env :: X.outer) (hf : X.env.frame = some X.env.locals) (hN : X.N.Nodup) (hi : X.N[i]? = some n) (hln : X.env.kindOf n = some .local) (hc : Names X x c) (tk : Takes X Wout)
    (hb : ∀ (W : WX) (pn : List (Addr × Obj)) (xe : Value → Shared → Prop), Takes (X.tr pn xe) W → PassesOwn (model X.prog X.w) X.A X.env xe → PSs (X.tr pn xe) body (tb W))
    (hsu : ∀ (a : Addr) (oe : Obj) (cls : Value) (d : Option Addr) (pn : List (Addr × Obj)), Zc cls d oe → (∃ vs, oe.data = .fields vs) → PSs (X.suite a ((a, oe) :: pn)) (b0 :: suite) (ts a cls d))
    (hh : HdsOk X hs2 l) :
    PS X (.Try body (.ExceptHandler (some (.Name x np)) (some n) (b0 :: suite) pos2 :: hs2) [] [] pos) (fun D σ H => tb (wAs X.K c i ts (wMany X.K Wout D l) D) D σ H) := by
  refine ⟨fun pins s σ H D I h => ?_⟩
  have ok := I.ok
  have frs1 : X.A.frames = some (X.env :: X.outer) := by rw [ok.frames, hs]
  have locn : Loc X.env.scope n := .inl hln
  refine wpAny_Try_except (wpAny_mono ((hb (wAs X.K c i ts (wMany X.K Wout D l) D) (X.pn ++ pins) (fun e s1 => wpAny (model X.prog X.w) X.A (noteFrame e X.env) (fun _ s2 => wpAny (model X.prog X.w) X.A (setFlight e none) (fun _ s3 =>
    wpAny (model X.prog X.w) X.A (handleBy e X.env (.ExceptHandler (some (.Name x np)) (some n) (b0 :: suite) pos2 :: hs2)) (SP X pins D) X.xe s3) X.xe s2) X.xe s1) (fun u s' caught => ?_) PassesOwn.looking).run [] s σ H D (I.toTry _) h) (fun f s1 hsp => ?_) (fun e s1 he => he))
  · obtain ⟨a, B, sI, pinsI, σ', H', cls, d, rfl, J', nb, up, sky, na, os, ag, b, hb1, hyes, hno⟩ := caught
    have J : Inv X pins σ' H' sI := J'.ofTry ok
    have sky2 : Sky B (X.env :: X.outer) a (Zc cls d) X.env.locals s'.heap := by rw [← hs]; exact sky
    show wpAny (model X.prog X.w) X.A (noteFrame (.ref a) X.env) _ _ _
    refine Sky.land Zc.steady frs1 hf sky2 fun h3 fl3 up3 => ?_
    have J3 : Inv X pins σ' H' { s' with heap := h3 } := J.landed nb fl3.1 (up.trans up3) os ag
    obtain ⟨oe3, vs3, he3, hz3, hd3⟩ := fl3.there
    have nfr : a ∉ frs (X.env :: X.outer) := fun hm => by
      obtain ⟨_, o2, e2, hnf⟩ := fl3.2.2.1.mem hm
      rw [he3] at e2
      cases e2
      exact hnf _ hd3
    have nL : a ≠ X.env.locals := fun z => nfr (List.mem_filterMap.mpr ⟨X.env, List.mem_cons_self, by rw [hf, z]⟩)
    have nF : a ∉ X.fs := fun hm => by
      obtain ⟨e, he, q⟩ := List.mem_filterMap.mp hm
      exact nfr (List.mem_filterMap.mpr ⟨e, List.mem_cons_of_mem _ he, q⟩)
    have S3 := J3.suite he3 hd3 na nL nF
    have look : PySem.W.Looks (model X.prog X.w) h3 (typeOf (.ref a)) cls := fun A Q E s k q => wpAny_typeOf_ref (k _ _ he3) (by rw [hz3.1]; exact q)
    have tst : ∀ {y : Str} {cy : Value} {py : Pos} {Q : Value → Shared → Prop} {E : Value → Shared → Prop}, Names X y cy → Q cy { s' with heap := h3 } → wpAny (model X.prog X.w) (X.A.mark (some (.ref a))) (eval (.Name y py) X.env) Q E { s' with heap := h3 } := fun {y cy py Q E} hy q => by
      obtain ⟨hg, hdbg, hm | ⟨hm, hv, hnn⟩⟩ := hy
      · exact ld_glob (X := X.suite a ((a, oe3) :: (X.pn ++ pins))) S3 hg hm q hdbg
      · exact ld_blt (X := X.suite a ((a, oe3) :: (X.pn ++ pins))) S3 hg hm hv q hnn hdbg
    have rest : ∀ {hds : List ExceptHandler} {ll : List (Value × (Addr → Value → Option Addr → TS))}, HdsOk X hds ll → wMany X.K Wout D ll cls d σ' H' →
        wpAny (model X.prog X.w) X.A (handleBy (.ref a) X.env hds) (SP X pins D) X.xe { s' with heap := h3 } := by
      intro hds ll hk
      induction hk with
      | nil =>
        intro wo
        refine wpAny_handleBy_nil ?_
        obtain ⟨_, _, _, oe, vs, Tb, oT, _, he, _, hd, hh1, _⟩ := id fl3
        unfold PySem.passOn
        refine wpAny_bind (wpAny_field he hd hh1 ?_)
        rw [if_neg (show ¬ (Value.ref Tb == Value.none) = true from by simp)]
        have fin : wpAny (model X.prog X.w) X.A (setFlight (.ref a) X.env.frame) (fun _ s4 => wpAny (model X.prog X.w) X.A (throw (.ref a) : Sem Flow) (SP X pins D) X.xe s4) X.xe { s' with heap := h3 } := by
          rw [hf]
          refine HandSPX.setFlight_upZ fl3 fun h4 hh4 up4 => wpAny_throw (tk _ _ ?_)
          exact ⟨a, B, sI, pins, σ', H', cls, d, rfl, J, nb, (up.trans up3).trans up4, .inr (.inr (by rw [hs]; exact hh4)), na, os, ag, wo⟩
        first
          | exact wpAny_bind (wpAny_pure (wpAny_bind fin))
          | exact wpAny_bind fin
      | @cons y cy ty c0 st2 npy posy hds3 l3 hcy hsy r ih =>
        intro wo
        obtain ⟨b2, hb2, yes2, no2⟩ := wo
        have LM2 := PySem.W.exm_one (M := model X.prog X.w) (J3.kIn) look hb2
        refine wpAny_handleBy_cons (codeAny_handlers_test (tst hcy (LM2.here ?_))) (by intro q; cases q)
        cases b2 with
        | true =>
          refine codeAny_handlers_suite (HandSPX.lands_againZ fl3 fun h4 fl4 up4 => ?_)
          have J4 : Inv X pins σ' H' { s' with heap := h4 } := J.landed nb fl4.1 ((up.trans up3).trans up4) os ag
          obtain ⟨oe4, vs4, he4, hz4, hd4⟩ := fl4.there
          refine wpAny_mono ((hsy a oe4 cls d (X.pn ++ pins) hz4 ⟨_, hd4⟩).run [] _ _ H' _ (J4.suite he4 hd4 na nL nF) (yes2 rfl a na)) (fun f s6 hsp => ?_) (fun _ _ z => False.elim z)
          cases f with
          | next => obtain ⟨σ6, H6, S6, q6⟩ := hsp; exact ⟨_, _, S6.unsuite ok, q6⟩
          | brk => obtain ⟨σ6, H6, S6, q6⟩ := hsp; exact ⟨_, _, S6.unsuite ok, q6⟩
          | cont => obtain ⟨σ6, H6, S6, q6⟩ := hsp; exact ⟨_, _, S6.unsuite ok, q6⟩
          | ret u => obtain ⟨v6, σ6, H6, S6, r6, q6⟩ := hsp; exact ⟨_, _, _, S6.unsuite ok, r6, q6⟩
        | false =>
          show wpAny _ X.A (handleBy (.ref a) X.env hds3) _ _ _
          exact ih (no2 rfl)
    have LM := PySem.W.exm_one (M := model X.prog X.w) (J3.kIn) look hb1
    refine wpAny_handleBy_cons (codeAny_handlers_test (tst hc (LM.here ?_))) (by intro q; cases q)
    cases b with
    | true =>
      refine codeAny_handlers_suite_as (HandSPX.lands_againZ fl3 fun h4 fl4 up4 => ?_)
      have J4 : Inv X pins σ' H' { s' with heap := h4 } := J.landed nb fl4.1 ((up.trans up3).trans up4) os ag
      obtain ⟨oe4, vs4, he4, hz4, hd4⟩ := fl4.there
      refine store_ok (X := X.suite a ((a, oe4) :: (X.pn ++ pins))) (v := .ref a) (J4.suite he4 hd4 na nL nF) hN hi locn rfl (fun s5 S5 => ?_) (.inr hln)
      refine wpAny_mono ((hsu a oe4 cls d (X.pn ++ pins) hz4 ⟨_, hd4⟩).run [] s5 _ H' _ S5 (hyes rfl a na)) (fun f s6 hsp => ?_) (fun _ _ z => False.elim z)
      have fin : ∀ {σ6 : L2.St} {H6 : Hp} {Q : Shared → Prop}, Inv (X.suite a ((a, oe4) :: (X.pn ++ pins))) [] σ6 H6 s6 → (∀ s7, Inv X pins (σ6.set i none) H6 s7 → Q s7) →
          wpAny (model X.prog X.w) X.A (do bindName X.env n .none; unbindBehindTheSuite X.env n pos2) (fun _ s7 => Q s7) X.xe s6 := fun {σ6 H6 Q} S6 hq => gone_ok (S6.unsuite ok) hN hi hln hq
      cases f with
      | next => obtain ⟨σ6, H6, S6, q6⟩ := hsp; exact fin S6 fun s7 J7 => ⟨_, _, J7, q6⟩
      | brk => obtain ⟨σ6, H6, S6, q6⟩ := hsp; exact fin S6 fun s7 J7 => ⟨_, _, J7, q6⟩
      | cont => obtain ⟨σ6, H6, S6, q6⟩ := hsp; exact fin S6 fun s7 J7 => ⟨_, _, J7, q6⟩
      | ret u => obtain ⟨v6, σ6, H6, S6, r6, q6⟩ := hsp; exact fin S6 fun s7 J7 => ⟨_, _, _, J7, r6, q6⟩
    | false =>
      show wpAny _ X.A (handleBy (.ref a) X.env hs2) _ _ _
      exact rest hh (hno rfl)
  · cases f with
    | next => obtain ⟨σ', H', J', q⟩ := hsp; exact wpAny_execs_nil ⟨σ', H', J'.ofTry ok, q⟩
    | brk => obtain ⟨σ', H', J', q⟩ := hsp; exact ⟨σ', H', J'.ofTry ok, q⟩
    | cont => obtain ⟨σ', H', J', q⟩ := hsp; exact ⟨σ', H', J'.ofTry ok, q⟩
    | ret u => obtain ⟨v, σ', H', J', r, q⟩ := hsp; exact ⟨v, σ', H', J'.ofTry ok, r, q⟩
end
end Dw

/-! differences of lists -/
namespace Dw
open PySem PySem.Spec PyProof.Rows L2
/-- how long the common beginning is -/
def cpl : List Int → List Int → Nat
  | a :: as, b :: bs => if a = b then cpl as bs + 1 else 0
  | [], _ => 0
  | _ :: _, [] => 0
theorem cpl_le : ∀ a b : List Int, cpl a b ≤ a.length ∧ cpl a b ≤ b.length
  | [], b => ⟨Nat.zero_le _, Nat.zero_le _⟩
  | _ :: _, [] => ⟨Nat.zero_le _, Nat.zero_le _⟩
  | a :: as, b :: bs => by
    have h := cpl_le as bs
    unfold cpl
    split
    · simp only [List.length_cons]; omega
    · exact ⟨Nat.zero_le _, Nat.zero_le _⟩
theorem cpl_eq : ∀ {a b : List Int} {i : Nat}, i < cpl a b → a[i]? = b[i]?
  | [], b, i, h => by unfold cpl at h; omega
  | _ :: _, [], i, h => by unfold cpl at h; omega
  | a :: as, b :: bs, i, h => by
    unfold cpl at h
    split at h
    · rename_i e
      subst e
      cases i with
      | zero => rfl
      | succ i => exact cpl_eq (a := as) (b := bs) (by omega)
    · omega
theorem cpl_ne : ∀ {a b : List Int} {x y : Int}, a[cpl a b]? = some x → b[cpl a b]? = some y → x ≠ y
  | [], b, x, y, h, _ => by simp at h
  | _ :: _, [], x, y, _, h => by simp at h
  | a :: as, b :: bs, x, y, h1, h2 => by
    by_cases e : a = b
    · have e2 : cpl (a :: as) (b :: bs) = cpl as bs + 1 := by rw [cpl, if_pos e]
      rw [e2] at h1 h2
      exact cpl_ne (a := as) (b := bs) h1 h2
    · have e2 : cpl (a :: as) (b :: bs) = 0 := by rw [cpl, if_neg e]
      rw [e2] at h1 h2
      cases h1
      cases h2
      exact e
theorem cpl_step {a b : List Int} {i : Nat} {x y : Int} (h : i ≤ cpl a b) (hx : a[i]? = some x) (hy : b[i]? = some y) : (x = y → i + 1 ≤ cpl a b) ∧ (x ≠ y → i = cpl a b) := by
  refine ⟨fun e => ?_, fun e => ?_⟩
  · rcases Nat.lt_or_ge i (cpl a b) with h1 | h1
    · exact h1
    · have e2 : i = cpl a b := by omega
      rw [e2] at hx hy
      exact absurd e (cpl_ne hx hy)
  · rcases Nat.lt_or_ge i (cpl a b) with h1 | h1
    · have := cpl_eq h1
      rw [hx, hy] at this
      exact absurd (Option.some.inj this) e
    · omega
theorem cpl_take {a b : List Int} : a.take (cpl a b) = b.take (cpl a b) := by
  apply List.ext_getElem?
  intro i
  by_cases h : i < cpl a b
  · rw [List.getElem?_take_of_lt h, List.getElem?_take_of_lt h]
    exact cpl_eq h
  · rw [List.getElem?_eq_none (by rw [List.length_take]; omega), List.getElem?_eq_none (by rw [List.length_take]; omega)]
/-- the common end behind the common beginning -/
def cel (a b : List Int) : Nat := cpl (a.drop (cpl a b)).reverse (b.drop (cpl a b)).reverse
def midl (a b : List Int) : List Int := (a.drop (cpl a b)).take (a.length - cpl a b - cel a b)
def midr (a b : List Int) : List Int := (b.drop (cpl a b)).take (b.length - cpl a b - cel a b)
theorem cel_le (a b : List Int) : cel a b ≤ a.length - cpl a b ∧ cel a b ≤ b.length - cpl a b := by
  have h := cpl_le (a.drop (cpl a b)).reverse (b.drop (cpl a b)).reverse
  rw [List.length_reverse, List.length_reverse, List.length_drop, List.length_drop] at h
  exact h
theorem take_rev {l : List Int} {n : Nat} (h : n ≤ l.length) : (l.reverse.take n).reverse = l.drop (l.length - n) := by
  rw [List.take_reverse, List.reverse_reverse]
theorem mid_ne {a b : List Int} (h : a ≠ b) : midl a b ≠ midr a b := fun e => by
  have h1 := cel_le a b
  have l1 := cpl_le a b
  have t1 : a.take (cpl a b) = b.take (cpl a b) := cpl_take
  have t2 : (a.drop (cpl a b)).reverse.take (cel a b) = (b.drop (cpl a b)).reverse.take (cel a b) := cpl_take
  have t3 := congrArg List.reverse t2
  rw [take_rev (by rw [List.length_drop]; omega), take_rev (by rw [List.length_drop]; omega), List.length_drop, List.length_drop] at t3
  have e : (a.drop (cpl a b)).take (a.length - cpl a b - cel a b) = (b.drop (cpl a b)).take (b.length - cpl a b - cel a b) := e
  have e1 : a.drop (cpl a b) = b.drop (cpl a b) :=
    (List.take_append_drop (a.length - cpl a b - cel a b) (a.drop (cpl a b))).symm.trans ((congr (congrArg _ e) t3).trans (List.take_append_drop (b.length - cpl a b - cel a b) (b.drop (cpl a b))))
  exact h ((List.take_append_drop (cpl a b) a).symm.trans ((congr (congrArg _ t1) e1).trans (List.take_append_drop (cpl a b) b)))
/-- xs[i] with i from the end -/
def rIxE : R2 := fun x y H Q => ∃ p ns i, x = .ref p ∧ y = .int i ∧ H p = some (IL ns) ∧ (-(ns.length : Int) ≤ i ∧ i < 0) ∧ Q (.int (ns.getD (i + ns.length).toNat 0)) H
theorem ix_listE {X : Cx} : IxR X rIxE := IxR.imp ix_list fun x y H Q h => by
  obtain ⟨p, ns, i, e1, e2, h1, ⟨h2, h3⟩, q⟩ := h
  refine ⟨p, ns.map V.int, i, _, e1, e2, .of h1, ?_, q⟩
  have hk : (i + ns.length).toNat < ns.length := by omega
  unfold atI ixN
  rw [List.length_map, if_neg (by omega), if_pos h2]
  show (ns.map V.int)[(i + ns.length).toNat]? = _
  rw [List.getElem?_map, List.getElem?_eq_getElem hk, List.getD_eq_getElem?_getD, List.getElem?_eq_getElem hk]
  rfl
theorem rev_at {l : List Int} {c i : Nat} (h : i < l.length - c) : (l.drop c).reverse[i]? = some (l.getD (l.length - 1 - i) 0) := by
  rw [List.getElem?_reverse (by rw [List.length_drop]; exact h), List.length_drop, List.getElem?_drop, show c + (l.length - c - 1 - i) = l.length - 1 - i by omega, List.getD_eq_getElem?_getD, List.getElem?_eq_getElem (show l.length - 1 - i < l.length by omega)]
  rfl
/-! ### runs of places -/
abbrev Rn := Int × Int
def stepC (rs : List Rn) (p : Int) : List Rn := match rs.getLast? with | some (s, c) => if p = s + c then rs.dropLast ++ [(s, c + 1)] else rs ++ [(p, 1)] | none => [(p, 1)]
def runsZ (ps : List Int) : List Rn := ps.foldl stepC []
theorem runsZ_more {ps : List Int} {p : Int} : runsZ (ps ++ [p]) = stepC (runsZ ps) p := by
  unfold runsZ
  rw [List.foldl_append]
  rfl
theorem stepC_nil (p : Int) : stepC [] p = [(p, 1)] := rfl
theorem stepC_app (pre : List Rn) (s c p : Int) : stepC (pre ++ [(s, c)]) p = if p = s + c then pre ++ [(s, c + 1)] else pre ++ [(s, c)] ++ [(p, 1)] := by
  unfold stepC
  rw [List.getLast?_append]
  simp
def RunsOk (d : Int → Prop) : Int → List Rn → Prop
  | _, [] => True
  | lo, (s, c) :: r => lo ≤ s ∧ 1 ≤ c ∧ d s ∧ RunsOk d (s + c + 1) r
theorem RunsOk.grow {d : Int → Prop} {s c : Int} : ∀ {pre : List Rn} {lo : Int}, RunsOk d lo (pre ++ [(s, c)]) → RunsOk d lo (pre ++ [(s, c + 1)])
  | [], lo, h => ⟨h.1, by have := h.2.1; omega, h.2.2.1, trivial⟩
  | (_, _) :: r, lo, h => ⟨h.1, h.2.1, h.2.2.1, RunsOk.grow (pre := r) h.2.2.2⟩
theorem RunsOk.more {d : Int → Prop} {s c p : Int} (hp : s + c < p) (hd : d p) : ∀ {pre : List Rn} {lo : Int}, RunsOk d lo (pre ++ [(s, c)]) → RunsOk d lo (pre ++ [(s, c)] ++ [(p, 1)])
  | [], lo, h => ⟨h.1, h.2.1, h.2.2.1, by omega, by decide, hd, trivial⟩
  | (_, _) :: r, lo, h => ⟨h.1, h.2.1, h.2.2.1, RunsOk.more hp hd (pre := r) h.2.2.2⟩
theorem RunsOk.last {d : Int → Prop} {s c : Int} : ∀ {pre : List Rn} {lo : Int}, RunsOk d lo (pre ++ [(s, c)]) → 1 ≤ c
  | [], lo, h => h.2.1
  | (_, _) :: r, lo, h => RunsOk.last (pre := r) h.2.2.2
/-- the end of the last run -/
def endRn (rs : List Rn) : Int := match rs.getLast? with | some (s, c) => s + c | none => 0
theorem endRn_app (pre : List Rn) (s c : Int) : endRn (pre ++ [(s, c)]) = s + c := by
  unfold endRn
  rw [List.getLast?_append]
  simp
theorem snoc_cases {α : Type} (l : List α) : l = [] ∨ ∃ pre x, l = pre ++ [x] := by
  rcases List.eq_nil_or_concat l with h | ⟨pre, x, h⟩
  · exact .inl h
  · exact .inr ⟨pre, x, by rw [h, List.concat_eq_append]⟩
theorem stepC_ok {d : Int → Prop} {rs : List Rn} {p : Int} (h : RunsOk d 0 rs) (hp : endRn rs ≤ p) (h0 : 0 ≤ p) (hd : d p) : RunsOk d 0 (stepC rs p) ∧ endRn (stepC rs p) = p + 1 ∧ (stepC rs p).length ≤ rs.length + 1 := by
  rcases snoc_cases rs with rfl | ⟨pre, ⟨s, c⟩, rfl⟩
  · rw [stepC_nil]
    exact ⟨⟨h0, by decide, hd, trivial⟩, rfl, Nat.le_refl _⟩
  · rw [endRn_app] at hp
    rw [stepC_app]
    split
    · rename_i e
      refine ⟨h.grow, by rw [endRn_app]; omega, by rw [List.length_append, List.length_append]; simp⟩
    · exact ⟨h.more (by omega) hd, by rw [endRn_app], by rw [List.length_append]; exact Nat.le_refl _⟩
theorem RunsOk.all {d : Int → Prop} : ∀ {rs : List Rn} {lo : Int}, 0 ≤ lo → RunsOk d lo rs → ∀ r ∈ rs, 0 ≤ r.1 ∧ 1 ≤ r.2
  | (s, c) :: q, lo, h0, h, r, hr => by
    obtain ⟨h1, h2, h3, h4⟩ := h
    rcases List.mem_cons.mp hr with e | e
    · rw [e]
      exact ⟨by show 0 ≤ s; omega, h2⟩
    · exact RunsOk.all (lo := s + c + 1) (by omega) h4 r e
/-- all runs end before n -/
def RunsIn (n : Int) (rs : List Rn) : Prop := ∀ r ∈ rs, r.1 + r.2 ≤ n
theorem RunsIn.step {n : Int} {rs : List Rn} {p : Int} (h : RunsIn n rs) (hp : p + 1 ≤ n) : RunsIn n (stepC rs p) := by
  rcases snoc_cases rs with rfl | ⟨pre, ⟨s, c⟩, rfl⟩
  · intro r hr
    rw [stepC_nil] at hr
    rw [List.mem_singleton.mp hr]
    exact hp
  · rw [stepC_app]
    split
    · rename_i e
      intro r hr
      rcases List.mem_append.mp hr with q | q
      · exact h r (List.mem_append_left _ q)
      · rw [List.mem_singleton.mp q]
        show s + (c + 1) ≤ n
        omega
    · intro r hr
      rcases List.mem_append.mp hr with q | q
      · exact h r q
      · rw [List.mem_singleton.mp q]
        exact hp
def neqP (as bs : List Int) (i : Nat) : Bool := decide (as.getD i 0 ≠ bs.getD i 0)
def placesN (as bs : List Int) (n : Nat) : List Int := ((List.range n).filter (neqP as bs)).map fun i : Nat => (i : Int)
theorem placesN_more (as bs : List Int) (n : Nat) : placesN as bs (n + 1) = if neqP as bs n = true then placesN as bs n ++ [(n : Int)] else placesN as bs n := by
  unfold placesN
  rw [List.range_succ, List.filter_append, List.map_append]
  split
  · rename_i e
    simp [e]
  · rename_i e
    simp [e]
theorem places_ok (as bs : List Int) : ∀ n : Nat, RunsOk (fun s => as.getD s.toNat 0 ≠ bs.getD s.toNat 0) 0 (runsZ (placesN as bs n)) ∧ endRn (runsZ (placesN as bs n)) ≤ n ∧ RunsIn n (runsZ (placesN as bs n)) ∧ (runsZ (placesN as bs n)).length ≤ n
  | 0 => ⟨trivial, Int.le_refl _, (fun r hr => by cases hr), Nat.le_refl _⟩
  | n + 1 => by
    obtain ⟨h1, h2, h3, h4⟩ := places_ok as bs n
    rw [placesN_more]
    split
    · rename_i e
      rw [runsZ_more]
      have hd : as.getD ((n : Int).toNat) 0 ≠ bs.getD ((n : Int).toNat) 0 := by
        rw [Int.toNat_natCast]
        unfold neqP at e
        exact of_decide_eq_true e
      obtain ⟨q1, q2, q3⟩ := stepC_ok h1 h2 (by omega) hd
      exact ⟨q1, by rw [q2]; omega, RunsIn.step (n := ((n + 1 : Nat) : Int)) (fun r hr => by have := h3 r hr; omega) (by omega), by omega⟩
    · exact ⟨h1, by omega, fun r hr => by have := h3 r hr; omega, by omega⟩
def chOf (as bs : List Int) (r : Rn) : Ch := (r.1, (as.drop r.1.toNat).take r.2.toNat, (bs.drop r.1.toNat).take r.2.toNat)
theorem Bytes.dt {as : List Int} (h : Bytes as) (a n : Nat) : Bytes ((as.drop a).take n) := fun x hx => h x (List.mem_of_mem_drop (List.mem_of_mem_take hx))
theorem cutI_from {ns : List Int} {i : Nat} (h : i ≤ ns.length) : cutI ns (some (i : Int)) none = ns.drop i := by
  unfold cutI
  rw [HT.sIx_nat, Nat.min_eq_left h]
  show (ns.drop i).take (ns.length - i) = _
  rw [List.take_of_length_le (by rw [List.length_drop]; omega)]
theorem cutI_to {ns : List Int} {j : Nat} (h : j ≤ ns.length) : cutI ns none (some (j : Int)) = ns.take j := by
  unfold cutI
  rw [HT.sIx_nat, Nat.min_eq_left h]
  show (ns.drop 0).take (j - 0) = _
  rfl
theorem cutR {xs : List Int} {s c : Int} (h0 : 0 ≤ s) (h1 : 1 ≤ c) (h2 : s + c ≤ xs.length) : cutI xs (some s) (some (s + c)) = (xs.drop s.toNat).take c.toNat := by
  obtain ⟨n, rfl⟩ := Int.eq_ofNat_of_zero_le h0
  obtain ⟨m, rfl⟩ := Int.eq_ofNat_of_zero_le (show 0 ≤ c by omega)
  rw [show (n : Int) + (m : Int) = ((n + m : Nat) : Int) by omega, cutI_nat (by omega) (by omega), Nat.add_sub_cancel_left]
  rfl
/-- a pair of ints -/
def PrAt (H : Hp) (x : V) (r : Rn) : Prop := ∃ t, x = .ref t ∧ H t = some (.tup [.int r.1, .int r.2])
theorem PrAt.same {H H' : Hp} {x : V} {r : Rn} (s : Same H H') (h : PrAt H x r) : PrAt H' x r := by
  obtain ⟨t, e, h⟩ := h
  exact ⟨t, e, s _ _ h⟩
theorem PrAt.ups {D : Addr} {H : Hp} {xs : List V} {o : HO} {x : V} {r : Rn} (hD : H D = some (.lst xs)) (h : PrAt H x r) : PrAt (upd H D o) x r := by
  obtain ⟨t, e, h⟩ := h
  have n : t ≠ D := fun q => by subst q; rw [h] at hD; cases hD
  exact ⟨t, e, by rw [upd_ne n]; exact h⟩
theorem AllAt.pop {α : Type} {R : V → α → Prop} {xs : List V} {ss : List α} {x : V} {s : α} (h : AllAt R (xs ++ [x]) (ss ++ [s])) : AllAt R xs ss ∧ R x s := by
  have hl : xs.length = ss.length := by have := h.1; rw [List.length_append, List.length_append] at this; simpa using this
  refine ⟨⟨hl, fun i y e => ?_⟩, ?_⟩
  · have hi := (List.getElem?_eq_some_iff.mp e).1
    obtain ⟨s2, h1, h2⟩ := h.2 i y (by rw [List.getElem?_append_left hi]; exact e)
    rw [List.getElem?_append_left (by omega)] at h1
    exact ⟨s2, h1, h2⟩
  · obtain ⟨s2, h1, h2⟩ := h.2 xs.length x (by rw [List.getElem?_append_right (Nat.le_refl _), Nat.sub_self]; rfl)
    rw [hl, List.getElem?_append_right (Nat.le_refl _), Nat.sub_self] at h1
    cases h1
    exact h2
theorem AllAt.snoc {α : Type} {R : V → α → Prop} {xs : List V} {pre : List α} {s : α} (h : AllAt R xs (pre ++ [s])) : ∃ ys y, xs = ys ++ [y] ∧ AllAt R ys pre ∧ R y s := by
  rcases snoc_cases xs with rfl | ⟨ys, y, rfl⟩
  · have := h.1
    simp at this
  · exact ⟨ys, y, rfl, h.pop⟩
/-- xs[-1] = v -/
def rSetL : TSet := fun o i v H Q => ∃ p xs x, o = .ref p ∧ i = .int (-1) ∧ H p = some (.lst (xs ++ [x])) ∧ Q (upd H p (.lst (xs ++ [v])))
theorem set_listL {X : Cx} : PSet X rSetL := PSet.imp set_list fun o i v H Q h => by
  obtain ⟨p, xs, x, e1, e2, h1, q⟩ := h
  have hk : ixN (xs ++ [x]).length (-1) = some xs.length := by
    unfold ixN
    rw [if_neg (by decide), if_pos (by rw [List.length_append]; simp; omega)]
    rw [List.length_append]
    simp
    omega
  have es : (xs ++ [x]).set xs.length v = xs ++ [v] := by
    rw [List.set_append_right _ _ (Nat.le_refl _), Nat.sub_self]
    rfl
  exact ⟨p, _, -1, xs.length, e1, e2, h1, hk, by rw [es]; exact q⟩
theorem pe_chainX {X : Cx} {a b c : Expr} {ta tb tc : TE} {pos : Pos} {op op' : CmpOp} {r r' : R2} (ho : OpR X (compareOp op) r) (ho' : OpR X (compareOp op') r') (ha : PE X a ta) (hb : PE X b tb) (hc : PE X c tc)
    (hm : lastMarks [op, op'] [b, c] = false) : PE X (.Compare a [op, op'] [b, c] pos) (tChain r r' ta tb tc) := pe_chain ho ho' ha hb hc hm
theorem pe_fldT {X : Cx} {pn : List (Addr × Obj)} {xe : Value → Shared → Prop} {e : Expr} {ta : TE} {f : Str} {pos : Pos} (he : PE (X.tr pn xe) e ta) (hb : attributeBase e f (X.tr pn xe).env (eval e (X.tr pn xe).env) = eval e (X.tr pn xe).env) : PE (X.tr pn xe) (.Attribute e f pos) (tFld X.K ta f) := pe_fld he hb
def prD (r : Rn) : PyData := .tuple [.int r.1, .int r.2]
theorem prs_shal : ∀ rs : List Rn, ShalAll (rs.map prD) 6
  | [] => .nil
  | r :: t => .cons (.tup (.cons .int (.cons .int .nil))) (prs_shal t)
theorem PrAt.dt {H : Hp} {x : V} {r : Rn} (h : PrAt H x r) : Dt H x (prD r) := by
  obtain ⟨t, rfl, h⟩ := h
  exact .tup h (.cons (.int _) (.cons (.int _) .nil))
theorem prs_dt {H : Hp} : ∀ {xs : List V} {rs : List Rn}, AllAt (PrAt H) xs rs → DtAll H xs (rs.map prD)
  | [], [], _ => .nil
  | [], _ :: _, h => by have := h.1; simp at this
  | _ :: _, [], h => by have := h.1; simp at this
  | x :: r, c :: t, h => by
    obtain ⟨d, hd, hx⟩ := h.2 0 x rfl
    cases hd
    exact .cons hx.dt (prs_dt ⟨by have := h.1; simpa using this, fun i y e => h.2 (i + 1) y e⟩)
theorem eqv_prs (rs : List Rn) : PyData.eqv (.list (rs.map prD)) (.list []) = decide (rs = []) := by
  rw [PyData.eqv]
  cases rs with
  | nil => rw [List.map_nil, PyData.eqvAll]; rfl
  | cons r t =>
    show PyData.eqvAll (_ :: _) [] = _
    rw [PyData.eqvAll, decide_eq_false (fun e => by cases e)]
def endsZ (rs : List Rn) : List Rn := rs.map fun r => (r.1, r.1 + r.2)
theorem endsZ_app (pre : List Rn) (s c : Int) : endsZ (pre ++ [(s, c)]) = endsZ pre ++ [(s, s + c)] := by
  unfold endsZ
  rw [List.map_append]
  rfl
/-! ### x, 0, x, 0, .. -/
def altL (x : Int) (m : Nat) : List Int := (List.replicate m [x, 0]).flatten
theorem altL_succ (x : Int) (m : Nat) : altL x (m + 1) = x :: 0 :: altL x m := rfl
theorem alt_len (x : Int) : ∀ m : Nat, (altL x m).length = 2 * m
  | 0 => rfl
  | m + 1 => by
    rw [altL_succ, List.length_cons, List.length_cons, alt_len x m]
    omega
theorem alt_get (x : Int) : ∀ m k : Nat, k < m → (altL x m).getD (2 * k) 0 = x ∧ (altL x m).getD (2 * k + 1) 0 = 0
  | 0, k, h => by omega
  | m + 1, 0, h => ⟨rfl, rfl⟩
  | m + 1, k + 1, h => by
    have ih := alt_get x m k (by omega)
    rw [altL_succ, show 2 * (k + 1) = 2 * k + 1 + 1 by omega, List.getD_cons_succ, List.getD_cons_succ, List.getD_cons_succ, List.getD_cons_succ]
    exact ih
theorem alt_runs (m : Nat) : ∀ k : Nat, k ≤ m → runsZ (placesN (altL 0 m) (altL 1 m) (2 * k)) = (List.range k).map fun j : Nat => (((2 * j : Nat) : Int), 1)
  | 0, _ => rfl
  | k + 1, h => by
    have ih := alt_runs m k (by omega)
    obtain ⟨a1, a2⟩ := alt_get 0 m k (by omega)
    obtain ⟨b1, b2⟩ := alt_get 1 m k (by omega)
    have n1 : neqP (altL 0 m) (altL 1 m) (2 * k) = true := by
      unfold neqP
      rw [a1, b1]
      rfl
    have n2 : neqP (altL 0 m) (altL 1 m) (2 * k + 1) = false := by
      unfold neqP
      rw [a2, b2]
      rfl
    rw [show 2 * (k + 1) = 2 * k + 1 + 1 by omega, placesN_more, if_neg (by rw [n2]; decide), placesN_more, if_pos n1, runsZ_more, ih, List.range_succ, List.map_append]
    cases k with
    | zero => rfl
    | succ k =>
      rw [List.range_succ, List.map_append]
      show stepC (_ ++ [(((2 * k : Nat) : Int), 1)]) _ = _
      rw [stepC_app, if_neg (by omega)]
      rfl
/-! ### patches of any parts -/
def FitM : Int → List Ch → Prop
  | _, [] => True
  | l, c :: r => l ≤ c.1 ∧ Bytes c.2.1 ∧ Bytes c.2.2 ∧ c.2.1.length ≤ 10000 ∧ c.2.2.length ≤ 10000 ∧ c.2.1 ≠ c.2.2 ∧ FitM (c.1 + c.2.1.length + 1) r
theorem fit_runs {as bs : List Int} (hl : as.length = bs.length) (hs : as.length ≤ 10000) (ba : Bytes as) (bb : Bytes bs) : ∀ {rs : List Rn} {lo : Int}, 0 ≤ lo → RunsOk (fun s => as.getD s.toNat 0 ≠ bs.getD s.toNat 0) lo rs → RunsIn as.length rs → FitM lo (rs.map (chOf as bs))
  | [], lo, _, _, _ => trivial
  | (s, c) :: r, lo, h0, h, hi => by
    obtain ⟨h1, h2, h3, h4⟩ := h
    have h5 : s + c ≤ as.length := hi (s, c) List.mem_cons_self
    have l1 : ((as.drop s.toNat).take c.toNat).length = c.toNat := by rw [List.length_take, List.length_drop]; omega
    have l2 : ((bs.drop s.toNat).take c.toNat).length = c.toNat := by rw [List.length_take, List.length_drop]; omega
    have fa : ∀ xs : List Int, ((xs.drop s.toNat).take c.toNat).getD 0 0 = xs.getD s.toNat 0 := fun xs => by
      rw [List.getD_eq_getElem?_getD, List.getD_eq_getElem?_getD, List.getElem?_take_of_lt (by omega), List.getElem?_drop, Nat.add_zero]
    refine ⟨h1, ba.dt _ _, bb.dt _ _, by show ((as.drop s.toNat).take c.toNat).length ≤ _; omega, by show ((bs.drop s.toNat).take c.toNat).length ≤ _; omega, fun e => h3 ?_, ?_⟩
    · have e : (as.drop s.toNat).take c.toNat = (bs.drop s.toNat).take c.toNat := e
      rw [← fa as, ← fa bs, e]
    · show FitM (s + ((as.drop s.toNat).take c.toNat).length + 1) _
      rw [l1, show s + ((c.toNat : Nat) : Int) + 1 = s + c + 1 by omega]
      exact fit_runs hl hs ba bb (by omega) h4 fun r hr => hi r (List.mem_cons_of_mem _ hr)
def spPatchInitM (C CE : Addr) : Sp := fun vs H Q E => ∃ (x dx a : Addr) (xs : List V) (cs : List Ch), vs = [.ref x, .ref a] ∧ H x = some (.ins C dx []) ∧ H a = some (.lst xs) ∧ ChsAt H xs cs ∧ cs.length ≤ 10000 ∧ FitM 0 cs ∧
  (cs.length ≤ 500 → ∀ H', SameB x H H' → (∃ t ys, H' x = some (.ins C dx [("changes", .ref t)]) ∧ H' t = some (.tup ys) ∧ ChsAt H' ys cs) → Q .non H') ∧ (500 < cs.length → E (.ref CE) none H)
def spPatchM (C CE : Addr) : Sp := fun vs H Q E => ∃ (a : Addr) (xs : List V) (cs : List Ch), vs = [.ref a] ∧ H a = some (.lst xs) ∧ ChsAt H xs cs ∧ cs.length ≤ 10000 ∧ FitM 0 cs ∧
  (cs.length ≤ 500 → ∀ r H', Same H H' → H r = none → PatchAt C H' r cs → Q (.ref r) H') ∧ (500 < cs.length → ∀ H', Same H H' → E (.ref CE) none H')
theorem conv_patchM {C CE : Addr} : Conv C (spPatchInitM C CE) (spPatchM C CE) := by
  intro vs H Q E ⟨a, xs, cs, e, hA, hC, hl, hF, h1, h2⟩ x dx nx nd ne
  subst e
  have s0 : Same H (upd H dx (.own x)) := same_new nd _
  have nx' : upd H dx (.own x) x = none := by rw [upd_ne ne.symm]; exact nx
  have s1 : Same (upd H dx (.own x)) (upd (upd H dx (.own x)) x (.ins C dx [])) := same_new nx' _
  have s := s0.trans s1
  refine ⟨x, dx, a, xs, cs, rfl, upd_same, s _ _ hA, hC.same s, hl, hF, fun hs H' sb h => ⟨rfl, h1 hs x H' (fun b o hb => sb b o (ne_of_none hb nx) (s b o hb)) nx ?_⟩, fun hs => h2 hs _ s⟩
  obtain ⟨t, ys, e1, e2, e3⟩ := h
  exact ⟨dx, t, ys, e1, e2, e3⟩
end Dw

/-! patches applied, there and back; their bytes -/
namespace Dw
open PySem PySem.Spec PyProof.Rows L2
/-- the rest t, which begins at e, after the changes -/
def appD : Int → List Int → List Ch → List Int
  | _, t, [] => t
  | e, t, c :: r => t.take (c.1 - e).toNat ++ c.2.2 ++ appD (c.1 + c.2.1.length) (t.drop ((c.1 - e).toNat + c.2.1.length)) r
/-- the old parts stand there -/
def OccD : Int → List Int → List Ch → Prop
  | _, _, [] => True
  | e, t, c :: r => e ≤ c.1 ∧ (c.1 - e).toNat + c.2.1.length ≤ t.length ∧ (t.drop (c.1 - e).toNat).take c.2.1.length = c.2.1 ∧ OccD (c.1 + c.2.1.length) (t.drop ((c.1 - e).toNat + c.2.1.length)) r
theorem take_app3 {a b c : List Int} {k : Nat} (h : a.length = k) : (a ++ b ++ c).take k = a ∧ (a ++ b ++ c).drop k = b ++ c ∧ (a ++ b ++ c).drop (k + b.length) = c := by
  subst h
  refine ⟨by rw [List.append_assoc, List.take_left], by rw [List.append_assoc, List.drop_left], ?_⟩
  rw [← List.length_append, List.drop_left]
theorem opp_app : ∀ (cs : List Ch) (e s : Int) (t : List Int), OccD e t cs → OccD (e + s) (appD e t cs) (opp s cs) ∧ appD (e + s) (appD e t cs) (opp s cs) = t
  | [], e, s, t, _ => ⟨trivial, rfl⟩
  | c :: r, e, s, t, h => by
    obtain ⟨h1, h2, h3, h4⟩ := h
    have ih := opp_app r (c.1 + c.2.1.length) (s + c.2.2.length - c.2.1.length) (t.drop ((c.1 - e).toNat + c.2.1.length)) h4
    have ek : (t.take (c.1 - e).toNat).length = (c.1 - e).toNat := by rw [List.length_take]; omega
    obtain ⟨q1, q2, q3⟩ := take_app3 (b := c.2.2) (c := appD (c.1 + c.2.1.length) (t.drop ((c.1 - e).toNat + c.2.1.length)) r) ek
    have e1 : c.1 + s - (e + s) = c.1 - e := by omega
    have e2 : c.1 + s + (c.2.2.length : Int) = c.1 + c.2.1.length + (s + c.2.2.length - c.2.1.length) := by omega
    have ht : t.take (c.1 - e).toNat ++ c.2.1 ++ t.drop ((c.1 - e).toNat + c.2.1.length) = t := by
      have a1 : c.2.1 ++ t.drop ((c.1 - e).toNat + c.2.1.length) = t.drop (c.1 - e).toNat := by
        rw [← List.drop_drop, ← h3, List.length_take, List.length_drop, Nat.min_eq_left (by omega), List.take_append_drop]
      rw [List.append_assoc, a1, List.take_append_drop]
    refine ⟨⟨by show e + s ≤ c.1 + s; omega, ?_, ?_, ?_⟩, ?_⟩
    · show (c.1 + s - (e + s)).toNat + c.2.2.length ≤ (appD e t (c :: r)).length
      rw [e1]
      show _ ≤ (t.take (c.1 - e).toNat ++ c.2.2 ++ _).length
      rw [List.length_append, List.length_append, ek]
      omega
    · show ((appD e t (c :: r)).drop (c.1 + s - (e + s)).toNat).take c.2.2.length = c.2.2
      rw [e1]
      show ((t.take (c.1 - e).toNat ++ c.2.2 ++ _).drop (c.1 - e).toNat).take c.2.2.length = c.2.2
      rw [q2, List.take_left]
    · show OccD (c.1 + s + (c.2.2.length : Int)) ((appD e t (c :: r)).drop ((c.1 + s - (e + s)).toNat + c.2.2.length)) (opp (s + c.2.2.length - c.2.1.length) r)
      rw [e1, e2]
      show OccD _ ((t.take (c.1 - e).toNat ++ c.2.2 ++ _).drop ((c.1 - e).toNat + c.2.2.length)) _
      rw [q3]
      exact ih.1
    · show (appD e t (c :: r)).take (c.1 + s - (e + s)).toNat ++ c.2.1 ++ appD (c.1 + s + (c.2.2.length : Int)) ((appD e t (c :: r)).drop ((c.1 + s - (e + s)).toNat + c.2.2.length)) (opp (s + c.2.2.length - c.2.1.length) r) = t
      rw [e1, e2]
      show (t.take (c.1 - e).toNat ++ c.2.2 ++ _).take (c.1 - e).toNat ++ c.2.1 ++ appD _ ((t.take (c.1 - e).toNat ++ c.2.2 ++ _).drop ((c.1 - e).toNat + c.2.2.length)) _ = t
      rw [q1, q3, ih.2]
      exact ht
/-! the difference -/
theorem cpl_comm : ∀ a b : List Int, cpl a b = cpl b a
  | [], [] => rfl
  | [], _ :: _ => rfl
  | _ :: _, [] => rfl
  | a :: as, b :: bs => by
    unfold cpl
    rw [cpl_comm as bs]
    by_cases h : a = b
    · rw [if_pos h, if_pos h.symm]
    · rw [if_neg h, if_neg (Ne.symm h)]
theorem cel_comm (a b : List Int) : cel a b = cel b a := by
  unfold cel
  rw [cpl_comm a b, cpl_comm (a.drop (cpl b a)).reverse]
theorem mid_comm (a b : List Int) : midl a b = midr b a := by
  unfold midl midr
  rw [cpl_comm a b, cel_comm a b]
def diffZ (a b : List Int) : List Ch := if a = b then [] else [((cpl a b : Nat), midl a b, midr a b)]
theorem diffZ_opp (a b : List Int) : opp 0 (diffZ a b) = diffZ b a := by
  unfold diffZ
  by_cases h : a = b
  · rw [if_pos h, if_pos h.symm]; rfl
  · rw [if_neg h, if_neg (Ne.symm h)]
    show [(((cpl a b : Nat) : Int) + 0, midr a b, midl a b)] = _
    rw [Int.add_zero, mid_comm a b, ← mid_comm b a, cpl_comm a b]
theorem tail_eq (a b : List Int) : a.drop (a.length - cel a b) = b.drop (b.length - cel a b) := by
  have h1 := cel_le a b
  have l1 := cpl_le a b
  have t2 : (a.drop (cpl a b)).reverse.take (cel a b) = (b.drop (cpl a b)).reverse.take (cel a b) := cpl_take
  have t3 := congrArg List.reverse t2
  rw [take_rev (by rw [List.length_drop]; omega), take_rev (by rw [List.length_drop]; omega), List.length_drop, List.length_drop, List.drop_drop, List.drop_drop] at t3
  rw [show cpl a b + (a.length - cpl a b - cel a b) = a.length - cel a b by omega, show cpl a b + (b.length - cpl a b - cel a b) = b.length - cel a b by omega] at t3
  exact t3
theorem diffZ_app (a b : List Int) : OccD 0 a (diffZ a b) ∧ appD 0 a (diffZ a b) = b := by
  unfold diffZ
  by_cases h : a = b
  · rw [if_pos h]; exact ⟨trivial, h⟩
  · rw [if_neg h]
    have h1 := cel_le a b
    have l1 := cpl_le a b
    have t1 : a.take (cpl a b) = b.take (cpl a b) := cpl_take
    have ez : (((cpl a b : Nat) : Int) - 0).toNat = cpl a b := by omega
    have ll : (midl a b).length = a.length - cpl a b - cel a b := by unfold midl; rw [List.length_take, List.length_drop]; omega
    have lr : (midr a b).length = b.length - cpl a b - cel a b := by unfold midr; rw [List.length_take, List.length_drop]; omega
    refine ⟨⟨by show (0 : Int) ≤ ((cpl a b : Nat) : Int); omega, ?_, ?_, trivial⟩, ?_⟩
    · show (((cpl a b : Nat) : Int) - 0).toNat + (midl a b).length ≤ a.length
      rw [ez, ll]; omega
    · show (a.drop (((cpl a b : Nat) : Int) - 0).toNat).take (midl a b).length = midl a b
      rw [ez, ll]; rfl
    · show a.take (((cpl a b : Nat) : Int) - 0).toNat ++ midr a b ++ a.drop ((((cpl a b : Nat) : Int) - 0).toNat + (midl a b).length) = b
      rw [ez, ll, t1, show cpl a b + (a.length - cpl a b - cel a b) = a.length - cel a b by omega, tail_eq a b]
      unfold midr
      rw [show b.length - cel a b = cpl a b + (b.length - cpl a b - cel a b) by omega, ← List.drop_drop, List.append_assoc, List.take_append_drop, List.take_append_drop]
/-! the fine difference -/
/-- the runs hold all places from e on that differ -/
def Cov (as bs : List Int) (e : Int) (rs : List Rn) : Prop := ∀ i : Nat, e ≤ i → as.getD i 0 ≠ bs.getD i 0 → ∃ r ∈ rs, r.1 ≤ i ∧ (i : Int) < r.1 + r.2
theorem cov_step {d : Int → Prop} {rs : List Rn} {p : Int} {i : Int} (ok : RunsOk d 0 rs) (h : (∃ r ∈ rs, r.1 ≤ i ∧ i < r.1 + r.2) ∨ i = p) : ∃ r ∈ stepC rs p, r.1 ≤ i ∧ i < r.1 + r.2 := by
  rcases snoc_cases rs with rfl | ⟨pre, ⟨s, c⟩, rfl⟩
  · rcases h with ⟨r, hr, _⟩ | h
    · cases hr
    · exact ⟨(p, 1), List.mem_singleton.mpr rfl, by show p ≤ i; omega, by show i < p + 1; omega⟩
  · rw [stepC_app]
    have hc := ok.last
    split
    · rename_i e
      rcases h with ⟨r, hr, h1, h2⟩ | h
      · rcases List.mem_append.mp hr with q | q
        · exact ⟨r, List.mem_append_left _ q, h1, h2⟩
        · rw [List.mem_singleton.mp q] at h1 h2
          exact ⟨(s, c + 1), List.mem_append_right _ (List.mem_singleton.mpr rfl), h1, by show i < s + (c + 1); have h2 : i < s + c := h2; omega⟩
      · exact ⟨(s, c + 1), List.mem_append_right _ (List.mem_singleton.mpr rfl), by show s ≤ i; omega, by show i < s + (c + 1); omega⟩
    · rcases h with ⟨r, hr, h1, h2⟩ | h
      · exact ⟨r, List.mem_append_left _ hr, h1, h2⟩
      · exact ⟨(p, 1), List.mem_append_right _ (List.mem_singleton.mpr rfl), by show p ≤ i; omega, by show i < p + 1; omega⟩
theorem places_cov (as bs : List Int) : ∀ (n i : Nat), i < n → as.getD i 0 ≠ bs.getD i 0 → ∃ r ∈ runsZ (placesN as bs n), r.1 ≤ (i : Int) ∧ (i : Int) < r.1 + r.2
  | 0, i, h, _ => absurd h (Nat.not_lt_zero _)
  | n + 1, i, h, hd => by
    rw [placesN_more]
    have ok := (places_ok as bs n).1
    by_cases hi : i < n
    · have ih := places_cov as bs n i hi hd
      split
      · rw [runsZ_more]
        exact cov_step ok (.inl ih)
      · exact ih
    · have e : i = n := by omega
      subst e
      rw [if_pos (by unfold neqP; exact decide_eq_true hd), runsZ_more]
      exact cov_step ok (.inr rfl)
theorem RunsOk.ge {d : Int → Prop} : ∀ {rs : List Rn} {lo : Int}, RunsOk d lo rs → ∀ r ∈ rs, lo ≤ r.1
  | (s, c) :: q, lo, h, r, hr => by
    obtain ⟨h1, h2, h3, h4⟩ := h
    rcases List.mem_cons.mp hr with e | e
    · rw [e]; exact h1
    · have := RunsOk.ge h4 r e
      omega
theorem eq_by_get {as bs : List Int} (hl : as.length = bs.length) {e k : Nat} (h : ∀ i, e ≤ i → i < e + k → as.getD i 0 = bs.getD i 0) : (as.drop e).take k = (bs.drop e).take k := by
  apply List.ext_getElem?
  intro j
  by_cases hj : j < k
  · rw [List.getElem?_take_of_lt hj, List.getElem?_take_of_lt hj, List.getElem?_drop, List.getElem?_drop]
    have hq := h (e + j) (by omega) (by omega)
    by_cases hb : e + j < as.length
    · rw [List.getD_eq_getElem?_getD, List.getD_eq_getElem?_getD, List.getElem?_eq_getElem hb, List.getElem?_eq_getElem (show e + j < bs.length by omega)] at hq
      rw [List.getElem?_eq_getElem hb, List.getElem?_eq_getElem (show e + j < bs.length by omega)]
      exact congrArg some hq
    · rw [List.getElem?_eq_none (by omega), List.getElem?_eq_none (by omega)]
  · rw [List.getElem?_eq_none (by rw [List.length_take]; omega), List.getElem?_eq_none (by rw [List.length_take]; omega)]
theorem fine_app {as bs : List Int} (hl : as.length = bs.length) {d : Int → Prop} : ∀ (rs : List Rn) (e : Nat) (lo : Int), (e : Int) ≤ lo → RunsOk d lo rs → RunsIn as.length rs → Cov as bs e rs → e ≤ as.length → OccD e (as.drop e) (rs.map (chOf as bs)) ∧ appD e (as.drop e) (rs.map (chOf as bs)) = bs.drop e
  | [], e, lo, _, _, _, hc, he => by
    refine ⟨trivial, ?_⟩
    have q := eq_by_get (e := e) (k := as.length - e) hl fun i h1 _ => Classical.byContradiction fun n => by
      obtain ⟨r, hr, _⟩ := hc i (by omega) n
      cases hr
    rw [List.take_of_length_le (by rw [List.length_drop]; omega), List.take_of_length_le (by rw [List.length_drop]; omega)] at q
    exact q
  | (s, c) :: r, e, lo, hlo, ok, hin, hc, he => by
    obtain ⟨h1, h2, h3, h4⟩ := ok
    have h5 : s + c ≤ as.length := hin (s, c) List.mem_cons_self
    obtain ⟨n, rfl⟩ := Int.eq_ofNat_of_zero_le (show 0 ≤ s by omega)
    obtain ⟨m, rfl⟩ := Int.eq_ofNat_of_zero_le (show 0 ≤ c by omega)
    have hen : e ≤ n := by omega
    have l1 : ((as.drop n).take m).length = m := by rw [List.length_take, List.length_drop]; omega
    have ih := fine_app hl r (n + m) ((n : Int) + (m : Int) + 1) (by omega) h4 (fun r hr => hin r (List.mem_cons_of_mem _ hr)) (fun i hi hd => by
      obtain ⟨q, hq, g1, g2⟩ := hc i (by omega) hd
      rcases List.mem_cons.mp hq with z | z
      · rw [z] at g2
        have g2 : (i : Int) < (n : Int) + (m : Int) := g2
        omega
      · exact ⟨q, z, g1, g2⟩) (by omega)
    have eq1 : (as.drop e).take (n - e) = (bs.drop e).take (n - e) := eq_by_get hl fun i i1 i2 => Classical.byContradiction fun nn => by
      obtain ⟨q, hq, g1, g2⟩ := hc i (by omega) nn
      rcases List.mem_cons.mp hq with z | z
      · rw [z] at g1
        have g1 : (n : Int) ≤ (i : Int) := g1
        omega
      · have := h4.ge q z
        omega
    have ek : ((n : Int) - (e : Int)).toNat = n - e := by omega
    have en : (n : Int).toNat = n := rfl
    have em : (m : Int).toNat = m := rfl
    have ed : (as.drop e).drop (n - e + m) = as.drop (n + m) := by rw [List.drop_drop, show e + (n - e + m) = n + m by omega]
    show ((e : Int) ≤ (n : Int) ∧ ((n : Int) - (e : Int)).toNat + ((as.drop n).take m).length ≤ (as.drop e).length ∧ ((as.drop e).drop ((n : Int) - (e : Int)).toNat).take ((as.drop n).take m).length = (as.drop n).take m ∧ OccD ((n : Int) + (((as.drop n).take m).length : Int)) ((as.drop e).drop (((n : Int) - (e : Int)).toNat + ((as.drop n).take m).length)) (r.map (chOf as bs))) ∧ (as.drop e).take ((n : Int) - (e : Int)).toNat ++ (bs.drop n).take m ++ appD ((n : Int) + (((as.drop n).take m).length : Int)) ((as.drop e).drop (((n : Int) - (e : Int)).toNat + ((as.drop n).take m).length)) (r.map (chOf as bs)) = bs.drop e
    rw [l1, ek, ed, show (n : Int) + (m : Int) = ((n + m : Nat) : Int) by omega]
    refine ⟨⟨by omega, by rw [List.length_drop]; omega, by rw [List.drop_drop, show e + (n - e) = n by omega], ih.1⟩, ?_⟩
    rw [ih.2, eq1, List.append_assoc, show bs.drop (n + m) = (bs.drop n).drop m by rw [List.drop_drop], List.take_append_drop, show bs.drop n = (bs.drop e).drop (n - e) by rw [List.drop_drop, show e + (n - e) = n by omega], List.take_append_drop]
theorem fineZ_app {as bs : List Int} (hl : as.length = bs.length) : OccD 0 as ((runsZ (placesN as bs as.length)).map (chOf as bs)) ∧ appD 0 as ((runsZ (placesN as bs as.length)).map (chOf as bs)) = bs := by
  obtain ⟨h1, h2, h3, h4⟩ := places_ok as bs as.length
  have h := fine_app hl (runsZ (placesN as bs as.length)) 0 0 (Int.le_refl _) h1 h3 (fun i _ hd => by
    by_cases hi : i < as.length
    · exact places_cov as bs as.length i hi hd
    · refine absurd ?_ hd
      rw [List.getD_eq_getElem?_getD, List.getD_eq_getElem?_getD, List.getElem?_eq_none (by omega), List.getElem?_eq_none (by omega)]) (Nat.zero_le _)
  exact h
/-! bytes of patches -/
def pbZ : Int → List Ch → List Int
  | _, [] => []
  | e, c :: r => digs (c.1 - e).toNat ++ digs c.2.1.length ++ digs c.2.2.length ++ c.2.1 ++ c.2.2 ++ pbZ (c.1 + c.2.1.length) r
/-- small patches -/
def SmallP (cs : List Ch) : Prop := cs.length ≤ 40 ∧ ∀ c ∈ cs, 0 ≤ c.1 ∧ c.1 < 16000 ∧ c.2.1.length ≤ 40 ∧ c.2.2.length ≤ 40 ∧ Bytes c.2.1 ∧ Bytes c.2.2
theorem digs_bytes : ∀ n : Nat, Bytes (digs n) := by
  intro n
  induction n using Nat.strongRecOn with
  | ind n ih =>
    by_cases c : n > 127
    · rw [digs_big c]
      intro v hv
      rcases List.mem_cons.mp hv with e | e
      · rw [e]; omega
      · exact ih (n / 128) (by omega) v e
    · rw [digs_small c]
      intro v hv
      rw [List.mem_singleton.mp hv]
      omega
theorem pbZ_all : ∀ (cs : List Ch) (e : Int), (∀ c ∈ cs, 0 ≤ c.1 ∧ c.1 < 16000 ∧ c.2.1.length ≤ 40 ∧ c.2.2.length ≤ 40 ∧ Bytes c.2.1 ∧ Bytes c.2.2) → 0 ≤ e → Bytes (pbZ e cs) ∧ (pbZ e cs).length ≤ 100 * cs.length
  | [], e, _, _ => ⟨(fun v hv => by cases hv), Nat.le_refl _⟩
  | c :: r, e, h, he => by
    obtain ⟨h1, h2, h3, h4, h5, h6⟩ := h c List.mem_cons_self
    have ih := pbZ_all r (c.1 + c.2.1.length) (fun c hc => h c (List.mem_cons_of_mem _ hc)) (by omega)
    have d1 := digs_len 1 (c.1 - e).toNat (by show _ < 16384; omega)
    have d2 := digs_len 1 c.2.1.length (by show _ < 16384; omega)
    have d3 := digs_len 1 c.2.2.length (by show _ < 16384; omega)
    refine ⟨?_, ?_⟩
    · show Bytes (digs (c.1 - e).toNat ++ digs c.2.1.length ++ digs c.2.2.length ++ c.2.1 ++ c.2.2 ++ pbZ (c.1 + c.2.1.length) r)
      exact (((((digs_bytes _).app (digs_bytes _)).app (digs_bytes _)).app h5).app h6).app ih.1
    · show (digs (c.1 - e).toNat ++ digs c.2.1.length ++ digs c.2.2.length ++ c.2.1 ++ c.2.2 ++ pbZ (c.1 + c.2.1.length) r).length ≤ 100 * (r.length + 1)
      simp only [List.length_append]
      omega
def hdPZ (cs : List Ch) : List Int := [80, 65] ++ digs cs.length
def bodyZ (cs : List Ch) : List Int := hdPZ cs ++ pbZ 0 cs
def bytesP (cs : List Ch) : List Int := bodyZ cs ++ [crcZ (bodyZ cs) / 256, crcZ (bodyZ cs) % 256]
theorem bodyZ_all {cs : List Ch} (h : SmallP cs) : Bytes (bodyZ cs) ∧ (bodyZ cs).length ≤ 4004 ∧ 3 ≤ (bodyZ cs).length := by
  obtain ⟨h1, h2⟩ := h
  obtain ⟨b, l⟩ := pbZ_all cs 0 h2 (Int.le_refl _)
  have d := digs_len 1 cs.length (by show _ < 16384; omega)
  have d2 := lead_digs cs.length []
  have b2 : Bytes [80, 65] := fun v hv => by
    rcases List.mem_cons.mp hv with e | e
    · rw [e]; decide
    · rw [List.mem_singleton.mp e]; decide
  refine ⟨(b2.app (digs_bytes _)).app b, ?_, ?_⟩
  · show ([80, 65] ++ digs cs.length ++ pbZ 0 cs).length ≤ _
    simp only [List.length_append, List.length_cons, List.length_nil]
    omega
  · show 3 ≤ ([80, 65] ++ digs cs.length ++ pbZ 0 cs).length
    simp only [List.length_append, List.length_cons, List.length_nil]
    omega
theorem bytesP_all {cs : List Ch} (h : SmallP cs) : Bytes (bytesP cs) ∧ (bytesP cs).length ≤ 4006 ∧ (bytesP cs).length = (bodyZ cs).length + 2 := by
  obtain ⟨b, l, _⟩ := bodyZ_all h
  have c := crcZ_nn (bodyZ cs)
  have b2 : Bytes [crcZ (bodyZ cs) / 256, crcZ (bodyZ cs) % 256] := fun v hv => by
    rcases List.mem_cons.mp hv with e | e
    · rw [e]; omega
    · rw [List.mem_singleton.mp e]; omega
  have e : (bytesP cs).length = (bodyZ cs).length + 2 := by
    show (bodyZ cs ++ _).length = _
    rw [List.length_append]
    rfl
  exact ⟨b.app b2, by omega, e⟩
/-- a cut at k of what is written: what stands in front, the changes behind -/
theorem pbZ_more (pre : List Int) (e : Int) (c : Ch) (r : List Ch) : pre ++ pbZ e (c :: r) = (pre ++ digs (c.1 - e).toNat ++ digs c.2.1.length ++ digs c.2.2.length ++ c.2.1 ++ c.2.2) ++ pbZ (c.1 + c.2.1.length) r := by
  show pre ++ (digs (c.1 - e).toNat ++ digs c.2.1.length ++ digs c.2.2.length ++ c.2.1 ++ c.2.2 ++ pbZ (c.1 + c.2.1.length) r) = _
  simp only [List.append_assoc]
theorem opp_small {cs : List Ch} (h : SmallP cs) (hz : ∀ c ∈ opp 0 cs, 0 ≤ c.1 ∧ c.1 < 16000) : SmallP (opp 0 cs) := by
  refine ⟨by rw [opp_len]; exact h.1, fun c hc => ?_⟩
  have key : ∀ (cs : List Ch) (s : Int), (∀ c ∈ cs, 0 ≤ c.1 ∧ c.1 < 16000 ∧ c.2.1.length ≤ 40 ∧ c.2.2.length ≤ 40 ∧ Bytes c.2.1 ∧ Bytes c.2.2) → ∀ c ∈ opp s cs, c.2.1.length ≤ 40 ∧ c.2.2.length ≤ 40 ∧ Bytes c.2.1 ∧ Bytes c.2.2 := by
    intro cs
    induction cs with
    | nil => intro s _ c hc; cases hc
    | cons d r ih =>
      intro s h c hc
      rcases List.mem_cons.mp hc with e | e
      · subst e
        obtain ⟨h1, h2, h3, h4, h5, h6⟩ := h d List.mem_cons_self
        exact ⟨h4, h3, h6, h5⟩
      · exact ih _ (fun c hc => h c (List.mem_cons_of_mem _ hc)) c e
  exact ⟨(hz c hc).1, (hz c hc).2, key cs 0 h.2 c hc⟩
/-- the places of what stands in a list are within it -/
theorem occ_in : ∀ (cs : List Ch) (e : Int) (t : List Int), 0 ≤ e → OccD e t cs → ∀ c ∈ cs, 0 ≤ c.1 ∧ c.1 + c.2.1.length ≤ e + t.length
  | [], _, _, _, _, c, hc => by cases hc
  | d :: r, e, t, he, h, c, hc => by
    obtain ⟨h1, h2, h3, h4⟩ := h
    rcases List.mem_cons.mp hc with q | q
    · subst q
      omega
    · have := occ_in r (d.1 + d.2.1.length) _ (by omega) h4 c q
      rw [List.length_drop] at this
      omega
theorem FitM.opp : ∀ (cs : List Ch) (l s : Int), FitM l cs → FitM (l + s) (Dw.opp s cs)
  | [], _, _, _ => trivial
  | c :: r, l, s, h => by
    obtain ⟨h1, h2, h3, h4, h5, h6, h7⟩ := h
    refine ⟨by show l + s ≤ c.1 + s; omega, h3, h2, h5, h4, Ne.symm h6, ?_⟩
    have := FitM.opp r _ (s + c.2.2.length - c.2.1.length) h7
    have e : c.1 + (c.2.1.length : Int) + 1 + (s + c.2.2.length - c.2.1.length) = c.1 + s + c.2.2.length + 1 := by omega
    rw [e] at this
    exact this
theorem appD_len : ∀ (cs : List Ch) (e : Int) (t : List Int), (∀ c ∈ cs, c.2.2.length ≤ 40) → (appD e t cs).length ≤ t.length + 40 * cs.length
  | [], e, t, _ => Nat.le_add_right _ _
  | c :: r, e, t, h => by
    have ih := appD_len r (c.1 + c.2.1.length) (t.drop ((c.1 - e).toNat + c.2.1.length)) (fun c hc => h c (List.mem_cons_of_mem _ hc))
    have h1 := h c List.mem_cons_self
    show (t.take (c.1 - e).toNat ++ c.2.2 ++ appD (c.1 + c.2.1.length) (t.drop ((c.1 - e).toNat + c.2.1.length)) r).length ≤ t.length + 40 * (r.length + 1)
    rw [List.length_drop] at ih
    simp only [List.length_append, List.length_take]
    omega
theorem Same.put {G H : Hp} {D : Addr} (s : Same G H) (hD : G D = none) (o : HO) : Same G (upd H D o) := fun b u h => by rw [upd_ne (ne_of_none h hD)]; exact s _ _ h
end Dw

/-! bytes as numbers, bits that differ -/
namespace Dw
open PySem PySem.Spec PyProof.Rows L2
def zs (vs : List Nat) : List Int := vs.map fun n : Nat => (n : Int)
theorem zs_len (vs : List Nat) : (zs vs).length = vs.length := List.length_map _
theorem zs_get {vs : List Nat} {k : Nat} : (zs vs).getD k 0 = ((vs.getD k 0 : Nat) : Int) := by
  unfold zs
  rw [List.getD_eq_getElem?_getD, List.getD_eq_getElem?_getD, List.getElem?_map]
  cases vs[k]? <;> rfl
theorem zs_set {vs : List Nat} {k y : Nat} : (zs vs).set k (y : Int) = zs (vs.set k y) := by
  unfold zs
  rw [List.map_set]
theorem zs_nat (vs : List Nat) : (zs vs).map Int.toNat = vs := by
  unfold zs
  rw [List.map_map]
  exact List.map_id'' (fun _ => rfl) vs
theorem crcZ_zs (vs : List Nat) : crcZ (zs vs) = ((crcN vs : Nat) : Int) := by
  unfold crcZ
  rw [zs_nat]
theorem nat_zs : ∀ ns : List Int, Bytes ns → ns = zs (ns.map Int.toNat)
  | [], _ => rfl
  | n :: r, h => by
    have ih := nat_zs r fun x hx => h x (List.mem_cons_of_mem _ hx)
    have hn := h n List.mem_cons_self
    have e : n = ((n.toNat : Nat) : Int) := by omega
    show n :: r = ((n.toNat : Nat) : Int) :: zs (r.map Int.toNat)
    rw [← ih, ← e]
theorem of_zs {ns : List Int} (h : Bytes ns) : ∃ vs : List Nat, ns = zs vs ∧ ∀ v ∈ vs, v < 256 := by
  refine ⟨ns.map Int.toNat, nat_zs ns h, fun v hv => ?_⟩
  · obtain ⟨n, hn, rfl⟩ := List.mem_map.mp hv
    have := h n hn
    omega
theorem bytes_zs {vs : List Nat} (h : ∀ v ∈ vs, v < 256) : Bytes (zs vs) := fun n hn => by
  obtain ⟨v, hv, rfl⟩ := List.mem_map.mp hn
  have := h v hv
  omega
theorem turn_bytes {vs : List Nat} {p : Nat} (h : ∀ v ∈ vs, v < 256) : ∀ v ∈ turnN vs p, v < 256 := by
  intro v hv
  unfold turnN at hv
  rcases List.mem_or_eq_of_mem_set hv with hv | rfl
  · exact h v hv
  · refine xor_lt (k := 8) ?_ ?_
    · rw [List.getD_eq_getElem?_getD]
      cases e : vs[p / 8]? with
      | none => exact (by decide : (0 : Nat) < 2 ^ 8)
      | some v => exact h v (List.mem_of_getElem? e)
    · exact Nat.lt_of_le_of_lt (Nat.div_le_self _ _) (by decide)
theorem turns_bytes : ∀ (ps : List Nat) {vs : List Nat}, (∀ v ∈ vs, v < 256) → ∀ v ∈ ps.foldl turnN vs, v < 256
  | [], _, h => h
  | p :: r, vs, h => by
    rw [List.foldl_cons]
    exact turns_bytes r (turn_bytes h)
theorem turns_len : ∀ (ps : List Nat) {vs : List Nat}, (ps.foldl turnN vs).length = vs.length
  | [], _ => rfl
  | p :: r, vs => by rw [List.foldl_cons, turns_len r, turnN_len]
theorem turns_more {ps : List Nat} {vs : List Nat} {i p : Nat} (h : ps[i]? = some p) : (ps.take (i + 1)).foldl turnN vs = turnN ((ps.take i).foldl turnN vs) p := by
  rw [take_more h, List.foldl_append]
  rfl
def bitB (vs : List Nat) (x : Nat) : Bool := (vs.getD (x / 8) 0).testBit (7 - x % 8)
theorem pow_div : ∀ r, r < 8 → 128 / 2 ^ r = 2 ^ (7 - r) := by decide
theorem bit_turn {vs : List Nat} {p x : Nat} (hp : p < 8 * vs.length) : bitB (turnN vs p) x = (bitB vs x ^^ decide (x = p)) := by
  unfold bitB turnN
  rw [pow_div _ (by omega)]
  by_cases h : x / 8 = p / 8
  · rw [h, List.getD_eq_getElem?_getD, List.getElem?_set_self (by omega), Option.getD_some, Nat.testBit_xor, Nat.testBit_two_pow]
    congr 1
    rw [Bool.eq_iff_iff, decide_eq_true_eq, decide_eq_true_eq]
    omega
  · rw [List.getD_eq_getElem?_getD, List.getElem?_set_ne (by omega), ← List.getD_eq_getElem?_getD, decide_eq_false (fun e => h (by rw [e])), Bool.xor_false]
theorem bit_turns : ∀ (ps : List Nat) {vs : List Nat} {x : Nat}, ps.Nodup → (∀ p ∈ ps, p < 8 * vs.length) → bitB (ps.foldl turnN vs) x = (bitB vs x ^^ decide (x ∈ ps))
  | [], vs, x, _, _ => by rw [List.foldl_nil, decide_eq_false (by simp), Bool.xor_false]
  | p :: r, vs, x, hn, h => by
    rw [List.foldl_cons, bit_turns r (List.nodup_cons.mp hn).2 (fun q hq => by rw [turnN_len]; exact h q (List.mem_cons_of_mem _ hq)), bit_turn (h p List.mem_cons_self), Bool.xor_assoc]
    congr 1
    have hm := (List.nodup_cons.mp hn).1
    by_cases e : x = p
    · subst e
      rw [decide_eq_true rfl, decide_eq_false hm, decide_eq_true List.mem_cons_self]
      rfl
    · rw [decide_eq_false e, Bool.false_xor, Bool.eq_iff_iff, decide_eq_true_eq, decide_eq_true_eq, List.mem_cons]
      exact ⟨.inr, fun h => h.elim (fun h => absurd h e) id⟩
/-- the bits that differ, up to n -/
def diffN (as bs : List Nat) (n : Nat) : List Nat := (List.range n).filter fun x => bitB as x != bitB bs x
theorem diff_turns {ps vs : List Nat} {n : Nat} (hn : ps.Nodup) (h : ∀ p ∈ ps, p < 8 * vs.length) : diffN (ps.foldl turnN vs) vs n = (List.range n).filter fun x => decide (x ∈ ps) := by
  unfold diffN
  refine List.filter_congr fun x _ => ?_
  rw [bit_turns ps hn h]
  cases bitB vs x <;> cases decide (x ∈ ps) <;> rfl
def xbit (a b : Nat) (k : Nat) : Bool := decide ((a ^^^ b) / 2 ^ (7 - k) % 2 ≠ 0)
theorem xbit_eq (a b k : Nat) : xbit a b k = (a.testBit (7 - k) != b.testBit (7 - k)) := by
  unfold xbit
  have h := Nat.testBit_xor a b (7 - k)
  have h2 : (a ^^^ b).testBit (7 - k) = decide ((a ^^^ b) / 2 ^ (7 - k) % 2 ≠ 0) := by
    rw [Nat.testBit_eq_decide_div_mod_eq]
    rw [Bool.eq_iff_iff, decide_eq_true_eq, decide_eq_true_eq]
    omega
  rw [← h2, h]
theorem diff_step (as bs : List Nat) (n : Nat) : diffN as bs (8 * (n + 1)) = diffN as bs (8 * n) ++ ((List.range 8).filter (xbit (as.getD n 0) (bs.getD n 0))).map fun k => 8 * n + k := by
  unfold diffN
  rw [Nat.mul_succ, List.range_add, List.filter_append, List.filter_map]
  congr 2
  refine List.filter_congr fun k hk => ?_
  have hk8 := List.mem_range.mp hk
  show (bitB as (8 * n + k) != bitB bs (8 * n + k)) = _
  rw [xbit_eq]
  unfold bitB
  rw [show (8 * n + k) / 8 = n by omega, show (8 * n + k) % 8 = k by omega]
theorem diff_len (as bs : List Nat) (n : Nat) : (diffN as bs n).length ≤ n := by
  unfold diffN
  have := List.length_filter_le (fun x => bitB as x != bitB bs x) (List.range n)
  rwa [List.length_range] at this
theorem sorted_eq : ∀ {a b : List Int}, a.Pairwise (· < ·) → b.Pairwise (· < ·) → (∀ x, x ∈ a ↔ x ∈ b) → a = b
  | [], [], _, _, _ => rfl
  | [], y :: _, _, _, h => absurd ((h y).mpr List.mem_cons_self) (by simp)
  | x :: _, [], _, _, h => absurd ((h x).mp List.mem_cons_self) (by simp)
  | x :: a, y :: b, ha, hb, h => by
    obtain ⟨ha1, ha2⟩ := List.pairwise_cons.mp ha
    obtain ⟨hb1, hb2⟩ := List.pairwise_cons.mp hb
    have e : x = y := by
      rcases List.mem_cons.mp ((h x).mp List.mem_cons_self) with e | e
      · exact e
      · rcases List.mem_cons.mp ((h y).mpr List.mem_cons_self) with e2 | e2
        · exact e2.symm
        · have := ha1 y e2
          have := hb1 x e
          omega
    subst e
    congr 1
    refine sorted_eq ha2 hb2 fun z => ⟨fun hz => ?_, fun hz => ?_⟩
    · rcases List.mem_cons.mp ((h z).mp (List.mem_cons_of_mem _ hz)) with e | e
      · have := ha1 z hz
        omega
      · exact e
    · rcases List.mem_cons.mp ((h z).mpr (List.mem_cons_of_mem _ hz)) with e | e
      · have := hb1 z hz
        omega
      · exact e
/-- sorted numbers without doubles are those of a range that are among them -/
theorem sorted_range {ps : List Nat} {ns : List Int} {n : Nat} (hn : ps.Nodup) (hp : ∀ p ∈ ps, p < n) (h1 : ns.Perm (zs ps)) (h2 : ns.Pairwise (· ≤ ·)) : ns = zs ((List.range n).filter fun x => decide (x ∈ ps)) := by
  have hz : (zs ps).Nodup := by
    unfold zs
    refine List.Pairwise.map _ (fun a b h e => h ?_) hn
    omega
  have hn2 : ns.Nodup := h1.nodup_iff.mpr hz
  refine sorted_eq ((h2.and hn2).imp fun h => by have h3 := h.2; have h4 := h.1; omega) ?_ fun x => ?_
  · unfold zs
    refine List.Pairwise.map _ (fun a b (h : a < b) => by omega) ?_
    exact List.Pairwise.filter _ List.pairwise_lt_range
  · rw [h1.mem_iff]
    unfold zs
    simp only [List.mem_map, List.mem_filter, List.mem_range, decide_eq_true_eq]
    constructor
    · rintro ⟨p, hp2, rfl⟩
      exact ⟨p, ⟨hp p hp2, hp2⟩, rfl⟩
    · rintro ⟨p, ⟨_, hp2⟩, rfl⟩
      exact ⟨p, hp2, rfl⟩
theorem xor_tab : ((List.range 256).all fun v => (List.range 8).all fun j => decide (v + 2 ^ j - 2 * 2 ^ j * (v / 2 ^ j % 2) = v ^^^ 2 ^ j) && decide (2 * 2 ^ j * (v / 2 ^ j % 2) ≤ v + 2 ^ j)) = true := by decide +kernel
theorem xor_at {v j : Nat} (hv : v < 256) (hj : j < 8) : v + 2 ^ j - 2 * 2 ^ j * (v / 2 ^ j % 2) = v ^^^ 2 ^ j ∧ 2 * 2 ^ j * (v / 2 ^ j % 2) ≤ v + 2 ^ j := by
  have h := List.all_eq_true.mp (List.all_eq_true.mp xor_tab v (List.mem_range.mpr hv)) j (List.mem_range.mpr hj)
  rw [Bool.and_eq_true, decide_eq_true_eq, decide_eq_true_eq] at h
  exact h
/-! a case: a disc, no dumps, no plan, known CRCs -/
def kvI (cs : List (Nat × Nat)) : List (Key × V) := cs.map fun c => (.inl (c.1 : Int), .int (c.2 : Int))
def CaseAt (CD CB : Addr) (H : Hp) (x : Addr) (z : Nat) (bs : List Bk) (kvs : List (Key × V)) : Prop := ∃ dx d t1 t2 m, H x = some (.ins CD dx [("disc", .ref d), ("dumps", .ref t1), ("plan", .ref t2), ("crcs", .ref m)]) ∧ DiscAt CB H d z bs ∧ H t1 = some (.tup []) ∧ H t2 = some (.tup []) ∧ H m = some (.dK kvs)
theorem CaseAt.same {CD CB : Addr} {H H' : Hp} {x : Addr} {z : Nat} {bs : List Bk} {kvs : List (Key × V)} (s : Same H H') (h : CaseAt CD CB H x z bs kvs) : CaseAt CD CB H' x z bs kvs := by
  obtain ⟨dx, d, t1, t2, m, h1, h2, h3, h4, h5⟩ := h
  exact ⟨dx, d, t1, t2, m, s _ _ h1, h2.same s, s _ _ h3, s _ _ h4, s _ _ h5⟩
end Dw
namespace Dw
open PySem PySem.Spec PyProof.Rows L2
/-- the truth of an int -/
def tTruI (ta : TE) : TT := fun σ H Q => ta σ H fun x H' => ∃ i : Int, x = .int i ∧ Q (decide (i ≠ 0)) H'
theorem pt_truI {X : Cx} {a : Expr} {ta : TE} (ha : PE X a ta) (he : ∀ whole, isTrue a X.env whole = (do let v ← whole; standAt a.pos; holding [v] (truthy v))) : PT X a (tTruI ta) := by
  refine ⟨fun pins s σ H Q I h => ?_⟩
  refine isTrue_plain (thn (ha.run pins s σ H _ I h) fun v s1 ⟨x, H1, I1, r1, q1⟩ => ?_) (he _)
  obtain ⟨i, rfl, q⟩ := q1
  refine tru_ok pins s1 σ H1 _ v Q I1 r1 ⟨_, ?_, q⟩
  show decide (i ≠ 0) = (i != 0)
  by_cases c : i = 0
  · subst c; rfl
  · rw [decide_eq_true c]; simp [c]
end Dw

/-! unknown bits: what a bit does to a CRC, places set one after another -/
namespace Dw
open PySem PySem.Spec PyProof.Rows L2
def itS : Nat → Nat → Nat
  | 0, n => n
  | k + 1, n => itS k (stepB n 0)
theorem itS_add : ∀ (a b n : Nat), itS (a + b) n = itS b (itS a n)
  | 0, b, n => by rw [Nat.zero_add]; rfl
  | a + 1, b, n => by
    rw [show a + 1 + b = (a + b) + 1 by omega]
    exact itS_add a b (stepB n 0)
theorem itS_lt : ∀ (k : Nat) {n : Nat}, n < 65536 → itS k n < 65536
  | 0, _, h => h
  | k + 1, n, _ => itS_lt k (stepB_lt n 0)
theorem byte_it {n : Nat} (h : n < 65536) : byteP n 0 = itS 8 n := by
  rw [← byte_eq h (by decide)]
  unfold byteB
  simp only [Nat.zero_div, Nat.zero_mod]
  rfl
theorem bit_it : ∀ r, r < 8 → byteP 0 (2 ^ (7 - r)) = itS (7 - r) 4129 := by decide +kernel
theorem fold_it : ∀ (B : List Nat) {m : Nat}, m < 65536 → (B.map fun _ => 0).foldl byteP m = itS (8 * B.length) m
  | [], _, _ => rfl
  | b :: r, m, h => by
    show (r.map fun _ => 0).foldl byteP (byteP m 0) = itS (8 * (r.length + 1)) m
    rw [byte_it h, fold_it r (itS_lt 8 h), show 8 * (r.length + 1) = 8 + 8 * r.length by omega, itS_add]
theorem fold_lin : ∀ (B : List Nat) (n m : Nat), B.foldl byteP (n ^^^ m) = B.foldl byteP n ^^^ (B.map fun _ => 0).foldl byteP m
  | [], _, _ => rfl
  | b :: r, n, m => by
    have h := byteP_xor n m b 0
    rw [Nat.xor_zero] at h
    show r.foldl byteP (byteP (n ^^^ m) b) = r.foldl byteP (byteP n b) ^^^ (r.map fun _ => 0).foldl byteP (byteP m 0)
    rw [h, fold_lin r]
/-- what the bit at a place does -/
def chg (len p : Nat) : Nat := itS (8 * len - 1 - p) 4129
theorem chg_lt (len p : Nat) : chg len p < 65536 := itS_lt _ (by decide)
theorem crcN_turn {vs : List Nat} {p : Nat} (h : p < 8 * vs.length) : crcN (turnN vs p) = crcN vs ^^^ chg vs.length p := by
  have hk : p / 8 < vs.length := by omega
  have hv : vs = vs.take (p / 8) ++ vs.getD (p / 8) 0 :: vs.drop (p / 8 + 1) := by
    rw [List.getD_eq_getElem?_getD, List.getElem?_eq_getElem hk]
    show vs = vs.take (p / 8) ++ vs[p / 8] :: vs.drop (p / 8 + 1)
    rw [← List.drop_eq_getElem_cons hk, List.take_append_drop]
  have ht : turnN vs p = vs.take (p / 8) ++ (vs.getD (p / 8) 0 ^^^ 2 ^ (7 - p % 8)) :: vs.drop (p / 8 + 1) := by
    unfold turnN
    rw [pow_div _ (Nat.mod_lt _ (by decide)), List.set_eq_take_append_cons_drop, if_pos hk]
  have hl : vs.length = p / 8 + 1 + (vs.drop (p / 8 + 1)).length := by rw [List.length_drop]; omega
  generalize vs.drop (p / 8 + 1) = B at hv ht hl
  generalize vs.getD (p / 8) 0 = v at hv ht
  generalize vs.take (p / 8) = A at hv ht
  rw [ht]
  unfold chg
  rw [show 8 * vs.length - 1 - p = (7 - p % 8) + 8 * B.length by omega, itS_add, ← bit_it _ (Nat.mod_lt _ (by decide)), ← fold_it B (byteP_lt _ _)]
  rw [hv]
  unfold crcN
  rw [List.foldl_append, List.foldl_append]
  show B.foldl byteP (byteP _ (v ^^^ 2 ^ (7 - p % 8))) = B.foldl byteP (byteP _ v) ^^^ _
  have h2 := byteP_xor (A.foldl byteP 65535) 0 v (2 ^ (7 - p % 8))
  rw [Nat.xor_zero] at h2
  rw [h2, fold_lin]
theorem turn_len (vs : List Nat) (p : Nat) : (turnN vs p).length = vs.length := List.length_set
/-- the bit at a place made b -/
def setB (vs : List Nat) (p : Nat) (b : Bool) : List Nat := if bitB vs p = b then vs else turnN vs p
theorem setB_len (vs : List Nat) (p : Nat) (b : Bool) : (setB vs p b).length = vs.length := by
  unfold setB
  split
  · rfl
  · exact turn_len _ _
theorem setB_bytes {vs : List Nat} {p : Nat} {b : Bool} (h : ∀ v ∈ vs, v < 256) : ∀ v ∈ setB vs p b, v < 256 := by
  unfold setB
  split
  · exact h
  · exact turn_bytes h
theorem setB_bit {vs : List Nat} {p x : Nat} {b : Bool} (hp : p < 8 * vs.length) : bitB (setB vs p b) x = if x = p then b else bitB vs x := by
  unfold setB
  by_cases c : bitB vs p = b
  · rw [if_pos c]
    by_cases q : x = p
    · rw [if_pos q, q, c]
    · rw [if_neg q]
  · rw [if_neg c, bit_turn hp]
    by_cases q : x = p
    · rw [if_pos q, q, decide_eq_true rfl]
      revert c
      cases bitB vs p <;> cases b <;> simp
    · rw [if_neg q, decide_eq_false q, Bool.xor_false]
/-- places, the newest first, set as the bits of c say -/
def sets (vs : List Nat) : List Nat → Nat → List Nat
  | [], _ => vs
  | p :: r, c => setB (sets vs r c) p (c.testBit r.length)
theorem sets_len (vs : List Nat) : ∀ (pl : List Nat) (c : Nat), (sets vs pl c).length = vs.length
  | [], _ => rfl
  | p :: r, c => by
    show (setB _ _ _).length = _
    rw [setB_len, sets_len vs r c]
theorem sets_bytes {vs : List Nat} (h : ∀ v ∈ vs, v < 256) : ∀ (pl : List Nat) (c : Nat), ∀ v ∈ sets vs pl c, v < 256
  | [], _ => h
  | p :: r, c => setB_bytes (sets_bytes h r c)
def bo : List Nat → Nat → Nat → Option Bool
  | [], _, _ => none
  | p :: r, c, x => if x = p then some (c.testBit r.length) else bo r c x
theorem sets_bit {vs : List Nat} : ∀ {pl : List Nat} (c x : Nat), (∀ p ∈ pl, p < 8 * vs.length) → bitB (sets vs pl c) x = (bo pl c x).getD (bitB vs x)
  | [], _, _, _ => rfl
  | p :: r, c, x, h => by
    show bitB (setB _ _ _) x = _
    rw [setB_bit (by rw [sets_len]; exact h p List.mem_cons_self), sets_bit c x fun q hq => h q (List.mem_cons_of_mem _ hq)]
    show _ = (if x = p then some (c.testBit r.length) else bo r c x).getD (bitB vs x)
    by_cases q : x = p
    · rw [if_pos q, if_pos q]; rfl
    · rw [if_neg q, if_neg q]
/-- the places that c chooses -/
def chs : List Nat → Nat → List Nat
  | [], _ => []
  | p :: r, c => chs r c ++ if c.testBit r.length then [p] else []
theorem chs_sub : ∀ (pl : List Nat) (c : Nat), ∀ x ∈ chs pl c, x ∈ pl
  | [], _, x, h => by cases h
  | p :: r, c, x, h => by
    rcases List.mem_append.mp h with q | q
    · exact List.mem_cons_of_mem _ (chs_sub r c x q)
    · split at q
      · rw [List.mem_singleton.mp q]
        exact List.mem_cons_self
      · cases q
theorem chs_nodup : ∀ {pl : List Nat} (c : Nat), pl.Nodup → (chs pl c).Nodup
  | [], _, _ => List.nodup_nil
  | p :: r, c, h => by
    obtain ⟨h1, h2⟩ := List.nodup_cons.mp h
    refine List.nodup_append.mpr ⟨chs_nodup c h2, by split <;> simp, fun x hx y hy e => ?_⟩
    split at hy
    · rw [List.mem_singleton.mp hy] at e
      subst e
      exact h1 (chs_sub r c x hx)
    · cases hy
theorem bo_chs : ∀ {pl : List Nat} (c x : Nat), pl.Nodup → (x ∈ chs pl c ↔ bo pl c x = some true)
  | [], _, _, _ => ⟨(fun h => by cases h), (fun h => by cases h)⟩
  | p :: r, c, x, h => by
    obtain ⟨h1, h2⟩ := List.nodup_cons.mp h
    have ih := bo_chs c x h2
    show x ∈ chs r c ++ (if c.testBit r.length then [p] else []) ↔ (if x = p then some (c.testBit r.length) else bo r c x) = some true
    by_cases q : x = p
    · subst q
      rw [if_pos rfl, List.mem_append]
      constructor
      · rintro (g | g)
        · exact absurd (chs_sub r c x g) h1
        · split at g
          · rename_i e; rw [e]
          · cases g
      · intro e
        rw [Option.some.inj e, if_pos rfl]
        exact .inr (List.mem_singleton.mpr rfl)
    · rw [if_neg q, List.mem_append, ← ih]
      constructor
      · rintro (g | g)
        · exact g
        · split at g
          · exact absurd (List.mem_singleton.mp g) q
          · cases g
      · exact .inl
theorem bo_none : ∀ (pl : List Nat) (c x : Nat), bo pl c x = none → bo pl 0 x = none
  | [], _, _, _ => rfl
  | p :: r, c, x, h => by
    unfold bo at h ⊢
    split at h
    · cases h
    · rename_i q
      rw [if_neg q]
      exact bo_none r c x h
theorem bo_zero : ∀ (pl : List Nat) (c x : Nat) {b : Bool}, bo pl c x = some b → bo pl 0 x = some false
  | [], _, _, _, h => by cases h
  | p :: r, c, x, b, h => by
    unfold bo at h ⊢
    split at h
    · rename_i q
      rw [if_pos q, Nat.zero_testBit]
    · rename_i q
      rw [if_neg q]
      exact bo_zero r c x h
theorem bits_ext {as bs : List Nat} (hl : as.length = bs.length) (ha : ∀ v ∈ as, v < 256) (hb : ∀ v ∈ bs, v < 256) (h : ∀ x, x < 8 * as.length → bitB as x = bitB bs x) : as = bs := by
  refine List.ext_getElem hl fun i h1 h2 => ?_
  apply Nat.eq_of_testBit_eq
  intro j
  by_cases c : j < 8
  · have := h (8 * i + (7 - j)) (by omega)
    unfold bitB at this
    rw [show (8 * i + (7 - j)) / 8 = i by omega, show 7 - (8 * i + (7 - j)) % 8 = j by omega, List.getD_eq_getElem?_getD, List.getD_eq_getElem?_getD, List.getElem?_eq_getElem h1, List.getElem?_eq_getElem h2] at this
    exact this
  · have e1 := ha _ (List.getElem_mem h1)
    have e2 := hb _ (List.getElem_mem h2)
    rw [Nat.testBit_lt_two_pow (Nat.lt_of_lt_of_le e1 (show 256 ≤ 2 ^ j from Nat.pow_le_pow_right (n := 2) (by decide) (show 8 ≤ j by omega))), Nat.testBit_lt_two_pow (Nat.lt_of_lt_of_le e2 (show 256 ≤ 2 ^ j from Nat.pow_le_pow_right (n := 2) (by decide) (show 8 ≤ j by omega)))]
/-- cleared, then the chosen turned: as if set -/
theorem sets_turns {vs pl : List Nat} (c : Nat) (hv : ∀ v ∈ vs, v < 256) (hn : pl.Nodup) (hp : ∀ p ∈ pl, p < 8 * vs.length) : (chs pl c).foldl turnN (sets vs pl 0) = sets vs pl c := by
  refine bits_ext (by rw [turns_len, sets_len, sets_len]) (turns_bytes _ (sets_bytes hv _ _)) (sets_bytes hv _ _) fun x _ => ?_
  rw [bit_turns _ (chs_nodup c hn) (fun q hq => by rw [sets_len]; exact hp q (chs_sub pl c q hq)), sets_bit c x hp, sets_bit 0 x hp]
  cases h : bo pl c x with
  | none =>
    rw [bo_none pl c x h, decide_eq_false (fun m => by rw [bo_chs c x hn, h] at m; cases m), Bool.xor_false]
  | some b =>
    rw [bo_zero pl c x h]
    cases b with
    | true =>
      rw [decide_eq_true ((bo_chs c x hn).mpr h)]
      rfl
    | false =>
      rw [decide_eq_false (fun m => by rw [bo_chs c x hn, h] at m; cases m)]
      rfl
theorem crcN_turns : ∀ (ps : List Nat) {vs : List Nat}, (∀ p ∈ ps, p < 8 * vs.length) → crcN (ps.foldl turnN vs) = ps.foldl (fun d p => d ^^^ chg vs.length p) (crcN vs)
  | [], _, _ => rfl
  | p :: r, vs, h => by
    show crcN (r.foldl turnN (turnN vs p)) = r.foldl (fun d p => d ^^^ chg vs.length p) (crcN vs ^^^ chg vs.length p)
    rw [crcN_turns r (by rw [turn_len]; exact fun q hq => h q (List.mem_cons_of_mem _ hq)), turn_len, crcN_turn (h p List.mem_cons_self)]
theorem fold_chs (g : Nat → Nat) : ∀ (pl : List Nat) (c d : Nat), (chs pl c).foldl (fun d p => d ^^^ g p) d = d ^^^ comb (pl.map g) c
  | [], _, d => (Nat.xor_zero d).symm
  | p :: r, c, d => by
    show (chs r c ++ if c.testBit r.length then [p] else []).foldl _ d = d ^^^ ((if c.testBit (r.map g).length then g p else 0) ^^^ comb (r.map g) c)
    rw [List.foldl_append, fold_chs g r c d, List.length_map]
    by_cases q : c.testBit r.length = true
    · rw [if_pos q, if_pos q]
      show d ^^^ comb (r.map g) c ^^^ g p = _
      rw [xor_right, Nat.xor_assoc]
    · rw [if_neg q, if_neg q, Nat.zero_xor]
      rfl
/-- the CRC of what is set -/
theorem crc_sets {vs pl : List Nat} (c : Nat) (hv : ∀ v ∈ vs, v < 256) (hn : pl.Nodup) (hp : ∀ p ∈ pl, p < 8 * vs.length) : crcN (sets vs pl c) = crcN (sets vs pl 0) ^^^ comb (pl.map (chg vs.length)) c := by
  rw [← sets_turns c hv hn hp, crcN_turns _ (fun q hq => by rw [sets_len]; exact hp q (chs_sub pl c q hq)), sets_len]
  exact fold_chs _ _ _ _
/-- all rows that the law draws up -/
def rowsAll (vs pl : List Nat) : List (List Nat) := (chAll pl.length).map (sets vs pl)
theorem rows_snoc (vs pl : List Nat) (p : Nat) : rowsAll vs (p :: pl) = (rowsAll vs pl).flatMap fun r => [setB r p false, setB r p true] := by
  unfold rowsAll
  show ((chAll pl.length).flatMap fun c => [c, c + 2 ^ pl.length]).map (sets vs (p :: pl)) = ((chAll pl.length).map (sets vs pl)).flatMap _
  have key : ∀ L : List Nat, (∀ c ∈ L, c < 2 ^ pl.length) → (L.flatMap fun c => [c, c + 2 ^ pl.length]).map (sets vs (p :: pl)) = (L.map (sets vs pl)).flatMap fun r => [setB r p false, setB r p true] := by
    intro L
    induction L with
    | nil => intro _; rfl
    | cons c r ih =>
      intro h
      have hc := h c List.mem_cons_self
      rw [List.flatMap_cons, List.map_append, ih fun q hq => h q (List.mem_cons_of_mem _ hq)]
      show _ = [setB (sets vs pl c) p false, setB (sets vs pl c) p true] ++ (r.map (sets vs pl)).flatMap _
      congr 1
      show [setB (sets vs pl c) p (c.testBit pl.length), setB (sets vs pl (c + 2 ^ pl.length)) p ((c + 2 ^ pl.length).testBit pl.length)] = _
      have e1 : c.testBit pl.length = false := Nat.testBit_lt_two_pow hc
      have e2 : (c + 2 ^ pl.length).testBit pl.length = true := by rw [Nat.add_comm, Nat.testBit_two_pow_add_eq, e1]; rfl
      have e3 : ∀ (q : List Nat), q.length ≤ pl.length → sets vs q (c + 2 ^ pl.length) = sets vs q c := by
        intro q
        induction q with
        | nil => intro _; rfl
        | cons a t iq =>
          intro hq
          have hq : t.length + 1 ≤ pl.length := hq
          show setB (sets vs t (c + 2 ^ pl.length)) a ((c + 2 ^ pl.length).testBit t.length) = setB (sets vs t c) a (c.testBit t.length)
          rw [iq (by omega), Nat.add_comm c, Nat.testBit_two_pow_add_gt (by omega)]
      rw [e1, e2, e3 pl (Nat.le_refl _)]
  exact key _ (chAll_lt _)
/-- how many of them have the CRC -/
theorem rows_count {vs pl : List Nat} {wd : Nat} (hv : ∀ v ∈ vs, v < 256) (hn : pl.Nodup) (hp : ∀ p ∈ pl, p < 8 * vs.length) : (rowsAll vs pl).countP (fun r => decide (crcN r = wd)) = cnt (pl.map (chg vs.length)) (crcN (sets vs pl 0) ^^^ wd) := by
  rw [cnt_all, List.length_map]
  unfold rowsAll
  rw [List.countP_map]
  refine List.countP_congr fun c _ => ?_
  simp only [Function.comp_apply, decide_eq_true_eq]
  rw [crc_sets c hv hn hp]
  constructor
  · intro e
    rw [← e, ← Nat.xor_assoc, Nat.xor_self, Nat.zero_xor]
  · intro e
    rw [e, ← Nat.xor_assoc, Nat.xor_self, Nat.zero_xor]
/-- one alone -/
theorem rows_one {vs pl : List Nat} {wd c : Nat} (hv : ∀ v ∈ vs, v < 256) (hn : pl.Nodup) (hp : ∀ p ∈ pl, p < 8 * vs.length) (h1 : cnt (pl.map (chg vs.length)) (crcN (sets vs pl 0) ^^^ wd) = 1) (hc : c < 2 ^ pl.length) (h2 : comb (pl.map (chg vs.length)) c = crcN (sets vs pl 0) ^^^ wd) : (rowsAll vs pl).filter (fun r => decide (crcN r = wd)) = [sets vs pl c] := by
  have hl := rows_count (wd := wd) hv hn hp
  rw [h1, List.countP_eq_length_filter] at hl
  have hm : sets vs pl c ∈ (rowsAll vs pl).filter (fun r => decide (crcN r = wd)) := List.mem_filter.mpr ⟨List.mem_map.mpr ⟨c, chAll_mem _ c hc, rfl⟩, by
    rw [crc_sets c hv hn hp, h2, ← Nat.xor_assoc, Nat.xor_self, Nat.zero_xor]
    exact decide_eq_true rfl⟩
  match hf : (rowsAll vs pl).filter (fun r => decide (crcN r = wd)), hl with
  | [r], _ =>
    rw [hf] at hm
    rw [List.mem_singleton.mp hm]
end Dw

/-! tuples of ints: slices and + read in one way, whole or not -/
namespace Dw
open PySem PySem.Spec PyProof.Rows L2
def rSlTU : V → Option Int → Option Int → Hp → VK → Prop := fun x lo hi H Q => ∃ (a : Addr) (ns : List Int), x = .ref a ∧ H a = some (.tup (ns.map V.int)) ∧ ∀ q H', Same H H' → H' q = some (.tup ((cutI ns lo hi).map V.int)) → Q (.ref q) H'
theorem sl_tupU {X : Cx} : SlR X rSlTU := SlR.imp sl_tupA fun x lo hi H Q h => by
  obtain ⟨a, ns, e, h1, q⟩ := h
  refine ⟨a, _, e, .of h1, fun hw => q a H (.refl _) ?_, fun _ p hp => q p _ (same_new hp _) (by rw [upd_same, cutV_int])⟩
  rw [List.length_map] at hw
  unfold cutI
  rw [hw.1, hw.2, List.drop_zero, Nat.sub_zero, List.take_length]
  exact h1
def rCatTU : R2 := fun x y H Q => ∃ (a b : Addr) (ns ms : List Int), x = .ref a ∧ y = .ref b ∧ H a = some (.tup (ns.map V.int)) ∧ H b = some (.tup (ms.map V.int)) ∧ ns.length + ms.length ≤ sizeLine ∧ ∀ q H', Same H H' → H' q = some (.tup ((ns ++ ms).map V.int)) → Q (.ref q) H'
theorem op_catU {X : Cx} : OpR X (binaryOp .Add) rCatTU := OpR.imp op_catA fun x y H Q h => by
  obtain ⟨a, b, ns, ms, e1, e2, h1, h2, hl, q⟩ := h
  refine ⟨a, b, _, _, e1, e2, .of h1, .of h2, by rw [List.length_map, List.length_map]; exact hl, fun hx => q b H (.refl _) ?_, fun hx hy => q a H (.refl _) ?_, fun _ _ p hp => q p _ (same_new hp _) (by rw [upd_same, List.map_append])⟩
  · have : ns = [] := by cases ns with | nil => rfl | cons _ _ => cases hx
    subst this
    exact h2
  · have : ms = [] := by cases ms with | nil => rfl | cons _ _ => cases hy
    subst this
    rw [List.append_nil]
    exact h1
theorem cutI_last1 (ns : List Int) : cutI ns (some (-1)) none = ns.drop (ns.length - 1) := by
  unfold cutI
  have h1 : HT.sIx ns.length ns.length none = ns.length := rfl
  have h2 : HT.sIx ns.length 0 (some (-1)) = ns.length - 1 := by
    unfold HT.sIx
    simp
    omega
  rw [h1, h2, List.take_of_length_le (by rw [List.length_drop]; omega)]
end Dw

/-! comprehensions over any walk: what is made, item by item -/
namespace Dw
open PySem PySem.Spec PyProof.Rows L2
theorem lc_all {α : Type} {J : It} {n : Nat} {G : Hp → Prop} {Y : Nat → Hp → V → Hp → Prop} (w : Walk J n G Y) {g : TG} {te : TE} {vs : List Nat} {σ : L2.St} {H1 : Hp} {D : Addr} {Qd : Hp → Prop} (R : Hp → V → α → Prop) (ss : List α)
    (hn : n ≤ 16777215) (hD : H1 D = none) (hl : ss.length = n) (hG : ∀ H', Same H1 H' → G H')
    (hR : ∀ H H' v s, Same H H' → R H v s → R H' v s)
    (hu : ∀ H ys v s o, H D = some (.lst ys) → v ≠ .ref D → R H v s → R (L2.upd H D o) v s)
    (hte : ∀ i x s H3 H' (Q' : VK) ys, i < n → Y i H3 x H' → ss[i]? = some s → Same H1 H3 → H3 D = some (.lst ys) → (∀ y H4, Same H3 H4 → y ≠ .ref D → R H4 y s → Q' y H4) → g x (wipe σ vs) H' fun σ2 H2 => wipe σ2 vs = wipe σ vs ∧ te σ2 H2 Q')
    (hd : ∀ ys H', Same H1 H' → H' D = some (.lst ys) → AllAt (R H') ys ss → Qd H') : LcW J g tYes te vs σ H1 D Qd := by
  refine lc_it w (fun i H' => Same H1 H' ∧ ∃ ys, H' D = some (.lst ys) ∧ AllAt (fun v s => R H' v s ∧ v ≠ .ref D) ys (ss.take i)) ⟨same_new hD _, [], upd_same, .nil⟩ (fun i H' _ h => hG H' h.1) ?_ ?_
  · intro i x H3 H' hi h hy
    obtain ⟨s1, ys, e1, hys⟩ := h
    have hs : ss[i]? = some (ss[i]'(by omega)) := List.getElem?_eq_getElem (by omega)
    have hyl := hys.1
    rw [List.length_take] at hyl
    simp only [tYes, if_true]
    refine hte i x _ H3 H' _ ys hi hy hs s1 e1 fun y H4 s4 hy4 hr => ?_
    refine ⟨ys, s4 _ _ e1, line_lt (by omega), fun b o hb => by rw [upd_ne (ne_of_none hb hD)]; exact s4 _ _ (s1 b o hb), ys ++ [y], upd_same, ?_⟩
    rw [take_more hs]
    exact (hys.imp fun v s h => ⟨hu _ _ _ _ _ (s4 _ _ e1) h.2 (hR _ _ _ _ s4 h.1), h.2⟩).push ⟨hu _ _ _ _ _ (s4 _ _ e1) hy4 hr, hy4⟩
  · intro H' h
    obtain ⟨s1, ys, e1, hys⟩ := h
    rw [← hl, List.take_length] at hys
    exact hd ys H' s1 e1 (hys.imp fun _ _ h => h.1)
/-- the same where the pool is drawn from -/
theorem lc_allP {α : Type} {J : It} {n : Nat} {G : Hp → Prop} {Y : Nat → Hp → V → Hp → Prop} (w : Walk J n G Y) {p q : Addr} {g : TG} {te : TE} {vs : List Nat} {σ : L2.St} {H1 : Hp} {D : Addr} {Qd : Hp → Prop} (R : Hp → V → α → Prop) (T : Nat → α → Prop)
    (hn : n ≤ 16777215) (hP : Pool H1 p q) (hD : H1 D = none) (hG : ∀ H', SameB p H1 H' → G H')
    (hR : ∀ H H' v s, Pool H p q → SameB p H H' → R H v s → R H' v s)
    (hu : ∀ H ys v s o, H D = some (.lst ys) → v ≠ .ref D → R H v s → R (L2.upd H D o) v s)
    (hte : ∀ i x H3 H' (Q' : VK) ys, i < n → Y i H3 x H' → Pool H3 p q → SameB p H1 H3 → H3 D = some (.lst ys) → p ≠ D → (∀ y s H4, T i s → Pool H4 p q → SameB p H3 H4 → y ≠ .ref D → R H4 y s → Q' y H4) → g x (wipe σ vs) H' fun σ2 H2 => wipe σ2 vs = wipe σ vs ∧ te σ2 H2 Q')
    (hd : ∀ ys ss H', Pool H' p q → SameB p H1 H' → H' D = some (.lst ys) → ss.length = n → (∀ (i : Nat) s, ss[i]? = some s → T i s) → AllAt (R H') ys ss → Qd H') : LcW J g tYes te vs σ H1 D Qd := by
  have hDp : p ≠ D := hP.ne hD
  have hDq : q ≠ D := hP.ne2 hD
  refine lc_it w (fun i H' => Pool H' p q ∧ SameB p H1 H' ∧ ∃ ys ss, H' D = some (.lst ys) ∧ ss.length = i ∧ (∀ (i : Nat) s, ss[i]? = some s → T i s) ∧ AllAt (fun v s => R H' v s ∧ v ≠ .ref D) ys ss) ⟨hP.upd hD, Same.b (same_new hD _), [], [], upd_same, rfl, fun i s h => by simp at h, .nil⟩ (fun i H' _ h => hG H' h.2.1) ?_ ?_
  · intro i x H3 H' hi h hy
    obtain ⟨hP3, s1, ys, ss, e1, hsl, hT, hys⟩ := h
    have hyl := hys.1
    simp only [tYes, if_true]
    refine hte i x H3 H' _ ys hi hy hP3 s1 e1 hDp fun y s H4 hTs hP4 s4 hy4 hr => ?_
    have e4 := s4 _ _ hDp.symm e1
    refine ⟨ys, e4, line_lt (by omega), hP4.ups hDp hDq, fun b o hn hb => by rw [upd_ne (ne_of_none hb hD)]; exact s4 _ _ hn (s1 b o hn hb), ys ++ [y], ss ++ [s], upd_same, by rw [List.length_append, hsl]; rfl, ?_, ?_⟩
    · intro j t hj
      by_cases c : j < ss.length
      · rw [List.getElem?_append_left c] at hj
        exact hT j t hj
      · have hj2 := (List.getElem?_eq_some_iff.mp hj).1
        rw [List.length_append] at hj2
        simp only [List.length_cons, List.length_nil] at hj2
        have e : j = ss.length := by omega
        subst e
        rw [List.getElem?_append_right (Nat.le_refl _), Nat.sub_self] at hj
        cases hj
        rw [hsl]
        exact hTs
    · exact (hys.imp fun v s h => ⟨hu _ _ _ _ _ e4 h.2 (hR _ _ _ _ hP3 s4 h.1), h.2⟩).push ⟨hu _ _ _ _ _ e4 hy4 hr, hy4⟩
  · intro H' h
    obtain ⟨hP3, s1, ys, ss, e1, hsl, hT, hys⟩ := h
    exact hd ys ss H' hP3 s1 e1 hsl hT (hys.imp fun _ _ h => h.1)
theorem AllAt.get {α : Type} {R : V → α → Prop} {xs : List V} {ss : List α} (h : AllAt R xs ss) {i : Nat} (hi : i < ss.length) : ∃ x, xs[i]? = some x ∧ R x ss[i] := by
  obtain ⟨x, e, r⟩ := h.at (List.getElem?_eq_getElem hi)
  exact ⟨x, e, r⟩
theorem AllAt.set {α : Type} {R : V → α → Prop} {xs : List V} {ss : List α} {x : V} {s : α} (h : AllAt R xs ss) (i : Nat) (r : R x s) : AllAt R (xs.set i x) (ss.set i s) := by
  refine ⟨by rw [List.length_set, List.length_set, h.1], fun j y e => ?_⟩
  have hj := (List.getElem?_eq_some_iff.mp e).1
  rw [List.length_set] at hj
  by_cases c : i = j
  · subst c
    rw [List.getElem?_set_self hj] at e
    cases e
    exact ⟨s, by rw [List.getElem?_set_self (by rw [← h.1]; exact hj)], r⟩
  · rw [List.getElem?_set_ne c] at e
    obtain ⟨t, h1, h2⟩ := h.2 j y e
    exact ⟨t, by rw [List.getElem?_set_ne c]; exact h1, h2⟩
theorem AllAt.take {α : Type} {R : V → α → Prop} {xs : List V} {ss : List α} (h : AllAt R xs ss) (n : Nat) : AllAt R (xs.take n) (ss.take n) := by
  refine ⟨by rw [List.length_take, List.length_take, h.1], fun j y e => ?_⟩
  have hj := (List.getElem?_eq_some_iff.mp e).1
  rw [List.length_take] at hj
  rw [List.getElem?_take_of_lt (by omega)] at e
  obtain ⟨t, h1, h2⟩ := h.2 j y e
  exact ⟨t, by rw [List.getElem?_take_of_lt (by omega)]; exact h1, h2⟩
theorem AllAt.app {α : Type} {R : V → α → Prop} {xs ys : List V} {ss ts : List α} (h : AllAt R xs ss) (k : AllAt R ys ts) : AllAt R (xs ++ ys) (ss ++ ts) := by
  refine ⟨by rw [List.length_append, List.length_append, h.1, k.1], fun j y e => ?_⟩
  by_cases c : j < xs.length
  · rw [List.getElem?_append_left c] at e
    rw [List.getElem?_append_left (by rw [← h.1]; exact c)]
    exact h.2 j y e
  · rw [List.getElem?_append_right (by omega)] at e
    rw [List.getElem?_append_right (by rw [← h.1]; omega), ← h.1]
    exact k.2 _ y e
theorem cutV_butlast {xs : List V} : cutV xs none (some (-1)) = xs.dropLast := by
  unfold cutV
  rw [List.dropLast_eq_take]
  show (xs.drop (HT.sIx xs.length 0 none)).take (HT.sIx xs.length xs.length (some (-1)) - HT.sIx xs.length 0 none) = _
  have h0 : HT.sIx xs.length 0 none = 0 := rfl
  have h1 : HT.sIx xs.length xs.length (some (-1)) = xs.length - 1 := by
    unfold HT.sIx
    simp
    omega
  rw [h0, h1]
  rfl
theorem atI_last {xs : List V} {v : V} (h : xs.getLast? = some v) : atI xs (-1) = some v := by
  have hz : xs ≠ [] := fun e => by rw [e] at h; cases h
  have hk : 0 < xs.length := List.length_pos_iff.mpr hz
  unfold atI ixN
  rw [if_neg (by decide), if_pos (by omega)]
  show xs[(-1 + (xs.length : Int)).toNat]? = _
  rw [show (-1 + (xs.length : Int)).toNat = xs.length - 1 by omega, ← h, List.getLast?_eq_getElem?]
/-! ### blocks that are lists -/
def LkAt (H : Hp) (x : V) (b : Bk) : Prop := (x = .non ∧ b = none) ∨ ∃ p ns, x = .ref p ∧ b = some ns ∧ H p = some (IL ns)
theorem LkAt.same {H H' : Hp} {x : V} {b : Bk} (s : Same H H') (h : LkAt H x b) : LkAt H' x b := by
  rcases h with h | ⟨p, ns, e1, e2, h⟩
  · exact .inl h
  · exact .inr ⟨p, ns, e1, e2, s _ _ h⟩
theorem LkAt.bk {H : Hp} {x : V} {b : Bk} (h : LkAt H x b) : BkAt H x b := by
  rcases h with h | ⟨p, ns, e1, e2, h⟩
  · exact .inl h
  · exact .inr ⟨p, ns, e1, e2, .inl h⟩
theorem LkAt.upn {H : Hp} {D : Addr} {o : HO} {v : V} {b : Bk} (n : v ≠ .ref D) (h : LkAt H v b) : LkAt (L2.upd H D o) v b := by
  rcases h with h | ⟨p, ns, e1, e2, h⟩
  · exact .inl h
  · have n2 : p ≠ D := fun q => n (by rw [e1, q])
    exact .inr ⟨p, ns, e1, e2, by rw [upd_ne n2]; exact h⟩
theorem LkAt.pool {H H' : Hp} {p q : Addr} {v : V} {b : Bk} (hP : Pool H p q) (s : SameB p H H') (h : LkAt H v b) : LkAt H' v b := by
  rcases h with h | ⟨t, ns, e1, e2, h⟩
  · exact .inl h
  · have n2 : t ≠ p := fun q => hP.nIL ns (by rw [← q]; exact h)
    exact .inr ⟨t, ns, e1, e2, s _ _ n2 h⟩
/-- no inner list is the outer one -/
theorem LkAt.out {H : Hp} {D : Addr} {xs : List V} {bs : List Bk} {v : V} {b : Bk} (hD : H D = some (.lst xs)) (hx : AllAt (LkAt H) xs bs) (h0 : 0 < bs.length) (h : LkAt H v b) : v ≠ .ref D := by
  intro e
  subst e
  rcases h with ⟨h, _⟩ | ⟨t, ns, e1, e2, h⟩
  · cases h
  · cases e1
    rw [h] at hD
    unfold IL at hD
    injection hD with hD
    injection hD with hD
    obtain ⟨x0, f0, r0⟩ := hx.get h0
    rw [← hD, List.getElem?_map] at f0
    cases hn : ns[0]? with
    | none => rw [hn] at f0; cases f0
    | some z =>
      rw [hn] at f0
      cases f0
      rcases r0 with ⟨c, _⟩ | ⟨_, _, c, _⟩ <;> cases c
def bkD (b : Bk) : PyData := match b with | none => .none | some ns => .list (ns.map PyData.int)
theorem LkAt.dt {H : Hp} {v : V} {b : Bk} (h : LkAt H v b) : Dt H v (bkD b) := by
  rcases h with ⟨rfl, rfl⟩ | ⟨t, ns, rfl, rfl, h⟩
  · exact .non
  · exact dt_IL h
theorem AllAt.dt {α : Type} {H : Hp} {R : V → α → Prop} {f : α → PyData} (hf : ∀ v s, R v s → Dt H v (f s)) : ∀ {xs : List V} {ss : List α}, AllAt R xs ss → DtAll H xs (ss.map f)
  | [], [], _ => .nil
  | x :: xs, s :: ss, h => by
    obtain ⟨t, ht, hr⟩ := h.2 0 x rfl
    cases ht
    exact .cons (hf _ _ hr) (AllAt.dt hf ⟨by have := h.1; simpa using this, fun j y e => h.2 (j + 1) y e⟩)
  | [], _ :: _, h => by have := h.1; simp at this
  | _ :: _, [], h => by have := h.1; simp at this
theorem shal_bk {b : Bk} {k : Nat} : Shal (bkD b) (k + 2) := by
  cases b with
  | none => exact .non
  | some ns => exact .list .ints
theorem shal_map {α : Type} {f : α → PyData} {k : Nat} (hf : ∀ a, Shal (f a) (k + 1)) : ∀ ss : List α, ShalAll (ss.map f) (k + 1)
  | [] => .nil
  | a :: r => .cons (hf a) (shal_map hf r)
theorem shaped_sh {d : PyData} (hs : Shal d 7) : SeqAt.shaped d = true := by
  unfold SeqAt.shaped
  rw [Bool.and_eq_true]
  exact ⟨hs.1, decide_eq_true (by have := hs.2; omega)⟩
theorem any_none (bs : List Bk) : ((bs.map bkD).any fun z => PyData.eqv z .none) = decide (none ∈ bs) := by
  rw [Bool.eq_iff_iff, List.any_map, List.any_eq_true, decide_eq_true_eq]
  constructor
  · rintro ⟨b, hb, e⟩
    cases b with
    | none => exact hb
    | some ns =>
      simp only [Function.comp, bkD] at e
      rw [PyData.eqv] at e <;> first | cases e | (intros; nofun)
  · intro h
    refine ⟨none, h, ?_⟩
    simp only [Function.comp, bkD]
    rw [PyData.eqv]
/-- None (not) in a list of blocks -/
theorem notIn_blocks {K : PySem.W.Frag} {H : Hp} {D : Addr} {xs : List V} {bs : List Bk} {Q : VK} (hD : H D = some (.lst xs)) (hx : AllAt (LkAt H) xs bs) (q : Q (.bl (!decide (none ∈ bs))) H) : rNotInD K .non (.ref D) H Q := by
  have hd : Dt H (.ref D) (.list (bs.map bkD)) := .lst hD (AllAt.dt (fun _ _ h => h.dt) hx)
  exact ⟨.none, bs.map bkD, .non, hd.dp, shaped_sh .non, shaped_sh (.list (shal_map (fun a => shal_bk (k := 4)) bs)), by rw [any_none]; exact q⟩
theorem in_blocks {K : PySem.W.Frag} {H : Hp} {D : Addr} {xs : List V} {bs : List Bk} {Q : VK} (hD : H D = some (.lst xs)) (hx : AllAt (LkAt H) xs bs) (q : Q (.bl (decide (none ∈ bs))) H) : rInD K .non (.ref D) H Q := by
  have hd : Dt H (.ref D) (.list (bs.map bkD)) := .lst hD (AllAt.dt (fun _ _ h => h.dt) hx)
  exact ⟨.none, bs.map bkD, .non, hd.dp, shaped_sh .non, shaped_sh (.list (shal_map (fun a => shal_bk (k := 4)) bs)), by rw [any_none]; exact q⟩
/-- blocks at places -/
def gets (bs : List Bk) (ns : List Int) : List Bk := ns.map fun i => bs.getD i.toNat none
def raw (bs : List Bk) : List (List Int) := bs.map fun b => b.getD []
theorem rows_of {H : Hp} {D : Addr} {xs : List V} {bs : List Bk} (hD : H D = some (.lst xs)) (hx : AllAt (LkAt H) xs bs) (hn : none ∉ bs) : RowsAt H D (raw bs) := by
  have h : ∀ (xs : List V) (bs : List Bk), AllAt (LkAt H) xs bs → none ∉ bs → ∃ as : List Addr, xs = as.map V.ref ∧ as.length = (raw bs).length ∧ ∀ i a, as[i]? = some a → H a = some (IL ((raw bs).getD i [])) := by
    intro xs
    induction xs with
    | nil =>
      intro bs h _
      have : bs = [] := List.eq_nil_of_length_eq_zero h.1.symm
      subst this
      exact ⟨[], rfl, rfl, fun i a e => by simp at e⟩
    | cons x xs ih =>
      intro bs h hn
      rcases bs with _ | ⟨b, bs⟩
      · have := h.1; simp at this
      obtain ⟨t, ht, hr⟩ := h.2 0 x rfl
      cases ht
      obtain ⟨as, e1, e2, e3⟩ := ih bs ⟨by have := h.1; simpa using this, fun j y e => h.2 (j + 1) y e⟩ (fun m => hn (List.mem_cons_of_mem _ m))
      rcases hr with ⟨_, rfl⟩ | ⟨p, ns, rfl, rfl, hp⟩
      · exact absurd List.mem_cons_self hn
      · refine ⟨p :: as, by rw [e1]; rfl, by simp [raw] at e2 ⊢; exact e2, fun i a e => ?_⟩
        cases i with
        | zero => cases e; exact hp
        | succ i => exact e3 i a e
  obtain ⟨as, rfl, e2, e3⟩ := h xs bs hx hn
  exact ⟨as, hD, e2, e3⟩
theorem memDL {α : Type} {l : List α} {x : α} (h : x ∈ l.dropLast) : x ∈ l := (List.dropLast_sublist l).subset h
/-- the indexes below n that k picks -/
def pickZ (k : Nat → Bool) (n : Nat) : List Int := ((List.range n).filter k).map fun i : Nat => (i : Int)
theorem pickZ_more (k : Nat → Bool) (n : Nat) : pickZ k (n + 1) = if k n = true then pickZ k n ++ [(n : Int)] else pickZ k n := by
  unfold pickZ
  rw [List.range_succ, List.filter_append, List.map_append]
  split
  · rename_i e
    rw [List.filter_cons_of_pos e]
    rfl
  · rename_i e
    rw [List.filter_cons_of_neg e]
    simp
theorem pickZ_len (k : Nat → Bool) (n : Nat) : (pickZ k n).length ≤ n := by
  unfold pickZ
  rw [List.length_map]
  have := List.length_filter_le k (List.range n)
  rw [List.length_range] at this
  exact this
theorem room70 {k : Nat} {A : Around} (hr : Room k A) : A.units + 70 < cLine := by
  have := hr.un
  omega
theorem pe_fldK {X : Cx} {K : PySem.W.Frag} {e : Expr} {ta : TE} {f : Str} {pos : Pos} (he : PE X e ta) (hb : attributeBase e f X.env (eval e X.env) = eval e X.env) (hK : X.K = K) : PE X (.Attribute e f pos) (tFld K ta f) := by
  subst hK
  exact pe_fld he hb
end Dw

/-! sectors found on a track -/
namespace Dw
open PySem PySem.Spec PyProof.Rows L2
def cutA (cs : List Int) (a n : Nat) : List Int := (cs.drop a).take n
theorem sIx_nat (n d m : Nat) : HT.sIx n d (some ((m : Nat) : Int)) = min m n := HT.sIx_nat ..
theorem cutI_any (ns : List Int) (a b : Nat) (h : a ≤ b) : cutI ns (some (a : Int)) (some (b : Int)) = cutA ns a (b - a) := by
  unfold cutI cutA
  rw [sIx_nat, sIx_nat]
  by_cases c : a ≤ ns.length
  · rw [Nat.min_eq_left c]
    by_cases d : b ≤ ns.length
    · rw [Nat.min_eq_left d]
    · rw [Nat.min_eq_right (by omega), List.take_of_length_le (by rw [List.length_drop]; omega), List.take_of_length_le (by rw [List.length_drop]; omega)]
  · rw [Nat.min_eq_right (by omega : ns.length ≤ a), List.drop_of_length_le (Nat.le_refl _), List.drop_of_length_le (by omega), List.take_nil, List.take_nil]
theorem cutI_to2 (ns : List Int) : cutI ns none (some (-2)) = ns.take (ns.length - 2) := by
  unfold cutI
  have h1 : HT.sIx ns.length ns.length (some (-2)) = ns.length - 2 := by
    unfold HT.sIx
    simp
    omega
  rw [h1]
  show (ns.drop 0).take (ns.length - 2 - 0) = _
  rw [List.drop_zero, Nat.sub_zero]
theorem cutI_last2 (ns : List Int) : cutI ns (some (-2)) none = ns.drop (ns.length - 2) := by
  unfold cutI
  have h1 : HT.sIx ns.length 0 (some (-2)) = ns.length - 2 := by
    unfold HT.sIx
    simp
    omega
  rw [h1]
  show (ns.drop (ns.length - 2)).take (ns.length - (ns.length - 2)) = _
  rw [List.take_of_length_le (by rw [List.length_drop]; omega)]
theorem cutI_from1 (ns : List Int) (b : Nat) (h : 1 ≤ b) : cutI ns (some 1) (some (b : Int)) = (ns.drop 1).take (b - 1) := cutI_any ns 1 b h
/-- the places of marks, from a place on -/
def mkFrom (cs : List Int) (a : Nat) : List Nat := if h : a + 48 ≤ cs.length then (if cutA cs a 48 = marksZ then a :: mkFrom cs (a + 48) else mkFrom cs (a + 1)) else []
termination_by cs.length + 1 - a
theorem mkFrom_yes {cs : List Int} {a : Nat} (h : a + 48 ≤ cs.length) (m : cutA cs a 48 = marksZ) : mkFrom cs a = a :: mkFrom cs (a + 48) := by
  rw [mkFrom, dif_pos h, if_pos m]
theorem mkFrom_no {cs : List Int} {a : Nat} (h : a + 48 ≤ cs.length) (m : ¬ cutA cs a 48 = marksZ) : mkFrom cs a = mkFrom cs (a + 1) := by
  rw [mkFrom, dif_pos h, if_neg m]
theorem mkFrom_end {cs : List Int} {a : Nat} (h : ¬ a + 48 ≤ cs.length) : mkFrom cs a = [] := by
  rw [mkFrom, dif_neg h]
def NL (ns : List Nat) : List Int := ns.map fun n : Nat => (n : Int)
def mkZ (cs : List Int) : List Nat := mkFrom cs 0
theorem mkFrom_len (cs : List Int) : ∀ (k a : Nat), cs.length + 1 - a ≤ k → (mkFrom cs a).length ≤ cs.length + 1 - a
  | 0, a, h => by rw [mkFrom_end (by omega)]; exact Nat.zero_le _
  | k + 1, a, h => by
    by_cases c : a + 48 ≤ cs.length
    · by_cases m : cutA cs a 48 = marksZ
      · rw [mkFrom_yes c m]
        have := mkFrom_len cs k (a + 48) (by omega)
        rw [List.length_cons]
        omega
      · rw [mkFrom_no c m]
        have := mkFrom_len cs k (a + 1) (by omega)
        omega
    · rw [mkFrom_end c]; exact Nat.zero_le _
theorem mkZ_len (cs : List Int) : (mkZ cs).length ≤ cs.length + 1 := mkFrom_len cs _ 0 (Nat.le_refl _)
theorem mkFrom_in (cs : List Int) : ∀ (k a : Nat), cs.length + 1 - a ≤ k → ∀ p ∈ mkFrom cs a, a ≤ p ∧ p + 48 ≤ cs.length
  | 0, a, h, p, hp => by rw [mkFrom_end (by omega)] at hp; cases hp
  | k + 1, a, h, p, hp => by
    by_cases c : a + 48 ≤ cs.length
    · by_cases m : cutA cs a 48 = marksZ
      · rw [mkFrom_yes c m] at hp
        rcases List.mem_cons.mp hp with e | e
        · subst e; exact ⟨Nat.le_refl _, c⟩
        · have := mkFrom_in cs k (a + 48) (by omega) p e
          omega
      · rw [mkFrom_no c m] at hp
        have := mkFrom_in cs k (a + 1) (by omega) p hp
        omega
    · rw [mkFrom_end c] at hp; cases hp
theorem mkZ_in {cs : List Int} {p : Nat} (h : p ∈ mkZ cs) : p + 48 ≤ cs.length := (mkFrom_in cs _ 0 (Nat.le_refl _) p h).2
/-- what is read behind a mark -/
def behC (cs : List Int) (p n : Nat) : List Int := cutA cs (p + 48) (16 * n)
def valsB (cs : List Int) : List Int := bytesZ (odds cs (8 * (cs.length / 16)))
def faultB (cs : List Int) : List Int := mfmFa 1 (evens cs (8 * (cs.length / 16))) (odds cs (8 * (cs.length / 16)))
theorem bytesZ_len (ns : List Int) : (bytesZ ns).length = ns.length / 8 := by
  unfold bytesZ
  rw [List.length_map, List.length_range]
theorem valsB_len (cs : List Int) : (valsB cs).length = cs.length / 16 := by
  unfold valsB
  rw [bytesZ_len, odds_len]
  omega
theorem behC_len (cs : List Int) (p n : Nat) : (behC cs p n).length ≤ 16 * n := List.length_take_le _ _
theorem byteZ_bound : ∀ ns : List Int, Bits ns → 0 ≤ byteZ ns ∧ byteZ ns < 2 ^ ns.length := by
  have : ∀ (ns : List Int) (acc : Int) (k : Nat), Bits ns → 0 ≤ acc → acc < 2 ^ k → 0 ≤ ns.foldl (fun v b => 2 * v + b) acc ∧ ns.foldl (fun v b => 2 * v + b) acc < 2 ^ (k + ns.length) := by
    intro ns
    induction ns with
    | nil => intro acc k _ h0 h1; exact ⟨h0, h1⟩
    | cons b r ih =>
      intro acc k hb h0 h1
      have hb0 := hb b List.mem_cons_self
      have h2 : (2 : Int) ^ (k + 1) = 2 * 2 ^ k := by rw [Int.pow_succ, Int.mul_comm]
      have := ih (2 * acc + b) (k + 1) (fun x hx => hb x (List.mem_cons_of_mem _ hx)) (by omega) (by rw [h2]; omega)
      rw [show k + (b :: r).length = k + 1 + r.length by rw [List.length_cons]; omega]
      exact this
  intro ns h
  have := this ns 0 0 h (by omega) (by decide)
  rw [Nat.zero_add] at this
  exact this
theorem bytesZ_bytes {ns : List Int} (h : Bits ns) : Bytes (bytesZ ns) := by
  intro x hx
  unfold bytesZ at hx
  obtain ⟨k, hk, rfl⟩ := List.mem_map.mp hx
  have hl : ((ns.drop (8 * k)).take 8).length ≤ 8 := List.length_take_le _ _
  have hb : Bits ((ns.drop (8 * k)).take 8) := fun b hb => h b (List.mem_of_mem_drop (List.mem_of_mem_take hb))
  have := byteZ_bound _ hb
  have h8 : (2 : Int) ^ ((ns.drop (8 * k)).take 8).length ≤ 2 ^ 8 := by
    have := Nat.pow_le_pow_right (n := 2) (by decide) hl
    exact_mod_cast this
  omega
theorem odds_bits {cs : List Int} {n : Nat} (h : Bits cs) (hn : 2 * n ≤ cs.length) : Bits (odds cs n) := by
  intro x hx
  unfold odds at hx
  obtain ⟨k, hk, rfl⟩ := List.mem_map.mp hx
  have := List.mem_range.mp hk
  rw [List.getD_eq_getElem?_getD, List.getElem?_eq_getElem (by omega)]
  exact h _ (List.getElem_mem _)
theorem cutA_bits {cs : List Int} {a n : Nat} (h : Bits cs) : Bits (cutA cs a n) := fun b hb => h b (List.mem_of_mem_drop (List.mem_of_mem_take hb))
theorem valsB_bytes {cs : List Int} (h : Bits cs) : Bytes (valsB cs) := bytesZ_bytes (odds_bits h (by omega))
def fitsZ (vs : List Int) : Bool := decide (pairZ (crcZ ([161, 161, 161] ++ vs.take (vs.length - 2))) = vs.drop (vs.length - 2))
abbrev Dta := Option (List Int) × Bool
def dtaOf (sz : Nat) (part : List Int) : Dta :=
  if (valsB part).length < 16 * 2 ^ sz + 3 ∨ (valsB part).getD 0 0 ≠ 251 then (none, false) else (some (((valsB part).drop 1).take (16 * 2 ^ sz)), (faultB part).isEmpty && fitsZ (valsB part))
def behZ (cs : List Int) (sz : Int) (e p : Nat) : Dta :=
  if 5 < sz ∨ p < e ∨ e + 960 < p then (none, false) else dtaOf sz.toNat (behC cs p (16 * 2 ^ sz.toNat + 3))
abbrev Fnd := Nat × List Int × Bool × Option (List Int) × Bool
def FndAt (H : Hp) (x : V) (f : Fnd) : Prop := ∃ t ta v, x = .ref t ∧ H t = some (.tup [.int f.1, .ref ta, .bl f.2.2.1, v, .bl f.2.2.2.2]) ∧ H ta = some (.tup (f.2.1.map V.int)) ∧ DatT H v f.2.2.2.1
theorem FndAt.same {H H' : Hp} {x : V} {f : Fnd} (s : Same H H') (h : FndAt H x f) : FndAt H' x f := by
  obtain ⟨t, ta, v, e, h1, h2, h3⟩ := h
  exact ⟨t, ta, v, e, s _ _ h1, s _ _ h2, h3.same s⟩
theorem DatT.ups {H : Hp} {D : Addr} {xs : List V} {o : HO} {v : V} {da : Option (List Int)} (hD : H D = some (.lst xs)) (h : DatT H v da) : DatT (L2.upd H D o) v da := by
  rcases h with h | ⟨a, ns, e1, e2, h⟩
  · exact .inl h
  · exact .inr ⟨a, ns, e1, e2, by rw [upd_ne (fun q => by subst q; rw [h] at hD; cases hD)]; exact h⟩
theorem FndAt.ups {H : Hp} {D : Addr} {xs : List V} {o : HO} {x : V} {f : Fnd} (hD : H D = some (.lst xs)) (h : FndAt H x f) : FndAt (L2.upd H D o) x f := by
  obtain ⟨t, ta, v, e, h1, h2, h3⟩ := h
  have n1 : t ≠ D := fun q => by subst q; rw [h1] at hD; cases hD
  have n2 : ta ≠ D := fun q => by subst q; rw [h2] at hD; cases hD
  exact ⟨t, ta, v, e, by rw [upd_ne n1]; exact h1, by rw [upd_ne n2]; exact h2, h3.ups hD⟩
def dataBeh (cs : List Int) (ps : List Nat) (i : Nat) (sz : Int) : Dta := if i + 1 < ps.length then behZ cs sz (ps.getD i 0 + 160) (ps.getD (i + 1) 0) else (none, false)
def fndAt (cs : List Int) (ps : List Nat) (i : Nat) : Option Fnd :=
  let vs := valsB (behC cs (ps.getD i 0) 7)
  if vs.length < 7 ∨ vs.getD 0 0 ≠ 254 then none else
    some (ps.getD i 0, (vs.drop 1).take 4, fitsZ vs, dataBeh cs ps i (vs.getD 4 0))
def fndTo (cs : List Int) (ps : List Nat) (n : Nat) : List Fnd := (List.range n).filterMap (fndAt cs ps)
theorem fndTo_more (cs : List Int) (ps : List Nat) (n : Nat) : fndTo cs ps (n + 1) = match fndAt cs ps n with | none => fndTo cs ps n | some f => fndTo cs ps n ++ [f] := by
  unfold fndTo
  rw [List.range_succ, List.filterMap_append]
  cases h : fndAt cs ps n with
  | none => simp [h]
  | some f => simp [h]
theorem fndTo_len (cs : List Int) (ps : List Nat) (n : Nat) : (fndTo cs ps n).length ≤ n := by
  unfold fndTo
  have := List.length_filterMap_le (fndAt cs ps) (List.range n)
  rw [List.length_range] at this
  exact this
def foundZ (cs : List Int) : List Fnd := fndTo cs (mkZ cs) (mkZ cs).length
end Dw

/-! defs whose exceptions are caught by a suite that raises -/
namespace Dw
open PySem PySem.Spec PyProof.Rows L2
theorem passLN {X : Cx} : Passes (L2N.CX X.prog X.w) X E0 := fun _ _ _ _ _ _ _ h => by
  obtain ⟨_, _, _, _, _, _, _, _, _, _, _, _, z⟩ := h
  exact z.elim
theorem okN {P : Program} {w : World} {K : PySem.W.Frag} {mg : Str → Option Value} {base : Heap} {x qual : Str} {st : Stmt} {f : Addr} {fd : FuncData} {N ps : List Str} {k : Nat} {sp : Sp} (F : Fun K x qual st f fd) (S : FnScope N ps (defScope st)) (len : ∀ vs H Q E, sp vs H Q E → vs.length = ps.length)
    (hbody : ∀ (cdv : Value) (A : Around) (outer : List Env) (s : Shared) (H : Hp) (vs : List V) (Q : VK) (E : XK), Room k (A.deeper (envOfC qual (defScope st) s.heap.objs.size f cdv)) → sp vs H Q E →
      ∃ t, PSs (cxOf (L2N.CX P w) P w K mg base N qual (defScope st) f cdv A outer s H E) (defBody st) t ∧ t { nx := fun _ H' => Q .non H', rt := Q } (start N vs) H) : FnOk P w K mg base (L2N.CX P w) (k + 1) f fd ps sp := by
  obtain ⟨oc, od, kV, doc, pm, an, cdv, ct, osl, rfl, lk, hcd⟩ := F.ex
  exact fn_of lk hcd S len fun A outer s H vs Q E hr hsp => hbody cdv A outer s H vs Q E hr hsp
end Dw

/-! text.find over texts of bits -/
namespace Dw
open PySem PySem.Spec PyProof.Rows L2
theorem occ_from (s sub : Str) (lo : Nat) (hh : Nat) : (Builtin.Str.occurrences s sub lo hh 1 = [] ∧ ∀ i, lo ≤ i → ¬ StrLaws.At s sub hh i) ∨ ∃ a, Builtin.Str.occurrences s sub lo hh 1 = [a] ∧ lo ≤ a ∧ StrLaws.At s sub hh a ∧ ∀ i, lo ≤ i → i < a → ¬ StrLaws.At s sub hh i := by
  have hle := StrLaws.occ_length_le s sub lo hh 1
  rw [StrLaws.occ_eq] at hle ⊢
  rcases StrLaws.occ_first s sub hh 1 (Nat.le_refl _) (List.range' lo (hh + 1 - lo)) lo (fun i hi => (List.mem_range'_1.mp hi).1) with ⟨h0, hn⟩ | ⟨pre, a, post, e, h0, ha, hn⟩
  · refine .inl ⟨by rw [h0], fun i hi hA => ?_⟩
    exact hn i (List.mem_range'_1.mpr ⟨hi, by have := hA.1; omega⟩) hA
  · have hmem : a ∈ List.range' lo (hh + 1 - lo) := by rw [e]; simp
    have hlo := (List.mem_range'_1.mp hmem).1
    refine .inr ⟨a, ?_, hlo, ha, fun i hi hia hA => ?_⟩
    · generalize (forIn (List.range' lo (hh + 1 - lo)) ((#[] : Array Nat), lo) (StrLaws.occBody s sub hh 1)).run.fst = arr at h0 hle
      have h1 : arr.toList[0]? = some a := by
        rw [Array.getElem?_toList]
        exact h0
      cases hl : arr.toList with
      | nil => rw [hl] at h1; cases h1
      | cons b r =>
        rw [hl] at h1 hle
        cases r with
        | nil =>
          cases h1
          rfl
        | cons c t => simp at hle
    · have hi2 : i ∈ List.range' lo (hh + 1 - lo) := List.mem_range'_1.mpr ⟨hi, by have := hA.1; omega⟩
      rw [e] at hi2
      have hs := List.pairwise_lt_range' (s := lo) (n := hh + 1 - lo) (step := 1)
      rw [e] at hs
      have hp := List.pairwise_append.mp hs
      rcases List.mem_append.mp hi2 with h | h
      · exact hn i h hA
      · rcases List.mem_cons.mp h with h | h
        · omega
        · have := (List.pairwise_cons.mp hp.2.1).1 i h
          omega
theorem code_inj : ∀ {xs ys : List Int}, Bits xs → Bits ys → xs.map (fun b => (48 + b).toNat) = ys.map (fun b => (48 + b).toNat) → xs = ys
  | [], [], _, _, _ => rfl
  | [], _ :: _, _, _, h => by cases h
  | _ :: _, [], _, _, h => by cases h
  | x :: xs, y :: ys, hx, hy, h => by
    rw [List.map_cons, List.map_cons] at h
    have h1 := (List.cons.inj h).1
    have h2 := code_inj (fun b hb => hx b (List.mem_cons_of_mem _ hb)) (fun b hb => hy b (List.mem_cons_of_mem _ hb)) (List.cons.inj h).2
    have a := hx x List.mem_cons_self
    have b := hy y List.mem_cons_self
    have : x = y := by omega
    rw [this, h2]
theorem marks_bits0 : Bits marksZ := by
  intro x hx
  have : marksZ.all (fun x => x == 0 || x == 1) = true := by decide
  have := List.all_eq_true.mp this x hx
  simpa using this
theorem at_mark {cs : List Int} (hb : Bits cs) (i : Nat) : StrLaws.At (txtB cs) (txtB marksZ) (txtB cs).length i ↔ i + 48 ≤ cs.length ∧ cutA cs i 48 = marksZ := by
  have e1 : (txtB cs).cps.toList = cs.map fun b => (48 + b).toNat := tl_txtB hb
  have e2 : (txtB marksZ).cps.toList = marksZ.map fun b => (48 + b).toNat := tl_txtB marks_bits0
  have l1 : (txtB cs).length = cs.length := txtB_len hb
  have l2 : (txtB marksZ).length = 48 := txtB_len marks_bits0
  unfold StrLaws.At
  rw [StrLaws.subAt_eq, e1, e2, l1, l2, ← List.map_drop, ← List.map_take, beq_iff_eq]
  constructor
  · rintro ⟨h1, h2⟩
    exact ⟨h1, code_inj (cutA_bits hb) marks_bits0 h2⟩
  · rintro ⟨h1, h2⟩
    refine ⟨h1, ?_⟩
    have h2 : (cs.drop i).take 48 = marksZ := h2
    rw [h2]
theorem mkFrom_skip {cs : List Int} : ∀ (k a p : Nat), p = a + k → (∀ i, a ≤ i → i < p → ¬ (i + 48 ≤ cs.length ∧ cutA cs i 48 = marksZ)) → p + 48 ≤ cs.length → cutA cs p 48 = marksZ → mkFrom cs a = p :: mkFrom cs (p + 48)
  | 0, a, p, e, _, h1, h2 => by
    rw [Nat.add_zero] at e
    subst e
    exact mkFrom_yes h1 h2
  | k + 1, a, p, e, hn, h1, h2 => by
    rw [mkFrom_no (by omega) (fun h => hn a (Nat.le_refl _) (by omega) ⟨by omega, h⟩)]
    exact mkFrom_skip k (a + 1) p (by omega) (fun i hi hp => hn i (by omega) hp) h1 h2
theorem mkFrom_nil {cs : List Int} : ∀ (k a : Nat), cs.length + 1 - a ≤ k → (∀ i, a ≤ i → ¬ (i + 48 ≤ cs.length ∧ cutA cs i 48 = marksZ)) → mkFrom cs a = []
  | 0, a, h, _ => mkFrom_end (by omega)
  | k + 1, a, h, hn => by
    by_cases c : a + 48 ≤ cs.length
    · rw [mkFrom_no c (fun e => hn a (Nat.le_refl _) ⟨c, e⟩)]
      exact mkFrom_nil k (a + 1) (by omega) fun i hi => hn i (by omega)
    · exact mkFrom_end c
def headZ (ps : List Nat) : Int := match ps with | p :: _ => (p : Int) | [] => -1
theorem occ_mark {cs : List Int} (hb : Bits cs) (a : Nat) : (match Builtin.Str.occurrences (txtB cs) (txtB marksZ) a (txtB cs).length 1 with | k :: _ => (k : Int) | [] => -1) = headZ (mkFrom cs a) := by
  rcases occ_from (txtB cs) (txtB marksZ) a (txtB cs).length with ⟨e, hn⟩ | ⟨p, e, hp, hA, hn⟩
  · rw [e, mkFrom_nil _ a (Nat.le_refl _) (fun i hi h => hn i hi ((at_mark hb i).mpr h))]
    rfl
  · have h := (at_mark hb p).mp hA
    rw [e, mkFrom_skip (p - a) a p (by omega) (fun i hi hip h => hn i hi hip ((at_mark hb i).mpr h)) h.1 h.2]
    rfl
end Dw

/-! marks of written tracks -/
namespace Dw
open PySem PySem.Spec PyProof.Rows L2
/-- the pairs where a clock is missing -/
def vio (l : Int) : List Int → Nat → List Nat
  | c :: d :: r, k => (if l = 0 ∧ c = 0 ∧ d = 0 then [k] else []) ++ vio d r (k + 1)
  | [_], _ => []
  | [], _ => []
theorem vio_append : ∀ (xs : List Int) (l : Int) (ys : List Int) (k : Nat), xs.length % 2 = 0 → vio l (xs ++ ys) k = vio l xs k ++ vio (xs.getLastD l) ys (k + xs.length / 2)
  | [], l, ys, k, _ => rfl
  | [x], l, ys, k, h => by simp at h
  | c :: d :: r, l, ys, k, h => by
    have h2 : r.length % 2 = 0 := by
      rw [List.length_cons, List.length_cons] at h
      omega
    show _ ++ vio d (r ++ ys) (k + 1) = (_ ++ vio d r (k + 1)) ++ _
    rw [vio_append r d ys (k + 1) h2, List.append_assoc]
    have e1 : (c :: d :: r).getLastD l = r.getLastD d := by rw [List.getLastD_cons, List.getLastD_cons]
    have e2 : k + (c :: d :: r).length / 2 = k + 1 + r.length / 2 := by
      rw [List.length_cons, List.length_cons]
      omega
    rw [e1, e2]
theorem vio_mfm : ∀ (bs : List Int) (l : Int) (k : Nat), vio l (mfmF l bs) k = []
  | [], _, _ => rfl
  | b :: r, l, k => by
    show (if l = 0 ∧ clk l b = 0 ∧ b = 0 then [k] else []) ++ vio b (mfmF b r) (k + 1) = []
    rw [vio_mfm r b (k + 1), if_neg]
    · rfl
    · rintro ⟨h1, h2, h3⟩
      unfold clk at h2
      rw [if_pos ⟨h1, h3⟩] at h2
      cases h2
theorem vio_marks (l : Int) (k : Nat) : vio l marksZ k = [k + 5, k + 13, k + 21] := by
  simp [marksZ, markZ, vio]
theorem vio_mem : ∀ (i : Nat) (cs : List Int) (l : Int) (k : Nat), (i = 0 → l = 0) → (0 < i → cs[2 * i - 1]? = some 0) → cs[2 * i]? = some 0 → cs[2 * i + 1]? = some 0 → k + i ∈ vio l cs k
  | 0, cs, l, k, h0, _, h2, h3 => by
    match cs, h2, h3 with
    | c :: d :: r, h2, h3 =>
      cases h2
      cases h3
      show k ∈ (if l = 0 ∧ (0 : Int) = 0 ∧ (0 : Int) = 0 then [k] else []) ++ _
      rw [if_pos ⟨h0 rfl, rfl, rfl⟩]
      exact List.mem_append_left _ List.mem_cons_self
    | [c], h2, h3 => cases h3
  | i + 1, cs, l, k, _, h1, h2, h3 => by
    match cs, h1, h2, h3 with
    | c :: d :: r, h1, h2, h3 =>
      have h1 := h1 (Nat.succ_pos i)
      refine List.mem_append_right _ ?_
      rw [show k + (i + 1) = k + 1 + i by omega]
      refine vio_mem i r d (k + 1) (fun e => ?_) (fun e => ?_) ?_ ?_
      · subst e
        exact Option.some.inj h1
      · rw [show 2 * (i + 1) - 1 = (2 * i - 1) + 1 + 1 by omega] at h1
        exact h1
      · rw [show 2 * (i + 1) = 2 * i + 1 + 1 by omega] at h2
        exact h2
      · rw [show 2 * (i + 1) + 1 = 2 * i + 1 + 1 + 1 by omega] at h3
        exact h3
    | [c], h1, h2, h3 => cases h3
    | [], h1, h2, h3 => cases h3
/-- marks with the bytes behind each -/
def partZ (P : List Int) : List Int := marksZ ++ mfmF 1 (bitsOf P)
def partsZ (Ps : List (List Int)) : List Int := Ps.flatMap partZ
def plc (n : Nat) : List (List Int) → List Nat
  | [] => []
  | P :: r => n :: plc (n + 48 + 16 * P.length) r
theorem partZ_len (P : List Int) : (partZ P).length = 48 + 16 * P.length := by
  unfold partZ
  rw [List.length_append, mfmF_len, bitsOf_len]
  show 48 + _ = _
  omega
theorem marksZ_last (l : Int) : marksZ.getLastD l = 1 := rfl
theorem marksZ_len : marksZ.length = 48 := rfl
theorem vio_parts : ∀ (Ps : List (List Int)) (l : Int) (k : Nat), vio l (partsZ Ps) k = (plc (2 * k) Ps).flatMap fun p => [p / 2 + 5, p / 2 + 13, p / 2 + 21]
  | [], _, _ => rfl
  | P :: r, l, k => by
    have e : partsZ (P :: r) = marksZ ++ (mfmF 1 (bitsOf P) ++ partsZ r) := by
      unfold partsZ
      rw [List.flatMap_cons]
      unfold partZ
      rw [List.append_assoc]
    rw [e, vio_append _ _ _ _ (by decide), vio_marks, marksZ_last, vio_append _ _ _ _ (by rw [mfmF_len]; omega), vio_mfm, List.nil_append, vio_parts r, marksZ_len, mfmF_len, bitsOf_len]
    rw [show 2 * (k + 48 / 2 + 2 * (8 * P.length) / 2) = 2 * k + 48 + 16 * P.length by omega]
    show _ = (2 * k :: plc (2 * k + 48 + 16 * P.length) r).flatMap _
    rw [List.flatMap_cons, show 2 * k / 2 = k by omega]
theorem plc_in : ∀ (Ps : List (List Int)) (n : Nat), (∀ P ∈ Ps, 0 < P.length) → ∀ p ∈ plc n Ps, n ≤ p ∧ p + 48 ≤ n + (partsZ Ps).length
  | [], n, _, p, hp => by cases hp
  | P :: r, n, hP, p, hp => by
    have hl : (partsZ (P :: r)).length = 48 + 16 * P.length + (partsZ r).length := by
      unfold partsZ
      rw [List.flatMap_cons, List.length_append, partZ_len]
    rcases List.mem_cons.mp hp with h | h
    · subst h
      omega
    · have := plc_in r _ (fun Q hQ => hP Q (List.mem_cons_of_mem _ hQ)) p h
      omega
theorem plc_gap : ∀ (Ps : List (List Int)) (n : Nat), (∀ P ∈ Ps, 0 < P.length) → (plc n Ps).Pairwise fun a b => a + 64 ≤ b
  | [], _, _ => .nil
  | P :: r, n, hP => by
    refine List.pairwise_cons.mpr ⟨fun p hp => ?_, plc_gap r _ fun Q hQ => hP Q (List.mem_cons_of_mem _ hQ)⟩
    have := plc_in r _ (fun Q hQ => hP Q (List.mem_cons_of_mem _ hQ)) p hp
    have := hP P List.mem_cons_self
    omega
theorem plc_mod : ∀ (Ps : List (List Int)) (n : Nat), n % 16 = 0 → ∀ p ∈ plc n Ps, p % 16 = 0
  | [], _, _, p, hp => by cases hp
  | P :: r, n, hn, p, hp => by
    rcases List.mem_cons.mp hp with h | h
    · subst h; exact hn
    · exact plc_mod r _ (by omega) p h
theorem plc_mark : ∀ (Ps : List (List Int)) (pre : List Int), ∀ p ∈ plc pre.length Ps, cutA (pre ++ partsZ Ps) p 48 = marksZ
  | [], _, p, hp => by cases hp
  | P :: r, pre, p, hp => by
    have e : pre ++ partsZ (P :: r) = pre ++ partZ P ++ partsZ r := by
      unfold partsZ
      rw [List.flatMap_cons, List.append_assoc]
    rcases List.mem_cons.mp hp with h | h
    · subst h
      rw [e]
      unfold cutA
      rw [List.append_assoc, List.drop_left]
      unfold partZ
      rw [List.append_assoc, show (48 : Nat) = marksZ.length from rfl, List.take_left]
    · rw [e]
      have hl : pre.length + 48 + 16 * P.length = (pre ++ partZ P).length := by
        rw [List.length_append, partZ_len]
        omega
      rw [hl] at h
      exact plc_mark r (pre ++ partZ P) p h
theorem cut_cell {cs : List Int} {a i : Nat} (h : cutA cs a 48 = marksZ) (hi : i < 48) : cs[a + i]? = marksZ[i]? := by
  rw [← h]
  unfold cutA
  rw [List.getElem?_take_of_lt hi, List.getElem?_drop]
theorem gap_two {ps : List Nat} (h : ps.Pairwise fun a b => a + 64 ≤ b) {a b : Nat} (ha : a ∈ ps) (hb : b ∈ ps) : a = b ∨ a + 64 ≤ b ∨ b + 64 ≤ a := by
  obtain ⟨i, hi, rfl⟩ := List.mem_iff_getElem.mp ha
  obtain ⟨j, hj, rfl⟩ := List.mem_iff_getElem.mp hb
  rcases Nat.lt_trichotomy i j with c | c | c
  · exact .inr (.inl (List.pairwise_iff_getElem.mp h i j hi hj c))
  · subst c; exact .inl rfl
  · exact .inr (.inr (List.pairwise_iff_getElem.mp h j i hj hi c))
/-- a mark stands nowhere else -/
theorem mark_at {P0 : List Int} {Ps : List (List Int)} (hP : ∀ P ∈ Ps, 0 < P.length) {a : Nat} (h : cutA (mfmF 0 (bitsOf P0) ++ partsZ Ps) a 48 = marksZ) : a ∈ plc (16 * P0.length) Ps := by
  have hv : vio 0 (mfmF 0 (bitsOf P0) ++ partsZ Ps) 0 = (plc (16 * P0.length) Ps).flatMap fun p => [p / 2 + 5, p / 2 + 13, p / 2 + 21] := by
    rw [vio_append _ _ _ _ (by rw [mfmF_len]; omega), vio_mfm, List.nil_append, vio_parts, mfmF_len, bitsOf_len]
    rw [show 2 * (0 + 2 * (8 * P0.length) / 2) = 16 * P0.length by omega]
  have hg := plc_gap Ps (16 * P0.length) hP
  have hm := plc_mod Ps (16 * P0.length) (by omega)
  have hk : ∀ p ∈ plc (16 * P0.length) Ps, cutA (mfmF 0 (bitsOf P0) ++ partsZ Ps) p 48 = marksZ := fun p hp => by
    refine plc_mark Ps (mfmF 0 (bitsOf P0)) p ?_
    rw [mfmF_len, bitsOf_len, show 2 * (8 * P0.length) = 16 * P0.length by omega]
    exact hp
  generalize mfmF 0 (bitsOf P0) ++ partsZ Ps = cs at *
  generalize plc (16 * P0.length) Ps = ps at *
  have hc : ∀ i z, i < 48 → marksZ[i]? = some z → cs[a + i]? = some z := fun i z hi hz => by rw [cut_cell h hi, hz]
  have inV : ∀ i, 0 < i → cs[2 * i - 1]? = some 0 → cs[2 * i]? = some 0 → cs[2 * i + 1]? = some 0 → ∃ p ∈ ps, i = p / 2 + 5 ∨ i = p / 2 + 13 ∨ i = p / 2 + 21 := by
    intro i h0 h1 h2 h3
    have := vio_mem i cs 0 0 (fun e => by omega) (fun _ => h1) h2 h3
    rw [hv, Nat.zero_add] at this
    obtain ⟨p, hp, hq⟩ := List.mem_flatMap.mp this
    refine ⟨p, hp, ?_⟩
    simpa using hq
  by_cases ev : a % 2 = 0
  · obtain ⟨b, rfl⟩ : ∃ b, a = 2 * b := ⟨a / 2, by omega⟩
    have v1 := inV (b + 5) (by omega) (by rw [show 2 * (b + 5) - 1 = 2 * b + 9 by omega]; exact hc 9 0 (by decide) rfl) (by rw [show 2 * (b + 5) = 2 * b + 10 by omega]; exact hc 10 0 (by decide) rfl) (by rw [show 2 * (b + 5) + 1 = 2 * b + 11 by omega]; exact hc 11 0 (by decide) rfl)
    have v2 := inV (b + 13) (by omega) (by rw [show 2 * (b + 13) - 1 = 2 * b + 25 by omega]; exact hc 25 0 (by decide) rfl) (by rw [show 2 * (b + 13) = 2 * b + 26 by omega]; exact hc 26 0 (by decide) rfl) (by rw [show 2 * (b + 13) + 1 = 2 * b + 27 by omega]; exact hc 27 0 (by decide) rfl)
    have v3 := inV (b + 21) (by omega) (by rw [show 2 * (b + 21) - 1 = 2 * b + 41 by omega]; exact hc 41 0 (by decide) rfl) (by rw [show 2 * (b + 21) = 2 * b + 42 by omega]; exact hc 42 0 (by decide) rfl) (by rw [show 2 * (b + 21) + 1 = 2 * b + 43 by omega]; exact hc 43 0 (by decide) rfl)
    obtain ⟨p1, hp1, e1⟩ := v1
    obtain ⟨p2, hp2, e2⟩ := v2
    obtain ⟨p3, hp3, e3⟩ := v3
    have m1 := hm p1 hp1
    have m2 := hm p2 hp2
    have m3 := hm p3 hp3
    have g12 := gap_two hg hp1 hp2
    have g13 := gap_two hg hp1 hp3
    have : 2 * b = p1 := by omega
    rw [this]
    exact hp1
  · exfalso
    obtain ⟨b, rfl⟩ : ∃ b, a = 2 * b + 1 := ⟨a / 2, by omega⟩
    have v1 := inV (b + 2) (by omega) (by rw [show 2 * (b + 2) - 1 = 2 * b + 1 + 2 by omega]; exact hc 2 0 (by decide) rfl) (by rw [show 2 * (b + 2) = 2 * b + 1 + 3 by omega]; exact hc 3 0 (by decide) rfl) (by rw [show 2 * (b + 2) + 1 = 2 * b + 1 + 4 by omega]; exact hc 4 0 (by decide) rfl)
    have v2 := inV (b + 10) (by omega) (by rw [show 2 * (b + 10) - 1 = 2 * b + 1 + 18 by omega]; exact hc 18 0 (by decide) rfl) (by rw [show 2 * (b + 10) = 2 * b + 1 + 19 by omega]; exact hc 19 0 (by decide) rfl) (by rw [show 2 * (b + 10) + 1 = 2 * b + 1 + 20 by omega]; exact hc 20 0 (by decide) rfl)
    have v3 := inV (b + 18) (by omega) (by rw [show 2 * (b + 18) - 1 = 2 * b + 1 + 34 by omega]; exact hc 34 0 (by decide) rfl) (by rw [show 2 * (b + 18) = 2 * b + 1 + 35 by omega]; exact hc 35 0 (by decide) rfl) (by rw [show 2 * (b + 18) + 1 = 2 * b + 1 + 36 by omega]; exact hc 36 0 (by decide) rfl)
    obtain ⟨p1, hp1, e1⟩ := v1
    obtain ⟨p2, hp2, e2⟩ := v2
    obtain ⟨p3, hp3, e3⟩ := v3
    have m1 := hm p1 hp1
    have m2 := hm p2 hp2
    have m3 := hm p3 hp3
    have g12 := gap_two hg hp1 hp2
    have g13 := gap_two hg hp1 hp3
    have e : p1 = 2 * b - 6 ∧ 3 ≤ b := by omega
    have c1 : cs[p1 + 17]? = some 1 := by rw [cut_cell (hk p1 hp1) (by decide)]; rfl
    have c2 : cs[2 * b + 1 + 10]? = some 0 := hc 10 0 (by decide) rfl
    rw [show p1 + 17 = 2 * b + 1 + 10 by omega, c2] at c1
    cases c1
/-- where marks stand at known places only -/
theorem mkFrom_eq {cs : List Int} {ps : List Nat} (hg : ps.Pairwise fun a b => a + 64 ≤ b) (hin : ∀ p ∈ ps, p + 48 ≤ cs.length ∧ cutA cs p 48 = marksZ) (hon : ∀ a, cutA cs a 48 = marksZ → a ∈ ps) :
    ∀ (k a : Nat) (qs rs : List Nat), cs.length + 1 - a ≤ k → ps = qs ++ rs → (∀ q ∈ qs, q + 48 ≤ a) → (∀ r ∈ rs, a ≤ r) → mkFrom cs a = rs
  | 0, a, qs, rs, hk, he, _, hr => by
    rw [mkFrom_end (by omega)]
    cases rs with
    | nil => rfl
    | cons r rs =>
      have h1 := hr r List.mem_cons_self
      have h2 := (hin r (by rw [he]; simp)).1
      omega
  | k + 1, a, qs, rs, hk, he, hq, hr => by
    by_cases c : a + 48 ≤ cs.length
    · by_cases m : cutA cs a 48 = marksZ
      · rw [mkFrom_yes c m]
        have ha := hon a m
        rw [he] at ha
        rcases List.mem_append.mp ha with h | h
        · have := hq a h
          omega
        · cases rs with
          | nil => cases h
          | cons r rs =>
            rw [he] at hg
            have hgr := (List.pairwise_append.mp hg).2.1
            have hr1 := List.pairwise_cons.mp hgr
            have e : r = a := by
              rcases List.mem_cons.mp h with h | h
              · exact h.symm
              · have h1 := hr1.1 a h
                have h2 := hr r List.mem_cons_self
                omega
            subst e
            rw [mkFrom_eq (by rw [he]; exact hg) hin hon k (r + 48) (qs ++ [r]) rs (by omega) (by rw [he]; simp) (fun q h => ?_) (fun s h => ?_)]
            · rcases List.mem_append.mp h with h | h
              · have := hq q h
                omega
              · rw [List.mem_singleton.mp h]
                exact Nat.le_refl _
            · have := hr1.1 s h
              omega
      · rw [mkFrom_no c m]
        refine mkFrom_eq hg hin hon k (a + 1) qs rs (by omega) he (fun q h => by have := hq q h; omega) fun r h => ?_
        have h1 := hr r h
        have h2 : r ≠ a := fun e => m (e ▸ (hin r (by rw [he]; exact List.mem_append_right _ h)).2)
        omega
    · rw [mkFrom_end c]
      cases rs with
      | nil => rfl
      | cons r rs =>
        have h1 := hr r List.mem_cons_self
        have h2 := (hin r (by rw [he]; simp)).1
        omega
theorem mk_stream {P0 : List Int} {Ps : List (List Int)} (hP : ∀ P ∈ Ps, 0 < P.length) : mkZ (mfmF 0 (bitsOf P0) ++ partsZ Ps) = plc (16 * P0.length) Ps := by
  have hl : (mfmF 0 (bitsOf P0)).length = 16 * P0.length := by rw [mfmF_len, bitsOf_len]; omega
  refine mkFrom_eq (plc_gap Ps _ hP) (fun p hp => ⟨?_, ?_⟩) (fun a h => mark_at hP h) _ 0 [] _ (Nat.le_refl _) rfl (fun q h => by cases h) (fun r _ => Nat.zero_le _)
  · have := (plc_in Ps _ hP p hp).2
    rw [List.length_append, hl]
    exact this
  · rw [← hl] at hp
    exact plc_mark Ps _ p hp
end Dw

/-! what is found on written tracks -/
namespace Dw
open PySem PySem.Spec PyProof.Rows L2
theorem mfmB_len (b : Int) (Q : List Int) : (mfmF b (bitsOf Q)).length = 16 * Q.length := by rw [mfmF_len, bitsOf_len]; omega
theorem vals_mfm {Q : List Int} (hb : Bytes Q) : valsB (mfmF 1 (bitsOf Q)) = Q ∧ faultB (mfmF 1 (bitsOf Q)) = [] := by
  have hl : 8 * ((mfmF 1 (bitsOf Q)).length / 16) = (bitsOf Q).length := by rw [mfmB_len, bitsOf_len]; omega
  have h1 := mfm_odds 1 (bitsOf Q) []
  have h2 := mfm_faults 1 (bitsOf Q) []
  rw [List.append_nil] at h1 h2
  unfold valsB faultB
  rw [hl, h1, h2]
  exact ⟨bytes_bits Q hb, rfl⟩
theorem mfm_split (b : Int) (X Y : List Int) : mfmF b (bitsOf (X ++ Y)) = mfmF b (bitsOf X) ++ mfmF (lastOf b (bitsOf X)) (bitsOf Y) := by
  rw [bitsOf_append, mfmF_append]
theorem beh_part {pre P rest : List Int} {n : Nat} (hn : n ≤ P.length) : behC (pre ++ (partZ P ++ rest)) pre.length n = mfmF 1 (bitsOf (P.take n)) := by
  unfold behC cutA
  rw [← List.drop_drop, List.drop_left]
  unfold partZ
  rw [List.append_assoc, show (48 : Nat) = marksZ.length from rfl, List.drop_left]
  have e : mfmF 1 (bitsOf P) = mfmF 1 (bitsOf (P.take n)) ++ mfmF (lastOf 1 (bitsOf (P.take n))) (bitsOf (P.drop n)) := by rw [← mfm_split, List.take_append_drop]
  have hl : 16 * n = (mfmF 1 (bitsOf (P.take n))).length := by rw [mfmB_len, List.length_take]; omega
  rw [e, List.append_assoc, hl, List.take_left]
theorem vals_first {b : Int} {R : List Int} (hb : 0 ≤ b ∧ b < 256) : (valsB (mfmF 1 (bitsOf [b]) ++ R)).getD 0 0 = b := by
  have hl : (mfmF 1 (bitsOf [b]) ++ R).length = 16 + R.length := by rw [List.length_append, mfmB_len]; rfl
  have h1 := mfm_odds 1 (bitsOf [b]) R
  have h8 : (bitsOf [b]).length = 8 := by rw [bitsOf_len]; rfl
  rw [h8] at h1
  obtain ⟨v, rfl⟩ := nat_of hb.1
  have hbits : bitsOf [(v : Int)] = bits8 v := by unfold bitsOf; simp
  unfold valsB bytesZ
  rw [odds_len, hl]
  have hm : 8 * ((16 + R.length) / 16) / 8 = (R.length / 16) + 1 := by omega
  rw [hm, List.range_succ_eq_map, List.map_cons]
  show byteZ (((odds (mfmF 1 (bitsOf [(v : Int)]) ++ R) (8 * ((16 + R.length) / 16))).drop (8 * 0)).take 8) = (v : Int)
  have ho : (odds (mfmF 1 (bitsOf [(v : Int)]) ++ R) (8 * ((16 + R.length) / 16))).take 8 = odds (mfmF 1 (bitsOf [(v : Int)]) ++ R) 8 := by
    unfold odds
    rw [← List.map_take, List.take_range]
    rw [Nat.min_eq_left (by omega)]
  show byteZ ((odds (mfmF 1 (bitsOf [(v : Int)]) ++ R) (8 * ((16 + R.length) / 16))).take 8) = (v : Int)
  rw [ho, h1, hbits]
  exact byteZ_bits8 (by omega)
theorem beh_first {pre P rest : List Int} {n : Nat} {b : Int} (h0 : P[0]? = some b) (hn : 0 < n) (hb : 0 ≤ b ∧ b < 256) : (valsB (behC (pre ++ (partZ P ++ rest)) pre.length n)).getD 0 0 = b := by
  have hP : 0 < P.length := (List.getElem?_eq_some_iff.mp h0).1
  obtain ⟨R, hR⟩ : ∃ R, behC (pre ++ (partZ P ++ rest)) pre.length n = mfmF 1 (bitsOf [b]) ++ R := by
    have h1 := beh_part (pre := pre) (rest := rest) (P := P) (n := 1) hP
    have e1 : P.take 1 = [b] := by
      cases P with
      | nil => cases h0
      | cons x r => cases h0; rfl
    rw [e1] at h1
    refine ⟨(behC (pre ++ (partZ P ++ rest)) pre.length n).drop 16, ?_⟩
    rw [← h1]
    have e2 : behC (pre ++ (partZ P ++ rest)) pre.length 1 = (behC (pre ++ (partZ P ++ rest)) pre.length n).take 16 := by
      unfold behC cutA
      rw [List.take_take, Nat.min_eq_left (by omega)]
    rw [e2, List.take_append_drop]
  rw [hR]
  exact vals_first hb
theorem pairZ_inj {a b : Int} (h : pairZ a = pairZ b) : a = b := by
  unfold pairZ at h
  injection h with h1 h2
  injection h2 with h2 _
  omega
theorem fits_eq (ns : List Int) (w : Bool) : fitsZ (ns ++ pairZ (chkZ ns w)) = !w := by
  unfold fitsZ
  have hl : (ns ++ pairZ (chkZ ns w)).length - 2 = ns.length := by rw [List.length_append]; show ns.length + 2 - 2 = _; omega
  rw [hl, List.take_left, List.drop_left]
  cases w with
  | false => exact decide_eq_true rfl
  | true =>
    refine decide_eq_false fun h => ?_
    have := pairZ_inj h
    unfold chkZ at this
    rw [if_pos rfl] at this
    omega
/-- list of marks, each with the next one -/
def fnd1 (cs : List Int) (p : Nat) (nx : Option Nat) : Option Fnd :=
  let vs := valsB (behC cs p 7)
  if vs.length < 7 ∨ vs.getD 0 0 ≠ 254 then none else
    some (p, (vs.drop 1).take 4, fitsZ vs, match nx with | some q => behZ cs (vs.getD 4 0) (p + 160) q | none => (none, false))
def fndL (cs : List Int) : List Nat → List Fnd
  | [] => []
  | p :: r => (match fnd1 cs p r.head? with | none => [] | some f => [f]) ++ fndL cs r
theorem fnd1_at (cs : List Int) (ps : List Nat) (i : Nat) (h : i < ps.length) : fndAt cs ps i = fnd1 cs (ps.getD i 0) (ps[i + 1]?) := by
  have hd : ∀ z, dataBeh cs ps i z = (match ps[i + 1]? with | some q => behZ cs z (ps.getD i 0 + 160) q | none => (none, false)) := fun z => by
    unfold dataBeh
    by_cases c : i + 1 < ps.length
    · rw [if_pos c, List.getElem?_eq_getElem c, List.getD_eq_getElem?_getD (i := i + 1), List.getElem?_eq_getElem c]
      rfl
    · rw [if_neg c, List.getElem?_eq_none (by omega)]
  unfold fndAt fnd1
  simp only [hd]
theorem fm_congr {β : Type} {f g : Nat → Option β} : ∀ l : List Nat, (∀ a ∈ l, f a = g a) → l.filterMap f = l.filterMap g
  | [], _ => rfl
  | a :: r, h => by rw [List.filterMap_cons, List.filterMap_cons, h a List.mem_cons_self, fm_congr r fun b hb => h b (List.mem_cons_of_mem _ hb)]
theorem fndL_eq (cs : List Int) : ∀ ps : List Nat, fndTo cs ps ps.length = fndL cs ps
  | [] => rfl
  | p :: r => by
    have ih := fndL_eq cs r
    unfold fndTo at ih ⊢
    rw [List.length_cons, List.range_succ_eq_map, List.filterMap_cons, List.filterMap_map]
    have e0 : fndAt cs (p :: r) 0 = fnd1 cs p r.head? := by
      rw [fnd1_at cs (p :: r) 0 (by simp)]
      cases r <;> rfl
    have es : (List.range r.length).filterMap (fndAt cs (p :: r) ∘ Nat.succ) = (List.range r.length).filterMap (fndAt cs r) := by
      refine fm_congr _ fun i hi => ?_
      have hi := List.mem_range.mp hi
      show fndAt cs (p :: r) (i + 1) = fndAt cs r i
      rw [fnd1_at cs (p :: r) (i + 1) (by rw [List.length_cons]; omega), fnd1_at cs r i hi]
      rfl
    rw [e0, es, ih]
    rw [fndL]
    cases fnd1 cs p r.head? <;> rfl
/-- bytes up to the next mark -/
def tb (r : List Sec) (g : Nat) : List Int := match r with | [] => List.replicate g 78 | _ :: _ => List.replicate 6 0
def adP (s : Sec) : List Int := 254 :: s.1 ++ pairZ (chkZ (254 :: s.1) s.2.2.1)
def daP (d : List Int) (w : Bool) : List Int := 251 :: d ++ pairZ (chkZ (251 :: d) w)
def pays : List Sec → Nat → List (List Int)
  | [], _ => []
  | s :: r, g => match s.2.1 with
    | none => (adP s ++ (List.replicate 8 78 ++ (List.replicate 8 78 ++ tb r g))) :: pays r g
    | some d => (adP s ++ (List.replicate 8 78 ++ List.replicate 6 0)) :: (daP d s.2.2.2 ++ (List.replicate 8 78 ++ tb r g)) :: pays r g
def dueM (n : Nat) : List Sec → List Fnd
  | [] => []
  | s :: r => (n, s.1, !s.2.2.1, s.2.1, s.2.1.isSome && !s.2.2.2) :: dueM (n + 160 + 128 + 128 + (match s.2.1 with | none => 0 | some d => 96 + 16 * (6 + d.length)) + 96) r
theorem pays_pos : ∀ (ss : List Sec) (g : Nat), ∀ P ∈ pays ss g, 0 < P.length
  | [], _, P, h => by cases h
  | (ad, da, aw, dw) :: r, g, P, h => by
    cases da with
    | none =>
      rcases List.mem_cons.mp h with h | h
      · subst h; simp [adP]
      · exact pays_pos r g P h
    | some d =>
      rcases List.mem_cons.mp h with h | h
      · subst h; simp [adP]
      · rcases List.mem_cons.mp h with h | h
        · subst h; simp [daP]
        · exact pays_pos r g P h
theorem lastOf_gap (b : Int) (X : List Int) : lastOf b (bitsOf (X ++ List.replicate 8 78)) = 0 := by
  rw [bitsOf_append]
  unfold lastOf
  rw [getLastD_append (by decide)]
  rfl
theorem mfmB_last (b x : Int) (Q : List Int) (h : Q ≠ []) : (mfmF b (bitsOf Q)).getLastD x = lastOf b (bitsOf Q) := by
  have hne : bitsOf Q ≠ [] := fun e => h (by have := congrArg List.length e; rw [bitsOf_len] at this; exact List.eq_nil_of_length_eq_zero (by have h0 : ([] : List Int).length = 0 := rfl; omega))
  rw [mfmF_last _ _ _ hne]
  unfold lastOf
  rw [List.getLastD_eq_getLast?, List.getLastD_eq_getLast?, List.getLast?_eq_some_getLast hne]
  rfl
theorem field_gap {Z ns : List Int} {w : Bool} (T : List Int) : fieldZ ns w ++ gapZ 8 ((Z ++ fieldZ ns w).getLastD 0) ++ mfmF 0 (bitsOf T) = mfmF 0 (bitsOf (List.replicate 6 0)) ++ partZ (ns ++ pairZ (chkZ ns w) ++ (List.replicate 8 78 ++ T)) := by
  have hne : ns ++ pairZ (chkZ ns w) ≠ [] := by unfold pairZ; simp
  have hl : (Z ++ fieldZ ns w).getLastD 0 = lastOf 1 (bitsOf (ns ++ pairZ (chkZ ns w))) := by
    rw [getLastD_append (by unfold fieldZ; simp [marksZ, markZ])]
    unfold fieldZ
    rw [getLastD_append (by
      intro e
      have := congrArg List.length e
      rw [mfmB_len, List.length_append] at this
      simp [pairZ] at this), mfmB_last _ _ _ hne]
  rw [hl]
  unfold partZ
  rw [mfm_split 1 (ns ++ pairZ (chkZ ns w)), mfm_split _ (List.replicate 8 78) T]
  have hz : lastOf (lastOf 1 (bitsOf (ns ++ pairZ (chkZ ns w)))) (bitsOf (List.replicate 8 78)) = 0 := lastOf_gap _ []
  rw [hz]
  unfold fieldZ gapZ
  simp only [List.append_assoc]
theorem stream_from (g : Nat) : ∀ (ss : List Sec) (Z : List Int), Z.getLastD 0 = 0 → ss.foldl secStep Z ++ gapZ g 0 = Z ++ (mfmF 0 (bitsOf (tb ss g)) ++ partsZ (pays ss g))
  | [], Z, _ => by
    show Z ++ gapZ g 0 = Z ++ (mfmF 0 (bitsOf (List.replicate g 78)) ++ [])
    rw [List.append_nil]
    rfl
  | (ad, da, aw, dw) :: r, Z, hZ => by
    have hs := secStep_last Z (ad, da, aw, dw) 0
    show r.foldl secStep (secStep Z (ad, da, aw, dw)) ++ gapZ g 0 = _
    rw [stream_from g r _ hs]
    show _ = Z ++ (mfmF 0 (bitsOf (List.replicate 6 0)) ++ partsZ (pays ((ad, da, aw, dw) :: r) g))
    cases da with
    | none =>
      have e1 : secStep Z (ad, none, aw, dw) = Z ++ (fieldZ (254 :: ad) aw ++ gapZ 8 ((Z ++ fieldZ (254 :: ad) aw).getLastD 0) ++ mfmF 0 (bitsOf (List.replicate 8 78))) := by
        have hlz : ∀ x, (Z ++ fieldZ (254 :: ad) aw ++ gapZ 8 x).getLastD 0 = 0 := fun x => by
          rw [getLastD_append (by intro e; have := congrArg List.length e; rw [gapZ_len] at this; cases this), gapZ_last (by decide)]
        rw [secStep_eq]
        simp only [show ∀ X, datC X none dw = X from fun _ => rfl, hlz]
        simp only [List.append_assoc]
        rfl
      rw [e1, field_gap]
      have e2 : partsZ (pays ((ad, none, aw, dw) :: r) g) = partZ (adP (ad, none, aw, dw) ++ (List.replicate 8 78 ++ (List.replicate 8 78 ++ tb r g))) ++ partsZ (pays r g) := rfl
      rw [e2]
      have e3 : partZ (254 :: ad ++ pairZ (chkZ (254 :: ad) aw) ++ (List.replicate 8 78 ++ List.replicate 8 78)) ++ mfmF 0 (bitsOf (tb r g)) = partZ (adP (ad, none, aw, dw) ++ (List.replicate 8 78 ++ (List.replicate 8 78 ++ tb r g))) := by
        unfold partZ
        have e4 : adP (ad, none, aw, dw) ++ (List.replicate 8 78 ++ (List.replicate 8 78 ++ tb r g)) = (254 :: ad ++ pairZ (chkZ (254 :: ad) aw) ++ (List.replicate 8 78 ++ List.replicate 8 78)) ++ tb r g := by
          unfold adP
          simp only [List.append_assoc]
        rw [e4, mfm_split 1 _ (tb r g), ← List.append_assoc (254 :: ad ++ pairZ (chkZ (254 :: ad) aw)), lastOf_gap, List.append_assoc]
      rw [← e3]
      simp only [List.append_assoc]
    | some d =>
      have e1 : secStep Z (ad, some d, aw, dw) = Z ++ (fieldZ (254 :: ad) aw ++ gapZ 8 ((Z ++ fieldZ (254 :: ad) aw).getLastD 0)) ++ (fieldZ (251 :: d) dw ++ gapZ 8 ((Z ++ (fieldZ (254 :: ad) aw ++ gapZ 8 ((Z ++ fieldZ (254 :: ad) aw).getLastD 0)) ++ fieldZ (251 :: d) dw).getLastD 0)) := by
        rw [secStep_eq]
        unfold datC
        simp only [List.append_assoc]
      rw [e1]
      have f2 := field_gap (Z := Z ++ (fieldZ (254 :: ad) aw ++ gapZ 8 ((Z ++ fieldZ (254 :: ad) aw).getLastD 0))) (ns := 251 :: d) (w := dw) (tb r g)
      have f1 := field_gap (Z := Z) (ns := 254 :: ad) (w := aw) (List.replicate 6 0)
      generalize gapZ 8 ((Z ++ (fieldZ (254 :: ad) aw ++ gapZ 8 ((Z ++ fieldZ (254 :: ad) aw).getLastD 0)) ++ fieldZ (251 :: d) dw).getLastD 0) = G2 at f2 ⊢
      generalize gapZ 8 ((Z ++ fieldZ (254 :: ad) aw).getLastD 0) = G1 at f1 ⊢
      have e2 : partsZ (pays ((ad, some d, aw, dw) :: r) g) = partZ (adP (ad, some d, aw, dw) ++ (List.replicate 8 78 ++ List.replicate 6 0)) ++ (partZ (daP d dw ++ (List.replicate 8 78 ++ tb r g)) ++ partsZ (pays r g)) := rfl
      have e3 : adP (ad, some d, aw, dw) = 254 :: ad ++ pairZ (chkZ (254 :: ad) aw) := rfl
      have e4 : daP d dw = 251 :: d ++ pairZ (chkZ (251 :: d) dw) := rfl
      rw [e2, e3, e4]
      calc Z ++ (fieldZ (254 :: ad) aw ++ G1) ++ (fieldZ (251 :: d) dw ++ G2) ++ (mfmF 0 (bitsOf (tb r g)) ++ partsZ (pays r g))
          = Z ++ (fieldZ (254 :: ad) aw ++ G1 ++ ((fieldZ (251 :: d) dw ++ G2 ++ mfmF 0 (bitsOf (tb r g))) ++ partsZ (pays r g))) := by simp only [List.append_assoc]
        _ = Z ++ ((fieldZ (254 :: ad) aw ++ G1 ++ mfmF 0 (bitsOf (List.replicate 6 0))) ++ (partZ (251 :: d ++ pairZ (chkZ (251 :: d) dw) ++ (List.replicate 8 78 ++ tb r g)) ++ partsZ (pays r g))) := by rw [f2]; simp only [List.append_assoc]
        _ = _ := by rw [f1]; simp only [List.append_assoc]
theorem stream_track (ss : List Sec) (g : Nat) : trackZ ss ++ gapZ g 0 = mfmF 0 (bitsOf (List.replicate 10 78 ++ tb ss g)) ++ partsZ (pays ss g) := by
  unfold trackZ
  rw [stream_from g ss (gapZ 10 0) (gapZ_last (by decide)), mfm_split]
  have : lastOf 0 (bitsOf (List.replicate 10 78)) = 0 := by decide
  rw [this, List.append_assoc]
  rfl
theorem adP_len {s : Sec} (h : s.1.length = 4) : (adP s).length = 7 := by
  unfold adP pairZ
  simp [h]
theorem pairZ_by (ns : List Int) (w : Bool) : Bytes (pairZ (chkZ ns w)) := pairZ_bytes (chkZ_nn ns w)
theorem bytes_cons {x : Int} {ns : List Int} (h : 0 ≤ x ∧ x < 256) (hn : Bytes ns) : Bytes (x :: ns) := fun y hy => by
  rcases List.mem_cons.mp hy with e | e
  · subst e; exact h
  · exact hn y e
theorem adP_bytes {s : Sec} (h : Bytes s.1) : Bytes (adP s) := Bytes.app (bytes_cons (by omega) h) (pairZ_by _ _)
theorem daP_bytes {d : List Int} {w : Bool} (h : Bytes d) : Bytes (daP d w) := Bytes.app (bytes_cons (by omega) h) (pairZ_by _ _)
theorem pays_head (s : Sec) (r : List Sec) (g : Nat) : ∃ P rest, pays (s :: r) g = P :: rest ∧ P[0]? = some 254 := by
  obtain ⟨ad, da, aw, dw⟩ := s
  cases da with
  | none => exact ⟨_, _, rfl, rfl⟩
  | some d => exact ⟨_, _, rfl, rfl⟩
theorem due_stream (g : Nat) : ∀ (ss : List Sec) (pre : List Int), (∀ s ∈ ss, OkSec s) → fndL (pre ++ partsZ (pays ss g)) (plc pre.length (pays ss g)) = dueM pre.length ss
  | [], pre, _ => rfl
  | (ad, da, aw, dw) :: r, pre, hok => by
    have hok0 := hok _ List.mem_cons_self
    have h4 := okSec_len hok0
    obtain ⟨a, b, c, z, had, hbad, hz5, hda⟩ := hok0
    have h4 : ad.length = 4 := h4
    have hbad : Bytes ad := hbad
    have hokr : ∀ s ∈ r, OkSec s := fun s hs => hok s (List.mem_cons_of_mem _ hs)
    have had : ad = [a, b, c, z] := had
    have hzb := hbad z (by rw [had]; simp)
    have hal : (adP (ad, da, aw, dw)).length = 7 := adP_len h4
    have hab : Bytes (adP (ad, da, aw, dw)) := adP_bytes hbad
    have hfit : fitsZ (adP (ad, da, aw, dw)) = !aw := fits_eq (254 :: ad) aw
    have h14 : ((adP (ad, da, aw, dw)).drop 1).take 4 = ad := by
      unfold adP
      show (ad ++ pairZ _).take 4 = ad
      rw [← h4, List.take_left]
    have hg4 : (adP (ad, da, aw, dw)).getD 4 0 = z := by
      unfold adP
      rw [had]
      rfl
    have hg0 : (adP (ad, da, aw, dw)).getD 0 0 = 254 := rfl
    have hread : ∀ (X rest : List Int), valsB (behC (pre ++ (partZ (adP (ad, da, aw, dw) ++ X) ++ rest)) pre.length 7) = adP (ad, da, aw, dw) := fun X rest => by
      rw [beh_part (by rw [List.length_append]; omega), ← hal, List.take_left]
      exact (vals_mfm hab).1
    cases da with
    | none =>
      have ep : pays ((ad, none, aw, dw) :: r) g = (adP (ad, none, aw, dw) ++ (List.replicate 8 78 ++ (List.replicate 8 78 ++ tb r g))) :: pays r g := rfl
      have es : partsZ (pays ((ad, none, aw, dw) :: r) g) = partZ (adP (ad, none, aw, dw) ++ (List.replicate 8 78 ++ (List.replicate 8 78 ++ tb r g))) ++ partsZ (pays r g) := rfl
      have hrd := hread (List.replicate 8 78 ++ (List.replicate 8 78 ++ tb r g)) (partsZ (pays r g))
      rw [es, ep]
      show (match fnd1 _ pre.length (plc (pre.length + 48 + 16 * _) (pays r g)).head? with | none => [] | some f => [f]) ++ fndL _ (plc (pre.length + 48 + 16 * _) (pays r g)) = _
      have hPl : (pre ++ partZ (adP (ad, none, aw, dw) ++ (List.replicate 8 78 ++ (List.replicate 8 78 ++ tb r g)))).length = pre.length + 48 + 16 * (adP (ad, none, aw, dw) ++ (List.replicate 8 78 ++ (List.replicate 8 78 ++ tb r g))).length := by
        rw [List.length_append, partZ_len]
        omega
      have ih := due_stream g r (pre ++ partZ (adP (ad, none, aw, dw) ++ (List.replicate 8 78 ++ (List.replicate 8 78 ++ tb r g)))) hokr
      rw [hPl, List.append_assoc] at ih
      rw [ih]
      have hnx : (match (plc (pre.length + 48 + 16 * (adP (ad, none, aw, dw) ++ (List.replicate 8 78 ++ (List.replicate 8 78 ++ tb r g))).length) (pays r g)).head? with | some q => behZ (pre ++ (partZ (adP (ad, none, aw, dw) ++ (List.replicate 8 78 ++ (List.replicate 8 78 ++ tb r g))) ++ partsZ (pays r g))) z (pre.length + 160) q | none => (none, false)) = ((none, false) : Dta) := by
        cases r with
        | nil => rfl
        | cons s2 r2 =>
          obtain ⟨P, rest, e1, e2⟩ := pays_head s2 r2 g
          rw [e1]
          show behZ _ z (pre.length + 160) (pre.length + 48 + 16 * _) = _
          unfold behZ
          split
          · rfl
          · unfold dtaOf
            have e3 : partsZ (P :: rest) = partZ P ++ partsZ rest := rfl
            have hf := beh_first (pre := pre ++ partZ (adP (ad, none, aw, dw) ++ (List.replicate 8 78 ++ (List.replicate 8 78 ++ tb (s2 :: r2) g)))) (P := P) (rest := partsZ rest) (n := 16 * 2 ^ z.toNat + 3) e2 (by omega) (by omega)
            rw [hPl, List.append_assoc, ← e3] at hf
            rw [if_pos (.inr (by rw [hf]; decide))]
      have e1 : fnd1 (pre ++ (partZ (adP (ad, none, aw, dw) ++ (List.replicate 8 78 ++ (List.replicate 8 78 ++ tb r g))) ++ partsZ (pays r g))) pre.length (plc (pre.length + 48 + 16 * (adP (ad, none, aw, dw) ++ (List.replicate 8 78 ++ (List.replicate 8 78 ++ tb r g))).length) (pays r g)).head? = some (pre.length, ad, !aw, none, false) := by
        unfold fnd1
        simp only [hrd]
        rw [if_neg (by rw [hal, hg0]; decide), h14, hfit, hg4, hnx]
      rw [e1]
      show (pre.length, ad, !aw, none, false) :: dueM _ r = (pre.length, ad, !aw, none, false) :: dueM (pre.length + 160 + 128 + 128 + 0 + 96) r
      cases r with
      | nil => rfl
      | cons s2 r2 =>
        have : pre.length + 48 + 16 * (adP (ad, none, aw, dw) ++ (List.replicate 8 78 ++ (List.replicate 8 78 ++ tb (s2 :: r2) g))).length = pre.length + 160 + 128 + 128 + 0 + 96 := by
          rw [List.length_append, hal]
          simp [tb] <;> omega
        rw [this]
    | some d =>
      obtain ⟨hdl, hdb⟩ := hda d rfl
      have hdl : d.length = 16 * 2 ^ z.toNat := hdl
      have ep : pays ((ad, some d, aw, dw) :: r) g = (adP (ad, some d, aw, dw) ++ (List.replicate 8 78 ++ List.replicate 6 0)) :: (daP d dw ++ (List.replicate 8 78 ++ tb r g)) :: pays r g := rfl
      have es : partsZ (pays ((ad, some d, aw, dw) :: r) g) = partZ (adP (ad, some d, aw, dw) ++ (List.replicate 8 78 ++ List.replicate 6 0)) ++ (partZ (daP d dw ++ (List.replicate 8 78 ++ tb r g)) ++ partsZ (pays r g)) := rfl
      have hrd := hread (List.replicate 8 78 ++ List.replicate 6 0) (partZ (daP d dw ++ (List.replicate 8 78 ++ tb r g)) ++ partsZ (pays r g))
      have hAl : (adP (ad, some d, aw, dw) ++ (List.replicate 8 78 ++ List.replicate 6 0)).length = 21 := by
        rw [List.length_append, hal]
        rfl
      have hq : (pre ++ partZ (adP (ad, some d, aw, dw) ++ (List.replicate 8 78 ++ List.replicate 6 0))).length = pre.length + 48 + 16 * 21 := by
        rw [List.length_append, partZ_len, hAl]
        try omega
      have hdl2 : (daP d dw).length = d.length + 3 := by unfold daP pairZ; simp
      have hdpb : Bytes (daP d dw) := daP_bytes hdb
      have hbd : ∀ n, n ≤ (daP d dw ++ (List.replicate 8 78 ++ tb r g)).length → behC (pre ++ (partZ (adP (ad, some d, aw, dw) ++ (List.replicate 8 78 ++ List.replicate 6 0)) ++ (partZ (daP d dw ++ (List.replicate 8 78 ++ tb r g)) ++ partsZ (pays r g)))) (pre.length + 48 + 16 * 21) n = mfmF 1 (bitsOf ((daP d dw ++ (List.replicate 8 78 ++ tb r g)).take n)) := fun n hn => by
        have := beh_part (pre := pre ++ partZ (adP (ad, some d, aw, dw) ++ (List.replicate 8 78 ++ List.replicate 6 0))) (P := daP d dw ++ (List.replicate 8 78 ++ tb r g)) (rest := partsZ (pays r g)) hn
        rw [hq, List.append_assoc] at this
        exact this
      rw [es, ep]
      show (match fnd1 _ pre.length (some (pre.length + 48 + 16 * (adP (ad, some d, aw, dw) ++ (List.replicate 8 78 ++ List.replicate 6 0)).length)) with | none => [] | some f => [f]) ++ ((match fnd1 _ (pre.length + 48 + 16 * (adP (ad, some d, aw, dw) ++ (List.replicate 8 78 ++ List.replicate 6 0)).length) (plc (pre.length + 48 + 16 * (adP (ad, some d, aw, dw) ++ (List.replicate 8 78 ++ List.replicate 6 0)).length + 48 + 16 * (daP d dw ++ (List.replicate 8 78 ++ tb r g)).length) (pays r g)).head? with | none => [] | some f => [f]) ++ fndL _ (plc (pre.length + 48 + 16 * (adP (ad, some d, aw, dw) ++ (List.replicate 8 78 ++ List.replicate 6 0)).length + 48 + 16 * (daP d dw ++ (List.replicate 8 78 ++ tb r g)).length) (pays r g))) = _
      rw [hAl]
      have hPl : (pre ++ (partZ (adP (ad, some d, aw, dw) ++ (List.replicate 8 78 ++ List.replicate 6 0)) ++ partZ (daP d dw ++ (List.replicate 8 78 ++ tb r g)))).length = pre.length + 48 + 16 * 21 + 48 + 16 * (daP d dw ++ (List.replicate 8 78 ++ tb r g)).length := by
        rw [List.length_append, List.length_append, partZ_len, partZ_len, hAl]
        omega
      have ih := due_stream g r (pre ++ (partZ (adP (ad, some d, aw, dw) ++ (List.replicate 8 78 ++ List.replicate 6 0)) ++ partZ (daP d dw ++ (List.replicate 8 78 ++ tb r g)))) hokr
      rw [hPl, List.append_assoc, List.append_assoc] at ih
      rw [ih]
      have h7 : 7 ≤ (daP d dw ++ (List.replicate 8 78 ++ tb r g)).length := by
        rw [List.length_append, List.length_append, List.length_replicate]
        omega
      have e2 : ∀ nx, fnd1 (pre ++ (partZ (adP (ad, some d, aw, dw) ++ (List.replicate 8 78 ++ List.replicate 6 0)) ++ (partZ (daP d dw ++ (List.replicate 8 78 ++ tb r g)) ++ partsZ (pays r g)))) (pre.length + 48 + 16 * 21) nx = none := fun nx => by
        unfold fnd1
        have hv : (valsB (behC (pre ++ (partZ (adP (ad, some d, aw, dw) ++ (List.replicate 8 78 ++ List.replicate 6 0)) ++ (partZ (daP d dw ++ (List.replicate 8 78 ++ tb r g)) ++ partsZ (pays r g)))) (pre.length + 48 + 16 * 21) 7)).getD 0 0 = 251 := by
          have := beh_first (pre := pre ++ partZ (adP (ad, some d, aw, dw) ++ (List.replicate 8 78 ++ List.replicate 6 0))) (P := daP d dw ++ (List.replicate 8 78 ++ tb r g)) (rest := partsZ (pays r g)) (n := 7) (b := 251) rfl (by decide) (by decide)
          rw [hq, List.append_assoc] at this
          exact this
        rw [if_pos (.inr (by rw [hv]; decide))]
      have hbz : behZ (pre ++ (partZ (adP (ad, some d, aw, dw) ++ (List.replicate 8 78 ++ List.replicate 6 0)) ++ (partZ (daP d dw ++ (List.replicate 8 78 ++ tb r g)) ++ partsZ (pays r g)))) z (pre.length + 160) (pre.length + 48 + 16 * 21) = (some d, !dw) := by
        unfold behZ
        rw [if_neg (by omega), ← hdl, hbd _ (by rw [List.length_append]; omega)]
        have ht : (daP d dw ++ (List.replicate 8 78 ++ tb r g)).take (d.length + 3) = daP d dw := by rw [← hdl2, List.take_left]
        have hv := vals_mfm hdpb
        unfold dtaOf
        rw [ht, hv.1, hv.2, ← hdl, if_neg (by rw [hdl2]; intro h; rcases h with h | h; · omega
                                              · exact h rfl)]
        have hd1 : ((daP d dw).drop 1).take d.length = d := by
          unfold daP
          show (d ++ pairZ _).take d.length = d
          rw [List.take_left]
        rw [hd1]
        have : fitsZ (daP d dw) = !dw := fits_eq (251 :: d) dw
        rw [this]
        rfl
      have e1 : fnd1 (pre ++ (partZ (adP (ad, some d, aw, dw) ++ (List.replicate 8 78 ++ List.replicate 6 0)) ++ (partZ (daP d dw ++ (List.replicate 8 78 ++ tb r g)) ++ partsZ (pays r g)))) pre.length (some (pre.length + 48 + 16 * 21)) = some (pre.length, ad, !aw, some d, !dw) := by
        unfold fnd1
        simp only [hrd]
        rw [if_neg (by rw [hal, hg0]; decide), h14, hfit, hg4, hbz]
      rw [e1, e2]
      show (pre.length, ad, !aw, some d, !dw) :: dueM _ r = (pre.length, ad, !aw, some d, true && !dw) :: dueM (pre.length + 160 + 128 + 128 + (96 + 16 * (6 + d.length)) + 96) r
      rw [Bool.true_and]
      cases r with
      | nil => rfl
      | cons s2 r2 =>
        have : pre.length + 48 + 16 * 21 + 48 + 16 * (daP d dw ++ (List.replicate 8 78 ++ tb (s2 :: r2) g)).length = pre.length + 160 + 128 + 128 + (96 + 16 * (6 + d.length)) + 96 := by
          rw [List.length_append, hdl2]
          simp [tb] <;> omega
        rw [this]
theorem found_track {ss : List Sec} (g : Nat) (hok : ∀ s ∈ ss, OkSec s) : foundZ (trackZ ss ++ gapZ g 0) = dueM 256 ss := by
  unfold foundZ
  rw [stream_track, mk_stream (pays_pos ss g), fndL_eq]
  cases ss with
  | nil => rfl
  | cons s r =>
    have h := due_stream g (s :: r) (mfmF 0 (bitsOf (List.replicate 10 78 ++ tb (s :: r) g))) hok
    have hl : (mfmF 0 (bitsOf (List.replicate 10 78 ++ tb (s :: r) g))).length = 256 := by rw [mfmB_len]; rfl
    have hl2 : 16 * (List.replicate 10 78 ++ tb (s :: r) g).length = 256 := rfl
    rw [hl] at h
    rw [hl2]
    exact h
def nx1 (n : Nat) (s : Sec) : Nat := n + 160 + 128 + 128 + (match s.2.1 with | none => 0 | some d => 96 + 16 * (6 + d.length)) + 96
def nxM (n : Nat) (ss : List Sec) : Nat := ss.foldl nx1 n
def due1 (n : Nat) (s : Sec) : Fnd := (n, s.1, !s.2.2.1, s.2.1, s.2.1.isSome && !s.2.2.2)
theorem dueM_app : ∀ (ss : List Sec) (n : Nat) (t : List Sec), dueM n (ss ++ t) = dueM n ss ++ dueM (nxM n ss) t
  | [], _, _ => rfl
  | s :: r, n, t => by
    have ih := dueM_app r (nx1 n s) t
    show due1 n s :: dueM (nx1 n s) (r ++ t) = due1 n s :: (dueM (nx1 n s) r ++ dueM (nxM (nx1 n s) r) t)
    rw [ih]
theorem dueM_more {ss : List Sec} {n i : Nat} {s : Sec} (h : ss[i]? = some s) : dueM n (ss.take (i + 1)) = dueM n (ss.take i) ++ [due1 (nxM n (ss.take i)) s] := by
  rw [take_more h, dueM_app]
  rfl
theorem nxM_more {ss : List Sec} {n i : Nat} {s : Sec} (h : ss[i]? = some s) : nxM n (ss.take (i + 1)) = nx1 (nxM n (ss.take i)) s := by
  unfold nxM
  rw [take_more h, List.foldl_append]
  rfl
theorem dueM_len : ∀ (ss : List Sec) (n : Nat), (dueM n ss).length = ss.length
  | [], _ => rfl
  | s :: r, n => by
    show (dueM _ r).length + 1 = _
    rw [dueM_len r, List.length_cons]
theorem mfmF_bits : ∀ (b : Int) (bs : List Int), (b = 0 ∨ b = 1) → Bits bs → Bits (mfmF b bs)
  | _, [], _, _ => fun x hx => by cases hx
  | b, c :: r, hb, hc => fun x hx => by
    have hc0 := hc c List.mem_cons_self
    rcases List.mem_cons.mp hx with e | e
    · subst e
      unfold clk
      split
      · exact .inr rfl
      · exact .inl rfl
    · rcases List.mem_cons.mp e with e | e
      · subst e; exact hc0
      · exact mfmF_bits c r hc0 (fun y hy => hc y (List.mem_cons_of_mem _ hy)) x e
theorem Bits.app {a b : List Int} (h1 : Bits a) (h2 : Bits b) : Bits (a ++ b) := fun x hx => (List.mem_append.mp hx).elim (h1 x) (h2 x)
theorem marks_bits : Bits marksZ := by
  intro x hx
  have : marksZ.all (fun x => x == 0 || x == 1) = true := by decide
  have := List.all_eq_true.mp this x hx
  simpa using this
theorem parts_bits : ∀ Ps : List (List Int), Bits (partsZ Ps)
  | [] => fun x hx => by cases hx
  | P :: r => by
    show Bits (partZ P ++ partsZ r)
    exact Bits.app (Bits.app marks_bits (mfmF_bits 1 _ (.inr rfl) (bitsOf_bits P))) (parts_bits r)
theorem track_bits (ss : List Sec) (g : Nat) : Bits (trackZ ss ++ gapZ g 0) := by
  rw [stream_track]
  exact Bits.app (mfmF_bits 0 _ (.inl rfl) (bitsOf_bits _)) (parts_bits _)
end Dw

/-! the law's own finder -/
namespace Dw
open PySem PySem.Spec PyProof.Rows L2
def rFind1 : V → List V → Hp → VK → Prop := fun x xs H Q => ∃ a b, x = .str a ∧ xs = [.str b] ∧ Q (.int (Txt.find a b)) H
theorem mt_find1 {X : Cx} : MtR X "str.find" rFind1 := mt_find
def rFind3 : V → List V → Hp → VK → Prop := fun x xs H Q => ∃ a b i, x = .str a ∧ xs = [.str b, .int i] ∧ Q (.int (Txt.find3 a b i)) H
theorem mt_findF {X : Cx} : MtR X "str.find" rFind3 := mt_find3
def tSMt (i : Nat) (r : V → List V → Hp → VK → Prop) (t : TA) : TE := fun σ H Q => ∃ z, σ[i]? = some (some (.str z)) ∧ t σ H fun xs H2 => r (.str z) xs H2 Q
theorem smt_imp {K : PySem.W.Frag} {i : Nat} {r : V → List V → Hp → VK → Prop} {t : TA} : ∀ σ H Q, tSMt i r t σ H Q → tBM K "str" r (tVar i) t σ H Q := by
  intro σ H Q ⟨z, e, q⟩
  exact ⟨_, e, rfl, q⟩
theorem find_mark {cs : List Int} (hb : Bits cs) : Txt.find (txtB cs) (txtB marksZ) = headZ (mkFrom cs 0) := occ_mark hb 0
theorem find3_mark {cs : List Int} (hb : Bits cs) (a : Nat) : Txt.find3 (txtB cs) (txtB marksZ) (a : Int) = headZ (mkFrom cs a) := by
  rw [← occ_mark hb a]
  have : fromIndex (txtB cs).length (a : Int) = a := by
    unfold fromIndex
    rw [if_neg (by omega)]
    omega
  unfold Txt.find3
  rw [this]
  cases Builtin.Str.occurrences (txtB cs) (txtB marksZ) a (txtB cs).length 1 <;> rfl
/-! ### found, mark by mark -/
def optL (o : Option Fnd) : List Fnd := match o with | none => [] | some f => [f]
def fndN (cs : List Int) : List Nat → Option Nat → List Fnd
  | [], _ => []
  | q :: r, nx => optL (fnd1 cs q (match r with | [] => nx | q2 :: _ => some q2)) ++ fndN cs r nx
theorem fndL_N (cs : List Int) : ∀ ps : List Nat, fndL cs ps = fndN cs ps none
  | [] => rfl
  | p :: r => by
    have ih := fndL_N cs r
    rw [fndL, ih]
    cases r <;> rfl
theorem fndN_snoc (cs : List Int) : ∀ (qs : List Nat) (p : Nat) (nx : Option Nat), fndN cs (qs ++ [p]) nx = fndN cs qs (some p) ++ optL (fnd1 cs p nx)
  | [], p, nx => by
    show optL (fnd1 cs p nx) ++ [] = [] ++ _
    rw [List.append_nil, List.nil_append]
  | [q], p, nx => by
    show optL (fnd1 cs q (some p)) ++ (optL (fnd1 cs p nx) ++ []) = (optL (fnd1 cs q (some p)) ++ []) ++ _
    rw [List.append_nil, List.append_nil]
  | q :: q2 :: r, p, nx => by
    have ih := fndN_snoc cs (q2 :: r) p nx
    show optL (fnd1 cs q (some q2)) ++ fndN cs ((q2 :: r) ++ [p]) nx = (optL (fnd1 cs q (some q2)) ++ fndN cs (q2 :: r) (some p)) ++ _
    rw [ih, List.append_assoc]
theorem fndN_len (cs : List Int) : ∀ (qs : List Nat) (nx : Option Nat), (fndN cs qs nx).length ≤ qs.length
  | [], _ => Nat.le_refl _
  | [q], nx => by
    have : ∀ o : Option Fnd, (optL o).length ≤ 1 := fun o => by cases o <;> simp [optL]
    have := this (fnd1 cs q nx)
    show (optL (fnd1 cs q nx) ++ []).length ≤ 1
    rw [List.append_nil]
    exact this
  | q :: q2 :: r, nx => by
    have ih := fndN_len cs (q2 :: r) nx
    have : ∀ o : Option Fnd, (optL o).length ≤ 1 := fun o => by cases o <;> simp [optL]
    have := this (fnd1 cs q (some q2))
    show (optL (fnd1 cs q (some q2)) ++ fndN cs (q2 :: r) nx).length ≤ _
    rw [List.length_append, List.length_cons]
    omega
/-- the address at a mark -/
def adr (cs : List Int) (p : Nat) : Option (List Int × Bool × Int) :=
  if (valsB (behC cs p 7)).length < 7 ∨ (valsB (behC cs p 7)).getD 0 0 ≠ 254 then none else some (((valsB (behC cs p 7)).drop 1).take 4, fitsZ (valsB (behC cs p 7)), (valsB (behC cs p 7)).getD 4 0)
def nxD (cs : List Int) (p : Nat) (sz : Int) (nx : Option Nat) : Dta := match nx with | some q => behZ cs sz (p + 160) q | none => (none, false)
theorem fnd1_adr (cs : List Int) (p : Nat) (nx : Option Nat) : fnd1 cs p nx = match adr cs p with | none => none | some (ad, gd, sz) => some (p, ad, gd, nxD cs p sz nx) := by
  unfold fnd1 adr
  by_cases c : (valsB (behC cs p 7)).length < 7 ∨ (valsB (behC cs p 7)).getD 0 0 ≠ 254
  · simp only [if_pos c]
  · simp only [if_neg c]
    cases nx <;> rfl
/-- the first byte behind a mark -/
theorem vals_take {X : List Int} (h : 16 ≤ X.length) : (valsB X).getD 0 0 = (valsB (X.take 16)).getD 0 0 := by
  have ho : ∀ n, 8 ≤ n → (odds X n).take 8 = odds X 8 := fun n hn => by
    unfold odds
    rw [← List.map_take, List.take_range, Nat.min_eq_left hn]
  have h8 : odds (X.take 16) 8 = odds X 8 := by
    unfold odds
    refine List.map_congr_left fun i hi => ?_
    have hi := List.mem_range.mp hi
    rw [List.getD_eq_getElem?_getD, List.getD_eq_getElem?_getD, List.getElem?_take_of_lt (by omega)]
  have hl : (X.take 16).length = 16 := by rw [List.length_take]; omega
  unfold valsB bytesZ
  rw [odds_len, odds_len, hl]
  have hm : 8 * (X.length / 16) / 8 = (X.length / 16 - 1) + 1 := by omega
  rw [hm, List.range_succ_eq_map, List.map_cons]
  show byteZ ((odds X (8 * (X.length / 16))).take 8) = byteZ ((odds (X.take 16) 8).take 8)
  rw [ho _ (by omega), h8, ho 8 (Nat.le_refl _)]
theorem behC_one {cs : List Int} {p n : Nat} (h : 1 ≤ n) : behC cs p 1 = (behC cs p n).take 16 := by
  unfold behC cutA
  rw [List.take_take, Nat.min_eq_left (by omega)]
theorem behC_len1 {cs : List Int} {p n : Nat} (h : 1 ≤ n) : (behC cs p 1).length = min 16 (behC cs p n).length := by
  rw [behC_one h, List.length_take]
/-- whole parts -/
theorem whole_iff {cs : List Int} {p n : Nat} : (valsB (behC cs p n)).length < n ↔ (behC cs p n).length < 16 * n := by
  rw [valsB_len]
  have := behC_len cs p n
  omega
/-- data behind an address, as the law tells it -/
theorem beh_law (cs : List Int) (sz : Int) (e p : Nat) (hz : 0 ≤ sz) : behZ cs sz e p =
    if ¬ (behC cs p 1).length < 16 ∧ (valsB (behC cs p 1)).getD 0 0 = 251 ∧ e ≤ p ∧ p ≤ e + 960 ∧ sz < 6 ∧ ¬ (behC cs p (16 * 2 ^ sz.toNat + 3)).length < 16 * (16 * 2 ^ sz.toNat + 3)
    then (some (((valsB (behC cs p (16 * 2 ^ sz.toNat + 3))).drop 1).take (16 * 2 ^ sz.toNat)), (faultB (behC cs p (16 * 2 ^ sz.toNat + 3))).isEmpty && fitsZ (valsB (behC cs p (16 * 2 ^ sz.toNat + 3)))) else (none, false) := by
  unfold behZ dtaOf
  have hl1 := behC_len1 (cs := cs) (p := p) (n := 16 * 2 ^ sz.toNat + 3) (by omega)
  have hw := whole_iff (cs := cs) (p := p) (n := 16 * 2 ^ sz.toNat + 3)
  by_cases c1 : 5 < sz ∨ p < e ∨ e + 960 < p
  · rw [if_pos c1, if_neg]
    rintro ⟨_, _, h3, h4, h5, _⟩
    omega
  · rw [if_neg c1]
    by_cases c2 : (behC cs p (16 * 2 ^ sz.toNat + 3)).length < 16 * (16 * 2 ^ sz.toNat + 3)
    · rw [if_pos (.inl (hw.mpr c2)), if_neg (fun h => h.2.2.2.2.2 c2)]
    · have hge : 16 ≤ (behC cs p (16 * 2 ^ sz.toNat + 3)).length := by omega
      have hv := vals_take hge
      rw [← behC_one (by omega)] at hv
      by_cases c3 : (valsB (behC cs p 1)).getD 0 0 = 251
      · rw [if_neg (fun h => h.elim (fun h => c2 (hw.mp h)) (fun h => h (hv.trans c3))), if_pos ⟨by omega, c3, by omega, by omega, by omega, c2⟩]
      · rw [if_pos (.inr (fun h => c3 (hv.symm.trans h))), if_neg (fun h => c3 h.2.1)]
theorem adr_law (cs : List Int) (p : Nat) : adr cs p = if ¬ (behC cs p 1).length < 16 ∧ (valsB (behC cs p 1)).getD 0 0 = 254 ∧ ¬ (behC cs p 7).length < 16 * 7 then some (((valsB (behC cs p 7)).drop 1).take 4, fitsZ (valsB (behC cs p 7)), (valsB (behC cs p 7)).getD 4 0) else none := by
  unfold adr
  have hl1 := behC_len1 (cs := cs) (p := p) (n := 7) (by omega)
  have hw := whole_iff (cs := cs) (p := p) (n := 7)
  by_cases c2 : (behC cs p 7).length < 16 * 7
  · rw [if_pos (.inl (hw.mpr c2)), if_neg (fun h => h.2.2 c2)]
  · have hv := vals_take (X := behC cs p 7) (by omega)
    rw [← behC_one (by omega)] at hv
    by_cases c3 : (valsB (behC cs p 1)).getD 0 0 = 254
    · rw [if_neg (fun h => h.elim (fun h => c2 (hw.mp h)) (fun h => h (hv.trans c3))), if_pos ⟨by omega, c3, c2⟩]
    · rw [if_pos (.inr (fun h => c3 (hv.symm.trans h))), if_neg (fun h => c3 h.2.1)]
/-! ### bytes, as the law reads them -/
def bitsK (X : List Int) (k : Nat) : List Int := (List.range 8).map fun i => X.getD (16 * k + 1 + 2 * i) 0
def clksK (X : List Int) (k : Nat) : List Int := (List.range 8).map fun i => X.getD (16 * k + 2 * i) 0
theorem bitsK_eq {X : List Int} {n k : Nat} (hk : k < n) : bitsK X k = ((odds X (8 * n)).drop (8 * k)).take 8 := by
  unfold bitsK odds
  rw [← List.map_drop, ← List.map_take]
  have : ((List.range (8 * n)).drop (8 * k)).take 8 = (List.range 8).map fun i => 8 * k + i := by
    apply List.ext_getElem?
    intro i
    by_cases c : i < 8
    · rw [List.getElem?_take_of_lt c, List.getElem?_drop, List.getElem?_range (by omega), List.getElem?_map, List.getElem?_range c]
      rfl
    · rw [List.getElem?_eq_none (by rw [List.length_take]; omega), List.getElem?_eq_none (by simp; omega)]
  rw [this, List.map_map]
  refine List.map_congr_left fun i _ => ?_
  show X.getD (16 * k + 1 + 2 * i) 0 = X.getD (2 * (8 * k + i) + 1) 0
  congr 1
  omega
def valsTo (X : List Int) (n k : Nat) : List Int := (List.range k).map fun j => byteZ (((odds X (8 * n)).drop (8 * j)).take 8)
theorem valsTo_more (X : List Int) {n k : Nat} (hk : k < n) : valsTo X n (k + 1) = valsTo X n k ++ [byteZ (bitsK X k)] := by
  unfold valsTo
  rw [List.range_succ, List.map_append, bitsK_eq hk]
  rfl
theorem valsTo_all {X : List Int} {n : Nat} (h : X.length = 16 * n) : valsTo X n n = valsB X := by
  unfold valsTo valsB bytesZ
  rw [odds_len, h, show 16 * n / 16 = n by omega, show 8 * n / 8 = n by omega]
def cleanTo (X : List Int) (n m : Nat) : Bool := (List.range m).all fun i => !mfmT 1 (evens X (8 * n)) (odds X (8 * n)) i
theorem cleanTo_more (X : List Int) (n m : Nat) : cleanTo X n (m + 1) = (cleanTo X n m && !mfmT 1 (evens X (8 * n)) (odds X (8 * n)) m) := by
  unfold cleanTo
  rw [List.range_succ, List.all_append]
  simp
theorem cleanTo_all {X : List Int} {n : Nat} (h : X.length = 16 * n) : cleanTo X n (8 * n) = (faultB X).isEmpty := by
  unfold cleanTo faultB mfmFa
  rw [h, show 16 * n / 16 = n by omega, evens_len]
  rw [Bool.eq_iff_iff, List.all_eq_true, List.isEmpty_iff, List.map_eq_nil_iff, List.filter_eq_nil_iff]
  constructor
  · intro hh a ha e
    have := hh a ha
    rw [e] at this
    cases this
  · intro hh a ha
    have := hh a ha
    simpa using this
theorem mk_cons {cs : List Int} : ∀ (k a : Nat) {p : Nat} {r : List Nat}, cs.length + 1 - a ≤ k → mkFrom cs a = p :: r → r = mkFrom cs (p + 48)
  | 0, a, p, r, h, e => by rw [mkFrom_end (by omega)] at e; cases e
  | k + 1, a, p, r, h, e => by
    by_cases c : a + 48 ≤ cs.length
    · by_cases m : cutA cs a 48 = marksZ
      · rw [mkFrom_yes c m] at e
        injection e with e1 e2
        subst e1
        exact e2.symm
      · rw [mkFrom_no c m] at e
        exact mk_cons k (a + 1) (by omega) e
    · rw [mkFrom_end c] at e
      cases e
theorem mk_tail {cs : List Int} : ∀ (qs : List Nat) (a : Nat) {p : Nat} {r : List Nat}, mkFrom cs a = qs ++ p :: r → r = mkFrom cs (p + 48)
  | [], a, p, r, e => mk_cons _ a (Nat.le_refl _) e
  | q :: qs, a, p, r, e => by
    have h := mk_cons _ a (Nat.le_refl _) e
    exact mk_tail qs _ h.symm
theorem mkFrom_len48 (cs : List Int) : ∀ (k a : Nat), cs.length + 1 - a ≤ k → 48 * (mkFrom cs a).length ≤ cs.length - a
  | 0, a, h => by rw [mkFrom_end (by omega)]; exact Nat.zero_le _
  | k + 1, a, h => by
    by_cases c : a + 48 ≤ cs.length
    · by_cases m : cutA cs a 48 = marksZ
      · rw [mkFrom_yes c m, List.length_cons]
        have := mkFrom_len48 cs k (a + 48) (by omega)
        omega
      · rw [mkFrom_no c m]
        have := mkFrom_len48 cs k (a + 1) (by omega)
        omega
    · rw [mkFrom_end c]; exact Nat.zero_le _
def endZ (cs : List Int) (qs : List Nat) : Int := match qs.getLast? with | none => -1 | some q => match adr cs q with | none => -1 | some _ => ((q + 160 : Nat) : Int)
theorem last_same {cs : List Int} {qs : List Nat} {p : Nat} (h : ∀ q ad gd sz, qs.getLast? = some q → adr cs q = some (ad, gd, sz) → behZ cs sz (q + 160) p = (none, false)) : fndN cs qs (some p) = fndN cs qs none := by
  rcases List.eq_nil_or_concat qs with rfl | ⟨qs', q, rfl⟩
  · rfl
  · rw [List.concat_eq_append] at h ⊢
    rw [fndN_snoc, fndN_snoc, fnd1_adr, fnd1_adr]
    cases ha : adr cs q with
    | none => rfl
    | some t =>
      obtain ⟨ad, gd, sz⟩ := t
      have := h q ad gd sz (by simp) ha
      show fndN cs qs' (some q) ++ optL (some (q, ad, gd, behZ cs sz (q + 160) p)) = _
      rw [this]
      rfl
theorem cutI_1m2 (ns : List Int) {L : Nat} (h : ns.length = L + 3) : cutI ns (some 1) (some (-2)) = (ns.drop 1).take L := by
  unfold cutI
  have h1 : HT.sIx ns.length ns.length (some (-2)) = L + 1 := by
    unfold HT.sIx
    simp
    omega
  have h2 : HT.sIx ns.length 0 (some 1) = 1 := by
    show HT.sIx ns.length 0 (some ((1 : Nat) : Int)) = 1
    rw [sIx_nat]
    omega
  rw [h1, h2]
  rfl
theorem cutI_fr (ns : List Int) (b : Nat) : cutI ns (some (b : Int)) none = ns.drop b := by
  unfold cutI
  rw [sIx_nat]
  show (ns.drop (min b ns.length)).take (ns.length - min b ns.length) = _
  by_cases h : b ≤ ns.length
  · rw [Nat.min_eq_left h, List.take_of_length_le (by rw [List.length_drop]; exact Nat.le_refl _)]
  · rw [Nat.min_eq_right (by omega), List.drop_of_length_le (Nat.le_refl _), List.drop_of_length_le (by omega), List.take_nil]
theorem cutI_up (ns : List Int) (b : Nat) : cutI ns none (some (b : Int)) = ns.take b := by
  unfold cutI
  rw [sIx_nat]
  show (ns.drop 0).take (min b ns.length - 0) = _
  rw [List.drop_zero, Nat.sub_zero]
  by_cases h : b ≤ ns.length
  · rw [Nat.min_eq_left h]
  · rw [Nat.min_eq_right (by omega), List.take_of_length_le (Nat.le_refl _), List.take_of_length_le (by omega)]
/-! ### texts of bits -/
theorem strB_len {b : Int} (h : b = 0 ∨ b = 1) : (strB b).length = 1 := by
  rcases h with rfl | rfl <;> decide
theorem strB_sum : ∀ cs : List Int, Bits cs → ((cs.map strB).map fun x => x.length).sum = cs.length
  | [], _ => rfl
  | b :: r, h => by
    rw [List.map_cons, List.map_cons, List.sum_cons, strB_sum r fun x hx => h x (List.mem_cons_of_mem _ hx), strB_len (h b List.mem_cons_self), List.length_cons]
    omega
theorem strB_fits {cs : List Int} (h : Bits cs) (hl : cs.length ≤ 100000) : ((cs.map strB).map fun x => x.length).sum + (cs.map strB).length * (Str.ofString "").length ≤ 16777216 := by
  have e : (Str.ofString "").length = 0 := by decide
  rw [strB_sum cs h, e]
  omega
theorem rng_strs (cs : List Int) : (List.range (cs.map V.int).length).map (fun i => V.str (strB (cs.getD i 0))) = (cs.map strB).map V.str := by
  apply List.ext_getElem
  · simp
  · intro k h1 h2
    simp only [List.length_map] at h2
    simp [List.getD_eq_getElem?_getD, List.getElem?_eq_getElem h2]
theorem adr_get {cs : List Int} {q : Nat} {ad : List Int} {gd : Bool} {sz : Int} (h : adr cs q = some (ad, gd, sz)) : ad[3]? = some sz := by
  unfold adr at h
  by_cases c : (valsB (behC cs q 7)).length < 7 ∨ (valsB (behC cs q 7)).getD 0 0 ≠ 254
  · rw [if_pos c] at h; cases h
  · rw [if_neg c] at h
    cases h
    have hl7 : ¬ (valsB (behC cs q 7)).length < 7 := fun h => c (.inl h)
    rw [List.getElem?_take_of_lt (by decide), List.getElem?_drop, List.getD_eq_getElem?_getD, List.getElem?_eq_getElem (show 1 + 3 < (valsB (behC cs q 7)).length by omega)]
    rfl
theorem endZ_some {cs : List Int} {qs : List Nat} (h : 0 ≤ endZ cs qs) : ∃ q ad gd sz, qs.getLast? = some q ∧ adr cs q = some (ad, gd, sz) ∧ endZ cs qs = ((q + 160 : Nat) : Int) := by
  unfold endZ at h ⊢
  cases hq : qs.getLast? with
  | none =>
    rw [hq] at h
    have h : (0 : Int) ≤ -1 := h
    omega
  | some q =>
    rw [hq] at h
    cases ha : adr cs q with
    | none =>
      have h : 0 ≤ (match adr cs q with | none => (-1 : Int) | some _ => ((q + 160 : Nat) : Int)) := h
      rw [ha] at h
      have h : (0 : Int) ≤ -1 := h
      omega
    | some t =>
      obtain ⟨ad, gd, sz⟩ := t
      exact ⟨q, ad, gd, sz, rfl, ha, by show (match adr cs q with | none => (-1 : Int) | some _ => ((q + 160 : Nat) : Int)) = _; rw [ha]⟩
theorem last_split {qs : List Nat} {q : Nat} (h : qs.getLast? = some q) : ∃ qs', qs = qs' ++ [q] := by
  rcases List.eq_nil_or_concat qs with rfl | ⟨qs', q', rfl⟩
  · cases h
  · rw [List.concat_eq_append] at h ⊢
    rw [List.getLast?_append] at h
    have : q' = q := by simpa using h
    subst this
    exact ⟨qs', rfl⟩
end Dw

namespace K71
open PySem PySem.Spec PyProof.Rows L2 Dw
abbrev sco_58_11 : Scope := { kind := .function, names := [(".0", .local), ("at", .cell), ("merged_byte", .globalImplicit), ("dumps", .cell)], isGenerator := false, isCoroutine := false }
def topS (i : Nat) : Stmt := PySem.Challenge.pw_discwright_k71_whole_votes_give_the_true.main.body.getD i (.Pass ⟨0, 0, 0, 0⟩)
abbrev s_byte_bits : Stmt := topS 5
abbrev n_byte_bits : List Str := ["value", "shift"]
theorem sc_byte_bits : FnScope n_byte_bits ["value"] (defScope s_byte_bits) := ⟨rfl, rfl, rfl, by decide +kernel, rfl, by decide +kernel, by decide +kernel⟩
abbrev s_bits_byte : Stmt := topS 6
abbrev n_bits_byte : List Str := ["bits", "value", "bit"]
theorem sc_bits_byte : FnScope n_bits_byte ["bits"] (defScope s_bits_byte) := ⟨rfl, rfl, rfl, by decide +kernel, rfl, by decide +kernel, by decide +kernel⟩
abbrev s_exclusive : Stmt := topS 7
abbrev n_exclusive : List Str := ["first", "second"]
theorem sc_exclusive : FnScope n_exclusive ["first", "second"] (defScope s_exclusive) := ⟨rfl, rfl, rfl, by decide +kernel, rfl, by decide +kernel, by decide +kernel⟩
abbrev s_crc : Stmt := topS 8
abbrev n_crc : List Str := ["values", "number", "value", "taken"]
theorem sc_crc : FnScope n_crc ["values"] (defScope s_crc) := ⟨rfl, rfl, rfl, by decide +kernel, rfl, by decide +kernel, by decide +kernel⟩
abbrev s_powers_up_to : Stmt := topS 12
abbrev n_powers_up_to : List Str := ["length", "count"]
theorem sc_powers_up_to : FnScope n_powers_up_to ["length"] (defScope s_powers_up_to) := ⟨rfl, rfl, rfl, by decide +kernel, rfl, by decide +kernel, by decide +kernel⟩
abbrev s_repeated_length : Stmt := topS 13
abbrev n_repeated_length : List Str := ["dump", "length"]
theorem sc_repeated_length : FnScope n_repeated_length ["dump"] (defScope s_repeated_length) := ⟨rfl, rfl, rfl, by decide +kernel, rfl, by decide +kernel, by decide +kernel⟩
abbrev s_length_of : Stmt := topS 14
abbrev n_length_of : List Str := ["dump", "length", "half", "second"]
theorem sc_length_of : FnScope n_length_of ["dump"] (defScope s_length_of) := ⟨rfl, rfl, rfl, by decide +kernel, rfl, by decide +kernel, by decide +kernel⟩
abbrev s_true_length : Stmt := topS 15
abbrev n_true_length : List Str := ["dump"]
theorem sc_true_length : FnScope n_true_length ["dump"] (defScope s_true_length) := ⟨rfl, rfl, rfl, by decide +kernel, rfl, by decide +kernel, by decide +kernel⟩
abbrev s_trimmed : Stmt := topS 16
abbrev n_trimmed : List Str := ["dump"]
theorem sc_trimmed : FnScope n_trimmed ["dump"] (defScope s_trimmed) := ⟨rfl, rfl, rfl, by decide +kernel, rfl, by decide +kernel, by decide +kernel⟩
abbrev s_merged_byte : Stmt := topS 17
abbrev n_merged_byte : List Str := ["values", "counts", "value", "greatest", "winners"]
theorem sc_merged_byte : FnScope n_merged_byte ["values"] (defScope s_merged_byte) := ⟨rfl, rfl, rfl, by decide +kernel, rfl, by decide +kernel, by decide +kernel⟩
abbrev s_merged : Stmt := topS 18
abbrev n_merged : List Str := ["dumps", "dump", "at"]
theorem sc_merged : FnScope n_merged ["dumps"] (defScope s_merged) := ⟨rfl, rfl, rfl, by decide +kernel, rfl, by decide +kernel, by decide +kernel⟩
abbrev s_doubled : Stmt := topS 23
abbrev n_doubled : List Str := ["number"]
theorem sc_doubled : FnScope n_doubled ["number"] (defScope s_doubled) := ⟨rfl, rfl, rfl, by decide +kernel, rfl, by decide +kernel, by decide +kernel⟩
abbrev s_crc_change : Stmt := topS 24
abbrev n_crc_change : List Str := ["length", "place", "number", "_"]
theorem sc_crc_change : FnScope n_crc_change ["length", "place"] (defScope s_crc_change) := ⟨rfl, rfl, rfl, by decide +kernel, rfl, by decide +kernel, by decide +kernel⟩
abbrev s_with_bits_changed : Stmt := topS 25
abbrev n_with_bits_changed : List Str := ["values", "places", "result", "place"]
theorem sc_with_bits_changed : FnScope n_with_bits_changed ["values", "places"] (defScope s_with_bits_changed) := ⟨rfl, rfl, rfl, by decide +kernel, rfl, by decide +kernel, by decide +kernel⟩
abbrev s_with_bits_cleared : Stmt := topS 26
abbrev n_with_bits_cleared : List Str := ["values", "places", "result", "place", "bits"]
theorem sc_with_bits_cleared : FnScope n_with_bits_cleared ["values", "places"] (defScope s_with_bits_cleared) := ⟨rfl, rfl, rfl, by decide +kernel, rfl, by decide +kernel, by decide +kernel⟩
abbrev s_check_unknown : Stmt := topS 27
abbrev n_check_unknown : List Str := ["values", "unknown", "place", "other"]
theorem sc_check_unknown : FnScope n_check_unknown ["values", "unknown"] (defScope s_check_unknown) := ⟨rfl, rfl, rfl, by decide +kernel, rfl, by decide +kernel, by decide +kernel⟩
abbrev s_reduced : Stmt := topS 28
abbrev n_reduced : List Str := ["row", "basis", "change", "chosen", "other"]
theorem sc_reduced : FnScope n_reduced ["row", "basis"] (defScope s_reduced) := ⟨rfl, rfl, rfl, by decide +kernel, rfl, by decide +kernel, by decide +kernel⟩
abbrev s_solved : Stmt := topS 29
abbrev n_solved : List Str := ["values", "unknown", "wanted", "basis", "at", "place", "row", "difference", "left", "chosen"]
theorem sc_solved : FnScope n_solved ["values", "unknown", "wanted"] (defScope s_solved) := ⟨rfl, rfl, rfl, by decide +kernel, rfl, by decide +kernel, by decide +kernel⟩
abbrev s_solution : Stmt := topS 30
abbrev n_solution : List Str := ["values", "unknown", "wanted", "count", "places"]
theorem sc_solution : FnScope n_solution ["values", "unknown", "wanted"] (defScope s_solution) := ⟨rfl, rfl, rfl, by decide +kernel, rfl, by decide +kernel, by decide +kernel⟩
abbrev s_law_pool : Stmt := topS 32
abbrev n_law_pool : List Str := ["script", "salt", "cell"]
theorem sc_law_pool : FnScope n_law_pool ["script"] (defScope s_law_pool) := ⟨rfl, rfl, rfl, by decide +kernel, rfl, by decide +kernel, by decide +kernel⟩
abbrev s_law_spread : Stmt := topS 33
abbrev n_law_spread : List Str := ["cell", "mixed", "wide", "k"]
theorem sc_law_spread : FnScope n_law_spread ["cell"] (defScope s_law_spread) := ⟨rfl, rfl, rfl, by decide +kernel, rfl, by decide +kernel, by decide +kernel⟩
abbrev s_law_draw : Stmt := topS 34
abbrev n_law_draw : List Str := ["pool", "many", "cell", "mixed", "value"]
theorem sc_law_draw : FnScope n_law_draw ["pool", "many"] (defScope s_law_draw) := ⟨rfl, rfl, rfl, by decide +kernel, rfl, by decide +kernel, by decide +kernel⟩
abbrev s_law_same : Stmt := topS 35
abbrev n_law_same : List Str := ["actual", "due", "k"]
theorem sc_law_same : FnScope n_law_same ["actual", "due"] (defScope s_law_same) := ⟨rfl, rfl, rfl, by decide +kernel, rfl, by decide +kernel, by decide +kernel⟩
abbrev s_law : Stmt := topS 36
abbrev n_law : List Str := ["script", "pool", "true", "k", "many", "dumps", "at", "first", "seen"]
theorem sc_law : FnScope n_law ["script"] (defScope s_law) := ⟨rfl, rfl, rfl, by decide +kernel, rfl, by decide +kernel, by decide +kernel⟩
/-- where the defs stand -/
structure Ad where
  f_byte_bits : Addr
  d_byte_bits : FuncData
  f_bits_byte : Addr
  d_bits_byte : FuncData
  f_exclusive : Addr
  d_exclusive : FuncData
  f_crc : Addr
  d_crc : FuncData
  f_powers_up_to : Addr
  d_powers_up_to : FuncData
  f_repeated_length : Addr
  d_repeated_length : FuncData
  f_length_of : Addr
  d_length_of : FuncData
  f_true_length : Addr
  d_true_length : FuncData
  f_trimmed : Addr
  d_trimmed : FuncData
  f_merged_byte : Addr
  d_merged_byte : FuncData
  f_merged : Addr
  d_merged : FuncData
  f_doubled : Addr
  d_doubled : FuncData
  f_crc_change : Addr
  d_crc_change : FuncData
  f_with_bits_changed : Addr
  d_with_bits_changed : FuncData
  f_with_bits_cleared : Addr
  d_with_bits_cleared : FuncData
  f_check_unknown : Addr
  d_check_unknown : FuncData
  f_reduced : Addr
  d_reduced : FuncData
  f_solved : Addr
  d_solved : FuncData
  f_solution : Addr
  d_solution : FuncData
  f_law_pool : Addr
  d_law_pool : FuncData
  f_law_spread : Addr
  d_law_spread : FuncData
  f_law_draw : Addr
  d_law_draw : FuncData
  f_law_same : Addr
  d_law_same : FuncData
  f_law : Addr
  d_law : FuncData
  u_LEAST_LENGTH : Value
  u_GREATEST_LENGTH : Value
  u_MOST_UNKNOWN : Value
  u_POLYNOMIAL : Value
  u_PERIOD : Value
  c_InvalidUnknowns : Addr
  c_InvalidDump : Addr
/-- what the top has written -/
structure Tx (K : PySem.W.Frag) (mg : Str → Option Value) (A : Ad) : Prop where
  F_byte_bits : Fun K "byte_bits" "byte_bits" s_byte_bits A.f_byte_bits A.d_byte_bits
  b_byte_bits : Binds K A.d_byte_bits ["value"] []
  g_byte_bits : mg "byte_bits" = some (.ref A.f_byte_bits)
  F_bits_byte : Fun K "bits_byte" "bits_byte" s_bits_byte A.f_bits_byte A.d_bits_byte
  b_bits_byte : Binds K A.d_bits_byte ["bits"] []
  g_bits_byte : mg "bits_byte" = some (.ref A.f_bits_byte)
  F_exclusive : Fun K "exclusive" "exclusive" s_exclusive A.f_exclusive A.d_exclusive
  b_exclusive : Binds K A.d_exclusive ["first", "second"] []
  g_exclusive : mg "exclusive" = some (.ref A.f_exclusive)
  F_crc : Fun K "crc" "crc" s_crc A.f_crc A.d_crc
  b_crc : Binds K A.d_crc ["values"] []
  g_crc : mg "crc" = some (.ref A.f_crc)
  F_powers_up_to : Fun K "powers_up_to" "powers_up_to" s_powers_up_to A.f_powers_up_to A.d_powers_up_to
  b_powers_up_to : Binds K A.d_powers_up_to ["length"] []
  g_powers_up_to : mg "powers_up_to" = some (.ref A.f_powers_up_to)
  F_repeated_length : Fun K "repeated_length" "repeated_length" s_repeated_length A.f_repeated_length A.d_repeated_length
  b_repeated_length : Binds K A.d_repeated_length ["dump"] []
  g_repeated_length : mg "repeated_length" = some (.ref A.f_repeated_length)
  F_length_of : Fun K "length_of" "length_of" s_length_of A.f_length_of A.d_length_of
  b_length_of : Binds K A.d_length_of ["dump"] []
  g_length_of : mg "length_of" = some (.ref A.f_length_of)
  F_true_length : Fun K "true_length" "true_length" s_true_length A.f_true_length A.d_true_length
  b_true_length : Binds K A.d_true_length ["dump"] []
  g_true_length : mg "true_length" = some (.ref A.f_true_length)
  F_trimmed : Fun K "trimmed" "trimmed" s_trimmed A.f_trimmed A.d_trimmed
  b_trimmed : Binds K A.d_trimmed ["dump"] []
  g_trimmed : mg "trimmed" = some (.ref A.f_trimmed)
  F_merged_byte : Fun K "merged_byte" "merged_byte" s_merged_byte A.f_merged_byte A.d_merged_byte
  b_merged_byte : Binds K A.d_merged_byte ["values"] []
  g_merged_byte : mg "merged_byte" = some (.ref A.f_merged_byte)
  F_merged : Fun K "merged" "merged" s_merged A.f_merged A.d_merged
  b_merged : Binds K A.d_merged ["dumps"] []
  g_merged : mg "merged" = some (.ref A.f_merged)
  F_doubled : Fun K "doubled" "doubled" s_doubled A.f_doubled A.d_doubled
  b_doubled : Binds K A.d_doubled ["number"] []
  g_doubled : mg "doubled" = some (.ref A.f_doubled)
  F_crc_change : Fun K "crc_change" "crc_change" s_crc_change A.f_crc_change A.d_crc_change
  b_crc_change : Binds K A.d_crc_change ["length", "place"] []
  g_crc_change : mg "crc_change" = some (.ref A.f_crc_change)
  F_with_bits_changed : Fun K "with_bits_changed" "with_bits_changed" s_with_bits_changed A.f_with_bits_changed A.d_with_bits_changed
  b_with_bits_changed : Binds K A.d_with_bits_changed ["values", "places"] []
  g_with_bits_changed : mg "with_bits_changed" = some (.ref A.f_with_bits_changed)
  F_with_bits_cleared : Fun K "with_bits_cleared" "with_bits_cleared" s_with_bits_cleared A.f_with_bits_cleared A.d_with_bits_cleared
  b_with_bits_cleared : Binds K A.d_with_bits_cleared ["values", "places"] []
  g_with_bits_cleared : mg "with_bits_cleared" = some (.ref A.f_with_bits_cleared)
  F_check_unknown : Fun K "check_unknown" "check_unknown" s_check_unknown A.f_check_unknown A.d_check_unknown
  b_check_unknown : Binds K A.d_check_unknown ["values", "unknown"] []
  g_check_unknown : mg "check_unknown" = some (.ref A.f_check_unknown)
  F_reduced : Fun K "reduced" "reduced" s_reduced A.f_reduced A.d_reduced
  b_reduced : Binds K A.d_reduced ["row", "basis"] []
  g_reduced : mg "reduced" = some (.ref A.f_reduced)
  F_solved : Fun K "solved" "solved" s_solved A.f_solved A.d_solved
  b_solved : Binds K A.d_solved ["values", "unknown", "wanted"] []
  g_solved : mg "solved" = some (.ref A.f_solved)
  F_solution : Fun K "solution" "solution" s_solution A.f_solution A.d_solution
  b_solution : Binds K A.d_solution ["values", "unknown", "wanted"] []
  g_solution : mg "solution" = some (.ref A.f_solution)
  F_law_pool : Fun K "_law_pool" "_law_pool" s_law_pool A.f_law_pool A.d_law_pool
  b_law_pool : Binds K A.d_law_pool ["script"] []
  g_law_pool : mg "_law_pool" = some (.ref A.f_law_pool)
  F_law_spread : Fun K "_law_spread" "_law_spread" s_law_spread A.f_law_spread A.d_law_spread
  b_law_spread : Binds K A.d_law_spread ["cell"] []
  g_law_spread : mg "_law_spread" = some (.ref A.f_law_spread)
  F_law_draw : Fun K "_law_draw" "_law_draw" s_law_draw A.f_law_draw A.d_law_draw
  b_law_draw : Binds K A.d_law_draw ["pool", "many"] []
  g_law_draw : mg "_law_draw" = some (.ref A.f_law_draw)
  F_law_same : Fun K "_law_same" "_law_same" s_law_same A.f_law_same A.d_law_same
  b_law_same : Binds K A.d_law_same ["actual", "due"] []
  g_law_same : mg "_law_same" = some (.ref A.f_law_same)
  F_law : Fun K "law" "law" s_law A.f_law A.d_law
  b_law : Binds K A.d_law ["script"] []
  g_law : mg "law" = some (.ref A.f_law)
  z_all : mg "all" = none
  z_bool : mg "bool" = none
  z_enumerate : mg "enumerate" = none
  z_int : mg "int" = none
  z_isinstance : mg "isinstance" = none
  z_len : mg "len" = none
  z_list : mg "list" = none
  z_max : mg "max" = none
  z_range : mg "range" = none
  z_str : mg "str" = none
  z_tuple : mg "tuple" = none
  z_zip : mg "zip" = none
  c_LEAST_LENGTH : mg "LEAST_LENGTH" = some A.u_LEAST_LENGTH
  r_LEAST_LENGTH : RelV (.int 16) A.u_LEAST_LENGTH
  c_GREATEST_LENGTH : mg "GREATEST_LENGTH" = some A.u_GREATEST_LENGTH
  r_GREATEST_LENGTH : RelV (.int 65536) A.u_GREATEST_LENGTH
  c_MOST_UNKNOWN : mg "MOST_UNKNOWN" = some A.u_MOST_UNKNOWN
  r_MOST_UNKNOWN : RelV (.int 24) A.u_MOST_UNKNOWN
  c_POLYNOMIAL : mg "POLYNOMIAL" = some A.u_POLYNOMIAL
  r_POLYNOMIAL : RelV (.int 4129) A.u_POLYNOMIAL
  c_PERIOD : mg "PERIOD" = some A.u_PERIOD
  r_PERIOD : RelV (.int 32767) A.u_PERIOD
  x_InvalidUnknowns : ExcF K mg "InvalidUnknowns" A.c_InvalidUnknowns
  x_InvalidDump : ExcF K mg "InvalidDump" A.c_InvalidDump
section
variable {P : Program} {w : World} {K : PySem.W.Frag} {mg : Str → Option Value} {base : Heap} {A : Ad}
theorem ok_byte_bits (T : Tx K mg A) : FnOk P w K mg base CX0 1 A.f_byte_bits A.d_byte_bits ["value"] spByteBits := by
  refine T.F_byte_bits.ok sc_byte_bits (fun vs H Q E h => ?_) (fun cdv A' outer s H vs Q E hr h => ?_)
  · obtain ⟨v, rfl, _⟩ := h
    rfl
  obtain ⟨v, rfl, hv, k⟩ := h
  refine ⟨_, (pss_one (ps_ret (pe_lc (own := [("shift", 1)]) (g := (gName 1)) (tt := tYes) rfl sc_byte_bits.nd (pi_tup (pe_tup (pa_cons pe_int (pa_cons pe_int (pa_cons pe_int (pa_cons pe_int (pa_cons pe_int (pa_cons pe_int (pa_cons pe_int (pa_cons pe_int pa_nil)))))))))) (blkOk_by (N := n_byte_bits) (sc := (defScope s_byte_bits)) (by decide +kernel)) (fun _ _ _ _ _ => (pg_name (i := 1) sc_byte_bits.nd rfl (Or.inl rfl))) (fun _ _ _ _ _ => pts_nil) (fun _ _ _ _ _ => (pe_op op_and (pe_op op_shr (pv 0) (pv 1)) pe_int))))), ?_⟩
  try simp only [tSeq, tAsg, tVar, tC, tOp, rI0, rI, tUn, rU, tIfS, tTest, tRet, tRetN, tDrop, tCB, tCons, tNil, tLst, tLstI, tTup, gName, tB, tAnd, tOr, tNot, tAndV, tOrV, tNotV, tIf, tNext, tBreak, tCont, gSub, tCall, tCallN, tAug, ipI, tBML, tBML0, isL_IL, isL_lst, L2.start, List.map_cons, List.map_nil, List.length_cons, List.length_nil, List.cons_append, List.nil_append, List.getElem?_cons_succ, List.getElem?_cons_zero, Option.some.injEq, exists_eq_left', exists_eq_left, exists_and_left, V.int.injEq, V.ref.injEq, V.bl.injEq, V.str.injEq, List.set_cons_zero, List.set_cons_succ, List.cons.injEq, and_true, true_and, Nat.reduceAdd, Nat.reduceSub, List.replicate_succ, List.replicate_zero, rIxI, rIxH, rIxTH, rSetI, rSetH, rCatI, rRepI, rSlI, rAppendI, rExtendI, decide_eq_true_eq, upd_same, IL_inj, HO.lst.injEq, toInts_cons, toInts_nil, Option.map_some, if_true, if_false, Bool.true_eq_false, Bool.false_eq_true, Bool.not_true, Bool.not_false, Bool.not_eq_true', decide_eq_false_iff_not, atI_0, atI_1, atI_2, atI_3, atI_4, Int.reduceToNat, Int.reduceLT, Int.reduceLE, Int.reduceNeg, Int.reducePow, cast_lit, upd_upd, Int.reduceAdd, Int.reduceMul, Int.reduceSub, Nat.reduceLT, Nat.reduceLeDiff, cmul_r, cdiv_r, tSl, tPart, tNoPart, rEq, rNe, scal_nn, scal_ii, scal_bb, scal_ss, scal_is, scal_si, V.ty.injEq, and_assoc, tyH_non, tyH_bl, tyH_int, tyH_str, tyH_ref, tyO_lst, tyO_IL, tyO_tup, itO_lst, itO_tup, itO_IL, Dw.rIxD, rLenI, rLenH, rLenTH, rLenQ, rLenB, rListI, Dw.rListS, rIntI, rIntB, rSumI, rIsiD, rIsX, tCallS, tMakeS, tMake, tMakeC, tMakeSC, tFld, sFld, HO.ins.injEq, HO.tup.injEq, cxOf_K, nox_K, tr_K, suite_K, rTupleI, rAllB, rAnyB, BL_inj, tChain, wOnly, wAs, wMany, rEqI, rNeI, Dw.rMax2, rMin2, Dw.rIsN, rIsNotN, rStrIn, rStrNotIn, not_true_eq_false, not_false_eq_true, reduceCtorEq, cl_bool, cl_int, cl_str, cl_list, cl_tuple, isB_NoneType_bool, isB_NoneType_int, isB_NoneType_str, isB_NoneType_list, isB_NoneType_tuple, isB_bool_bool, isB_bool_int, isB_bool_str, isB_bool_list, isB_bool_tuple, isB_int_bool, isB_int_int, isB_int_str, isB_int_list, isB_int_tuple, isB_str_bool, isB_str_int, isB_str_str, isB_str_list, isB_str_tuple, isB_list_bool, isB_list_int, isB_list_str, isB_list_list, isB_list_tuple, isB_tuple_bool, isB_tuple_int, isB_tuple_str, isB_tuple_list, isB_tuple_tuple, iEz, tPar, tRevL, Dw.rSetL, Dw.rIxL, rIxE, iSeqA, iEnumT]
  refine ⟨line_le (by decide), fun t ht => ⟨t, rfl, ⟨_, .of upd_same⟩, fun D hD => ?_⟩⟩
  refine lc_tupI (K := K) (a := t) (xs := [.int 7, .int 6, .int 5, .int 4, .int 3, .int 2, .int 1, .int 0]) (f := fun i => ((v / 2 ^ (7 - i) % 2 : Nat) : Int)) (by decide) (.of upd_same) hD (fun _ => rfl) ?_ fun H' s1 e1 => ?_
  · intro i x H3 Q' hi s1 hq
    obtain ⟨j, hj, rfl⟩ : ∃ j : Nat, j = 7 - i ∧ x = .int (j : Int) := by
      match i, hi with
      | 0, h => exact ⟨7, rfl, (Option.some.inj h).symm⟩
      | 1, h => exact ⟨6, rfl, (Option.some.inj h).symm⟩
      | 2, h => exact ⟨5, rfl, (Option.some.inj h).symm⟩
      | 3, h => exact ⟨4, rfl, (Option.some.inj h).symm⟩
      | 4, h => exact ⟨3, rfl, (Option.some.inj h).symm⟩
      | 5, h => exact ⟨2, rfl, (Option.some.inj h).symm⟩
      | 6, h => exact ⟨1, rfl, (Option.some.inj h).symm⟩
      | 7, h => exact ⟨0, rfl, (Option.some.inj h).symm⟩
      | i + 8, h => simp at h
    try simp only [tSeq, tAsg, tVar, tC, tOp, rI0, rI, tUn, rU, tIfS, tTest, tRet, tRetN, tDrop, tCB, tCons, tNil, tLst, tLstI, tTup, gName, tB, tAnd, tOr, tNot, tAndV, tOrV, tNotV, tIf, tNext, tBreak, tCont, gSub, tCall, tCallN, tAug, ipI, tBML, tBML0, isL_IL, isL_lst, L2.start, List.map_cons, List.map_nil, List.length_cons, List.length_nil, List.cons_append, List.nil_append, List.getElem?_cons_succ, List.getElem?_cons_zero, Option.some.injEq, exists_eq_left', exists_eq_left, exists_and_left, V.int.injEq, V.ref.injEq, V.bl.injEq, V.str.injEq, List.set_cons_zero, List.set_cons_succ, List.cons.injEq, and_true, true_and, Nat.reduceAdd, Nat.reduceSub, List.replicate_succ, List.replicate_zero, rIxI, rIxH, rIxTH, rSetI, rSetH, rCatI, rRepI, rSlI, rAppendI, rExtendI, decide_eq_true_eq, upd_same, IL_inj, HO.lst.injEq, toInts_cons, toInts_nil, Option.map_some, if_true, if_false, Bool.true_eq_false, Bool.false_eq_true, Bool.not_true, Bool.not_false, Bool.not_eq_true', decide_eq_false_iff_not, atI_0, atI_1, atI_2, atI_3, atI_4, Int.reduceToNat, Int.reduceLT, Int.reduceLE, Int.reduceNeg, Int.reducePow, cast_lit, upd_upd, Int.reduceAdd, Int.reduceMul, Int.reduceSub, Nat.reduceLT, Nat.reduceLeDiff, cmul_r, cdiv_r, tSl, tPart, tNoPart, rEq, rNe, scal_nn, scal_ii, scal_bb, scal_ss, scal_is, scal_si, V.ty.injEq, and_assoc, tyH_non, tyH_bl, tyH_int, tyH_str, tyH_ref, tyO_lst, tyO_IL, tyO_tup, itO_lst, itO_tup, itO_IL, Dw.rIxD, rLenI, rLenH, rLenTH, rLenQ, rLenB, rListI, Dw.rListS, rIntI, rIntB, rSumI, rIsiD, rIsX, tCallS, tMakeS, tMake, tMakeC, tMakeSC, tFld, sFld, HO.ins.injEq, HO.tup.injEq, cxOf_K, nox_K, tr_K, suite_K, rTupleI, rAllB, rAnyB, BL_inj, tChain, wOnly, wAs, wMany, rEqI, rNeI, Dw.rMax2, rMin2, Dw.rIsN, rIsNotN, rStrIn, rStrNotIn, not_true_eq_false, not_false_eq_true, reduceCtorEq, cl_bool, cl_int, cl_str, cl_list, cl_tuple, isB_NoneType_bool, isB_NoneType_int, isB_NoneType_str, isB_NoneType_list, isB_NoneType_tuple, isB_bool_bool, isB_bool_int, isB_bool_str, isB_bool_list, isB_bool_tuple, isB_int_bool, isB_int_int, isB_int_str, isB_int_list, isB_int_tuple, isB_str_bool, isB_str_int, isB_str_str, isB_str_list, isB_str_tuple, isB_list_bool, isB_list_int, isB_list_str, isB_list_list, isB_list_tuple, isB_tuple_bool, isB_tuple_int, isB_tuple_str, isB_tuple_list, isB_tuple_tuple, iEz, tPar, tRevL, Dw.rSetL, Dw.rIxL, rIxE, iSeqA, iEnumT, wipe, Int.toNat_natCast, bit_div]
    rw [hj]
    exact ⟨Int.natCast_nonneg _, hq _ (Same.refl _)⟩
  · have eb : (List.range 8).map (fun i => ((v / 2 ^ (7 - i) % 2 : Nat) : Int)) = bits8 v := by
      simp [List.range_succ, bits8]
    have e2 : H' D = some (IL (bits8 v)) := by rw [← eb]; exact e1
    exact k D H' ((same_new ht _).trans s1) (same_none (same_new ht _) hD) e2
end
section
variable {P : Program} {w : World} {K : PySem.W.Frag} {mg : Str → Option Value} {base : Heap} {A : Ad}
end
section
variable {P : Program} {w : World} {K : PySem.W.Frag} {mg : Str → Option Value} {base : Heap} {A : Ad}
def byteZ (ns : List Int) : Int := ns.foldl (fun v b => 2 * v + b) 0
theorem byteZ_more {ns : List Int} {i : Nat} {b : Int} (h : ns[i]? = some b) : byteZ (ns.take (i + 1)) = 2 * byteZ (ns.take i) + b := by
  unfold byteZ
  rw [List.take_succ, h, List.foldl_append]
  rfl
theorem byteZ_bits8 {v : Nat} (hv : v < 256) : byteZ (bits8 v) = (v : Int) := by
  unfold byteZ bits8
  simp only [List.foldl_cons, List.foldl_nil]
  omega
def spBitsByte : Sp := fun vs H Q _ => ∃ (a : Addr) (ns : List Int), vs = [.ref a] ∧ H a = some (IL ns) ∧ Q (.int (byteZ ns)) H
theorem ok_bits_byte (T : Tx K mg A) : FnOk P w K mg base CX0 1 A.f_bits_byte A.d_bits_byte ["bits"] spBitsByte := by
  refine T.F_bits_byte.ok sc_bits_byte (fun vs H Q E h => ?_) (fun cdv A' outer s H vs Q E hr h => ?_)
  · obtain ⟨a, ns, rfl, _⟩ := h
    rfl
  obtain ⟨a, ns, rfl, hA, k⟩ := h
  refine ⟨_, (pss_cons (ps_set (i := 1) sc_bits_byte.nd rfl (Or.inl rfl) pe_int)
      (pss_cons (ps_for PassesOwn.never rfl (pi_list (pv 0)) (pg_name (i := 2) sc_bits_byte.nd rfl (Or.inl rfl))
        (pss_one (ps_set (i := 1) sc_bits_byte.nd rfl (Or.inl rfl) (pe_op op_add (pe_op op_mul pe_int (pv 1)) (pv 2)))))
      (pss_one (ps_ret (pv 1))))), ?_⟩
  try simp only [tSeq, tAsg, tVar, tC, tOp, rI0, rI, tUn, rU, tIfS, tTest, tRet, tRetN, tDrop, tCB, tCons, tNil, tLst, tLstI, tTup, gName, tB, tAnd, tOr, tNot, tAndV, tOrV, tNotV, tIf, tNext, tBreak, tCont, gSub, tCall, tCallN, tAug, ipI, tBML, tBML0, isL_IL, isL_lst, L2.start, List.map_cons, List.map_nil, List.length_cons, List.length_nil, List.cons_append, List.nil_append, List.getElem?_cons_succ, List.getElem?_cons_zero, Option.some.injEq, exists_eq_left', exists_eq_left, exists_and_left, V.int.injEq, V.ref.injEq, V.bl.injEq, V.str.injEq, List.set_cons_zero, List.set_cons_succ, List.cons.injEq, and_true, true_and, Nat.reduceAdd, Nat.reduceSub, List.replicate_succ, List.replicate_zero, rIxI, rIxH, rIxTH, rSetI, rSetH, rCatI, rRepI, rSlI, rAppendI, rExtendI, decide_eq_true_eq, upd_same, IL_inj, HO.lst.injEq, toInts_cons, toInts_nil, Option.map_some, if_true, if_false, Bool.true_eq_false, Bool.false_eq_true, Bool.not_true, Bool.not_false, Bool.not_eq_true', decide_eq_false_iff_not, atI_0, atI_1, atI_2, atI_3, atI_4, Int.reduceToNat, Int.reduceLT, Int.reduceLE, Int.reduceNeg, Int.reducePow, cast_lit, upd_upd, Int.reduceAdd, Int.reduceMul, Int.reduceSub, Nat.reduceLT, Nat.reduceLeDiff, cmul_r, cdiv_r, tSl, tPart, tNoPart, rEq, rNe, scal_nn, scal_ii, scal_bb, scal_ss, scal_is, scal_si, V.ty.injEq, and_assoc, tyH_non, tyH_bl, tyH_int, tyH_str, tyH_ref, tyO_lst, tyO_IL, tyO_tup, itO_lst, itO_tup, itO_IL, Dw.rIxD, rLenI, rLenH, rLenTH, rLenQ, rLenB, rListI, Dw.rListS, rIntI, rIntB, rSumI, rIsiD, rIsX, tCallS, tMakeS, tMake, tMakeC, tMakeSC, tFld, sFld, HO.ins.injEq, HO.tup.injEq, cxOf_K, nox_K, tr_K, suite_K, rTupleI, rAllB, rAnyB, BL_inj, tChain, wOnly, wAs, wMany, rEqI, rNeI, Dw.rMax2, rMin2, Dw.rIsN, rIsNotN, rStrIn, rStrNotIn, not_true_eq_false, not_false_eq_true, reduceCtorEq, cl_bool, cl_int, cl_str, cl_list, cl_tuple, isB_NoneType_bool, isB_NoneType_int, isB_NoneType_str, isB_NoneType_list, isB_NoneType_tuple, isB_bool_bool, isB_bool_int, isB_bool_str, isB_bool_list, isB_bool_tuple, isB_int_bool, isB_int_int, isB_int_str, isB_int_list, isB_int_tuple, isB_str_bool, isB_str_int, isB_str_str, isB_str_list, isB_str_tuple, isB_list_bool, isB_list_int, isB_list_str, isB_list_list, isB_list_tuple, isB_tuple_bool, isB_tuple_int, isB_tuple_str, isB_tuple_list, isB_tuple_tuple, iEz, tPar, tRevL, Dw.rSetL, Dw.rIxL, rIxE, iSeqA, iEnumT]
  obtain ⟨I, hI⟩ : ∃ F : Nat → L2.St → Hp → Prop, F = (fun i σ H' => H' = H ∧ ∃ y, σ = [some (V.ref a), some (V.int (byteZ (ns.take i))), y]) := ⟨_, rfl⟩
  refine ⟨_, rfl, a, rfl, ⟨_, .of hA⟩, for_list (xs := ns.map V.int) I (by rw [hI]; exact ⟨rfl, none, rfl⟩) ?_ ?_ ?_⟩
  · intro i σ H' hi h
    rw [hI] at h
    obtain ⟨rfl, _⟩ := h
    exact .of hA
  · intro i v σ H' hi h
    rw [hI] at h
    obtain ⟨rfl, y, rfl⟩ := h
    obtain ⟨z, rfl, hz⟩ := ints_at hi
    have cm : ∀ x, CMul 2 x := fun x => .inl ⟨by decide, by decide⟩
    try simp only [tSeq, tAsg, tVar, tC, tOp, rI0, rI, tUn, rU, tIfS, tTest, tRet, tRetN, tDrop, tCB, tCons, tNil, tLst, tLstI, tTup, gName, tB, tAnd, tOr, tNot, tAndV, tOrV, tNotV, tIf, tNext, tBreak, tCont, gSub, tCall, tCallN, tAug, ipI, tBML, tBML0, isL_IL, isL_lst, L2.start, List.map_cons, List.map_nil, List.length_cons, List.length_nil, List.cons_append, List.nil_append, List.getElem?_cons_succ, List.getElem?_cons_zero, Option.some.injEq, exists_eq_left', exists_eq_left, exists_and_left, V.int.injEq, V.ref.injEq, V.bl.injEq, V.str.injEq, List.set_cons_zero, List.set_cons_succ, List.cons.injEq, and_true, true_and, Nat.reduceAdd, Nat.reduceSub, List.replicate_succ, List.replicate_zero, rIxI, rIxH, rIxTH, rSetI, rSetH, rCatI, rRepI, rSlI, rAppendI, rExtendI, decide_eq_true_eq, upd_same, IL_inj, HO.lst.injEq, toInts_cons, toInts_nil, Option.map_some, if_true, if_false, Bool.true_eq_false, Bool.false_eq_true, Bool.not_true, Bool.not_false, Bool.not_eq_true', decide_eq_false_iff_not, atI_0, atI_1, atI_2, atI_3, atI_4, Int.reduceToNat, Int.reduceLT, Int.reduceLE, Int.reduceNeg, Int.reducePow, cast_lit, upd_upd, Int.reduceAdd, Int.reduceMul, Int.reduceSub, Nat.reduceLT, Nat.reduceLeDiff, cmul_r, cdiv_r, tSl, tPart, tNoPart, rEq, rNe, scal_nn, scal_ii, scal_bb, scal_ss, scal_is, scal_si, V.ty.injEq, and_assoc, tyH_non, tyH_bl, tyH_int, tyH_str, tyH_ref, tyO_lst, tyO_IL, tyO_tup, itO_lst, itO_tup, itO_IL, Dw.rIxD, rLenI, rLenH, rLenTH, rLenQ, rLenB, rListI, Dw.rListS, rIntI, rIntB, rSumI, rIsiD, rIsX, tCallS, tMakeS, tMake, tMakeC, tMakeSC, tFld, sFld, HO.ins.injEq, HO.tup.injEq, cxOf_K, nox_K, tr_K, suite_K, rTupleI, rAllB, rAnyB, BL_inj, tChain, wOnly, wAs, wMany, rEqI, rNeI, Dw.rMax2, rMin2, Dw.rIsN, rIsNotN, rStrIn, rStrNotIn, not_true_eq_false, not_false_eq_true, reduceCtorEq, cl_bool, cl_int, cl_str, cl_list, cl_tuple, isB_NoneType_bool, isB_NoneType_int, isB_NoneType_str, isB_NoneType_list, isB_NoneType_tuple, isB_bool_bool, isB_bool_int, isB_bool_str, isB_bool_list, isB_bool_tuple, isB_int_bool, isB_int_int, isB_int_str, isB_int_list, isB_int_tuple, isB_str_bool, isB_str_int, isB_str_str, isB_str_list, isB_str_tuple, isB_list_bool, isB_list_int, isB_list_str, isB_list_list, isB_list_tuple, isB_tuple_bool, isB_tuple_int, isB_tuple_str, isB_tuple_list, isB_tuple_tuple, iEz, tPar, tRevL, Dw.rSetL, Dw.rIxL, rIxE, iSeqA, iEnumT, cm]
    rw [hI]
    exact ⟨rfl, _, by rw [byteZ_more hz]⟩
  · intro σ H' h
    rw [hI] at h
    obtain ⟨rfl, y, rfl⟩ := h
    try simp only [tSeq, tAsg, tVar, tC, tOp, rI0, rI, tUn, rU, tIfS, tTest, tRet, tRetN, tDrop, tCB, tCons, tNil, tLst, tLstI, tTup, gName, tB, tAnd, tOr, tNot, tAndV, tOrV, tNotV, tIf, tNext, tBreak, tCont, gSub, tCall, tCallN, tAug, ipI, tBML, tBML0, isL_IL, isL_lst, L2.start, List.map_cons, List.map_nil, List.length_cons, List.length_nil, List.cons_append, List.nil_append, List.getElem?_cons_succ, List.getElem?_cons_zero, Option.some.injEq, exists_eq_left', exists_eq_left, exists_and_left, V.int.injEq, V.ref.injEq, V.bl.injEq, V.str.injEq, List.set_cons_zero, List.set_cons_succ, List.cons.injEq, and_true, true_and, Nat.reduceAdd, Nat.reduceSub, List.replicate_succ, List.replicate_zero, rIxI, rIxH, rIxTH, rSetI, rSetH, rCatI, rRepI, rSlI, rAppendI, rExtendI, decide_eq_true_eq, upd_same, IL_inj, HO.lst.injEq, toInts_cons, toInts_nil, Option.map_some, if_true, if_false, Bool.true_eq_false, Bool.false_eq_true, Bool.not_true, Bool.not_false, Bool.not_eq_true', decide_eq_false_iff_not, atI_0, atI_1, atI_2, atI_3, atI_4, Int.reduceToNat, Int.reduceLT, Int.reduceLE, Int.reduceNeg, Int.reducePow, cast_lit, upd_upd, Int.reduceAdd, Int.reduceMul, Int.reduceSub, Nat.reduceLT, Nat.reduceLeDiff, cmul_r, cdiv_r, tSl, tPart, tNoPart, rEq, rNe, scal_nn, scal_ii, scal_bb, scal_ss, scal_is, scal_si, V.ty.injEq, and_assoc, tyH_non, tyH_bl, tyH_int, tyH_str, tyH_ref, tyO_lst, tyO_IL, tyO_tup, itO_lst, itO_tup, itO_IL, Dw.rIxD, rLenI, rLenH, rLenTH, rLenQ, rLenB, rListI, Dw.rListS, rIntI, rIntB, rSumI, rIsiD, rIsX, tCallS, tMakeS, tMake, tMakeC, tMakeSC, tFld, sFld, HO.ins.injEq, HO.tup.injEq, cxOf_K, nox_K, tr_K, suite_K, rTupleI, rAllB, rAnyB, BL_inj, tChain, wOnly, wAs, wMany, rEqI, rNeI, Dw.rMax2, rMin2, Dw.rIsN, rIsNotN, rStrIn, rStrNotIn, not_true_eq_false, not_false_eq_true, reduceCtorEq, cl_bool, cl_int, cl_str, cl_list, cl_tuple, isB_NoneType_bool, isB_NoneType_int, isB_NoneType_str, isB_NoneType_list, isB_NoneType_tuple, isB_bool_bool, isB_bool_int, isB_bool_str, isB_bool_list, isB_bool_tuple, isB_int_bool, isB_int_int, isB_int_str, isB_int_list, isB_int_tuple, isB_str_bool, isB_str_int, isB_str_str, isB_str_list, isB_str_tuple, isB_list_bool, isB_list_int, isB_list_str, isB_list_list, isB_list_tuple, isB_tuple_bool, isB_tuple_int, isB_tuple_str, isB_tuple_list, isB_tuple_tuple, iEz, tPar, tRevL, Dw.rSetL, Dw.rIxL, rIxE, iSeqA, iEnumT]
    rw [List.length_map, List.take_length]
    exact k
end
section
variable {P : Program} {w : World} {K : PySem.W.Frag} {mg : Str → Option Value} {base : Heap} {A : Ad}
def spExclusive : Sp := fun vs H Q _ => ∃ (a b : Nat), vs = [.int a, .int b] ∧ Q (.int ((a ^^^ b : Nat) : Int)) H
theorem ok_exclusive (T : Tx K mg A) : FnOk P w K mg base CX0 1 A.f_exclusive A.d_exclusive ["first", "second"] spExclusive := by
  refine T.F_exclusive.ok sc_exclusive (fun vs H Q E h => ?_) (fun cdv A' outer s H vs Q E hr h => ?_)
  · obtain ⟨a, b, rfl, _⟩ := h
    rfl
  obtain ⟨a, b, rfl, k⟩ := h
  refine ⟨_, (pss_one (ps_ret (pe_op op_xor (pv 0) (pv 1)))), ?_⟩
  try simp only [tSeq, tAsg, tVar, tC, tOp, rI0, rI, tUn, rU, tIfS, tTest, tRet, tRetN, tDrop, tCB, tCons, tNil, tLst, tLstI, tTup, gName, tB, tAnd, tOr, tNot, tAndV, tOrV, tNotV, tIf, tNext, tBreak, tCont, gSub, tCall, tCallN, tAug, ipI, tBML, tBML0, isL_IL, isL_lst, L2.start, List.map_cons, List.map_nil, List.length_cons, List.length_nil, List.cons_append, List.nil_append, List.getElem?_cons_succ, List.getElem?_cons_zero, Option.some.injEq, exists_eq_left', exists_eq_left, exists_and_left, V.int.injEq, V.ref.injEq, V.bl.injEq, V.str.injEq, List.set_cons_zero, List.set_cons_succ, List.cons.injEq, and_true, true_and, Nat.reduceAdd, Nat.reduceSub, List.replicate_succ, List.replicate_zero, rIxI, rIxH, rIxTH, rSetI, rSetH, rCatI, rRepI, rSlI, rAppendI, rExtendI, decide_eq_true_eq, upd_same, IL_inj, HO.lst.injEq, toInts_cons, toInts_nil, Option.map_some, if_true, if_false, Bool.true_eq_false, Bool.false_eq_true, Bool.not_true, Bool.not_false, Bool.not_eq_true', decide_eq_false_iff_not, atI_0, atI_1, atI_2, atI_3, atI_4, Int.reduceToNat, Int.reduceLT, Int.reduceLE, Int.reduceNeg, Int.reducePow, cast_lit, upd_upd, Int.reduceAdd, Int.reduceMul, Int.reduceSub, Nat.reduceLT, Nat.reduceLeDiff, cmul_r, cdiv_r, tSl, tPart, tNoPart, rEq, rNe, scal_nn, scal_ii, scal_bb, scal_ss, scal_is, scal_si, V.ty.injEq, and_assoc, tyH_non, tyH_bl, tyH_int, tyH_str, tyH_ref, tyO_lst, tyO_IL, tyO_tup, itO_lst, itO_tup, itO_IL, Dw.rIxD, rLenI, rLenH, rLenTH, rLenQ, rLenB, rListI, Dw.rListS, rIntI, rIntB, rSumI, rIsiD, rIsX, tCallS, tMakeS, tMake, tMakeC, tMakeSC, tFld, sFld, HO.ins.injEq, HO.tup.injEq, cxOf_K, nox_K, tr_K, suite_K, rTupleI, rAllB, rAnyB, BL_inj, tChain, wOnly, wAs, wMany, rEqI, rNeI, Dw.rMax2, rMin2, Dw.rIsN, rIsNotN, rStrIn, rStrNotIn, not_true_eq_false, not_false_eq_true, reduceCtorEq, cl_bool, cl_int, cl_str, cl_list, cl_tuple, isB_NoneType_bool, isB_NoneType_int, isB_NoneType_str, isB_NoneType_list, isB_NoneType_tuple, isB_bool_bool, isB_bool_int, isB_bool_str, isB_bool_list, isB_bool_tuple, isB_int_bool, isB_int_int, isB_int_str, isB_int_list, isB_int_tuple, isB_str_bool, isB_str_int, isB_str_str, isB_str_list, isB_str_tuple, isB_list_bool, isB_list_int, isB_list_str, isB_list_list, isB_list_tuple, isB_tuple_bool, isB_tuple_int, isB_tuple_str, isB_tuple_list, isB_tuple_tuple, iEz, tPar, tRevL, Dw.rSetL, Dw.rIxL, rIxE, iSeqA, iEnumT, xorN]
  exact k
end
section
variable {P : Program} {w : World} {K : PySem.W.Frag} {mg : Str → Option Value} {base : Heap} {A : Ad}
theorem ok_crc (T : Tx K mg A) : FnOk P w K mg base CX0 1 A.f_crc A.d_crc ["values"] spCrc := by
  refine T.F_crc.ok sc_crc (fun vs H Q E h => ?_) (fun cdv A' outer s H vs Q E hr h => ?_)
  · obtain ⟨a, ns, rfl, _⟩ := h
    rfl
  obtain ⟨a, ns, rfl, hA, hb, q⟩ := h
  refine ⟨_, (pss_cons (ps_set (i := 1) sc_crc.nd rfl (Or.inl rfl) pe_int)
      (pss_cons (ps_for PassesOwn.never rfl (pi_list (pv 0)) (pg_name (i := 2) sc_crc.nd rfl (Or.inl rfl))
        (pss_cons (ps_set (i := 3) sc_crc.nd rfl (Or.inl rfl) (pe_op op_xor (pe_op op_shr (pv 1) pe_int) (pv 2)))
      (pss_cons (ps_set (i := 3) sc_crc.nd rfl (Or.inl rfl) (pe_op op_xor (pv 3) (pe_op op_shr (pv 3) pe_int)))
      (pss_one (ps_set (i := 1) sc_crc.nd rfl (Or.inl rfl) (pe_op op_and (pe_op op_xor (pe_op op_xor (pe_op op_xor (pe_op op_shl (pv 1) pe_int) (pe_op op_shl (pv 3) pe_int)) (pe_op op_shl (pv 3) pe_int)) (pv 3)) pe_int))))))
      (pss_one (ps_ret (pv 1))))), ?_⟩
  obtain ⟨I, hI⟩ : ∃ F : Nat → L2.St → Hp → Prop, F = (fun i σ H' => H' = H ∧ ∃ x y, σ = [some (V.ref a), some (V.int (crcZ (ns.take i))), x, y]) := ⟨_, rfl⟩
  try simp only [tSeq, tAsg, tVar, tC, tOp, rI0, rI, tUn, rU, tIfS, tTest, tRet, tRetN, tDrop, tCB, tCons, tNil, tLst, tLstI, tTup, gName, tB, tAnd, tOr, tNot, tAndV, tOrV, tNotV, tIf, tNext, tBreak, tCont, gSub, tCall, tCallN, tAug, ipI, tBML, tBML0, isL_IL, isL_lst, L2.start, List.map_cons, List.map_nil, List.length_cons, List.length_nil, List.cons_append, List.nil_append, List.getElem?_cons_succ, List.getElem?_cons_zero, Option.some.injEq, exists_eq_left', exists_eq_left, exists_and_left, V.int.injEq, V.ref.injEq, V.bl.injEq, V.str.injEq, List.set_cons_zero, List.set_cons_succ, List.cons.injEq, and_true, true_and, Nat.reduceAdd, Nat.reduceSub, List.replicate_succ, List.replicate_zero, rIxI, rIxH, rIxTH, rSetI, rSetH, rCatI, rRepI, rSlI, rAppendI, rExtendI, decide_eq_true_eq, upd_same, IL_inj, HO.lst.injEq, toInts_cons, toInts_nil, Option.map_some, if_true, if_false, Bool.true_eq_false, Bool.false_eq_true, Bool.not_true, Bool.not_false, Bool.not_eq_true', decide_eq_false_iff_not, atI_0, atI_1, atI_2, atI_3, atI_4, Int.reduceToNat, Int.reduceLT, Int.reduceLE, Int.reduceNeg, Int.reducePow, cast_lit, upd_upd, Int.reduceAdd, Int.reduceMul, Int.reduceSub, Nat.reduceLT, Nat.reduceLeDiff, cmul_r, cdiv_r, tSl, tPart, tNoPart, rEq, rNe, scal_nn, scal_ii, scal_bb, scal_ss, scal_is, scal_si, V.ty.injEq, and_assoc, tyH_non, tyH_bl, tyH_int, tyH_str, tyH_ref, tyO_lst, tyO_IL, tyO_tup, itO_lst, itO_tup, itO_IL, Dw.rIxD, rLenI, rLenH, rLenTH, rLenQ, rLenB, rListI, Dw.rListS, rIntI, rIntB, rSumI, rIsiD, rIsX, tCallS, tMakeS, tMake, tMakeC, tMakeSC, tFld, sFld, HO.ins.injEq, HO.tup.injEq, cxOf_K, nox_K, tr_K, suite_K, rTupleI, rAllB, rAnyB, BL_inj, tChain, wOnly, wAs, wMany, rEqI, rNeI, Dw.rMax2, rMin2, Dw.rIsN, rIsNotN, rStrIn, rStrNotIn, not_true_eq_false, not_false_eq_true, reduceCtorEq, cl_bool, cl_int, cl_str, cl_list, cl_tuple, isB_NoneType_bool, isB_NoneType_int, isB_NoneType_str, isB_NoneType_list, isB_NoneType_tuple, isB_bool_bool, isB_bool_int, isB_bool_str, isB_bool_list, isB_bool_tuple, isB_int_bool, isB_int_int, isB_int_str, isB_int_list, isB_int_tuple, isB_str_bool, isB_str_int, isB_str_str, isB_str_list, isB_str_tuple, isB_list_bool, isB_list_int, isB_list_str, isB_list_list, isB_list_tuple, isB_tuple_bool, isB_tuple_int, isB_tuple_str, isB_tuple_list, isB_tuple_tuple, iEz, tPar, tRevL, Dw.rSetL, Dw.rIxL, rIxE, iSeqA, iEnumT]
  refine ⟨_, rfl, a, rfl, ⟨_, .of hA⟩, for_list (xs := ns.map V.int) I (by rw [hI]; exact ⟨rfl, none, none, rfl⟩) ?_ ?_ ?_⟩
  · intro i σ H' hi h
    rw [hI] at h
    obtain ⟨rfl, _⟩ := h
    exact .of hA
  · intro i v σ H' hi h
    rw [hI] at h
    obtain ⟨rfl, x, y, rfl⟩ := h
    obtain ⟨z, rfl, hz⟩ := ints_at hi
    obtain ⟨v, rfl, hv⟩ := bytes_at hb hz
    have hn := crcN_lt ((ns.take i).map Int.toNat)
    have hm := crcN_more hz
    unfold crcZ
    generalize crcN ((ns.take i).map Int.toNat) = n at hn hm
    have ht := takenN_lt hn hv
    try simp only [tSeq, tAsg, tVar, tC, tOp, rI0, rI, tUn, rU, tIfS, tTest, tRet, tRetN, tDrop, tCB, tCons, tNil, tLst, tLstI, tTup, gName, tB, tAnd, tOr, tNot, tAndV, tOrV, tNotV, tIf, tNext, tBreak, tCont, gSub, tCall, tCallN, tAug, ipI, tBML, tBML0, isL_IL, isL_lst, L2.start, List.map_cons, List.map_nil, List.length_cons, List.length_nil, List.cons_append, List.nil_append, List.getElem?_cons_succ, List.getElem?_cons_zero, Option.some.injEq, exists_eq_left', exists_eq_left, exists_and_left, V.int.injEq, V.ref.injEq, V.bl.injEq, V.str.injEq, List.set_cons_zero, List.set_cons_succ, List.cons.injEq, and_true, true_and, Nat.reduceAdd, Nat.reduceSub, List.replicate_succ, List.replicate_zero, rIxI, rIxH, rIxTH, rSetI, rSetH, rCatI, rRepI, rSlI, rAppendI, rExtendI, decide_eq_true_eq, upd_same, IL_inj, HO.lst.injEq, toInts_cons, toInts_nil, Option.map_some, if_true, if_false, Bool.true_eq_false, Bool.false_eq_true, Bool.not_true, Bool.not_false, Bool.not_eq_true', decide_eq_false_iff_not, atI_0, atI_1, atI_2, atI_3, atI_4, Int.reduceToNat, Int.reduceLT, Int.reduceLE, Int.reduceNeg, Int.reducePow, cast_lit, upd_upd, Int.reduceAdd, Int.reduceMul, Int.reduceSub, Nat.reduceLT, Nat.reduceLeDiff, cmul_r, cdiv_r, tSl, tPart, tNoPart, rEq, rNe, scal_nn, scal_ii, scal_bb, scal_ss, scal_is, scal_si, V.ty.injEq, and_assoc, tyH_non, tyH_bl, tyH_int, tyH_str, tyH_ref, tyO_lst, tyO_IL, tyO_tup, itO_lst, itO_tup, itO_IL, Dw.rIxD, rLenI, rLenH, rLenTH, rLenQ, rLenB, rListI, Dw.rListS, rIntI, rIntB, rSumI, rIsiD, rIsX, tCallS, tMakeS, tMake, tMakeC, tMakeSC, tFld, sFld, HO.ins.injEq, HO.tup.injEq, cxOf_K, nox_K, tr_K, suite_K, rTupleI, rAllB, rAnyB, BL_inj, tChain, wOnly, wAs, wMany, rEqI, rNeI, Dw.rMax2, rMin2, Dw.rIsN, rIsNotN, rStrIn, rStrNotIn, not_true_eq_false, not_false_eq_true, reduceCtorEq, cl_bool, cl_int, cl_str, cl_list, cl_tuple, isB_NoneType_bool, isB_NoneType_int, isB_NoneType_str, isB_NoneType_list, isB_NoneType_tuple, isB_bool_bool, isB_bool_int, isB_bool_str, isB_bool_list, isB_bool_tuple, isB_int_bool, isB_int_int, isB_int_str, isB_int_list, isB_int_tuple, isB_str_bool, isB_str_int, isB_str_str, isB_str_list, isB_str_tuple, isB_list_bool, isB_list_int, isB_list_str, isB_list_list, isB_list_tuple, isB_tuple_bool, isB_tuple_int, isB_tuple_str, isB_tuple_list, isB_tuple_tuple, iEz, tPar, tRevL, Dw.rSetL, Dw.rIxL, rIxE, iSeqA, iEnumT, takenZ, stepZ]
    refine ⟨⟨by decide, by decide, by omega⟩, ⟨by decide, by decide, by omega⟩, ⟨by decide, by decide, by omega⟩, ?_⟩
    rw [hI, ← hm]
    exact ⟨rfl, _, _, rfl⟩
  · intro σ H' h
    rw [hI] at h
    obtain ⟨rfl, x, y, rfl⟩ := h
    try simp only [tSeq, tAsg, tVar, tC, tOp, rI0, rI, tUn, rU, tIfS, tTest, tRet, tRetN, tDrop, tCB, tCons, tNil, tLst, tLstI, tTup, gName, tB, tAnd, tOr, tNot, tAndV, tOrV, tNotV, tIf, tNext, tBreak, tCont, gSub, tCall, tCallN, tAug, ipI, tBML, tBML0, isL_IL, isL_lst, L2.start, List.map_cons, List.map_nil, List.length_cons, List.length_nil, List.cons_append, List.nil_append, List.getElem?_cons_succ, List.getElem?_cons_zero, Option.some.injEq, exists_eq_left', exists_eq_left, exists_and_left, V.int.injEq, V.ref.injEq, V.bl.injEq, V.str.injEq, List.set_cons_zero, List.set_cons_succ, List.cons.injEq, and_true, true_and, Nat.reduceAdd, Nat.reduceSub, List.replicate_succ, List.replicate_zero, rIxI, rIxH, rIxTH, rSetI, rSetH, rCatI, rRepI, rSlI, rAppendI, rExtendI, decide_eq_true_eq, upd_same, IL_inj, HO.lst.injEq, toInts_cons, toInts_nil, Option.map_some, if_true, if_false, Bool.true_eq_false, Bool.false_eq_true, Bool.not_true, Bool.not_false, Bool.not_eq_true', decide_eq_false_iff_not, atI_0, atI_1, atI_2, atI_3, atI_4, Int.reduceToNat, Int.reduceLT, Int.reduceLE, Int.reduceNeg, Int.reducePow, cast_lit, upd_upd, Int.reduceAdd, Int.reduceMul, Int.reduceSub, Nat.reduceLT, Nat.reduceLeDiff, cmul_r, cdiv_r, tSl, tPart, tNoPart, rEq, rNe, scal_nn, scal_ii, scal_bb, scal_ss, scal_is, scal_si, V.ty.injEq, and_assoc, tyH_non, tyH_bl, tyH_int, tyH_str, tyH_ref, tyO_lst, tyO_IL, tyO_tup, itO_lst, itO_tup, itO_IL, Dw.rIxD, rLenI, rLenH, rLenTH, rLenQ, rLenB, rListI, Dw.rListS, rIntI, rIntB, rSumI, rIsiD, rIsX, tCallS, tMakeS, tMake, tMakeC, tMakeSC, tFld, sFld, HO.ins.injEq, HO.tup.injEq, cxOf_K, nox_K, tr_K, suite_K, rTupleI, rAllB, rAnyB, BL_inj, tChain, wOnly, wAs, wMany, rEqI, rNeI, Dw.rMax2, rMin2, Dw.rIsN, rIsNotN, rStrIn, rStrNotIn, not_true_eq_false, not_false_eq_true, reduceCtorEq, cl_bool, cl_int, cl_str, cl_list, cl_tuple, isB_NoneType_bool, isB_NoneType_int, isB_NoneType_str, isB_NoneType_list, isB_NoneType_tuple, isB_bool_bool, isB_bool_int, isB_bool_str, isB_bool_list, isB_bool_tuple, isB_int_bool, isB_int_int, isB_int_str, isB_int_list, isB_int_tuple, isB_str_bool, isB_str_int, isB_str_str, isB_str_list, isB_str_tuple, isB_list_bool, isB_list_int, isB_list_str, isB_list_list, isB_list_tuple, isB_tuple_bool, isB_tuple_int, isB_tuple_str, isB_tuple_list, isB_tuple_tuple, iEz, tPar, tRevL, Dw.rSetL, Dw.rIxL, rIxE, iSeqA, iEnumT]
    rw [List.length_map, List.take_length]
    exact q
end
section
variable {P : Program} {w : World} {K : PySem.W.Frag} {mg : Str → Option Value} {base : Heap} {A : Ad}
def powL (n : Nat) : List Nat := ((List.range 13).filter fun i => decide (2 ^ (4 + i) ≤ n)).map fun i => 2 ^ (4 + i)
def spPowers : Sp := fun vs H Q _ => ∃ n : Nat, vs = [.int (n : Int)] ∧ ∀ D H', Same H H' → H D = none → H' D = some (IL ((powL n).map fun x : Nat => (x : Int))) → Q (.ref D) H'
theorem ok_powers_up_to (T : Tx K mg A) : FnOk P w K mg base CX0 1 A.f_powers_up_to A.d_powers_up_to ["length"] spPowers := by
  refine T.F_powers_up_to.ok sc_powers_up_to (fun vs H Q E h => ?_) (fun cdv A' outer s H vs Q E hr h => ?_)
  · obtain ⟨n, rfl, _⟩ := h
    rfl
  obtain ⟨n, rfl, k⟩ := h
  refine ⟨_, (pss_one (ps_ret (pe_lc (own := [("count", 1)]) (g := (gName 1)) rfl sc_powers_up_to.nd (pi_range2 rfl T.z_range (pa_cons pe_int (pa_cons pe_int pa_nil))) (blkOk_by (N := n_powers_up_to) (sc := (defScope s_powers_up_to)) (by decide +kernel)) (fun _ _ _ _ _ => (pg_name (i := 1) sc_powers_up_to.nd rfl (Or.inl rfl))) (fun _ _ _ _ _ => (pts_one (pt_cmpR op_le (pe_op op_pow pe_int (pv 1)) (pv 0) (nomark _)))) (fun _ _ _ _ _ => (pe_op op_pow pe_int (pv 1)))))), ?_⟩
  try simp only [tSeq, tAsg, tVar, tC, tOp, rI0, rI, tUn, rU, tIfS, tTest, tRet, tRetN, tDrop, tCB, tCons, tNil, tLst, tLstI, tTup, gName, tB, tAnd, tOr, tNot, tAndV, tOrV, tNotV, tIf, tNext, tBreak, tCont, gSub, tCall, tCallN, tAug, ipI, tBML, tBML0, isL_IL, isL_lst, L2.start, List.map_cons, List.map_nil, List.length_cons, List.length_nil, List.cons_append, List.nil_append, List.getElem?_cons_succ, List.getElem?_cons_zero, Option.some.injEq, exists_eq_left', exists_eq_left, exists_and_left, V.int.injEq, V.ref.injEq, V.bl.injEq, V.str.injEq, List.set_cons_zero, List.set_cons_succ, List.cons.injEq, and_true, true_and, Nat.reduceAdd, Nat.reduceSub, List.replicate_succ, List.replicate_zero, rIxI, rIxH, rIxTH, rSetI, rSetH, rCatI, rRepI, rSlI, rAppendI, rExtendI, decide_eq_true_eq, upd_same, IL_inj, HO.lst.injEq, toInts_cons, toInts_nil, Option.map_some, if_true, if_false, Bool.true_eq_false, Bool.false_eq_true, Bool.not_true, Bool.not_false, Bool.not_eq_true', decide_eq_false_iff_not, atI_0, atI_1, atI_2, atI_3, atI_4, Int.reduceToNat, Int.reduceLT, Int.reduceLE, Int.reduceNeg, Int.reducePow, cast_lit, upd_upd, Int.reduceAdd, Int.reduceMul, Int.reduceSub, Nat.reduceLT, Nat.reduceLeDiff, cmul_r, cdiv_r, tSl, tPart, tNoPart, rEq, rNe, scal_nn, scal_ii, scal_bb, scal_ss, scal_is, scal_si, V.ty.injEq, and_assoc, tyH_non, tyH_bl, tyH_int, tyH_str, tyH_ref, tyO_lst, tyO_IL, tyO_tup, itO_lst, itO_tup, itO_IL, Dw.rIxD, rLenI, rLenH, rLenTH, rLenQ, rLenB, rListI, Dw.rListS, rIntI, rIntB, rSumI, rIsiD, rIsX, tCallS, tMakeS, tMake, tMakeC, tMakeSC, tFld, sFld, HO.ins.injEq, HO.tup.injEq, cxOf_K, nox_K, tr_K, suite_K, rTupleI, rAllB, rAnyB, BL_inj, tChain, wOnly, wAs, wMany, rEqI, rNeI, Dw.rMax2, rMin2, Dw.rIsN, rIsNotN, rStrIn, rStrNotIn, not_true_eq_false, not_false_eq_true, reduceCtorEq, cl_bool, cl_int, cl_str, cl_list, cl_tuple, isB_NoneType_bool, isB_NoneType_int, isB_NoneType_str, isB_NoneType_list, isB_NoneType_tuple, isB_bool_bool, isB_bool_int, isB_bool_str, isB_bool_list, isB_bool_tuple, isB_int_bool, isB_int_int, isB_int_str, isB_int_list, isB_int_tuple, isB_str_bool, isB_str_int, isB_str_str, isB_str_list, isB_str_tuple, isB_list_bool, isB_list_int, isB_list_str, isB_list_list, isB_list_tuple, isB_tuple_bool, isB_tuple_int, isB_tuple_str, isB_tuple_list, isB_tuple_tuple, rSlCI, iRng3, iRev, gCons, gNil, iZip, iEnum, tLc_eq, tFor_eq, iRng1, iRng2, iList, iTup, rSetD, iKeys, tDNewK, Int.reducePow, Int.reduceNeg, iEz, tPar, tRevL, Dw.rSetL, Dw.rIxL, rIxE, iSeqA, iEnumT]
  intro D hD
  refine lc_rangeF (lo := 4) (n := 13) (f := fun i => ((2 ^ (4 + i) : Nat) : Int)) (kp := fun i => decide (2 ^ (4 + i) ≤ n)) (by decide) hD (fun _ => rfl) ?_ ?_ fun H1 s1 e1 => k D H1 s1 hD ?_
  · intro i H3 Q' hi s3 hq
    have e0 : (4 : Int) + (i : Int) = ((4 + i : Nat) : Int) := by omega
    have cp : CPow 2 ((4 + i : Nat) : Int) := ⟨by omega, by omega, by decide⟩
    have ep : (2 : Int) ^ (4 + i) = ((2 ^ (4 + i) : Nat) : Int) := (Int.natCast_pow 2 (4 + i)).symm
    have hq2 := hq _ (Same.refl _)
    try simp only [tSeq, tAsg, tVar, tC, tOp, rI0, rI, tUn, rU, tIfS, tTest, tRet, tRetN, tDrop, tCB, tCons, tNil, tLst, tLstI, tTup, gName, tB, tAnd, tOr, tNot, tAndV, tOrV, tNotV, tIf, tNext, tBreak, tCont, gSub, tCall, tCallN, tAug, ipI, tBML, tBML0, isL_IL, isL_lst, L2.start, List.map_cons, List.map_nil, List.length_cons, List.length_nil, List.cons_append, List.nil_append, List.getElem?_cons_succ, List.getElem?_cons_zero, Option.some.injEq, exists_eq_left', exists_eq_left, exists_and_left, V.int.injEq, V.ref.injEq, V.bl.injEq, V.str.injEq, List.set_cons_zero, List.set_cons_succ, List.cons.injEq, and_true, true_and, Nat.reduceAdd, Nat.reduceSub, List.replicate_succ, List.replicate_zero, rIxI, rIxH, rIxTH, rSetI, rSetH, rCatI, rRepI, rSlI, rAppendI, rExtendI, decide_eq_true_eq, upd_same, IL_inj, HO.lst.injEq, toInts_cons, toInts_nil, Option.map_some, if_true, if_false, Bool.true_eq_false, Bool.false_eq_true, Bool.not_true, Bool.not_false, Bool.not_eq_true', decide_eq_false_iff_not, atI_0, atI_1, atI_2, atI_3, atI_4, Int.reduceToNat, Int.reduceLT, Int.reduceLE, Int.reduceNeg, Int.reducePow, cast_lit, upd_upd, Int.reduceAdd, Int.reduceMul, Int.reduceSub, Nat.reduceLT, Nat.reduceLeDiff, cmul_r, cdiv_r, tSl, tPart, tNoPart, rEq, rNe, scal_nn, scal_ii, scal_bb, scal_ss, scal_is, scal_si, V.ty.injEq, and_assoc, tyH_non, tyH_bl, tyH_int, tyH_str, tyH_ref, tyO_lst, tyO_IL, tyO_tup, itO_lst, itO_tup, itO_IL, Dw.rIxD, rLenI, rLenH, rLenTH, rLenQ, rLenB, rListI, Dw.rListS, rIntI, rIntB, rSumI, rIsiD, rIsX, tCallS, tMakeS, tMake, tMakeC, tMakeSC, tFld, sFld, HO.ins.injEq, HO.tup.injEq, cxOf_K, nox_K, tr_K, suite_K, rTupleI, rAllB, rAnyB, BL_inj, tChain, wOnly, wAs, wMany, rEqI, rNeI, Dw.rMax2, rMin2, Dw.rIsN, rIsNotN, rStrIn, rStrNotIn, not_true_eq_false, not_false_eq_true, reduceCtorEq, cl_bool, cl_int, cl_str, cl_list, cl_tuple, isB_NoneType_bool, isB_NoneType_int, isB_NoneType_str, isB_NoneType_list, isB_NoneType_tuple, isB_bool_bool, isB_bool_int, isB_bool_str, isB_bool_list, isB_bool_tuple, isB_int_bool, isB_int_int, isB_int_str, isB_int_list, isB_int_tuple, isB_str_bool, isB_str_int, isB_str_str, isB_str_list, isB_str_tuple, isB_list_bool, isB_list_int, isB_list_str, isB_list_list, isB_list_tuple, isB_tuple_bool, isB_tuple_int, isB_tuple_str, isB_tuple_list, isB_tuple_tuple, rSlCI, iRng3, iRev, gCons, gNil, iZip, iEnum, tLc_eq, tFor_eq, iRng1, iRng2, iList, iTup, rSetD, iKeys, tDNewK, Int.reducePow, Int.reduceNeg, iEz, tPar, tRevL, Dw.rSetL, Dw.rIxL, rIxE, iSeqA, iEnumT, wipe, e0, Int.toNat_natCast, ep]
    refine ⟨cp, ?_⟩
    have ed : decide (((2 ^ (4 + i) : Nat) : Int) ≤ (n : Int)) = decide (2 ^ (4 + i) ≤ n) := by
      rw [decide_eq_decide]
      omega
    rw [ed]
    exact hq2
  · intro i H3 Q' hi hk s3 hq
    have e0 : (4 : Int) + (i : Int) = ((4 + i : Nat) : Int) := by omega
    have cp : CPow 2 ((4 + i : Nat) : Int) := ⟨by omega, by omega, by decide⟩
    have ep : (2 : Int) ^ (4 + i) = ((2 ^ (4 + i) : Nat) : Int) := (Int.natCast_pow 2 (4 + i)).symm
    try simp only [tSeq, tAsg, tVar, tC, tOp, rI0, rI, tUn, rU, tIfS, tTest, tRet, tRetN, tDrop, tCB, tCons, tNil, tLst, tLstI, tTup, gName, tB, tAnd, tOr, tNot, tAndV, tOrV, tNotV, tIf, tNext, tBreak, tCont, gSub, tCall, tCallN, tAug, ipI, tBML, tBML0, isL_IL, isL_lst, L2.start, List.map_cons, List.map_nil, List.length_cons, List.length_nil, List.cons_append, List.nil_append, List.getElem?_cons_succ, List.getElem?_cons_zero, Option.some.injEq, exists_eq_left', exists_eq_left, exists_and_left, V.int.injEq, V.ref.injEq, V.bl.injEq, V.str.injEq, List.set_cons_zero, List.set_cons_succ, List.cons.injEq, and_true, true_and, Nat.reduceAdd, Nat.reduceSub, List.replicate_succ, List.replicate_zero, rIxI, rIxH, rIxTH, rSetI, rSetH, rCatI, rRepI, rSlI, rAppendI, rExtendI, decide_eq_true_eq, upd_same, IL_inj, HO.lst.injEq, toInts_cons, toInts_nil, Option.map_some, if_true, if_false, Bool.true_eq_false, Bool.false_eq_true, Bool.not_true, Bool.not_false, Bool.not_eq_true', decide_eq_false_iff_not, atI_0, atI_1, atI_2, atI_3, atI_4, Int.reduceToNat, Int.reduceLT, Int.reduceLE, Int.reduceNeg, Int.reducePow, cast_lit, upd_upd, Int.reduceAdd, Int.reduceMul, Int.reduceSub, Nat.reduceLT, Nat.reduceLeDiff, cmul_r, cdiv_r, tSl, tPart, tNoPart, rEq, rNe, scal_nn, scal_ii, scal_bb, scal_ss, scal_is, scal_si, V.ty.injEq, and_assoc, tyH_non, tyH_bl, tyH_int, tyH_str, tyH_ref, tyO_lst, tyO_IL, tyO_tup, itO_lst, itO_tup, itO_IL, Dw.rIxD, rLenI, rLenH, rLenTH, rLenQ, rLenB, rListI, Dw.rListS, rIntI, rIntB, rSumI, rIsiD, rIsX, tCallS, tMakeS, tMake, tMakeC, tMakeSC, tFld, sFld, HO.ins.injEq, HO.tup.injEq, cxOf_K, nox_K, tr_K, suite_K, rTupleI, rAllB, rAnyB, BL_inj, tChain, wOnly, wAs, wMany, rEqI, rNeI, Dw.rMax2, rMin2, Dw.rIsN, rIsNotN, rStrIn, rStrNotIn, not_true_eq_false, not_false_eq_true, reduceCtorEq, cl_bool, cl_int, cl_str, cl_list, cl_tuple, isB_NoneType_bool, isB_NoneType_int, isB_NoneType_str, isB_NoneType_list, isB_NoneType_tuple, isB_bool_bool, isB_bool_int, isB_bool_str, isB_bool_list, isB_bool_tuple, isB_int_bool, isB_int_int, isB_int_str, isB_int_list, isB_int_tuple, isB_str_bool, isB_str_int, isB_str_str, isB_str_list, isB_str_tuple, isB_list_bool, isB_list_int, isB_list_str, isB_list_list, isB_list_tuple, isB_tuple_bool, isB_tuple_int, isB_tuple_str, isB_tuple_list, isB_tuple_tuple, rSlCI, iRng3, iRev, gCons, gNil, iZip, iEnum, tLc_eq, tFor_eq, iRng1, iRng2, iList, iTup, rSetD, iKeys, tDNewK, Int.reducePow, Int.reduceNeg, iEz, tPar, tRevL, Dw.rSetL, Dw.rIxL, rIxE, iSeqA, iEnumT, wipe, e0, Int.toNat_natCast, ep]
    exact ⟨cp, hq _ (Same.refl _)⟩
  · rw [e1]
    unfold powL
    rw [List.map_map]
    rfl
theorem powL_mem {n L : Nat} (h : L ∈ powL n) : 16 ≤ L ∧ L ≤ n := by
  unfold powL at h
  obtain ⟨i, hi, rfl⟩ := List.mem_map.mp h
  have h2 := of_decide_eq_true (List.mem_filter.mp hi).2
  refine ⟨?_, h2⟩
  have : 2 ^ 4 ≤ 2 ^ (4 + i) := Nat.pow_le_pow_right (by decide) (by omega)
  exact this
def isRep (ns : List Int) (L : Nat) : Bool := decide (rep ((ns.length / L : Nat) : Int) (ns.take L) = ns)
def firstRep (ns : List Int) : List Nat → Nat
  | [] => ns.length
  | L :: r => if isRep ns L = true then L else firstRep ns r
def repLen (ns : List Int) : Nat := firstRep ns (powL ns.length)
def spRep : Sp := fun vs H Q _ => ∃ (a : Addr) (ns : List Int), vs = [.ref a] ∧ H a = some (IL ns) ∧ ns.length ≤ 100000 ∧ ∀ H', Same H H' → Q (.int (repLen ns : Nat)) H'
theorem ok_repeated_length (T : Tx K mg A) : FnOk P w K mg base CX0 2 A.f_repeated_length A.d_repeated_length ["dump"] spRep := by
  refine T.F_repeated_length.ok sc_repeated_length (fun vs H Q E h => ?_) (fun cdv A' outer s H vs Q E hr h => ?_)
  · obtain ⟨a, ns, rfl, _⟩ := h
    rfl
  obtain ⟨a, ns, rfl, hA, hl, k⟩ := h
  refine ⟨_, (pss_cons (ps_for PassesOwn.never rfl (pi_list (pe_call (ok_powers_up_to T) (hr.mono (by decide)) rfl T.g_powers_up_to T.F_powers_up_to.kp T.b_powers_up_to .nil pass0 (pa_cons (pe_callB call_lenI (by rfl) T.z_len (by decide +kernel) (pa_cons (pv 0) pa_nil)) pa_nil))) (pg_name (i := 1) sc_repeated_length.nd rfl (Or.inl rfl))
        (pss_one (ps_if (pt_cmpR (op_eqI hr.units) (pe_op op_repI (pe_slice sl_listI (pv 0) po_none (po_some (pv 1))) (pe_op op_fdiv (pe_callB call_lenI (by rfl) T.z_len (by decide +kernel) (pa_cons (pv 0) pa_nil)) (pv 1))) (pv 0) (nomark _)) (pss_one (ps_ret (pv 1))) pss_nil)))
      (pss_one (ps_ret (pe_callB call_lenI (by rfl) T.z_len (by decide +kernel) (pa_cons (pv 0) pa_nil))))), ?_⟩
  try simp only [tSeq, tAsg, tVar, tC, tOp, rI0, rI, tUn, rU, tIfS, tTest, tRet, tRetN, tDrop, tCB, tCons, tNil, tLst, tLstI, tTup, gName, tB, tAnd, tOr, tNot, tAndV, tOrV, tNotV, tIf, tNext, tBreak, tCont, gSub, tCall, tCallN, tAug, ipI, tBML, tBML0, isL_IL, isL_lst, L2.start, List.map_cons, List.map_nil, List.length_cons, List.length_nil, List.cons_append, List.nil_append, List.getElem?_cons_succ, List.getElem?_cons_zero, Option.some.injEq, exists_eq_left', exists_eq_left, exists_and_left, V.int.injEq, V.ref.injEq, V.bl.injEq, V.str.injEq, List.set_cons_zero, List.set_cons_succ, List.cons.injEq, and_true, true_and, Nat.reduceAdd, Nat.reduceSub, List.replicate_succ, List.replicate_zero, rIxI, rIxH, rIxTH, rSetI, rSetH, rCatI, rRepI, rSlI, rAppendI, rExtendI, decide_eq_true_eq, upd_same, IL_inj, HO.lst.injEq, toInts_cons, toInts_nil, Option.map_some, if_true, if_false, Bool.true_eq_false, Bool.false_eq_true, Bool.not_true, Bool.not_false, Bool.not_eq_true', decide_eq_false_iff_not, atI_0, atI_1, atI_2, atI_3, atI_4, Int.reduceToNat, Int.reduceLT, Int.reduceLE, Int.reduceNeg, Int.reducePow, cast_lit, upd_upd, Int.reduceAdd, Int.reduceMul, Int.reduceSub, Nat.reduceLT, Nat.reduceLeDiff, cmul_r, cdiv_r, tSl, tPart, tNoPart, rEq, rNe, scal_nn, scal_ii, scal_bb, scal_ss, scal_is, scal_si, V.ty.injEq, and_assoc, tyH_non, tyH_bl, tyH_int, tyH_str, tyH_ref, tyO_lst, tyO_IL, tyO_tup, itO_lst, itO_tup, itO_IL, Dw.rIxD, rLenI, rLenH, rLenTH, rLenQ, rLenB, rListI, Dw.rListS, rIntI, rIntB, rSumI, rIsiD, rIsX, tCallS, tMakeS, tMake, tMakeC, tMakeSC, tFld, sFld, HO.ins.injEq, HO.tup.injEq, cxOf_K, nox_K, tr_K, suite_K, rTupleI, rAllB, rAnyB, BL_inj, tChain, wOnly, wAs, wMany, rEqI, rNeI, Dw.rMax2, rMin2, Dw.rIsN, rIsNotN, rStrIn, rStrNotIn, not_true_eq_false, not_false_eq_true, reduceCtorEq, cl_bool, cl_int, cl_str, cl_list, cl_tuple, isB_NoneType_bool, isB_NoneType_int, isB_NoneType_str, isB_NoneType_list, isB_NoneType_tuple, isB_bool_bool, isB_bool_int, isB_bool_str, isB_bool_list, isB_bool_tuple, isB_int_bool, isB_int_int, isB_int_str, isB_int_list, isB_int_tuple, isB_str_bool, isB_str_int, isB_str_str, isB_str_list, isB_str_tuple, isB_list_bool, isB_list_int, isB_list_str, isB_list_list, isB_list_tuple, isB_tuple_bool, isB_tuple_int, isB_tuple_str, isB_tuple_list, isB_tuple_tuple, rSlCI, iRng3, iRev, gCons, gNil, iZip, iEnum, tLc_eq, tFor_eq, iRng1, iRng2, iList, iTup, rSetD, iKeys, tDNewK, Int.reducePow, Int.reduceNeg, iEz, tPar, tRevL, Dw.rSetL, Dw.rIxL, rIxE, iSeqA, iEnumT, hA]
  refine ⟨ns.length, rfl, fun D H1 s1 nD eD => ?_⟩
  try simp only [tSeq, tAsg, tVar, tC, tOp, rI0, rI, tUn, rU, tIfS, tTest, tRet, tRetN, tDrop, tCB, tCons, tNil, tLst, tLstI, tTup, gName, tB, tAnd, tOr, tNot, tAndV, tOrV, tNotV, tIf, tNext, tBreak, tCont, gSub, tCall, tCallN, tAug, ipI, tBML, tBML0, isL_IL, isL_lst, L2.start, List.map_cons, List.map_nil, List.length_cons, List.length_nil, List.cons_append, List.nil_append, List.getElem?_cons_succ, List.getElem?_cons_zero, Option.some.injEq, exists_eq_left', exists_eq_left, exists_and_left, V.int.injEq, V.ref.injEq, V.bl.injEq, V.str.injEq, List.set_cons_zero, List.set_cons_succ, List.cons.injEq, and_true, true_and, Nat.reduceAdd, Nat.reduceSub, List.replicate_succ, List.replicate_zero, rIxI, rIxH, rIxTH, rSetI, rSetH, rCatI, rRepI, rSlI, rAppendI, rExtendI, decide_eq_true_eq, upd_same, IL_inj, HO.lst.injEq, toInts_cons, toInts_nil, Option.map_some, if_true, if_false, Bool.true_eq_false, Bool.false_eq_true, Bool.not_true, Bool.not_false, Bool.not_eq_true', decide_eq_false_iff_not, atI_0, atI_1, atI_2, atI_3, atI_4, Int.reduceToNat, Int.reduceLT, Int.reduceLE, Int.reduceNeg, Int.reducePow, cast_lit, upd_upd, Int.reduceAdd, Int.reduceMul, Int.reduceSub, Nat.reduceLT, Nat.reduceLeDiff, cmul_r, cdiv_r, tSl, tPart, tNoPart, rEq, rNe, scal_nn, scal_ii, scal_bb, scal_ss, scal_is, scal_si, V.ty.injEq, and_assoc, tyH_non, tyH_bl, tyH_int, tyH_str, tyH_ref, tyO_lst, tyO_IL, tyO_tup, itO_lst, itO_tup, itO_IL, Dw.rIxD, rLenI, rLenH, rLenTH, rLenQ, rLenB, rListI, Dw.rListS, rIntI, rIntB, rSumI, rIsiD, rIsX, tCallS, tMakeS, tMake, tMakeC, tMakeSC, tFld, sFld, HO.ins.injEq, HO.tup.injEq, cxOf_K, nox_K, tr_K, suite_K, rTupleI, rAllB, rAnyB, BL_inj, tChain, wOnly, wAs, wMany, rEqI, rNeI, Dw.rMax2, rMin2, Dw.rIsN, rIsNotN, rStrIn, rStrNotIn, not_true_eq_false, not_false_eq_true, reduceCtorEq, cl_bool, cl_int, cl_str, cl_list, cl_tuple, isB_NoneType_bool, isB_NoneType_int, isB_NoneType_str, isB_NoneType_list, isB_NoneType_tuple, isB_bool_bool, isB_bool_int, isB_bool_str, isB_bool_list, isB_bool_tuple, isB_int_bool, isB_int_int, isB_int_str, isB_int_list, isB_int_tuple, isB_str_bool, isB_str_int, isB_str_str, isB_str_list, isB_str_tuple, isB_list_bool, isB_list_int, isB_list_str, isB_list_list, isB_list_tuple, isB_tuple_bool, isB_tuple_int, isB_tuple_str, isB_tuple_list, isB_tuple_tuple, rSlCI, iRng3, iRev, gCons, gNil, iZip, iEnum, tLc_eq, tFor_eq, iRng1, iRng2, iList, iTup, rSetD, iKeys, tDNewK, Int.reducePow, Int.reduceNeg, iEz, tPar, tRevL, Dw.rSetL, Dw.rIxL, rIxE, iSeqA, iEnumT]
  refine ⟨⟨_, .of eD⟩, ?_⟩
  obtain ⟨I, hI⟩ : ∃ F : Nat → L2.St → Hp → Prop, F = (fun t σ H' => Same H1 H' ∧ (∃ y, σ = [some (.ref a), y]) ∧ repLen ns = firstRep ns ((powL ns.length).drop t)) := ⟨_, rfl⟩
  refine for_list (xs := ((powL ns.length).map fun x : Nat => (x : Int)).map V.int) I (by rw [hI]; exact ⟨Same.refl _, ⟨none, rfl⟩, rfl⟩) (fun t σ H' _ h => by rw [hI] at h; exact .of (h.1 _ _ eD)) ?_ ?_
  · intro t v σ H' ht h
    rw [hI] at h
    obtain ⟨s2, ⟨y, rfl⟩, hrep⟩ := h
    obtain ⟨z, rfl, hz⟩ := ints_at ht
    rw [List.getElem?_map] at hz
    obtain ⟨L, hL, rfl⟩ : ∃ L, (powL ns.length)[t]? = some L ∧ z = (L : Int) := by
      cases e : (powL ns.length)[t]? with
      | none => rw [e] at hz; cases hz
      | some L => rw [e] at hz; exact ⟨L, rfl, (Option.some.inj hz).symm⟩
    obtain ⟨hL1, hL2⟩ := powL_mem (List.mem_of_getElem? hL)
    have e2 := s2 _ _ (s1 _ _ hA)
    have cd : CDiv (ns.length : Int) (L : Int) = True := cdiv_r (by omega) (by omega)
    have eq : (ns.length : Int) / (L : Int) = ((ns.length / L : Nat) : Int) := by rw [Int.natCast_ediv]
    have ec : cutI ns none (some (L : Int)) = ns.take L := by
      unfold cutI
      rw [HT.sIx_nat, HT.sIx_none, Nat.min_eq_left hL2]
      rfl
    have hq : ns.length / L ≤ ns.length := Nat.div_le_self _ _
    try simp only [tSeq, tAsg, tVar, tC, tOp, rI0, rI, tUn, rU, tIfS, tTest, tRet, tRetN, tDrop, tCB, tCons, tNil, tLst, tLstI, tTup, gName, tB, tAnd, tOr, tNot, tAndV, tOrV, tNotV, tIf, tNext, tBreak, tCont, gSub, tCall, tCallN, tAug, ipI, tBML, tBML0, isL_IL, isL_lst, L2.start, List.map_cons, List.map_nil, List.length_cons, List.length_nil, List.cons_append, List.nil_append, List.getElem?_cons_succ, List.getElem?_cons_zero, Option.some.injEq, exists_eq_left', exists_eq_left, exists_and_left, V.int.injEq, V.ref.injEq, V.bl.injEq, V.str.injEq, List.set_cons_zero, List.set_cons_succ, List.cons.injEq, and_true, true_and, Nat.reduceAdd, Nat.reduceSub, List.replicate_succ, List.replicate_zero, rIxI, rIxH, rIxTH, rSetI, rSetH, rCatI, rRepI, rSlI, rAppendI, rExtendI, decide_eq_true_eq, upd_same, IL_inj, HO.lst.injEq, toInts_cons, toInts_nil, Option.map_some, if_true, if_false, Bool.true_eq_false, Bool.false_eq_true, Bool.not_true, Bool.not_false, Bool.not_eq_true', decide_eq_false_iff_not, atI_0, atI_1, atI_2, atI_3, atI_4, Int.reduceToNat, Int.reduceLT, Int.reduceLE, Int.reduceNeg, Int.reducePow, cast_lit, upd_upd, Int.reduceAdd, Int.reduceMul, Int.reduceSub, Nat.reduceLT, Nat.reduceLeDiff, cmul_r, cdiv_r, tSl, tPart, tNoPart, rEq, rNe, scal_nn, scal_ii, scal_bb, scal_ss, scal_is, scal_si, V.ty.injEq, and_assoc, tyH_non, tyH_bl, tyH_int, tyH_str, tyH_ref, tyO_lst, tyO_IL, tyO_tup, itO_lst, itO_tup, itO_IL, Dw.rIxD, rLenI, rLenH, rLenTH, rLenQ, rLenB, rListI, Dw.rListS, rIntI, rIntB, rSumI, rIsiD, rIsX, tCallS, tMakeS, tMake, tMakeC, tMakeSC, tFld, sFld, HO.ins.injEq, HO.tup.injEq, cxOf_K, nox_K, tr_K, suite_K, rTupleI, rAllB, rAnyB, BL_inj, tChain, wOnly, wAs, wMany, rEqI, rNeI, Dw.rMax2, rMin2, Dw.rIsN, rIsNotN, rStrIn, rStrNotIn, not_true_eq_false, not_false_eq_true, reduceCtorEq, cl_bool, cl_int, cl_str, cl_list, cl_tuple, isB_NoneType_bool, isB_NoneType_int, isB_NoneType_str, isB_NoneType_list, isB_NoneType_tuple, isB_bool_bool, isB_bool_int, isB_bool_str, isB_bool_list, isB_bool_tuple, isB_int_bool, isB_int_int, isB_int_str, isB_int_list, isB_int_tuple, isB_str_bool, isB_str_int, isB_str_str, isB_str_list, isB_str_tuple, isB_list_bool, isB_list_int, isB_list_str, isB_list_list, isB_list_tuple, isB_tuple_bool, isB_tuple_int, isB_tuple_str, isB_tuple_list, isB_tuple_tuple, rSlCI, iRng3, iRev, gCons, gNil, iZip, iEnum, tLc_eq, tFor_eq, iRng1, iRng2, iList, iTup, rSetD, iKeys, tDNewK, Int.reducePow, Int.reduceNeg, iEz, tPar, tRevL, Dw.rSetL, Dw.rIxL, rIxE, iSeqA, iEnumT, e2, cd, eq, ec]
    intro u hu
    have e3 := same_new hu (IL (ns.take L)) _ _ e2
    refine ⟨ns, e3, ⟨by omega, by omega⟩, ?_⟩
    rw [eq]
    have hlt : (ns.take L).length = L := by rw [List.length_take]; omega
    have hmul : L * (ns.length / L) ≤ ns.length := Nat.mul_div_le _ _
    have hq0 : (0 : Int) ≤ ((ns.length / L : Nat) : Int) := Int.natCast_nonneg _
    have hq1 : ((ns.length / L : Nat) : Int) ≤ (ns.length : Int) := Int.ofNat_le.mpr hq
    refine ⟨by omega, by omega, by rw [hlt, Int.toNat_natCast]; exact line_le (by omega), fun u2 hu2 => ?_⟩
    refine ⟨ns, same_new hu2 _ _ _ e3, ?_⟩
    have sN := s1.trans (s2.trans ((same_new hu (IL (ns.take L))).trans (same_new hu2 (IL (rep ((ns.length / L : Nat) : Int) (ns.take L))))))
    have hd : (powL ns.length).drop t = L :: (powL ns.length).drop (t + 1) := by
      have ht2 := (List.getElem?_eq_some_iff.mp hL).1
      rw [List.drop_eq_getElem_cons ht2]
      rw [List.getElem?_eq_getElem ht2] at hL
      rw [Option.some.inj hL]
    rw [hd] at hrep
    unfold firstRep isRep at hrep
    by_cases c : rep ((ns.length / L : Nat) : Int) (ns.take L) = ns
    · rw [if_pos c]
      rw [decide_eq_true c, if_pos rfl] at hrep
      have := k _ sN
      rw [hrep] at this
      exact this
    · rw [if_neg c, hI]
      rw [decide_eq_false c, if_neg (by decide)] at hrep
      exact ⟨s2.trans ((same_new hu _).trans (same_new hu2 _)), ⟨_, rfl⟩, hrep⟩
  · intro σ H' h
    rw [hI] at h
    obtain ⟨s2, ⟨y, rfl⟩, hrep⟩ := h
    try simp only [tSeq, tAsg, tVar, tC, tOp, rI0, rI, tUn, rU, tIfS, tTest, tRet, tRetN, tDrop, tCB, tCons, tNil, tLst, tLstI, tTup, gName, tB, tAnd, tOr, tNot, tAndV, tOrV, tNotV, tIf, tNext, tBreak, tCont, gSub, tCall, tCallN, tAug, ipI, tBML, tBML0, isL_IL, isL_lst, L2.start, List.map_cons, List.map_nil, List.length_cons, List.length_nil, List.cons_append, List.nil_append, List.getElem?_cons_succ, List.getElem?_cons_zero, Option.some.injEq, exists_eq_left', exists_eq_left, exists_and_left, V.int.injEq, V.ref.injEq, V.bl.injEq, V.str.injEq, List.set_cons_zero, List.set_cons_succ, List.cons.injEq, and_true, true_and, Nat.reduceAdd, Nat.reduceSub, List.replicate_succ, List.replicate_zero, rIxI, rIxH, rIxTH, rSetI, rSetH, rCatI, rRepI, rSlI, rAppendI, rExtendI, decide_eq_true_eq, upd_same, IL_inj, HO.lst.injEq, toInts_cons, toInts_nil, Option.map_some, if_true, if_false, Bool.true_eq_false, Bool.false_eq_true, Bool.not_true, Bool.not_false, Bool.not_eq_true', decide_eq_false_iff_not, atI_0, atI_1, atI_2, atI_3, atI_4, Int.reduceToNat, Int.reduceLT, Int.reduceLE, Int.reduceNeg, Int.reducePow, cast_lit, upd_upd, Int.reduceAdd, Int.reduceMul, Int.reduceSub, Nat.reduceLT, Nat.reduceLeDiff, cmul_r, cdiv_r, tSl, tPart, tNoPart, rEq, rNe, scal_nn, scal_ii, scal_bb, scal_ss, scal_is, scal_si, V.ty.injEq, and_assoc, tyH_non, tyH_bl, tyH_int, tyH_str, tyH_ref, tyO_lst, tyO_IL, tyO_tup, itO_lst, itO_tup, itO_IL, Dw.rIxD, rLenI, rLenH, rLenTH, rLenQ, rLenB, rListI, Dw.rListS, rIntI, rIntB, rSumI, rIsiD, rIsX, tCallS, tMakeS, tMake, tMakeC, tMakeSC, tFld, sFld, HO.ins.injEq, HO.tup.injEq, cxOf_K, nox_K, tr_K, suite_K, rTupleI, rAllB, rAnyB, BL_inj, tChain, wOnly, wAs, wMany, rEqI, rNeI, Dw.rMax2, rMin2, Dw.rIsN, rIsNotN, rStrIn, rStrNotIn, not_true_eq_false, not_false_eq_true, reduceCtorEq, cl_bool, cl_int, cl_str, cl_list, cl_tuple, isB_NoneType_bool, isB_NoneType_int, isB_NoneType_str, isB_NoneType_list, isB_NoneType_tuple, isB_bool_bool, isB_bool_int, isB_bool_str, isB_bool_list, isB_bool_tuple, isB_int_bool, isB_int_int, isB_int_str, isB_int_list, isB_int_tuple, isB_str_bool, isB_str_int, isB_str_str, isB_str_list, isB_str_tuple, isB_list_bool, isB_list_int, isB_list_str, isB_list_list, isB_list_tuple, isB_tuple_bool, isB_tuple_int, isB_tuple_str, isB_tuple_list, isB_tuple_tuple, rSlCI, iRng3, iRev, gCons, gNil, iZip, iEnum, tLc_eq, tFor_eq, iRng1, iRng2, iList, iTup, rSetD, iKeys, tDNewK, Int.reducePow, Int.reduceNeg, iEz, tPar, tRevL, Dw.rSetL, Dw.rIxL, rIxE, iSeqA, iEnumT, s2 _ _ (s1 _ _ hA)]
    rw [List.length_map, List.length_map, List.drop_length] at hrep
    have := k H' (s1.trans s2)
    rw [hrep] at this
    exact this
def lenD (ns : List Int) : Nat :=
  if h : repLen ns < ns.length ∨ ns.length / 2 < 16 then repLen ns
  else if lenD (ns.drop (ns.length / 2)) < ns.length / 2 then ns.length / 2 + lenD (ns.drop (ns.length / 2)) else repLen ns
termination_by ns.length
decreasing_by all_goals (rw [List.length_drop]; omega)
theorem lenD_base {ns : List Int} (h : repLen ns < ns.length ∨ ns.length / 2 < 16) : lenD ns = repLen ns := by
  rw [lenD, dif_pos h]
theorem lenD_step {ns : List Int} (h : ¬ (repLen ns < ns.length ∨ ns.length / 2 < 16)) : lenD ns = if lenD (ns.drop (ns.length / 2)) < ns.length / 2 then ns.length / 2 + lenD (ns.drop (ns.length / 2)) else repLen ns := by
  rw [lenD, dif_neg h]
theorem firstRep_le (ns : List Int) : ∀ l : List Nat, (∀ L ∈ l, L ≤ ns.length) → firstRep ns l ≤ ns.length
  | [], _ => Nat.le_refl _
  | L :: r, h => by
    unfold firstRep
    split
    · exact h L List.mem_cons_self
    · exact firstRep_le ns r fun x hx => h x (List.mem_cons_of_mem _ hx)
theorem repLen_le (ns : List Int) : repLen ns ≤ ns.length := firstRep_le ns _ fun L hL => (powL_mem hL).2
theorem lenD_le (ns : List Int) : lenD ns ≤ ns.length := by
  have hr := repLen_le ns
  by_cases h : repLen ns < ns.length ∨ ns.length / 2 < 16
  · rw [lenD_base h]; exact hr
  · rw [lenD_step h]
    split <;> omega
theorem cutI_from {ns : List Int} {k : Nat} (h : k ≤ ns.length) : cutI ns (some (k : Int)) none = ns.drop k := by
  unfold cutI
  rw [HT.sIx_nat, HT.sIx_none, Nat.min_eq_left h]
  exact List.take_of_length_le (by rw [List.length_drop]; exact Nat.le_refl _)
def spLen (n : Nat) : Sp := fun vs H Q _ => ∃ (a : Addr) (ns : List Int), vs = [.ref a] ∧ H a = some (IL ns) ∧ (∃ j, ns.length = 16 * 2 ^ j ∧ j < n) ∧ n ≤ 10 ∧ ∀ H', Same H H' → Q (.int (lenD ns : Nat)) H'
theorem ok_length_of_ (T : Tx K mg A) : ∀ n, FnOk P w K mg base CX0 (n + 2) A.f_length_of A.d_length_of ["dump"] (spLen n)
  | 0 => none_fn fun vs H Q E ⟨_, _, _, _, ⟨_, _, h⟩, _⟩ => absurd h (Nat.not_lt_zero _)
  | n + 1 => by
    have ih := ok_length_of_ T n
    refine T.F_length_of.ok sc_length_of (fun vs H Q E h => ?_) (fun cdv A' outer s H vs Q E hr h => ?_)
    · obtain ⟨a, ns, rfl, _⟩ := h
      rfl
    obtain ⟨a, ns, rfl, hA, ⟨j, hj, hjn⟩, hn10, k⟩ := h
    refine ⟨_, (pss_cons (ps_set (i := 1) sc_length_of.nd rfl (Or.inl rfl) (pe_call (ok_repeated_length T) (hr.mono (by omega)) rfl T.g_repeated_length T.F_repeated_length.kp T.b_repeated_length .nil pass0 (pa_cons (pv 0) pa_nil)))
      (pss_cons (ps_set (i := 2) sc_length_of.nd rfl (Or.inl rfl) (pe_op op_fdiv (pe_callB call_lenI (by rfl) T.z_len (by decide +kernel) (pa_cons (pv 0) pa_nil)) pe_int))
      (pss_cons (ps_if (PW.pt (pw_or (pt_cmpR op_lt (pv 1) (pe_callB call_lenI (by rfl) T.z_len (by decide +kernel) (pa_cons (pv 0) pa_nil)) (nomark _)) (pw_or1 (pt_cmpR op_lt (pv 2) (pe_glob rfl T.c_LEAST_LENGTH T.r_LEAST_LENGTH) (nomark _))))) (pss_one (ps_ret (pv 1))) pss_nil)
      (pss_cons (ps_set (i := 3) sc_length_of.nd rfl (Or.inl rfl) (pe_call ih (hr.mono (by omega)) rfl T.g_length_of T.F_length_of.kp T.b_length_of .nil pass0 (pa_cons (pe_slice sl_listI (pv 0) (po_some (pv 2)) po_none) pa_nil)))
      (pss_one (ps_ret (pe_ifExp (pt_cmpR op_lt (pv 3) (pv 2) (nomark _)) (pe_op op_add (pv 2) (pv 3)) (pv 1)))))))), ?_⟩
    have hp : 2 ^ j ≤ 2 ^ 10 := Nat.pow_le_pow_right (by decide) (by omega)
    try simp only [tSeq, tAsg, tVar, tC, tOp, rI0, rI, tUn, rU, tIfS, tTest, tRet, tRetN, tDrop, tCB, tCons, tNil, tLst, tLstI, tTup, gName, tB, tAnd, tOr, tNot, tAndV, tOrV, tNotV, tIf, tNext, tBreak, tCont, gSub, tCall, tCallN, tAug, ipI, tBML, tBML0, isL_IL, isL_lst, L2.start, List.map_cons, List.map_nil, List.length_cons, List.length_nil, List.cons_append, List.nil_append, List.getElem?_cons_succ, List.getElem?_cons_zero, Option.some.injEq, exists_eq_left', exists_eq_left, exists_and_left, V.int.injEq, V.ref.injEq, V.bl.injEq, V.str.injEq, List.set_cons_zero, List.set_cons_succ, List.cons.injEq, and_true, true_and, Nat.reduceAdd, Nat.reduceSub, List.replicate_succ, List.replicate_zero, rIxI, rIxH, rIxTH, rSetI, rSetH, rCatI, rRepI, rSlI, rAppendI, rExtendI, decide_eq_true_eq, upd_same, IL_inj, HO.lst.injEq, toInts_cons, toInts_nil, Option.map_some, if_true, if_false, Bool.true_eq_false, Bool.false_eq_true, Bool.not_true, Bool.not_false, Bool.not_eq_true', decide_eq_false_iff_not, atI_0, atI_1, atI_2, atI_3, atI_4, Int.reduceToNat, Int.reduceLT, Int.reduceLE, Int.reduceNeg, Int.reducePow, cast_lit, upd_upd, Int.reduceAdd, Int.reduceMul, Int.reduceSub, Nat.reduceLT, Nat.reduceLeDiff, cmul_r, cdiv_r, tSl, tPart, tNoPart, rEq, rNe, scal_nn, scal_ii, scal_bb, scal_ss, scal_is, scal_si, V.ty.injEq, and_assoc, tyH_non, tyH_bl, tyH_int, tyH_str, tyH_ref, tyO_lst, tyO_IL, tyO_tup, itO_lst, itO_tup, itO_IL, Dw.rIxD, rLenI, rLenH, rLenTH, rLenQ, rLenB, rListI, Dw.rListS, rIntI, rIntB, rSumI, rIsiD, rIsX, tCallS, tMakeS, tMake, tMakeC, tMakeSC, tFld, sFld, HO.ins.injEq, HO.tup.injEq, cxOf_K, nox_K, tr_K, suite_K, rTupleI, rAllB, rAnyB, BL_inj, tChain, wOnly, wAs, wMany, rEqI, rNeI, Dw.rMax2, rMin2, Dw.rIsN, rIsNotN, rStrIn, rStrNotIn, not_true_eq_false, not_false_eq_true, reduceCtorEq, cl_bool, cl_int, cl_str, cl_list, cl_tuple, isB_NoneType_bool, isB_NoneType_int, isB_NoneType_str, isB_NoneType_list, isB_NoneType_tuple, isB_bool_bool, isB_bool_int, isB_bool_str, isB_bool_list, isB_bool_tuple, isB_int_bool, isB_int_int, isB_int_str, isB_int_list, isB_int_tuple, isB_str_bool, isB_str_int, isB_str_str, isB_str_list, isB_str_tuple, isB_list_bool, isB_list_int, isB_list_str, isB_list_list, isB_list_tuple, isB_tuple_bool, isB_tuple_int, isB_tuple_str, isB_tuple_list, isB_tuple_tuple, rSlCI, iRng3, iRev, gCons, gNil, iZip, iEnum, tLc_eq, tFor_eq, iRng1, iRng2, iList, iTup, rSetD, iKeys, tDNewK, Int.reducePow, Int.reduceNeg, iEz, tPar, tRevL, Dw.rSetL, Dw.rIxL, rIxE, iSeqA, iEnumT]
    refine ⟨a, ns, rfl, hA, by omega, fun H1 s1 => ?_⟩
    have e1 := s1 _ _ hA
    have hh : (ns.length : Int) / 2 = ((ns.length / 2 : Nat) : Int) := by omega
    refine ⟨ns, e1, ns, e1, _, rfl, ?_⟩
    have kk := k H1 s1
    by_cases c1 : ((repLen ns : Nat) : Int) < (ns.length : Int)
    · rw [if_pos c1]
      rw [lenD_base (.inl (by omega))] at kk
      exact kk
    · rw [if_neg c1]
      by_cases c2 : (ns.length : Int) / 2 < 16
      · rw [if_pos c2]
        rw [lenD_base (.inr (by omega))] at kk
        exact kk
      · rw [if_neg c2, hh]
        rw [lenD_step (fun h => by rcases h with h | h <;> omega)] at kk
        refine ⟨ns, e1, fun u hu => ?_⟩
        rw [cutI_from (by omega)] at *
        obtain ⟨i, rfl⟩ : ∃ i, j = i + 1 := by
          cases j with
          | zero => exact absurd hj (by omega)
          | succ i => exact ⟨i, rfl⟩
        have hp2 : 2 ^ (i + 1) = 2 ^ i * 2 := Nat.pow_succ 2 i
        refine ⟨u, _, rfl, upd_same, ⟨i, by rw [List.length_drop]; omega, by omega⟩, by omega, fun H2 s2 => ?_⟩
        have kk := k H2 (s1.trans ((same_new hu _).trans s2))
        rw [lenD_step (fun h => by rcases h with h | h <;> omega)] at kk
        refine ⟨_, rfl, ?_⟩
        by_cases c3 : lenD (ns.drop (ns.length / 2)) < ns.length / 2
        · rw [if_pos (by omega)]
          rw [if_pos c3] at kk
          refine ⟨_, rfl, ?_⟩
          have ea : ((ns.length / 2 : Nat) : Int) + ((lenD (ns.drop (ns.length / 2)) : Nat) : Int) = ((ns.length / 2 + lenD (ns.drop (ns.length / 2)) : Nat) : Int) := by omega
          rw [ea]
          exact kk
        · rw [if_neg (by omega)]
          rw [if_neg c3] at kk
          exact kk
theorem ok_length_of (T : Tx K mg A) : FnOk P w K mg base CX0 8 A.f_length_of A.d_length_of ["dump"] (spLen 6) := ok_length_of_ T 6
def isP (n : Nat) : Prop := n ∈ powL 65536
def spTrue (CE : Addr) : Sp := fun vs H Q E => ∃ (a : Addr) (ns : List Int), vs = [.ref a] ∧ H a = some (IL ns) ∧ ns.length ≤ 600 ∧ (isP ns.length → ∀ H', Same H H' → Q (.int (lenD ns : Nat)) H') ∧ (¬ isP ns.length → ∀ H', Same H H' → E (.ref CE) none H')
theorem inV_ints {x : Nat} : ∀ l : List Nat, inV (.int (x : Int)) ((l.map fun x : Nat => (x : Int)).map V.int) = decide (x ∈ l)
  | [] => rfl
  | y :: r => by
    have ih := inV_ints (x := x) r
    unfold inV at ih ⊢
    rw [List.map_cons, List.map_cons, List.any_cons, ih]
    have e : eqV (.int (y : Int)) (.int (x : Int)) = decide (x = y) := by
      show ((y : Int) == (x : Int)) = _
      by_cases h : x = y
      · subst h; simp
      · rw [decide_eq_false h]
        have : ¬ (y : Int) = (x : Int) := by omega
        simp [this]
    rw [e, ← Bool.decide_or, decide_eq_decide, List.mem_cons]
theorem flat_ints : ∀ l : List Int, (l.map V.int).all flatV = true
  | [] => rfl
  | y :: r => by
    rw [List.map_cons, List.all_cons, flat_ints r]
    rfl
theorem isP_pow {n : Nat} (h : isP n) (hn : n ≤ 600) : ∃ j, n = 16 * 2 ^ j ∧ j < 6 := by
  unfold isP powL at h
  obtain ⟨i, hi, rfl⟩ := List.mem_map.mp h
  refine ⟨i, by rw [Nat.pow_add], ?_⟩
  apply Classical.byContradiction
  intro c
  have : 2 ^ 10 ≤ 2 ^ (4 + i) := Nat.pow_le_pow_right (by decide) (by omega)
  omega
theorem isP_of {j : Nat} (h : j < 13) : isP (16 * 2 ^ j) := by
  unfold isP powL
  refine List.mem_map.mpr ⟨j, List.mem_filter.mpr ⟨List.mem_range.mpr h, decide_eq_true ?_⟩, by rw [Nat.pow_add]⟩
  have : 2 ^ (4 + j) ≤ 2 ^ 16 := Nat.pow_le_pow_right (by decide) (by omega)
  exact this
theorem ok_true_length (T : Tx K mg A) : FnOk P w K mg base (L2.CX P w) 9 A.f_true_length A.d_true_length ["dump"] (spTrue A.c_InvalidDump) := by
  refine T.F_true_length.okX sc_true_length (fun vs H Q E h => ?_) (fun cdv A' outer s H vs Q E hr h => ?_)
  · obtain ⟨a, ns, rfl, _⟩ := h
    rfl
  obtain ⟨a, ns, rfl, hA, hl, k1, k2⟩ := h
  refine ⟨_, (pss_cons (ps_if (pt_cmpR op_notIn_seq (pe_callB call_lenI (by rfl) T.z_len (by decide +kernel) (pa_cons (pv 0) pa_nil)) (pe_call (ok_powers_up_to T) (hr.mono (by decide)) rfl T.g_powers_up_to T.F_powers_up_to.kp T.b_powers_up_to .nil pass0 (pa_cons (pe_glob rfl T.c_GREATEST_LENGTH T.r_GREATEST_LENGTH) pa_nil)) (by rfl)) (pss_one (ps_raise rfl (takes_of rfl rfl rfl rfl) (pmk_own PySem.F.excBase_ValueError T.x_InvalidDump.x T.x_InvalidDump.g T.x_InvalidDump.k (raises_own T.x_InvalidDump.b T.x_InvalidDump.t) rfl))) pss_nil)
      (pss_one (ps_ret (pe_call (ok_length_of T) (hr.mono (by decide)) rfl T.g_length_of T.F_length_of.kp T.b_length_of .nil pass0 (pa_cons (pv 0) pa_nil))))), ?_⟩
  try simp only [tSeq, tAsg, tVar, tC, tOp, rI0, rI, tUn, rU, tIfS, tTest, tRet, tRetN, tDrop, tCB, tCons, tNil, tLst, tLstI, tTup, gName, tB, tAnd, tOr, tNot, tAndV, tOrV, tNotV, tIf, tNext, tBreak, tCont, gSub, tCall, tCallN, tAug, ipI, tBML, tBML0, isL_IL, isL_lst, L2.start, List.map_cons, List.map_nil, List.length_cons, List.length_nil, List.cons_append, List.nil_append, List.getElem?_cons_succ, List.getElem?_cons_zero, Option.some.injEq, exists_eq_left', exists_eq_left, exists_and_left, V.int.injEq, V.ref.injEq, V.bl.injEq, V.str.injEq, List.set_cons_zero, List.set_cons_succ, List.cons.injEq, and_true, true_and, Nat.reduceAdd, Nat.reduceSub, List.replicate_succ, List.replicate_zero, rIxI, rIxH, rIxTH, rSetI, rSetH, rCatI, rRepI, rSlI, rAppendI, rExtendI, decide_eq_true_eq, upd_same, IL_inj, HO.lst.injEq, toInts_cons, toInts_nil, Option.map_some, if_true, if_false, Bool.true_eq_false, Bool.false_eq_true, Bool.not_true, Bool.not_false, Bool.not_eq_true', decide_eq_false_iff_not, atI_0, atI_1, atI_2, atI_3, atI_4, Int.reduceToNat, Int.reduceLT, Int.reduceLE, Int.reduceNeg, Int.reducePow, cast_lit, upd_upd, Int.reduceAdd, Int.reduceMul, Int.reduceSub, Nat.reduceLT, Nat.reduceLeDiff, cmul_r, cdiv_r, tSl, tPart, tNoPart, rEq, rNe, scal_nn, scal_ii, scal_bb, scal_ss, scal_is, scal_si, V.ty.injEq, and_assoc, tyH_non, tyH_bl, tyH_int, tyH_str, tyH_ref, tyO_lst, tyO_IL, tyO_tup, itO_lst, itO_tup, itO_IL, Dw.rIxD, rLenI, rLenH, rLenTH, rLenQ, rLenB, rListI, Dw.rListS, rIntI, rIntB, rSumI, rIsiD, rIsX, tCallS, tMakeS, tMake, tMakeC, tMakeSC, tFld, sFld, HO.ins.injEq, HO.tup.injEq, cxOf_K, nox_K, tr_K, suite_K, rTupleI, rAllB, rAnyB, BL_inj, tChain, wOnly, wAs, wMany, rEqI, rNeI, Dw.rMax2, rMin2, Dw.rIsN, rIsNotN, rStrIn, rStrNotIn, not_true_eq_false, not_false_eq_true, reduceCtorEq, cl_bool, cl_int, cl_str, cl_list, cl_tuple, isB_NoneType_bool, isB_NoneType_int, isB_NoneType_str, isB_NoneType_list, isB_NoneType_tuple, isB_bool_bool, isB_bool_int, isB_bool_str, isB_bool_list, isB_bool_tuple, isB_int_bool, isB_int_int, isB_int_str, isB_int_list, isB_int_tuple, isB_str_bool, isB_str_int, isB_str_str, isB_str_list, isB_str_tuple, isB_list_bool, isB_list_int, isB_list_str, isB_list_list, isB_list_tuple, isB_tuple_bool, isB_tuple_int, isB_tuple_str, isB_tuple_list, isB_tuple_tuple, rSlCI, iRng3, iRev, gCons, gNil, iZip, iEnum, tLc_eq, tFor_eq, iRng1, iRng2, iList, iTup, rSetD, iKeys, tDNewK, Int.reducePow, Int.reduceNeg, iEz, tPar, tRevL, Dw.rSetL, Dw.rIxL, rIxE, iSeqA, iEnumT, hA]
  refine ⟨65536, rfl, fun D H1 s1 nD eD => ⟨D, _, rfl, .inl (.of eD), rfl, flat_ints _, ?_⟩⟩
  rw [inV_ints]
  try simp only [tSeq, tAsg, tVar, tC, tOp, rI0, rI, tUn, rU, tIfS, tTest, tRet, tRetN, tDrop, tCB, tCons, tNil, tLst, tLstI, tTup, gName, tB, tAnd, tOr, tNot, tAndV, tOrV, tNotV, tIf, tNext, tBreak, tCont, gSub, tCall, tCallN, tAug, ipI, tBML, tBML0, isL_IL, isL_lst, L2.start, List.map_cons, List.map_nil, List.length_cons, List.length_nil, List.cons_append, List.nil_append, List.getElem?_cons_succ, List.getElem?_cons_zero, Option.some.injEq, exists_eq_left', exists_eq_left, exists_and_left, V.int.injEq, V.ref.injEq, V.bl.injEq, V.str.injEq, List.set_cons_zero, List.set_cons_succ, List.cons.injEq, and_true, true_and, Nat.reduceAdd, Nat.reduceSub, List.replicate_succ, List.replicate_zero, rIxI, rIxH, rIxTH, rSetI, rSetH, rCatI, rRepI, rSlI, rAppendI, rExtendI, decide_eq_true_eq, upd_same, IL_inj, HO.lst.injEq, toInts_cons, toInts_nil, Option.map_some, if_true, if_false, Bool.true_eq_false, Bool.false_eq_true, Bool.not_true, Bool.not_false, Bool.not_eq_true', decide_eq_false_iff_not, atI_0, atI_1, atI_2, atI_3, atI_4, Int.reduceToNat, Int.reduceLT, Int.reduceLE, Int.reduceNeg, Int.reducePow, cast_lit, upd_upd, Int.reduceAdd, Int.reduceMul, Int.reduceSub, Nat.reduceLT, Nat.reduceLeDiff, cmul_r, cdiv_r, tSl, tPart, tNoPart, rEq, rNe, scal_nn, scal_ii, scal_bb, scal_ss, scal_is, scal_si, V.ty.injEq, and_assoc, tyH_non, tyH_bl, tyH_int, tyH_str, tyH_ref, tyO_lst, tyO_IL, tyO_tup, itO_lst, itO_tup, itO_IL, Dw.rIxD, rLenI, rLenH, rLenTH, rLenQ, rLenB, rListI, Dw.rListS, rIntI, rIntB, rSumI, rIsiD, rIsX, tCallS, tMakeS, tMake, tMakeC, tMakeSC, tFld, sFld, HO.ins.injEq, HO.tup.injEq, cxOf_K, nox_K, tr_K, suite_K, rTupleI, rAllB, rAnyB, BL_inj, tChain, wOnly, wAs, wMany, rEqI, rNeI, Dw.rMax2, rMin2, Dw.rIsN, rIsNotN, rStrIn, rStrNotIn, not_true_eq_false, not_false_eq_true, reduceCtorEq, cl_bool, cl_int, cl_str, cl_list, cl_tuple, isB_NoneType_bool, isB_NoneType_int, isB_NoneType_str, isB_NoneType_list, isB_NoneType_tuple, isB_bool_bool, isB_bool_int, isB_bool_str, isB_bool_list, isB_bool_tuple, isB_int_bool, isB_int_int, isB_int_str, isB_int_list, isB_int_tuple, isB_str_bool, isB_str_int, isB_str_str, isB_str_list, isB_str_tuple, isB_list_bool, isB_list_int, isB_list_str, isB_list_list, isB_list_tuple, isB_tuple_bool, isB_tuple_int, isB_tuple_str, isB_tuple_list, isB_tuple_tuple, rSlCI, iRng3, iRev, gCons, gNil, iZip, iEnum, tLc_eq, tFor_eq, iRng1, iRng2, iList, iTup, rSetD, iKeys, tDNewK, Int.reducePow, Int.reduceNeg, iEz, tPar, tRevL, Dw.rSetL, Dw.rIxL, rIxE, iSeqA, iEnumT]
  by_cases c : ns.length ∈ powL 65536
  · rw [if_neg (fun h => h c)]
    exact ⟨a, ns, rfl, s1 _ _ hA, isP_pow c hl, by decide, fun H2 s2 => k1 c _ (s1.trans s2)⟩
  · rw [if_pos c]
    exact k2 c _ s1
def spTrim (CE : Addr) : Sp := fun vs H Q E => ∃ (a : Addr) (ns : List Int), vs = [.ref a] ∧ H a = some (IL ns) ∧ ns.length ≤ 600 ∧ (isP ns.length → ∀ D H', Same H H' → H D = none → H' D = some (IL (ns.take (lenD ns))) → Q (.ref D) H') ∧ (¬ isP ns.length → ∀ H', Same H H' → E (.ref CE) none H')
theorem ok_trimmed (T : Tx K mg A) : FnOk P w K mg base (L2.CX P w) 10 A.f_trimmed A.d_trimmed ["dump"] (spTrim A.c_InvalidDump) := by
  refine T.F_trimmed.okX sc_trimmed (fun vs H Q E h => ?_) (fun cdv A' outer s H vs Q E hr h => ?_)
  · obtain ⟨a, ns, rfl, _⟩ := h
    rfl
  obtain ⟨a, ns, rfl, hA, hl, k1, k2⟩ := h
  refine ⟨_, (pss_one (ps_ret (pe_slice sl_listI (pv 0) po_none (po_some (pe_call (ok_true_length T) (hr.mono (by decide)) rfl T.g_true_length T.F_true_length.kp T.b_true_length .nil (passW (takes_of rfl rfl rfl rfl) (fun _ _ _ _ h => h)) (pa_cons (pv 0) pa_nil)))))), ?_⟩
  try simp only [tSeq, tAsg, tVar, tC, tOp, rI0, rI, tUn, rU, tIfS, tTest, tRet, tRetN, tDrop, tCB, tCons, tNil, tLst, tLstI, tTup, gName, tB, tAnd, tOr, tNot, tAndV, tOrV, tNotV, tIf, tNext, tBreak, tCont, gSub, tCall, tCallN, tAug, ipI, tBML, tBML0, isL_IL, isL_lst, L2.start, List.map_cons, List.map_nil, List.length_cons, List.length_nil, List.cons_append, List.nil_append, List.getElem?_cons_succ, List.getElem?_cons_zero, Option.some.injEq, exists_eq_left', exists_eq_left, exists_and_left, V.int.injEq, V.ref.injEq, V.bl.injEq, V.str.injEq, List.set_cons_zero, List.set_cons_succ, List.cons.injEq, and_true, true_and, Nat.reduceAdd, Nat.reduceSub, List.replicate_succ, List.replicate_zero, rIxI, rIxH, rIxTH, rSetI, rSetH, rCatI, rRepI, rSlI, rAppendI, rExtendI, decide_eq_true_eq, upd_same, IL_inj, HO.lst.injEq, toInts_cons, toInts_nil, Option.map_some, if_true, if_false, Bool.true_eq_false, Bool.false_eq_true, Bool.not_true, Bool.not_false, Bool.not_eq_true', decide_eq_false_iff_not, atI_0, atI_1, atI_2, atI_3, atI_4, Int.reduceToNat, Int.reduceLT, Int.reduceLE, Int.reduceNeg, Int.reducePow, cast_lit, upd_upd, Int.reduceAdd, Int.reduceMul, Int.reduceSub, Nat.reduceLT, Nat.reduceLeDiff, cmul_r, cdiv_r, tSl, tPart, tNoPart, rEq, rNe, scal_nn, scal_ii, scal_bb, scal_ss, scal_is, scal_si, V.ty.injEq, and_assoc, tyH_non, tyH_bl, tyH_int, tyH_str, tyH_ref, tyO_lst, tyO_IL, tyO_tup, itO_lst, itO_tup, itO_IL, Dw.rIxD, rLenI, rLenH, rLenTH, rLenQ, rLenB, rListI, Dw.rListS, rIntI, rIntB, rSumI, rIsiD, rIsX, tCallS, tMakeS, tMake, tMakeC, tMakeSC, tFld, sFld, HO.ins.injEq, HO.tup.injEq, cxOf_K, nox_K, tr_K, suite_K, rTupleI, rAllB, rAnyB, BL_inj, tChain, wOnly, wAs, wMany, rEqI, rNeI, Dw.rMax2, rMin2, Dw.rIsN, rIsNotN, rStrIn, rStrNotIn, not_true_eq_false, not_false_eq_true, reduceCtorEq, cl_bool, cl_int, cl_str, cl_list, cl_tuple, isB_NoneType_bool, isB_NoneType_int, isB_NoneType_str, isB_NoneType_list, isB_NoneType_tuple, isB_bool_bool, isB_bool_int, isB_bool_str, isB_bool_list, isB_bool_tuple, isB_int_bool, isB_int_int, isB_int_str, isB_int_list, isB_int_tuple, isB_str_bool, isB_str_int, isB_str_str, isB_str_list, isB_str_tuple, isB_list_bool, isB_list_int, isB_list_str, isB_list_list, isB_list_tuple, isB_tuple_bool, isB_tuple_int, isB_tuple_str, isB_tuple_list, isB_tuple_tuple, rSlCI, iRng3, iRev, gCons, gNil, iZip, iEnum, tLc_eq, tFor_eq, iRng1, iRng2, iList, iTup, rSetD, iKeys, tDNewK, Int.reducePow, Int.reduceNeg, iEz, tPar, tRevL, Dw.rSetL, Dw.rIxL, rIxE, iSeqA, iEnumT, hA]
  refine ⟨a, ns, rfl, hA, hl, fun c H1 s1 => ?_, fun c H1 s1 => k2 c _ s1⟩
  have hle := lenD_le ns
  have ec : cutI ns none (some ((lenD ns : Nat) : Int)) = ns.take (lenD ns) := by
    unfold cutI
    rw [HT.sIx_nat, HT.sIx_none, Nat.min_eq_left hle]
    rfl
  refine ⟨_, rfl, ns, s1 _ _ hA, fun u hu => ?_⟩
  rw [ec]
  exact k1 c u _ (s1.trans (same_new hu _)) (same_none s1 hu) upd_same
end
section
variable {P : Program} {w : World} {K : PySem.W.Frag} {mg : Str → Option Value} {base : Heap} {A : Ad}
def spMB : Sp := fun vs H Q _ => ∃ (a : Addr) (ns : List Int), vs = [.ref a] ∧ H a = some (IL ns) ∧ 0 < ns.length ∧ ns.length ≤ 1000 ∧ ∀ v H', mergedV ns v → Same H H' → Q v H'
theorem ok_merged_byte (T : Tx K mg A) : FnOk P w K mg base CX0 1 A.f_merged_byte A.d_merged_byte ["values"] spMB := by
  refine T.F_merged_byte.ok sc_merged_byte (fun vs H Q E h => ?_) (fun cdv A' outer s H vs Q E hr h => ?_)
  · obtain ⟨a, ns, rfl, _⟩ := h
    rfl
  obtain ⟨a, ns, rfl, hA, hp, hl, k⟩ := h
  refine ⟨_, (pss_cons (ps_set (i := 1) sc_merged_byte.nd rfl (Or.inr rfl) pe_dnewK)
      (pss_cons (ps_for PassesOwn.never rfl (pi_list (pv 0)) (pg_name (i := 2) sc_merged_byte.nd rfl (Or.inl rfl))
        (pss_one (ps_asg (pe_op op_add (pe_dget2 (hu_of hr) (pv 1) (pv 2) pe_int ⟨by rfl, by rfl, by rfl, by rfl⟩) pe_int) (pg_sub (pv 1) (pv 2) (set_dict (hu_of hr))))))
      (pss_cons (ps_set (i := 3) sc_merged_byte.nd rfl (Or.inr rfl) (pe_callB (cr_max rfl) (by rfl) T.z_max (by decide +kernel) (pa_cons (pe_lock (pe_lc (own := [("value", 2)]) (g := (gName 2)) (tt := tYes) rfl sc_merged_byte.nd (pi_keys (pv 1)) (blkOk_by (N := n_merged_byte) (sc := (defScope s_merged_byte)) (by decide +kernel)) (fun _ _ _ _ _ => (pg_name (i := 2) sc_merged_byte.nd rfl (Or.inl rfl))) (fun _ _ _ _ _ => pts_nil) (fun _ _ _ _ _ => (pe_dget (hu_of hr) (pv 1) (pv 2) (fun _ _ => rfl))))) pa_nil)))
      (pss_cons (ps_lock (ps_setLc (i := 4) (own := [("value", 2)]) (g := (gName 2)) rfl sc_merged_byte.nd rfl rfl (sw_true rfl rfl rfl (by decide +kernel)) (pi_keys (pv 1)) (blkOk_by (N := n_merged_byte) (sc := (defScope s_merged_byte)) (by decide +kernel)) (fun _ _ _ _ _ => (pg_name (i := 2) sc_merged_byte.nd rfl (Or.inl rfl))) (fun _ _ _ _ _ => (pts_one (pt_cmpR op_eq (pe_dget (hu_of hr) (pv 1) (pv 2) (fun _ _ => rfl)) (pv 3) (nomark _)))) (fun _ _ _ _ _ => (pv 2))))
      (pss_one (ps_ret (pe_ifExp (pt_cmpR op_eq (pe_callB call_lenI (by rfl) T.z_len (by decide +kernel) (pa_cons (pv 4) pa_nil)) pe_int (nomark _)) (pe_ix ix_listI (pv 4) pe_int (fun _ _ => rfl)) pe_non))))))), ?_⟩
  try simp only [tSeq, tAsg, tVar, tC, tOp, rI0, rI, tUn, rU, tIfS, tTest, tRet, tRetN, tDrop, tCB, tCons, tNil, tLst, tLstI, tTup, gName, tB, tAnd, tOr, tNot, tAndV, tOrV, tNotV, tIf, tNext, tBreak, tCont, gSub, tCall, tCallN, tAug, ipI, tBML, tBML0, isL_IL, isL_lst, L2.start, List.map_cons, List.map_nil, List.length_cons, List.length_nil, List.cons_append, List.nil_append, List.getElem?_cons_succ, List.getElem?_cons_zero, Option.some.injEq, exists_eq_left', exists_eq_left, exists_and_left, V.int.injEq, V.ref.injEq, V.bl.injEq, V.str.injEq, List.set_cons_zero, List.set_cons_succ, List.cons.injEq, and_true, true_and, Nat.reduceAdd, Nat.reduceSub, List.replicate_succ, List.replicate_zero, rIxI, rIxH, rIxTH, rSetI, rSetH, rCatI, rRepI, rSlI, rAppendI, rExtendI, decide_eq_true_eq, upd_same, IL_inj, HO.lst.injEq, toInts_cons, toInts_nil, Option.map_some, if_true, if_false, Bool.true_eq_false, Bool.false_eq_true, Bool.not_true, Bool.not_false, Bool.not_eq_true', decide_eq_false_iff_not, atI_0, atI_1, atI_2, atI_3, atI_4, Int.reduceToNat, Int.reduceLT, Int.reduceLE, Int.reduceNeg, Int.reducePow, cast_lit, upd_upd, Int.reduceAdd, Int.reduceMul, Int.reduceSub, Nat.reduceLT, Nat.reduceLeDiff, cmul_r, cdiv_r, tSl, tPart, tNoPart, rEq, rNe, scal_nn, scal_ii, scal_bb, scal_ss, scal_is, scal_si, V.ty.injEq, and_assoc, tyH_non, tyH_bl, tyH_int, tyH_str, tyH_ref, tyO_lst, tyO_IL, tyO_tup, itO_lst, itO_tup, itO_IL, Dw.rIxD, rLenI, rLenH, rLenTH, rLenQ, rLenB, rListI, Dw.rListS, rIntI, rIntB, rSumI, rIsiD, rIsX, tCallS, tMakeS, tMake, tMakeC, tMakeSC, tFld, sFld, HO.ins.injEq, HO.tup.injEq, cxOf_K, nox_K, tr_K, suite_K, rTupleI, rAllB, rAnyB, BL_inj, tChain, wOnly, wAs, wMany, rEqI, rNeI, Dw.rMax2, rMin2, Dw.rIsN, rIsNotN, rStrIn, rStrNotIn, not_true_eq_false, not_false_eq_true, reduceCtorEq, cl_bool, cl_int, cl_str, cl_list, cl_tuple, isB_NoneType_bool, isB_NoneType_int, isB_NoneType_str, isB_NoneType_list, isB_NoneType_tuple, isB_bool_bool, isB_bool_int, isB_bool_str, isB_bool_list, isB_bool_tuple, isB_int_bool, isB_int_int, isB_int_str, isB_int_list, isB_int_tuple, isB_str_bool, isB_str_int, isB_str_str, isB_str_list, isB_str_tuple, isB_list_bool, isB_list_int, isB_list_str, isB_list_list, isB_list_tuple, isB_tuple_bool, isB_tuple_int, isB_tuple_str, isB_tuple_list, isB_tuple_tuple, rSlCI, iRng3, iRev, gCons, gNil, iZip, iEnum, tLc_eq, tFor_eq, iRng1, iRng2, iList, iTup, rSetD, iKeys, tDNewK, Int.reducePow, Int.reduceNeg, iEz, tPar, tRevL, Dw.rSetL, Dw.rIxL, rIxE, iSeqA, iEnumT, tDGet, tDGet2]
  refine fun D hD => ?_
  have aD : a ≠ D := ne_of_none hA hD
  refine ⟨⟨_, .of (same_new hD _ _ _ hA)⟩, ?_⟩
  obtain ⟨I, hI⟩ : ∃ F : Nat → L2.St → Hp → Prop, F = (fun i σ H' => Same H H' ∧ H' D = some (.dK (kvC (ns.take i))) ∧ ∃ y, σ = [some (V.ref a), some (V.ref D), y, none, none]) := ⟨_, rfl⟩
  refine for_list (xs := ns.map V.int) I (by rw [hI]; exact ⟨same_new hD _, upd_same, none, rfl⟩) (fun i σ H' _ h => by rw [hI] at h; exact .of (h.1 _ _ hA)) ?_ ?_
  · intro i v σ H' hi h
    rw [hI] at h
    obtain ⟨s1, e1, y, rfl⟩ := h
    obtain ⟨z, rfl, hz⟩ := ints_at hi
    have hil := (List.getElem?_eq_some_iff.mp hz).1
    have g := DGet.k (k := .inl z) e1
    try simp only [tSeq, tAsg, tVar, tC, tOp, rI0, rI, tUn, rU, tIfS, tTest, tRet, tRetN, tDrop, tCB, tCons, tNil, tLst, tLstI, tTup, gName, tB, tAnd, tOr, tNot, tAndV, tOrV, tNotV, tIf, tNext, tBreak, tCont, gSub, tCall, tCallN, tAug, ipI, tBML, tBML0, isL_IL, isL_lst, L2.start, List.map_cons, List.map_nil, List.length_cons, List.length_nil, List.cons_append, List.nil_append, List.getElem?_cons_succ, List.getElem?_cons_zero, Option.some.injEq, exists_eq_left', exists_eq_left, exists_and_left, V.int.injEq, V.ref.injEq, V.bl.injEq, V.str.injEq, List.set_cons_zero, List.set_cons_succ, List.cons.injEq, and_true, true_and, Nat.reduceAdd, Nat.reduceSub, List.replicate_succ, List.replicate_zero, rIxI, rIxH, rIxTH, rSetI, rSetH, rCatI, rRepI, rSlI, rAppendI, rExtendI, decide_eq_true_eq, upd_same, IL_inj, HO.lst.injEq, toInts_cons, toInts_nil, Option.map_some, if_true, if_false, Bool.true_eq_false, Bool.false_eq_true, Bool.not_true, Bool.not_false, Bool.not_eq_true', decide_eq_false_iff_not, atI_0, atI_1, atI_2, atI_3, atI_4, Int.reduceToNat, Int.reduceLT, Int.reduceLE, Int.reduceNeg, Int.reducePow, cast_lit, upd_upd, Int.reduceAdd, Int.reduceMul, Int.reduceSub, Nat.reduceLT, Nat.reduceLeDiff, cmul_r, cdiv_r, tSl, tPart, tNoPart, rEq, rNe, scal_nn, scal_ii, scal_bb, scal_ss, scal_is, scal_si, V.ty.injEq, and_assoc, tyH_non, tyH_bl, tyH_int, tyH_str, tyH_ref, tyO_lst, tyO_IL, tyO_tup, itO_lst, itO_tup, itO_IL, Dw.rIxD, rLenI, rLenH, rLenTH, rLenQ, rLenB, rListI, Dw.rListS, rIntI, rIntB, rSumI, rIsiD, rIsX, tCallS, tMakeS, tMake, tMakeC, tMakeSC, tFld, sFld, HO.ins.injEq, HO.tup.injEq, cxOf_K, nox_K, tr_K, suite_K, rTupleI, rAllB, rAnyB, BL_inj, tChain, wOnly, wAs, wMany, rEqI, rNeI, Dw.rMax2, rMin2, Dw.rIsN, rIsNotN, rStrIn, rStrNotIn, not_true_eq_false, not_false_eq_true, reduceCtorEq, cl_bool, cl_int, cl_str, cl_list, cl_tuple, isB_NoneType_bool, isB_NoneType_int, isB_NoneType_str, isB_NoneType_list, isB_NoneType_tuple, isB_bool_bool, isB_bool_int, isB_bool_str, isB_bool_list, isB_bool_tuple, isB_int_bool, isB_int_int, isB_int_str, isB_int_list, isB_int_tuple, isB_str_bool, isB_str_int, isB_str_str, isB_str_list, isB_str_tuple, isB_list_bool, isB_list_int, isB_list_str, isB_list_list, isB_list_tuple, isB_tuple_bool, isB_tuple_int, isB_tuple_str, isB_tuple_list, isB_tuple_tuple, rSlCI, iRng3, iRev, gCons, gNil, iZip, iEnum, tLc_eq, tFor_eq, iRng1, iRng2, iList, iTup, rSetD, iKeys, tDNewK, Int.reducePow, Int.reduceNeg, iEz, tPar, tRevL, Dw.rSetL, Dw.rIxL, rIxE, iSeqA, iEnumT, tDGet, tDGet2]
    refine ⟨.inl ⟨_, .inl e1⟩, _, g, ((ns.take i).count z : Nat), getD_kvC _ _, _, DPut.k (k := .inl z) e1 ?_, ?_⟩
    · rw [kvC_len]
      have := keysOf_len (ns.take i)
      rw [List.length_take] at this
      exact line_lt (by omega)
    · rw [hI]
      refine ⟨fun b o hb => ?_, by rw [upd_same, putK_kvC hz], _, rfl⟩
      rw [upd_ne (ne_of_none hb hD)]
      exact s1 _ _ hb
  · intro σ H' h
    rw [hI] at h
    obtain ⟨s1, e1, y, rfl⟩ := h
    rw [List.length_map, List.take_length] at e1
    try simp only [tSeq, tAsg, tVar, tC, tOp, rI0, rI, tUn, rU, tIfS, tTest, tRet, tRetN, tDrop, tCB, tCons, tNil, tLst, tLstI, tTup, gName, tB, tAnd, tOr, tNot, tAndV, tOrV, tNotV, tIf, tNext, tBreak, tCont, gSub, tCall, tCallN, tAug, ipI, tBML, tBML0, isL_IL, isL_lst, L2.start, List.map_cons, List.map_nil, List.length_cons, List.length_nil, List.cons_append, List.nil_append, List.getElem?_cons_succ, List.getElem?_cons_zero, Option.some.injEq, exists_eq_left', exists_eq_left, exists_and_left, V.int.injEq, V.ref.injEq, V.bl.injEq, V.str.injEq, List.set_cons_zero, List.set_cons_succ, List.cons.injEq, and_true, true_and, Nat.reduceAdd, Nat.reduceSub, List.replicate_succ, List.replicate_zero, rIxI, rIxH, rIxTH, rSetI, rSetH, rCatI, rRepI, rSlI, rAppendI, rExtendI, decide_eq_true_eq, upd_same, IL_inj, HO.lst.injEq, toInts_cons, toInts_nil, Option.map_some, if_true, if_false, Bool.true_eq_false, Bool.false_eq_true, Bool.not_true, Bool.not_false, Bool.not_eq_true', decide_eq_false_iff_not, atI_0, atI_1, atI_2, atI_3, atI_4, Int.reduceToNat, Int.reduceLT, Int.reduceLE, Int.reduceNeg, Int.reducePow, cast_lit, upd_upd, Int.reduceAdd, Int.reduceMul, Int.reduceSub, Nat.reduceLT, Nat.reduceLeDiff, cmul_r, cdiv_r, tSl, tPart, tNoPart, rEq, rNe, scal_nn, scal_ii, scal_bb, scal_ss, scal_is, scal_si, V.ty.injEq, and_assoc, tyH_non, tyH_bl, tyH_int, tyH_str, tyH_ref, tyO_lst, tyO_IL, tyO_tup, itO_lst, itO_tup, itO_IL, Dw.rIxD, rLenI, rLenH, rLenTH, rLenQ, rLenB, rListI, Dw.rListS, rIntI, rIntB, rSumI, rIsiD, rIsX, tCallS, tMakeS, tMake, tMakeC, tMakeSC, tFld, sFld, HO.ins.injEq, HO.tup.injEq, cxOf_K, nox_K, tr_K, suite_K, rTupleI, rAllB, rAnyB, BL_inj, tChain, wOnly, wAs, wMany, rEqI, rNeI, Dw.rMax2, rMin2, Dw.rIsN, rIsNotN, rStrIn, rStrNotIn, not_true_eq_false, not_false_eq_true, reduceCtorEq, cl_bool, cl_int, cl_str, cl_list, cl_tuple, isB_NoneType_bool, isB_NoneType_int, isB_NoneType_str, isB_NoneType_list, isB_NoneType_tuple, isB_bool_bool, isB_bool_int, isB_bool_str, isB_bool_list, isB_bool_tuple, isB_int_bool, isB_int_int, isB_int_str, isB_int_list, isB_int_tuple, isB_str_bool, isB_str_int, isB_str_str, isB_str_list, isB_str_tuple, isB_list_bool, isB_list_int, isB_list_str, isB_list_list, isB_list_tuple, isB_tuple_bool, isB_tuple_int, isB_tuple_str, isB_tuple_list, isB_tuple_tuple, rSlCI, iRng3, iRev, gCons, gNil, iZip, iEnum, tLc_eq, tFor_eq, iRng1, iRng2, iList, iTup, rSetD, iKeys, tDNewK, Int.reducePow, Int.reduceNeg, iEz, tPar, tRevL, Dw.rSetL, Dw.rIxL, rIxE, iSeqA, iEnumT, tDGet, tDGet2]
    have hkl := keysOf_len ns
    refine ⟨D, _, e1, trivial, fun od => ?_⟩
    have f1 : upd H' D (.frz od (.dK (kvC ns))) D = some (.frz od (.dK (kvC ns))) := upd_same
    try simp only [tSeq, tAsg, tVar, tC, tOp, rI0, rI, tUn, rU, tIfS, tTest, tRet, tRetN, tDrop, tCB, tCons, tNil, tLst, tLstI, tTup, gName, tB, tAnd, tOr, tNot, tAndV, tOrV, tNotV, tIf, tNext, tBreak, tCont, gSub, tCall, tCallN, tAug, ipI, tBML, tBML0, isL_IL, isL_lst, L2.start, List.map_cons, List.map_nil, List.length_cons, List.length_nil, List.cons_append, List.nil_append, List.getElem?_cons_succ, List.getElem?_cons_zero, Option.some.injEq, exists_eq_left', exists_eq_left, exists_and_left, V.int.injEq, V.ref.injEq, V.bl.injEq, V.str.injEq, List.set_cons_zero, List.set_cons_succ, List.cons.injEq, and_true, true_and, Nat.reduceAdd, Nat.reduceSub, List.replicate_succ, List.replicate_zero, rIxI, rIxH, rIxTH, rSetI, rSetH, rCatI, rRepI, rSlI, rAppendI, rExtendI, decide_eq_true_eq, upd_same, IL_inj, HO.lst.injEq, toInts_cons, toInts_nil, Option.map_some, if_true, if_false, Bool.true_eq_false, Bool.false_eq_true, Bool.not_true, Bool.not_false, Bool.not_eq_true', decide_eq_false_iff_not, atI_0, atI_1, atI_2, atI_3, atI_4, Int.reduceToNat, Int.reduceLT, Int.reduceLE, Int.reduceNeg, Int.reducePow, cast_lit, upd_upd, Int.reduceAdd, Int.reduceMul, Int.reduceSub, Nat.reduceLT, Nat.reduceLeDiff, cmul_r, cdiv_r, tSl, tPart, tNoPart, rEq, rNe, scal_nn, scal_ii, scal_bb, scal_ss, scal_is, scal_si, V.ty.injEq, and_assoc, tyH_non, tyH_bl, tyH_int, tyH_str, tyH_ref, tyO_lst, tyO_IL, tyO_tup, itO_lst, itO_tup, itO_IL, Dw.rIxD, rLenI, rLenH, rLenTH, rLenQ, rLenB, rListI, Dw.rListS, rIntI, rIntB, rSumI, rIsiD, rIsX, tCallS, tMakeS, tMake, tMakeC, tMakeSC, tFld, sFld, HO.ins.injEq, HO.tup.injEq, cxOf_K, nox_K, tr_K, suite_K, rTupleI, rAllB, rAnyB, BL_inj, tChain, wOnly, wAs, wMany, rEqI, rNeI, Dw.rMax2, rMin2, Dw.rIsN, rIsNotN, rStrIn, rStrNotIn, not_true_eq_false, not_false_eq_true, reduceCtorEq, cl_bool, cl_int, cl_str, cl_list, cl_tuple, isB_NoneType_bool, isB_NoneType_int, isB_NoneType_str, isB_NoneType_list, isB_NoneType_tuple, isB_bool_bool, isB_bool_int, isB_bool_str, isB_bool_list, isB_bool_tuple, isB_int_bool, isB_int_int, isB_int_str, isB_int_list, isB_int_tuple, isB_str_bool, isB_str_int, isB_str_str, isB_str_list, isB_str_tuple, isB_list_bool, isB_list_int, isB_list_str, isB_list_list, isB_list_tuple, isB_tuple_bool, isB_tuple_int, isB_tuple_str, isB_tuple_list, isB_tuple_tuple, rSlCI, iRng3, iRev, gCons, gNil, iZip, iEnum, tLc_eq, tFor_eq, iRng1, iRng2, iList, iTup, rSetD, iKeys, tDNewK, Int.reducePow, Int.reduceNeg, iEz, tPar, tRevL, Dw.rSetL, Dw.rIxL, rIxE, iSeqA, iEnumT, tDGet, tDGet2]
    refine ⟨od, .inl ⟨_, rfl, fun L hL => ?_⟩⟩
    refine lc_keys (ks := keysOf ns) (p := fun _ => true) (g := fun z => .int ((ns.count z : Nat) : Int)) (kvC_keys ns) (by omega) f1 hL (fun _ => rfl) ?_ ?_ fun H2 s2 e2 => ?_
    · intro z H3 Q' hz s3 hq
      exact hq _ (Same.refl _)
    · intro z H3 Q' hz s3 hq
      have g : DGet H3 D (.int z) (some (.int ((ns.count z : Nat) : Int))) := .inl ⟨_, .inl z, .inr ⟨od, s3 _ _ f1⟩, rfl, by rw [valV_kvC, if_pos (mem_keysOf.mp hz)]⟩
      try simp only [tSeq, tAsg, tVar, tC, tOp, rI0, rI, tUn, rU, tIfS, tTest, tRet, tRetN, tDrop, tCB, tCons, tNil, tLst, tLstI, tTup, gName, tB, tAnd, tOr, tNot, tAndV, tOrV, tNotV, tIf, tNext, tBreak, tCont, gSub, tCall, tCallN, tAug, ipI, tBML, tBML0, isL_IL, isL_lst, L2.start, List.map_cons, List.map_nil, List.length_cons, List.length_nil, List.cons_append, List.nil_append, List.getElem?_cons_succ, List.getElem?_cons_zero, Option.some.injEq, exists_eq_left', exists_eq_left, exists_and_left, V.int.injEq, V.ref.injEq, V.bl.injEq, V.str.injEq, List.set_cons_zero, List.set_cons_succ, List.cons.injEq, and_true, true_and, Nat.reduceAdd, Nat.reduceSub, List.replicate_succ, List.replicate_zero, rIxI, rIxH, rIxTH, rSetI, rSetH, rCatI, rRepI, rSlI, rAppendI, rExtendI, decide_eq_true_eq, upd_same, IL_inj, HO.lst.injEq, toInts_cons, toInts_nil, Option.map_some, if_true, if_false, Bool.true_eq_false, Bool.false_eq_true, Bool.not_true, Bool.not_false, Bool.not_eq_true', decide_eq_false_iff_not, atI_0, atI_1, atI_2, atI_3, atI_4, Int.reduceToNat, Int.reduceLT, Int.reduceLE, Int.reduceNeg, Int.reducePow, cast_lit, upd_upd, Int.reduceAdd, Int.reduceMul, Int.reduceSub, Nat.reduceLT, Nat.reduceLeDiff, cmul_r, cdiv_r, tSl, tPart, tNoPart, rEq, rNe, scal_nn, scal_ii, scal_bb, scal_ss, scal_is, scal_si, V.ty.injEq, and_assoc, tyH_non, tyH_bl, tyH_int, tyH_str, tyH_ref, tyO_lst, tyO_IL, tyO_tup, itO_lst, itO_tup, itO_IL, Dw.rIxD, rLenI, rLenH, rLenTH, rLenQ, rLenB, rListI, Dw.rListS, rIntI, rIntB, rSumI, rIsiD, rIsX, tCallS, tMakeS, tMake, tMakeC, tMakeSC, tFld, sFld, HO.ins.injEq, HO.tup.injEq, cxOf_K, nox_K, tr_K, suite_K, rTupleI, rAllB, rAnyB, BL_inj, tChain, wOnly, wAs, wMany, rEqI, rNeI, Dw.rMax2, rMin2, Dw.rIsN, rIsNotN, rStrIn, rStrNotIn, not_true_eq_false, not_false_eq_true, reduceCtorEq, cl_bool, cl_int, cl_str, cl_list, cl_tuple, isB_NoneType_bool, isB_NoneType_int, isB_NoneType_str, isB_NoneType_list, isB_NoneType_tuple, isB_bool_bool, isB_bool_int, isB_bool_str, isB_bool_list, isB_bool_tuple, isB_int_bool, isB_int_int, isB_int_str, isB_int_list, isB_int_tuple, isB_str_bool, isB_str_int, isB_str_str, isB_str_list, isB_str_tuple, isB_list_bool, isB_list_int, isB_list_str, isB_list_list, isB_list_tuple, isB_tuple_bool, isB_tuple_int, isB_tuple_str, isB_tuple_list, isB_tuple_tuple, rSlCI, iRng3, iRev, gCons, gNil, iZip, iEnum, tLc_eq, tFor_eq, iRng1, iRng2, iList, iTup, rSetD, iKeys, tDNewK, Int.reducePow, Int.reduceNeg, iEz, tPar, tRevL, Dw.rSetL, Dw.rIxL, rIxE, iSeqA, iEnumT, wipe, tDGet]
      exact ⟨_, g, hq _ (Same.refl _)⟩
    rw [List.filter_eq_self.mpr (fun _ _ => rfl)] at e2
    have LD : L ≠ D := fun e => by subst e; rw [upd_same] at hL; cases hL
    have sG : Same H (upd H2 D (.dK (kvC ns))) := fun b o hb => by
      have bD := ne_of_none hb hD
      rw [upd_ne bD]
      exact s2 _ _ (by rw [upd_ne bD]; exact s1 _ _ hb)
    have eG : upd H2 D (.dK (kvC ns)) D = some (.dK (kvC ns)) := upd_same
    have eL : upd H2 D (.dK (kvC ns)) L = some (IL ((keysOf ns).map fun z => ((ns.count z : Nat) : Int))) := by
      rw [upd_ne LD, e2]
      unfold IL
      rw [List.map_map]
      rfl
    have hkp : 0 < (keysOf ns).length := by
      obtain ⟨z, r, rfl⟩ := List.exists_cons_of_length_pos hp
      exact List.length_pos_of_mem (mem_keysOf.mpr (List.mem_cons_self (a := z) (l := r)))
    refine ⟨s2 _ _ f1, L, _, rfl, .of eL, by rw [List.length_map]; exact hkp, fun m hm1 hm2 => ?_⟩
    generalize upd H2 D (.dK (kvC ns)) = G at sG eG eL ⊢
    have hmV : ∀ v, v = (if (topOf ns m).length = 1 then V.int ((topOf ns m).getD 0 0) else V.non) → mergedV ns v := fun v hv => by
      obtain ⟨z, hz, hzm⟩ := List.mem_map.mp hm1
      exact ⟨m, ⟨z, mem_keysOf.mp hz, hzm⟩, fun y hy => hm2 _ (List.mem_map.mpr ⟨y, mem_keysOf.mpr hy, rfl⟩), hv⟩
    refine ⟨D, _, eG, trivial, fun od2 => ?_⟩
    have f2 : upd G D (.frz od2 (.dK (kvC ns))) D = some (.frz od2 (.dK (kvC ns))) := upd_same
    try simp only [tSeq, tAsg, tVar, tC, tOp, rI0, rI, tUn, rU, tIfS, tTest, tRet, tRetN, tDrop, tCB, tCons, tNil, tLst, tLstI, tTup, gName, tB, tAnd, tOr, tNot, tAndV, tOrV, tNotV, tIf, tNext, tBreak, tCont, gSub, tCall, tCallN, tAug, ipI, tBML, tBML0, isL_IL, isL_lst, L2.start, List.map_cons, List.map_nil, List.length_cons, List.length_nil, List.cons_append, List.nil_append, List.getElem?_cons_succ, List.getElem?_cons_zero, Option.some.injEq, exists_eq_left', exists_eq_left, exists_and_left, V.int.injEq, V.ref.injEq, V.bl.injEq, V.str.injEq, List.set_cons_zero, List.set_cons_succ, List.cons.injEq, and_true, true_and, Nat.reduceAdd, Nat.reduceSub, List.replicate_succ, List.replicate_zero, rIxI, rIxH, rIxTH, rSetI, rSetH, rCatI, rRepI, rSlI, rAppendI, rExtendI, decide_eq_true_eq, upd_same, IL_inj, HO.lst.injEq, toInts_cons, toInts_nil, Option.map_some, if_true, if_false, Bool.true_eq_false, Bool.false_eq_true, Bool.not_true, Bool.not_false, Bool.not_eq_true', decide_eq_false_iff_not, atI_0, atI_1, atI_2, atI_3, atI_4, Int.reduceToNat, Int.reduceLT, Int.reduceLE, Int.reduceNeg, Int.reducePow, cast_lit, upd_upd, Int.reduceAdd, Int.reduceMul, Int.reduceSub, Nat.reduceLT, Nat.reduceLeDiff, cmul_r, cdiv_r, tSl, tPart, tNoPart, rEq, rNe, scal_nn, scal_ii, scal_bb, scal_ss, scal_is, scal_si, V.ty.injEq, and_assoc, tyH_non, tyH_bl, tyH_int, tyH_str, tyH_ref, tyO_lst, tyO_IL, tyO_tup, itO_lst, itO_tup, itO_IL, Dw.rIxD, rLenI, rLenH, rLenTH, rLenQ, rLenB, rListI, Dw.rListS, rIntI, rIntB, rSumI, rIsiD, rIsX, tCallS, tMakeS, tMake, tMakeC, tMakeSC, tFld, sFld, HO.ins.injEq, HO.tup.injEq, cxOf_K, nox_K, tr_K, suite_K, rTupleI, rAllB, rAnyB, BL_inj, tChain, wOnly, wAs, wMany, rEqI, rNeI, Dw.rMax2, rMin2, Dw.rIsN, rIsNotN, rStrIn, rStrNotIn, not_true_eq_false, not_false_eq_true, reduceCtorEq, cl_bool, cl_int, cl_str, cl_list, cl_tuple, isB_NoneType_bool, isB_NoneType_int, isB_NoneType_str, isB_NoneType_list, isB_NoneType_tuple, isB_bool_bool, isB_bool_int, isB_bool_str, isB_bool_list, isB_bool_tuple, isB_int_bool, isB_int_int, isB_int_str, isB_int_list, isB_int_tuple, isB_str_bool, isB_str_int, isB_str_str, isB_str_list, isB_str_tuple, isB_list_bool, isB_list_int, isB_list_str, isB_list_list, isB_list_tuple, isB_tuple_bool, isB_tuple_int, isB_tuple_str, isB_tuple_list, isB_tuple_tuple, rSlCI, iRng3, iRev, gCons, gNil, iZip, iEnum, tLc_eq, tFor_eq, iRng1, iRng2, iList, iTup, rSetD, iKeys, tDNewK, Int.reducePow, Int.reduceNeg, iEz, tPar, tRevL, Dw.rSetL, Dw.rIxL, rIxE, iSeqA, iEnumT, tDGet, tDGet2]
    refine ⟨od2, .inl ⟨_, rfl, fun bb2 hb2 => ?_⟩⟩
    refine lc_keys (ks := keysOf ns) (p := fun z => decide (((ns.count z : Nat) : Int) = m)) (g := V.int) (kvC_keys ns) (by omega) f2 hb2 (fun _ => rfl) ?_ ?_ fun H4 s4 e4 => ?_
    · intro z H3 Q' hz s3 hq
      have g : DGet H3 D (.int z) (some (.int ((ns.count z : Nat) : Int))) := .inl ⟨_, .inl z, .inr ⟨od2, s3 _ _ f2⟩, rfl, by rw [valV_kvC, if_pos (mem_keysOf.mp hz)]⟩
      try simp only [tSeq, tAsg, tVar, tC, tOp, rI0, rI, tUn, rU, tIfS, tTest, tRet, tRetN, tDrop, tCB, tCons, tNil, tLst, tLstI, tTup, gName, tB, tAnd, tOr, tNot, tAndV, tOrV, tNotV, tIf, tNext, tBreak, tCont, gSub, tCall, tCallN, tAug, ipI, tBML, tBML0, isL_IL, isL_lst, L2.start, List.map_cons, List.map_nil, List.length_cons, List.length_nil, List.cons_append, List.nil_append, List.getElem?_cons_succ, List.getElem?_cons_zero, Option.some.injEq, exists_eq_left', exists_eq_left, exists_and_left, V.int.injEq, V.ref.injEq, V.bl.injEq, V.str.injEq, List.set_cons_zero, List.set_cons_succ, List.cons.injEq, and_true, true_and, Nat.reduceAdd, Nat.reduceSub, List.replicate_succ, List.replicate_zero, rIxI, rIxH, rIxTH, rSetI, rSetH, rCatI, rRepI, rSlI, rAppendI, rExtendI, decide_eq_true_eq, upd_same, IL_inj, HO.lst.injEq, toInts_cons, toInts_nil, Option.map_some, if_true, if_false, Bool.true_eq_false, Bool.false_eq_true, Bool.not_true, Bool.not_false, Bool.not_eq_true', decide_eq_false_iff_not, atI_0, atI_1, atI_2, atI_3, atI_4, Int.reduceToNat, Int.reduceLT, Int.reduceLE, Int.reduceNeg, Int.reducePow, cast_lit, upd_upd, Int.reduceAdd, Int.reduceMul, Int.reduceSub, Nat.reduceLT, Nat.reduceLeDiff, cmul_r, cdiv_r, tSl, tPart, tNoPart, rEq, rNe, scal_nn, scal_ii, scal_bb, scal_ss, scal_is, scal_si, V.ty.injEq, and_assoc, tyH_non, tyH_bl, tyH_int, tyH_str, tyH_ref, tyO_lst, tyO_IL, tyO_tup, itO_lst, itO_tup, itO_IL, Dw.rIxD, rLenI, rLenH, rLenTH, rLenQ, rLenB, rListI, Dw.rListS, rIntI, rIntB, rSumI, rIsiD, rIsX, tCallS, tMakeS, tMake, tMakeC, tMakeSC, tFld, sFld, HO.ins.injEq, HO.tup.injEq, cxOf_K, nox_K, tr_K, suite_K, rTupleI, rAllB, rAnyB, BL_inj, tChain, wOnly, wAs, wMany, rEqI, rNeI, Dw.rMax2, rMin2, Dw.rIsN, rIsNotN, rStrIn, rStrNotIn, not_true_eq_false, not_false_eq_true, reduceCtorEq, cl_bool, cl_int, cl_str, cl_list, cl_tuple, isB_NoneType_bool, isB_NoneType_int, isB_NoneType_str, isB_NoneType_list, isB_NoneType_tuple, isB_bool_bool, isB_bool_int, isB_bool_str, isB_bool_list, isB_bool_tuple, isB_int_bool, isB_int_int, isB_int_str, isB_int_list, isB_int_tuple, isB_str_bool, isB_str_int, isB_str_str, isB_str_list, isB_str_tuple, isB_list_bool, isB_list_int, isB_list_str, isB_list_list, isB_list_tuple, isB_tuple_bool, isB_tuple_int, isB_tuple_str, isB_tuple_list, isB_tuple_tuple, rSlCI, iRng3, iRev, gCons, gNil, iZip, iEnum, tLc_eq, tFor_eq, iRng1, iRng2, iList, iTup, rSetD, iKeys, tDNewK, Int.reducePow, Int.reduceNeg, iEz, tPar, tRevL, Dw.rSetL, Dw.rIxL, rIxE, iSeqA, iEnumT, wipe, tDGet]
      have ed : decide (V.int ((ns.count z : Nat) : Int) = V.int m) = decide (((ns.count z : Nat) : Int) = m) := decide_eq_decide.mpr ⟨fun h => V.int.inj h, fun h => by rw [h]⟩
      refine ⟨_, g, rfl, ?_⟩
      rw [ed]
      exact hq _ (Same.refl _)
    · intro z H3 Q' hz s3 hq
      try simp only [tSeq, tAsg, tVar, tC, tOp, rI0, rI, tUn, rU, tIfS, tTest, tRet, tRetN, tDrop, tCB, tCons, tNil, tLst, tLstI, tTup, gName, tB, tAnd, tOr, tNot, tAndV, tOrV, tNotV, tIf, tNext, tBreak, tCont, gSub, tCall, tCallN, tAug, ipI, tBML, tBML0, isL_IL, isL_lst, L2.start, List.map_cons, List.map_nil, List.length_cons, List.length_nil, List.cons_append, List.nil_append, List.getElem?_cons_succ, List.getElem?_cons_zero, Option.some.injEq, exists_eq_left', exists_eq_left, exists_and_left, V.int.injEq, V.ref.injEq, V.bl.injEq, V.str.injEq, List.set_cons_zero, List.set_cons_succ, List.cons.injEq, and_true, true_and, Nat.reduceAdd, Nat.reduceSub, List.replicate_succ, List.replicate_zero, rIxI, rIxH, rIxTH, rSetI, rSetH, rCatI, rRepI, rSlI, rAppendI, rExtendI, decide_eq_true_eq, upd_same, IL_inj, HO.lst.injEq, toInts_cons, toInts_nil, Option.map_some, if_true, if_false, Bool.true_eq_false, Bool.false_eq_true, Bool.not_true, Bool.not_false, Bool.not_eq_true', decide_eq_false_iff_not, atI_0, atI_1, atI_2, atI_3, atI_4, Int.reduceToNat, Int.reduceLT, Int.reduceLE, Int.reduceNeg, Int.reducePow, cast_lit, upd_upd, Int.reduceAdd, Int.reduceMul, Int.reduceSub, Nat.reduceLT, Nat.reduceLeDiff, cmul_r, cdiv_r, tSl, tPart, tNoPart, rEq, rNe, scal_nn, scal_ii, scal_bb, scal_ss, scal_is, scal_si, V.ty.injEq, and_assoc, tyH_non, tyH_bl, tyH_int, tyH_str, tyH_ref, tyO_lst, tyO_IL, tyO_tup, itO_lst, itO_tup, itO_IL, Dw.rIxD, rLenI, rLenH, rLenTH, rLenQ, rLenB, rListI, Dw.rListS, rIntI, rIntB, rSumI, rIsiD, rIsX, tCallS, tMakeS, tMake, tMakeC, tMakeSC, tFld, sFld, HO.ins.injEq, HO.tup.injEq, cxOf_K, nox_K, tr_K, suite_K, rTupleI, rAllB, rAnyB, BL_inj, tChain, wOnly, wAs, wMany, rEqI, rNeI, Dw.rMax2, rMin2, Dw.rIsN, rIsNotN, rStrIn, rStrNotIn, not_true_eq_false, not_false_eq_true, reduceCtorEq, cl_bool, cl_int, cl_str, cl_list, cl_tuple, isB_NoneType_bool, isB_NoneType_int, isB_NoneType_str, isB_NoneType_list, isB_NoneType_tuple, isB_bool_bool, isB_bool_int, isB_bool_str, isB_bool_list, isB_bool_tuple, isB_int_bool, isB_int_int, isB_int_str, isB_int_list, isB_int_tuple, isB_str_bool, isB_str_int, isB_str_str, isB_str_list, isB_str_tuple, isB_list_bool, isB_list_int, isB_list_str, isB_list_list, isB_list_tuple, isB_tuple_bool, isB_tuple_int, isB_tuple_str, isB_tuple_list, isB_tuple_tuple, rSlCI, iRng3, iRev, gCons, gNil, iZip, iEnum, tLc_eq, tFor_eq, iRng1, iRng2, iList, iTup, rSetD, iKeys, tDNewK, Int.reducePow, Int.reduceNeg, iEz, tPar, tRevL, Dw.rSetL, Dw.rIxL, rIxE, iSeqA, iEnumT, wipe, tDGet]
      exact hq _ (Same.refl _)
    have bb2D : bb2 ≠ D := fun e => by subst e; rw [upd_same] at hb2; cases hb2
    have sG2 : Same H (upd H4 D (.dK (kvC ns))) := fun b o hb => by
      have bD := ne_of_none hb hD
      rw [upd_ne bD]
      exact s4 _ _ (by rw [upd_ne bD]; exact sG _ _ hb)
    have e5 : upd H4 D (.dK (kvC ns)) bb2 = some (IL (topOf ns m)) := by
      rw [upd_ne bb2D, e4]
      rfl
    refine ⟨s4 _ _ f2, ?_⟩
    generalize upd H4 D (.dK (kvC ns)) = G2 at sG2 e5 ⊢
    try simp only [tSeq, tAsg, tVar, tC, tOp, rI0, rI, tUn, rU, tIfS, tTest, tRet, tRetN, tDrop, tCB, tCons, tNil, tLst, tLstI, tTup, gName, tB, tAnd, tOr, tNot, tAndV, tOrV, tNotV, tIf, tNext, tBreak, tCont, gSub, tCall, tCallN, tAug, ipI, tBML, tBML0, isL_IL, isL_lst, L2.start, List.map_cons, List.map_nil, List.length_cons, List.length_nil, List.cons_append, List.nil_append, List.getElem?_cons_succ, List.getElem?_cons_zero, Option.some.injEq, exists_eq_left', exists_eq_left, exists_and_left, V.int.injEq, V.ref.injEq, V.bl.injEq, V.str.injEq, List.set_cons_zero, List.set_cons_succ, List.cons.injEq, and_true, true_and, Nat.reduceAdd, Nat.reduceSub, List.replicate_succ, List.replicate_zero, rIxI, rIxH, rIxTH, rSetI, rSetH, rCatI, rRepI, rSlI, rAppendI, rExtendI, decide_eq_true_eq, upd_same, IL_inj, HO.lst.injEq, toInts_cons, toInts_nil, Option.map_some, if_true, if_false, Bool.true_eq_false, Bool.false_eq_true, Bool.not_true, Bool.not_false, Bool.not_eq_true', decide_eq_false_iff_not, atI_0, atI_1, atI_2, atI_3, atI_4, Int.reduceToNat, Int.reduceLT, Int.reduceLE, Int.reduceNeg, Int.reducePow, cast_lit, upd_upd, Int.reduceAdd, Int.reduceMul, Int.reduceSub, Nat.reduceLT, Nat.reduceLeDiff, cmul_r, cdiv_r, tSl, tPart, tNoPart, rEq, rNe, scal_nn, scal_ii, scal_bb, scal_ss, scal_is, scal_si, V.ty.injEq, and_assoc, tyH_non, tyH_bl, tyH_int, tyH_str, tyH_ref, tyO_lst, tyO_IL, tyO_tup, itO_lst, itO_tup, itO_IL, Dw.rIxD, rLenI, rLenH, rLenTH, rLenQ, rLenB, rListI, Dw.rListS, rIntI, rIntB, rSumI, rIsiD, rIsX, tCallS, tMakeS, tMake, tMakeC, tMakeSC, tFld, sFld, HO.ins.injEq, HO.tup.injEq, cxOf_K, nox_K, tr_K, suite_K, rTupleI, rAllB, rAnyB, BL_inj, tChain, wOnly, wAs, wMany, rEqI, rNeI, Dw.rMax2, rMin2, Dw.rIsN, rIsNotN, rStrIn, rStrNotIn, not_true_eq_false, not_false_eq_true, reduceCtorEq, cl_bool, cl_int, cl_str, cl_list, cl_tuple, isB_NoneType_bool, isB_NoneType_int, isB_NoneType_str, isB_NoneType_list, isB_NoneType_tuple, isB_bool_bool, isB_bool_int, isB_bool_str, isB_bool_list, isB_bool_tuple, isB_int_bool, isB_int_int, isB_int_str, isB_int_list, isB_int_tuple, isB_str_bool, isB_str_int, isB_str_str, isB_str_list, isB_str_tuple, isB_list_bool, isB_list_int, isB_list_str, isB_list_list, isB_list_tuple, isB_tuple_bool, isB_tuple_int, isB_tuple_str, isB_tuple_list, isB_tuple_tuple, rSlCI, iRng3, iRev, gCons, gNil, iZip, iEnum, tLc_eq, tFor_eq, iRng1, iRng2, iList, iTup, rSetD, iKeys, tDNewK, Int.reducePow, Int.reduceNeg, iEz, tPar, tRevL, Dw.rSetL, Dw.rIxL, rIxE, iSeqA, iEnumT, e5]
    by_cases c : (topOf ns m).length = 1
    · rw [if_pos (by omega)]
      exact ⟨by omega, k _ _ (hmV _ (by rw [if_pos c])) sG2⟩
    · rw [if_neg (by omega)]
      exact k _ _ (hmV _ (by rw [if_neg c])) sG2
end
section
variable {P : Program} {w : World} {K : PySem.W.Frag} {mg : Str → Option Value} {base : Heap} {A : Ad}
def width (rs : List (List Int)) : Nat := (rs.getD 0 []).length
def Even (rs : List (List Int)) : Prop := 0 < rs.length ∧ ∀ r ∈ rs, r.length = width rs
def colOf (rs : List (List Int)) (j : Nat) : List Int := rs.map fun r => r.getD j 0
def spMerged (CE : Addr) : Sp := fun vs H Q E => ∃ (p : Addr) (rs : List (List Int)), vs = [.ref p] ∧ RowsAt H p rs ∧ rs.length ≤ 1000 ∧ (∀ r ∈ rs, r.length ≤ 1000) ∧
  (Even rs → ∀ D vs H', Same H H' → H D = none → H' D = some (.lst vs) → vs.length = width rs → (∀ (j : Nat) v, vs[j]? = some v → mergedV (colOf rs j) v) → Q (.ref D) H') ∧ (¬ Even rs → ∀ H', Same H H' → E (.ref CE) none H')
theorem ok_merged (T : Tx K mg A) : FnOk P w K mg base (L2.CX P w) 2 A.f_merged A.d_merged ["dumps"] (spMerged A.c_InvalidDump) := by
  refine T.F_merged.okX sc_merged (fun vs H Q E h => ?_) (fun cdv A' outer s H vs Q E hr h => ?_)
  · obtain ⟨p, rs, rfl, _⟩ := h
    rfl
  obtain ⟨p, rs, rfl, hR, hn, hb, k1, k2⟩ := h
  have hR' := hR
  obtain ⟨as, hp, hl, ha⟩ := hR'
  refine ⟨_, (pss_cons (ps_if (PW.pt (pw_or (pt_not (pt_truth (pv 0) (by intro _; rfl))) (pw_or1 (pt_not (pt_val (pe_callB (cr_allB rfl) (by rfl) T.z_all (by decide +kernel) (pa_cons (pe_lc (own := [("dump", 1)]) (g := (gName 1)) (tt := tYes) rfl sc_merged.nd (pi_list (pv 0)) (blkOk_by (N := n_merged) (sc := (defScope s_merged)) (by decide +kernel)) (fun _ _ _ _ _ => (pg_name (i := 1) sc_merged.nd rfl (Or.inl rfl))) (fun _ _ _ _ _ => pts_nil) (fun _ _ _ _ _ => (pe_cmpR op_eq (pe_callB call_lenI (by rfl) T.z_len (by decide +kernel) (pa_cons (pv 1) pa_nil)) (pe_callB call_lenI (by rfl) T.z_len (by decide +kernel) (pa_cons (pe_ix ix_listH (pv 0) pe_int (fun _ _ => rfl)) pa_nil)) (nomark _)))) pa_nil))))))) (pss_one (ps_raise rfl (takes_of rfl rfl rfl rfl) (pmk_own PySem.F.excBase_ValueError T.x_InvalidDump.x T.x_InvalidDump.g T.x_InvalidDump.k (raises_own T.x_InvalidDump.b T.x_InvalidDump.t) rfl))) pss_nil)
      (pss_one (ps_ret (pe_lc (own := [("at", 2)]) (g := (gName 2)) (tt := tYes) rfl sc_merged.nd (pi_range1 rfl T.z_range (pa_cons (pe_callB call_lenI (by rfl) T.z_len (by decide +kernel) (pa_cons (pe_ix ix_listH (pv 0) pe_int (fun _ _ => rfl)) pa_nil)) pa_nil)) (blkOk_by (N := n_merged) (sc := (defScope s_merged)) (by decide +kernel)) (fun _ _ _ _ _ => (pg_name (i := 2) sc_merged.nd rfl (Or.inr rfl))) (fun _ _ _ _ _ => pts_nil) (fun _ _ _ _ _ => (pe_call (ok_merged_byte T) (hr.mono (by decide)) rfl T.g_merged_byte T.F_merged_byte.kp T.b_merged_byte .nil pass0 (pa_cons (pe_lc (own := [("dump", 1)]) (wi := iList K (tVar 0)) (g := (gName 1)) (tt := tYes) rfl sc_merged.nd (pi_list (pv 0)) (blkOk_by (N := n_merged) (sc := sco_58_11) (by decide +kernel)) (fun _ _ _ _ _ => (pg_name (i := 1) sc_merged.nd rfl (Or.inl rfl))) (fun _ _ _ _ _ => pts_nil) (fun _ _ _ _ _ => (pe_ix ix_listI (pv 1) (pv 2) (fun _ _ => rfl)))) pa_nil))))))), ?_⟩
  try simp only [tSeq, tAsg, tVar, tC, tOp, rI0, rI, tUn, rU, tIfS, tTest, tRet, tRetN, tDrop, tCB, tCons, tNil, tLst, tLstI, tTup, gName, tB, tAnd, tOr, tNot, tAndV, tOrV, tNotV, tIf, tNext, tBreak, tCont, gSub, tCall, tCallN, tAug, ipI, tBML, tBML0, isL_IL, isL_lst, L2.start, List.map_cons, List.map_nil, List.length_cons, List.length_nil, List.cons_append, List.nil_append, List.getElem?_cons_succ, List.getElem?_cons_zero, Option.some.injEq, exists_eq_left', exists_eq_left, exists_and_left, V.int.injEq, V.ref.injEq, V.bl.injEq, V.str.injEq, List.set_cons_zero, List.set_cons_succ, List.cons.injEq, and_true, true_and, Nat.reduceAdd, Nat.reduceSub, List.replicate_succ, List.replicate_zero, rIxI, rIxH, rIxTH, rSetI, rSetH, rCatI, rRepI, rSlI, rAppendI, rExtendI, decide_eq_true_eq, upd_same, IL_inj, HO.lst.injEq, toInts_cons, toInts_nil, Option.map_some, if_true, if_false, Bool.true_eq_false, Bool.false_eq_true, Bool.not_true, Bool.not_false, Bool.not_eq_true', decide_eq_false_iff_not, atI_0, atI_1, atI_2, atI_3, atI_4, Int.reduceToNat, Int.reduceLT, Int.reduceLE, Int.reduceNeg, Int.reducePow, cast_lit, upd_upd, Int.reduceAdd, Int.reduceMul, Int.reduceSub, Nat.reduceLT, Nat.reduceLeDiff, cmul_r, cdiv_r, tSl, tPart, tNoPart, rEq, rNe, scal_nn, scal_ii, scal_bb, scal_ss, scal_is, scal_si, V.ty.injEq, and_assoc, tyH_non, tyH_bl, tyH_int, tyH_str, tyH_ref, tyO_lst, tyO_IL, tyO_tup, itO_lst, itO_tup, itO_IL, Dw.rIxD, rLenI, rLenH, rLenTH, rLenQ, rLenB, rListI, Dw.rListS, rIntI, rIntB, rSumI, rIsiD, rIsX, tCallS, tMakeS, tMake, tMakeC, tMakeSC, tFld, sFld, HO.ins.injEq, HO.tup.injEq, cxOf_K, nox_K, tr_K, suite_K, rTupleI, rAllB, rAnyB, BL_inj, tChain, wOnly, wAs, wMany, rEqI, rNeI, Dw.rMax2, rMin2, Dw.rIsN, rIsNotN, rStrIn, rStrNotIn, not_true_eq_false, not_false_eq_true, reduceCtorEq, cl_bool, cl_int, cl_str, cl_list, cl_tuple, isB_NoneType_bool, isB_NoneType_int, isB_NoneType_str, isB_NoneType_list, isB_NoneType_tuple, isB_bool_bool, isB_bool_int, isB_bool_str, isB_bool_list, isB_bool_tuple, isB_int_bool, isB_int_int, isB_int_str, isB_int_list, isB_int_tuple, isB_str_bool, isB_str_int, isB_str_str, isB_str_list, isB_str_tuple, isB_list_bool, isB_list_int, isB_list_str, isB_list_list, isB_list_tuple, isB_tuple_bool, isB_tuple_int, isB_tuple_str, isB_tuple_list, isB_tuple_tuple, rSlCI, iRng3, iRev, gCons, gNil, iZip, iEnum, tLc_eq, tFor_eq, iRng1, iRng2, iList, iTup, rSetD, iKeys, tDNewK, Int.reducePow, Int.reduceNeg, iEz, tPar, tRevL, Dw.rSetL, Dw.rIxL, rIxE, iSeqA, iEnumT, hp]
  refine ⟨!(as.map V.ref).isEmpty, .inl ⟨_, .of hp, rfl⟩, ?_⟩
  by_cases hz : rs.length = 0
  · have e : as = [] := List.eq_nil_of_length_eq_zero (by omega)
    subst e
    exact k2 (fun h => by have := h.1; omega) H (Same.refl _)
  have e : (!(as.map V.ref).isEmpty) = true := by
    cases as with
    | nil => exact absurd hl.symm hz
    | cons _ _ => rfl
  rw [e, if_neg (by decide)]
  have ha0 := ha 0 (as[0]'(by omega)) (List.getElem?_eq_getElem (by omega))
  have hp0 : (as.map V.ref)[0]? = some (.ref (as[0]'(by omega))) := by rw [List.getElem?_map, List.getElem?_eq_getElem (by omega)]; rfl
  refine ⟨⟨_, .of hp⟩, fun D hD => ?_⟩
  refine lc_listV (K := K) (a := p) (xs := as.map V.ref) (f := fun i => V.bl (decide (((rs.getD i []).length : Int) = ((rs.getD 0 []).length : Int)))) (by rw [List.length_map]; omega) (.of hp) hD (fun _ => rfl) ?_ fun H1 s1 e1 => ?_
  · intro i x H3 Q' hx s1 hq
    obtain ⟨a, hai, rfl⟩ := refs_at hx
    have e3 := s1 _ _ (ha i a hai)
    have e0 := s1 _ _ ha0
    have e4 := s1 _ _ hp
    try simp only [tSeq, tAsg, tVar, tC, tOp, rI0, rI, tUn, rU, tIfS, tTest, tRet, tRetN, tDrop, tCB, tCons, tNil, tLst, tLstI, tTup, gName, tB, tAnd, tOr, tNot, tAndV, tOrV, tNotV, tIf, tNext, tBreak, tCont, gSub, tCall, tCallN, tAug, ipI, tBML, tBML0, isL_IL, isL_lst, L2.start, List.map_cons, List.map_nil, List.length_cons, List.length_nil, List.cons_append, List.nil_append, List.getElem?_cons_succ, List.getElem?_cons_zero, Option.some.injEq, exists_eq_left', exists_eq_left, exists_and_left, V.int.injEq, V.ref.injEq, V.bl.injEq, V.str.injEq, List.set_cons_zero, List.set_cons_succ, List.cons.injEq, and_true, true_and, Nat.reduceAdd, Nat.reduceSub, List.replicate_succ, List.replicate_zero, rIxI, rIxH, rIxTH, rSetI, rSetH, rCatI, rRepI, rSlI, rAppendI, rExtendI, decide_eq_true_eq, upd_same, IL_inj, HO.lst.injEq, toInts_cons, toInts_nil, Option.map_some, if_true, if_false, Bool.true_eq_false, Bool.false_eq_true, Bool.not_true, Bool.not_false, Bool.not_eq_true', decide_eq_false_iff_not, atI_0, atI_1, atI_2, atI_3, atI_4, Int.reduceToNat, Int.reduceLT, Int.reduceLE, Int.reduceNeg, Int.reducePow, cast_lit, upd_upd, Int.reduceAdd, Int.reduceMul, Int.reduceSub, Nat.reduceLT, Nat.reduceLeDiff, cmul_r, cdiv_r, tSl, tPart, tNoPart, rEq, rNe, scal_nn, scal_ii, scal_bb, scal_ss, scal_is, scal_si, V.ty.injEq, and_assoc, tyH_non, tyH_bl, tyH_int, tyH_str, tyH_ref, tyO_lst, tyO_IL, tyO_tup, itO_lst, itO_tup, itO_IL, Dw.rIxD, rLenI, rLenH, rLenTH, rLenQ, rLenB, rListI, Dw.rListS, rIntI, rIntB, rSumI, rIsiD, rIsX, tCallS, tMakeS, tMake, tMakeC, tMakeSC, tFld, sFld, HO.ins.injEq, HO.tup.injEq, cxOf_K, nox_K, tr_K, suite_K, rTupleI, rAllB, rAnyB, BL_inj, tChain, wOnly, wAs, wMany, rEqI, rNeI, Dw.rMax2, rMin2, Dw.rIsN, rIsNotN, rStrIn, rStrNotIn, not_true_eq_false, not_false_eq_true, reduceCtorEq, cl_bool, cl_int, cl_str, cl_list, cl_tuple, isB_NoneType_bool, isB_NoneType_int, isB_NoneType_str, isB_NoneType_list, isB_NoneType_tuple, isB_bool_bool, isB_bool_int, isB_bool_str, isB_bool_list, isB_bool_tuple, isB_int_bool, isB_int_int, isB_int_str, isB_int_list, isB_int_tuple, isB_str_bool, isB_str_int, isB_str_str, isB_str_list, isB_str_tuple, isB_list_bool, isB_list_int, isB_list_str, isB_list_list, isB_list_tuple, isB_tuple_bool, isB_tuple_int, isB_tuple_str, isB_tuple_list, isB_tuple_tuple, rSlCI, iRng3, iRev, gCons, gNil, iZip, iEnum, tLc_eq, tFor_eq, iRng1, iRng2, iList, iTup, rSetD, iKeys, tDNewK, Int.reducePow, Int.reduceNeg, iEz, tPar, tRevL, Dw.rSetL, Dw.rIxL, rIxE, iSeqA, iEnumT, wipe, e3, e4, hp0, e0]
    exact hq _ (Same.refl _)
  have e2 := BL_of e1
  refine ⟨_, e2, ?_⟩
  have f1 := s1 _ _ hp
  have f0 := s1 _ _ ha0
  have hall : ((List.range (as.map V.ref).length).map fun i => decide (((rs.getD i []).length : Int) = ((rs.getD 0 []).length : Int))).all id = true ↔ Even rs := by
    rw [List.all_eq_true]
    constructor
    · intro h
      refine ⟨by omega, fun r hr => ?_⟩
      obtain ⟨i, hi, rfl⟩ := List.mem_iff_getElem.mp hr
      have h2 := h _ (List.mem_map.mpr ⟨i, List.mem_range.mpr (by rw [List.length_map, hl]; exact hi), rfl⟩)
      have h3 := of_decide_eq_true h2
      rw [List.getD_eq_getElem?_getD, List.getElem?_eq_getElem hi] at h3
      unfold width
      exact Int.ofNat_inj.mp h3
    · intro h b hb
      obtain ⟨i, hi, rfl⟩ := List.mem_map.mp hb
      rw [List.mem_range, List.length_map, hl] at hi
      refine decide_eq_true ?_
      have := h.2 (rs.getD i []) (by rw [List.getD_eq_getElem?_getD, List.getElem?_eq_getElem hi]; exact List.getElem_mem hi)
      unfold width at this
      rw [this]
  by_cases hE : Even rs
  · rw [if_neg (by rw [hall.mpr hE]; decide)]
    have hw : (rs.getD 0 []).length ≤ 1000 := hb _ (by rw [List.getD_eq_getElem?_getD, List.getElem?_eq_getElem (by omega)]; exact List.getElem_mem _)
    refine ⟨_, f1, _, hp0, _, rfl, _, f0, by omega, by omega, fun D2 hD2 => ?_⟩
    refine lc_rangeR (lo := 0) (n := ((rs.getD 0 []).length : Int).toNat) (R := fun j v => mergedV (colOf rs j) v) (by omega) hD2 (fun _ => rfl) ?_ fun xs H5 s5 e5 l5 r5 => ?_
    · intro j H3 Q' hj s3 hq
      have g1 := s3 _ _ f1
      try simp only [tSeq, tAsg, tVar, tC, tOp, rI0, rI, tUn, rU, tIfS, tTest, tRet, tRetN, tDrop, tCB, tCons, tNil, tLst, tLstI, tTup, gName, tB, tAnd, tOr, tNot, tAndV, tOrV, tNotV, tIf, tNext, tBreak, tCont, gSub, tCall, tCallN, tAug, ipI, tBML, tBML0, isL_IL, isL_lst, L2.start, List.map_cons, List.map_nil, List.length_cons, List.length_nil, List.cons_append, List.nil_append, List.getElem?_cons_succ, List.getElem?_cons_zero, Option.some.injEq, exists_eq_left', exists_eq_left, exists_and_left, V.int.injEq, V.ref.injEq, V.bl.injEq, V.str.injEq, List.set_cons_zero, List.set_cons_succ, List.cons.injEq, and_true, true_and, Nat.reduceAdd, Nat.reduceSub, List.replicate_succ, List.replicate_zero, rIxI, rIxH, rIxTH, rSetI, rSetH, rCatI, rRepI, rSlI, rAppendI, rExtendI, decide_eq_true_eq, upd_same, IL_inj, HO.lst.injEq, toInts_cons, toInts_nil, Option.map_some, if_true, if_false, Bool.true_eq_false, Bool.false_eq_true, Bool.not_true, Bool.not_false, Bool.not_eq_true', decide_eq_false_iff_not, atI_0, atI_1, atI_2, atI_3, atI_4, Int.reduceToNat, Int.reduceLT, Int.reduceLE, Int.reduceNeg, Int.reducePow, cast_lit, upd_upd, Int.reduceAdd, Int.reduceMul, Int.reduceSub, Nat.reduceLT, Nat.reduceLeDiff, cmul_r, cdiv_r, tSl, tPart, tNoPart, rEq, rNe, scal_nn, scal_ii, scal_bb, scal_ss, scal_is, scal_si, V.ty.injEq, and_assoc, tyH_non, tyH_bl, tyH_int, tyH_str, tyH_ref, tyO_lst, tyO_IL, tyO_tup, itO_lst, itO_tup, itO_IL, Dw.rIxD, rLenI, rLenH, rLenTH, rLenQ, rLenB, rListI, Dw.rListS, rIntI, rIntB, rSumI, rIsiD, rIsX, tCallS, tMakeS, tMake, tMakeC, tMakeSC, tFld, sFld, HO.ins.injEq, HO.tup.injEq, cxOf_K, nox_K, tr_K, suite_K, rTupleI, rAllB, rAnyB, BL_inj, tChain, wOnly, wAs, wMany, rEqI, rNeI, Dw.rMax2, rMin2, Dw.rIsN, rIsNotN, rStrIn, rStrNotIn, not_true_eq_false, not_false_eq_true, reduceCtorEq, cl_bool, cl_int, cl_str, cl_list, cl_tuple, isB_NoneType_bool, isB_NoneType_int, isB_NoneType_str, isB_NoneType_list, isB_NoneType_tuple, isB_bool_bool, isB_bool_int, isB_bool_str, isB_bool_list, isB_bool_tuple, isB_int_bool, isB_int_int, isB_int_str, isB_int_list, isB_int_tuple, isB_str_bool, isB_str_int, isB_str_str, isB_str_list, isB_str_tuple, isB_list_bool, isB_list_int, isB_list_str, isB_list_list, isB_list_tuple, isB_tuple_bool, isB_tuple_int, isB_tuple_str, isB_tuple_list, isB_tuple_tuple, rSlCI, iRng3, iRev, gCons, gNil, iZip, iEnum, tLc_eq, tFor_eq, iRng1, iRng2, iList, iTup, rSetD, iKeys, tDNewK, Int.reducePow, Int.reduceNeg, iEz, tPar, tRevL, Dw.rSetL, Dw.rIxL, rIxE, iSeqA, iEnumT, wipe]
      refine ⟨⟨_, .of g1⟩, fun D3 hD3 => ?_⟩
      refine lc_listI (K := K) (a := p) (xs := as.map V.ref) (f := fun i => (rs.getD i []).getD j 0) (by rw [List.length_map]; omega) (.of g1) hD3 (fun _ => rfl) ?_ fun H6 s6 e6 => ?_
      · intro i x H7 Q2 hx s7 hq2
        obtain ⟨a, hai, rfl⟩ := refs_at hx
        have e7 := s7 _ _ (s3 _ _ (s1 _ _ (ha i a hai)))
        have hil := (List.getElem?_eq_some_iff.mp hai).1
        have hri := hE.2 (rs.getD i []) (by rw [List.getD_eq_getElem?_getD, List.getElem?_eq_getElem (by omega)]; exact List.getElem_mem (by omega))
        unfold width at hri
        have ej : (0 : Int) + (j : Int) = (j : Int) := by omega
        try simp only [tSeq, tAsg, tVar, tC, tOp, rI0, rI, tUn, rU, tIfS, tTest, tRet, tRetN, tDrop, tCB, tCons, tNil, tLst, tLstI, tTup, gName, tB, tAnd, tOr, tNot, tAndV, tOrV, tNotV, tIf, tNext, tBreak, tCont, gSub, tCall, tCallN, tAug, ipI, tBML, tBML0, isL_IL, isL_lst, L2.start, List.map_cons, List.map_nil, List.length_cons, List.length_nil, List.cons_append, List.nil_append, List.getElem?_cons_succ, List.getElem?_cons_zero, Option.some.injEq, exists_eq_left', exists_eq_left, exists_and_left, V.int.injEq, V.ref.injEq, V.bl.injEq, V.str.injEq, List.set_cons_zero, List.set_cons_succ, List.cons.injEq, and_true, true_and, Nat.reduceAdd, Nat.reduceSub, List.replicate_succ, List.replicate_zero, rIxI, rIxH, rIxTH, rSetI, rSetH, rCatI, rRepI, rSlI, rAppendI, rExtendI, decide_eq_true_eq, upd_same, IL_inj, HO.lst.injEq, toInts_cons, toInts_nil, Option.map_some, if_true, if_false, Bool.true_eq_false, Bool.false_eq_true, Bool.not_true, Bool.not_false, Bool.not_eq_true', decide_eq_false_iff_not, atI_0, atI_1, atI_2, atI_3, atI_4, Int.reduceToNat, Int.reduceLT, Int.reduceLE, Int.reduceNeg, Int.reducePow, cast_lit, upd_upd, Int.reduceAdd, Int.reduceMul, Int.reduceSub, Nat.reduceLT, Nat.reduceLeDiff, cmul_r, cdiv_r, tSl, tPart, tNoPart, rEq, rNe, scal_nn, scal_ii, scal_bb, scal_ss, scal_is, scal_si, V.ty.injEq, and_assoc, tyH_non, tyH_bl, tyH_int, tyH_str, tyH_ref, tyO_lst, tyO_IL, tyO_tup, itO_lst, itO_tup, itO_IL, Dw.rIxD, rLenI, rLenH, rLenTH, rLenQ, rLenB, rListI, Dw.rListS, rIntI, rIntB, rSumI, rIsiD, rIsX, tCallS, tMakeS, tMake, tMakeC, tMakeSC, tFld, sFld, HO.ins.injEq, HO.tup.injEq, cxOf_K, nox_K, tr_K, suite_K, rTupleI, rAllB, rAnyB, BL_inj, tChain, wOnly, wAs, wMany, rEqI, rNeI, Dw.rMax2, rMin2, Dw.rIsN, rIsNotN, rStrIn, rStrNotIn, not_true_eq_false, not_false_eq_true, reduceCtorEq, cl_bool, cl_int, cl_str, cl_list, cl_tuple, isB_NoneType_bool, isB_NoneType_int, isB_NoneType_str, isB_NoneType_list, isB_NoneType_tuple, isB_bool_bool, isB_bool_int, isB_bool_str, isB_bool_list, isB_bool_tuple, isB_int_bool, isB_int_int, isB_int_str, isB_int_list, isB_int_tuple, isB_str_bool, isB_str_int, isB_str_str, isB_str_list, isB_str_tuple, isB_list_bool, isB_list_int, isB_list_str, isB_list_list, isB_list_tuple, isB_tuple_bool, isB_tuple_int, isB_tuple_str, isB_tuple_list, isB_tuple_tuple, rSlCI, iRng3, iRev, gCons, gNil, iZip, iEnum, tLc_eq, tFor_eq, iRng1, iRng2, iList, iTup, rSetD, iKeys, tDNewK, Int.reducePow, Int.reduceNeg, iEz, tPar, tRevL, Dw.rSetL, Dw.rIxL, rIxE, iSeqA, iEnumT, wipe, e7, ej, Int.toNat_natCast]
        exact ⟨by omega, by omega, hq2 _ (Same.refl _)⟩
      have ec : (List.range (as.map V.ref).length).map (fun i => (rs.getD i []).getD j 0) = colOf rs j := by
        unfold colOf
        apply List.ext_getElem
        · simp [hl]
        · intro i h1 h2
          rw [List.length_map] at h2
          simp [List.getD_eq_getElem?_getD, List.getElem?_eq_getElem h2]
      rw [ec] at e6
      have hcl : (colOf rs j).length = rs.length := List.length_map _
      exact ⟨D3, _, rfl, e6, by omega, by omega, fun v H8 hv s8 => hq v H8 hv (s6.trans s8)⟩
    · exact k1 hE D2 xs H5 (s1.trans s5) (same_none s1 hD2) e5 (by unfold width; omega) r5
  · have hf : ((List.range (as.map V.ref).length).map fun i => decide (((rs.getD i []).length : Int) = ((rs.getD 0 []).length : Int))).all id = false := by
      cases c : ((List.range (as.map V.ref).length).map fun i => decide (((rs.getD i []).length : Int) = ((rs.getD 0 []).length : Int))).all id with
      | false => rfl
      | true => exact absurd (hall.mp c) hE
    rw [if_pos hf]
    exact k2 hE _ s1
end
section
variable {P : Program} {w : World} {K : PySem.W.Frag} {mg : Str → Option Value} {base : Heap} {A : Ad}
def spDoubled : Sp := fun vs H Q _ => ∃ n : Nat, vs = [.int n] ∧ n < 65536 ∧ Q (.int ((stepB n 0 : Nat) : Int)) H
theorem ok_doubled (T : Tx K mg A) : FnOk P w K mg base CX0 2 A.f_doubled A.d_doubled ["number"] spDoubled := by
  refine T.F_doubled.ok sc_doubled (fun vs H Q E h => ?_) (fun cdv A' outer s H vs Q E hr h => ?_)
  · obtain ⟨n, rfl, _⟩ := h
    rfl
  obtain ⟨n, rfl, hn, k⟩ := h
  refine ⟨_, (pss_one (ps_ret (pe_call (ok_exclusive T) (hr.mono (by decide)) rfl T.g_exclusive T.F_exclusive.kp T.b_exclusive .nil pass0 (pa_cons (pe_op op_mod (pe_op op_mul pe_int (pv 0)) pe_int) (pa_cons (pe_ifExp (pt_cmpR op_ge (pv 0) pe_int (nomark _)) (pe_glob rfl T.c_POLYNOMIAL T.r_POLYNOMIAL) pe_int) pa_nil))))), ?_⟩
  try simp only [tSeq, tAsg, tVar, tC, tOp, rI0, rI, tUn, rU, tIfS, tTest, tRet, tRetN, tDrop, tCB, tCons, tNil, tLst, tLstI, tTup, gName, tB, tAnd, tOr, tNot, tAndV, tOrV, tNotV, tIf, tNext, tBreak, tCont, gSub, tCall, tCallN, tAug, ipI, tBML, tBML0, isL_IL, isL_lst, L2.start, List.map_cons, List.map_nil, List.length_cons, List.length_nil, List.cons_append, List.nil_append, List.getElem?_cons_succ, List.getElem?_cons_zero, Option.some.injEq, exists_eq_left', exists_eq_left, exists_and_left, V.int.injEq, V.ref.injEq, V.bl.injEq, V.str.injEq, List.set_cons_zero, List.set_cons_succ, List.cons.injEq, and_true, true_and, Nat.reduceAdd, Nat.reduceSub, List.replicate_succ, List.replicate_zero, rIxI, rIxH, rIxTH, rSetI, rSetH, rCatI, rRepI, rSlI, rAppendI, rExtendI, decide_eq_true_eq, upd_same, IL_inj, HO.lst.injEq, toInts_cons, toInts_nil, Option.map_some, if_true, if_false, Bool.true_eq_false, Bool.false_eq_true, Bool.not_true, Bool.not_false, Bool.not_eq_true', decide_eq_false_iff_not, atI_0, atI_1, atI_2, atI_3, atI_4, Int.reduceToNat, Int.reduceLT, Int.reduceLE, Int.reduceNeg, Int.reducePow, cast_lit, upd_upd, Int.reduceAdd, Int.reduceMul, Int.reduceSub, Nat.reduceLT, Nat.reduceLeDiff, cmul_r, cdiv_r, tSl, tPart, tNoPart, rEq, rNe, scal_nn, scal_ii, scal_bb, scal_ss, scal_is, scal_si, V.ty.injEq, and_assoc, tyH_non, tyH_bl, tyH_int, tyH_str, tyH_ref, tyO_lst, tyO_IL, tyO_tup, itO_lst, itO_tup, itO_IL, Dw.rIxD, rLenI, rLenH, rLenTH, rLenQ, rLenB, rListI, Dw.rListS, rIntI, rIntB, rSumI, rIsiD, rIsX, tCallS, tMakeS, tMake, tMakeC, tMakeSC, tFld, sFld, HO.ins.injEq, HO.tup.injEq, cxOf_K, nox_K, tr_K, suite_K, rTupleI, rAllB, rAnyB, BL_inj, tChain, wOnly, wAs, wMany, rEqI, rNeI, Dw.rMax2, rMin2, Dw.rIsN, rIsNotN, rStrIn, rStrNotIn, not_true_eq_false, not_false_eq_true, reduceCtorEq, cl_bool, cl_int, cl_str, cl_list, cl_tuple, isB_NoneType_bool, isB_NoneType_int, isB_NoneType_str, isB_NoneType_list, isB_NoneType_tuple, isB_bool_bool, isB_bool_int, isB_bool_str, isB_bool_list, isB_bool_tuple, isB_int_bool, isB_int_int, isB_int_str, isB_int_list, isB_int_tuple, isB_str_bool, isB_str_int, isB_str_str, isB_str_list, isB_str_tuple, isB_list_bool, isB_list_int, isB_list_str, isB_list_list, isB_list_tuple, isB_tuple_bool, isB_tuple_int, isB_tuple_str, isB_tuple_list, isB_tuple_tuple, rSlCI, iRng3, iRev, gCons, gNil, iZip, iEnum, tLc_eq, tFor_eq, iRng1, iRng2, iList, iTup, rSetD, iKeys, tDNewK, Int.reducePow, Int.reduceNeg, iEz, tPar, tRevL, Dw.rSetL, Dw.rIxL, rIxE, iSeqA, iEnumT]
  refine ⟨.inl ⟨by decide, by decide⟩, ?_⟩
  have e2 : (2 * (n : Int) % 65536) = ((2 * n % 65536 : Nat) : Int) := by omega
  unfold stepB at k
  by_cases c : (32768 : Int) ≤ (n : Int)
  · rw [if_neg (by omega)] at k
    rw [if_pos c, e2]
    exact ⟨_, 4129, rfl, k⟩
  · rw [if_pos (by omega)] at k
    rw [if_neg c, e2]
    exact ⟨_, 0, rfl, k⟩
def spChange : Sp := fun vs H Q _ => ∃ len p : Nat, vs = [.int len, .int p] ∧ p < 8 * len ∧ len ≤ 1000 ∧ Q (.int ((chg len p : Nat) : Int)) H
theorem ok_crc_change (T : Tx K mg A) : FnOk P w K mg base CX0 3 A.f_crc_change A.d_crc_change ["length", "place"] spChange := by
  refine T.F_crc_change.ok sc_crc_change (fun vs H Q E h => ?_) (fun cdv A' outer s H vs Q E hr h => ?_)
  · obtain ⟨len, p, rfl, _⟩ := h
    rfl
  obtain ⟨len, p, rfl, hp, hl, k⟩ := h
  refine ⟨_, (pss_cons (ps_set (i := 2) sc_crc_change.nd rfl (Or.inl rfl) (pe_glob rfl T.c_POLYNOMIAL T.r_POLYNOMIAL))
      (pss_cons (ps_for PassesOwn.never rfl (pi_range1 rfl T.z_range (pa_cons (pe_op op_mod (pe_op op_sub (pe_op op_sub (pe_op op_mul pe_int (pv 0)) pe_int) (pv 1)) (pe_glob rfl T.c_PERIOD T.r_PERIOD)) pa_nil)) (pg_name (i := 3) sc_crc_change.nd rfl (Or.inl rfl))
        (pss_one (ps_set (i := 2) sc_crc_change.nd rfl (Or.inl rfl) (pe_call (ok_doubled T) (hr.mono (by decide)) rfl T.g_doubled T.F_doubled.kp T.b_doubled .nil pass0 (pa_cons (pv 2) pa_nil)))))
      (pss_one (ps_ret (pv 2))))), ?_⟩
  try simp only [tSeq, tAsg, tVar, tC, tOp, rI0, rI, tUn, rU, tIfS, tTest, tRet, tRetN, tDrop, tCB, tCons, tNil, tLst, tLstI, tTup, gName, tB, tAnd, tOr, tNot, tAndV, tOrV, tNotV, tIf, tNext, tBreak, tCont, gSub, tCall, tCallN, tAug, ipI, tBML, tBML0, isL_IL, isL_lst, L2.start, List.map_cons, List.map_nil, List.length_cons, List.length_nil, List.cons_append, List.nil_append, List.getElem?_cons_succ, List.getElem?_cons_zero, Option.some.injEq, exists_eq_left', exists_eq_left, exists_and_left, V.int.injEq, V.ref.injEq, V.bl.injEq, V.str.injEq, List.set_cons_zero, List.set_cons_succ, List.cons.injEq, and_true, true_and, Nat.reduceAdd, Nat.reduceSub, List.replicate_succ, List.replicate_zero, rIxI, rIxH, rIxTH, rSetI, rSetH, rCatI, rRepI, rSlI, rAppendI, rExtendI, decide_eq_true_eq, upd_same, IL_inj, HO.lst.injEq, toInts_cons, toInts_nil, Option.map_some, if_true, if_false, Bool.true_eq_false, Bool.false_eq_true, Bool.not_true, Bool.not_false, Bool.not_eq_true', decide_eq_false_iff_not, atI_0, atI_1, atI_2, atI_3, atI_4, Int.reduceToNat, Int.reduceLT, Int.reduceLE, Int.reduceNeg, Int.reducePow, cast_lit, upd_upd, Int.reduceAdd, Int.reduceMul, Int.reduceSub, Nat.reduceLT, Nat.reduceLeDiff, cmul_r, cdiv_r, tSl, tPart, tNoPart, rEq, rNe, scal_nn, scal_ii, scal_bb, scal_ss, scal_is, scal_si, V.ty.injEq, and_assoc, tyH_non, tyH_bl, tyH_int, tyH_str, tyH_ref, tyO_lst, tyO_IL, tyO_tup, itO_lst, itO_tup, itO_IL, Dw.rIxD, rLenI, rLenH, rLenTH, rLenQ, rLenB, rListI, Dw.rListS, rIntI, rIntB, rSumI, rIsiD, rIsX, tCallS, tMakeS, tMake, tMakeC, tMakeSC, tFld, sFld, HO.ins.injEq, HO.tup.injEq, cxOf_K, nox_K, tr_K, suite_K, rTupleI, rAllB, rAnyB, BL_inj, tChain, wOnly, wAs, wMany, rEqI, rNeI, Dw.rMax2, rMin2, Dw.rIsN, rIsNotN, rStrIn, rStrNotIn, not_true_eq_false, not_false_eq_true, reduceCtorEq, cl_bool, cl_int, cl_str, cl_list, cl_tuple, isB_NoneType_bool, isB_NoneType_int, isB_NoneType_str, isB_NoneType_list, isB_NoneType_tuple, isB_bool_bool, isB_bool_int, isB_bool_str, isB_bool_list, isB_bool_tuple, isB_int_bool, isB_int_int, isB_int_str, isB_int_list, isB_int_tuple, isB_str_bool, isB_str_int, isB_str_str, isB_str_list, isB_str_tuple, isB_list_bool, isB_list_int, isB_list_str, isB_list_list, isB_list_tuple, isB_tuple_bool, isB_tuple_int, isB_tuple_str, isB_tuple_list, isB_tuple_tuple, rSlCI, iRng3, iRev, gCons, gNil, iZip, iEnum, tLc_eq, tFor_eq, iRng1, iRng2, iList, iTup, rSetD, iKeys, tDNewK, Int.reducePow, Int.reduceNeg, iEz, tPar, tRevL, Dw.rSetL, Dw.rIxL, rIxE, iSeqA, iEnumT]
  refine ⟨.inl ⟨by decide, by decide⟩, by omega, by omega, ?_⟩
  obtain ⟨I, hI⟩ : ∃ F : Nat → L2.St → Hp → Prop, F = (fun i σ H' => H' = H ∧ ∃ y : Option V, σ = [some (.int (len : Int)), some (.int (p : Int)), some (.int ((itS i 4129 : Nat) : Int)), y]) := ⟨_, rfl⟩
  refine forR I (by rw [hI]; exact ⟨rfl, _, rfl⟩) ?_ ?_
  · intro i σ H' hi h
    rw [hI] at h
    obtain ⟨rfl, y, rfl⟩ := h
    try simp only [tSeq, tAsg, tVar, tC, tOp, rI0, rI, tUn, rU, tIfS, tTest, tRet, tRetN, tDrop, tCB, tCons, tNil, tLst, tLstI, tTup, gName, tB, tAnd, tOr, tNot, tAndV, tOrV, tNotV, tIf, tNext, tBreak, tCont, gSub, tCall, tCallN, tAug, ipI, tBML, tBML0, isL_IL, isL_lst, L2.start, List.map_cons, List.map_nil, List.length_cons, List.length_nil, List.cons_append, List.nil_append, List.getElem?_cons_succ, List.getElem?_cons_zero, Option.some.injEq, exists_eq_left', exists_eq_left, exists_and_left, V.int.injEq, V.ref.injEq, V.bl.injEq, V.str.injEq, List.set_cons_zero, List.set_cons_succ, List.cons.injEq, and_true, true_and, Nat.reduceAdd, Nat.reduceSub, List.replicate_succ, List.replicate_zero, rIxI, rIxH, rIxTH, rSetI, rSetH, rCatI, rRepI, rSlI, rAppendI, rExtendI, decide_eq_true_eq, upd_same, IL_inj, HO.lst.injEq, toInts_cons, toInts_nil, Option.map_some, if_true, if_false, Bool.true_eq_false, Bool.false_eq_true, Bool.not_true, Bool.not_false, Bool.not_eq_true', decide_eq_false_iff_not, atI_0, atI_1, atI_2, atI_3, atI_4, Int.reduceToNat, Int.reduceLT, Int.reduceLE, Int.reduceNeg, Int.reducePow, cast_lit, upd_upd, Int.reduceAdd, Int.reduceMul, Int.reduceSub, Nat.reduceLT, Nat.reduceLeDiff, cmul_r, cdiv_r, tSl, tPart, tNoPart, rEq, rNe, scal_nn, scal_ii, scal_bb, scal_ss, scal_is, scal_si, V.ty.injEq, and_assoc, tyH_non, tyH_bl, tyH_int, tyH_str, tyH_ref, tyO_lst, tyO_IL, tyO_tup, itO_lst, itO_tup, itO_IL, Dw.rIxD, rLenI, rLenH, rLenTH, rLenQ, rLenB, rListI, Dw.rListS, rIntI, rIntB, rSumI, rIsiD, rIsX, tCallS, tMakeS, tMake, tMakeC, tMakeSC, tFld, sFld, HO.ins.injEq, HO.tup.injEq, cxOf_K, nox_K, tr_K, suite_K, rTupleI, rAllB, rAnyB, BL_inj, tChain, wOnly, wAs, wMany, rEqI, rNeI, Dw.rMax2, rMin2, Dw.rIsN, rIsNotN, rStrIn, rStrNotIn, not_true_eq_false, not_false_eq_true, reduceCtorEq, cl_bool, cl_int, cl_str, cl_list, cl_tuple, isB_NoneType_bool, isB_NoneType_int, isB_NoneType_str, isB_NoneType_list, isB_NoneType_tuple, isB_bool_bool, isB_bool_int, isB_bool_str, isB_bool_list, isB_bool_tuple, isB_int_bool, isB_int_int, isB_int_str, isB_int_list, isB_int_tuple, isB_str_bool, isB_str_int, isB_str_str, isB_str_list, isB_str_tuple, isB_list_bool, isB_list_int, isB_list_str, isB_list_list, isB_list_tuple, isB_tuple_bool, isB_tuple_int, isB_tuple_str, isB_tuple_list, isB_tuple_tuple, rSlCI, iRng3, iRev, gCons, gNil, iZip, iEnum, tLc_eq, tFor_eq, iRng1, iRng2, iList, iTup, rSetD, iKeys, tDNewK, Int.reducePow, Int.reduceNeg, iEz, tPar, tRevL, Dw.rSetL, Dw.rIxL, rIxE, iSeqA, iEnumT]
    refine ⟨_, rfl, itS_lt i (by decide), ?_⟩
    rw [hI]
    rw [show stepB (itS i 4129) 0 = itS (i + 1) 4129 by rw [itS_add i 1]; rfl]
    exact ⟨rfl, _, rfl⟩
  · intro σ H' h
    rw [hI] at h
    obtain ⟨rfl, y, rfl⟩ := h
    try simp only [tSeq, tAsg, tVar, tC, tOp, rI0, rI, tUn, rU, tIfS, tTest, tRet, tRetN, tDrop, tCB, tCons, tNil, tLst, tLstI, tTup, gName, tB, tAnd, tOr, tNot, tAndV, tOrV, tNotV, tIf, tNext, tBreak, tCont, gSub, tCall, tCallN, tAug, ipI, tBML, tBML0, isL_IL, isL_lst, L2.start, List.map_cons, List.map_nil, List.length_cons, List.length_nil, List.cons_append, List.nil_append, List.getElem?_cons_succ, List.getElem?_cons_zero, Option.some.injEq, exists_eq_left', exists_eq_left, exists_and_left, V.int.injEq, V.ref.injEq, V.bl.injEq, V.str.injEq, List.set_cons_zero, List.set_cons_succ, List.cons.injEq, and_true, true_and, Nat.reduceAdd, Nat.reduceSub, List.replicate_succ, List.replicate_zero, rIxI, rIxH, rIxTH, rSetI, rSetH, rCatI, rRepI, rSlI, rAppendI, rExtendI, decide_eq_true_eq, upd_same, IL_inj, HO.lst.injEq, toInts_cons, toInts_nil, Option.map_some, if_true, if_false, Bool.true_eq_false, Bool.false_eq_true, Bool.not_true, Bool.not_false, Bool.not_eq_true', decide_eq_false_iff_not, atI_0, atI_1, atI_2, atI_3, atI_4, Int.reduceToNat, Int.reduceLT, Int.reduceLE, Int.reduceNeg, Int.reducePow, cast_lit, upd_upd, Int.reduceAdd, Int.reduceMul, Int.reduceSub, Nat.reduceLT, Nat.reduceLeDiff, cmul_r, cdiv_r, tSl, tPart, tNoPart, rEq, rNe, scal_nn, scal_ii, scal_bb, scal_ss, scal_is, scal_si, V.ty.injEq, and_assoc, tyH_non, tyH_bl, tyH_int, tyH_str, tyH_ref, tyO_lst, tyO_IL, tyO_tup, itO_lst, itO_tup, itO_IL, Dw.rIxD, rLenI, rLenH, rLenTH, rLenQ, rLenB, rListI, Dw.rListS, rIntI, rIntB, rSumI, rIsiD, rIsX, tCallS, tMakeS, tMake, tMakeC, tMakeSC, tFld, sFld, HO.ins.injEq, HO.tup.injEq, cxOf_K, nox_K, tr_K, suite_K, rTupleI, rAllB, rAnyB, BL_inj, tChain, wOnly, wAs, wMany, rEqI, rNeI, Dw.rMax2, rMin2, Dw.rIsN, rIsNotN, rStrIn, rStrNotIn, not_true_eq_false, not_false_eq_true, reduceCtorEq, cl_bool, cl_int, cl_str, cl_list, cl_tuple, isB_NoneType_bool, isB_NoneType_int, isB_NoneType_str, isB_NoneType_list, isB_NoneType_tuple, isB_bool_bool, isB_bool_int, isB_bool_str, isB_bool_list, isB_bool_tuple, isB_int_bool, isB_int_int, isB_int_str, isB_int_list, isB_int_tuple, isB_str_bool, isB_str_int, isB_str_str, isB_str_list, isB_str_tuple, isB_list_bool, isB_list_int, isB_list_str, isB_list_list, isB_list_tuple, isB_tuple_bool, isB_tuple_int, isB_tuple_str, isB_tuple_list, isB_tuple_tuple, rSlCI, iRng3, iRev, gCons, gNil, iZip, iEnum, tLc_eq, tFor_eq, iRng1, iRng2, iList, iTup, rSetD, iKeys, tDNewK, Int.reducePow, Int.reduceNeg, iEz, tPar, tRevL, Dw.rSetL, Dw.rIxL, rIxE, iSeqA, iEnumT]
    rw [show ((8 * (len : Int) - 1 - (p : Int)) % 32767).toNat = 8 * len - 1 - p by omega]
    exact k
end
section
variable {P : Program} {w : World} {K : PySem.W.Frag} {mg : Str → Option Value} {base : Heap} {A : Ad}
theorem clr_tab : ((List.range 256).all fun v => (List.range 8).all fun r => decide (byteZ ((bits8 v).set r 0) = ((if v.testBit (7 - r) = false then v else v ^^^ 2 ^ (7 - r) : Nat) : Int))) = true := by decide +kernel
theorem clr_at {v r : Nat} (hv : v < 256) (hr : r < 8) : byteZ ((bits8 v).set r 0) = ((if v.testBit (7 - r) = false then v else v ^^^ 2 ^ (7 - r) : Nat) : Int) :=
  of_decide_eq_true (List.all_eq_true.mp (List.all_eq_true.mp clr_tab v (List.mem_range.mpr hv)) r (List.mem_range.mpr hr))
theorem clr_set {vs : List Nat} {p : Nat} (hb : ∀ v ∈ vs, v < 256) (hp : p < 8 * vs.length) : (zs vs).set (p / 8) (byteZ ((bits8 (vs.getD (p / 8) 0)).set (p % 8) 0)) = zs (setB vs p false) := by
  have hk : p / 8 < vs.length := by omega
  have hg : vs.getD (p / 8) 0 = vs[p / 8] := by rw [List.getD_eq_getElem?_getD, List.getElem?_eq_getElem hk]; rfl
  rw [clr_at (by rw [hg]; exact hb _ (List.getElem_mem hk)) (Nat.mod_lt _ (by decide)), zs_set]
  unfold setB bitB turnN
  by_cases c : (vs.getD (p / 8) 0).testBit (7 - p % 8) = false
  · rw [if_pos c, if_pos c, hg, List.set_getElem_self]
  · rw [if_neg c, if_neg c, pow_div _ (Nat.mod_lt _ (by decide))]
theorem zs_item {ps : List Nat} {i : Nat} {v : V} (h : ((zs ps).map V.int)[i]? = some v) : ∃ p : Nat, v = V.int (p : Int) ∧ ps[i]? = some p := by
  unfold zs at h
  rw [List.getElem?_map, List.getElem?_map] at h
  cases q : ps[i]? with
  | none => rw [q] at h; cases h
  | some p =>
    rw [q] at h
    exact ⟨p, (Option.some.inj h).symm, rfl⟩
def spWChg : Sp := fun vs H Q _ => ∃ (a b : Addr) (ns ps : List Nat), vs = [.ref a, .ref b] ∧ H a = some (IL (zs ns)) ∧ H b = some (IL (zs ps)) ∧ (∀ p ∈ ps, p < 8 * ns.length) ∧ (∀ v ∈ ns, v < 256) ∧ ns.length ≤ 10000 ∧ ∀ r H', Same H H' → H r = none → H' r = some (IL (zs (ps.foldl turnN ns))) → Q (.ref r) H'
theorem ok_with_bits_changed (T : Tx K mg A) : FnOk P w K mg base CX0 2 A.f_with_bits_changed A.d_with_bits_changed ["values", "places"] spWChg := by
  refine T.F_with_bits_changed.ok sc_with_bits_changed (fun vs H Q E h => ?_) (fun cdv A' outer s H vs Q E hr h => ?_)
  · obtain ⟨a, b, ns, ps, rfl, _⟩ := h
    rfl
  obtain ⟨a, b, ns, ps, rfl, hA, hB, hp, hb, hl, k⟩ := h
  refine ⟨_, (pss_cons (ps_set (i := 2) sc_with_bits_changed.nd rfl (Or.inl rfl) (pe_callTy call_listI (by rfl) T.z_list (by decide +kernel) (pa_cons (pv 0) pa_nil)))
      (pss_cons (ps_for PassesOwn.never rfl (pi_list (pv 1)) (pg_name (i := 3) sc_with_bits_changed.nd rfl (Or.inl rfl))
        (pss_one (ps_asg (pe_call (ok_exclusive T) (hr.mono (by decide)) rfl T.g_exclusive T.F_exclusive.kp T.b_exclusive .nil pass0 (pa_cons (pe_ix ix_listI (pv 2) (pe_op op_fdiv (pv 3) pe_int) (fun _ _ => rfl)) (pa_cons (pe_op op_shr pe_int (pe_op op_mod (pv 3) pe_int)) pa_nil))) (pg_sub (pv 2) (pe_op op_fdiv (pv 3) pe_int) set_listI))))
      (pss_one (ps_ret (pv 2))))), ?_⟩
  try simp only [tSeq, tAsg, tVar, tC, tOp, rI0, rI, tUn, rU, tIfS, tTest, tRet, tRetN, tDrop, tCB, tCons, tNil, tLst, tLstI, tTup, gName, tB, tAnd, tOr, tNot, tAndV, tOrV, tNotV, tIf, tNext, tBreak, tCont, gSub, tCall, tCallN, tAug, ipI, tBML, tBML0, isL_IL, isL_lst, L2.start, List.map_cons, List.map_nil, List.length_cons, List.length_nil, List.cons_append, List.nil_append, List.getElem?_cons_succ, List.getElem?_cons_zero, Option.some.injEq, exists_eq_left', exists_eq_left, exists_and_left, V.int.injEq, V.ref.injEq, V.bl.injEq, V.str.injEq, List.set_cons_zero, List.set_cons_succ, List.cons.injEq, and_true, true_and, Nat.reduceAdd, Nat.reduceSub, List.replicate_succ, List.replicate_zero, rIxI, rIxH, rIxTH, rSetI, rSetH, rCatI, rRepI, rSlI, rAppendI, rExtendI, decide_eq_true_eq, upd_same, IL_inj, HO.lst.injEq, toInts_cons, toInts_nil, Option.map_some, if_true, if_false, Bool.true_eq_false, Bool.false_eq_true, Bool.not_true, Bool.not_false, Bool.not_eq_true', decide_eq_false_iff_not, atI_0, atI_1, atI_2, atI_3, atI_4, Int.reduceToNat, Int.reduceLT, Int.reduceLE, Int.reduceNeg, Int.reducePow, cast_lit, upd_upd, Int.reduceAdd, Int.reduceMul, Int.reduceSub, Nat.reduceLT, Nat.reduceLeDiff, cmul_r, cdiv_r, tSl, tPart, tNoPart, rEq, rNe, scal_nn, scal_ii, scal_bb, scal_ss, scal_is, scal_si, V.ty.injEq, and_assoc, tyH_non, tyH_bl, tyH_int, tyH_str, tyH_ref, tyO_lst, tyO_IL, tyO_tup, itO_lst, itO_tup, itO_IL, Dw.rIxD, rLenI, rLenH, rLenTH, rLenQ, rLenB, rListI, Dw.rListS, rIntI, rIntB, rSumI, rIsiD, rIsX, tCallS, tMakeS, tMake, tMakeC, tMakeSC, tFld, sFld, HO.ins.injEq, HO.tup.injEq, cxOf_K, nox_K, tr_K, suite_K, rTupleI, rAllB, rAnyB, BL_inj, tChain, wOnly, wAs, wMany, rEqI, rNeI, Dw.rMax2, rMin2, Dw.rIsN, rIsNotN, rStrIn, rStrNotIn, not_true_eq_false, not_false_eq_true, reduceCtorEq, cl_bool, cl_int, cl_str, cl_list, cl_tuple, isB_NoneType_bool, isB_NoneType_int, isB_NoneType_str, isB_NoneType_list, isB_NoneType_tuple, isB_bool_bool, isB_bool_int, isB_bool_str, isB_bool_list, isB_bool_tuple, isB_int_bool, isB_int_int, isB_int_str, isB_int_list, isB_int_tuple, isB_str_bool, isB_str_int, isB_str_str, isB_str_list, isB_str_tuple, isB_list_bool, isB_list_int, isB_list_str, isB_list_list, isB_list_tuple, isB_tuple_bool, isB_tuple_int, isB_tuple_str, isB_tuple_list, isB_tuple_tuple, rSlCI, iRng3, iRev, gCons, gNil, iZip, iEnum, tLc_eq, tFor_eq, iRng1, iRng2, iList, iTup, rSetD, iKeys, tDNewK, Int.reducePow, Int.reduceNeg, iEz, tPar, tRevL, Dw.rSetL, Dw.rIxL, rIxE, iSeqA, iEnumT, hA]
  intro D nD
  have sD := same_new nD (IL (zs ns))
  have eD : upd H D (IL (zs ns)) D = _ := upd_same
  generalize upd H D (IL (zs ns)) = H1 at sD eD  ⊢
  refine ⟨⟨_, .of (sD _ _ hB)⟩, ?_⟩
  obtain ⟨I, hI⟩ : ∃ F : Nat → L2.St → Hp → Prop, F = (fun i σ H' => Same H H' ∧ ∃ y : Option V, H' D = some (IL (zs ((ps.take i).foldl turnN ns))) ∧ σ = [some (V.ref a), some (V.ref b), some (V.ref D), y]) := ⟨_, rfl⟩
  refine forL (xs := (zs ps).map V.int) I (by rw [hI]; exact ⟨sD, _, eD, rfl⟩) (fun i σ H' _ h => by rw [hI] at h; exact .of (h.1 _ _ hB)) ?_ ?_
  · intro i v σ H' hi h
    rw [hI] at h
    obtain ⟨s1, y, e1, rfl⟩ := h
    obtain ⟨p, rfl, hc⟩ := zs_item hi
    have hp1 := hp p (List.mem_of_getElem? hc)
    have hll : (zs ((ps.take i).foldl turnN ns)).length = ns.length := by rw [zs_len, turns_len]
    try simp only [tSeq, tAsg, tVar, tC, tOp, rI0, rI, tUn, rU, tIfS, tTest, tRet, tRetN, tDrop, tCB, tCons, tNil, tLst, tLstI, tTup, gName, tB, tAnd, tOr, tNot, tAndV, tOrV, tNotV, tIf, tNext, tBreak, tCont, gSub, tCall, tCallN, tAug, ipI, tBML, tBML0, isL_IL, isL_lst, L2.start, List.map_cons, List.map_nil, List.length_cons, List.length_nil, List.cons_append, List.nil_append, List.getElem?_cons_succ, List.getElem?_cons_zero, Option.some.injEq, exists_eq_left', exists_eq_left, exists_and_left, V.int.injEq, V.ref.injEq, V.bl.injEq, V.str.injEq, List.set_cons_zero, List.set_cons_succ, List.cons.injEq, and_true, true_and, Nat.reduceAdd, Nat.reduceSub, List.replicate_succ, List.replicate_zero, rIxI, rIxH, rIxTH, rSetI, rSetH, rCatI, rRepI, rSlI, rAppendI, rExtendI, decide_eq_true_eq, upd_same, IL_inj, HO.lst.injEq, toInts_cons, toInts_nil, Option.map_some, if_true, if_false, Bool.true_eq_false, Bool.false_eq_true, Bool.not_true, Bool.not_false, Bool.not_eq_true', decide_eq_false_iff_not, atI_0, atI_1, atI_2, atI_3, atI_4, Int.reduceToNat, Int.reduceLT, Int.reduceLE, Int.reduceNeg, Int.reducePow, cast_lit, upd_upd, Int.reduceAdd, Int.reduceMul, Int.reduceSub, Nat.reduceLT, Nat.reduceLeDiff, cmul_r, cdiv_r, tSl, tPart, tNoPart, rEq, rNe, scal_nn, scal_ii, scal_bb, scal_ss, scal_is, scal_si, V.ty.injEq, and_assoc, tyH_non, tyH_bl, tyH_int, tyH_str, tyH_ref, tyO_lst, tyO_IL, tyO_tup, itO_lst, itO_tup, itO_IL, Dw.rIxD, rLenI, rLenH, rLenTH, rLenQ, rLenB, rListI, Dw.rListS, rIntI, rIntB, rSumI, rIsiD, rIsX, tCallS, tMakeS, tMake, tMakeC, tMakeSC, tFld, sFld, HO.ins.injEq, HO.tup.injEq, cxOf_K, nox_K, tr_K, suite_K, rTupleI, rAllB, rAnyB, BL_inj, tChain, wOnly, wAs, wMany, rEqI, rNeI, Dw.rMax2, rMin2, Dw.rIsN, rIsNotN, rStrIn, rStrNotIn, not_true_eq_false, not_false_eq_true, reduceCtorEq, cl_bool, cl_int, cl_str, cl_list, cl_tuple, isB_NoneType_bool, isB_NoneType_int, isB_NoneType_str, isB_NoneType_list, isB_NoneType_tuple, isB_bool_bool, isB_bool_int, isB_bool_str, isB_bool_list, isB_bool_tuple, isB_int_bool, isB_int_int, isB_int_str, isB_int_list, isB_int_tuple, isB_str_bool, isB_str_int, isB_str_str, isB_str_list, isB_str_tuple, isB_list_bool, isB_list_int, isB_list_str, isB_list_list, isB_list_tuple, isB_tuple_bool, isB_tuple_int, isB_tuple_str, isB_tuple_list, isB_tuple_tuple, rSlCI, iRng3, iRev, gCons, gNil, iZip, iEnum, tLc_eq, tFor_eq, iRng1, iRng2, iList, iTup, rSetD, iKeys, tDNewK, Int.reducePow, Int.reduceNeg, iEz, tPar, tRevL, Dw.rSetL, Dw.rIxL, rIxE, iSeqA, iEnumT, e1]
    have q1 : ((p : Int) / 8).toNat = p / 8 := by omega
    have q2 : ((p : Int) % 8).toNat = p % 8 := by omega
    rw [q1, q2, zs_get, hll]
    have ew : (128 : Int) / 2 ^ (p % 8) = ((128 / 2 ^ (p % 8) : Nat) : Int) := by push_cast; rfl
    rw [ew]
    refine ⟨by omega, by omega, by omega, _, _, rfl, _, _, rfl, e1, by omega, by omega, ?_⟩
    rw [hI, zs_set]
    refine ⟨Same.put s1 nD _, _, ?_, rfl⟩
    rw [turns_more hc]
    exact upd_same
  · intro σ H' h
    rw [hI] at h
    obtain ⟨s1, y, e1, rfl⟩ := h
    rw [List.take_of_length_le (by rw [List.length_map, zs_len]; exact Nat.le_refl _)] at e1
    try simp only [tSeq, tAsg, tVar, tC, tOp, rI0, rI, tUn, rU, tIfS, tTest, tRet, tRetN, tDrop, tCB, tCons, tNil, tLst, tLstI, tTup, gName, tB, tAnd, tOr, tNot, tAndV, tOrV, tNotV, tIf, tNext, tBreak, tCont, gSub, tCall, tCallN, tAug, ipI, tBML, tBML0, isL_IL, isL_lst, L2.start, List.map_cons, List.map_nil, List.length_cons, List.length_nil, List.cons_append, List.nil_append, List.getElem?_cons_succ, List.getElem?_cons_zero, Option.some.injEq, exists_eq_left', exists_eq_left, exists_and_left, V.int.injEq, V.ref.injEq, V.bl.injEq, V.str.injEq, List.set_cons_zero, List.set_cons_succ, List.cons.injEq, and_true, true_and, Nat.reduceAdd, Nat.reduceSub, List.replicate_succ, List.replicate_zero, rIxI, rIxH, rIxTH, rSetI, rSetH, rCatI, rRepI, rSlI, rAppendI, rExtendI, decide_eq_true_eq, upd_same, IL_inj, HO.lst.injEq, toInts_cons, toInts_nil, Option.map_some, if_true, if_false, Bool.true_eq_false, Bool.false_eq_true, Bool.not_true, Bool.not_false, Bool.not_eq_true', decide_eq_false_iff_not, atI_0, atI_1, atI_2, atI_3, atI_4, Int.reduceToNat, Int.reduceLT, Int.reduceLE, Int.reduceNeg, Int.reducePow, cast_lit, upd_upd, Int.reduceAdd, Int.reduceMul, Int.reduceSub, Nat.reduceLT, Nat.reduceLeDiff, cmul_r, cdiv_r, tSl, tPart, tNoPart, rEq, rNe, scal_nn, scal_ii, scal_bb, scal_ss, scal_is, scal_si, V.ty.injEq, and_assoc, tyH_non, tyH_bl, tyH_int, tyH_str, tyH_ref, tyO_lst, tyO_IL, tyO_tup, itO_lst, itO_tup, itO_IL, Dw.rIxD, rLenI, rLenH, rLenTH, rLenQ, rLenB, rListI, Dw.rListS, rIntI, rIntB, rSumI, rIsiD, rIsX, tCallS, tMakeS, tMake, tMakeC, tMakeSC, tFld, sFld, HO.ins.injEq, HO.tup.injEq, cxOf_K, nox_K, tr_K, suite_K, rTupleI, rAllB, rAnyB, BL_inj, tChain, wOnly, wAs, wMany, rEqI, rNeI, Dw.rMax2, rMin2, Dw.rIsN, rIsNotN, rStrIn, rStrNotIn, not_true_eq_false, not_false_eq_true, reduceCtorEq, cl_bool, cl_int, cl_str, cl_list, cl_tuple, isB_NoneType_bool, isB_NoneType_int, isB_NoneType_str, isB_NoneType_list, isB_NoneType_tuple, isB_bool_bool, isB_bool_int, isB_bool_str, isB_bool_list, isB_bool_tuple, isB_int_bool, isB_int_int, isB_int_str, isB_int_list, isB_int_tuple, isB_str_bool, isB_str_int, isB_str_str, isB_str_list, isB_str_tuple, isB_list_bool, isB_list_int, isB_list_str, isB_list_list, isB_list_tuple, isB_tuple_bool, isB_tuple_int, isB_tuple_str, isB_tuple_list, isB_tuple_tuple, rSlCI, iRng3, iRev, gCons, gNil, iZip, iEnum, tLc_eq, tFor_eq, iRng1, iRng2, iList, iTup, rSetD, iKeys, tDNewK, Int.reducePow, Int.reduceNeg, iEz, tPar, tRevL, Dw.rSetL, Dw.rIxL, rIxE, iSeqA, iEnumT]
    exact k D H' s1 nD e1
def spWClr : Sp := fun vs H Q _ => ∃ (a b : Addr) (ns ps : List Nat), vs = [.ref a, .ref b] ∧ H a = some (IL (zs ns)) ∧ H b = some (IL (zs ps)) ∧ (∀ p ∈ ps, p < 8 * ns.length) ∧ (∀ v ∈ ns, v < 256) ∧ ns.length ≤ 10000 ∧ ∀ r H', Same H H' → H r = none → H' r = some (IL (zs (sets ns ps.reverse 0))) → Q (.ref r) H'
theorem ok_with_bits_cleared (T : Tx K mg A) : FnOk P w K mg base CX0 2 A.f_with_bits_cleared A.d_with_bits_cleared ["values", "places"] spWClr := by
  refine T.F_with_bits_cleared.ok sc_with_bits_cleared (fun vs H Q E h => ?_) (fun cdv A' outer s H vs Q E hr h => ?_)
  · obtain ⟨a, b, ns, ps, rfl, _⟩ := h
    rfl
  obtain ⟨a, b, ns, ps, rfl, hA, hB, hp, hb, hl, k⟩ := h
  refine ⟨_, (pss_cons (ps_set (i := 2) sc_with_bits_cleared.nd rfl (Or.inl rfl) (pe_callTy call_listI (by rfl) T.z_list (by decide +kernel) (pa_cons (pv 0) pa_nil)))
      (pss_cons (ps_for PassesOwn.never rfl (pi_list (pv 1)) (pg_name (i := 3) sc_with_bits_cleared.nd rfl (Or.inl rfl))
        (pss_cons (ps_set (i := 4) sc_with_bits_cleared.nd rfl (Or.inl rfl) (pe_call (ok_byte_bits T) (hr.mono (by decide)) rfl T.g_byte_bits T.F_byte_bits.kp T.b_byte_bits .nil pass0 (pa_cons (pe_ix ix_listI (pv 2) (pe_op op_fdiv (pv 3) pe_int) (fun _ _ => rfl)) pa_nil)))
      (pss_cons (ps_asg pe_int (pg_sub (pv 4) (pe_op op_mod (pv 3) pe_int) set_listI))
      (pss_one (ps_asg (pe_call (ok_bits_byte T) (hr.mono (by decide)) rfl T.g_bits_byte T.F_bits_byte.kp T.b_bits_byte .nil pass0 (pa_cons (pv 4) pa_nil)) (pg_sub (pv 2) (pe_op op_fdiv (pv 3) pe_int) set_listI))))))
      (pss_one (ps_ret (pv 2))))), ?_⟩
  try simp only [tSeq, tAsg, tVar, tC, tOp, rI0, rI, tUn, rU, tIfS, tTest, tRet, tRetN, tDrop, tCB, tCons, tNil, tLst, tLstI, tTup, gName, tB, tAnd, tOr, tNot, tAndV, tOrV, tNotV, tIf, tNext, tBreak, tCont, gSub, tCall, tCallN, tAug, ipI, tBML, tBML0, isL_IL, isL_lst, L2.start, List.map_cons, List.map_nil, List.length_cons, List.length_nil, List.cons_append, List.nil_append, List.getElem?_cons_succ, List.getElem?_cons_zero, Option.some.injEq, exists_eq_left', exists_eq_left, exists_and_left, V.int.injEq, V.ref.injEq, V.bl.injEq, V.str.injEq, List.set_cons_zero, List.set_cons_succ, List.cons.injEq, and_true, true_and, Nat.reduceAdd, Nat.reduceSub, List.replicate_succ, List.replicate_zero, rIxI, rIxH, rIxTH, rSetI, rSetH, rCatI, rRepI, rSlI, rAppendI, rExtendI, decide_eq_true_eq, upd_same, IL_inj, HO.lst.injEq, toInts_cons, toInts_nil, Option.map_some, if_true, if_false, Bool.true_eq_false, Bool.false_eq_true, Bool.not_true, Bool.not_false, Bool.not_eq_true', decide_eq_false_iff_not, atI_0, atI_1, atI_2, atI_3, atI_4, Int.reduceToNat, Int.reduceLT, Int.reduceLE, Int.reduceNeg, Int.reducePow, cast_lit, upd_upd, Int.reduceAdd, Int.reduceMul, Int.reduceSub, Nat.reduceLT, Nat.reduceLeDiff, cmul_r, cdiv_r, tSl, tPart, tNoPart, rEq, rNe, scal_nn, scal_ii, scal_bb, scal_ss, scal_is, scal_si, V.ty.injEq, and_assoc, tyH_non, tyH_bl, tyH_int, tyH_str, tyH_ref, tyO_lst, tyO_IL, tyO_tup, itO_lst, itO_tup, itO_IL, Dw.rIxD, rLenI, rLenH, rLenTH, rLenQ, rLenB, rListI, Dw.rListS, rIntI, rIntB, rSumI, rIsiD, rIsX, tCallS, tMakeS, tMake, tMakeC, tMakeSC, tFld, sFld, HO.ins.injEq, HO.tup.injEq, cxOf_K, nox_K, tr_K, suite_K, rTupleI, rAllB, rAnyB, BL_inj, tChain, wOnly, wAs, wMany, rEqI, rNeI, Dw.rMax2, rMin2, Dw.rIsN, rIsNotN, rStrIn, rStrNotIn, not_true_eq_false, not_false_eq_true, reduceCtorEq, cl_bool, cl_int, cl_str, cl_list, cl_tuple, isB_NoneType_bool, isB_NoneType_int, isB_NoneType_str, isB_NoneType_list, isB_NoneType_tuple, isB_bool_bool, isB_bool_int, isB_bool_str, isB_bool_list, isB_bool_tuple, isB_int_bool, isB_int_int, isB_int_str, isB_int_list, isB_int_tuple, isB_str_bool, isB_str_int, isB_str_str, isB_str_list, isB_str_tuple, isB_list_bool, isB_list_int, isB_list_str, isB_list_list, isB_list_tuple, isB_tuple_bool, isB_tuple_int, isB_tuple_str, isB_tuple_list, isB_tuple_tuple, rSlCI, iRng3, iRev, gCons, gNil, iZip, iEnum, tLc_eq, tFor_eq, iRng1, iRng2, iList, iTup, rSetD, iKeys, tDNewK, Int.reducePow, Int.reduceNeg, iEz, tPar, tRevL, Dw.rSetL, Dw.rIxL, rIxE, iSeqA, iEnumT, hA]
  intro D nD
  have sD := same_new nD (IL (zs ns))
  have eD : upd H D (IL (zs ns)) D = _ := upd_same
  generalize upd H D (IL (zs ns)) = H1 at sD eD  ⊢
  refine ⟨⟨_, .of (sD _ _ hB)⟩, ?_⟩
  obtain ⟨I, hI⟩ : ∃ F : Nat → L2.St → Hp → Prop, F = (fun i σ H' => Same H H' ∧ ∃ y y2 : Option V, H' D = some (IL (zs (sets ns (ps.take i).reverse 0))) ∧ σ = [some (V.ref a), some (V.ref b), some (V.ref D), y, y2]) := ⟨_, rfl⟩
  refine forL (xs := (zs ps).map V.int) I (by rw [hI]; exact ⟨sD, _, _, eD, rfl⟩) (fun i σ H' _ h => by rw [hI] at h; exact .of (h.1 _ _ hB)) ?_ ?_
  · intro i v σ H' hi h
    rw [hI] at h
    obtain ⟨s1, y, y2, e1, rfl⟩ := h
    obtain ⟨p, rfl, hc⟩ := zs_item hi
    have hp1 := hp p (List.mem_of_getElem? hc)
    have hll : (zs (sets ns (ps.take i).reverse 0)).length = ns.length := by rw [zs_len, sets_len]
    have hbb := sets_bytes hb (ps.take i).reverse 0
    try simp only [tSeq, tAsg, tVar, tC, tOp, rI0, rI, tUn, rU, tIfS, tTest, tRet, tRetN, tDrop, tCB, tCons, tNil, tLst, tLstI, tTup, gName, tB, tAnd, tOr, tNot, tAndV, tOrV, tNotV, tIf, tNext, tBreak, tCont, gSub, tCall, tCallN, tAug, ipI, tBML, tBML0, isL_IL, isL_lst, L2.start, List.map_cons, List.map_nil, List.length_cons, List.length_nil, List.cons_append, List.nil_append, List.getElem?_cons_succ, List.getElem?_cons_zero, Option.some.injEq, exists_eq_left', exists_eq_left, exists_and_left, V.int.injEq, V.ref.injEq, V.bl.injEq, V.str.injEq, List.set_cons_zero, List.set_cons_succ, List.cons.injEq, and_true, true_and, Nat.reduceAdd, Nat.reduceSub, List.replicate_succ, List.replicate_zero, rIxI, rIxH, rIxTH, rSetI, rSetH, rCatI, rRepI, rSlI, rAppendI, rExtendI, decide_eq_true_eq, upd_same, IL_inj, HO.lst.injEq, toInts_cons, toInts_nil, Option.map_some, if_true, if_false, Bool.true_eq_false, Bool.false_eq_true, Bool.not_true, Bool.not_false, Bool.not_eq_true', decide_eq_false_iff_not, atI_0, atI_1, atI_2, atI_3, atI_4, Int.reduceToNat, Int.reduceLT, Int.reduceLE, Int.reduceNeg, Int.reducePow, cast_lit, upd_upd, Int.reduceAdd, Int.reduceMul, Int.reduceSub, Nat.reduceLT, Nat.reduceLeDiff, cmul_r, cdiv_r, tSl, tPart, tNoPart, rEq, rNe, scal_nn, scal_ii, scal_bb, scal_ss, scal_is, scal_si, V.ty.injEq, and_assoc, tyH_non, tyH_bl, tyH_int, tyH_str, tyH_ref, tyO_lst, tyO_IL, tyO_tup, itO_lst, itO_tup, itO_IL, Dw.rIxD, rLenI, rLenH, rLenTH, rLenQ, rLenB, rListI, Dw.rListS, rIntI, rIntB, rSumI, rIsiD, rIsX, tCallS, tMakeS, tMake, tMakeC, tMakeSC, tFld, sFld, HO.ins.injEq, HO.tup.injEq, cxOf_K, nox_K, tr_K, suite_K, rTupleI, rAllB, rAnyB, BL_inj, tChain, wOnly, wAs, wMany, rEqI, rNeI, Dw.rMax2, rMin2, Dw.rIsN, rIsNotN, rStrIn, rStrNotIn, not_true_eq_false, not_false_eq_true, reduceCtorEq, cl_bool, cl_int, cl_str, cl_list, cl_tuple, isB_NoneType_bool, isB_NoneType_int, isB_NoneType_str, isB_NoneType_list, isB_NoneType_tuple, isB_bool_bool, isB_bool_int, isB_bool_str, isB_bool_list, isB_bool_tuple, isB_int_bool, isB_int_int, isB_int_str, isB_int_list, isB_int_tuple, isB_str_bool, isB_str_int, isB_str_str, isB_str_list, isB_str_tuple, isB_list_bool, isB_list_int, isB_list_str, isB_list_list, isB_list_tuple, isB_tuple_bool, isB_tuple_int, isB_tuple_str, isB_tuple_list, isB_tuple_tuple, rSlCI, iRng3, iRev, gCons, gNil, iZip, iEnum, tLc_eq, tFor_eq, iRng1, iRng2, iList, iTup, rSetD, iKeys, tDNewK, Int.reducePow, Int.reduceNeg, iEz, tPar, tRevL, Dw.rSetL, Dw.rIxL, rIxE, iSeqA, iEnumT, e1]
    have q1 : ((p : Int) / 8).toNat = p / 8 := by omega
    have q2 : ((p : Int) % 8).toNat = p % 8 := by omega
    rw [q1, q2, zs_get, hll]
    have hv : (sets ns (ps.take i).reverse 0).getD (p / 8) 0 < 256 := hbb _ (by rw [List.getD_eq_getElem?_getD, List.getElem?_eq_getElem (show p / 8 < (sets ns (ps.take i).reverse 0).length by rw [sets_len]; omega)]; exact List.getElem_mem _)
    refine ⟨by omega, by omega, _, rfl, hv, fun u H2 s2 n2 e2 => ⟨u, rfl, _, e2, by omega, by show (p : Int) % 8 < 8; omega, ?_⟩⟩
    refine ⟨u, _, rfl, upd_same, ?_⟩
    have uD : D ≠ u := ne_of_none e1 n2
    refine ⟨_, _, rfl, by rw [upd_ne uD]; exact s2 _ _ e1, by omega, by omega, ?_⟩
    rw [clr_set hbb (by rw [sets_len]; exact hp1)]
    rw [hI]
    refine ⟨Same.put (Same.put (s1.trans s2) (same_none s1 n2) _) nD _, _, _, ?_, rfl⟩
    rw [take_more hc, List.reverse_append]
    show upd _ D _ D = some (IL (zs (setB (sets ns (ps.take i).reverse 0) p (Nat.testBit 0 _))))
    rw [Nat.zero_testBit]
    exact upd_same
  · intro σ H' h
    rw [hI] at h
    obtain ⟨s1, y, y2, e1, rfl⟩ := h
    rw [List.take_of_length_le (by rw [List.length_map, zs_len]; exact Nat.le_refl _)] at e1
    try simp only [tSeq, tAsg, tVar, tC, tOp, rI0, rI, tUn, rU, tIfS, tTest, tRet, tRetN, tDrop, tCB, tCons, tNil, tLst, tLstI, tTup, gName, tB, tAnd, tOr, tNot, tAndV, tOrV, tNotV, tIf, tNext, tBreak, tCont, gSub, tCall, tCallN, tAug, ipI, tBML, tBML0, isL_IL, isL_lst, L2.start, List.map_cons, List.map_nil, List.length_cons, List.length_nil, List.cons_append, List.nil_append, List.getElem?_cons_succ, List.getElem?_cons_zero, Option.some.injEq, exists_eq_left', exists_eq_left, exists_and_left, V.int.injEq, V.ref.injEq, V.bl.injEq, V.str.injEq, List.set_cons_zero, List.set_cons_succ, List.cons.injEq, and_true, true_and, Nat.reduceAdd, Nat.reduceSub, List.replicate_succ, List.replicate_zero, rIxI, rIxH, rIxTH, rSetI, rSetH, rCatI, rRepI, rSlI, rAppendI, rExtendI, decide_eq_true_eq, upd_same, IL_inj, HO.lst.injEq, toInts_cons, toInts_nil, Option.map_some, if_true, if_false, Bool.true_eq_false, Bool.false_eq_true, Bool.not_true, Bool.not_false, Bool.not_eq_true', decide_eq_false_iff_not, atI_0, atI_1, atI_2, atI_3, atI_4, Int.reduceToNat, Int.reduceLT, Int.reduceLE, Int.reduceNeg, Int.reducePow, cast_lit, upd_upd, Int.reduceAdd, Int.reduceMul, Int.reduceSub, Nat.reduceLT, Nat.reduceLeDiff, cmul_r, cdiv_r, tSl, tPart, tNoPart, rEq, rNe, scal_nn, scal_ii, scal_bb, scal_ss, scal_is, scal_si, V.ty.injEq, and_assoc, tyH_non, tyH_bl, tyH_int, tyH_str, tyH_ref, tyO_lst, tyO_IL, tyO_tup, itO_lst, itO_tup, itO_IL, Dw.rIxD, rLenI, rLenH, rLenTH, rLenQ, rLenB, rListI, Dw.rListS, rIntI, rIntB, rSumI, rIsiD, rIsX, tCallS, tMakeS, tMake, tMakeC, tMakeSC, tFld, sFld, HO.ins.injEq, HO.tup.injEq, cxOf_K, nox_K, tr_K, suite_K, rTupleI, rAllB, rAnyB, BL_inj, tChain, wOnly, wAs, wMany, rEqI, rNeI, Dw.rMax2, rMin2, Dw.rIsN, rIsNotN, rStrIn, rStrNotIn, not_true_eq_false, not_false_eq_true, reduceCtorEq, cl_bool, cl_int, cl_str, cl_list, cl_tuple, isB_NoneType_bool, isB_NoneType_int, isB_NoneType_str, isB_NoneType_list, isB_NoneType_tuple, isB_bool_bool, isB_bool_int, isB_bool_str, isB_bool_list, isB_bool_tuple, isB_int_bool, isB_int_int, isB_int_str, isB_int_list, isB_int_tuple, isB_str_bool, isB_str_int, isB_str_str, isB_str_list, isB_str_tuple, isB_list_bool, isB_list_int, isB_list_str, isB_list_list, isB_list_tuple, isB_tuple_bool, isB_tuple_int, isB_tuple_str, isB_tuple_list, isB_tuple_tuple, rSlCI, iRng3, iRev, gCons, gNil, iZip, iEnum, tLc_eq, tFor_eq, iRng1, iRng2, iList, iTup, rSetD, iKeys, tDNewK, Int.reducePow, Int.reduceNeg, iEz, tPar, tRevL, Dw.rSetL, Dw.rIxL, rIxE, iSeqA, iEnumT]
    exact k D H' s1 nD e1
end
section
variable {P : Program} {w : World} {K : PySem.W.Frag} {mg : Str → Option Value} {base : Heap} {A : Ad}
def RowAt (H : Hp) (v : V) (e : Nat × Nat) : Prop := ∃ t : Addr, v = .ref t ∧ H t = some (.tup [.int (e.1 : Int), .int (e.2 : Int)])
def KvAt (H : Hp) (kv : Key × V) (e : Nat × Nat) : Prop := kv.1 = .inl ((sz e.1 : Nat) : Int) ∧ RowAt H kv.2 e
def KvsAt (H : Hp) : List (Key × V) → Bs → Prop
  | [], [] => True
  | kv :: r, e :: t => KvAt H kv e ∧ KvsAt H r t
  | _, _ => False
theorem KvsAt.len {H : Hp} : ∀ {kvs : List (Key × V)} {B : Bs}, KvsAt H kvs B → kvs.length = B.length
  | [], [], _ => rfl
  | _ :: _, _ :: _, h => congrArg (· + 1) (KvsAt.len h.2)
theorem KvsAt.same {H H' : Hp} (s : Same H H') : ∀ {kvs : List (Key × V)} {B : Bs}, KvsAt H kvs B → KvsAt H' kvs B
  | [], [], _ => trivial
  | _ :: _, _ :: _, h => ⟨⟨h.1.1, let ⟨t, e, q⟩ := h.1.2; ⟨t, e, s _ _ q⟩⟩, KvsAt.same s h.2⟩
theorem KvsAt.ups {H : Hp} {m : Addr} {o : HO} {xs : List (Key × V)} (hm : H m = some (.dK xs)) : ∀ {kvs : List (Key × V)} {B : Bs}, KvsAt H kvs B → KvsAt (upd H m o) kvs B
  | [], [], _ => trivial
  | _ :: _, _ :: _, h => ⟨⟨h.1.1, let ⟨t, e, q⟩ := h.1.2; ⟨t, e, by rw [upd_ne (fun z => by subst z; rw [hm] at q; cases q)]; exact q⟩⟩, KvsAt.ups hm h.2⟩
theorem KvsAt.snoc {H : Hp} {kv : Key × V} {e : Nat × Nat} (k : KvAt H kv e) : ∀ {kvs : List (Key × V)} {B : Bs}, KvsAt H kvs B → KvsAt H (kvs ++ [kv]) (B ++ [e])
  | [], [], _ => ⟨k, trivial⟩
  | _ :: _, _ :: _, h => ⟨h.1, KvsAt.snoc k h.2⟩
theorem KvsAt.val {H : Hp} (k : Nat) : ∀ {kvs : List (Key × V)} {B : Bs}, KvsAt H kvs B → (valV kvs (.inl (k : Int)) = none ∧ look B k = none) ∨ ∃ v e, valV kvs (.inl (k : Int)) = some v ∧ look B k = some e ∧ RowAt H v e
  | [], [], _ => .inl ⟨rfl, rfl⟩
  | kv :: r, e :: t, h => by
    unfold valV look
    rw [List.find?_cons, List.find?_cons]
    by_cases c : sz e.1 = k
    · rw [decide_eq_true c, h.1.1, decide_eq_true (by rw [c])]
      exact .inr ⟨kv.2, e, rfl, rfl, h.1.2⟩
    · rw [decide_eq_false c, h.1.1, decide_eq_false (fun q => c (by have := Sum.inl.inj q; omega))]
      exact KvsAt.val k h.2
theorem KvsAt.put {H : Hp} {k : Nat} {v : V} : ∀ {kvs : List (Key × V)} {B : Bs}, KvsAt H kvs B → look B k = none → putK kvs (.inl (k : Int)) v = kvs ++ [(.inl (k : Int), v)] := fun {kvs B} h hn => by
  have : (kvs.any fun kv => decide (kv.1 = Sum.inl (k : Int))) = false := by
    rw [List.any_eq_false]
    intro kv hkv q
    rcases h.val k with ⟨h1, _⟩ | ⟨_, _, _, h2, _⟩
    · unfold valV at h1
      rw [Option.map_eq_none_iff, List.find?_eq_none] at h1
      exact h1 kv hkv q
    · rw [hn] at h2
      cases h2
  unfold putK
  rw [this]
  rfl
def spReduced : Sp := fun vs H Q _ => ∃ (a m : Addr) (d c : Nat) (B : Bs) (kvs : List (Key × V)) (d' c' : Nat), vs = [.ref a, .ref m] ∧ H a = some (.tup [.int (d : Int), .int (c : Int)]) ∧ H m = some (.dK kvs) ∧ KvsAt H kvs B ∧ Nz B ∧ Red B d c d' c' ∧
  ∀ r H', Same H H' → H r = none → H' r = some (.tup [.int (d' : Int), .int (c' : Int)]) → Q (.ref r) H'
theorem ok_reduced (T : Tx K mg A) : FnOk P w K mg base CX0 1 A.f_reduced A.d_reduced ["row", "basis"] spReduced := by
  refine T.F_reduced.ok sc_reduced (fun vs H Q E h => ?_) (fun cdv A' outer s H vs Q E hr h => ?_)
  · obtain ⟨a, m, d, c, B, kvs, d', c', rfl, _⟩ := h
    rfl
  obtain ⟨a, m, d, c, B, kvs, d', c', rfl, hA, hM, hkv, hNz, hR, k⟩ := h
  refine ⟨_, (pss_cons (ps_asg (pv 0) (pg_tup (n := 2) rfl (pgs_cons (pg_name (i := 2) sc_reduced.nd rfl (Or.inl rfl)) (pgs_cons (pg_name (i := 3) sc_reduced.nd rfl (Or.inl rfl)) pgs_nil))))
      (pss_cons (ps_while PassesOwn.never (pt_cmp (pc_din (hu_of hr) (pe_bits (pv 2)) (pv 1))) (pss_cons (ps_set (i := 4) sc_reduced.nd rfl (Or.inl rfl) (pe_dget (hu_of hr) (pv 1) (pe_bits (pv 2)) (fun _ _ => rfl)))
      (pss_one (ps_par (i := 2) (j := 3) (by rfl) sc_reduced.nd rfl rfl (by decide) rfl rfl (pa_cons (pe_op op_xor (pv 2) (pe_ix ix_tupH (pv 4) pe_int (fun _ _ => rfl))) (pa_cons (pe_op op_xor (pv 3) (pe_ix ix_tupH (pv 4) pe_int (fun _ _ => rfl))) pa_nil)) (by rfl)))))
      (pss_one (ps_ret (pe_tup (pa_cons (pv 2) (pa_cons (pv 3) pa_nil))))))), ?_⟩
  try simp only [tSeq, tAsg, tVar, tC, tOp, rI0, rI, tUn, rU, tIfS, tTest, tRet, tRetN, tDrop, tCB, tCons, tNil, tLst, tLstI, tTup, gName, tB, tAnd, tOr, tNot, tAndV, tOrV, tNotV, tIf, tNext, tBreak, tCont, gSub, tCall, tCallN, tAug, ipI, tBML, tBML0, isL_IL, isL_lst, L2.start, List.map_cons, List.map_nil, List.length_cons, List.length_nil, List.cons_append, List.nil_append, List.getElem?_cons_succ, List.getElem?_cons_zero, Option.some.injEq, exists_eq_left', exists_eq_left, exists_and_left, V.int.injEq, V.ref.injEq, V.bl.injEq, V.str.injEq, List.set_cons_zero, List.set_cons_succ, List.cons.injEq, and_true, true_and, Nat.reduceAdd, Nat.reduceSub, List.replicate_succ, List.replicate_zero, rIxI, rIxH, rIxTH, rSetI, rSetH, rCatI, rRepI, rSlI, rAppendI, rExtendI, decide_eq_true_eq, upd_same, IL_inj, HO.lst.injEq, toInts_cons, toInts_nil, Option.map_some, if_true, if_false, Bool.true_eq_false, Bool.false_eq_true, Bool.not_true, Bool.not_false, Bool.not_eq_true', decide_eq_false_iff_not, atI_0, atI_1, atI_2, atI_3, atI_4, Int.reduceToNat, Int.reduceLT, Int.reduceLE, Int.reduceNeg, Int.reducePow, cast_lit, upd_upd, Int.reduceAdd, Int.reduceMul, Int.reduceSub, Nat.reduceLT, Nat.reduceLeDiff, cmul_r, cdiv_r, tSl, tPart, tNoPart, rEq, rNe, scal_nn, scal_ii, scal_bb, scal_ss, scal_is, scal_si, V.ty.injEq, and_assoc, tyH_non, tyH_bl, tyH_int, tyH_str, tyH_ref, tyO_lst, tyO_IL, tyO_tup, itO_lst, itO_tup, itO_IL, Dw.rIxD, rLenI, rLenH, rLenTH, rLenQ, rLenB, rListI, Dw.rListS, rIntI, rIntB, rSumI, rIsiD, rIsX, tCallS, tMakeS, tMake, tMakeC, tMakeSC, tFld, sFld, HO.ins.injEq, HO.tup.injEq, cxOf_K, nox_K, tr_K, suite_K, rTupleI, rAllB, rAnyB, BL_inj, tChain, wOnly, wAs, wMany, rEqI, rNeI, Dw.rMax2, rMin2, Dw.rIsN, rIsNotN, rStrIn, rStrNotIn, not_true_eq_false, not_false_eq_true, reduceCtorEq, cl_bool, cl_int, cl_str, cl_list, cl_tuple, isB_NoneType_bool, isB_NoneType_int, isB_NoneType_str, isB_NoneType_list, isB_NoneType_tuple, isB_bool_bool, isB_bool_int, isB_bool_str, isB_bool_list, isB_bool_tuple, isB_int_bool, isB_int_int, isB_int_str, isB_int_list, isB_int_tuple, isB_str_bool, isB_str_int, isB_str_str, isB_str_list, isB_str_tuple, isB_list_bool, isB_list_int, isB_list_str, isB_list_list, isB_list_tuple, isB_tuple_bool, isB_tuple_int, isB_tuple_str, isB_tuple_list, isB_tuple_tuple, rSlCI, iRng3, iRev, gCons, gNil, iZip, iEnum, tLc_eq, tFor_eq, iRng1, iRng2, iList, iTup, rSetD, iKeys, tDNewK, Int.reducePow, Int.reduceNeg, iEz, tPar, tRevL, Dw.rSetL, Dw.rIxL, rIxE, iSeqA, iEnumT, hA]
  refine ⟨a, _, rfl, .of hA, rfl, ?_⟩
  try simp only [tSeq, tAsg, tVar, tC, tOp, rI0, rI, tUn, rU, tIfS, tTest, tRet, tRetN, tDrop, tCB, tCons, tNil, tLst, tLstI, tTup, gName, tB, tAnd, tOr, tNot, tAndV, tOrV, tNotV, tIf, tNext, tBreak, tCont, gSub, tCall, tCallN, tAug, ipI, tBML, tBML0, isL_IL, isL_lst, L2.start, List.map_cons, List.map_nil, List.length_cons, List.length_nil, List.cons_append, List.nil_append, List.getElem?_cons_succ, List.getElem?_cons_zero, Option.some.injEq, exists_eq_left', exists_eq_left, exists_and_left, V.int.injEq, V.ref.injEq, V.bl.injEq, V.str.injEq, List.set_cons_zero, List.set_cons_succ, List.cons.injEq, and_true, true_and, Nat.reduceAdd, Nat.reduceSub, List.replicate_succ, List.replicate_zero, rIxI, rIxH, rIxTH, rSetI, rSetH, rCatI, rRepI, rSlI, rAppendI, rExtendI, decide_eq_true_eq, upd_same, IL_inj, HO.lst.injEq, toInts_cons, toInts_nil, Option.map_some, if_true, if_false, Bool.true_eq_false, Bool.false_eq_true, Bool.not_true, Bool.not_false, Bool.not_eq_true', decide_eq_false_iff_not, atI_0, atI_1, atI_2, atI_3, atI_4, Int.reduceToNat, Int.reduceLT, Int.reduceLE, Int.reduceNeg, Int.reducePow, cast_lit, upd_upd, Int.reduceAdd, Int.reduceMul, Int.reduceSub, Nat.reduceLT, Nat.reduceLeDiff, cmul_r, cdiv_r, tSl, tPart, tNoPart, rEq, rNe, scal_nn, scal_ii, scal_bb, scal_ss, scal_is, scal_si, V.ty.injEq, and_assoc, tyH_non, tyH_bl, tyH_int, tyH_str, tyH_ref, tyO_lst, tyO_IL, tyO_tup, itO_lst, itO_tup, itO_IL, Dw.rIxD, rLenI, rLenH, rLenTH, rLenQ, rLenB, rListI, Dw.rListS, rIntI, rIntB, rSumI, rIsiD, rIsX, tCallS, tMakeS, tMake, tMakeC, tMakeSC, tFld, sFld, HO.ins.injEq, HO.tup.injEq, cxOf_K, nox_K, tr_K, suite_K, rTupleI, rAllB, rAnyB, BL_inj, tChain, wOnly, wAs, wMany, rEqI, rNeI, Dw.rMax2, rMin2, Dw.rIsN, rIsNotN, rStrIn, rStrNotIn, not_true_eq_false, not_false_eq_true, reduceCtorEq, cl_bool, cl_int, cl_str, cl_list, cl_tuple, isB_NoneType_bool, isB_NoneType_int, isB_NoneType_str, isB_NoneType_list, isB_NoneType_tuple, isB_bool_bool, isB_bool_int, isB_bool_str, isB_bool_list, isB_bool_tuple, isB_int_bool, isB_int_int, isB_int_str, isB_int_list, isB_int_tuple, isB_str_bool, isB_str_int, isB_str_str, isB_str_list, isB_str_tuple, isB_list_bool, isB_list_int, isB_list_str, isB_list_list, isB_list_tuple, isB_tuple_bool, isB_tuple_int, isB_tuple_str, isB_tuple_list, isB_tuple_tuple, rSlCI, iRng3, iRev, gCons, gNil, iZip, iEnum, tLc_eq, tFor_eq, iRng1, iRng2, iList, iTup, rSetD, iKeys, tDNewK, Int.reducePow, Int.reduceNeg, iEz, tPar, tRevL, Dw.rSetL, Dw.rIxL, rIxE, iSeqA, iEnumT]
  refine while_by (fun σ H' => H' = H ∧ ∃ (x y : Nat) (z : Option V), Red B x y d' c' ∧ σ = [some (.ref a), some (.ref m), some (.int (x : Int)), some (.int (y : Int)), z]) (fun σ _ => match σ[2]? with | some (some (L2.V.int i)) => sz i.toNat | _ => 0) ⟨rfl, d, c, _, hR, rfl⟩ ?_ ?_
  · intro σ H' h
    obtain ⟨rfl, x, y, z, hr1, rfl⟩ := h
    try simp only [tSeq, tAsg, tVar, tC, tOp, rI0, rI, tUn, rU, tIfS, tTest, tRet, tRetN, tDrop, tCB, tCons, tNil, tLst, tLstI, tTup, gName, tB, tAnd, tOr, tNot, tAndV, tOrV, tNotV, tIf, tNext, tBreak, tCont, gSub, tCall, tCallN, tAug, ipI, tBML, tBML0, isL_IL, isL_lst, L2.start, List.map_cons, List.map_nil, List.length_cons, List.length_nil, List.cons_append, List.nil_append, List.getElem?_cons_succ, List.getElem?_cons_zero, Option.some.injEq, exists_eq_left', exists_eq_left, exists_and_left, V.int.injEq, V.ref.injEq, V.bl.injEq, V.str.injEq, List.set_cons_zero, List.set_cons_succ, List.cons.injEq, and_true, true_and, Nat.reduceAdd, Nat.reduceSub, List.replicate_succ, List.replicate_zero, rIxI, rIxH, rIxTH, rSetI, rSetH, rCatI, rRepI, rSlI, rAppendI, rExtendI, decide_eq_true_eq, upd_same, IL_inj, HO.lst.injEq, toInts_cons, toInts_nil, Option.map_some, if_true, if_false, Bool.true_eq_false, Bool.false_eq_true, Bool.not_true, Bool.not_false, Bool.not_eq_true', decide_eq_false_iff_not, atI_0, atI_1, atI_2, atI_3, atI_4, Int.reduceToNat, Int.reduceLT, Int.reduceLE, Int.reduceNeg, Int.reducePow, cast_lit, upd_upd, Int.reduceAdd, Int.reduceMul, Int.reduceSub, Nat.reduceLT, Nat.reduceLeDiff, cmul_r, cdiv_r, tSl, tPart, tNoPart, rEq, rNe, scal_nn, scal_ii, scal_bb, scal_ss, scal_is, scal_si, V.ty.injEq, and_assoc, tyH_non, tyH_bl, tyH_int, tyH_str, tyH_ref, tyO_lst, tyO_IL, tyO_tup, itO_lst, itO_tup, itO_IL, Dw.rIxD, rLenI, rLenH, rLenTH, rLenQ, rLenB, rListI, Dw.rListS, rIntI, rIntB, rSumI, rIsiD, rIsX, tCallS, tMakeS, tMake, tMakeC, tMakeSC, tFld, sFld, HO.ins.injEq, HO.tup.injEq, cxOf_K, nox_K, tr_K, suite_K, rTupleI, rAllB, rAnyB, BL_inj, tChain, wOnly, wAs, wMany, rEqI, rNeI, Dw.rMax2, rMin2, Dw.rIsN, rIsNotN, rStrIn, rStrNotIn, not_true_eq_false, not_false_eq_true, reduceCtorEq, cl_bool, cl_int, cl_str, cl_list, cl_tuple, isB_NoneType_bool, isB_NoneType_int, isB_NoneType_str, isB_NoneType_list, isB_NoneType_tuple, isB_bool_bool, isB_bool_int, isB_bool_str, isB_bool_list, isB_bool_tuple, isB_int_bool, isB_int_int, isB_int_str, isB_int_list, isB_int_tuple, isB_str_bool, isB_str_int, isB_str_str, isB_str_list, isB_str_tuple, isB_list_bool, isB_list_int, isB_list_str, isB_list_list, isB_list_tuple, isB_tuple_bool, isB_tuple_int, isB_tuple_str, isB_tuple_list, isB_tuple_tuple, rSlCI, iRng3, iRev, gCons, gNil, iZip, iEnum, tLc_eq, tFor_eq, iRng1, iRng2, iList, iTup, rSetD, iKeys, tDNewK, Int.reducePow, Int.reduceNeg, iEz, tPar, tRevL, Dw.rSetL, Dw.rIxL, rIxE, iSeqA, iEnumT, tDIn, tBits, tDGet, sz_bits]
    have hg : DGet H' m (V.int ((sz x : Nat) : Int)) (valV kvs (.inl ((sz x : Nat) : Int))) := DGet.k (k := .inl ((sz x : Nat) : Int)) hM
    refine ⟨_, hg, ?_⟩
    rcases hkv.val (sz x) with ⟨h1, h2⟩ | ⟨v, ⟨b, xb⟩, h1, h2, t, rfl, ht⟩
    · rw [h1] at hg ⊢
      rw [if_neg (by decide)]
      cases hr1 with
      | stop _ => exact ⟨line_le (by decide), fun r nr => k r _ (same_new nr _) nr upd_same⟩
      | step q _ => rw [h2] at q; cases q
    · rw [h1] at hg ⊢
      rw [if_pos (show (some (V.ref t)).isSome = true from rfl)]
      refine ⟨_, hg, t, rfl, _, ht, _, rfl, _, rfl, t, rfl, _, ht, _, rfl, _, rfl, ?_⟩
      cases hr1 with
      | stop q => rw [h2] at q; cases q
      | step q r =>
        rw [h2] at q
        cases q
        rw [xorN, xorN]
        exact ⟨⟨_, _, r, rfl, rfl, _, rfl⟩, hNz.less h2⟩
  · intro σ H1 Q1 Q2 hq h
    try simp only [tSeq, tAsg, tVar, tC, tOp, rI0, rI, tUn, rU, tIfS, tTest, tRet, tRetN, tDrop, tCB, tCons, tNil, tLst, tLstI, tTup, gName, tB, tAnd, tOr, tNot, tAndV, tOrV, tNotV, tIf, tNext, tBreak, tCont, gSub, tCall, tCallN, tAug, ipI, tBML, tBML0, isL_IL, isL_lst, L2.start, List.map_cons, List.map_nil, List.length_cons, List.length_nil, List.cons_append, List.nil_append, List.getElem?_cons_succ, List.getElem?_cons_zero, Option.some.injEq, exists_eq_left', exists_eq_left, exists_and_left, V.int.injEq, V.ref.injEq, V.bl.injEq, V.str.injEq, List.set_cons_zero, List.set_cons_succ, List.cons.injEq, and_true, true_and, Nat.reduceAdd, Nat.reduceSub, List.replicate_succ, List.replicate_zero, rIxI, rIxH, rIxTH, rSetI, rSetH, rCatI, rRepI, rSlI, rAppendI, rExtendI, decide_eq_true_eq, upd_same, IL_inj, HO.lst.injEq, toInts_cons, toInts_nil, Option.map_some, if_true, if_false, Bool.true_eq_false, Bool.false_eq_true, Bool.not_true, Bool.not_false, Bool.not_eq_true', decide_eq_false_iff_not, atI_0, atI_1, atI_2, atI_3, atI_4, Int.reduceToNat, Int.reduceLT, Int.reduceLE, Int.reduceNeg, Int.reducePow, cast_lit, upd_upd, Int.reduceAdd, Int.reduceMul, Int.reduceSub, Nat.reduceLT, Nat.reduceLeDiff, cmul_r, cdiv_r, tSl, tPart, tNoPart, rEq, rNe, scal_nn, scal_ii, scal_bb, scal_ss, scal_is, scal_si, V.ty.injEq, and_assoc, tyH_non, tyH_bl, tyH_int, tyH_str, tyH_ref, tyO_lst, tyO_IL, tyO_tup, itO_lst, itO_tup, itO_IL, Dw.rIxD, rLenI, rLenH, rLenTH, rLenQ, rLenB, rListI, Dw.rListS, rIntI, rIntB, rSumI, rIsiD, rIsX, tCallS, tMakeS, tMake, tMakeC, tMakeSC, tFld, sFld, HO.ins.injEq, HO.tup.injEq, cxOf_K, nox_K, tr_K, suite_K, rTupleI, rAllB, rAnyB, BL_inj, tChain, wOnly, wAs, wMany, rEqI, rNeI, Dw.rMax2, rMin2, Dw.rIsN, rIsNotN, rStrIn, rStrNotIn, not_true_eq_false, not_false_eq_true, reduceCtorEq, cl_bool, cl_int, cl_str, cl_list, cl_tuple, isB_NoneType_bool, isB_NoneType_int, isB_NoneType_str, isB_NoneType_list, isB_NoneType_tuple, isB_bool_bool, isB_bool_int, isB_bool_str, isB_bool_list, isB_bool_tuple, isB_int_bool, isB_int_int, isB_int_str, isB_int_list, isB_int_tuple, isB_str_bool, isB_str_int, isB_str_str, isB_str_list, isB_str_tuple, isB_list_bool, isB_list_int, isB_list_str, isB_list_list, isB_list_tuple, isB_tuple_bool, isB_tuple_int, isB_tuple_str, isB_tuple_list, isB_tuple_tuple, rSlCI, iRng3, iRev, gCons, gNil, iZip, iEnum, tLc_eq, tFor_eq, iRng1, iRng2, iList, iTup, rSetD, iKeys, tDNewK, Int.reducePow, Int.reduceNeg, iEz, tPar, tRevL, Dw.rSetL, Dw.rIxL, rIxE, iSeqA, iEnumT, tDIn, tBits]
    simp only [tB, tDIn, tBits, tVar] at h
    obtain ⟨v, h1, i, h2, v2, h3, a2, x, h4, h5, b, h6, h7⟩ := h
    cases h6
    exact ⟨v, h1, i, h2, v2, h3, a2, h4, x, h5, hq _ _ h7⟩
end
section
variable {P : Program} {w : World} {K : PySem.W.Frag} {mg : Str → Option Value} {base : Heap} {A : Ad}
theorem walk_zipL {K : PySem.W.Frag} {a b : Addr} {xs ys : List V} {n : Nat} (hn : n = min xs.length ys.length) : Walk (Itz K a b) n (fun H => SqL K H a xs ∧ SqL K H b ys) (fun i H v H' => ∃ T x y, v = .ref T ∧ H T = none ∧ H' = upd H T (.tup [x, y]) ∧ xs[i]? = some x ∧ ys[i]? = some y) := by
  subst hn
  refine ⟨fun i _ hi q => ?_, fun _ q => ⟨xs, ys, q.1, q.2, by omega⟩, fun i H v H' _ q y => ?_⟩
  · have h1 : i < xs.length := by omega
    have h2 : i < ys.length := by omega
    exact ⟨xs, ys, xs[i], ys[i], q.1, q.2, List.getElem?_eq_getElem h1, List.getElem?_eq_getElem h2⟩
  · obtain ⟨T, x, y, h1, h2, h5, h6, h7⟩ := y
    exact ⟨T, x, y, h1, h2, h5, h6 xs q.1, h7 ys q.2⟩
def inU (n : Nat) (us : List Int) : Bool := us.all fun z => decide (0 ≤ z) && decide (z < 8 * (n : Int))
def ascU (us : List Int) : Bool := (List.range (us.length - 1)).all fun i => decide (us.getD i 0 < us.getD (i + 1) 0)
def okU (n : Nat) (us : List Int) : Prop := us.length ≤ 24 ∧ inU n us = true ∧ ascU us = true
def spChkU (CE : Addr) : Sp := fun vs H Q E => ∃ (a u : Addr) (ns us : List Int), vs = [.ref a, .ref u] ∧ H a = some (IL ns) ∧ H u = some (IL us) ∧ ns.length ≤ 100000 ∧ us.length ≤ 100000 ∧ (okU ns.length us → ∀ H', Same H H' → Q .non H') ∧ (¬ okU ns.length us → ∀ H', Same H H' → E (.ref CE) none H')
theorem ok_check_unknown (T : Tx K mg A) : FnOk P w K mg base (L2.CX P w) 1 A.f_check_unknown A.d_check_unknown ["values", "unknown"] (spChkU A.c_InvalidUnknowns) := by
  refine T.F_check_unknown.okX sc_check_unknown (fun vs H Q E h => ?_) (fun cdv A' outer s H vs Q E hr h => ?_)
  · obtain ⟨a, u, ns, us, rfl, _⟩ := h
    rfl
  obtain ⟨a, u, ns, us, rfl, hA, hU, hnl, hul, kY, kN⟩ := h
  refine ⟨_, (pss_cons (ps_if (PW.pt (pw_or (pt_cmpR op_gt (pe_callB call_lenI (by rfl) T.z_len (by decide +kernel) (pa_cons (pv 1) pa_nil)) (pe_glob rfl T.c_MOST_UNKNOWN T.r_MOST_UNKNOWN) (nomark _)) (pw_or1 (pt_not (pt_val (pe_callB (cr_allB rfl) (by rfl) T.z_all (by decide +kernel) (pa_cons (pe_lc (own := [("place", 2)]) (g := (gName 2)) (tt := tYes) rfl sc_check_unknown.nd (pi_list (pv 1)) (blkOk_by (N := n_check_unknown) (sc := (defScope s_check_unknown)) (by decide +kernel)) (fun _ _ _ _ _ => (pg_name (i := 2) sc_check_unknown.nd rfl (Or.inl rfl))) (fun _ _ _ _ _ => pts_nil) (fun _ _ _ _ _ => (pe_chain op_le op_lt pe_int (pv 2) (pe_op op_mul pe_int (pe_callB call_lenI (by rfl) T.z_len (by decide +kernel) (pa_cons (pv 0) pa_nil))) (by with_unfolding_all rfl)))) pa_nil))))))) (pss_one (ps_raise rfl (takes_of rfl rfl rfl rfl) (pmk_own PySem.F.excBase_ValueError T.x_InvalidUnknowns.x T.x_InvalidUnknowns.g T.x_InvalidUnknowns.k (raises_own T.x_InvalidUnknowns.b T.x_InvalidUnknowns.t) rfl))) pss_nil)
      (pss_one (ps_if (pt_not (pt_val (pe_callB (cr_allB rfl) (by rfl) T.z_all (by decide +kernel) (pa_cons (pe_lc (own := [("place", 2), ("other", 3)]) (g := (gTup K 2 (gCons (gName 2) (gCons (gName 3) gNil)))) (tt := tYes) rfl sc_check_unknown.nd (pi_zip (by rfl) T.z_zip (pa_cons (pv 1) (pa_cons (pe_slice sl_listI (pv 1) (po_some pe_int) po_none) pa_nil))) (blkOk_by (N := n_check_unknown) (sc := (defScope s_check_unknown)) (by decide +kernel)) (fun _ _ _ _ _ => (pg_tup (n := 2) rfl (pgs_cons (pg_name (i := 2) sc_check_unknown.nd rfl (Or.inl rfl)) (pgs_cons (pg_name (i := 3) sc_check_unknown.nd rfl (Or.inl rfl)) pgs_nil)))) (fun _ _ _ _ _ => pts_nil) (fun _ _ _ _ _ => (pe_cmpR op_lt (pv 2) (pv 3) (nomark _)))) pa_nil)))) (pss_one (ps_raise rfl (takes_of rfl rfl rfl rfl) (pmk_own PySem.F.excBase_ValueError T.x_InvalidUnknowns.x T.x_InvalidUnknowns.g T.x_InvalidUnknowns.k (raises_own T.x_InvalidUnknowns.b T.x_InvalidUnknowns.t) rfl))) pss_nil))), ?_⟩
  try simp only [tSeq, tAsg, tVar, tC, tOp, rI0, rI, tUn, rU, tIfS, tTest, tRet, tRetN, tDrop, tCB, tCons, tNil, tLst, tLstI, tTup, gName, tB, tAnd, tOr, tNot, tAndV, tOrV, tNotV, tIf, tNext, tBreak, tCont, gSub, tCall, tCallN, tAug, ipI, tBML, tBML0, isL_IL, isL_lst, L2.start, List.map_cons, List.map_nil, List.length_cons, List.length_nil, List.cons_append, List.nil_append, List.getElem?_cons_succ, List.getElem?_cons_zero, Option.some.injEq, exists_eq_left', exists_eq_left, exists_and_left, V.int.injEq, V.ref.injEq, V.bl.injEq, V.str.injEq, List.set_cons_zero, List.set_cons_succ, List.cons.injEq, and_true, true_and, Nat.reduceAdd, Nat.reduceSub, List.replicate_succ, List.replicate_zero, rIxI, rIxH, rIxTH, rSetI, rSetH, rCatI, rRepI, rSlI, rAppendI, rExtendI, decide_eq_true_eq, upd_same, IL_inj, HO.lst.injEq, toInts_cons, toInts_nil, Option.map_some, if_true, if_false, Bool.true_eq_false, Bool.false_eq_true, Bool.not_true, Bool.not_false, Bool.not_eq_true', decide_eq_false_iff_not, atI_0, atI_1, atI_2, atI_3, atI_4, Int.reduceToNat, Int.reduceLT, Int.reduceLE, Int.reduceNeg, Int.reducePow, cast_lit, upd_upd, Int.reduceAdd, Int.reduceMul, Int.reduceSub, Nat.reduceLT, Nat.reduceLeDiff, cmul_r, cdiv_r, tSl, tPart, tNoPart, rEq, rNe, scal_nn, scal_ii, scal_bb, scal_ss, scal_is, scal_si, V.ty.injEq, and_assoc, tyH_non, tyH_bl, tyH_int, tyH_str, tyH_ref, tyO_lst, tyO_IL, tyO_tup, itO_lst, itO_tup, itO_IL, Dw.rIxD, rLenI, rLenH, rLenTH, rLenQ, rLenB, rListI, Dw.rListS, rIntI, rIntB, rSumI, rIsiD, rIsX, tCallS, tMakeS, tMake, tMakeC, tMakeSC, tFld, sFld, HO.ins.injEq, HO.tup.injEq, cxOf_K, nox_K, tr_K, suite_K, rTupleI, rAllB, rAnyB, BL_inj, tChain, wOnly, wAs, wMany, rEqI, rNeI, Dw.rMax2, rMin2, Dw.rIsN, rIsNotN, rStrIn, rStrNotIn, not_true_eq_false, not_false_eq_true, reduceCtorEq, cl_bool, cl_int, cl_str, cl_list, cl_tuple, isB_NoneType_bool, isB_NoneType_int, isB_NoneType_str, isB_NoneType_list, isB_NoneType_tuple, isB_bool_bool, isB_bool_int, isB_bool_str, isB_bool_list, isB_bool_tuple, isB_int_bool, isB_int_int, isB_int_str, isB_int_list, isB_int_tuple, isB_str_bool, isB_str_int, isB_str_str, isB_str_list, isB_str_tuple, isB_list_bool, isB_list_int, isB_list_str, isB_list_list, isB_list_tuple, isB_tuple_bool, isB_tuple_int, isB_tuple_str, isB_tuple_list, isB_tuple_tuple, rSlCI, iRng3, iRev, gCons, gNil, iZip, iEnum, tLc_eq, tFor_eq, iRng1, iRng2, iList, iTup, rSetD, iKeys, tDNewK, Int.reducePow, Int.reduceNeg, iEz, tPar, tRevL, Dw.rSetL, Dw.rIxL, rIxE, iSeqA, iEnumT, hA, hU]
  by_cases c1 : (24 : Int) < (us.length : Int)
  · rw [if_pos c1]
    exact kN (fun h => by have := h.1; omega) _ (Same.refl _)
  rw [if_neg c1]
  refine ⟨⟨_, .of hU⟩, fun D nD => ?_⟩
  refine lc_listV (K := K) (a := u) (xs := us.map V.int) (f := fun i => V.bl (decide (0 ≤ us.getD i 0) && decide (us.getD i 0 < 8 * (ns.length : Int)))) (by rw [List.length_map]; omega) (.of hU) nD (fun _ => rfl) ?_ fun H1 s1 e1 => ?_
  · intro i v H3 Q' hi s1 hq
    obtain ⟨z, rfl, hz⟩ := ints_at hi
    have ez : us.getD i 0 = z := by rw [List.getD_eq_getElem?_getD, hz]; rfl
    have hq2 := hq H3 (Same.refl _)
    rw [ez] at hq2
    have hA3 := s1 _ _ hA
    try simp only [tSeq, tAsg, tVar, tC, tOp, rI0, rI, tUn, rU, tIfS, tTest, tRet, tRetN, tDrop, tCB, tCons, tNil, tLst, tLstI, tTup, gName, tB, tAnd, tOr, tNot, tAndV, tOrV, tNotV, tIf, tNext, tBreak, tCont, gSub, tCall, tCallN, tAug, ipI, tBML, tBML0, isL_IL, isL_lst, L2.start, List.map_cons, List.map_nil, List.length_cons, List.length_nil, List.cons_append, List.nil_append, List.getElem?_cons_succ, List.getElem?_cons_zero, Option.some.injEq, exists_eq_left', exists_eq_left, exists_and_left, V.int.injEq, V.ref.injEq, V.bl.injEq, V.str.injEq, List.set_cons_zero, List.set_cons_succ, List.cons.injEq, and_true, true_and, Nat.reduceAdd, Nat.reduceSub, List.replicate_succ, List.replicate_zero, rIxI, rIxH, rIxTH, rSetI, rSetH, rCatI, rRepI, rSlI, rAppendI, rExtendI, decide_eq_true_eq, upd_same, IL_inj, HO.lst.injEq, toInts_cons, toInts_nil, Option.map_some, if_true, if_false, Bool.true_eq_false, Bool.false_eq_true, Bool.not_true, Bool.not_false, Bool.not_eq_true', decide_eq_false_iff_not, atI_0, atI_1, atI_2, atI_3, atI_4, Int.reduceToNat, Int.reduceLT, Int.reduceLE, Int.reduceNeg, Int.reducePow, cast_lit, upd_upd, Int.reduceAdd, Int.reduceMul, Int.reduceSub, Nat.reduceLT, Nat.reduceLeDiff, cmul_r, cdiv_r, tSl, tPart, tNoPart, rEq, rNe, scal_nn, scal_ii, scal_bb, scal_ss, scal_is, scal_si, V.ty.injEq, and_assoc, tyH_non, tyH_bl, tyH_int, tyH_str, tyH_ref, tyO_lst, tyO_IL, tyO_tup, itO_lst, itO_tup, itO_IL, Dw.rIxD, rLenI, rLenH, rLenTH, rLenQ, rLenB, rListI, Dw.rListS, rIntI, rIntB, rSumI, rIsiD, rIsX, tCallS, tMakeS, tMake, tMakeC, tMakeSC, tFld, sFld, HO.ins.injEq, HO.tup.injEq, cxOf_K, nox_K, tr_K, suite_K, rTupleI, rAllB, rAnyB, BL_inj, tChain, wOnly, wAs, wMany, rEqI, rNeI, Dw.rMax2, rMin2, Dw.rIsN, rIsNotN, rStrIn, rStrNotIn, not_true_eq_false, not_false_eq_true, reduceCtorEq, cl_bool, cl_int, cl_str, cl_list, cl_tuple, isB_NoneType_bool, isB_NoneType_int, isB_NoneType_str, isB_NoneType_list, isB_NoneType_tuple, isB_bool_bool, isB_bool_int, isB_bool_str, isB_bool_list, isB_bool_tuple, isB_int_bool, isB_int_int, isB_int_str, isB_int_list, isB_int_tuple, isB_str_bool, isB_str_int, isB_str_str, isB_str_list, isB_str_tuple, isB_list_bool, isB_list_int, isB_list_str, isB_list_list, isB_list_tuple, isB_tuple_bool, isB_tuple_int, isB_tuple_str, isB_tuple_list, isB_tuple_tuple, rSlCI, iRng3, iRev, gCons, gNil, iZip, iEnum, tLc_eq, tFor_eq, iRng1, iRng2, iList, iTup, rSetD, iKeys, tDNewK, Int.reducePow, Int.reduceNeg, iEz, tPar, tRevL, Dw.rSetL, Dw.rIxL, rIxE, iSeqA, iEnumT, wipe, hA3]
    by_cases c : 0 ≤ z
    · rw [if_pos c]
      rw [decide_eq_true c, Bool.true_and] at hq2
      exact ⟨.inl ⟨by decide, by decide⟩, hq2⟩
    · rw [if_neg c]
      rw [decide_eq_false c, Bool.false_and] at hq2
      exact hq2
  rw [List.length_map] at e1
  have ea : ((List.range us.length).map fun i => decide (0 ≤ us.getD i 0) && decide (us.getD i 0 < 8 * (ns.length : Int))).all id = inU ns.length us := all_items (p := fun z => decide (0 ≤ z) && decide (z < 8 * (ns.length : Int))) (ns := us)
  refine ⟨_, BL_of e1, ?_⟩
  rw [ea]
  by_cases c2 : inU ns.length us = false
  · rw [if_pos c2]
    exact kN (fun h => by rw [h.2.1] at c2; cases c2) _ s1
  rw [if_neg c2]
  have hU1 := s1 _ _ hU
  refine ⟨_, hU1, fun p np => ?_⟩
  rw [show cutI us (some 1) none = us.drop 1 from cutI_fr us 1]
  have sp := same_new np (IL (us.drop 1))
  have ep : upd H1 p (IL (us.drop 1)) p = _ := upd_same
  generalize upd H1 p (IL (us.drop 1)) = H2 at sp ep  ⊢
  have hU2 := sp _ _ hU1
  refine ⟨us.map V.int, .of hU2, (us.drop 1).map V.int, .of ep, fun D2 nD2 => ?_⟩
  refine lc_it (walk_zipL (K := K) (a := u) (b := p) (n := us.length - 1) (xs := us.map V.int) (ys := (us.drop 1).map V.int) (by rw [List.length_map, List.length_map, List.length_drop]; omega)) (fun i H' => Same H2 H' ∧ H' D2 = some (BL ((List.range i).map fun i => decide (us.getD i 0 < us.getD (i + 1) 0)))) ⟨same_new nD2 _, upd_same⟩ (fun i H' _ h => ⟨.of (h.1 _ _ hU2), .of (h.1 _ _ ep)⟩) ?_ ?_
  · intro i v H3 H4 hi h hy
    obtain ⟨s2, e2⟩ := h
    obtain ⟨t, u0, w0, rfl, n1, rfl, fx0, fy0⟩ := hy
    obtain ⟨x, rfl, fx⟩ := ints_at fx0
    obtain ⟨y, rfl, fy⟩ := ints_at fy0
    rw [List.getElem?_drop] at fy
    have gx : us.getD i 0 = x := by rw [List.getD_eq_getElem?_getD, fx]; rfl
    have gy : us.getD (i + 1) 0 = y := by rw [List.getD_eq_getElem?_getD, Nat.add_comm i 1, fy]; rfl
    have sT := same_new n1 (.tup [V.int x, V.int y])
    refine ⟨t, _, rfl, .of upd_same, rfl, V.int x, [V.int y], rfl, V.int y, [], rfl, rfl, rfl, ?_⟩
    simp only [tYes, if_true]
    try simp only [tSeq, tAsg, tVar, tC, tOp, rI0, rI, tUn, rU, tIfS, tTest, tRet, tRetN, tDrop, tCB, tCons, tNil, tLst, tLstI, tTup, gName, tB, tAnd, tOr, tNot, tAndV, tOrV, tNotV, tIf, tNext, tBreak, tCont, gSub, tCall, tCallN, tAug, ipI, tBML, tBML0, isL_IL, isL_lst, L2.start, List.map_cons, List.map_nil, List.length_cons, List.length_nil, List.cons_append, List.nil_append, List.getElem?_cons_succ, List.getElem?_cons_zero, Option.some.injEq, exists_eq_left', exists_eq_left, exists_and_left, V.int.injEq, V.ref.injEq, V.bl.injEq, V.str.injEq, List.set_cons_zero, List.set_cons_succ, List.cons.injEq, and_true, true_and, Nat.reduceAdd, Nat.reduceSub, List.replicate_succ, List.replicate_zero, rIxI, rIxH, rIxTH, rSetI, rSetH, rCatI, rRepI, rSlI, rAppendI, rExtendI, decide_eq_true_eq, upd_same, IL_inj, HO.lst.injEq, toInts_cons, toInts_nil, Option.map_some, if_true, if_false, Bool.true_eq_false, Bool.false_eq_true, Bool.not_true, Bool.not_false, Bool.not_eq_true', decide_eq_false_iff_not, atI_0, atI_1, atI_2, atI_3, atI_4, Int.reduceToNat, Int.reduceLT, Int.reduceLE, Int.reduceNeg, Int.reducePow, cast_lit, upd_upd, Int.reduceAdd, Int.reduceMul, Int.reduceSub, Nat.reduceLT, Nat.reduceLeDiff, cmul_r, cdiv_r, tSl, tPart, tNoPart, rEq, rNe, scal_nn, scal_ii, scal_bb, scal_ss, scal_is, scal_si, V.ty.injEq, and_assoc, tyH_non, tyH_bl, tyH_int, tyH_str, tyH_ref, tyO_lst, tyO_IL, tyO_tup, itO_lst, itO_tup, itO_IL, Dw.rIxD, rLenI, rLenH, rLenTH, rLenQ, rLenB, rListI, Dw.rListS, rIntI, rIntB, rSumI, rIsiD, rIsX, tCallS, tMakeS, tMake, tMakeC, tMakeSC, tFld, sFld, HO.ins.injEq, HO.tup.injEq, cxOf_K, nox_K, tr_K, suite_K, rTupleI, rAllB, rAnyB, BL_inj, tChain, wOnly, wAs, wMany, rEqI, rNeI, Dw.rMax2, rMin2, Dw.rIsN, rIsNotN, rStrIn, rStrNotIn, not_true_eq_false, not_false_eq_true, reduceCtorEq, cl_bool, cl_int, cl_str, cl_list, cl_tuple, isB_NoneType_bool, isB_NoneType_int, isB_NoneType_str, isB_NoneType_list, isB_NoneType_tuple, isB_bool_bool, isB_bool_int, isB_bool_str, isB_bool_list, isB_bool_tuple, isB_int_bool, isB_int_int, isB_int_str, isB_int_list, isB_int_tuple, isB_str_bool, isB_str_int, isB_str_str, isB_str_list, isB_str_tuple, isB_list_bool, isB_list_int, isB_list_str, isB_list_list, isB_list_tuple, isB_tuple_bool, isB_tuple_int, isB_tuple_str, isB_tuple_list, isB_tuple_tuple, rSlCI, iRng3, iRev, gCons, gNil, iZip, iEnum, tLc_eq, tFor_eq, iRng1, iRng2, iList, iTup, rSetD, iKeys, tDNewK, Int.reducePow, Int.reduceNeg, iEz, tPar, tRevL, Dw.rSetL, Dw.rIxL, rIxE, iSeqA, iEnumT, wipe]
    refine ⟨_, sT _ _ e2, by rw [List.length_map, List.length_map, List.length_range]; exact line_lt (by omega), fun c o hc => by rw [upd_ne (ne_of_none hc nD2)]; exact sT _ _ (s2 _ _ hc), ?_⟩
    rw [List.range_succ, List.map_append]
    unfold BL
    rw [List.map_append]
    simp only [List.map_cons, List.map_nil, gx, gy]
  · intro H3 h
    obtain ⟨s2, e2⟩ := h
    refine ⟨_, e2, ?_⟩
    have hall : (((List.range (us.length - 1)).map fun i => decide (us.getD i 0 < us.getD (i + 1) 0))).all id = ascU us := by
      unfold ascU
      rw [List.all_map]
      rfl
    rw [hall]
    have sA := s1.trans (sp.trans s2)
    by_cases c3 : ascU us = false
    · rw [if_pos c3]
      exact kN (fun h => by rw [h.2.2] at c3; cases c3) _ sA
    · rw [if_neg c3]
      exact kY ⟨by omega, by revert c2; cases inU ns.length us <;> simp, by revert c3; cases ascU us <;> simp⟩ _ sA
end
section
variable {P : Program} {w : World} {K : PySem.W.Frag} {mg : Str → Option Value} {base : Heap} {A : Ad}
theorem lc_enumG {K : PySem.W.Frag} {a : Addr} {xs : List Int} {kp : Nat → Bool} {f : Nat → Int} {i1 i2 : Nat} {tt : TT} {te : TE} {vs : List Nat} {σ : L2.St} {H1 : Hp} {D : Addr} {Qd : Hp → Prop} (hn : xs.length ≤ 16777215) (hx : H1 a = some (IL xs)) (hD : H1 D = none)
    (hw : ∀ v w, wipe (((wipe σ vs).set i1 v).set i2 w) vs = wipe σ vs)
    (htt : ∀ (i : Nat) x H3 (Q' : Bool → Hp → Prop), xs[i]? = some x → Same H1 H3 → (∀ H4, Same H3 H4 → Q' (kp i) H4) → tt (((wipe σ vs).set i1 (some (.int (i : Int)))).set i2 (some (.int x))) H3 Q')
    (hte : ∀ (i : Nat) x H3 (Q' : VK), xs[i]? = some x → Same H1 H3 → (∀ H4, Same H3 H4 → Q' (.int (f i)) H4) → te (((wipe σ vs).set i1 (some (.int (i : Int)))).set i2 (some (.int x))) H3 Q')
    (hd : ∀ H', Same H1 H' → H' D = some (IL (((List.range xs.length).filter kp).map f)) → Qd H') :
    LcW (Ite K a) (gTup K 2 (gCons (gName i1) (gCons (gName i2) gNil))) tt te vs σ H1 D Qd := by
  have wk := walk_enum (K := K) (a := a) (xs := xs.map V.int)
  rw [List.length_map] at wk
  refine lc_it wk (fun i H' => Same H1 H' ∧ H' D = some (IL (((List.range i).filter kp).map f))) ⟨same_new hD _, upd_same⟩ (fun i H _ h => .of (h.1 _ _ hx)) ?_ ?_
  · intro i x H H' hi h hy
    obtain ⟨h1, h2⟩ := h
    obtain ⟨t, x, y, rfl, nt, rfl, ex, ey⟩ := hy
    cases ex
    obtain ⟨y, rfl, fy⟩ := ints_at ey
    have s1 := h1.trans (same_new nt (.tup [V.int (i : Int), V.int y]))
    refine ⟨t, _, rfl, .of upd_same, rfl, V.int (i : Int), [V.int y], rfl, V.int y, [], rfl, rfl, hw _ _, ?_⟩
    refine htt i y _ _ fy s1 fun H4 s4 => ?_
    have e4 : H4 D = some (IL (((List.range i).filter kp).map f)) := s4 _ _ (same_new nt _ _ _ h2)
    have hle := List.length_filter_le kp (List.range i)
    rw [List.length_range] at hle
    by_cases c : kp i = true
    · rw [if_pos c]
      refine hte i y _ _ fy (s1.trans s4) fun H5 s5 => ?_
      refine ⟨_, s5 _ _ e4, by rw [List.length_map, List.length_map]; exact line_lt (by omega), fun b o hb => ?_, ?_⟩
      · rw [upd_ne (ne_of_none hb hD)]
        exact s5 _ _ (s4 _ _ (s1 _ _ hb))
      · rw [upd_same, List.range_succ, List.filter_append, List.map_append]
        unfold IL
        rw [List.map_append]
        simp [c]
    · rw [if_neg c]
      refine ⟨s1.trans s4, ?_⟩
      rw [e4, List.range_succ, List.filter_append]
      simp [c]
  · intro H h
    exact hd H h.1 h.2
end
section
variable {P : Program} {w : World} {K : PySem.W.Frag} {mg : Str → Option Value} {base : Heap} {A : Ad}
theorem if_yes {c : Prop} [Decidable c] {G S : Prop} (h : c) (s : S) : if c then S else G := by rw [if_pos h]; exact s
theorem if_no {c : Prop} [Decidable c] {G S : Prop} (h : ¬ c) (s : G) : if c then S else G := by rw [if_neg h]; exact s
def spSolved (CE : Addr) : Sp := fun vs H Q E => ∃ (a u : Addr) (ns : List Nat) (us : List Int) (wd : Nat), vs = [.ref a, .ref u, .int (wd : Int)] ∧ H a = some (IL (zs ns)) ∧ H u = some (IL us) ∧ (∀ v ∈ ns, v < 256) ∧ ns.length ≤ 1000 ∧ us.length ≤ 100000 ∧ wd < 65536 ∧
  (∀ ps, us = zs ps → okU ns.length us → ps.Nodup → (∀ p ∈ ps, p < 8 * ns.length) → ∀ r q H' (L : List Nat), Same H H' → H r = none → H' r = some (.tup [.int ((cnt (ps.reverse.map (chg ns.length)) (crcN (sets ns ps.reverse 0) ^^^ wd) : Nat) : Int), .ref q]) → H' q = some (IL (zs L)) →
    (cnt (ps.reverse.map (chg ns.length)) (crcN (sets ns ps.reverse 0) ^^^ wd) ≠ 0 → ∃ c, c < 2 ^ ps.length ∧ comb (ps.reverse.map (chg ns.length)) c = crcN (sets ns ps.reverse 0) ^^^ wd ∧ L = chs ps.reverse c) → Q (.ref r) H') ∧ (¬ okU ns.length us → ∀ H', Same H H' → E (.ref CE) none H')
theorem okU_ps {n : Nat} {us : List Int} (h : okU n us) : ∃ ps : List Nat, us = zs ps ∧ ps.Nodup ∧ (∀ p ∈ ps, p < 8 * n) ∧ ps.length ≤ 24 := by
  obtain ⟨h1, h2, h3⟩ := h
  have hin : ∀ z ∈ us, 0 ≤ z ∧ z < 8 * (n : Int) := fun z hz => by
    have := List.all_eq_true.mp h2 z hz
    simp only [Bool.and_eq_true, decide_eq_true_eq] at this
    exact this
  have hst : ∀ i, i + 1 < us.length → us.getD i 0 < us.getD (i + 1) 0 := fun i hi => by
    have := List.all_eq_true.mp h3 i (List.mem_range.mpr (by omega))
    exact of_decide_eq_true this
  have hlt : ∀ k i, i + k + 1 < us.length → us.getD i 0 < us.getD (i + k + 1) 0 := fun k => by
    induction k with
    | zero => exact fun i hi => hst i hi
    | succ k ih =>
      intro i hi
      have q1 := ih i (by omega)
      have q2 := hst (i + k + 1) (by omega)
      rw [show i + (k + 1) + 1 = i + k + 1 + 1 by omega]
      omega
  refine ⟨us.map Int.toNat, ?_, ?_, ?_, by rw [List.length_map]; exact h1⟩
  · have : us.map ((fun n : Nat => (n : Int)) ∘ Int.toNat) = us.map id := List.map_congr_left fun z hz => by
      have := hin z hz
      show ((z.toNat : Nat) : Int) = z
      omega
    unfold zs
    rw [List.map_map, this, List.map_id]
  · unfold List.Nodup
    rw [List.pairwise_iff_getElem]
    intro i j hi hj hij e
    rw [List.getElem_map, List.getElem_map] at e
    rw [List.length_map] at hi hj
    have := hlt (j - i - 1) i (by omega)
    rw [show i + (j - i - 1) + 1 = j by omega, List.getD_eq_getElem?_getD, List.getD_eq_getElem?_getD, List.getElem?_eq_getElem hi, List.getElem?_eq_getElem hj] at this
    replace this : us[i] < us[j] := this
    have a1 := hin _ (List.getElem_mem hi)
    omega
  · intro p hp
    obtain ⟨z, hz, rfl⟩ := List.mem_map.mp hp
    have := hin z hz
    omega
theorem comb_zero : ∀ vs : List Nat, comb vs 0 = 0
  | [] => rfl
  | v :: r => by
    show (if (0 : Nat).testBit r.length then v else 0) ^^^ comb r 0 = 0
    rw [comb_zero r, Nat.zero_testBit, if_neg Bool.false_ne_true]
    exact Nat.zero_xor 0
theorem chs_enum (ps : List Nat) (c : Nat) : ∀ i, i ≤ ps.length → ((List.range i).filter fun i => c.testBit i).map (fun i => ps.getD i 0) = chs (ps.take i).reverse c
  | 0, _ => rfl
  | i + 1, h => by
    have hg : ps[i]? = some ps[i] := List.getElem?_eq_getElem (by omega)
    rw [List.range_succ, List.filter_append, List.map_append, chs_enum ps c i (by omega), take_more hg, List.reverse_append]
    show _ = chs (ps.take i).reverse c ++ if c.testBit (ps.take i).reverse.length then [ps[i]] else []
    rw [List.length_reverse, List.length_take, Nat.min_eq_left (by omega)]
    congr 1
    by_cases q : c.testBit i = true
    · rw [if_pos q, List.filter_cons_of_pos q, List.filter_nil, List.map_cons, List.map_nil, List.getD_eq_getElem?_getD, hg]
      rfl
    · rw [if_neg q, List.filter_cons_of_neg q]
      rfl
theorem ok_solved (T : Tx K mg A) : FnOk P w K mg base (L2.CX P w) 4 A.f_solved A.d_solved ["values", "unknown", "wanted"] (spSolved A.c_InvalidUnknowns) := by
  refine T.F_solved.okX sc_solved (fun vs H Q E h => ?_) (fun cdv A' outer s H vs Q E hr h => ?_)
  · obtain ⟨a, u, ns, us, wd, rfl, _⟩ := h
    rfl
  obtain ⟨a, u, ns, us, wd, rfl, hA, hU, hb, hnl, hul, hwd, kY, kN⟩ := h
  refine ⟨_, (pss_cons (ps_expr (pe_call (ok_check_unknown T) (hr.mono (by decide)) rfl T.g_check_unknown T.F_check_unknown.kp T.b_check_unknown .nil (passW (takes_of rfl rfl rfl rfl) (fun _ _ _ _ h => h)) (pa_cons (pv 0) (pa_cons (pv 1) pa_nil))))
      (pss_cons (ps_set (i := 3) sc_solved.nd rfl (Or.inl rfl) pe_dnewK)
      (pss_cons (ps_for (passes_of rfl) rfl (pi_enum (by rfl) T.z_enumerate (pa_cons (pv 1) pa_nil)) (pg_tup (n := 2) rfl (pgs_cons (pg_name (i := 4) sc_solved.nd rfl (Or.inl rfl)) (pgs_cons (pg_name (i := 5) sc_solved.nd rfl (Or.inl rfl)) pgs_nil)))
        (pss_cons (ps_set (i := 6) sc_solved.nd rfl (Or.inl rfl) (pe_call (ok_reduced T) (hr.mono (by decide)) rfl T.g_reduced T.F_reduced.kp T.b_reduced .nil pass0 (pa_cons (pe_tup (pa_cons (pe_call (ok_crc_change T) (hr.mono (by decide)) rfl T.g_crc_change T.F_crc_change.kp T.b_crc_change .nil pass0 (pa_cons (pe_callB call_lenI (by rfl) T.z_len (by decide +kernel) (pa_cons (pv 0) pa_nil)) (pa_cons (pv 5) pa_nil))) (pa_cons (pe_op op_shl pe_int (pv 4)) pa_nil))) (pa_cons (pv 3) pa_nil))))
      (pss_one (ps_if (pt_cmpR op_ne (pe_ix ix_tupH (pv 6) pe_int (fun _ _ => rfl)) pe_int (nomark _)) (pss_one (ps_asg (pv 6) (pg_sub (pv 3) (pe_bits (pe_ix ix_tupH (pv 6) pe_int (fun _ _ => rfl))) (set_dict (hu_of hr))))) pss_nil))))
      (pss_cons (ps_set (i := 7) sc_solved.nd rfl (Or.inl rfl) (pe_call (ok_exclusive T) (hr.mono (by decide)) rfl T.g_exclusive T.F_exclusive.kp T.b_exclusive .nil pass0 (pa_cons (pe_call (ok_crc T) (hr.mono (by decide)) rfl T.g_crc T.F_crc.kp T.b_crc .nil pass0 (pa_cons (pe_call (ok_with_bits_cleared T) (hr.mono (by decide)) rfl T.g_with_bits_cleared T.F_with_bits_cleared.kp T.b_with_bits_cleared .nil pass0 (pa_cons (pv 0) (pa_cons (pv 1) pa_nil))) pa_nil)) (pa_cons (pv 2) pa_nil))))
      (pss_cons (ps_asg (pe_call (ok_reduced T) (hr.mono (by decide)) rfl T.g_reduced T.F_reduced.kp T.b_reduced .nil pass0 (pa_cons (pe_tup (pa_cons (pv 7) (pa_cons pe_int pa_nil))) (pa_cons (pv 3) pa_nil))) (pg_tup (n := 2) rfl (pgs_cons (pg_name (i := 8) sc_solved.nd rfl (Or.inl rfl)) (pgs_cons (pg_name (i := 9) sc_solved.nd rfl (Or.inr rfl)) pgs_nil))))
      (pss_cons (ps_if (pt_cmpR op_ne (pv 8) pe_int (nomark _)) (pss_one (ps_ret (pe_tup (pa_cons pe_int (pa_cons (pe_lstI pa_nil) pa_nil))))) pss_nil)
      (pss_one (ps_ret (pe_tup (pa_cons (pe_op op_shl pe_int (pe_op op_sub (pe_callB call_lenI (by rfl) T.z_len (by decide +kernel) (pa_cons (pv 1) pa_nil)) (pe_callB call_lenD (by rfl) T.z_len (by decide +kernel) (pa_cons (pv 3) pa_nil)))) (pa_cons (pe_lc (own := [("at", 4), ("place", 5)]) (g := (gTup K 2 (gCons (gName 4) (gCons (gName 5) gNil)))) rfl sc_solved.nd (pi_enum (by rfl) T.z_enumerate (pa_cons (pv 1) pa_nil)) (blkOk_by (N := n_solved) (sc := (defScope s_solved)) (by decide +kernel)) (fun _ _ _ _ _ => (pg_tup (n := 2) rfl (pgs_cons (pg_name (i := 4) sc_solved.nd rfl (Or.inl rfl)) (pgs_cons (pg_name (i := 5) sc_solved.nd rfl (Or.inl rfl)) pgs_nil)))) (fun _ _ _ _ _ => (pts_one (pt_cmpR op_eq (pe_op op_and (pe_op op_shr (pv 9) (pv 4)) pe_int) pe_int (nomark _)))) (fun _ _ _ _ _ => (pv 5))) pa_nil))))))))))), ?_⟩
  try simp only [tSeq, tAsg, tVar, tC, tOp, rI0, rI, tUn, rU, tIfS, tTest, tRet, tRetN, tDrop, tCB, tCons, tNil, tLst, tLstI, tTup, gName, tB, tAnd, tOr, tNot, tAndV, tOrV, tNotV, tIf, tNext, tBreak, tCont, gSub, tCall, tCallN, tAug, ipI, tBML, tBML0, isL_IL, isL_lst, L2.start, List.map_cons, List.map_nil, List.length_cons, List.length_nil, List.cons_append, List.nil_append, List.getElem?_cons_succ, List.getElem?_cons_zero, Option.some.injEq, exists_eq_left', exists_eq_left, exists_and_left, V.int.injEq, V.ref.injEq, V.bl.injEq, V.str.injEq, List.set_cons_zero, List.set_cons_succ, List.cons.injEq, and_true, true_and, Nat.reduceAdd, Nat.reduceSub, List.replicate_succ, List.replicate_zero, rIxI, rIxH, rIxTH, rSetI, rSetH, rCatI, rRepI, rSlI, rAppendI, rExtendI, decide_eq_true_eq, upd_same, IL_inj, HO.lst.injEq, toInts_cons, toInts_nil, Option.map_some, if_true, if_false, Bool.true_eq_false, Bool.false_eq_true, Bool.not_true, Bool.not_false, Bool.not_eq_true', decide_eq_false_iff_not, atI_0, atI_1, atI_2, atI_3, atI_4, Int.reduceToNat, Int.reduceLT, Int.reduceLE, Int.reduceNeg, Int.reducePow, cast_lit, upd_upd, Int.reduceAdd, Int.reduceMul, Int.reduceSub, Nat.reduceLT, Nat.reduceLeDiff, cmul_r, cdiv_r, tSl, tPart, tNoPart, rEq, rNe, scal_nn, scal_ii, scal_bb, scal_ss, scal_is, scal_si, V.ty.injEq, and_assoc, tyH_non, tyH_bl, tyH_int, tyH_str, tyH_ref, tyO_lst, tyO_IL, tyO_tup, itO_lst, itO_tup, itO_IL, Dw.rIxD, rLenI, rLenH, rLenTH, rLenQ, rLenB, rListI, Dw.rListS, rIntI, rIntB, rSumI, rIsiD, rIsX, tCallS, tMakeS, tMake, tMakeC, tMakeSC, tFld, sFld, HO.ins.injEq, HO.tup.injEq, cxOf_K, nox_K, tr_K, suite_K, rTupleI, rAllB, rAnyB, BL_inj, tChain, wOnly, wAs, wMany, rEqI, rNeI, Dw.rMax2, rMin2, Dw.rIsN, rIsNotN, rStrIn, rStrNotIn, not_true_eq_false, not_false_eq_true, reduceCtorEq, cl_bool, cl_int, cl_str, cl_list, cl_tuple, isB_NoneType_bool, isB_NoneType_int, isB_NoneType_str, isB_NoneType_list, isB_NoneType_tuple, isB_bool_bool, isB_bool_int, isB_bool_str, isB_bool_list, isB_bool_tuple, isB_int_bool, isB_int_int, isB_int_str, isB_int_list, isB_int_tuple, isB_str_bool, isB_str_int, isB_str_str, isB_str_list, isB_str_tuple, isB_list_bool, isB_list_int, isB_list_str, isB_list_list, isB_list_tuple, isB_tuple_bool, isB_tuple_int, isB_tuple_str, isB_tuple_list, isB_tuple_tuple, rSlCI, iRng3, iRev, gCons, gNil, iZip, iEnum, tLc_eq, tFor_eq, iRng1, iRng2, iList, iTup, rSetD, iKeys, tDNewK, Int.reducePow, Int.reduceNeg, iEz, tPar, tRevL, Dw.rSetL, Dw.rIxL, rIxE, iSeqA, iEnumT, hA, hU]
  refine ⟨a, u, zs ns, us, rfl, hA, hU, by rw [zs_len]; omega, hul, fun hok H1 s1 => ?_, fun hno H1 s1 => kN (by rw [zs_len] at hno; exact hno) H1 s1⟩
  rw [zs_len] at hok
  obtain ⟨ps, rfl, hnd, hpp, hpl⟩ := okU_ps hok
  have k := kY ps rfl hok hnd hpp
  clear kY kN
  have hA := s1 _ _ hA
  have hU := s1 _ _ hU
  try simp only [tSeq, tAsg, tVar, tC, tOp, rI0, rI, tUn, rU, tIfS, tTest, tRet, tRetN, tDrop, tCB, tCons, tNil, tLst, tLstI, tTup, gName, tB, tAnd, tOr, tNot, tAndV, tOrV, tNotV, tIf, tNext, tBreak, tCont, gSub, tCall, tCallN, tAug, ipI, tBML, tBML0, isL_IL, isL_lst, L2.start, List.map_cons, List.map_nil, List.length_cons, List.length_nil, List.cons_append, List.nil_append, List.getElem?_cons_succ, List.getElem?_cons_zero, Option.some.injEq, exists_eq_left', exists_eq_left, exists_and_left, V.int.injEq, V.ref.injEq, V.bl.injEq, V.str.injEq, List.set_cons_zero, List.set_cons_succ, List.cons.injEq, and_true, true_and, Nat.reduceAdd, Nat.reduceSub, List.replicate_succ, List.replicate_zero, rIxI, rIxH, rIxTH, rSetI, rSetH, rCatI, rRepI, rSlI, rAppendI, rExtendI, decide_eq_true_eq, upd_same, IL_inj, HO.lst.injEq, toInts_cons, toInts_nil, Option.map_some, if_true, if_false, Bool.true_eq_false, Bool.false_eq_true, Bool.not_true, Bool.not_false, Bool.not_eq_true', decide_eq_false_iff_not, atI_0, atI_1, atI_2, atI_3, atI_4, Int.reduceToNat, Int.reduceLT, Int.reduceLE, Int.reduceNeg, Int.reducePow, cast_lit, upd_upd, Int.reduceAdd, Int.reduceMul, Int.reduceSub, Nat.reduceLT, Nat.reduceLeDiff, cmul_r, cdiv_r, tSl, tPart, tNoPart, rEq, rNe, scal_nn, scal_ii, scal_bb, scal_ss, scal_is, scal_si, V.ty.injEq, and_assoc, tyH_non, tyH_bl, tyH_int, tyH_str, tyH_ref, tyO_lst, tyO_IL, tyO_tup, itO_lst, itO_tup, itO_IL, Dw.rIxD, rLenI, rLenH, rLenTH, rLenQ, rLenB, rListI, Dw.rListS, rIntI, rIntB, rSumI, rIsiD, rIsX, tCallS, tMakeS, tMake, tMakeC, tMakeSC, tFld, sFld, HO.ins.injEq, HO.tup.injEq, cxOf_K, nox_K, tr_K, suite_K, rTupleI, rAllB, rAnyB, BL_inj, tChain, wOnly, wAs, wMany, rEqI, rNeI, Dw.rMax2, rMin2, Dw.rIsN, rIsNotN, rStrIn, rStrNotIn, not_true_eq_false, not_false_eq_true, reduceCtorEq, cl_bool, cl_int, cl_str, cl_list, cl_tuple, isB_NoneType_bool, isB_NoneType_int, isB_NoneType_str, isB_NoneType_list, isB_NoneType_tuple, isB_bool_bool, isB_bool_int, isB_bool_str, isB_bool_list, isB_bool_tuple, isB_int_bool, isB_int_int, isB_int_str, isB_int_list, isB_int_tuple, isB_str_bool, isB_str_int, isB_str_str, isB_str_list, isB_str_tuple, isB_list_bool, isB_list_int, isB_list_str, isB_list_list, isB_list_tuple, isB_tuple_bool, isB_tuple_int, isB_tuple_str, isB_tuple_list, isB_tuple_tuple, rSlCI, iRng3, iRev, gCons, gNil, iZip, iEnum, tLc_eq, tFor_eq, iRng1, iRng2, iList, iTup, rSetD, iKeys, tDNewK, Int.reducePow, Int.reduceNeg, iEz, tPar, tRevL, Dw.rSetL, Dw.rIxL, rIxE, iSeqA, iEnumT]
  have hzl : (zs ps).length = ps.length := zs_len ps
  intro m nm
  have sm := same_new nm (HO.dK [])
  have em : upd H1 m (HO.dK []) m = _ := upd_same
  generalize upd H1 m (HO.dK []) = H2 at sm em  ⊢
  have hA2 := sm _ _ hA
  have hU2 := sm _ _ hU
  refine ⟨_, .of hU2, ?_⟩
  obtain ⟨I, hI⟩ : ∃ F : Nat → L2.St → Hp → Prop, F = (fun i σ H' => Same H1 H' ∧ ∃ (B : Bs) (kvs : List (Key × V)) (y4 y5 y6 : Option V), H' m = some (.dK kvs) ∧ KvsAt H' kvs B ∧ Bas ((ps.take i).reverse.map (chg ns.length)) B ∧ σ = [some (V.ref a), some (V.ref u), some (V.int (wd : Int)), some (V.ref m), y4, y5, y6, none, none, none]) := ⟨_, rfl⟩
  have wk := walk_enum (K := K) (a := u) (xs := (zs ps).map V.int)
  refine for_it wk I (by rw [hI]; exact ⟨sm, [], [], _, _, _, em, trivial, bas_nil, rfl⟩) (fun i σ H' _ h => by rw [hI] at h; exact .of (h.1 _ _ hU)) ?_ ?_
  · intro i v σ H' H3 hi h hy
    rw [hI] at h
    obtain ⟨s3, B, kvs, y4, y5, y6, eM, hK, hBs, rfl⟩ := h
    obtain ⟨t, x, y, rfl, nt, rfl, ex, ey⟩ := hy
    cases ex
    obtain ⟨p, rfl, hc⟩ := zs_item ey
    have hp1 := hpp p (List.mem_of_getElem? hc)
    have st := same_new nt (HO.tup [V.int (i : Int), V.int (p : Int)])
    have et : upd H' t (HO.tup [V.int (i : Int), V.int (p : Int)]) t = _ := upd_same
    generalize upd H' t (HO.tup [V.int (i : Int), V.int (p : Int)]) = H4 at st et  ⊢
    refine ⟨t, _, rfl, .of et, rfl, ?_⟩
    have s4 := s3.trans st
    have hA4 := s4 _ _ hA
    have eM4 := st _ _ eM
    have hi24 : i < 24 := by have := (List.getElem?_eq_some_iff.mp hc).1; omega
    try simp only [tSeq, tAsg, tVar, tC, tOp, rI0, rI, tUn, rU, tIfS, tTest, tRet, tRetN, tDrop, tCB, tCons, tNil, tLst, tLstI, tTup, gName, tB, tAnd, tOr, tNot, tAndV, tOrV, tNotV, tIf, tNext, tBreak, tCont, gSub, tCall, tCallN, tAug, ipI, tBML, tBML0, isL_IL, isL_lst, L2.start, List.map_cons, List.map_nil, List.length_cons, List.length_nil, List.cons_append, List.nil_append, List.getElem?_cons_succ, List.getElem?_cons_zero, Option.some.injEq, exists_eq_left', exists_eq_left, exists_and_left, V.int.injEq, V.ref.injEq, V.bl.injEq, V.str.injEq, List.set_cons_zero, List.set_cons_succ, List.cons.injEq, and_true, true_and, Nat.reduceAdd, Nat.reduceSub, List.replicate_succ, List.replicate_zero, rIxI, rIxH, rIxTH, rSetI, rSetH, rCatI, rRepI, rSlI, rAppendI, rExtendI, decide_eq_true_eq, upd_same, IL_inj, HO.lst.injEq, toInts_cons, toInts_nil, Option.map_some, if_true, if_false, Bool.true_eq_false, Bool.false_eq_true, Bool.not_true, Bool.not_false, Bool.not_eq_true', decide_eq_false_iff_not, atI_0, atI_1, atI_2, atI_3, atI_4, Int.reduceToNat, Int.reduceLT, Int.reduceLE, Int.reduceNeg, Int.reducePow, cast_lit, upd_upd, Int.reduceAdd, Int.reduceMul, Int.reduceSub, Nat.reduceLT, Nat.reduceLeDiff, cmul_r, cdiv_r, tSl, tPart, tNoPart, rEq, rNe, scal_nn, scal_ii, scal_bb, scal_ss, scal_is, scal_si, V.ty.injEq, and_assoc, tyH_non, tyH_bl, tyH_int, tyH_str, tyH_ref, tyO_lst, tyO_IL, tyO_tup, itO_lst, itO_tup, itO_IL, Dw.rIxD, rLenI, rLenH, rLenTH, rLenQ, rLenB, rListI, Dw.rListS, rIntI, rIntB, rSumI, rIsiD, rIsX, tCallS, tMakeS, tMake, tMakeC, tMakeSC, tFld, sFld, HO.ins.injEq, HO.tup.injEq, cxOf_K, nox_K, tr_K, suite_K, rTupleI, rAllB, rAnyB, BL_inj, tChain, wOnly, wAs, wMany, rEqI, rNeI, Dw.rMax2, rMin2, Dw.rIsN, rIsNotN, rStrIn, rStrNotIn, not_true_eq_false, not_false_eq_true, reduceCtorEq, cl_bool, cl_int, cl_str, cl_list, cl_tuple, isB_NoneType_bool, isB_NoneType_int, isB_NoneType_str, isB_NoneType_list, isB_NoneType_tuple, isB_bool_bool, isB_bool_int, isB_bool_str, isB_bool_list, isB_bool_tuple, isB_int_bool, isB_int_int, isB_int_str, isB_int_list, isB_int_tuple, isB_str_bool, isB_str_int, isB_str_str, isB_str_list, isB_str_tuple, isB_list_bool, isB_list_int, isB_list_str, isB_list_list, isB_list_tuple, isB_tuple_bool, isB_tuple_int, isB_tuple_str, isB_tuple_list, isB_tuple_tuple, rSlCI, iRng3, iRev, gCons, gNil, iZip, iEnum, tLc_eq, tFor_eq, iRng1, iRng2, iList, iTup, rSetD, iKeys, tDNewK, Int.reducePow, Int.reduceNeg, iEz, tPar, tRevL, Dw.rSetL, Dw.rIxL, rIxE, iSeqA, iEnumT, hA4]
    refine ⟨ns.length, p, by rw [zs_len], hp1, hnl, ?_⟩
    have hvl : ((ps.take i).reverse.map (chg ns.length)).length = i := by
      rw [List.length_map, List.length_reverse, List.length_take]
      have := (List.getElem?_eq_some_iff.mp hc).1
      omega
    have hrow : (ps.take (i + 1)).reverse.map (chg ns.length) = chg ns.length p :: (ps.take i).reverse.map (chg ns.length) := by
      rw [take_more hc, List.reverse_append]
      rfl
    refine ⟨⟨by omega, by omega, by decide⟩, line_le (by decide), fun u1 m1 => ?_⟩
    rw [show (1 : Int) * 2 ^ ((i : Int)).toNat = ((2 ^ i : Nat) : Int) by rw [Int.toNat_natCast, Int.one_mul]; push_cast; rfl]
    have su1 := same_new m1 (HO.tup [V.int ((chg ns.length p : Nat) : Int), V.int ((2 ^ i : Nat) : Int)])
    have eu1 : upd H4 u1 (HO.tup [V.int ((chg ns.length p : Nat) : Int), V.int ((2 ^ i : Nat) : Int)]) u1 = _ := upd_same
    generalize upd H4 u1 (HO.tup [V.int ((chg ns.length p : Nat) : Int), V.int ((2 ^ i : Nat) : Int)]) = H5 at su1 eu1  ⊢
    obtain ⟨d', c', hr1⟩ := hBs.ech.1.ex _ (chg ns.length p) (2 ^ i) (Nat.le_refl _)
    have hr2 : Red B (chg ns.length p) (2 ^ ((ps.take i).reverse.map (chg ns.length)).length) d' c' := by rw [hvl]; exact hr1
    refine ⟨u1, m, chg ns.length p, 2 ^ i, B, kvs, d', c', rfl, eu1, su1 _ _ eM4, hK.same (st.trans su1), hBs.ech.1, hr1, fun r H6 s6 n6 e6 => ?_⟩
    have s46 := su1.trans s6
    refine ⟨r, rfl, _, e6, _, rfl, rfl, ?_⟩
    by_cases cz : d' = 0
    · subst cz
      refine if_no (fun h => h rfl) ?_
      rw [hI]
      refine ⟨s4.trans s46, B, kvs, _, _, _, s46 _ _ eM4, hK.same (st.trans s46), ?_, rfl⟩
      rw [hrow]
      exact hBs.same hr2
    · refine if_yes (fun h => cz (by have := V.int.inj h; omega)) ?_
      try simp only [tSeq, tAsg, tVar, tC, tOp, rI0, rI, tUn, rU, tIfS, tTest, tRet, tRetN, tDrop, tCB, tCons, tNil, tLst, tLstI, tTup, gName, tB, tAnd, tOr, tNot, tAndV, tOrV, tNotV, tIf, tNext, tBreak, tCont, gSub, tCall, tCallN, tAug, ipI, tBML, tBML0, isL_IL, isL_lst, L2.start, List.map_cons, List.map_nil, List.length_cons, List.length_nil, List.cons_append, List.nil_append, List.getElem?_cons_succ, List.getElem?_cons_zero, Option.some.injEq, exists_eq_left', exists_eq_left, exists_and_left, V.int.injEq, V.ref.injEq, V.bl.injEq, V.str.injEq, List.set_cons_zero, List.set_cons_succ, List.cons.injEq, and_true, true_and, Nat.reduceAdd, Nat.reduceSub, List.replicate_succ, List.replicate_zero, rIxI, rIxH, rIxTH, rSetI, rSetH, rCatI, rRepI, rSlI, rAppendI, rExtendI, decide_eq_true_eq, upd_same, IL_inj, HO.lst.injEq, toInts_cons, toInts_nil, Option.map_some, if_true, if_false, Bool.true_eq_false, Bool.false_eq_true, Bool.not_true, Bool.not_false, Bool.not_eq_true', decide_eq_false_iff_not, atI_0, atI_1, atI_2, atI_3, atI_4, Int.reduceToNat, Int.reduceLT, Int.reduceLE, Int.reduceNeg, Int.reducePow, cast_lit, upd_upd, Int.reduceAdd, Int.reduceMul, Int.reduceSub, Nat.reduceLT, Nat.reduceLeDiff, cmul_r, cdiv_r, tSl, tPart, tNoPart, rEq, rNe, scal_nn, scal_ii, scal_bb, scal_ss, scal_is, scal_si, V.ty.injEq, and_assoc, tyH_non, tyH_bl, tyH_int, tyH_str, tyH_ref, tyO_lst, tyO_IL, tyO_tup, itO_lst, itO_tup, itO_IL, Dw.rIxD, rLenI, rLenH, rLenTH, rLenQ, rLenB, rListI, Dw.rListS, rIntI, rIntB, rSumI, rIsiD, rIsX, tCallS, tMakeS, tMake, tMakeC, tMakeSC, tFld, sFld, HO.ins.injEq, HO.tup.injEq, cxOf_K, nox_K, tr_K, suite_K, rTupleI, rAllB, rAnyB, BL_inj, tChain, wOnly, wAs, wMany, rEqI, rNeI, Dw.rMax2, rMin2, Dw.rIsN, rIsNotN, rStrIn, rStrNotIn, not_true_eq_false, not_false_eq_true, reduceCtorEq, cl_bool, cl_int, cl_str, cl_list, cl_tuple, isB_NoneType_bool, isB_NoneType_int, isB_NoneType_str, isB_NoneType_list, isB_NoneType_tuple, isB_bool_bool, isB_bool_int, isB_bool_str, isB_bool_list, isB_bool_tuple, isB_int_bool, isB_int_int, isB_int_str, isB_int_list, isB_int_tuple, isB_str_bool, isB_str_int, isB_str_str, isB_str_list, isB_str_tuple, isB_list_bool, isB_list_int, isB_list_str, isB_list_list, isB_list_tuple, isB_tuple_bool, isB_tuple_int, isB_tuple_str, isB_tuple_list, isB_tuple_tuple, rSlCI, iRng3, iRev, gCons, gNil, iZip, iEnum, tLc_eq, tFor_eq, iRng1, iRng2, iList, iTup, rSetD, iKeys, tDNewK, Int.reducePow, Int.reduceNeg, iEz, tPar, tRevL, Dw.rSetL, Dw.rIxL, rIxE, iSeqA, iEnumT, tBits, e6, sz_bits]
      have hle := hBs.le
      rw [hvl] at hle
      have hkl := hK.len
      have rm : r ≠ m := (ne_of_none (su1 _ _ eM4) n6).symm
      refine ⟨_, DPut.k (k := .inl ((sz d' : Nat) : Int)) (s46 _ _ eM4) (line_lt (by omega)), ?_⟩
      rw [hK.put hr1.end, hI]
      refine ⟨Same.put (s4.trans s46) nm _, B ++ [(d', c')], _, _, _, _, upd_same, ((hK.same (st.trans s46)).ups (s46 _ _ eM4)).snoc ⟨rfl, r, rfl, by rw [upd_ne rm]; exact e6⟩, ?_, rfl⟩
      rw [hrow]
      exact hBs.put hr2 cz
  · intro σ H' h
    rw [hI] at h
    obtain ⟨s3, B, kvs, y4, y5, y6, eM, hK, hBs, rfl⟩ := h
    rw [List.take_of_length_le (by rw [List.length_map, zs_len]; exact Nat.le_refl _)] at hBs
    try simp only [tSeq, tAsg, tVar, tC, tOp, rI0, rI, tUn, rU, tIfS, tTest, tRet, tRetN, tDrop, tCB, tCons, tNil, tLst, tLstI, tTup, gName, tB, tAnd, tOr, tNot, tAndV, tOrV, tNotV, tIf, tNext, tBreak, tCont, gSub, tCall, tCallN, tAug, ipI, tBML, tBML0, isL_IL, isL_lst, L2.start, List.map_cons, List.map_nil, List.length_cons, List.length_nil, List.cons_append, List.nil_append, List.getElem?_cons_succ, List.getElem?_cons_zero, Option.some.injEq, exists_eq_left', exists_eq_left, exists_and_left, V.int.injEq, V.ref.injEq, V.bl.injEq, V.str.injEq, List.set_cons_zero, List.set_cons_succ, List.cons.injEq, and_true, true_and, Nat.reduceAdd, Nat.reduceSub, List.replicate_succ, List.replicate_zero, rIxI, rIxH, rIxTH, rSetI, rSetH, rCatI, rRepI, rSlI, rAppendI, rExtendI, decide_eq_true_eq, upd_same, IL_inj, HO.lst.injEq, toInts_cons, toInts_nil, Option.map_some, if_true, if_false, Bool.true_eq_false, Bool.false_eq_true, Bool.not_true, Bool.not_false, Bool.not_eq_true', decide_eq_false_iff_not, atI_0, atI_1, atI_2, atI_3, atI_4, Int.reduceToNat, Int.reduceLT, Int.reduceLE, Int.reduceNeg, Int.reducePow, cast_lit, upd_upd, Int.reduceAdd, Int.reduceMul, Int.reduceSub, Nat.reduceLT, Nat.reduceLeDiff, cmul_r, cdiv_r, tSl, tPart, tNoPart, rEq, rNe, scal_nn, scal_ii, scal_bb, scal_ss, scal_is, scal_si, V.ty.injEq, and_assoc, tyH_non, tyH_bl, tyH_int, tyH_str, tyH_ref, tyO_lst, tyO_IL, tyO_tup, itO_lst, itO_tup, itO_IL, Dw.rIxD, rLenI, rLenH, rLenTH, rLenQ, rLenB, rListI, Dw.rListS, rIntI, rIntB, rSumI, rIsiD, rIsX, tCallS, tMakeS, tMake, tMakeC, tMakeSC, tFld, sFld, HO.ins.injEq, HO.tup.injEq, cxOf_K, nox_K, tr_K, suite_K, rTupleI, rAllB, rAnyB, BL_inj, tChain, wOnly, wAs, wMany, rEqI, rNeI, Dw.rMax2, rMin2, Dw.rIsN, rIsNotN, rStrIn, rStrNotIn, not_true_eq_false, not_false_eq_true, reduceCtorEq, cl_bool, cl_int, cl_str, cl_list, cl_tuple, isB_NoneType_bool, isB_NoneType_int, isB_NoneType_str, isB_NoneType_list, isB_NoneType_tuple, isB_bool_bool, isB_bool_int, isB_bool_str, isB_bool_list, isB_bool_tuple, isB_int_bool, isB_int_int, isB_int_str, isB_int_list, isB_int_tuple, isB_str_bool, isB_str_int, isB_str_str, isB_str_list, isB_str_tuple, isB_list_bool, isB_list_int, isB_list_str, isB_list_list, isB_list_tuple, isB_tuple_bool, isB_tuple_int, isB_tuple_str, isB_tuple_list, isB_tuple_tuple, rSlCI, iRng3, iRev, gCons, gNil, iZip, iEnum, tLc_eq, tFor_eq, iRng1, iRng2, iList, iTup, rSetD, iKeys, tDNewK, Int.reducePow, Int.reduceNeg, iEz, tPar, tRevL, Dw.rSetL, Dw.rIxL, rIxE, iSeqA, iEnumT]
    have hA5 := s3 _ _ hA
    have hU5 := s3 _ _ hU
    refine ⟨a, u, ns, ps, rfl, hA5, hU5, hpp, hb, by omega, fun r1 H5 s5 n5 e5 => ?_⟩
    refine ⟨r1, _, rfl, e5, bytes_zs (sets_bytes hb _ _), ?_⟩
    rw [crcZ_zs]
    refine ⟨_, wd, rfl, line_le (by decide), fun u1 m1 => ?_⟩
    generalize hd : crcN (sets ns ps.reverse 0) ^^^ wd = d at k ⊢
    have su1 := same_new m1 (HO.tup [V.int (d : Int), V.int 0])
    have eu1 : upd H5 u1 (HO.tup [V.int (d : Int), V.int 0]) u1 = _ := upd_same
    generalize upd H5 u1 (HO.tup [V.int (d : Int), V.int 0]) = H6 at su1 eu1  ⊢
    obtain ⟨d', c', hr1⟩ := hBs.ech.1.ex _ d 0 (Nat.le_refl _)
    have s56 := s5.trans su1
    refine ⟨u1, m, d, 0, B, kvs, d', c', rfl, eu1, s56 _ _ eM, hK.same s56, hBs.ech.1, hr1, fun r H7 s7 n7 e7 => ?_⟩
    refine ⟨r, _, rfl, .of e7, rfl, ?_⟩
    have s57 := s56.trans s7
    have hU7 := s57 _ _ hU5
    have eM7 := s57 _ _ eM
    try simp only [tSeq, tAsg, tVar, tC, tOp, rI0, rI, tUn, rU, tIfS, tTest, tRet, tRetN, tDrop, tCB, tCons, tNil, tLst, tLstI, tTup, gName, tB, tAnd, tOr, tNot, tAndV, tOrV, tNotV, tIf, tNext, tBreak, tCont, gSub, tCall, tCallN, tAug, ipI, tBML, tBML0, isL_IL, isL_lst, L2.start, List.map_cons, List.map_nil, List.length_cons, List.length_nil, List.cons_append, List.nil_append, List.getElem?_cons_succ, List.getElem?_cons_zero, Option.some.injEq, exists_eq_left', exists_eq_left, exists_and_left, V.int.injEq, V.ref.injEq, V.bl.injEq, V.str.injEq, List.set_cons_zero, List.set_cons_succ, List.cons.injEq, and_true, true_and, Nat.reduceAdd, Nat.reduceSub, List.replicate_succ, List.replicate_zero, rIxI, rIxH, rIxTH, rSetI, rSetH, rCatI, rRepI, rSlI, rAppendI, rExtendI, decide_eq_true_eq, upd_same, IL_inj, HO.lst.injEq, toInts_cons, toInts_nil, Option.map_some, if_true, if_false, Bool.true_eq_false, Bool.false_eq_true, Bool.not_true, Bool.not_false, Bool.not_eq_true', decide_eq_false_iff_not, atI_0, atI_1, atI_2, atI_3, atI_4, Int.reduceToNat, Int.reduceLT, Int.reduceLE, Int.reduceNeg, Int.reducePow, cast_lit, upd_upd, Int.reduceAdd, Int.reduceMul, Int.reduceSub, Nat.reduceLT, Nat.reduceLeDiff, cmul_r, cdiv_r, tSl, tPart, tNoPart, rEq, rNe, scal_nn, scal_ii, scal_bb, scal_ss, scal_is, scal_si, V.ty.injEq, and_assoc, tyH_non, tyH_bl, tyH_int, tyH_str, tyH_ref, tyO_lst, tyO_IL, tyO_tup, itO_lst, itO_tup, itO_IL, Dw.rIxD, rLenI, rLenH, rLenTH, rLenQ, rLenB, rListI, Dw.rListS, rIntI, rIntB, rSumI, rIsiD, rIsX, tCallS, tMakeS, tMake, tMakeC, tMakeSC, tFld, sFld, HO.ins.injEq, HO.tup.injEq, cxOf_K, nox_K, tr_K, suite_K, rTupleI, rAllB, rAnyB, BL_inj, tChain, wOnly, wAs, wMany, rEqI, rNeI, Dw.rMax2, rMin2, Dw.rIsN, rIsNotN, rStrIn, rStrNotIn, not_true_eq_false, not_false_eq_true, reduceCtorEq, cl_bool, cl_int, cl_str, cl_list, cl_tuple, isB_NoneType_bool, isB_NoneType_int, isB_NoneType_str, isB_NoneType_list, isB_NoneType_tuple, isB_bool_bool, isB_bool_int, isB_bool_str, isB_bool_list, isB_bool_tuple, isB_int_bool, isB_int_int, isB_int_str, isB_int_list, isB_int_tuple, isB_str_bool, isB_str_int, isB_str_str, isB_str_list, isB_str_tuple, isB_list_bool, isB_list_int, isB_list_str, isB_list_list, isB_list_tuple, isB_tuple_bool, isB_tuple_int, isB_tuple_str, isB_tuple_list, isB_tuple_tuple, rSlCI, iRng3, iRev, gCons, gNil, iZip, iEnum, tLc_eq, tFor_eq, iRng1, iRng2, iList, iTup, rSetD, iKeys, tDNewK, Int.reducePow, Int.reduceNeg, iEz, tPar, tRevL, Dw.rSetL, Dw.rIxL, rIxE, iSeqA, iEnumT, hU7, eM7]
    have hrl : (ps.reverse.map (chg ns.length)).length = ps.length := by rw [List.length_map, List.length_reverse]
    have sHH := s1.trans (s3.trans s57)
    by_cases cz : d' = 0
    · have hz := (hr1.zero hBs.ech).mpr cz
      have hcnt := (hBs.num d).1 hz
      have hle := hBs.le
      have hkl := hK.len
      obtain ⟨g1, g2⟩ := red_comb hBs.com hr1 (Nat.two_pow_pos _)
      rw [comb_zero, Nat.xor_zero, cz, Nat.zero_xor] at g2
      rw [hrl] at g1 hcnt hle
      refine if_no (by rw [cz]; exact fun h => h rfl) ?_
      refine ⟨kvs, rfl, ⟨by omega, by omega, by decide⟩, (zs ps).map V.int, .of hU7, fun D nD => ?_⟩
      refine lc_enumG (K := K) (a := u) (xs := zs ps) (kp := fun i => c'.testBit i) (f := fun i => ((ps.getD i 0 : Nat) : Int)) (by omega) hU7 nD (fun _ _ => rfl) ?_ ?_ ?_
      · intro i x H8 Q' hx s8 hq
        try simp only [tSeq, tAsg, tVar, tC, tOp, rI0, rI, tUn, rU, tIfS, tTest, tRet, tRetN, tDrop, tCB, tCons, tNil, tLst, tLstI, tTup, gName, tB, tAnd, tOr, tNot, tAndV, tOrV, tNotV, tIf, tNext, tBreak, tCont, gSub, tCall, tCallN, tAug, ipI, tBML, tBML0, isL_IL, isL_lst, L2.start, List.map_cons, List.map_nil, List.length_cons, List.length_nil, List.cons_append, List.nil_append, List.getElem?_cons_succ, List.getElem?_cons_zero, Option.some.injEq, exists_eq_left', exists_eq_left, exists_and_left, V.int.injEq, V.ref.injEq, V.bl.injEq, V.str.injEq, List.set_cons_zero, List.set_cons_succ, List.cons.injEq, and_true, true_and, Nat.reduceAdd, Nat.reduceSub, List.replicate_succ, List.replicate_zero, rIxI, rIxH, rIxTH, rSetI, rSetH, rCatI, rRepI, rSlI, rAppendI, rExtendI, decide_eq_true_eq, upd_same, IL_inj, HO.lst.injEq, toInts_cons, toInts_nil, Option.map_some, if_true, if_false, Bool.true_eq_false, Bool.false_eq_true, Bool.not_true, Bool.not_false, Bool.not_eq_true', decide_eq_false_iff_not, atI_0, atI_1, atI_2, atI_3, atI_4, Int.reduceToNat, Int.reduceLT, Int.reduceLE, Int.reduceNeg, Int.reducePow, cast_lit, upd_upd, Int.reduceAdd, Int.reduceMul, Int.reduceSub, Nat.reduceLT, Nat.reduceLeDiff, cmul_r, cdiv_r, tSl, tPart, tNoPart, rEq, rNe, scal_nn, scal_ii, scal_bb, scal_ss, scal_is, scal_si, V.ty.injEq, and_assoc, tyH_non, tyH_bl, tyH_int, tyH_str, tyH_ref, tyO_lst, tyO_IL, tyO_tup, itO_lst, itO_tup, itO_IL, Dw.rIxD, rLenI, rLenH, rLenTH, rLenQ, rLenB, rListI, Dw.rListS, rIntI, rIntB, rSumI, rIsiD, rIsX, tCallS, tMakeS, tMake, tMakeC, tMakeSC, tFld, sFld, HO.ins.injEq, HO.tup.injEq, cxOf_K, nox_K, tr_K, suite_K, rTupleI, rAllB, rAnyB, BL_inj, tChain, wOnly, wAs, wMany, rEqI, rNeI, Dw.rMax2, rMin2, Dw.rIsN, rIsNotN, rStrIn, rStrNotIn, not_true_eq_false, not_false_eq_true, reduceCtorEq, cl_bool, cl_int, cl_str, cl_list, cl_tuple, isB_NoneType_bool, isB_NoneType_int, isB_NoneType_str, isB_NoneType_list, isB_NoneType_tuple, isB_bool_bool, isB_bool_int, isB_bool_str, isB_bool_list, isB_bool_tuple, isB_int_bool, isB_int_int, isB_int_str, isB_int_list, isB_int_tuple, isB_str_bool, isB_str_int, isB_str_str, isB_str_list, isB_str_tuple, isB_list_bool, isB_list_int, isB_list_str, isB_list_list, isB_list_tuple, isB_tuple_bool, isB_tuple_int, isB_tuple_str, isB_tuple_list, isB_tuple_tuple, rSlCI, iRng3, iRev, gCons, gNil, iZip, iEnum, tLc_eq, tFor_eq, iRng1, iRng2, iList, iTup, rSetD, iKeys, tDNewK, Int.reducePow, Int.reduceNeg, iEz, tPar, tRevL, Dw.rSetL, Dw.rIxL, rIxE, iSeqA, iEnumT, wipe]
        have hq2 := hq H8 (Same.refl _)
        have ez : (c' : Int) / 2 ^ i = ((c' / 2 ^ i : Nat) : Int) := by push_cast; rfl
        rw [Int.toNat_natCast, ez, and1]
        have eb : decide (((c' / 2 ^ i % 2 : Nat) : Int) = 1) = c'.testBit i := by
          rw [Nat.testBit_eq_decide_div_mod_eq, Bool.eq_iff_iff, decide_eq_true_eq, decide_eq_true_eq]
          omega
        rw [← eb] at hq2
        exact ⟨by omega, hq2⟩
      · intro i x H8 Q' hx s8 hq
        try simp only [tSeq, tAsg, tVar, tC, tOp, rI0, rI, tUn, rU, tIfS, tTest, tRet, tRetN, tDrop, tCB, tCons, tNil, tLst, tLstI, tTup, gName, tB, tAnd, tOr, tNot, tAndV, tOrV, tNotV, tIf, tNext, tBreak, tCont, gSub, tCall, tCallN, tAug, ipI, tBML, tBML0, isL_IL, isL_lst, L2.start, List.map_cons, List.map_nil, List.length_cons, List.length_nil, List.cons_append, List.nil_append, List.getElem?_cons_succ, List.getElem?_cons_zero, Option.some.injEq, exists_eq_left', exists_eq_left, exists_and_left, V.int.injEq, V.ref.injEq, V.bl.injEq, V.str.injEq, List.set_cons_zero, List.set_cons_succ, List.cons.injEq, and_true, true_and, Nat.reduceAdd, Nat.reduceSub, List.replicate_succ, List.replicate_zero, rIxI, rIxH, rIxTH, rSetI, rSetH, rCatI, rRepI, rSlI, rAppendI, rExtendI, decide_eq_true_eq, upd_same, IL_inj, HO.lst.injEq, toInts_cons, toInts_nil, Option.map_some, if_true, if_false, Bool.true_eq_false, Bool.false_eq_true, Bool.not_true, Bool.not_false, Bool.not_eq_true', decide_eq_false_iff_not, atI_0, atI_1, atI_2, atI_3, atI_4, Int.reduceToNat, Int.reduceLT, Int.reduceLE, Int.reduceNeg, Int.reducePow, cast_lit, upd_upd, Int.reduceAdd, Int.reduceMul, Int.reduceSub, Nat.reduceLT, Nat.reduceLeDiff, cmul_r, cdiv_r, tSl, tPart, tNoPart, rEq, rNe, scal_nn, scal_ii, scal_bb, scal_ss, scal_is, scal_si, V.ty.injEq, and_assoc, tyH_non, tyH_bl, tyH_int, tyH_str, tyH_ref, tyO_lst, tyO_IL, tyO_tup, itO_lst, itO_tup, itO_IL, Dw.rIxD, rLenI, rLenH, rLenTH, rLenQ, rLenB, rListI, Dw.rListS, rIntI, rIntB, rSumI, rIsiD, rIsX, tCallS, tMakeS, tMake, tMakeC, tMakeSC, tFld, sFld, HO.ins.injEq, HO.tup.injEq, cxOf_K, nox_K, tr_K, suite_K, rTupleI, rAllB, rAnyB, BL_inj, tChain, wOnly, wAs, wMany, rEqI, rNeI, Dw.rMax2, rMin2, Dw.rIsN, rIsNotN, rStrIn, rStrNotIn, not_true_eq_false, not_false_eq_true, reduceCtorEq, cl_bool, cl_int, cl_str, cl_list, cl_tuple, isB_NoneType_bool, isB_NoneType_int, isB_NoneType_str, isB_NoneType_list, isB_NoneType_tuple, isB_bool_bool, isB_bool_int, isB_bool_str, isB_bool_list, isB_bool_tuple, isB_int_bool, isB_int_int, isB_int_str, isB_int_list, isB_int_tuple, isB_str_bool, isB_str_int, isB_str_str, isB_str_list, isB_str_tuple, isB_list_bool, isB_list_int, isB_list_str, isB_list_list, isB_list_tuple, isB_tuple_bool, isB_tuple_int, isB_tuple_str, isB_tuple_list, isB_tuple_tuple, rSlCI, iRng3, iRev, gCons, gNil, iZip, iEnum, tLc_eq, tFor_eq, iRng1, iRng2, iList, iTup, rSetD, iKeys, tDNewK, Int.reducePow, Int.reduceNeg, iEz, tPar, tRevL, Dw.rSetL, Dw.rIxL, rIxE, iSeqA, iEnumT, wipe]
        have hq2 := hq H8 (Same.refl _)
        have ex : ((ps.getD i 0 : Nat) : Int) = x := by
          rw [← zs_get, List.getD_eq_getElem?_getD, hx]
          rfl
        rw [ex] at hq2
        exact hq2
      · intro H8 s8 e8
        have hL : ((List.range (zs ps).length).filter fun i => c'.testBit i).map (fun i => ((ps.getD i 0 : Nat) : Int)) = zs (chs ps.reverse c') := by
          have := chs_enum ps c' ps.length (Nat.le_refl _)
          rw [List.take_length] at this
          rw [← this, hzl]
          unfold zs
          rw [List.map_map]
          rfl
        rw [hL] at e8
        refine ⟨line_le (by decide), fun r2 nr2 => ?_⟩
        have sR := same_new nr2 (HO.tup [V.int (1 * 2 ^ (((zs ps).length : Int) - (kvs.length : Int)).toNat), V.ref D])
        refine k r2 D _ (chs ps.reverse c') ((sHH.trans s8).trans sR) (same_none (sHH.trans s8) nr2) ?_ (sR _ _ e8) (fun _ => ⟨c', g1, g2, rfl⟩)
        rw [upd_same, hcnt, show (((zs ps).length : Int) - (kvs.length : Int)).toNat = ps.length - B.length by omega, Int.one_mul]
        push_cast
        rfl
    · have hz : ¬ Zr B d := fun q => cz ((hr1.zero hBs.ech).mp q)
      have hcnt := (hBs.num d).2 hz
      rw [hcnt] at k
      refine if_yes (by omega) ?_
      refine ⟨Nat.zero_le _, fun q nq => ⟨line_le (by decide), fun r2 nr2 => ?_⟩⟩
      have sR := (same_new nq (IL [])).trans (same_new nr2 (HO.tup [V.int 0, V.ref q]))
      exact k r2 q _ [] (sHH.trans sR) (same_none (sHH.trans (same_new nq (IL []))) nr2) upd_same (same_new nr2 _ _ _ upd_same) (fun h => absurd rfl h)
end
section
variable {P : Program} {w : World} {K : PySem.W.Frag} {mg : Str → Option Value} {base : Heap} {A : Ad}
/-- the one row with this CRC, if there is one alone -/
def oneU (ns pl : List Nat) (wd : Nat) : Option (List Nat) := match (rowsAll ns pl).filter (fun r => decide (crcN r = wd)) with | [r] => some r | _ => none
theorem oneU_none {ns pl : List Nat} {wd : Nat} (hv : ∀ v ∈ ns, v < 256) (hn : pl.Nodup) (hp : ∀ p ∈ pl, p < 8 * ns.length) (h : cnt (pl.map (chg ns.length)) (crcN (sets ns pl 0) ^^^ wd) ≠ 1) : oneU ns pl wd = none := by
  have hl := rows_count (wd := wd) hv hn hp
  rw [List.countP_eq_length_filter] at hl
  unfold oneU
  split
  · rename_i e
    rw [e] at hl
    exact absurd hl.symm h
  · rfl
theorem oneU_some {ns pl : List Nat} {wd c : Nat} (hv : ∀ v ∈ ns, v < 256) (hn : pl.Nodup) (hp : ∀ p ∈ pl, p < 8 * ns.length) (h1 : cnt (pl.map (chg ns.length)) (crcN (sets ns pl 0) ^^^ wd) = 1) (hc : c < 2 ^ pl.length) (h2 : comb (pl.map (chg ns.length)) c = crcN (sets ns pl 0) ^^^ wd) : oneU ns pl wd = some (sets ns pl c) := by
  unfold oneU
  rw [rows_one hv hn hp h1 hc h2]
def spSolution (CE : Addr) : Sp := fun vs H Q E => ∃ (a u : Addr) (ns : List Nat) (us : List Int) (wd : Nat), vs = [.ref a, .ref u, .int (wd : Int)] ∧ H a = some (IL (zs ns)) ∧ H u = some (IL us) ∧ (∀ v ∈ ns, v < 256) ∧ ns.length ≤ 1000 ∧ us.length ≤ 100000 ∧ wd < 65536 ∧
  (∀ ps, us = zs ps → okU ns.length us → ps.Nodup → (∀ p ∈ ps, p < 8 * ns.length) → (oneU ns ps.reverse wd = none → ∀ H', Same H H' → Q .non H') ∧ (∀ row, oneU ns ps.reverse wd = some row → ∀ r H', Same H H' → H r = none → H' r = some (IL (zs row)) → Q (.ref r) H')) ∧ (¬ okU ns.length us → ∀ H', Same H H' → E (.ref CE) none H')
theorem ok_solution (T : Tx K mg A) : FnOk P w K mg base (L2.CX P w) 5 A.f_solution A.d_solution ["values", "unknown", "wanted"] (spSolution A.c_InvalidUnknowns) := by
  refine T.F_solution.okX sc_solution (fun vs H Q E h => ?_) (fun cdv A' outer s H vs Q E hr h => ?_)
  · obtain ⟨a, u, ns, us, wd, rfl, _⟩ := h
    rfl
  obtain ⟨a, u, ns, us, wd, rfl, hA, hU, hb, hnl, hul, hwd, kY, kN⟩ := h
  refine ⟨_, (pss_cons (ps_asg (pe_call (ok_solved T) (hr.mono (by decide)) rfl T.g_solved T.F_solved.kp T.b_solved .nil (passW (takes_of rfl rfl rfl rfl) (fun _ _ _ _ h => h)) (pa_cons (pv 0) (pa_cons (pv 1) (pa_cons (pv 2) pa_nil)))) (pg_tup (n := 2) rfl (pgs_cons (pg_name (i := 3) sc_solution.nd rfl (Or.inl rfl)) (pgs_cons (pg_name (i := 4) sc_solution.nd rfl (Or.inl rfl)) pgs_nil))))
      (pss_cons (ps_if (pt_cmpR op_ne (pv 3) pe_int (nomark _)) (pss_one (ps_ret pe_non)) pss_nil)
      (pss_one (ps_ret (pe_call (ok_with_bits_changed T) (hr.mono (by decide)) rfl T.g_with_bits_changed T.F_with_bits_changed.kp T.b_with_bits_changed .nil pass0 (pa_cons (pe_call (ok_with_bits_cleared T) (hr.mono (by decide)) rfl T.g_with_bits_cleared T.F_with_bits_cleared.kp T.b_with_bits_cleared .nil pass0 (pa_cons (pv 0) (pa_cons (pv 1) pa_nil))) (pa_cons (pv 4) pa_nil))))))), ?_⟩
  try simp only [tSeq, tAsg, tVar, tC, tOp, rI0, rI, tUn, rU, tIfS, tTest, tRet, tRetN, tDrop, tCB, tCons, tNil, tLst, tLstI, tTup, gName, tB, tAnd, tOr, tNot, tAndV, tOrV, tNotV, tIf, tNext, tBreak, tCont, gSub, tCall, tCallN, tAug, ipI, tBML, tBML0, isL_IL, isL_lst, L2.start, List.map_cons, List.map_nil, List.length_cons, List.length_nil, List.cons_append, List.nil_append, List.getElem?_cons_succ, List.getElem?_cons_zero, Option.some.injEq, exists_eq_left', exists_eq_left, exists_and_left, V.int.injEq, V.ref.injEq, V.bl.injEq, V.str.injEq, List.set_cons_zero, List.set_cons_succ, List.cons.injEq, and_true, true_and, Nat.reduceAdd, Nat.reduceSub, List.replicate_succ, List.replicate_zero, rIxI, rIxH, rIxTH, rSetI, rSetH, rCatI, rRepI, rSlI, rAppendI, rExtendI, decide_eq_true_eq, upd_same, IL_inj, HO.lst.injEq, toInts_cons, toInts_nil, Option.map_some, if_true, if_false, Bool.true_eq_false, Bool.false_eq_true, Bool.not_true, Bool.not_false, Bool.not_eq_true', decide_eq_false_iff_not, atI_0, atI_1, atI_2, atI_3, atI_4, Int.reduceToNat, Int.reduceLT, Int.reduceLE, Int.reduceNeg, Int.reducePow, cast_lit, upd_upd, Int.reduceAdd, Int.reduceMul, Int.reduceSub, Nat.reduceLT, Nat.reduceLeDiff, cmul_r, cdiv_r, tSl, tPart, tNoPart, rEq, rNe, scal_nn, scal_ii, scal_bb, scal_ss, scal_is, scal_si, V.ty.injEq, and_assoc, tyH_non, tyH_bl, tyH_int, tyH_str, tyH_ref, tyO_lst, tyO_IL, tyO_tup, itO_lst, itO_tup, itO_IL, Dw.rIxD, rLenI, rLenH, rLenTH, rLenQ, rLenB, rListI, Dw.rListS, rIntI, rIntB, rSumI, rIsiD, rIsX, tCallS, tMakeS, tMake, tMakeC, tMakeSC, tFld, sFld, HO.ins.injEq, HO.tup.injEq, cxOf_K, nox_K, tr_K, suite_K, rTupleI, rAllB, rAnyB, BL_inj, tChain, wOnly, wAs, wMany, rEqI, rNeI, Dw.rMax2, rMin2, Dw.rIsN, rIsNotN, rStrIn, rStrNotIn, not_true_eq_false, not_false_eq_true, reduceCtorEq, cl_bool, cl_int, cl_str, cl_list, cl_tuple, isB_NoneType_bool, isB_NoneType_int, isB_NoneType_str, isB_NoneType_list, isB_NoneType_tuple, isB_bool_bool, isB_bool_int, isB_bool_str, isB_bool_list, isB_bool_tuple, isB_int_bool, isB_int_int, isB_int_str, isB_int_list, isB_int_tuple, isB_str_bool, isB_str_int, isB_str_str, isB_str_list, isB_str_tuple, isB_list_bool, isB_list_int, isB_list_str, isB_list_list, isB_list_tuple, isB_tuple_bool, isB_tuple_int, isB_tuple_str, isB_tuple_list, isB_tuple_tuple, rSlCI, iRng3, iRev, gCons, gNil, iZip, iEnum, tLc_eq, tFor_eq, iRng1, iRng2, iList, iTup, rSetD, iKeys, tDNewK, Int.reducePow, Int.reduceNeg, iEz, tPar, tRevL, Dw.rSetL, Dw.rIxL, rIxE, iSeqA, iEnumT]
  refine ⟨a, u, ns, us, wd, rfl, hA, hU, hb, hnl, hul, hwd, fun ps hu hok hnd hpp r q H1 L s1 n1 e1 eL hL => ?_, fun hno H1 s1 => kN hno H1 s1⟩
  obtain ⟨k1, k2⟩ := kY ps hu hok hnd hpp
  clear kY kN
  have hndr : ps.reverse.Nodup := List.pairwise_reverse.mpr (List.Pairwise.imp (fun h e => h e.symm) hnd)
  have hppr : ∀ p ∈ ps.reverse, p < 8 * ns.length := fun p hp => hpp p (List.mem_reverse.mp hp)
  generalize hcn : cnt (ps.reverse.map (chg ns.length)) (crcN (sets ns ps.reverse 0) ^^^ wd) = cn at e1 hL
  refine ⟨r, _, rfl, .of e1, rfl, ?_⟩
  try simp only [tSeq, tAsg, tVar, tC, tOp, rI0, rI, tUn, rU, tIfS, tTest, tRet, tRetN, tDrop, tCB, tCons, tNil, tLst, tLstI, tTup, gName, tB, tAnd, tOr, tNot, tAndV, tOrV, tNotV, tIf, tNext, tBreak, tCont, gSub, tCall, tCallN, tAug, ipI, tBML, tBML0, isL_IL, isL_lst, L2.start, List.map_cons, List.map_nil, List.length_cons, List.length_nil, List.cons_append, List.nil_append, List.getElem?_cons_succ, List.getElem?_cons_zero, Option.some.injEq, exists_eq_left', exists_eq_left, exists_and_left, V.int.injEq, V.ref.injEq, V.bl.injEq, V.str.injEq, List.set_cons_zero, List.set_cons_succ, List.cons.injEq, and_true, true_and, Nat.reduceAdd, Nat.reduceSub, List.replicate_succ, List.replicate_zero, rIxI, rIxH, rIxTH, rSetI, rSetH, rCatI, rRepI, rSlI, rAppendI, rExtendI, decide_eq_true_eq, upd_same, IL_inj, HO.lst.injEq, toInts_cons, toInts_nil, Option.map_some, if_true, if_false, Bool.true_eq_false, Bool.false_eq_true, Bool.not_true, Bool.not_false, Bool.not_eq_true', decide_eq_false_iff_not, atI_0, atI_1, atI_2, atI_3, atI_4, Int.reduceToNat, Int.reduceLT, Int.reduceLE, Int.reduceNeg, Int.reducePow, cast_lit, upd_upd, Int.reduceAdd, Int.reduceMul, Int.reduceSub, Nat.reduceLT, Nat.reduceLeDiff, cmul_r, cdiv_r, tSl, tPart, tNoPart, rEq, rNe, scal_nn, scal_ii, scal_bb, scal_ss, scal_is, scal_si, V.ty.injEq, and_assoc, tyH_non, tyH_bl, tyH_int, tyH_str, tyH_ref, tyO_lst, tyO_IL, tyO_tup, itO_lst, itO_tup, itO_IL, Dw.rIxD, rLenI, rLenH, rLenTH, rLenQ, rLenB, rListI, Dw.rListS, rIntI, rIntB, rSumI, rIsiD, rIsX, tCallS, tMakeS, tMake, tMakeC, tMakeSC, tFld, sFld, HO.ins.injEq, HO.tup.injEq, cxOf_K, nox_K, tr_K, suite_K, rTupleI, rAllB, rAnyB, BL_inj, tChain, wOnly, wAs, wMany, rEqI, rNeI, Dw.rMax2, rMin2, Dw.rIsN, rIsNotN, rStrIn, rStrNotIn, not_true_eq_false, not_false_eq_true, reduceCtorEq, cl_bool, cl_int, cl_str, cl_list, cl_tuple, isB_NoneType_bool, isB_NoneType_int, isB_NoneType_str, isB_NoneType_list, isB_NoneType_tuple, isB_bool_bool, isB_bool_int, isB_bool_str, isB_bool_list, isB_bool_tuple, isB_int_bool, isB_int_int, isB_int_str, isB_int_list, isB_int_tuple, isB_str_bool, isB_str_int, isB_str_str, isB_str_list, isB_str_tuple, isB_list_bool, isB_list_int, isB_list_str, isB_list_list, isB_list_tuple, isB_tuple_bool, isB_tuple_int, isB_tuple_str, isB_tuple_list, isB_tuple_tuple, rSlCI, iRng3, iRev, gCons, gNil, iZip, iEnum, tLc_eq, tFor_eq, iRng1, iRng2, iList, iTup, rSetD, iKeys, tDNewK, Int.reducePow, Int.reduceNeg, iEz, tPar, tRevL, Dw.rSetL, Dw.rIxL, rIxE, iSeqA, iEnumT]
  by_cases c1 : cn = 1
  · rw [if_neg (fun h => h (by rw [c1]; rfl))]
    obtain ⟨c, g1, g2, rfl⟩ := hL (by omega)
    rw [hu] at hU
    refine ⟨a, u, ns, ps, rfl, s1 _ _ hA, s1 _ _ hU, hpp, hb, by omega, fun r2 H2 s2 n2 e2 => ?_⟩
    refine ⟨r2, q, sets ns ps.reverse 0, chs ps.reverse c, rfl, e2, s2 _ _ eL, fun p hp => by rw [sets_len]; exact hppr p (chs_sub _ _ _ hp), sets_bytes hb _ _, by rw [sets_len]; omega, fun r3 H3 s3 n3 e3 => ?_⟩
    rw [sets_turns c hb hndr hppr] at e3
    exact k2 _ (oneU_some hb hndr hppr (hcn.trans c1) (by rw [List.length_reverse]; exact g1) g2) r3 H3 (s1.trans (s2.trans s3)) (same_none (s1.trans s2) n3) e3
  · rw [if_pos (by omega)]
    exact k1 (oneU_none hb hndr hppr (by rw [hcn]; exact c1)) _ s1
end
section
variable {P : Program} {w : World} {K : PySem.W.Frag} {mg : Str → Option Value} {base : Heap} {A : Ad}
def redC : Nat → Bs → Nat → Nat → Nat × Nat
  | 0, _, d, c => (d, c)
  | n + 1, B, d, c => match look B (sz d) with
    | none => (d, c)
    | some e => redC n B (d ^^^ e.1) (c ^^^ e.2)
theorem redC_red {B : Bs} (hB : Nz B) : ∀ (n d c : Nat), sz d ≤ n → Red B d c (redC n B d c).1 (redC n B d c).2
  | 0, d, c, h => .stop (look_none.mpr fun e he q => hB e he (sz_zero.mp (by omega)))
  | n + 1, d, c, h => by
    unfold redC
    cases hl : look B (sz d) with
    | none => exact .stop hl
    | some e =>
      have := hB.less (b := e.1) (x := e.2) hl
      exact .step (b := e.1) (x := e.2) hl (redC_red hB n _ _ (by omega))
def basC : List Nat → Bs
  | [] => []
  | v :: r => if (redC 16 (basC r) v (2 ^ r.length)).1 = 0 then basC r else basC r ++ [((redC 16 (basC r) v (2 ^ r.length)).1, (redC 16 (basC r) v (2 ^ r.length)).2)]
theorem basC_bas : ∀ (vs : List Nat), (∀ v ∈ vs, v < 65536) → Bas vs (basC vs)
  | [], _ => bas_nil
  | v :: r, h => by
    have ih := basC_bas r fun x hx => h x (List.mem_cons_of_mem _ hx)
    have hr := redC_red ih.ech.1 16 v (2 ^ r.length) (sz_le.mpr (h v List.mem_cons_self))
    unfold basC
    by_cases c : (redC 16 (basC r) v (2 ^ r.length)).1 = 0
    · rw [if_pos c]
      rw [c] at hr
      exact ih.same hr
    · rw [if_neg c]
      exact ih.put hr c
/-- the eight bits of a byte, the newest first; m bytes lie behind it -/
def rows8 (m : Nat) : List Nat := [itS (8 * m) 4129, itS (8 * m + 1) 4129, itS (8 * m + 2) 4129, itS (8 * m + 3) 4129, itS (8 * m + 4) 4129, itS (8 * m + 5) 4129, itS (8 * m + 6) 4129, itS (8 * m + 7) 4129]
theorem tab8 : ((List.range 64).all fun m => decide ((basC (rows8 m)).length = 8)) = true := by decide +kernel
def pl8 (t : Nat) : List Nat := [8 * t + 7, 8 * t + 6, 8 * t + 5, 8 * t + 4, 8 * t + 3, 8 * t + 2, 8 * t + 1, 8 * t]
theorem pl8_rev (t : Nat) : ((List.range 8).map fun i => 8 * t + i).reverse = pl8 t := rfl
theorem pl8_rows {n t : Nat} (h : t < n) : (pl8 t).map (chg n) = rows8 (n - 1 - t) := by
  unfold pl8 rows8 chg
  simp only [List.map_cons, List.map_nil]
  rw [show 8 * n - 1 - (8 * t + 7) = 8 * (n - 1 - t) by omega, show 8 * n - 1 - (8 * t + 6) = 8 * (n - 1 - t) + 1 by omega, show 8 * n - 1 - (8 * t + 5) = 8 * (n - 1 - t) + 2 by omega, show 8 * n - 1 - (8 * t + 4) = 8 * (n - 1 - t) + 3 by omega, show 8 * n - 1 - (8 * t + 3) = 8 * (n - 1 - t) + 4 by omega, show 8 * n - 1 - (8 * t + 2) = 8 * (n - 1 - t) + 5 by omega, show 8 * n - 1 - (8 * t + 1) = 8 * (n - 1 - t) + 6 by omega, show 8 * n - 1 - 8 * t = 8 * (n - 1 - t) + 7 by omega]
def rev8 (v : Nat) : Nat := (List.range 8).foldl (fun s i => s + if v.testBit (7 - i) then 2 ^ i else 0) 0
theorem rev_tab : ((List.range 256).all fun v => decide (rev8 v < 256) && (List.range 8).all fun i => (rev8 v).testBit i == v.testBit (7 - i)) = true := by decide +kernel
theorem rev_at {v : Nat} (hv : v < 256) : rev8 v < 256 ∧ ∀ i, i < 8 → (rev8 v).testBit i = v.testBit (7 - i) := by
  have := List.all_eq_true.mp rev_tab v (List.mem_range.mpr hv)
  rw [Bool.and_eq_true] at this
  exact ⟨of_decide_eq_true this.1, fun i hi => eq_of_beq (List.all_eq_true.mp this.2 i (List.mem_range.mpr hi))⟩
theorem bo8 (t c x : Nat) : bo (pl8 t) c x = if 8 * t ≤ x ∧ x < 8 * t + 8 then some (c.testBit (x - 8 * t)) else none := by
  unfold pl8
  simp only [bo, List.length_cons, List.length_nil]
  by_cases h : 8 * t ≤ x ∧ x < 8 * t + 8
  · rw [if_pos h]
    obtain ⟨i, rfl⟩ : ∃ i, x = 8 * t + i := ⟨x - 8 * t, by omega⟩
    rw [show 8 * t + i - 8 * t = i by omega]
    obtain rfl | rfl | rfl | rfl | rfl | rfl | rfl | rfl : i = 0 ∨ i = 1 ∨ i = 2 ∨ i = 3 ∨ i = 4 ∨ i = 5 ∨ i = 6 ∨ i = 7 := by omega
    all_goals simp
  · rw [if_neg h]
    rw [if_neg (by omega), if_neg (by omega), if_neg (by omega), if_neg (by omega), if_neg (by omega), if_neg (by omega), if_neg (by omega), if_neg (by omega)]
/-- a byte of which nothing is known comes back by the CRC -/
theorem uni8 {vs : List Nat} {t y : Nat} (hv : ∀ v ∈ vs, v < 256) (hy : y < 256) (ht : t < vs.length) (hl : vs.length ≤ 64) : oneU (vs.set t y) (pl8 t) (crcN vs) = some vs := by
  have hs : ∀ v ∈ vs.set t y, v < 256 := fun v h => (List.mem_or_eq_of_mem_set h).elim (hv v) fun e => by rw [e]; exact hy
  have hn : (pl8 t).Nodup := by
    unfold pl8
    simp only [List.nodup_cons, List.mem_cons, List.not_mem_nil, or_false, not_or, List.nodup_nil, and_true, not_false_eq_true]
    omega
  have hp : ∀ p ∈ pl8 t, p < 8 * (vs.set t y).length := fun p hp => by
    rw [List.length_set]
    unfold pl8 at hp
    simp only [List.mem_cons, List.not_mem_nil, or_false] at hp
    omega
  have hg : vs.getD t 0 < 256 := by
    rw [List.getD_eq_getElem?_getD, List.getElem?_eq_getElem ht]
    exact hv _ (List.getElem_mem ht)
  obtain ⟨c1, c2⟩ := rev_at hg
  have hsv : sets (vs.set t y) (pl8 t) (rev8 (vs.getD t 0)) = vs := by
    refine bits_ext (by rw [sets_len, List.length_set]) (sets_bytes hs _ _) hv fun x hx => ?_
    rw [sets_len, List.length_set] at hx
    rw [sets_bit _ x hp, bo8]
    by_cases h : 8 * t ≤ x ∧ x < 8 * t + 8
    · rw [if_pos h]
      show (rev8 (vs.getD t 0)).testBit (x - 8 * t) = _
      rw [c2 _ (by omega)]
      unfold bitB
      rw [show x / 8 = t by omega, show x % 8 = x - 8 * t by omega]
    · rw [if_neg h]
      show bitB (vs.set t y) x = _
      unfold bitB
      rw [List.getD_eq_getElem?_getD, List.getElem?_set_ne (by omega), ← List.getD_eq_getElem?_getD]
  have hcr := crc_sets (rev8 (vs.getD t 0)) hs hn hp
  rw [hsv] at hcr
  have hcomb : comb ((pl8 t).map (chg (vs.set t y).length)) (rev8 (vs.getD t 0)) = crcN (sets (vs.set t y) (pl8 t) 0) ^^^ crcN vs := by
    rw [hcr, ← Nat.xor_assoc, Nat.xor_self, Nat.zero_xor]
  have hc8 : rev8 (vs.getD t 0) < 2 ^ (pl8 t).length := c1
  have hcnt : cnt ((pl8 t).map (chg (vs.set t y).length)) (crcN (sets (vs.set t y) (pl8 t) 0) ^^^ crcN vs) = 1 := by
    have hB := basC_bas ((pl8 t).map (chg (vs.set t y).length)) fun v hv => by
      obtain ⟨x, _, rfl⟩ := List.mem_map.mp hv
      exact chg_lt _ _
    have h8 : (basC ((pl8 t).map (chg (vs.set t y).length))).length = 8 := by
      rw [List.length_set, pl8_rows ht]
      exact of_decide_eq_true (List.all_eq_true.mp tab8 (vs.length - 1 - t) (List.mem_range.mpr (by omega)))
    have hz : Zr (basC ((pl8 t).map (chg (vs.set t y).length))) (crcN (sets (vs.set t y) (pl8 t) 0) ^^^ crcN vs) := Classical.byContradiction fun hn => by
      have h0 := (hB.num _).2 hn
      rw [cnt_all, List.countP_eq_zero] at h0
      exact h0 _ (chAll_mem _ _ (by rw [List.length_map]; exact hc8)) (decide_eq_true hcomb)
    rw [(hB.num _).1 hz, h8, List.length_map]
    rfl
  rw [oneU_some hs hn hp hcnt hc8 hcomb, hsv]
end
section
variable {P : Program} {w : World} {K : PySem.W.Frag} {mg : Str → Option Value} {base : Heap} {A : Ad}
theorem count_both {t z : Int} (h : z ≠ t) : ∀ ns : List Int, ns.count z + ns.count t ≤ ns.length
  | [] => Nat.le_refl _
  | x :: r => by
    have ih := count_both h r
    rw [List.count_cons, List.count_cons, List.length_cons]
    by_cases c : x = t
    · subst c
      rw [if_neg (by simpa using fun e => h e.symm), if_pos (by simp)]
      omega
    · rw [if_neg (show ¬ (x == t) = true by simpa using c)]
      split <;> omega
theorem maj {ns : List Int} {t : Int} {v : V} (h : ns.length < 2 * ns.count t) (hv : mergedV ns v) : v = .int t := by
  have ht : t ∈ ns := by
    rw [← List.count_pos_iff]
    omega
  have := merged_of (m := ((ns.count t : Nat) : Int)) ⟨t, ht, rfl⟩ (fun z _ => by
    by_cases c : z = t
    · rw [c]; omega
    · have := count_both c ns
      omega) (best := [t]) (List.pairwise_singleton _ _) (fun z => by
    rw [List.mem_singleton]
    constructor
    · intro e
      subst e
      exact ⟨ht, rfl⟩
    · rintro ⟨_, e⟩
      apply Classical.byContradiction
      intro c
      have := count_both c ns
      omega) hv
  rw [this]
  rfl
theorem rep_double {t : List Int} (h : t.length = 32 ∨ t.length = 64) : repLen (t ++ t) ≤ t.length := by
  have h0 : (t ++ t).length = 2 * t.length := by rw [List.length_append]; omega
  have hrep : isRep (t ++ t) t.length = true := by
    unfold isRep
    rw [h0, List.take_left, show 2 * t.length / t.length = 2 by rcases h with h | h <;> rw [h]]
    refine decide_eq_true ?_
    unfold rep
    simp [List.replicate]
  unfold repLen
  rw [h0]
  rcases h with h | h
  · rw [h] at hrep ⊢
    rw [show powL (2 * 32) = [16, 32, 64] by decide]
    unfold firstRep
    split
    · decide
    · unfold firstRep
      rw [if_pos hrep]
      exact Nat.le_refl _
  · rw [h] at hrep ⊢
    rw [show powL (2 * 64) = [16, 32, 64, 128] by decide]
    unfold firstRep
    split
    · decide
    · unfold firstRep
      split
      · decide
      · unfold firstRep
        rw [if_pos hrep]
        exact Nat.le_refl _
theorem lenD_double {t : List Int} (h : t.length = 32 ∨ t.length = 64) : lenD (t ++ t) ≤ t.length ∧ isP (t ++ t).length ∧ (t ++ t).take (lenD (t ++ t)) = t.take (lenD (t ++ t)) := by
  have hr := rep_double h
  have h0 : (t ++ t).length = 2 * t.length := by rw [List.length_append]; omega
  have hb := lenD_base (ns := t ++ t) (.inl (by omega))
  refine ⟨by rw [hb]; exact hr, ?_, ?_⟩
  · rw [h0]
    unfold isP
    rcases h with h | h <;> rw [h] <;> decide
  · rw [hb]
    exact List.take_append_of_le_length hr
theorem countP_put {α : Type} (f : α → Bool) : ∀ (l : List α) (i : Nat) (x : α), (l.set i x).countP f ≤ l.countP f + 1
  | [], _, _ => Nat.zero_le _
  | y :: r, 0, x => by
    rw [List.set_cons_zero, List.countP_cons, List.countP_cons]
    split <;> split <;> omega
  | y :: r, i + 1, x => by
    have := countP_put f r i x
    rw [List.set_cons_succ, List.countP_cons, List.countP_cons]
    split <;> omega
theorem countP_keep {α : Type} (f : α → Bool) : ∀ (l : List α) (i : Nat) (x y : α), l[i]? = some y → f x = f y → (l.set i x).countP f = l.countP f
  | [], _, _, _, _, _ => rfl
  | a :: r, 0, x, y, h, e => by
    cases h
    rw [List.set_cons_zero, List.countP_cons, List.countP_cons, e]
  | a :: r, i + 1, x, y, h, e => by
    rw [List.set_cons_succ, List.countP_cons, List.countP_cons, countP_keep f r i x y h e]
theorem count_ne (g : List Int → Int) (t : Int) : ∀ rs : List (List Int), (rs.map g).count t + rs.countP (fun r => decide (g r ≠ t)) = rs.length
  | [] => rfl
  | r :: l => by
    have := count_ne g t l
    rw [List.map_cons, List.count_cons, List.countP_cons, List.length_cons]
    by_cases c : g r = t
    · rw [if_pos (by rw [c]; exact beq_self_eq_true t), if_neg (by simp [c])]
      omega
    · rw [if_neg (by simpa using c), if_pos (by simpa using c)]
      omega
end
section
variable {P : Program} {w : World} {K : PySem.W.Frag} {mg : Str → Option Value} {base : Heap} {A : Ad}
theorem ok_law_spread (T : Tx K mg A) : FnOk P w K mg base CX0 1 A.f_law_spread A.d_law_spread ["cell"] spSpread := by
  refine T.F_law_spread.ok sc_law_spread (fun vs H Q E h => ?_) (fun cdv A' outer s H vs Q E hr h => ?_)
  · obtain ⟨n, rfl, _⟩ := h
    rfl
  obtain ⟨n, rfl, q⟩ := h
  refine ⟨_, (pss_cons (ps_set (i := 1) sc_law_spread.nd rfl (Or.inl rfl) (pe_op op_mod (pe_callTy call_intI (by rfl) T.z_int (by decide +kernel) (pa_cons (pv 0) pa_nil)) pe_int))
      (pss_cons (ps_set (i := 2) sc_law_spread.nd rfl (Or.inl rfl) pe_int)
      (pss_cons (ps_for PassesOwn.never rfl (pi_range1 rfl T.z_range (pa_cons pe_int pa_nil)) (pg_name (i := 3) sc_law_spread.nd rfl (Or.inl rfl))
        (pss_cons (ps_set (i := 1) sc_law_spread.nd rfl (Or.inl rfl) (pe_op op_mod (pe_callTy call_intI (by rfl) T.z_int (by decide +kernel) (pa_cons (pe_op op_add (pe_op op_add (pe_op op_mul (pv 1) pe_int) pe_int) (pv 3)) pa_nil)) pe_int))
      (pss_one (ps_set (i := 2) sc_law_spread.nd rfl (Or.inl rfl) (pe_op op_add (pe_op op_mul (pv 2) pe_int) (pv 1))))))
      (pss_one (ps_ret (pv 2)))))), ?_⟩
  try simp only [tSeq, tAsg, tVar, tC, tOp, rI0, rI, tUn, rU, tIfS, tTest, tRet, tRetN, tDrop, tCB, tCons, tNil, tLst, tLstI, tTup, gName, tB, tAnd, tOr, tNot, tAndV, tOrV, tNotV, tIf, tNext, tBreak, tCont, gSub, tCall, tCallN, tAug, ipI, tBML, tBML0, isL_IL, isL_lst, L2.start, List.map_cons, List.map_nil, List.length_cons, List.length_nil, List.cons_append, List.nil_append, List.getElem?_cons_succ, List.getElem?_cons_zero, Option.some.injEq, exists_eq_left', exists_eq_left, exists_and_left, V.int.injEq, V.ref.injEq, V.bl.injEq, V.str.injEq, List.set_cons_zero, List.set_cons_succ, List.cons.injEq, and_true, true_and, Nat.reduceAdd, Nat.reduceSub, List.replicate_succ, List.replicate_zero, rIxI, rIxH, rIxTH, rSetI, rSetH, rCatI, rRepI, rSlI, rAppendI, rExtendI, decide_eq_true_eq, upd_same, IL_inj, HO.lst.injEq, toInts_cons, toInts_nil, Option.map_some, if_true, if_false, Bool.true_eq_false, Bool.false_eq_true, Bool.not_true, Bool.not_false, Bool.not_eq_true', decide_eq_false_iff_not, atI_0, atI_1, atI_2, atI_3, atI_4, Int.reduceToNat, Int.reduceLT, Int.reduceLE, Int.reduceNeg, Int.reducePow, cast_lit, upd_upd, Int.reduceAdd, Int.reduceMul, Int.reduceSub, Nat.reduceLT, Nat.reduceLeDiff, cmul_r, cdiv_r, tSl, tPart, tNoPart, rEq, rNe, scal_nn, scal_ii, scal_bb, scal_ss, scal_is, scal_si, V.ty.injEq, and_assoc, tyH_non, tyH_bl, tyH_int, tyH_str, tyH_ref, tyO_lst, tyO_IL, tyO_tup, itO_lst, itO_tup, itO_IL, Dw.rIxD, rLenI, rLenH, rLenTH, rLenQ, rLenB, rListI, Dw.rListS, rIntI, rIntB, rSumI, rIsiD, rIsX, tCallS, tMakeS, tMake, tMakeC, tMakeSC, tFld, sFld, HO.ins.injEq, HO.tup.injEq, cxOf_K, nox_K, tr_K, suite_K, rTupleI, rAllB, rAnyB, BL_inj, tChain, wOnly, wAs, wMany, rEqI, rNeI, Dw.rMax2, rMin2, Dw.rIsN, rIsNotN, rStrIn, rStrNotIn, not_true_eq_false, not_false_eq_true, reduceCtorEq, cl_bool, cl_int, cl_str, cl_list, cl_tuple, isB_NoneType_bool, isB_NoneType_int, isB_NoneType_str, isB_NoneType_list, isB_NoneType_tuple, isB_bool_bool, isB_bool_int, isB_bool_str, isB_bool_list, isB_bool_tuple, isB_int_bool, isB_int_int, isB_int_str, isB_int_list, isB_int_tuple, isB_str_bool, isB_str_int, isB_str_str, isB_str_list, isB_str_tuple, isB_list_bool, isB_list_int, isB_list_str, isB_list_list, isB_list_tuple, isB_tuple_bool, isB_tuple_int, isB_tuple_str, isB_tuple_list, isB_tuple_tuple, iEz, tPar, tRevL, Dw.rSetL, Dw.rIxL, rIxE, iSeqA, iEnumT]
  obtain ⟨I, hI⟩ : ∃ F : Nat → L2.St → Hp → Prop, F = (fun i σ H' => H' = H ∧ ∃ m wd : Int, ∃ y, σ = [some (V.int n), some (V.int m), some (V.int wd), y]) := ⟨_, rfl⟩
  refine ⟨4, rfl, by decide, by decide, for_range (lo := 0) (n := 4) I (by rw [hI]; exact ⟨rfl, n % 2147483647, 1, none, rfl⟩) ?_ ?_⟩
  · intro i σ H' hi h
    rw [hI] at h
    obtain ⟨rfl, m, wd, y, rfl⟩ := h
    try simp only [tSeq, tAsg, tVar, tC, tOp, rI0, rI, tUn, rU, tIfS, tTest, tRet, tRetN, tDrop, tCB, tCons, tNil, tLst, tLstI, tTup, gName, tB, tAnd, tOr, tNot, tAndV, tOrV, tNotV, tIf, tNext, tBreak, tCont, gSub, tCall, tCallN, tAug, ipI, tBML, tBML0, isL_IL, isL_lst, L2.start, List.map_cons, List.map_nil, List.length_cons, List.length_nil, List.cons_append, List.nil_append, List.getElem?_cons_succ, List.getElem?_cons_zero, Option.some.injEq, exists_eq_left', exists_eq_left, exists_and_left, V.int.injEq, V.ref.injEq, V.bl.injEq, V.str.injEq, List.set_cons_zero, List.set_cons_succ, List.cons.injEq, and_true, true_and, Nat.reduceAdd, Nat.reduceSub, List.replicate_succ, List.replicate_zero, rIxI, rIxH, rIxTH, rSetI, rSetH, rCatI, rRepI, rSlI, rAppendI, rExtendI, decide_eq_true_eq, upd_same, IL_inj, HO.lst.injEq, toInts_cons, toInts_nil, Option.map_some, if_true, if_false, Bool.true_eq_false, Bool.false_eq_true, Bool.not_true, Bool.not_false, Bool.not_eq_true', decide_eq_false_iff_not, atI_0, atI_1, atI_2, atI_3, atI_4, Int.reduceToNat, Int.reduceLT, Int.reduceLE, Int.reduceNeg, Int.reducePow, cast_lit, upd_upd, Int.reduceAdd, Int.reduceMul, Int.reduceSub, Nat.reduceLT, Nat.reduceLeDiff, cmul_r, cdiv_r, tSl, tPart, tNoPart, rEq, rNe, scal_nn, scal_ii, scal_bb, scal_ss, scal_is, scal_si, V.ty.injEq, and_assoc, tyH_non, tyH_bl, tyH_int, tyH_str, tyH_ref, tyO_lst, tyO_IL, tyO_tup, itO_lst, itO_tup, itO_IL, Dw.rIxD, rLenI, rLenH, rLenTH, rLenQ, rLenB, rListI, Dw.rListS, rIntI, rIntB, rSumI, rIsiD, rIsX, tCallS, tMakeS, tMake, tMakeC, tMakeSC, tFld, sFld, HO.ins.injEq, HO.tup.injEq, cxOf_K, nox_K, tr_K, suite_K, rTupleI, rAllB, rAnyB, BL_inj, tChain, wOnly, wAs, wMany, rEqI, rNeI, Dw.rMax2, rMin2, Dw.rIsN, rIsNotN, rStrIn, rStrNotIn, not_true_eq_false, not_false_eq_true, reduceCtorEq, cl_bool, cl_int, cl_str, cl_list, cl_tuple, isB_NoneType_bool, isB_NoneType_int, isB_NoneType_str, isB_NoneType_list, isB_NoneType_tuple, isB_bool_bool, isB_bool_int, isB_bool_str, isB_bool_list, isB_bool_tuple, isB_int_bool, isB_int_int, isB_int_str, isB_int_list, isB_int_tuple, isB_str_bool, isB_str_int, isB_str_str, isB_str_list, isB_str_tuple, isB_list_bool, isB_list_int, isB_list_str, isB_list_list, isB_list_tuple, isB_tuple_bool, isB_tuple_int, isB_tuple_str, isB_tuple_list, isB_tuple_tuple, iEz, tPar, tRevL, Dw.rSetL, Dw.rIxL, rIxE, iSeqA, iEnumT]
    rw [hI]
    exact ⟨rfl, _, _, _, rfl⟩
  · intro σ H' h
    rw [hI] at h
    obtain ⟨rfl, m, wd, y, rfl⟩ := h
    try simp only [tSeq, tAsg, tVar, tC, tOp, rI0, rI, tUn, rU, tIfS, tTest, tRet, tRetN, tDrop, tCB, tCons, tNil, tLst, tLstI, tTup, gName, tB, tAnd, tOr, tNot, tAndV, tOrV, tNotV, tIf, tNext, tBreak, tCont, gSub, tCall, tCallN, tAug, ipI, tBML, tBML0, isL_IL, isL_lst, L2.start, List.map_cons, List.map_nil, List.length_cons, List.length_nil, List.cons_append, List.nil_append, List.getElem?_cons_succ, List.getElem?_cons_zero, Option.some.injEq, exists_eq_left', exists_eq_left, exists_and_left, V.int.injEq, V.ref.injEq, V.bl.injEq, V.str.injEq, List.set_cons_zero, List.set_cons_succ, List.cons.injEq, and_true, true_and, Nat.reduceAdd, Nat.reduceSub, List.replicate_succ, List.replicate_zero, rIxI, rIxH, rIxTH, rSetI, rSetH, rCatI, rRepI, rSlI, rAppendI, rExtendI, decide_eq_true_eq, upd_same, IL_inj, HO.lst.injEq, toInts_cons, toInts_nil, Option.map_some, if_true, if_false, Bool.true_eq_false, Bool.false_eq_true, Bool.not_true, Bool.not_false, Bool.not_eq_true', decide_eq_false_iff_not, atI_0, atI_1, atI_2, atI_3, atI_4, Int.reduceToNat, Int.reduceLT, Int.reduceLE, Int.reduceNeg, Int.reducePow, cast_lit, upd_upd, Int.reduceAdd, Int.reduceMul, Int.reduceSub, Nat.reduceLT, Nat.reduceLeDiff, cmul_r, cdiv_r, tSl, tPart, tNoPart, rEq, rNe, scal_nn, scal_ii, scal_bb, scal_ss, scal_is, scal_si, V.ty.injEq, and_assoc, tyH_non, tyH_bl, tyH_int, tyH_str, tyH_ref, tyO_lst, tyO_IL, tyO_tup, itO_lst, itO_tup, itO_IL, Dw.rIxD, rLenI, rLenH, rLenTH, rLenQ, rLenB, rListI, Dw.rListS, rIntI, rIntB, rSumI, rIsiD, rIsX, tCallS, tMakeS, tMake, tMakeC, tMakeSC, tFld, sFld, HO.ins.injEq, HO.tup.injEq, cxOf_K, nox_K, tr_K, suite_K, rTupleI, rAllB, rAnyB, BL_inj, tChain, wOnly, wAs, wMany, rEqI, rNeI, Dw.rMax2, rMin2, Dw.rIsN, rIsNotN, rStrIn, rStrNotIn, not_true_eq_false, not_false_eq_true, reduceCtorEq, cl_bool, cl_int, cl_str, cl_list, cl_tuple, isB_NoneType_bool, isB_NoneType_int, isB_NoneType_str, isB_NoneType_list, isB_NoneType_tuple, isB_bool_bool, isB_bool_int, isB_bool_str, isB_bool_list, isB_bool_tuple, isB_int_bool, isB_int_int, isB_int_str, isB_int_list, isB_int_tuple, isB_str_bool, isB_str_int, isB_str_str, isB_str_list, isB_str_tuple, isB_list_bool, isB_list_int, isB_list_str, isB_list_list, isB_list_tuple, isB_tuple_bool, isB_tuple_int, isB_tuple_str, isB_tuple_list, isB_tuple_tuple, iEz, tPar, tRevL, Dw.rSetL, Dw.rIxL, rIxE, iSeqA, iEnumT]
    exact q _
theorem ok_law_draw (T : Tx K mg A) : FnOk P w K mg base CX0 2 A.f_law_draw A.d_law_draw ["pool", "many"] spDraw := by
  refine T.F_law_draw.ok sc_law_draw (fun vs H Q E h => ?_) (fun cdv A' outer s H vs Q E hr h => ?_)
  · obtain ⟨p, sc, m, rfl, _⟩ := h
    rfl
  obtain ⟨p, sc, m, rfl, hP, m0, m1, q⟩ := h
  refine ⟨_, (pss_cons (ps_if (PW.pt (pw_and (pt_cmpR op_le (pe_ix ix_listH (pv 0) pe_int (fun _ _ => rfl)) pe_int (nomark _)) (pw_and1 (pt_cmpR op_lt (pe_ix ix_listH (pv 0) pe_int (fun _ _ => rfl)) (pe_callB call_lenI (by rfl) T.z_len (by decide +kernel) (pa_cons (pe_ix ix_listH (pv 0) pe_int (fun _ _ => rfl)) pa_nil)) (nomark _))))) (pss_cons (ps_set (i := 2) sc_law_draw.nd rfl (Or.inl rfl) (pe_ix ix_listI (pe_ix ix_listH (pv 0) pe_int (fun _ _ => rfl)) (pe_ix ix_listH (pv 0) pe_int (fun _ _ => rfl)) (fun _ _ => rfl)))
      (pss_cons (ps_asg (pe_op op_add (pe_ix ix_listH (pv 0) pe_int (fun _ _ => rfl)) pe_int) (pg_sub (pv 0) pe_int set_listH))
      (pss_cons (ps_asg (pv 2) (pg_sub (pv 0) pe_int set_listH))
      (pss_one (ps_if (pt_cmpR op_lt (pv 2) pe_int (nomark _)) (pss_one (ps_asg (pe_call (ok_law_spread T) (hr.mono (by decide)) rfl T.g_law_spread T.F_law_spread.kp T.b_law_spread .nil pass0 (pa_cons (pv 2) pa_nil)) (pg_sub (pv 0) pe_int set_listH))) pss_nil))))) pss_nil)
      (pss_cons (ps_asg (pe_op op_add (pe_ix ix_listH (pv 0) pe_int (fun _ _ => rfl)) pe_int) (pg_sub (pv 0) pe_int set_listH))
      (pss_cons (ps_if (pt_cmpR op_le (pe_ix ix_listH (pv 0) pe_int (fun _ _ => rfl)) pe_int (nomark _)) (pss_cons (ps_set (i := 3) sc_law_draw.nd rfl (Or.inl rfl) (pe_op op_mod (pe_callTy call_intI (by rfl) T.z_int (by decide +kernel) (pa_cons (pe_op op_add (pe_op op_add (pe_op op_mul (pe_ix ix_listH (pv 0) pe_int (fun _ _ => rfl)) pe_int) (pe_op op_mul (pe_ix ix_listH (pv 0) pe_int (fun _ _ => rfl)) pe_int)) pe_int) pa_nil)) pe_int))
      (pss_cons (ps_set (i := 3) sc_law_draw.nd rfl (Or.inl rfl) (pe_op op_mod (pe_callTy call_intI (by rfl) T.z_int (by decide +kernel) (pa_cons (pe_op op_add (pe_op op_mul (pv 3) pe_int) (pe_ix ix_listH (pv 0) pe_int (fun _ _ => rfl))) pa_nil)) pe_int))
      (pss_one (ps_ret (pe_op op_mod (pe_op op_fdiv (pv 3) pe_int) (pv 1)))))) pss_nil)
      (pss_cons (ps_set (i := 4) sc_law_draw.nd rfl (Or.inl rfl) (pe_op op_mod (pe_callTy call_intI (by rfl) T.z_int (by decide +kernel) (pa_cons (pe_ix ix_listH (pv 0) pe_int (fun _ _ => rfl)) pa_nil)) (pv 1)))
      (pss_cons (ps_asg (pe_op op_fdiv (pe_ix ix_listH (pv 0) pe_int (fun _ _ => rfl)) (pv 1)) (pg_sub (pv 0) pe_int set_listH))
      (pss_one (ps_ret (pv 4)))))))), ?_⟩
  obtain ⟨ns, a, b, c, d, h1, h2, h3, h4⟩ := hP
  have hd : CDiv b m ∧ ∀ x, CDiv x m := ⟨⟨m0, m1⟩, fun x => ⟨m0, m1⟩⟩
  have fin : ∀ (x a' b' c' : Int), 0 ≤ a' → Q (V.int (x % m)) (upd H p (HO.lst [V.ref sc, V.int a', V.int b', V.int c', V.int d])) := fun x a' b' c' ha =>
    q _ _ (Int.emod_nonneg _ (by omega)) (Int.emod_lt_of_pos _ m0) (Pool.put h1 h2 ha h4) (sameB_upd _)
  unfold PoolL at h1
  have hne := pool_ne h1 h2
  have h2' : H sc = some (IL ns) := h2
  try simp only [tSeq, tAsg, tVar, tC, tOp, rI0, rI, tUn, rU, tIfS, tTest, tRet, tRetN, tDrop, tCB, tCons, tNil, tLst, tLstI, tTup, gName, tB, tAnd, tOr, tNot, tAndV, tOrV, tNotV, tIf, tNext, tBreak, tCont, gSub, tCall, tCallN, tAug, ipI, tBML, tBML0, isL_IL, isL_lst, L2.start, List.map_cons, List.map_nil, List.length_cons, List.length_nil, List.cons_append, List.nil_append, List.getElem?_cons_succ, List.getElem?_cons_zero, Option.some.injEq, exists_eq_left', exists_eq_left, exists_and_left, V.int.injEq, V.ref.injEq, V.bl.injEq, V.str.injEq, List.set_cons_zero, List.set_cons_succ, List.cons.injEq, and_true, true_and, Nat.reduceAdd, Nat.reduceSub, List.replicate_succ, List.replicate_zero, rIxI, rIxH, rIxTH, rSetI, rSetH, rCatI, rRepI, rSlI, rAppendI, rExtendI, decide_eq_true_eq, upd_same, IL_inj, HO.lst.injEq, toInts_cons, toInts_nil, Option.map_some, if_true, if_false, Bool.true_eq_false, Bool.false_eq_true, Bool.not_true, Bool.not_false, Bool.not_eq_true', decide_eq_false_iff_not, atI_0, atI_1, atI_2, atI_3, atI_4, Int.reduceToNat, Int.reduceLT, Int.reduceLE, Int.reduceNeg, Int.reducePow, cast_lit, upd_upd, Int.reduceAdd, Int.reduceMul, Int.reduceSub, Nat.reduceLT, Nat.reduceLeDiff, cmul_r, cdiv_r, tSl, tPart, tNoPart, rEq, rNe, scal_nn, scal_ii, scal_bb, scal_ss, scal_is, scal_si, V.ty.injEq, and_assoc, tyH_non, tyH_bl, tyH_int, tyH_str, tyH_ref, tyO_lst, tyO_IL, tyO_tup, itO_lst, itO_tup, itO_IL, Dw.rIxD, rLenI, rLenH, rLenTH, rLenQ, rLenB, rListI, Dw.rListS, rIntI, rIntB, rSumI, rIsiD, rIsX, tCallS, tMakeS, tMake, tMakeC, tMakeSC, tFld, sFld, HO.ins.injEq, HO.tup.injEq, cxOf_K, nox_K, tr_K, suite_K, rTupleI, rAllB, rAnyB, BL_inj, tChain, wOnly, wAs, wMany, rEqI, rNeI, Dw.rMax2, rMin2, Dw.rIsN, rIsNotN, rStrIn, rStrNotIn, not_true_eq_false, not_false_eq_true, reduceCtorEq, cl_bool, cl_int, cl_str, cl_list, cl_tuple, isB_NoneType_bool, isB_NoneType_int, isB_NoneType_str, isB_NoneType_list, isB_NoneType_tuple, isB_bool_bool, isB_bool_int, isB_bool_str, isB_bool_list, isB_bool_tuple, isB_int_bool, isB_int_int, isB_int_str, isB_int_list, isB_int_tuple, isB_str_bool, isB_str_int, isB_str_str, isB_str_list, isB_str_tuple, isB_list_bool, isB_list_int, isB_list_str, isB_list_list, isB_list_tuple, isB_tuple_bool, isB_tuple_int, isB_tuple_str, isB_tuple_list, isB_tuple_tuple, iEz, tPar, tRevL, Dw.rSetL, Dw.rIxL, rIxE, iSeqA, iEnumT, h1, h2', upd_ne hne, spSpread]
  by_cases c1 : b ≤ 0
  · rw [if_pos c1]
    by_cases c2 : a < (ns.length : Int)
    · rw [if_pos c2]
      refine ⟨h3, c2, ?_⟩
      by_cases c3 : ns.getD a.toNat 0 < 1000000000000000000
      · rw [if_pos c3]
        intro x
        by_cases c4 : x ≤ 0
        · rw [if_pos c4]
          exact ⟨m0, fin _ _ _ _ (by omega)⟩
        · rw [if_neg c4]
          exact ⟨m0, hd.2 _, fin _ _ _ _ (by omega)⟩
      · rw [if_neg c3]
        by_cases c4 : ns.getD a.toNat 0 ≤ 0
        · rw [if_pos c4]
          exact ⟨m0, fin _ _ _ _ (by omega)⟩
        · rw [if_neg c4]
          exact ⟨m0, hd.2 _, fin _ _ _ _ (by omega)⟩
    · rw [if_neg c2, if_pos c1]
      exact ⟨m0, fin _ _ _ _ h3⟩
  · rw [if_neg c1, if_neg c1]
    exact ⟨m0, hd.2 _, fin _ _ _ _ h3⟩
theorem ok_law_pool (T : Tx K mg A) : FnOk P w K mg base CX0 1 A.f_law_pool A.d_law_pool ["script"] (spPool K) := by
  refine T.F_law_pool.ok sc_law_pool (fun vs H Q E h => ?_) (fun cdv A' outer s H vs Q E hr h => ?_)
  · obtain ⟨a, ns, rfl, _⟩ := h
    rfl
  obtain ⟨a, ns, rfl, hS, hl, q⟩ := h
  refine ⟨_, (pss_cons (ps_set (i := 1) sc_law_pool.nd rfl (Or.inl rfl) pe_int)
      (pss_cons (ps_for PassesOwn.never rfl (pi_list (pe_slice sl_listS (pv 0) po_none (po_some pe_int))) (pg_name (i := 2) sc_law_pool.nd rfl (Or.inl rfl))
        (pss_one (ps_set (i := 1) sc_law_pool.nd rfl (Or.inl rfl) (pe_op op_mod (pe_callTy call_intI (by rfl) T.z_int (by decide +kernel) (pa_cons (pe_op op_add (pe_op op_mul (pv 1) pe_int) (pv 2)) pa_nil)) pe_int))))
      (pss_one (ps_ret (pe_lst (pa_cons (pe_callTy call_listS (by rfl) T.z_list (by decide +kernel) (pa_cons (pv 0) pa_nil)) (pa_cons pe_int (pa_cons pe_int (pa_cons pe_int (pa_cons (pv 1) pa_nil)))))))))), ?_⟩
  try simp only [tSeq, tAsg, tVar, tC, tOp, rI0, rI, tUn, rU, tIfS, tTest, tRet, tRetN, tDrop, tCB, tCons, tNil, tLst, tLstI, tTup, gName, tB, tAnd, tOr, tNot, tAndV, tOrV, tNotV, tIf, tNext, tBreak, tCont, gSub, tCall, tCallN, tAug, ipI, tBML, tBML0, isL_IL, isL_lst, L2.start, List.map_cons, List.map_nil, List.length_cons, List.length_nil, List.cons_append, List.nil_append, List.getElem?_cons_succ, List.getElem?_cons_zero, Option.some.injEq, exists_eq_left', exists_eq_left, exists_and_left, V.int.injEq, V.ref.injEq, V.bl.injEq, V.str.injEq, List.set_cons_zero, List.set_cons_succ, List.cons.injEq, and_true, true_and, Nat.reduceAdd, Nat.reduceSub, List.replicate_succ, List.replicate_zero, rIxI, rIxH, rIxTH, rSetI, rSetH, rCatI, rRepI, rSlI, rAppendI, rExtendI, decide_eq_true_eq, upd_same, IL_inj, HO.lst.injEq, toInts_cons, toInts_nil, Option.map_some, if_true, if_false, Bool.true_eq_false, Bool.false_eq_true, Bool.not_true, Bool.not_false, Bool.not_eq_true', decide_eq_false_iff_not, atI_0, atI_1, atI_2, atI_3, atI_4, Int.reduceToNat, Int.reduceLT, Int.reduceLE, Int.reduceNeg, Int.reducePow, cast_lit, upd_upd, Int.reduceAdd, Int.reduceMul, Int.reduceSub, Nat.reduceLT, Nat.reduceLeDiff, cmul_r, cdiv_r, tSl, tPart, tNoPart, rEq, rNe, scal_nn, scal_ii, scal_bb, scal_ss, scal_is, scal_si, V.ty.injEq, and_assoc, tyH_non, tyH_bl, tyH_int, tyH_str, tyH_ref, tyO_lst, tyO_IL, tyO_tup, itO_lst, itO_tup, itO_IL, Dw.rIxD, rLenI, rLenH, rLenTH, rLenQ, rLenB, rListI, Dw.rListS, rIntI, rIntB, rSumI, rIsiD, rIsX, tCallS, tMakeS, tMake, tMakeC, tMakeSC, tFld, sFld, HO.ins.injEq, HO.tup.injEq, cxOf_K, nox_K, tr_K, suite_K, rTupleI, rAllB, rAnyB, BL_inj, tChain, wOnly, wAs, wMany, rEqI, rNeI, Dw.rMax2, rMin2, Dw.rIsN, rIsNotN, rStrIn, rStrNotIn, not_true_eq_false, not_false_eq_true, reduceCtorEq, cl_bool, cl_int, cl_str, cl_list, cl_tuple, isB_NoneType_bool, isB_NoneType_int, isB_NoneType_str, isB_NoneType_list, isB_NoneType_tuple, isB_bool_bool, isB_bool_int, isB_bool_str, isB_bool_list, isB_bool_tuple, isB_int_bool, isB_int_int, isB_int_str, isB_int_list, isB_int_tuple, isB_str_bool, isB_str_int, isB_str_str, isB_str_list, isB_str_tuple, isB_list_bool, isB_list_int, isB_list_str, isB_list_list, isB_list_tuple, isB_tuple_bool, isB_tuple_int, isB_tuple_str, isB_tuple_list, isB_tuple_tuple, iEz, tPar, tRevL, Dw.rSetL, Dw.rIxL, rIxE, iSeqA, iEnumT]
  refine ⟨_, rfl, _, rfl, a, ns, rfl, hS, fun p hp => ?_⟩
  obtain ⟨I, hI⟩ : ∃ F : Nat → L2.St → Hp → Prop, F = (fun i σ H' => H' = upd H p (IL (cutI ns none (some 63))) ∧ ∃ x y, σ = [some (V.ref a), some (V.int x), y]) := ⟨_, rfl⟩
  refine ⟨p, rfl, ⟨_, .of upd_same⟩, for_list (xs := (cutI ns none (some 63)).map V.int) I (by rw [hI]; exact ⟨rfl, 7, none, rfl⟩) ?_ ?_ ?_⟩
  · intro i σ H' hi h
    rw [hI] at h
    obtain ⟨rfl, _⟩ := h
    exact .of upd_same
  · intro i v σ H' hi h
    rw [hI] at h
    obtain ⟨rfl, x, y, rfl⟩ := h
    obtain ⟨z, rfl⟩ : ∃ z : Int, v = V.int z := by
      rw [List.getElem?_map] at hi
      cases e : (cutI ns none (some 63))[i]? with
      | none => rw [e] at hi; cases hi
      | some z => rw [e] at hi; exact ⟨z, (Option.some.inj hi).symm⟩
    try simp only [tSeq, tAsg, tVar, tC, tOp, rI0, rI, tUn, rU, tIfS, tTest, tRet, tRetN, tDrop, tCB, tCons, tNil, tLst, tLstI, tTup, gName, tB, tAnd, tOr, tNot, tAndV, tOrV, tNotV, tIf, tNext, tBreak, tCont, gSub, tCall, tCallN, tAug, ipI, tBML, tBML0, isL_IL, isL_lst, L2.start, List.map_cons, List.map_nil, List.length_cons, List.length_nil, List.cons_append, List.nil_append, List.getElem?_cons_succ, List.getElem?_cons_zero, Option.some.injEq, exists_eq_left', exists_eq_left, exists_and_left, V.int.injEq, V.ref.injEq, V.bl.injEq, V.str.injEq, List.set_cons_zero, List.set_cons_succ, List.cons.injEq, and_true, true_and, Nat.reduceAdd, Nat.reduceSub, List.replicate_succ, List.replicate_zero, rIxI, rIxH, rIxTH, rSetI, rSetH, rCatI, rRepI, rSlI, rAppendI, rExtendI, decide_eq_true_eq, upd_same, IL_inj, HO.lst.injEq, toInts_cons, toInts_nil, Option.map_some, if_true, if_false, Bool.true_eq_false, Bool.false_eq_true, Bool.not_true, Bool.not_false, Bool.not_eq_true', decide_eq_false_iff_not, atI_0, atI_1, atI_2, atI_3, atI_4, Int.reduceToNat, Int.reduceLT, Int.reduceLE, Int.reduceNeg, Int.reducePow, cast_lit, upd_upd, Int.reduceAdd, Int.reduceMul, Int.reduceSub, Nat.reduceLT, Nat.reduceLeDiff, cmul_r, cdiv_r, tSl, tPart, tNoPart, rEq, rNe, scal_nn, scal_ii, scal_bb, scal_ss, scal_is, scal_si, V.ty.injEq, and_assoc, tyH_non, tyH_bl, tyH_int, tyH_str, tyH_ref, tyO_lst, tyO_IL, tyO_tup, itO_lst, itO_tup, itO_IL, Dw.rIxD, rLenI, rLenH, rLenTH, rLenQ, rLenB, rListI, Dw.rListS, rIntI, rIntB, rSumI, rIsiD, rIsX, tCallS, tMakeS, tMake, tMakeC, tMakeSC, tFld, sFld, HO.ins.injEq, HO.tup.injEq, cxOf_K, nox_K, tr_K, suite_K, rTupleI, rAllB, rAnyB, BL_inj, tChain, wOnly, wAs, wMany, rEqI, rNeI, Dw.rMax2, rMin2, Dw.rIsN, rIsNotN, rStrIn, rStrNotIn, not_true_eq_false, not_false_eq_true, reduceCtorEq, cl_bool, cl_int, cl_str, cl_list, cl_tuple, isB_NoneType_bool, isB_NoneType_int, isB_NoneType_str, isB_NoneType_list, isB_NoneType_tuple, isB_bool_bool, isB_bool_int, isB_bool_str, isB_bool_list, isB_bool_tuple, isB_int_bool, isB_int_int, isB_int_str, isB_int_list, isB_int_tuple, isB_str_bool, isB_str_int, isB_str_str, isB_str_list, isB_str_tuple, isB_list_bool, isB_list_int, isB_list_str, isB_list_list, isB_list_tuple, isB_tuple_bool, isB_tuple_int, isB_tuple_str, isB_tuple_list, isB_tuple_tuple, iEz, tPar, tRevL, Dw.rSetL, Dw.rIxL, rIxE, iSeqA, iEnumT]
    rw [hI]
    exact ⟨rfl, _, _, rfl⟩
  · intro σ H' h
    rw [hI] at h
    obtain ⟨rfl, x, y, rfl⟩ := h
    try simp only [tSeq, tAsg, tVar, tC, tOp, rI0, rI, tUn, rU, tIfS, tTest, tRet, tRetN, tDrop, tCB, tCons, tNil, tLst, tLstI, tTup, gName, tB, tAnd, tOr, tNot, tAndV, tOrV, tNotV, tIf, tNext, tBreak, tCont, gSub, tCall, tCallN, tAug, ipI, tBML, tBML0, isL_IL, isL_lst, L2.start, List.map_cons, List.map_nil, List.length_cons, List.length_nil, List.cons_append, List.nil_append, List.getElem?_cons_succ, List.getElem?_cons_zero, Option.some.injEq, exists_eq_left', exists_eq_left, exists_and_left, V.int.injEq, V.ref.injEq, V.bl.injEq, V.str.injEq, List.set_cons_zero, List.set_cons_succ, List.cons.injEq, and_true, true_and, Nat.reduceAdd, Nat.reduceSub, List.replicate_succ, List.replicate_zero, rIxI, rIxH, rIxTH, rSetI, rSetH, rCatI, rRepI, rSlI, rAppendI, rExtendI, decide_eq_true_eq, upd_same, IL_inj, HO.lst.injEq, toInts_cons, toInts_nil, Option.map_some, if_true, if_false, Bool.true_eq_false, Bool.false_eq_true, Bool.not_true, Bool.not_false, Bool.not_eq_true', decide_eq_false_iff_not, atI_0, atI_1, atI_2, atI_3, atI_4, Int.reduceToNat, Int.reduceLT, Int.reduceLE, Int.reduceNeg, Int.reducePow, cast_lit, upd_upd, Int.reduceAdd, Int.reduceMul, Int.reduceSub, Nat.reduceLT, Nat.reduceLeDiff, cmul_r, cdiv_r, tSl, tPart, tNoPart, rEq, rNe, scal_nn, scal_ii, scal_bb, scal_ss, scal_is, scal_si, V.ty.injEq, and_assoc, tyH_non, tyH_bl, tyH_int, tyH_str, tyH_ref, tyO_lst, tyO_IL, tyO_tup, itO_lst, itO_tup, itO_IL, Dw.rIxD, rLenI, rLenH, rLenTH, rLenQ, rLenB, rListI, Dw.rListS, rIntI, rIntB, rSumI, rIsiD, rIsX, tCallS, tMakeS, tMake, tMakeC, tMakeSC, tFld, sFld, HO.ins.injEq, HO.tup.injEq, cxOf_K, nox_K, tr_K, suite_K, rTupleI, rAllB, rAnyB, BL_inj, tChain, wOnly, wAs, wMany, rEqI, rNeI, Dw.rMax2, rMin2, Dw.rIsN, rIsNotN, rStrIn, rStrNotIn, not_true_eq_false, not_false_eq_true, reduceCtorEq, cl_bool, cl_int, cl_str, cl_list, cl_tuple, isB_NoneType_bool, isB_NoneType_int, isB_NoneType_str, isB_NoneType_list, isB_NoneType_tuple, isB_bool_bool, isB_bool_int, isB_bool_str, isB_bool_list, isB_bool_tuple, isB_int_bool, isB_int_int, isB_int_str, isB_int_list, isB_int_tuple, isB_str_bool, isB_str_int, isB_str_str, isB_str_list, isB_str_tuple, isB_list_bool, isB_list_int, isB_list_str, isB_list_list, isB_list_tuple, isB_tuple_bool, isB_tuple_int, isB_tuple_str, isB_tuple_list, isB_tuple_tuple, iEz, tPar, tRevL, Dw.rSetL, Dw.rIxL, rIxE, iSeqA, iEnumT]
    refine ⟨ns, (same_new hp _).seq hS, fun l hl' => ⟨line_le (by decide), fun r hr' => ?_⟩⟩
    have hlp : p ≠ l := ne_of_none upd_same hl'
    have hrl : l ≠ r := ne_of_none upd_same hr'
    refine q r l _ ((same_new hp _).trans ((same_new hl' _).trans (same_new hr' _))) (same_none (same_new hp _) (same_none (same_new hl' _) hr')) (same_none (same_new hp _) hl') ⟨ns, 0, 0, 0, x, upd_same, ?_, Int.le_refl 0, hl⟩
    rw [upd_ne hrl, upd_same]
    rfl
end
section
variable {P : Program} {w : World} {K : PySem.W.Frag} {mg : Str → Option Value} {base : Heap} {A : Ad}
theorem ok_law_same_ (T : Tx K mg A) : ∀ n, FnOk P w K mg base CX0 n A.f_law_same A.d_law_same ["actual", "due"] (spSame n)
  | 0 => none_fn fun vs H Q E ⟨_, _, _, _, _, _, h, _⟩ => by omega
  | n + 1 => by
    have ih := ok_law_same_ T n
    refine T.F_law_same.ok sc_law_same (fun vs H Q E h => ?_) (fun cdv A' outer s H vs Q E hr h => ?_)
    · obtain ⟨x, y, d, rfl, _⟩ := h
      rfl
    obtain ⟨x, y, d, rfl, hx, hy, hd, hs, q⟩ := h
    refine ⟨_, (pss_cons (ps_if (PW.pt (pw_or (pt_val (pe_callB call_isiD (by rfl) T.z_isinstance (by decide +kernel) (pa_cons (pv 1) (pa_cons (pe_bltn (by rfl) T.z_tuple (v := .ty "tuple") (by decide +kernel) rfl) pa_nil)))) (pw_or1 (pt_val (pe_callB call_isiD (by rfl) T.z_isinstance (by decide +kernel) (pa_cons (pv 1) (pa_cons (pe_bltn (by rfl) T.z_list (v := .ty "list") (by decide +kernel) rfl) pa_nil))))))) (pss_cons (ps_if (PW.pt (pw_or (pt_cmpR op_ne (pe_callB call_isiD (by rfl) T.z_isinstance (by decide +kernel) (pa_cons (pv 1) (pa_cons (pe_bltn (by rfl) T.z_tuple (v := .ty "tuple") (by decide +kernel) rfl) pa_nil))) (pe_callB call_isiD (by rfl) T.z_isinstance (by decide +kernel) (pa_cons (pv 0) (pa_cons (pe_bltn (by rfl) T.z_tuple (v := .ty "tuple") (by decide +kernel) rfl) pa_nil))) (nomark _)) (pw_or1 (pt_cmpR op_ne (pe_callB call_isiD (by rfl) T.z_isinstance (by decide +kernel) (pa_cons (pv 1) (pa_cons (pe_bltn (by rfl) T.z_list (v := .ty "list") (by decide +kernel) rfl) pa_nil))) (pe_callB call_isiD (by rfl) T.z_isinstance (by decide +kernel) (pa_cons (pv 0) (pa_cons (pe_bltn (by rfl) T.z_list (v := .ty "list") (by decide +kernel) rfl) pa_nil))) (nomark _))))) (pss_one (ps_ret pe_bl)) pss_nil)
      (pss_cons (ps_if (pt_cmpR op_ne (pe_callB call_lenQ (by rfl) T.z_len (by decide +kernel) (pa_cons (pv 0) pa_nil)) (pe_callB call_lenB (by rfl) T.z_len (by decide +kernel) (pa_cons (pv 1) pa_nil)) (nomark _)) (pss_one (ps_ret pe_bl)) pss_nil)
      (pss_cons (ps_for PassesOwn.never rfl (pi_range1 rfl T.z_range (pa_cons (pe_callB call_lenB (by rfl) T.z_len (by decide +kernel) (pa_cons (pv 1) pa_nil)) pa_nil)) (pg_name (i := 2) sc_law_same.nd rfl (Or.inl rfl))
        (pss_one (ps_if (pt_not (pt_val (pe_call ih hr rfl T.g_law_same T.F_law_same.kp T.b_law_same .nil pass0 (pa_cons (pe_ix ix_seqD (pv 0) (pv 2) (fun _ _ => rfl)) (pa_cons (pe_ix ix_seqD (pv 1) (pv 2) (fun _ _ => rfl)) pa_nil))))) (pss_one (ps_ret pe_bl)) pss_nil)))
      (pss_one (ps_ret pe_bl))))) pss_nil)
      (pss_cons (ps_if (pt_cmpR op_isNone (pv 1) pe_non (nomark _)) (pss_one (ps_ret (pe_cmpR op_isNone (pv 0) pe_non (nomark _)))) pss_nil)
      (pss_cons (ps_if (pt_val (pe_callB call_isiD (by rfl) T.z_isinstance (by decide +kernel) (pa_cons (pv 1) (pa_cons (pe_bltn (by rfl) T.z_bool (v := .ty "bool") (by decide +kernel) rfl) pa_nil)))) (pss_one (ps_ret (pe_and (pe_callB call_isiD (by rfl) T.z_isinstance (by decide +kernel) (pa_cons (pv 0) (pa_cons (pe_bltn (by rfl) T.z_bool (v := .ty "bool") (by decide +kernel) rfl) pa_nil))) (pe_one (pe_cmpR op_eq (pv 0) (pv 1) (nomark _)))))) pss_nil)
      (pss_cons (ps_if (pt_val (pe_callB call_isiD (by rfl) T.z_isinstance (by decide +kernel) (pa_cons (pv 1) (pa_cons (pe_bltn (by rfl) T.z_int (v := .ty "int") (by decide +kernel) rfl) pa_nil)))) (pss_one (ps_ret (pe_and (pe_callB call_isiD (by rfl) T.z_isinstance (by decide +kernel) (pa_cons (pv 0) (pa_cons (pe_bltn (by rfl) T.z_int (v := .ty "int") (by decide +kernel) rfl) pa_nil))) (pe_and (pe_not (pe_callB call_isiD (by rfl) T.z_isinstance (by decide +kernel) (pa_cons (pv 0) (pa_cons (pe_bltn (by rfl) T.z_bool (v := .ty "bool") (by decide +kernel) rfl) pa_nil)))) (pe_one (pe_cmpR op_eq (pv 0) (pv 1) (nomark _))))))) pss_nil)
      (pss_one (ps_ret (pe_and (pe_callB call_isiD (by rfl) T.z_isinstance (by decide +kernel) (pa_cons (pv 0) (pa_cons (pe_bltn (by rfl) T.z_str (v := .ty "str") (by decide +kernel) rfl) pa_nil))) (pe_one (pe_cmpR op_eq (pv 0) (pv 1) (nomark _)))))))))), ?_⟩
    cases d with
    | none => 
      cases hx; cases hy
      try simp only [tSeq, tAsg, tVar, tC, tOp, rI0, rI, tUn, rU, tIfS, tTest, tRet, tRetN, tDrop, tCB, tCons, tNil, tLst, tLstI, tTup, gName, tB, tAnd, tOr, tNot, tAndV, tOrV, tNotV, tIf, tNext, tBreak, tCont, gSub, tCall, tCallN, tAug, ipI, tBML, tBML0, isL_IL, isL_lst, L2.start, List.map_cons, List.map_nil, List.length_cons, List.length_nil, List.cons_append, List.nil_append, List.getElem?_cons_succ, List.getElem?_cons_zero, Option.some.injEq, exists_eq_left', exists_eq_left, exists_and_left, V.int.injEq, V.ref.injEq, V.bl.injEq, V.str.injEq, List.set_cons_zero, List.set_cons_succ, List.cons.injEq, and_true, true_and, Nat.reduceAdd, Nat.reduceSub, List.replicate_succ, List.replicate_zero, rIxI, rIxH, rIxTH, rSetI, rSetH, rCatI, rRepI, rSlI, rAppendI, rExtendI, decide_eq_true_eq, upd_same, IL_inj, HO.lst.injEq, toInts_cons, toInts_nil, Option.map_some, if_true, if_false, Bool.true_eq_false, Bool.false_eq_true, Bool.not_true, Bool.not_false, Bool.not_eq_true', decide_eq_false_iff_not, atI_0, atI_1, atI_2, atI_3, atI_4, Int.reduceToNat, Int.reduceLT, Int.reduceLE, Int.reduceNeg, Int.reducePow, cast_lit, upd_upd, Int.reduceAdd, Int.reduceMul, Int.reduceSub, Nat.reduceLT, Nat.reduceLeDiff, cmul_r, cdiv_r, tSl, tPart, tNoPart, rEq, rNe, scal_nn, scal_ii, scal_bb, scal_ss, scal_is, scal_si, V.ty.injEq, and_assoc, tyH_non, tyH_bl, tyH_int, tyH_str, tyH_ref, tyO_lst, tyO_IL, tyO_tup, itO_lst, itO_tup, itO_IL, Dw.rIxD, rLenI, rLenH, rLenTH, rLenQ, rLenB, rListI, Dw.rListS, rIntI, rIntB, rSumI, rIsiD, rIsX, tCallS, tMakeS, tMake, tMakeC, tMakeSC, tFld, sFld, HO.ins.injEq, HO.tup.injEq, cxOf_K, nox_K, tr_K, suite_K, rTupleI, rAllB, rAnyB, BL_inj, tChain, wOnly, wAs, wMany, rEqI, rNeI, Dw.rMax2, rMin2, Dw.rIsN, rIsNotN, rStrIn, rStrNotIn, not_true_eq_false, not_false_eq_true, reduceCtorEq, cl_bool, cl_int, cl_str, cl_list, cl_tuple, isB_NoneType_bool, isB_NoneType_int, isB_NoneType_str, isB_NoneType_list, isB_NoneType_tuple, isB_bool_bool, isB_bool_int, isB_bool_str, isB_bool_list, isB_bool_tuple, isB_int_bool, isB_int_int, isB_int_str, isB_int_list, isB_int_tuple, isB_str_bool, isB_str_int, isB_str_str, isB_str_list, isB_str_tuple, isB_list_bool, isB_list_int, isB_list_str, isB_list_list, isB_list_tuple, isB_tuple_bool, isB_tuple_int, isB_tuple_str, isB_tuple_list, isB_tuple_tuple, iEz, tPar, tRevL, Dw.rSetL, Dw.rIxL, rIxE, iSeqA, iEnumT, decide_true]
      exact q
    | int i =>
      cases hx; cases hy
      try simp only [tSeq, tAsg, tVar, tC, tOp, rI0, rI, tUn, rU, tIfS, tTest, tRet, tRetN, tDrop, tCB, tCons, tNil, tLst, tLstI, tTup, gName, tB, tAnd, tOr, tNot, tAndV, tOrV, tNotV, tIf, tNext, tBreak, tCont, gSub, tCall, tCallN, tAug, ipI, tBML, tBML0, isL_IL, isL_lst, L2.start, List.map_cons, List.map_nil, List.length_cons, List.length_nil, List.cons_append, List.nil_append, List.getElem?_cons_succ, List.getElem?_cons_zero, Option.some.injEq, exists_eq_left', exists_eq_left, exists_and_left, V.int.injEq, V.ref.injEq, V.bl.injEq, V.str.injEq, List.set_cons_zero, List.set_cons_succ, List.cons.injEq, and_true, true_and, Nat.reduceAdd, Nat.reduceSub, List.replicate_succ, List.replicate_zero, rIxI, rIxH, rIxTH, rSetI, rSetH, rCatI, rRepI, rSlI, rAppendI, rExtendI, decide_eq_true_eq, upd_same, IL_inj, HO.lst.injEq, toInts_cons, toInts_nil, Option.map_some, if_true, if_false, Bool.true_eq_false, Bool.false_eq_true, Bool.not_true, Bool.not_false, Bool.not_eq_true', decide_eq_false_iff_not, atI_0, atI_1, atI_2, atI_3, atI_4, Int.reduceToNat, Int.reduceLT, Int.reduceLE, Int.reduceNeg, Int.reducePow, cast_lit, upd_upd, Int.reduceAdd, Int.reduceMul, Int.reduceSub, Nat.reduceLT, Nat.reduceLeDiff, cmul_r, cdiv_r, tSl, tPart, tNoPart, rEq, rNe, scal_nn, scal_ii, scal_bb, scal_ss, scal_is, scal_si, V.ty.injEq, and_assoc, tyH_non, tyH_bl, tyH_int, tyH_str, tyH_ref, tyO_lst, tyO_IL, tyO_tup, itO_lst, itO_tup, itO_IL, Dw.rIxD, rLenI, rLenH, rLenTH, rLenQ, rLenB, rListI, Dw.rListS, rIntI, rIntB, rSumI, rIsiD, rIsX, tCallS, tMakeS, tMake, tMakeC, tMakeSC, tFld, sFld, HO.ins.injEq, HO.tup.injEq, cxOf_K, nox_K, tr_K, suite_K, rTupleI, rAllB, rAnyB, BL_inj, tChain, wOnly, wAs, wMany, rEqI, rNeI, Dw.rMax2, rMin2, Dw.rIsN, rIsNotN, rStrIn, rStrNotIn, not_true_eq_false, not_false_eq_true, reduceCtorEq, cl_bool, cl_int, cl_str, cl_list, cl_tuple, isB_NoneType_bool, isB_NoneType_int, isB_NoneType_str, isB_NoneType_list, isB_NoneType_tuple, isB_bool_bool, isB_bool_int, isB_bool_str, isB_bool_list, isB_bool_tuple, isB_int_bool, isB_int_int, isB_int_str, isB_int_list, isB_int_tuple, isB_str_bool, isB_str_int, isB_str_str, isB_str_list, isB_str_tuple, isB_list_bool, isB_list_int, isB_list_str, isB_list_list, isB_list_tuple, isB_tuple_bool, isB_tuple_int, isB_tuple_str, isB_tuple_list, isB_tuple_tuple, iEz, tPar, tRevL, Dw.rSetL, Dw.rIxL, rIxE, iSeqA, iEnumT, decide_true]
      exact q
    | bool i =>
      cases hx; cases hy
      try simp only [tSeq, tAsg, tVar, tC, tOp, rI0, rI, tUn, rU, tIfS, tTest, tRet, tRetN, tDrop, tCB, tCons, tNil, tLst, tLstI, tTup, gName, tB, tAnd, tOr, tNot, tAndV, tOrV, tNotV, tIf, tNext, tBreak, tCont, gSub, tCall, tCallN, tAug, ipI, tBML, tBML0, isL_IL, isL_lst, L2.start, List.map_cons, List.map_nil, List.length_cons, List.length_nil, List.cons_append, List.nil_append, List.getElem?_cons_succ, List.getElem?_cons_zero, Option.some.injEq, exists_eq_left', exists_eq_left, exists_and_left, V.int.injEq, V.ref.injEq, V.bl.injEq, V.str.injEq, List.set_cons_zero, List.set_cons_succ, List.cons.injEq, and_true, true_and, Nat.reduceAdd, Nat.reduceSub, List.replicate_succ, List.replicate_zero, rIxI, rIxH, rIxTH, rSetI, rSetH, rCatI, rRepI, rSlI, rAppendI, rExtendI, decide_eq_true_eq, upd_same, IL_inj, HO.lst.injEq, toInts_cons, toInts_nil, Option.map_some, if_true, if_false, Bool.true_eq_false, Bool.false_eq_true, Bool.not_true, Bool.not_false, Bool.not_eq_true', decide_eq_false_iff_not, atI_0, atI_1, atI_2, atI_3, atI_4, Int.reduceToNat, Int.reduceLT, Int.reduceLE, Int.reduceNeg, Int.reducePow, cast_lit, upd_upd, Int.reduceAdd, Int.reduceMul, Int.reduceSub, Nat.reduceLT, Nat.reduceLeDiff, cmul_r, cdiv_r, tSl, tPart, tNoPart, rEq, rNe, scal_nn, scal_ii, scal_bb, scal_ss, scal_is, scal_si, V.ty.injEq, and_assoc, tyH_non, tyH_bl, tyH_int, tyH_str, tyH_ref, tyO_lst, tyO_IL, tyO_tup, itO_lst, itO_tup, itO_IL, Dw.rIxD, rLenI, rLenH, rLenTH, rLenQ, rLenB, rListI, Dw.rListS, rIntI, rIntB, rSumI, rIsiD, rIsX, tCallS, tMakeS, tMake, tMakeC, tMakeSC, tFld, sFld, HO.ins.injEq, HO.tup.injEq, cxOf_K, nox_K, tr_K, suite_K, rTupleI, rAllB, rAnyB, BL_inj, tChain, wOnly, wAs, wMany, rEqI, rNeI, Dw.rMax2, rMin2, Dw.rIsN, rIsNotN, rStrIn, rStrNotIn, not_true_eq_false, not_false_eq_true, reduceCtorEq, cl_bool, cl_int, cl_str, cl_list, cl_tuple, isB_NoneType_bool, isB_NoneType_int, isB_NoneType_str, isB_NoneType_list, isB_NoneType_tuple, isB_bool_bool, isB_bool_int, isB_bool_str, isB_bool_list, isB_bool_tuple, isB_int_bool, isB_int_int, isB_int_str, isB_int_list, isB_int_tuple, isB_str_bool, isB_str_int, isB_str_str, isB_str_list, isB_str_tuple, isB_list_bool, isB_list_int, isB_list_str, isB_list_list, isB_list_tuple, isB_tuple_bool, isB_tuple_int, isB_tuple_str, isB_tuple_list, isB_tuple_tuple, iEz, tPar, tRevL, Dw.rSetL, Dw.rIxL, rIxE, iSeqA, iEnumT, decide_true]
      exact q
    | str i =>
      cases hx; cases hy
      try simp only [tSeq, tAsg, tVar, tC, tOp, rI0, rI, tUn, rU, tIfS, tTest, tRet, tRetN, tDrop, tCB, tCons, tNil, tLst, tLstI, tTup, gName, tB, tAnd, tOr, tNot, tAndV, tOrV, tNotV, tIf, tNext, tBreak, tCont, gSub, tCall, tCallN, tAug, ipI, tBML, tBML0, isL_IL, isL_lst, L2.start, List.map_cons, List.map_nil, List.length_cons, List.length_nil, List.cons_append, List.nil_append, List.getElem?_cons_succ, List.getElem?_cons_zero, Option.some.injEq, exists_eq_left', exists_eq_left, exists_and_left, V.int.injEq, V.ref.injEq, V.bl.injEq, V.str.injEq, List.set_cons_zero, List.set_cons_succ, List.cons.injEq, and_true, true_and, Nat.reduceAdd, Nat.reduceSub, List.replicate_succ, List.replicate_zero, rIxI, rIxH, rIxTH, rSetI, rSetH, rCatI, rRepI, rSlI, rAppendI, rExtendI, decide_eq_true_eq, upd_same, IL_inj, HO.lst.injEq, toInts_cons, toInts_nil, Option.map_some, if_true, if_false, Bool.true_eq_false, Bool.false_eq_true, Bool.not_true, Bool.not_false, Bool.not_eq_true', decide_eq_false_iff_not, atI_0, atI_1, atI_2, atI_3, atI_4, Int.reduceToNat, Int.reduceLT, Int.reduceLE, Int.reduceNeg, Int.reducePow, cast_lit, upd_upd, Int.reduceAdd, Int.reduceMul, Int.reduceSub, Nat.reduceLT, Nat.reduceLeDiff, cmul_r, cdiv_r, tSl, tPart, tNoPart, rEq, rNe, scal_nn, scal_ii, scal_bb, scal_ss, scal_is, scal_si, V.ty.injEq, and_assoc, tyH_non, tyH_bl, tyH_int, tyH_str, tyH_ref, tyO_lst, tyO_IL, tyO_tup, itO_lst, itO_tup, itO_IL, Dw.rIxD, rLenI, rLenH, rLenTH, rLenQ, rLenB, rListI, Dw.rListS, rIntI, rIntB, rSumI, rIsiD, rIsX, tCallS, tMakeS, tMake, tMakeC, tMakeSC, tFld, sFld, HO.ins.injEq, HO.tup.injEq, cxOf_K, nox_K, tr_K, suite_K, rTupleI, rAllB, rAnyB, BL_inj, tChain, wOnly, wAs, wMany, rEqI, rNeI, Dw.rMax2, rMin2, Dw.rIsN, rIsNotN, rStrIn, rStrNotIn, not_true_eq_false, not_false_eq_true, reduceCtorEq, cl_bool, cl_int, cl_str, cl_list, cl_tuple, isB_NoneType_bool, isB_NoneType_int, isB_NoneType_str, isB_NoneType_list, isB_NoneType_tuple, isB_bool_bool, isB_bool_int, isB_bool_str, isB_bool_list, isB_bool_tuple, isB_int_bool, isB_int_int, isB_int_str, isB_int_list, isB_int_tuple, isB_str_bool, isB_str_int, isB_str_str, isB_str_list, isB_str_tuple, isB_list_bool, isB_list_int, isB_list_str, isB_list_list, isB_list_tuple, isB_tuple_bool, isB_tuple_int, isB_tuple_str, isB_tuple_list, isB_tuple_tuple, iEz, tPar, tRevL, Dw.rSetL, Dw.rIxL, rIxE, iSeqA, iEnumT, decide_true]
      exact q
    | dict _ => cases hx
    | list ds =>
      cases hx with | lst hx1 hx2 =>
      cases hy with | lst hy1 hy2 =>
      rename_i a xs b ys
      have ex := dtAll_len hx2
      have ey := dtAll_len hy2
      have exy : ¬ ¬ (xs.length : Int) = ys.length := fun z => z (by rw [ex, ey])
      simp only [SeqAt.shaped, Bool.and_eq_true, PyData.depth, PyData.canLay0] at hs hd
      have hs2 : PyData.depthAll ds + 1 ≤ 64 := of_decide_eq_true hs.2
      obtain ⟨I, hI⟩ : ∃ F : Nat → L2.St → Hp → Prop, F = (fun i σ H' => H' = H ∧ ∃ y, σ = [some (V.ref a), some (V.ref b), y]) := ⟨_, rfl⟩
      try simp only [tSeq, tAsg, tVar, tC, tOp, rI0, rI, tUn, rU, tIfS, tTest, tRet, tRetN, tDrop, tCB, tCons, tNil, tLst, tLstI, tTup, gName, tB, tAnd, tOr, tNot, tAndV, tOrV, tNotV, tIf, tNext, tBreak, tCont, gSub, tCall, tCallN, tAug, ipI, tBML, tBML0, isL_IL, isL_lst, L2.start, List.map_cons, List.map_nil, List.length_cons, List.length_nil, List.cons_append, List.nil_append, List.getElem?_cons_succ, List.getElem?_cons_zero, Option.some.injEq, exists_eq_left', exists_eq_left, exists_and_left, V.int.injEq, V.ref.injEq, V.bl.injEq, V.str.injEq, List.set_cons_zero, List.set_cons_succ, List.cons.injEq, and_true, true_and, Nat.reduceAdd, Nat.reduceSub, List.replicate_succ, List.replicate_zero, rIxI, rIxH, rIxTH, rSetI, rSetH, rCatI, rRepI, rSlI, rAppendI, rExtendI, decide_eq_true_eq, upd_same, IL_inj, HO.lst.injEq, toInts_cons, toInts_nil, Option.map_some, if_true, if_false, Bool.true_eq_false, Bool.false_eq_true, Bool.not_true, Bool.not_false, Bool.not_eq_true', decide_eq_false_iff_not, atI_0, atI_1, atI_2, atI_3, atI_4, Int.reduceToNat, Int.reduceLT, Int.reduceLE, Int.reduceNeg, Int.reducePow, cast_lit, upd_upd, Int.reduceAdd, Int.reduceMul, Int.reduceSub, Nat.reduceLT, Nat.reduceLeDiff, cmul_r, cdiv_r, tSl, tPart, tNoPart, rEq, rNe, scal_nn, scal_ii, scal_bb, scal_ss, scal_is, scal_si, V.ty.injEq, and_assoc, tyH_non, tyH_bl, tyH_int, tyH_str, tyH_ref, tyO_lst, tyO_IL, tyO_tup, itO_lst, itO_tup, itO_IL, Dw.rIxD, rLenI, rLenH, rLenTH, rLenQ, rLenB, rListI, Dw.rListS, rIntI, rIntB, rSumI, rIsiD, rIsX, tCallS, tMakeS, tMake, tMakeC, tMakeSC, tFld, sFld, HO.ins.injEq, HO.tup.injEq, cxOf_K, nox_K, tr_K, suite_K, rTupleI, rAllB, rAnyB, BL_inj, tChain, wOnly, wAs, wMany, rEqI, rNeI, Dw.rMax2, rMin2, Dw.rIsN, rIsNotN, rStrIn, rStrNotIn, not_true_eq_false, not_false_eq_true, reduceCtorEq, cl_bool, cl_int, cl_str, cl_list, cl_tuple, isB_NoneType_bool, isB_NoneType_int, isB_NoneType_str, isB_NoneType_list, isB_NoneType_tuple, isB_bool_bool, isB_bool_int, isB_bool_str, isB_bool_list, isB_bool_tuple, isB_int_bool, isB_int_int, isB_int_str, isB_int_list, isB_int_tuple, isB_str_bool, isB_str_int, isB_str_str, isB_str_list, isB_str_tuple, isB_list_bool, isB_list_int, isB_list_str, isB_list_list, isB_list_tuple, isB_tuple_bool, isB_tuple_int, isB_tuple_str, isB_tuple_list, isB_tuple_tuple, iEz, tPar, tRevL, Dw.rSetL, Dw.rIxL, rIxE, iSeqA, iEnumT, decide_true, hx1, hy1]
      intro hz
      rw [if_neg exy]
      refine ⟨_, rfl, b, _, rfl, by rw [hy1]; rfl, fun _ => ⟨ys.length, rfl, by omega, by omega, for_range (lo := 0) (n := ((ys.length : Nat) : Int).toNat) I (by rw [hI]; exact ⟨rfl, none, rfl⟩) ?_ ?_⟩⟩
      · intro i σ H' hi h
        rw [hI] at h
        obtain ⟨rfl, y, rfl⟩ := h
        obtain ⟨x1, d1, g1, g2, g3⟩ := dtAll_get (i := i) hx2 (by omega)
        obtain ⟨x2, d2, k1, k2, k3⟩ := dtAll_get (i := i) hy2 (by omega)
        have ed : d2 = d1 := Option.some.inj (k2.symm.trans g2)
        subst ed
        have e0 : (0 : Int) + (i : Int) = ((i : Nat) : Int) := by omega
        rw [e0]
        try simp only [tSeq, tAsg, tVar, tC, tOp, rI0, rI, tUn, rU, tIfS, tTest, tRet, tRetN, tDrop, tCB, tCons, tNil, tLst, tLstI, tTup, gName, tB, tAnd, tOr, tNot, tAndV, tOrV, tNotV, tIf, tNext, tBreak, tCont, gSub, tCall, tCallN, tAug, ipI, tBML, tBML0, isL_IL, isL_lst, L2.start, List.map_cons, List.map_nil, List.length_cons, List.length_nil, List.cons_append, List.nil_append, List.getElem?_cons_succ, List.getElem?_cons_zero, Option.some.injEq, exists_eq_left', exists_eq_left, exists_and_left, V.int.injEq, V.ref.injEq, V.bl.injEq, V.str.injEq, List.set_cons_zero, List.set_cons_succ, List.cons.injEq, and_true, true_and, Nat.reduceAdd, Nat.reduceSub, List.replicate_succ, List.replicate_zero, rIxI, rIxH, rIxTH, rSetI, rSetH, rCatI, rRepI, rSlI, rAppendI, rExtendI, decide_eq_true_eq, upd_same, IL_inj, HO.lst.injEq, toInts_cons, toInts_nil, Option.map_some, if_true, if_false, Bool.true_eq_false, Bool.false_eq_true, Bool.not_true, Bool.not_false, Bool.not_eq_true', decide_eq_false_iff_not, atI_0, atI_1, atI_2, atI_3, atI_4, Int.reduceToNat, Int.reduceLT, Int.reduceLE, Int.reduceNeg, Int.reducePow, cast_lit, upd_upd, Int.reduceAdd, Int.reduceMul, Int.reduceSub, Nat.reduceLT, Nat.reduceLeDiff, cmul_r, cdiv_r, tSl, tPart, tNoPart, rEq, rNe, scal_nn, scal_ii, scal_bb, scal_ss, scal_is, scal_si, V.ty.injEq, and_assoc, tyH_non, tyH_bl, tyH_int, tyH_str, tyH_ref, tyO_lst, tyO_IL, tyO_tup, itO_lst, itO_tup, itO_IL, Dw.rIxD, rLenI, rLenH, rLenTH, rLenQ, rLenB, rListI, Dw.rListS, rIntI, rIntB, rSumI, rIsiD, rIsX, tCallS, tMakeS, tMake, tMakeC, tMakeSC, tFld, sFld, HO.ins.injEq, HO.tup.injEq, cxOf_K, nox_K, tr_K, suite_K, rTupleI, rAllB, rAnyB, BL_inj, tChain, wOnly, wAs, wMany, rEqI, rNeI, Dw.rMax2, rMin2, Dw.rIsN, rIsNotN, rStrIn, rStrNotIn, not_true_eq_false, not_false_eq_true, reduceCtorEq, cl_bool, cl_int, cl_str, cl_list, cl_tuple, isB_NoneType_bool, isB_NoneType_int, isB_NoneType_str, isB_NoneType_list, isB_NoneType_tuple, isB_bool_bool, isB_bool_int, isB_bool_str, isB_bool_list, isB_bool_tuple, isB_int_bool, isB_int_int, isB_int_str, isB_int_list, isB_int_tuple, isB_str_bool, isB_str_int, isB_str_str, isB_str_list, isB_str_tuple, isB_list_bool, isB_list_int, isB_list_str, isB_list_list, isB_list_tuple, isB_tuple_bool, isB_tuple_int, isB_tuple_str, isB_tuple_list, isB_tuple_tuple, iEz, tPar, tRevL, Dw.rSetL, Dw.rIxL, rIxE, iSeqA, iEnumT, hx1, hy1, atI_k, g1, k1]
        have hdp := depthAll_get g2
        refine ⟨_, _, d2, rfl, g3, k3, by omega, shaped_item g2 hs.1 (by omega), true, rfl, ?_⟩
        try simp only [tSeq, tAsg, tVar, tC, tOp, rI0, rI, tUn, rU, tIfS, tTest, tRet, tRetN, tDrop, tCB, tCons, tNil, tLst, tLstI, tTup, gName, tB, tAnd, tOr, tNot, tAndV, tOrV, tNotV, tIf, tNext, tBreak, tCont, gSub, tCall, tCallN, tAug, ipI, tBML, tBML0, isL_IL, isL_lst, L2.start, List.map_cons, List.map_nil, List.length_cons, List.length_nil, List.cons_append, List.nil_append, List.getElem?_cons_succ, List.getElem?_cons_zero, Option.some.injEq, exists_eq_left', exists_eq_left, exists_and_left, V.int.injEq, V.ref.injEq, V.bl.injEq, V.str.injEq, List.set_cons_zero, List.set_cons_succ, List.cons.injEq, and_true, true_and, Nat.reduceAdd, Nat.reduceSub, List.replicate_succ, List.replicate_zero, rIxI, rIxH, rIxTH, rSetI, rSetH, rCatI, rRepI, rSlI, rAppendI, rExtendI, decide_eq_true_eq, upd_same, IL_inj, HO.lst.injEq, toInts_cons, toInts_nil, Option.map_some, if_true, if_false, Bool.true_eq_false, Bool.false_eq_true, Bool.not_true, Bool.not_false, Bool.not_eq_true', decide_eq_false_iff_not, atI_0, atI_1, atI_2, atI_3, atI_4, Int.reduceToNat, Int.reduceLT, Int.reduceLE, Int.reduceNeg, Int.reducePow, cast_lit, upd_upd, Int.reduceAdd, Int.reduceMul, Int.reduceSub, Nat.reduceLT, Nat.reduceLeDiff, cmul_r, cdiv_r, tSl, tPart, tNoPart, rEq, rNe, scal_nn, scal_ii, scal_bb, scal_ss, scal_is, scal_si, V.ty.injEq, and_assoc, tyH_non, tyH_bl, tyH_int, tyH_str, tyH_ref, tyO_lst, tyO_IL, tyO_tup, itO_lst, itO_tup, itO_IL, Dw.rIxD, rLenI, rLenH, rLenTH, rLenQ, rLenB, rListI, Dw.rListS, rIntI, rIntB, rSumI, rIsiD, rIsX, tCallS, tMakeS, tMake, tMakeC, tMakeSC, tFld, sFld, HO.ins.injEq, HO.tup.injEq, cxOf_K, nox_K, tr_K, suite_K, rTupleI, rAllB, rAnyB, BL_inj, tChain, wOnly, wAs, wMany, rEqI, rNeI, Dw.rMax2, rMin2, Dw.rIsN, rIsNotN, rStrIn, rStrNotIn, not_true_eq_false, not_false_eq_true, reduceCtorEq, cl_bool, cl_int, cl_str, cl_list, cl_tuple, isB_NoneType_bool, isB_NoneType_int, isB_NoneType_str, isB_NoneType_list, isB_NoneType_tuple, isB_bool_bool, isB_bool_int, isB_bool_str, isB_bool_list, isB_bool_tuple, isB_int_bool, isB_int_int, isB_int_str, isB_int_list, isB_int_tuple, isB_str_bool, isB_str_int, isB_str_str, isB_str_list, isB_str_tuple, isB_list_bool, isB_list_int, isB_list_str, isB_list_list, isB_list_tuple, isB_tuple_bool, isB_tuple_int, isB_tuple_str, isB_tuple_list, isB_tuple_tuple, iEz, tPar, tRevL, Dw.rSetL, Dw.rIxL, rIxE, iSeqA, iEnumT]
        rw [hI]
        exact ⟨rfl, _, rfl⟩
      · intro σ H' h
        rw [hI] at h
        obtain ⟨rfl, y, rfl⟩ := h
        try simp only [tSeq, tAsg, tVar, tC, tOp, rI0, rI, tUn, rU, tIfS, tTest, tRet, tRetN, tDrop, tCB, tCons, tNil, tLst, tLstI, tTup, gName, tB, tAnd, tOr, tNot, tAndV, tOrV, tNotV, tIf, tNext, tBreak, tCont, gSub, tCall, tCallN, tAug, ipI, tBML, tBML0, isL_IL, isL_lst, L2.start, List.map_cons, List.map_nil, List.length_cons, List.length_nil, List.cons_append, List.nil_append, List.getElem?_cons_succ, List.getElem?_cons_zero, Option.some.injEq, exists_eq_left', exists_eq_left, exists_and_left, V.int.injEq, V.ref.injEq, V.bl.injEq, V.str.injEq, List.set_cons_zero, List.set_cons_succ, List.cons.injEq, and_true, true_and, Nat.reduceAdd, Nat.reduceSub, List.replicate_succ, List.replicate_zero, rIxI, rIxH, rIxTH, rSetI, rSetH, rCatI, rRepI, rSlI, rAppendI, rExtendI, decide_eq_true_eq, upd_same, IL_inj, HO.lst.injEq, toInts_cons, toInts_nil, Option.map_some, if_true, if_false, Bool.true_eq_false, Bool.false_eq_true, Bool.not_true, Bool.not_false, Bool.not_eq_true', decide_eq_false_iff_not, atI_0, atI_1, atI_2, atI_3, atI_4, Int.reduceToNat, Int.reduceLT, Int.reduceLE, Int.reduceNeg, Int.reducePow, cast_lit, upd_upd, Int.reduceAdd, Int.reduceMul, Int.reduceSub, Nat.reduceLT, Nat.reduceLeDiff, cmul_r, cdiv_r, tSl, tPart, tNoPart, rEq, rNe, scal_nn, scal_ii, scal_bb, scal_ss, scal_is, scal_si, V.ty.injEq, and_assoc, tyH_non, tyH_bl, tyH_int, tyH_str, tyH_ref, tyO_lst, tyO_IL, tyO_tup, itO_lst, itO_tup, itO_IL, Dw.rIxD, rLenI, rLenH, rLenTH, rLenQ, rLenB, rListI, Dw.rListS, rIntI, rIntB, rSumI, rIsiD, rIsX, tCallS, tMakeS, tMake, tMakeC, tMakeSC, tFld, sFld, HO.ins.injEq, HO.tup.injEq, cxOf_K, nox_K, tr_K, suite_K, rTupleI, rAllB, rAnyB, BL_inj, tChain, wOnly, wAs, wMany, rEqI, rNeI, Dw.rMax2, rMin2, Dw.rIsN, rIsNotN, rStrIn, rStrNotIn, not_true_eq_false, not_false_eq_true, reduceCtorEq, cl_bool, cl_int, cl_str, cl_list, cl_tuple, isB_NoneType_bool, isB_NoneType_int, isB_NoneType_str, isB_NoneType_list, isB_NoneType_tuple, isB_bool_bool, isB_bool_int, isB_bool_str, isB_bool_list, isB_bool_tuple, isB_int_bool, isB_int_int, isB_int_str, isB_int_list, isB_int_tuple, isB_str_bool, isB_str_int, isB_str_str, isB_str_list, isB_str_tuple, isB_list_bool, isB_list_int, isB_list_str, isB_list_list, isB_list_tuple, isB_tuple_bool, isB_tuple_int, isB_tuple_str, isB_tuple_list, isB_tuple_tuple, iEz, tPar, tRevL, Dw.rSetL, Dw.rIxL, rIxE, iSeqA, iEnumT]
        exact q
    | tuple ds =>
      cases hx with | tup hx1 hx2 =>
      cases hy with | tup hy1 hy2 =>
      rename_i a xs b ys
      have ex := dtAll_len hx2
      have ey := dtAll_len hy2
      have exy : ¬ ¬ (xs.length : Int) = ys.length := fun z => z (by rw [ex, ey])
      simp only [SeqAt.shaped, Bool.and_eq_true, PyData.depth, PyData.canLay0] at hs hd
      have hs2 : PyData.depthAll ds + 1 ≤ 64 := of_decide_eq_true hs.2
      obtain ⟨I, hI⟩ : ∃ F : Nat → L2.St → Hp → Prop, F = (fun i σ H' => H' = H ∧ ∃ y, σ = [some (V.ref a), some (V.ref b), y]) := ⟨_, rfl⟩
      try simp only [tSeq, tAsg, tVar, tC, tOp, rI0, rI, tUn, rU, tIfS, tTest, tRet, tRetN, tDrop, tCB, tCons, tNil, tLst, tLstI, tTup, gName, tB, tAnd, tOr, tNot, tAndV, tOrV, tNotV, tIf, tNext, tBreak, tCont, gSub, tCall, tCallN, tAug, ipI, tBML, tBML0, isL_IL, isL_lst, L2.start, List.map_cons, List.map_nil, List.length_cons, List.length_nil, List.cons_append, List.nil_append, List.getElem?_cons_succ, List.getElem?_cons_zero, Option.some.injEq, exists_eq_left', exists_eq_left, exists_and_left, V.int.injEq, V.ref.injEq, V.bl.injEq, V.str.injEq, List.set_cons_zero, List.set_cons_succ, List.cons.injEq, and_true, true_and, Nat.reduceAdd, Nat.reduceSub, List.replicate_succ, List.replicate_zero, rIxI, rIxH, rIxTH, rSetI, rSetH, rCatI, rRepI, rSlI, rAppendI, rExtendI, decide_eq_true_eq, upd_same, IL_inj, HO.lst.injEq, toInts_cons, toInts_nil, Option.map_some, if_true, if_false, Bool.true_eq_false, Bool.false_eq_true, Bool.not_true, Bool.not_false, Bool.not_eq_true', decide_eq_false_iff_not, atI_0, atI_1, atI_2, atI_3, atI_4, Int.reduceToNat, Int.reduceLT, Int.reduceLE, Int.reduceNeg, Int.reducePow, cast_lit, upd_upd, Int.reduceAdd, Int.reduceMul, Int.reduceSub, Nat.reduceLT, Nat.reduceLeDiff, cmul_r, cdiv_r, tSl, tPart, tNoPart, rEq, rNe, scal_nn, scal_ii, scal_bb, scal_ss, scal_is, scal_si, V.ty.injEq, and_assoc, tyH_non, tyH_bl, tyH_int, tyH_str, tyH_ref, tyO_lst, tyO_IL, tyO_tup, itO_lst, itO_tup, itO_IL, Dw.rIxD, rLenI, rLenH, rLenTH, rLenQ, rLenB, rListI, Dw.rListS, rIntI, rIntB, rSumI, rIsiD, rIsX, tCallS, tMakeS, tMake, tMakeC, tMakeSC, tFld, sFld, HO.ins.injEq, HO.tup.injEq, cxOf_K, nox_K, tr_K, suite_K, rTupleI, rAllB, rAnyB, BL_inj, tChain, wOnly, wAs, wMany, rEqI, rNeI, Dw.rMax2, rMin2, Dw.rIsN, rIsNotN, rStrIn, rStrNotIn, not_true_eq_false, not_false_eq_true, reduceCtorEq, cl_bool, cl_int, cl_str, cl_list, cl_tuple, isB_NoneType_bool, isB_NoneType_int, isB_NoneType_str, isB_NoneType_list, isB_NoneType_tuple, isB_bool_bool, isB_bool_int, isB_bool_str, isB_bool_list, isB_bool_tuple, isB_int_bool, isB_int_int, isB_int_str, isB_int_list, isB_int_tuple, isB_str_bool, isB_str_int, isB_str_str, isB_str_list, isB_str_tuple, isB_list_bool, isB_list_int, isB_list_str, isB_list_list, isB_list_tuple, isB_tuple_bool, isB_tuple_int, isB_tuple_str, isB_tuple_list, isB_tuple_tuple, iEz, tPar, tRevL, Dw.rSetL, Dw.rIxL, rIxE, iSeqA, iEnumT, decide_true, hx1, hy1]
      intro hz
      rw [if_neg exy]
      refine ⟨_, rfl, b, _, rfl, by rw [hy1]; rfl, fun _ => ⟨ys.length, rfl, by omega, by omega, for_range (lo := 0) (n := ((ys.length : Nat) : Int).toNat) I (by rw [hI]; exact ⟨rfl, none, rfl⟩) ?_ ?_⟩⟩
      · intro i σ H' hi h
        rw [hI] at h
        obtain ⟨rfl, y, rfl⟩ := h
        obtain ⟨x1, d1, g1, g2, g3⟩ := dtAll_get (i := i) hx2 (by omega)
        obtain ⟨x2, d2, k1, k2, k3⟩ := dtAll_get (i := i) hy2 (by omega)
        have ed : d2 = d1 := Option.some.inj (k2.symm.trans g2)
        subst ed
        have e0 : (0 : Int) + (i : Int) = ((i : Nat) : Int) := by omega
        rw [e0]
        try simp only [tSeq, tAsg, tVar, tC, tOp, rI0, rI, tUn, rU, tIfS, tTest, tRet, tRetN, tDrop, tCB, tCons, tNil, tLst, tLstI, tTup, gName, tB, tAnd, tOr, tNot, tAndV, tOrV, tNotV, tIf, tNext, tBreak, tCont, gSub, tCall, tCallN, tAug, ipI, tBML, tBML0, isL_IL, isL_lst, L2.start, List.map_cons, List.map_nil, List.length_cons, List.length_nil, List.cons_append, List.nil_append, List.getElem?_cons_succ, List.getElem?_cons_zero, Option.some.injEq, exists_eq_left', exists_eq_left, exists_and_left, V.int.injEq, V.ref.injEq, V.bl.injEq, V.str.injEq, List.set_cons_zero, List.set_cons_succ, List.cons.injEq, and_true, true_and, Nat.reduceAdd, Nat.reduceSub, List.replicate_succ, List.replicate_zero, rIxI, rIxH, rIxTH, rSetI, rSetH, rCatI, rRepI, rSlI, rAppendI, rExtendI, decide_eq_true_eq, upd_same, IL_inj, HO.lst.injEq, toInts_cons, toInts_nil, Option.map_some, if_true, if_false, Bool.true_eq_false, Bool.false_eq_true, Bool.not_true, Bool.not_false, Bool.not_eq_true', decide_eq_false_iff_not, atI_0, atI_1, atI_2, atI_3, atI_4, Int.reduceToNat, Int.reduceLT, Int.reduceLE, Int.reduceNeg, Int.reducePow, cast_lit, upd_upd, Int.reduceAdd, Int.reduceMul, Int.reduceSub, Nat.reduceLT, Nat.reduceLeDiff, cmul_r, cdiv_r, tSl, tPart, tNoPart, rEq, rNe, scal_nn, scal_ii, scal_bb, scal_ss, scal_is, scal_si, V.ty.injEq, and_assoc, tyH_non, tyH_bl, tyH_int, tyH_str, tyH_ref, tyO_lst, tyO_IL, tyO_tup, itO_lst, itO_tup, itO_IL, Dw.rIxD, rLenI, rLenH, rLenTH, rLenQ, rLenB, rListI, Dw.rListS, rIntI, rIntB, rSumI, rIsiD, rIsX, tCallS, tMakeS, tMake, tMakeC, tMakeSC, tFld, sFld, HO.ins.injEq, HO.tup.injEq, cxOf_K, nox_K, tr_K, suite_K, rTupleI, rAllB, rAnyB, BL_inj, tChain, wOnly, wAs, wMany, rEqI, rNeI, Dw.rMax2, rMin2, Dw.rIsN, rIsNotN, rStrIn, rStrNotIn, not_true_eq_false, not_false_eq_true, reduceCtorEq, cl_bool, cl_int, cl_str, cl_list, cl_tuple, isB_NoneType_bool, isB_NoneType_int, isB_NoneType_str, isB_NoneType_list, isB_NoneType_tuple, isB_bool_bool, isB_bool_int, isB_bool_str, isB_bool_list, isB_bool_tuple, isB_int_bool, isB_int_int, isB_int_str, isB_int_list, isB_int_tuple, isB_str_bool, isB_str_int, isB_str_str, isB_str_list, isB_str_tuple, isB_list_bool, isB_list_int, isB_list_str, isB_list_list, isB_list_tuple, isB_tuple_bool, isB_tuple_int, isB_tuple_str, isB_tuple_list, isB_tuple_tuple, iEz, tPar, tRevL, Dw.rSetL, Dw.rIxL, rIxE, iSeqA, iEnumT, hx1, hy1, atI_k, g1, k1]
        have hdp := depthAll_get g2
        refine ⟨_, _, d2, rfl, g3, k3, by omega, shaped_item g2 hs.1 (by omega), true, rfl, ?_⟩
        try simp only [tSeq, tAsg, tVar, tC, tOp, rI0, rI, tUn, rU, tIfS, tTest, tRet, tRetN, tDrop, tCB, tCons, tNil, tLst, tLstI, tTup, gName, tB, tAnd, tOr, tNot, tAndV, tOrV, tNotV, tIf, tNext, tBreak, tCont, gSub, tCall, tCallN, tAug, ipI, tBML, tBML0, isL_IL, isL_lst, L2.start, List.map_cons, List.map_nil, List.length_cons, List.length_nil, List.cons_append, List.nil_append, List.getElem?_cons_succ, List.getElem?_cons_zero, Option.some.injEq, exists_eq_left', exists_eq_left, exists_and_left, V.int.injEq, V.ref.injEq, V.bl.injEq, V.str.injEq, List.set_cons_zero, List.set_cons_succ, List.cons.injEq, and_true, true_and, Nat.reduceAdd, Nat.reduceSub, List.replicate_succ, List.replicate_zero, rIxI, rIxH, rIxTH, rSetI, rSetH, rCatI, rRepI, rSlI, rAppendI, rExtendI, decide_eq_true_eq, upd_same, IL_inj, HO.lst.injEq, toInts_cons, toInts_nil, Option.map_some, if_true, if_false, Bool.true_eq_false, Bool.false_eq_true, Bool.not_true, Bool.not_false, Bool.not_eq_true', decide_eq_false_iff_not, atI_0, atI_1, atI_2, atI_3, atI_4, Int.reduceToNat, Int.reduceLT, Int.reduceLE, Int.reduceNeg, Int.reducePow, cast_lit, upd_upd, Int.reduceAdd, Int.reduceMul, Int.reduceSub, Nat.reduceLT, Nat.reduceLeDiff, cmul_r, cdiv_r, tSl, tPart, tNoPart, rEq, rNe, scal_nn, scal_ii, scal_bb, scal_ss, scal_is, scal_si, V.ty.injEq, and_assoc, tyH_non, tyH_bl, tyH_int, tyH_str, tyH_ref, tyO_lst, tyO_IL, tyO_tup, itO_lst, itO_tup, itO_IL, Dw.rIxD, rLenI, rLenH, rLenTH, rLenQ, rLenB, rListI, Dw.rListS, rIntI, rIntB, rSumI, rIsiD, rIsX, tCallS, tMakeS, tMake, tMakeC, tMakeSC, tFld, sFld, HO.ins.injEq, HO.tup.injEq, cxOf_K, nox_K, tr_K, suite_K, rTupleI, rAllB, rAnyB, BL_inj, tChain, wOnly, wAs, wMany, rEqI, rNeI, Dw.rMax2, rMin2, Dw.rIsN, rIsNotN, rStrIn, rStrNotIn, not_true_eq_false, not_false_eq_true, reduceCtorEq, cl_bool, cl_int, cl_str, cl_list, cl_tuple, isB_NoneType_bool, isB_NoneType_int, isB_NoneType_str, isB_NoneType_list, isB_NoneType_tuple, isB_bool_bool, isB_bool_int, isB_bool_str, isB_bool_list, isB_bool_tuple, isB_int_bool, isB_int_int, isB_int_str, isB_int_list, isB_int_tuple, isB_str_bool, isB_str_int, isB_str_str, isB_str_list, isB_str_tuple, isB_list_bool, isB_list_int, isB_list_str, isB_list_list, isB_list_tuple, isB_tuple_bool, isB_tuple_int, isB_tuple_str, isB_tuple_list, isB_tuple_tuple, iEz, tPar, tRevL, Dw.rSetL, Dw.rIxL, rIxE, iSeqA, iEnumT]
        rw [hI]
        exact ⟨rfl, _, rfl⟩
      · intro σ H' h
        rw [hI] at h
        obtain ⟨rfl, y, rfl⟩ := h
        try simp only [tSeq, tAsg, tVar, tC, tOp, rI0, rI, tUn, rU, tIfS, tTest, tRet, tRetN, tDrop, tCB, tCons, tNil, tLst, tLstI, tTup, gName, tB, tAnd, tOr, tNot, tAndV, tOrV, tNotV, tIf, tNext, tBreak, tCont, gSub, tCall, tCallN, tAug, ipI, tBML, tBML0, isL_IL, isL_lst, L2.start, List.map_cons, List.map_nil, List.length_cons, List.length_nil, List.cons_append, List.nil_append, List.getElem?_cons_succ, List.getElem?_cons_zero, Option.some.injEq, exists_eq_left', exists_eq_left, exists_and_left, V.int.injEq, V.ref.injEq, V.bl.injEq, V.str.injEq, List.set_cons_zero, List.set_cons_succ, List.cons.injEq, and_true, true_and, Nat.reduceAdd, Nat.reduceSub, List.replicate_succ, List.replicate_zero, rIxI, rIxH, rIxTH, rSetI, rSetH, rCatI, rRepI, rSlI, rAppendI, rExtendI, decide_eq_true_eq, upd_same, IL_inj, HO.lst.injEq, toInts_cons, toInts_nil, Option.map_some, if_true, if_false, Bool.true_eq_false, Bool.false_eq_true, Bool.not_true, Bool.not_false, Bool.not_eq_true', decide_eq_false_iff_not, atI_0, atI_1, atI_2, atI_3, atI_4, Int.reduceToNat, Int.reduceLT, Int.reduceLE, Int.reduceNeg, Int.reducePow, cast_lit, upd_upd, Int.reduceAdd, Int.reduceMul, Int.reduceSub, Nat.reduceLT, Nat.reduceLeDiff, cmul_r, cdiv_r, tSl, tPart, tNoPart, rEq, rNe, scal_nn, scal_ii, scal_bb, scal_ss, scal_is, scal_si, V.ty.injEq, and_assoc, tyH_non, tyH_bl, tyH_int, tyH_str, tyH_ref, tyO_lst, tyO_IL, tyO_tup, itO_lst, itO_tup, itO_IL, Dw.rIxD, rLenI, rLenH, rLenTH, rLenQ, rLenB, rListI, Dw.rListS, rIntI, rIntB, rSumI, rIsiD, rIsX, tCallS, tMakeS, tMake, tMakeC, tMakeSC, tFld, sFld, HO.ins.injEq, HO.tup.injEq, cxOf_K, nox_K, tr_K, suite_K, rTupleI, rAllB, rAnyB, BL_inj, tChain, wOnly, wAs, wMany, rEqI, rNeI, Dw.rMax2, rMin2, Dw.rIsN, rIsNotN, rStrIn, rStrNotIn, not_true_eq_false, not_false_eq_true, reduceCtorEq, cl_bool, cl_int, cl_str, cl_list, cl_tuple, isB_NoneType_bool, isB_NoneType_int, isB_NoneType_str, isB_NoneType_list, isB_NoneType_tuple, isB_bool_bool, isB_bool_int, isB_bool_str, isB_bool_list, isB_bool_tuple, isB_int_bool, isB_int_int, isB_int_str, isB_int_list, isB_int_tuple, isB_str_bool, isB_str_int, isB_str_str, isB_str_list, isB_str_tuple, isB_list_bool, isB_list_int, isB_list_str, isB_list_list, isB_list_tuple, isB_tuple_bool, isB_tuple_int, isB_tuple_str, isB_tuple_list, isB_tuple_tuple, iEz, tPar, tRevL, Dw.rSetL, Dw.rIxL, rIxE, iSeqA, iEnumT]
        exact q
theorem ok_law_same (T : Tx K mg A) : FnOk P w K mg base CX0 8 A.f_law_same A.d_law_same ["actual", "due"] (spSame 8) := ok_law_same_ T 8
end
section
variable {P : Program} {w : World} {K : PySem.W.Frag} {mg : Str → Option Value} {base : Heap} {A : Ad}
theorem pool_il {H : Hp} {p q b : Addr} {ns : List Int} (hP : Pool H p q) (h : H b = some (IL ns)) : b ≠ p := by
  obtain ⟨ms, a, b2, c, d, h1, _⟩ := hP
  intro e
  rw [e, h1] at h
  unfold PoolL IL at h
  cases ns with
  | nil => simp at h
  | cons n r => simp at h
theorem zs_inj {a b : List Nat} (h : zs a = zs b) : a = b := by
  have := congrArg (List.map Int.toNat) h
  rw [zs_nat, zs_nat] at this
  exact this
theorem okU_of {n : Nat} {ps : List Nat} (h1 : ps.length ≤ 24) (h2 : ∀ x ∈ ps, x < 8 * n) (h3 : ps.Pairwise (· < ·)) : okU n (zs ps) := by
  refine ⟨by rw [zs_len]; exact h1, ?_, ?_⟩
  · unfold inU
    rw [List.all_eq_true]
    intro z hz
    obtain ⟨x, hx, rfl⟩ := List.mem_map.mp hz
    have := h2 x hx
    rw [Bool.and_eq_true]
    exact ⟨decide_eq_true (by omega), decide_eq_true (by omega)⟩
  · unfold ascU
    rw [List.all_eq_true]
    intro i hi
    have hi := List.mem_range.mp hi
    rw [zs_len] at hi
    rw [zs_get, zs_get]
    have := List.pairwise_iff_getElem.mp h3 i (i + 1) (by omega) (by omega) (by omega)
    rw [List.getD_eq_getElem?_getD, List.getD_eq_getElem?_getD, List.getElem?_eq_getElem (show i < ps.length by omega), List.getElem?_eq_getElem (show i + 1 < ps.length by omega)]
    exact decide_eq_true (by show ((ps[i] : Nat) : Int) < ((ps[i + 1] : Nat) : Int); omega)
def spLaw (K : PySem.W.Frag) : Sp := fun vs H Q _ => ∃ (a : Addr) (ns : List Int), vs = [.ref a] ∧ SqL K H a (ns.map V.int) ∧ ns.length ≤ 63 ∧ ∀ H', Q (.bl true) H'
theorem ok_law (T : Tx K mg A) : FnOk P w K mg base CX0 11 A.f_law A.d_law ["script"] (spLaw K) := by
  refine T.F_law.ok sc_law (fun vs H Q E h => ?_) (fun cdv A' outer s H vs Q E hr h => ?_)
  · obtain ⟨a, ns, rfl, _⟩ := h
    rfl
  obtain ⟨a, ss, rfl, hS, hl, k⟩ := h
  refine ⟨_, (pss_cons (ps_set (i := 1) sc_law.nd rfl (Or.inr rfl) (pe_call (ok_law_pool T) (hr.mono (by decide)) rfl T.g_law_pool T.F_law_pool.kp T.b_law_pool .nil pass0 (pa_cons (pv 0) pa_nil)))
      (pss_cons (ps_set (i := 2) sc_law.nd rfl (Or.inr rfl) (pe_lc (own := [("k", 3)]) (g := (gName 3)) (tt := tYes) rfl sc_law.nd (pi_range1 rfl T.z_range (pa_cons (pe_ix ix_listI (pe_lstI (pa_cons pe_int (pa_cons pe_int pa_nil))) (pe_call (ok_law_draw T) (hr.mono (by decide)) rfl T.g_law_draw T.F_law_draw.kp T.b_law_draw .nil pass0 (pa_cons (pv 1) (pa_cons pe_int pa_nil))) (fun _ _ => rfl)) pa_nil)) (blkOk_by (N := n_law) (sc := (defScope s_law)) (by decide +kernel)) (fun _ _ _ _ _ => (pg_name (i := 3) sc_law.nd rfl (Or.inl rfl))) (fun _ _ _ _ _ => pts_nil) (fun _ _ _ _ _ => (pe_call (ok_law_draw T) (hr.mono (by decide)) rfl T.g_law_draw T.F_law_draw.kp T.b_law_draw .nil pass0 (pa_cons (pv 1) (pa_cons pe_int pa_nil))))))
      (pss_cons (ps_set (i := 4) sc_law.nd rfl (Or.inl rfl) (pe_ix ix_listI (pe_lstI (pa_cons pe_int (pa_cons pe_int pa_nil))) (pe_call (ok_law_draw T) (hr.mono (by decide)) rfl T.g_law_draw T.F_law_draw.kp T.b_law_draw .nil pass0 (pa_cons (pv 1) (pa_cons pe_int pa_nil))) (fun _ _ => rfl)))
      (pss_cons (ps_setLc (i := 5) (own := [("k", 3)]) (g := (gName 3)) (tt := tYes) rfl sc_law.nd rfl rfl (sw_true rfl rfl rfl (by decide +kernel)) (pi_range1 rfl T.z_range (pa_cons (pv 4) pa_nil)) (blkOk_by (N := n_law) (sc := (defScope s_law)) (by decide +kernel)) (fun _ _ _ _ _ => (pg_name (i := 3) sc_law.nd rfl (Or.inl rfl))) (fun _ _ _ _ _ => pts_nil) (fun _ _ _ _ _ => (pe_callTy call_listI (by rfl) T.z_list (by decide +kernel) (pa_cons (pv 2) pa_nil))))
      (pss_cons (ps_for PassesOwn.never rfl (pi_range1 rfl T.z_range (pa_cons (pe_callB call_lenI (by rfl) T.z_len (by decide +kernel) (pa_cons (pv 2) pa_nil)) pa_nil)) (pg_name (i := 6) sc_law.nd rfl (Or.inl rfl))
        (pss_cons (ps_set (i := 7) sc_law.nd rfl (Or.inl rfl) (pe_call (ok_law_draw T) (hr.mono (by decide)) rfl T.g_law_draw T.F_law_draw.kp T.b_law_draw .nil pass0 (pa_cons (pv 1) (pa_cons (pv 4) pa_nil))))
      (pss_one (ps_for PassesOwn.never rfl (pi_range1 rfl T.z_range (pa_cons (pe_call (ok_law_draw T) (hr.mono (by decide)) rfl T.g_law_draw T.F_law_draw.kp T.b_law_draw .nil pass0 (pa_cons (pv 1) (pa_cons (pe_op op_add (pe_op op_fdiv (pv 4) pe_int) pe_int) pa_nil))) pa_nil)) (pg_name (i := 3) sc_law.nd rfl (Or.inl rfl))
        (pss_one (ps_asg (pe_call (ok_law_draw T) (hr.mono (by decide)) rfl T.g_law_draw T.F_law_draw.kp T.b_law_draw .nil pass0 (pa_cons (pv 1) (pa_cons pe_int pa_nil))) (pg_sub (pe_ix ix_listH (pv 5) (pe_op op_mod (pe_op op_add (pv 7) (pv 3)) (pv 4)) (fun _ _ => rfl)) (pv 6) set_listI)))))))
      (pss_cons (ps_if (pt_not (pt_val (pe_call (ok_law_same T) (hr.mono (by decide)) rfl T.g_law_same T.F_law_same.kp T.b_law_same .nil pass0 (pa_cons (pe_call (ok_merged T) (hr.mono (by decide)) rfl T.g_merged T.F_merged.kp T.b_merged .nil passL (pa_cons (pv 5) pa_nil)) (pa_cons (pv 2) pa_nil))))) (pss_one (ps_ret pe_bl)) pss_nil)
      (pss_cons (ps_if (PW.pt (pw_or (pt_cmpR (op_neI hr.units) (pe_call (ok_trimmed T) (hr.mono (by decide)) rfl T.g_trimmed T.F_trimmed.kp T.b_trimmed .nil passL (pa_cons (pe_op op_catI (pv 2) (pv 2)) pa_nil)) (pe_slice sl_listI (pv 2) po_none (po_some (pe_call (ok_true_length T) (hr.mono (by decide)) rfl T.g_true_length T.F_true_length.kp T.b_true_length .nil passL (pa_cons (pe_op op_catI (pv 2) (pv 2)) pa_nil)))) (nomark _)) (pw_or1 (pt_cmpR op_gt (pe_call (ok_true_length T) (hr.mono (by decide)) rfl T.g_true_length T.F_true_length.kp T.b_true_length .nil passL (pa_cons (pe_op op_catI (pv 2) (pv 2)) pa_nil)) (pe_callB call_lenI (by rfl) T.z_len (by decide +kernel) (pa_cons (pv 2) pa_nil)) (nomark _))))) (pss_one (ps_ret pe_bl)) pss_nil)
      (pss_cons (ps_set (i := 6) sc_law.nd rfl (Or.inl rfl) (pe_call (ok_law_draw T) (hr.mono (by decide)) rfl T.g_law_draw T.F_law_draw.kp T.b_law_draw .nil pass0 (pa_cons (pv 1) (pa_cons (pe_callB call_lenI (by rfl) T.z_len (by decide +kernel) (pa_cons (pv 2) pa_nil)) pa_nil))))
      (pss_cons (ps_set (i := 8) sc_law.nd rfl (Or.inl rfl) (pe_op op_catI (pe_op op_catI (pe_slice sl_listI (pv 2) po_none (po_some (pv 6))) (pe_lstI (pa_cons (pe_call (ok_law_draw T) (hr.mono (by decide)) rfl T.g_law_draw T.F_law_draw.kp T.b_law_draw .nil pass0 (pa_cons (pv 1) (pa_cons pe_int pa_nil))) pa_nil))) (pe_slice sl_listI (pv 2) (po_some (pe_op op_add (pv 6) pe_int)) po_none)))
      (pss_one (ps_ret (pe_call (ok_law_same T) (hr.mono (by decide)) rfl T.g_law_same T.F_law_same.kp T.b_law_same .nil pass0 (pa_cons (pe_call (ok_solution T) (hr.mono (by decide)) rfl T.g_solution T.F_solution.kp T.b_solution .nil passL (pa_cons (pv 8) (pa_cons (pe_listRg rfl (by rfl) T.z_list (prg_2 (by rfl) T.z_range (pe_op op_mul pe_int (pv 6)) (pe_op op_add (pe_op op_mul pe_int (pv 6)) pe_int))) (pa_cons (pe_call (ok_crc T) (hr.mono (by decide)) rfl T.g_crc T.F_crc.kp T.b_crc .nil pass0 (pa_cons (pv 2) pa_nil)) pa_nil)))) (pa_cons (pv 2) pa_nil)))))))))))))), ?_⟩
  try simp only [tSeq, tAsg, tVar, tC, tOp, rI0, rI, tUn, rU, tIfS, tTest, tRet, tRetN, tDrop, tCB, tCons, tNil, tLst, tLstI, tTup, gName, tB, tAnd, tOr, tNot, tAndV, tOrV, tNotV, tIf, tNext, tBreak, tCont, gSub, tCall, tCallN, tAug, ipI, tBML, tBML0, isL_IL, isL_lst, L2.start, List.map_cons, List.map_nil, List.length_cons, List.length_nil, List.cons_append, List.nil_append, List.getElem?_cons_succ, List.getElem?_cons_zero, Option.some.injEq, exists_eq_left', exists_eq_left, exists_and_left, V.int.injEq, V.ref.injEq, V.bl.injEq, V.str.injEq, List.set_cons_zero, List.set_cons_succ, List.cons.injEq, and_true, true_and, Nat.reduceAdd, Nat.reduceSub, List.replicate_succ, List.replicate_zero, rIxI, rIxH, rIxTH, rSetI, rSetH, rCatI, rRepI, rSlI, rAppendI, rExtendI, decide_eq_true_eq, upd_same, IL_inj, HO.lst.injEq, toInts_cons, toInts_nil, Option.map_some, if_true, if_false, Bool.true_eq_false, Bool.false_eq_true, Bool.not_true, Bool.not_false, Bool.not_eq_true', decide_eq_false_iff_not, atI_0, atI_1, atI_2, atI_3, atI_4, Int.reduceToNat, Int.reduceLT, Int.reduceLE, Int.reduceNeg, Int.reducePow, cast_lit, upd_upd, Int.reduceAdd, Int.reduceMul, Int.reduceSub, Nat.reduceLT, Nat.reduceLeDiff, cmul_r, cdiv_r, tSl, tPart, tNoPart, rEq, rNe, scal_nn, scal_ii, scal_bb, scal_ss, scal_is, scal_si, V.ty.injEq, and_assoc, tyH_non, tyH_bl, tyH_int, tyH_str, tyH_ref, tyO_lst, tyO_IL, tyO_tup, itO_lst, itO_tup, itO_IL, Dw.rIxD, rLenI, rLenH, rLenTH, rLenQ, rLenB, rListI, Dw.rListS, rIntI, rIntB, rSumI, rIsiD, rIsX, tCallS, tMakeS, tMake, tMakeC, tMakeSC, tFld, sFld, HO.ins.injEq, HO.tup.injEq, cxOf_K, nox_K, tr_K, suite_K, rTupleI, rAllB, rAnyB, BL_inj, tChain, wOnly, wAs, wMany, rEqI, rNeI, Dw.rMax2, rMin2, Dw.rIsN, rIsNotN, rStrIn, rStrNotIn, not_true_eq_false, not_false_eq_true, reduceCtorEq, cl_bool, cl_int, cl_str, cl_list, cl_tuple, isB_NoneType_bool, isB_NoneType_int, isB_NoneType_str, isB_NoneType_list, isB_NoneType_tuple, isB_bool_bool, isB_bool_int, isB_bool_str, isB_bool_list, isB_bool_tuple, isB_int_bool, isB_int_int, isB_int_str, isB_int_list, isB_int_tuple, isB_str_bool, isB_str_int, isB_str_str, isB_str_list, isB_str_tuple, isB_list_bool, isB_list_int, isB_list_str, isB_list_list, isB_list_tuple, isB_tuple_bool, isB_tuple_int, isB_tuple_str, isB_tuple_list, isB_tuple_tuple, iEz, tPar, tRevL, Dw.rSetL, Dw.rIxL, rIxE, iSeqA, iEnumT]
  refine ⟨a, ss, rfl, hS, hl, fun p q H1 s1 np nq hP => ?_⟩
  try simp only [tSeq, tAsg, tVar, tC, tOp, rI0, rI, tUn, rU, tIfS, tTest, tRet, tRetN, tDrop, tCB, tCons, tNil, tLst, tLstI, tTup, gName, tB, tAnd, tOr, tNot, tAndV, tOrV, tNotV, tIf, tNext, tBreak, tCont, gSub, tCall, tCallN, tAug, ipI, tBML, tBML0, isL_IL, isL_lst, L2.start, List.map_cons, List.map_nil, List.length_cons, List.length_nil, List.cons_append, List.nil_append, List.getElem?_cons_succ, List.getElem?_cons_zero, Option.some.injEq, exists_eq_left', exists_eq_left, exists_and_left, V.int.injEq, V.ref.injEq, V.bl.injEq, V.str.injEq, List.set_cons_zero, List.set_cons_succ, List.cons.injEq, and_true, true_and, Nat.reduceAdd, Nat.reduceSub, List.replicate_succ, List.replicate_zero, rIxI, rIxH, rIxTH, rSetI, rSetH, rCatI, rRepI, rSlI, rAppendI, rExtendI, decide_eq_true_eq, upd_same, IL_inj, HO.lst.injEq, toInts_cons, toInts_nil, Option.map_some, if_true, if_false, Bool.true_eq_false, Bool.false_eq_true, Bool.not_true, Bool.not_false, Bool.not_eq_true', decide_eq_false_iff_not, atI_0, atI_1, atI_2, atI_3, atI_4, Int.reduceToNat, Int.reduceLT, Int.reduceLE, Int.reduceNeg, Int.reducePow, cast_lit, upd_upd, Int.reduceAdd, Int.reduceMul, Int.reduceSub, Nat.reduceLT, Nat.reduceLeDiff, cmul_r, cdiv_r, tSl, tPart, tNoPart, rEq, rNe, scal_nn, scal_ii, scal_bb, scal_ss, scal_is, scal_si, V.ty.injEq, and_assoc, tyH_non, tyH_bl, tyH_int, tyH_str, tyH_ref, tyO_lst, tyO_IL, tyO_tup, itO_lst, itO_tup, itO_IL, Dw.rIxD, rLenI, rLenH, rLenTH, rLenQ, rLenB, rListI, Dw.rListS, rIntI, rIntB, rSumI, rIsiD, rIsX, tCallS, tMakeS, tMake, tMakeC, tMakeSC, tFld, sFld, HO.ins.injEq, HO.tup.injEq, cxOf_K, nox_K, tr_K, suite_K, rTupleI, rAllB, rAnyB, BL_inj, tChain, wOnly, wAs, wMany, rEqI, rNeI, Dw.rMax2, rMin2, Dw.rIsN, rIsNotN, rStrIn, rStrNotIn, not_true_eq_false, not_false_eq_true, reduceCtorEq, cl_bool, cl_int, cl_str, cl_list, cl_tuple, isB_NoneType_bool, isB_NoneType_int, isB_NoneType_str, isB_NoneType_list, isB_NoneType_tuple, isB_bool_bool, isB_bool_int, isB_bool_str, isB_bool_list, isB_bool_tuple, isB_int_bool, isB_int_int, isB_int_str, isB_int_list, isB_int_tuple, isB_str_bool, isB_str_int, isB_str_str, isB_str_list, isB_str_tuple, isB_list_bool, isB_list_int, isB_list_str, isB_list_list, isB_list_tuple, isB_tuple_bool, isB_tuple_int, isB_tuple_str, isB_tuple_list, isB_tuple_tuple, rSlCI, iRng3, iRev, gCons, gNil, iZip, iEnum, tLc_eq, tFor_eq, iRng1, iRng2, iList, iTup, rSetD, iKeys, tDNewK, Int.reducePow, Int.reduceNeg, iEz, tPar, tRevL, Dw.rSetL, Dw.rIxL, rIxE, iSeqA, iEnumT]
  refine ⟨line_le (by decide), fun u1 m1 => ?_⟩
  have pu1 := hP.ne m1
  have su1 := same_new m1 (IL [32, 64])
  have eu1 : upd H1 u1 (IL [32, 64]) u1 = _ := upd_same
  generalize upd H1 u1 (IL [32, 64]) = H2 at su1 eu1  ⊢
  refine ⟨p, q, 2, rfl, hP.same su1, by omega, by omega, fun x H3 x0 x1 hP3 s3 => ⟨_, x, rfl, s3 _ _ pu1.symm eu1, x0, by show x < 2; omega, ?_⟩⟩
  obtain ⟨n, hn, hn2⟩ : ∃ n : Nat, [(32 : Int), 64].getD x.toNat 0 = (n : Int) ∧ (n = 32 ∨ n = 64) := by
    obtain rfl | rfl : x = 0 ∨ x = 1 := by omega
    · exact ⟨32, rfl, .inl rfl⟩
    · exact ⟨64, rfl, .inr rfl⟩
  rw [hn]
  refine ⟨by omega, by omega, fun D nD => ?_⟩
  have pD := hP3.ne nD
  refine lc_pool (p := p) (q := q) (R := fun v => 0 ≤ v ∧ v < 256) (by omega) hP3 nD (fun _ => rfl) ?_ fun ns H4 nl hb hP4 s4 e4 => ?_
  · intro i2 H7 Q2 hi2 hP7 hs7 hq2
    try simp only [tSeq, tAsg, tVar, tC, tOp, rI0, rI, tUn, rU, tIfS, tTest, tRet, tRetN, tDrop, tCB, tCons, tNil, tLst, tLstI, tTup, gName, tB, tAnd, tOr, tNot, tAndV, tOrV, tNotV, tIf, tNext, tBreak, tCont, gSub, tCall, tCallN, tAug, ipI, tBML, tBML0, isL_IL, isL_lst, L2.start, List.map_cons, List.map_nil, List.length_cons, List.length_nil, List.cons_append, List.nil_append, List.getElem?_cons_succ, List.getElem?_cons_zero, Option.some.injEq, exists_eq_left', exists_eq_left, exists_and_left, V.int.injEq, V.ref.injEq, V.bl.injEq, V.str.injEq, List.set_cons_zero, List.set_cons_succ, List.cons.injEq, and_true, true_and, Nat.reduceAdd, Nat.reduceSub, List.replicate_succ, List.replicate_zero, rIxI, rIxH, rIxTH, rSetI, rSetH, rCatI, rRepI, rSlI, rAppendI, rExtendI, decide_eq_true_eq, upd_same, IL_inj, HO.lst.injEq, toInts_cons, toInts_nil, Option.map_some, if_true, if_false, Bool.true_eq_false, Bool.false_eq_true, Bool.not_true, Bool.not_false, Bool.not_eq_true', decide_eq_false_iff_not, atI_0, atI_1, atI_2, atI_3, atI_4, Int.reduceToNat, Int.reduceLT, Int.reduceLE, Int.reduceNeg, Int.reducePow, cast_lit, upd_upd, Int.reduceAdd, Int.reduceMul, Int.reduceSub, Nat.reduceLT, Nat.reduceLeDiff, cmul_r, cdiv_r, tSl, tPart, tNoPart, rEq, rNe, scal_nn, scal_ii, scal_bb, scal_ss, scal_is, scal_si, V.ty.injEq, and_assoc, tyH_non, tyH_bl, tyH_int, tyH_str, tyH_ref, tyO_lst, tyO_IL, tyO_tup, itO_lst, itO_tup, itO_IL, Dw.rIxD, rLenI, rLenH, rLenTH, rLenQ, rLenB, rListI, Dw.rListS, rIntI, rIntB, rSumI, rIsiD, rIsX, tCallS, tMakeS, tMake, tMakeC, tMakeSC, tFld, sFld, HO.ins.injEq, HO.tup.injEq, cxOf_K, nox_K, tr_K, suite_K, rTupleI, rAllB, rAnyB, BL_inj, tChain, wOnly, wAs, wMany, rEqI, rNeI, Dw.rMax2, rMin2, Dw.rIsN, rIsNotN, rStrIn, rStrNotIn, not_true_eq_false, not_false_eq_true, reduceCtorEq, cl_bool, cl_int, cl_str, cl_list, cl_tuple, isB_NoneType_bool, isB_NoneType_int, isB_NoneType_str, isB_NoneType_list, isB_NoneType_tuple, isB_bool_bool, isB_bool_int, isB_bool_str, isB_bool_list, isB_bool_tuple, isB_int_bool, isB_int_int, isB_int_str, isB_int_list, isB_int_tuple, isB_str_bool, isB_str_int, isB_str_str, isB_str_list, isB_str_tuple, isB_list_bool, isB_list_int, isB_list_str, isB_list_list, isB_list_tuple, isB_tuple_bool, isB_tuple_int, isB_tuple_str, isB_tuple_list, isB_tuple_tuple, rSlCI, iRng3, iRev, gCons, gNil, iZip, iEnum, tLc_eq, tFor_eq, iRng1, iRng2, iList, iTup, rSetD, iKeys, tDNewK, Int.reducePow, Int.reduceNeg, iEz, tPar, tRevL, Dw.rSetL, Dw.rIxL, rIxE, iSeqA, iEnumT, wipe]
    exact ⟨p, q, 256, rfl, hP7, by omega, by omega, fun x H8 x0 x1 hP8 s8 => hq2 _ _ ⟨x0, x1⟩ hP8 s8⟩
  obtain ⟨vs, rfl, hv⟩ := of_zs hb
  rw [zs_len, Int.toNat_natCast] at nl
  have hzl : (zs vs).length = n := by rw [zs_len, nl]
  refine ⟨line_le (by decide), fun u2 m2 => ?_⟩
  have pu2 := hP4.ne m2
  have su2 := same_new m2 (IL [3, 5])
  have eu2 : upd H4 u2 (IL [3, 5]) u2 = _ := upd_same
  generalize upd H4 u2 (IL [3, 5]) = H5 at su2 eu2  ⊢
  refine ⟨p, q, 2, rfl, hP4.same su2, by omega, by omega, fun y H6 y0 y1 hP6 s6 => ⟨_, y, rfl, s6 _ _ pu2.symm eu2, y0, by show y < 2; omega, ?_⟩⟩
  obtain ⟨m, hm, hm2⟩ : ∃ m : Nat, [(3 : Int), 5].getD y.toNat 0 = (m : Int) ∧ (m = 3 ∨ m = 5) := by
    obtain rfl | rfl : y = 0 ∨ y = 1 := by omega
    · exact ⟨3, rfl, .inl rfl⟩
    · exact ⟨5, rfl, .inr rfl⟩
  rw [hm]
  refine ⟨by omega, by omega, fun Dd nDd => ?_⟩
  have eD6 := s6 _ _ pD.symm (su2 _ _ e4)
  have pDd := hP6.ne nDd
  have DDd := ne_of_none eD6 nDd
  refine lc_range (lo := 0) (n := (m : Int).toNat) (fun i H' => Same H6 H' ∧ ∃ as : List Addr, H' Dd = some (.lst (as.map V.ref)) ∧ as.length = i ∧ as.Nodup ∧ ∀ b ∈ as, H6 b = none ∧ b ≠ Dd ∧ H' b = some (IL (zs vs))) ⟨same_new nDd _, [], upd_same, rfl, List.nodup_nil, fun b hb => by cases hb⟩ ?_ ?_
  · intro i H7 hi h
    obtain ⟨s7, as, eA, hal, hnd, hA⟩ := h
    have eD7 := s7 _ _ eD6
    try simp only [tSeq, tAsg, tVar, tC, tOp, rI0, rI, tUn, rU, tIfS, tTest, tRet, tRetN, tDrop, tCB, tCons, tNil, tLst, tLstI, tTup, gName, tB, tAnd, tOr, tNot, tAndV, tOrV, tNotV, tIf, tNext, tBreak, tCont, gSub, tCall, tCallN, tAug, ipI, tBML, tBML0, isL_IL, isL_lst, L2.start, List.map_cons, List.map_nil, List.length_cons, List.length_nil, List.cons_append, List.nil_append, List.getElem?_cons_succ, List.getElem?_cons_zero, Option.some.injEq, exists_eq_left', exists_eq_left, exists_and_left, V.int.injEq, V.ref.injEq, V.bl.injEq, V.str.injEq, List.set_cons_zero, List.set_cons_succ, List.cons.injEq, and_true, true_and, Nat.reduceAdd, Nat.reduceSub, List.replicate_succ, List.replicate_zero, rIxI, rIxH, rIxTH, rSetI, rSetH, rCatI, rRepI, rSlI, rAppendI, rExtendI, decide_eq_true_eq, upd_same, IL_inj, HO.lst.injEq, toInts_cons, toInts_nil, Option.map_some, if_true, if_false, Bool.true_eq_false, Bool.false_eq_true, Bool.not_true, Bool.not_false, Bool.not_eq_true', decide_eq_false_iff_not, atI_0, atI_1, atI_2, atI_3, atI_4, Int.reduceToNat, Int.reduceLT, Int.reduceLE, Int.reduceNeg, Int.reducePow, cast_lit, upd_upd, Int.reduceAdd, Int.reduceMul, Int.reduceSub, Nat.reduceLT, Nat.reduceLeDiff, cmul_r, cdiv_r, tSl, tPart, tNoPart, rEq, rNe, scal_nn, scal_ii, scal_bb, scal_ss, scal_is, scal_si, V.ty.injEq, and_assoc, tyH_non, tyH_bl, tyH_int, tyH_str, tyH_ref, tyO_lst, tyO_IL, tyO_tup, itO_lst, itO_tup, itO_IL, Dw.rIxD, rLenI, rLenH, rLenTH, rLenQ, rLenB, rListI, Dw.rListS, rIntI, rIntB, rSumI, rIsiD, rIsX, tCallS, tMakeS, tMake, tMakeC, tMakeSC, tFld, sFld, HO.ins.injEq, HO.tup.injEq, cxOf_K, nox_K, tr_K, suite_K, rTupleI, rAllB, rAnyB, BL_inj, tChain, wOnly, wAs, wMany, rEqI, rNeI, Dw.rMax2, rMin2, Dw.rIsN, rIsNotN, rStrIn, rStrNotIn, not_true_eq_false, not_false_eq_true, reduceCtorEq, cl_bool, cl_int, cl_str, cl_list, cl_tuple, isB_NoneType_bool, isB_NoneType_int, isB_NoneType_str, isB_NoneType_list, isB_NoneType_tuple, isB_bool_bool, isB_bool_int, isB_bool_str, isB_bool_list, isB_bool_tuple, isB_int_bool, isB_int_int, isB_int_str, isB_int_list, isB_int_tuple, isB_str_bool, isB_str_int, isB_str_str, isB_str_list, isB_str_tuple, isB_list_bool, isB_list_int, isB_list_str, isB_list_list, isB_list_tuple, isB_tuple_bool, isB_tuple_int, isB_tuple_str, isB_tuple_list, isB_tuple_tuple, rSlCI, iRng3, iRev, gCons, gNil, iZip, iEnum, tLc_eq, tFor_eq, iRng1, iRng2, iList, iTup, rSetD, iKeys, tDNewK, Int.reducePow, Int.reduceNeg, iEz, tPar, tRevL, Dw.rSetL, Dw.rIxL, rIxE, iSeqA, iEnumT, wipe, eD7]
    simp only [tYes, if_true]
    refine ⟨_, eD7, fun l nl' => ?_⟩
    have sl := same_new nl' (IL (zs vs))
    have lDd : l ≠ Dd := (ne_of_none eA nl').symm
    refine ⟨_, sl _ _ eA, by rw [List.length_map]; exact line_lt (by omega), Same.put (s7.trans sl) nDd _, as ++ [l], by rw [List.map_append]; rfl, by rw [List.length_append, hal]; rfl, ?_, fun b hb => ?_⟩
    · refine List.nodup_append.mpr ⟨hnd, by simp, fun b hb c hc e => ?_⟩
      rw [List.mem_singleton.mp hc] at e
      have := (hA b hb).2.2
      rw [e, nl'] at this
      cases this
    · rcases List.mem_append.mp hb with h | h
      · obtain ⟨g1, g2, g3⟩ := hA b h
        exact ⟨g1, g2, by rw [upd_ne g2]; exact sl _ _ g3⟩
      · rw [List.mem_singleton.mp h]
        exact ⟨same_none s7 nl', lDd, by rw [upd_ne lDd]; exact upd_same⟩
  · intro H7 h
    obtain ⟨s7, as, eA, hal, hnd, hA⟩ := h
    rw [Int.toNat_natCast] at hal
    have eD7 := s7 _ _ eD6
    refine ⟨_, eD7, by omega, by omega, ?_⟩
    rw [hzl, Int.toNat_natCast]
    have hP7 := hP6.same s7
    have hpA : ∀ b ∈ as, p ≠ b ∧ q ≠ b ∧ D ≠ b ∧ Dd ≠ b := fun b hb => by
      obtain ⟨g1, g2, _⟩ := hA b hb
      exact ⟨hP6.ne g1, hP6.ne2 g1, ne_of_none eD6 g1, g2.symm⟩
    obtain ⟨I, hI⟩ : ∃ F : Nat → L2.St → Hp → Prop, F = (fun i σ H' => Pool H' p q ∧ H' D = some (IL (zs vs)) ∧ H' Dd = some (.lst (as.map V.ref)) ∧ ∃ (rs : List (List Int)) (y3 y6 y7 : Option V), rs.length = m ∧ (∀ (i : Nat) b, as[i]? = some b → H' b = some (IL (rs.getD i []))) ∧ (∀ r ∈ rs, r.length = n) ∧ (∀ j, j < n → rs.countP (fun r => decide (r.getD j 0 ≠ (zs vs).getD j 0)) ≤ if j < i then m / 2 else 0) ∧ σ = [some (V.ref a), some (V.ref p), some (V.ref D), y3, some (V.int (m : Int)), some (V.ref Dd), y6, y7, none]) := ⟨_, rfl⟩
    refine forR I ?_ ?_ ?_
    · rw [hI]
      refine ⟨hP7, eD7, eA, List.replicate m (zs vs), _, _, _, List.length_replicate, fun i b h => ?_, fun r hr => by rw [List.eq_of_mem_replicate hr]; exact hzl, fun j hj => ?_, rfl⟩
      · have hi := (List.getElem?_eq_some_iff.mp h).1
        rw [List.getD_eq_getElem?_getD, List.getElem?_replicate, if_pos (by omega)]
        exact (hA b (List.mem_of_getElem? h)).2.2
      · rw [if_neg (by omega)]
        exact Nat.le_of_eq (List.countP_eq_zero.mpr fun r hr => by rw [List.eq_of_mem_replicate hr]; simp)
    · intro i σ H8 hi h
      rw [hI] at h
      obtain ⟨hP8, eD8, eA8, rs, y3, y6, y7, hrl, hrA, hrn, hrc, rfl⟩ := h
      try simp only [tSeq, tAsg, tVar, tC, tOp, rI0, rI, tUn, rU, tIfS, tTest, tRet, tRetN, tDrop, tCB, tCons, tNil, tLst, tLstI, tTup, gName, tB, tAnd, tOr, tNot, tAndV, tOrV, tNotV, tIf, tNext, tBreak, tCont, gSub, tCall, tCallN, tAug, ipI, tBML, tBML0, isL_IL, isL_lst, L2.start, List.map_cons, List.map_nil, List.length_cons, List.length_nil, List.cons_append, List.nil_append, List.getElem?_cons_succ, List.getElem?_cons_zero, Option.some.injEq, exists_eq_left', exists_eq_left, exists_and_left, V.int.injEq, V.ref.injEq, V.bl.injEq, V.str.injEq, List.set_cons_zero, List.set_cons_succ, List.cons.injEq, and_true, true_and, Nat.reduceAdd, Nat.reduceSub, List.replicate_succ, List.replicate_zero, rIxI, rIxH, rIxTH, rSetI, rSetH, rCatI, rRepI, rSlI, rAppendI, rExtendI, decide_eq_true_eq, upd_same, IL_inj, HO.lst.injEq, toInts_cons, toInts_nil, Option.map_some, if_true, if_false, Bool.true_eq_false, Bool.false_eq_true, Bool.not_true, Bool.not_false, Bool.not_eq_true', decide_eq_false_iff_not, atI_0, atI_1, atI_2, atI_3, atI_4, Int.reduceToNat, Int.reduceLT, Int.reduceLE, Int.reduceNeg, Int.reducePow, cast_lit, upd_upd, Int.reduceAdd, Int.reduceMul, Int.reduceSub, Nat.reduceLT, Nat.reduceLeDiff, cmul_r, cdiv_r, tSl, tPart, tNoPart, rEq, rNe, scal_nn, scal_ii, scal_bb, scal_ss, scal_is, scal_si, V.ty.injEq, and_assoc, tyH_non, tyH_bl, tyH_int, tyH_str, tyH_ref, tyO_lst, tyO_IL, tyO_tup, itO_lst, itO_tup, itO_IL, Dw.rIxD, rLenI, rLenH, rLenTH, rLenQ, rLenB, rListI, Dw.rListS, rIntI, rIntB, rSumI, rIsiD, rIsX, tCallS, tMakeS, tMake, tMakeC, tMakeSC, tFld, sFld, HO.ins.injEq, HO.tup.injEq, cxOf_K, nox_K, tr_K, suite_K, rTupleI, rAllB, rAnyB, BL_inj, tChain, wOnly, wAs, wMany, rEqI, rNeI, Dw.rMax2, rMin2, Dw.rIsN, rIsNotN, rStrIn, rStrNotIn, not_true_eq_false, not_false_eq_true, reduceCtorEq, cl_bool, cl_int, cl_str, cl_list, cl_tuple, isB_NoneType_bool, isB_NoneType_int, isB_NoneType_str, isB_NoneType_list, isB_NoneType_tuple, isB_bool_bool, isB_bool_int, isB_bool_str, isB_bool_list, isB_bool_tuple, isB_int_bool, isB_int_int, isB_int_str, isB_int_list, isB_int_tuple, isB_str_bool, isB_str_int, isB_str_str, isB_str_list, isB_str_tuple, isB_list_bool, isB_list_int, isB_list_str, isB_list_list, isB_list_tuple, isB_tuple_bool, isB_tuple_int, isB_tuple_str, isB_tuple_list, isB_tuple_tuple, rSlCI, iRng3, iRev, gCons, gNil, iZip, iEnum, tLc_eq, tFor_eq, iRng1, iRng2, iList, iTup, rSetD, iKeys, tDNewK, Int.reducePow, Int.reduceNeg, iEz, tPar, tRevL, Dw.rSetL, Dw.rIxL, rIxE, iSeqA, iEnumT, Int.zero_add]
      refine ⟨p, q, m, rfl, hP8, by omega, by omega, fun f H9 f0 f1 hP9 s9 => ?_⟩
      refine ⟨p, q, _, rfl, hP9, by omega, by omega, fun c H10 c0 c1 hP10 s10 => ⟨c, rfl, by omega, by omega, ?_⟩⟩
      obtain ⟨f, rfl⟩ := Int.eq_ofNat_of_zero_le f0
      have s810 := s9.trans s10
      obtain ⟨J, hJ⟩ : ∃ F : Nat → L2.St → Hp → Prop, F = (fun k σ H' => Pool H' p q ∧ H' D = some (IL (zs vs)) ∧ H' Dd = some (.lst (as.map V.ref)) ∧ ∃ (rs : List (List Int)) (y3 : Option V), rs.length = m ∧ (∀ (i : Nat) b, as[i]? = some b → H' b = some (IL (rs.getD i []))) ∧ (∀ r ∈ rs, r.length = n) ∧ (∀ j, j < n → rs.countP (fun r => decide (r.getD j 0 ≠ (zs vs).getD j 0)) ≤ if j < i then m / 2 else if j = i then k else 0) ∧ σ = [some (V.ref a), some (V.ref p), some (V.ref D), y3, some (V.int (m : Int)), some (V.ref Dd), some (V.int (i : Int)), some (V.int (f : Int)), none]) := ⟨_, rfl⟩
      refine forR J ?_ ?_ ?_
      · rw [hJ]
        refine ⟨hP10, s810 _ _ pD.symm eD8, s810 _ _ pDd.symm eA8, rs, _, hrl, fun i b h => s810 _ _ (hpA b (List.mem_of_getElem? h)).1.symm (hrA i b h), hrn, fun j hj => ?_, rfl⟩
        have := hrc j hj
        split at this
        · rw [if_pos (by assumption)]; exact this
        · rw [if_neg (by assumption)]
          split <;> exact this
      · intro k σ H11 hk h
        rw [hJ] at h
        obtain ⟨hP11, eD11, eA11, rs, y3, hrl, hrA, hrn, hrc, rfl⟩ := h
        try simp only [tSeq, tAsg, tVar, tC, tOp, rI0, rI, tUn, rU, tIfS, tTest, tRet, tRetN, tDrop, tCB, tCons, tNil, tLst, tLstI, tTup, gName, tB, tAnd, tOr, tNot, tAndV, tOrV, tNotV, tIf, tNext, tBreak, tCont, gSub, tCall, tCallN, tAug, ipI, tBML, tBML0, isL_IL, isL_lst, L2.start, List.map_cons, List.map_nil, List.length_cons, List.length_nil, List.cons_append, List.nil_append, List.getElem?_cons_succ, List.getElem?_cons_zero, Option.some.injEq, exists_eq_left', exists_eq_left, exists_and_left, V.int.injEq, V.ref.injEq, V.bl.injEq, V.str.injEq, List.set_cons_zero, List.set_cons_succ, List.cons.injEq, and_true, true_and, Nat.reduceAdd, Nat.reduceSub, List.replicate_succ, List.replicate_zero, rIxI, rIxH, rIxTH, rSetI, rSetH, rCatI, rRepI, rSlI, rAppendI, rExtendI, decide_eq_true_eq, upd_same, IL_inj, HO.lst.injEq, toInts_cons, toInts_nil, Option.map_some, if_true, if_false, Bool.true_eq_false, Bool.false_eq_true, Bool.not_true, Bool.not_false, Bool.not_eq_true', decide_eq_false_iff_not, atI_0, atI_1, atI_2, atI_3, atI_4, Int.reduceToNat, Int.reduceLT, Int.reduceLE, Int.reduceNeg, Int.reducePow, cast_lit, upd_upd, Int.reduceAdd, Int.reduceMul, Int.reduceSub, Nat.reduceLT, Nat.reduceLeDiff, cmul_r, cdiv_r, tSl, tPart, tNoPart, rEq, rNe, scal_nn, scal_ii, scal_bb, scal_ss, scal_is, scal_si, V.ty.injEq, and_assoc, tyH_non, tyH_bl, tyH_int, tyH_str, tyH_ref, tyO_lst, tyO_IL, tyO_tup, itO_lst, itO_tup, itO_IL, Dw.rIxD, rLenI, rLenH, rLenTH, rLenQ, rLenB, rListI, Dw.rListS, rIntI, rIntB, rSumI, rIsiD, rIsX, tCallS, tMakeS, tMake, tMakeC, tMakeSC, tFld, sFld, HO.ins.injEq, HO.tup.injEq, cxOf_K, nox_K, tr_K, suite_K, rTupleI, rAllB, rAnyB, BL_inj, tChain, wOnly, wAs, wMany, rEqI, rNeI, Dw.rMax2, rMin2, Dw.rIsN, rIsNotN, rStrIn, rStrNotIn, not_true_eq_false, not_false_eq_true, reduceCtorEq, cl_bool, cl_int, cl_str, cl_list, cl_tuple, isB_NoneType_bool, isB_NoneType_int, isB_NoneType_str, isB_NoneType_list, isB_NoneType_tuple, isB_bool_bool, isB_bool_int, isB_bool_str, isB_bool_list, isB_bool_tuple, isB_int_bool, isB_int_int, isB_int_str, isB_int_list, isB_int_tuple, isB_str_bool, isB_str_int, isB_str_str, isB_str_list, isB_str_tuple, isB_list_bool, isB_list_int, isB_list_str, isB_list_list, isB_list_tuple, isB_tuple_bool, isB_tuple_int, isB_tuple_str, isB_tuple_list, isB_tuple_tuple, rSlCI, iRng3, iRev, gCons, gNil, iZip, iEnum, tLc_eq, tFor_eq, iRng1, iRng2, iList, iTup, rSetD, iKeys, tDNewK, Int.reducePow, Int.reduceNeg, iEz, tPar, tRevL, Dw.rSetL, Dw.rIxL, rIxE, iSeqA, iEnumT, Int.zero_add]
        refine ⟨p, q, 256, rfl, hP11, by omega, by omega, fun z H12 z0 z1 hP12 s12 => ?_⟩
        have eD12 := s12 _ _ pD.symm eD11
        have eA12 := s12 _ _ pDd.symm eA11
        obtain ⟨ix, hix, hixm⟩ : ∃ ix : Nat, ((f : Int) + (k : Int)) % (m : Int) = (ix : Int) ∧ ix < m := by
          have h1 := Int.emod_nonneg ((f : Int) + (k : Int)) (show (m : Int) ≠ 0 by omega)
          have h2 := Int.emod_lt_of_pos ((f : Int) + (k : Int)) (show (0 : Int) < (m : Int) by omega)
          exact ⟨(((f : Int) + (k : Int)) % (m : Int)).toNat, by omega, by omega⟩
        rw [hix]
        obtain ⟨b, hb⟩ : ∃ b, as[ix]? = some b := ⟨_, List.getElem?_eq_getElem (by omega)⟩
        obtain ⟨hpb, hqb, hDb, hAb⟩ := hpA b (List.mem_of_getElem? hb)
        have e12b := s12 _ _ hpb.symm (hrA ix b hb)
        have hri : rs[ix]? = some (rs.getD ix []) := by
          rw [List.getD_eq_getElem?_getD, List.getElem?_eq_getElem (show ix < rs.length by omega)]
          rfl
        have hrx := hrn _ (List.mem_of_getElem? hri)
        refine ⟨by omega, _, eA12, V.ref b, ?_, b, rfl, _, z, rfl, e12b, by omega, by omega, ?_⟩
        · unfold atI ixN
          rw [if_pos (by omega), if_pos (by rw [List.length_map]; omega)]
          show (as.map V.ref)[((ix : Nat) : Int).toNat]? = _
          rw [Int.toNat_natCast, List.getElem?_map, hb]
          rfl
        rw [hJ, Int.toNat_natCast]
        refine ⟨hP12.ups hpb hqb, by rw [upd_ne hDb]; exact eD12, by rw [upd_ne hAb]; exact eA12, rs.set ix ((rs.getD ix []).set i z), _, by rw [List.length_set]; exact hrl, fun i2 b2 h2 => ?_, fun r hr => ?_, fun j hj => ?_, rfl⟩
        · by_cases c2 : i2 = ix
          · subst c2
            rw [hb] at h2
            cases h2
            generalize (rs.getD i2 []).set i z = X
            rw [upd_same, List.getD_eq_getElem?_getD, List.getElem?_set_self (by omega)]
            rfl
          · have hne : b2 ≠ b := fun e => by
              have k1 := (List.getElem?_eq_some_iff.mp h2)
              have k2 := (List.getElem?_eq_some_iff.mp hb)
              obtain ⟨l1, q1⟩ := k1
              obtain ⟨l2, q2⟩ := k2
              rcases Nat.lt_or_gt_of_ne c2 with g | g
              · exact List.pairwise_iff_getElem.mp hnd i2 ix l1 l2 g (by rw [q1, q2, e])
              · exact List.pairwise_iff_getElem.mp hnd ix i2 l2 l1 g (by rw [q1, q2, e])
            rw [upd_ne hne, List.getD_eq_getElem?_getD, List.getElem?_set_ne (fun e => c2 e.symm), ← List.getD_eq_getElem?_getD]
            exact s12 _ _ (hpA b2 (List.mem_of_getElem? h2)).1.symm (hrA i2 b2 h2)
        · rcases List.mem_or_eq_of_mem_set hr with h | h
          · exact hrn r h
          · rw [h, List.length_set]
            exact hrx
        · have hold := hrc j hj
          by_cases cj : j = i
          · subst cj
            rw [if_neg (by omega), if_pos rfl] at hold ⊢
            have := countP_put (fun r : List Int => decide (r.getD j 0 ≠ (zs vs).getD j 0)) rs ix ((rs.getD ix []).set j z)
            omega
          · rw [countP_keep _ rs ix _ _ hri (by
              show decide (((rs.getD ix []).set i z).getD j 0 ≠ _) = decide ((rs.getD ix []).getD j 0 ≠ _)
              rw [List.getD_eq_getElem?_getD, List.getElem?_set_ne (fun e => cj e.symm), ← List.getD_eq_getElem?_getD])]
            rw [if_neg cj] at hold ⊢
            exact hold
      · intro σ H11 h
        rw [hJ] at h
        obtain ⟨hP11, eD11, eA11, rs, y3, hrl, hrA, hrn, hrc, rfl⟩ := h
        rw [hI]
        refine ⟨hP11, eD11, eA11, rs, _, _, _, hrl, hrA, hrn, fun j hj => ?_, rfl⟩
        have := hrc j hj
        split at this
        · rw [if_pos (by omega)]; exact this
        · split at this
          · rw [if_pos (by omega)]; omega
          · rw [if_neg (by omega)]; exact this
    · intro σ H8 h
      rw [hI] at h
      obtain ⟨hP8, eD8, eA8, rs, y3, y6, y7, hrl, hrA, hrn, hrc, rfl⟩ := h
      try simp only [tSeq, tAsg, tVar, tC, tOp, rI0, rI, tUn, rU, tIfS, tTest, tRet, tRetN, tDrop, tCB, tCons, tNil, tLst, tLstI, tTup, gName, tB, tAnd, tOr, tNot, tAndV, tOrV, tNotV, tIf, tNext, tBreak, tCont, gSub, tCall, tCallN, tAug, ipI, tBML, tBML0, isL_IL, isL_lst, L2.start, List.map_cons, List.map_nil, List.length_cons, List.length_nil, List.cons_append, List.nil_append, List.getElem?_cons_succ, List.getElem?_cons_zero, Option.some.injEq, exists_eq_left', exists_eq_left, exists_and_left, V.int.injEq, V.ref.injEq, V.bl.injEq, V.str.injEq, List.set_cons_zero, List.set_cons_succ, List.cons.injEq, and_true, true_and, Nat.reduceAdd, Nat.reduceSub, List.replicate_succ, List.replicate_zero, rIxI, rIxH, rIxTH, rSetI, rSetH, rCatI, rRepI, rSlI, rAppendI, rExtendI, decide_eq_true_eq, upd_same, IL_inj, HO.lst.injEq, toInts_cons, toInts_nil, Option.map_some, if_true, if_false, Bool.true_eq_false, Bool.false_eq_true, Bool.not_true, Bool.not_false, Bool.not_eq_true', decide_eq_false_iff_not, atI_0, atI_1, atI_2, atI_3, atI_4, Int.reduceToNat, Int.reduceLT, Int.reduceLE, Int.reduceNeg, Int.reducePow, cast_lit, upd_upd, Int.reduceAdd, Int.reduceMul, Int.reduceSub, Nat.reduceLT, Nat.reduceLeDiff, cmul_r, cdiv_r, tSl, tPart, tNoPart, rEq, rNe, scal_nn, scal_ii, scal_bb, scal_ss, scal_is, scal_si, V.ty.injEq, and_assoc, tyH_non, tyH_bl, tyH_int, tyH_str, tyH_ref, tyO_lst, tyO_IL, tyO_tup, itO_lst, itO_tup, itO_IL, Dw.rIxD, rLenI, rLenH, rLenTH, rLenQ, rLenB, rListI, Dw.rListS, rIntI, rIntB, rSumI, rIsiD, rIsX, tCallS, tMakeS, tMake, tMakeC, tMakeSC, tFld, sFld, HO.ins.injEq, HO.tup.injEq, cxOf_K, nox_K, tr_K, suite_K, rTupleI, rAllB, rAnyB, BL_inj, tChain, wOnly, wAs, wMany, rEqI, rNeI, Dw.rMax2, rMin2, Dw.rIsN, rIsNotN, rStrIn, rStrNotIn, not_true_eq_false, not_false_eq_true, reduceCtorEq, cl_bool, cl_int, cl_str, cl_list, cl_tuple, isB_NoneType_bool, isB_NoneType_int, isB_NoneType_str, isB_NoneType_list, isB_NoneType_tuple, isB_bool_bool, isB_bool_int, isB_bool_str, isB_bool_list, isB_bool_tuple, isB_int_bool, isB_int_int, isB_int_str, isB_int_list, isB_int_tuple, isB_str_bool, isB_str_int, isB_str_str, isB_str_list, isB_str_tuple, isB_list_bool, isB_list_int, isB_list_str, isB_list_list, isB_list_tuple, isB_tuple_bool, isB_tuple_int, isB_tuple_str, isB_tuple_list, isB_tuple_tuple, rSlCI, iRng3, iRev, gCons, gNil, iZip, iEnum, tLc_eq, tFor_eq, iRng1, iRng2, iList, iTup, rSetD, iKeys, tDNewK, Int.reducePow, Int.reduceNeg, iEz, tPar, tRevL, Dw.rSetL, Dw.rIxL, rIxE, iSeqA, iEnumT]
      have hEven : Even rs := ⟨by omega, fun r hr => by
        unfold width
        rw [hrn r hr, List.getD_eq_getElem?_getD, List.getElem?_eq_getElem (show 0 < rs.length by omega)]
        exact (hrn _ (List.getElem_mem _)).symm⟩
      have hwid : width rs = n := by
        unfold width
        rw [List.getD_eq_getElem?_getD, List.getElem?_eq_getElem (show 0 < rs.length by omega)]
        exact hrn _ (List.getElem_mem _)
      refine ⟨Dd, rs, rfl, ⟨as, eA8, by omega, hrA⟩, by omega, fun r hr => by rw [hrn r hr]; omega, fun _ r9 ws H9 s9 n9 e9 hwl hcol => ?_, fun hno => absurd hEven hno⟩
      have hws : ws = (zs vs).map V.int := by
        refine List.ext_getElem (by rw [List.length_map]; omega) fun j h1 h2 => ?_
        have hj : j < n := by omega
        have hc := hrc j hj
        rw [if_pos hj] at hc
        have hcn := count_ne (fun r => r.getD j 0) ((zs vs).getD j 0) rs
        have hmv := maj (t := (zs vs).getD j 0) (by
          show (rs.map fun r => r.getD j 0).length < 2 * (rs.map fun r => r.getD j 0).count _
          rw [List.length_map]
          omega) (hcol j _ (List.getElem?_eq_getElem h1))
        rw [hmv, List.getElem_map, List.getD_eq_getElem?_getD, List.getElem?_eq_getElem (show j < (zs vs).length by omega)]
        rfl
      subst hws
      have eD9 := s9 _ _ eD8
      have hP9 := hP8.same s9
      refine same_of (d := .list ((zs vs).map PyData.int)) (.list .ints) (dt_IL e9) (dt_IL eD9) ⟨true, rfl, ?_⟩
      rw [if_neg (by decide)]
      obtain ⟨l1, l2, l3⟩ := lenD_double (t := zs vs) (by omega)
      have l4 : (zs vs ++ zs vs).length ≤ 600 := by rw [List.length_append]; omega
      refine ⟨_, eD9, _, eD9, line_le (by omega), fun u3 m3 => ?_⟩
      have su3 := same_new m3 (IL (zs vs ++ zs vs))
      have eu3 : upd H9 u3 (IL (zs vs ++ zs vs)) u3 = _ := upd_same
      generalize upd H9 u3 (IL (zs vs ++ zs vs)) = H10 at su3 eu3  ⊢
      refine ⟨u3, _, rfl, eu3, l4, fun _ r4 H11 s11 n11 e11 => ?_, fun hno => absurd l2 hno⟩
      have eD11 := s11 _ _ (su3 _ _ eD9)
      refine ⟨_, eD11, _, eD11, line_le (by omega), fun u5 m5 => ?_⟩
      have su5 := same_new m5 (IL (zs vs ++ zs vs))
      have eu5 : upd H11 u5 (IL (zs vs ++ zs vs)) u5 = _ := upd_same
      generalize upd H11 u5 (IL (zs vs ++ zs vs)) = H12 at su5 eu5  ⊢
      refine ⟨u5, _, rfl, eu5, l4, fun _ H13 s13 => ⟨_, rfl, _, s13 _ _ (su5 _ _ eD11), fun u6 m6 => ?_⟩, fun hno => absurd l2 hno⟩
      have eD13 := s13 _ _ (su5 _ _ eD11)
      rw [show cutI (zs vs) none (some ((lenD (zs vs ++ zs vs) : Nat) : Int)) = (zs vs).take (lenD (zs vs ++ zs vs)) from cutI_up _ _]
      have su6 := same_new m6 (IL ((zs vs).take (lenD (zs vs ++ zs vs))))
      have eu6 : upd H13 u6 (IL ((zs vs).take (lenD (zs vs ++ zs vs)))) u6 = _ := upd_same
      generalize upd H13 u6 (IL ((zs vs).take (lenD (zs vs ++ zs vs)))) = H14 at su6 eu6  ⊢
      refine ⟨r4, rfl, _, su6 _ _ (s13 _ _ (su5 _ _ e11)), ?_⟩
      rw [l3]
      refine if_no (fun h => h rfl) ?_
      have eD14 := su6 _ _ eD13
      refine ⟨_, eD14, _, eD14, line_le (by omega), fun u7 m7 => ?_⟩
      have su7 := same_new m7 (IL (zs vs ++ zs vs))
      have eu7 : upd H14 u7 (IL (zs vs ++ zs vs)) u7 = _ := upd_same
      generalize upd H14 u7 (IL (zs vs ++ zs vs)) = H15 at su7 eu7  ⊢
      refine ⟨u7, _, rfl, eu7, l4, fun _ H16 s16 => ?_, fun hno => absurd l2 hno⟩
      have eD16 := s16 _ _ (su7 _ _ eD14)
      have hP16 := (((((((hP9.same su3).same s11).same su5).same s13).same su6).same su7).same s16)
      refine ⟨_, eD16, _, rfl, if_no (by omega) ?_⟩
      refine ⟨_, eD16, p, q, _, rfl, hP16, by omega, by omega, fun g H17 g0 g1 hP17 s17 => ⟨g, rfl, _, s17 _ _ pD.symm eD16, fun u8 m8 => ?_⟩⟩
      have eD17 := s17 _ _ pD.symm eD16
      obtain ⟨t, rfl⟩ := Int.eq_ofNat_of_zero_le g0
      have htn : t < n := by omega
      rw [show cutI (zs vs) none (some (t : Int)) = (zs vs).take t from cutI_up _ t]
      have pu8 := hP17.ne m8
      have su8 := same_new m8 (IL ((zs vs).take t))
      have eu8 : upd H17 u8 (IL ((zs vs).take t)) u8 = _ := upd_same
      generalize upd H17 u8 (IL ((zs vs).take t)) = H18 at su8 eu8  ⊢
      refine ⟨p, q, 256, rfl, hP17.same su8, by omega, by omega, fun yy H19 yy0 yy1 hP19 s19 => ⟨[yy], rfl, line_le (by show 1 ≤ _; decide), fun u9 m9 => ?_⟩⟩
      have eu8' := s19 _ _ pu8.symm eu8
      have eD19 := s19 _ _ pD.symm (su8 _ _ eD17)
      have su9 := same_new m9 (IL [yy])
      have eu9 : upd H19 u9 (IL [yy]) u9 = _ := upd_same
      generalize upd H19 u9 (IL [yy]) = H20 at su9 eu9  ⊢
      refine ⟨_, su9 _ _ eu8', line_le (by rw [List.length_take]; show _ + 1 ≤ _; omega), fun u10 m10 => ?_⟩
      have su10 := same_new m10 (IL ((zs vs).take t ++ [yy]))
      have eu10 : upd H20 u10 (IL ((zs vs).take t ++ [yy])) u10 = _ := upd_same
      generalize upd H20 u10 (IL ((zs vs).take t ++ [yy])) = H21 at su10 eu10  ⊢
      have eD21 := su10 _ _ (su9 _ _ eD19)
      refine ⟨_, rfl, _, eD21, fun u11 m11 => ?_⟩
      rw [show cutI (zs vs) (some ((t : Int) + 1)) none = (zs vs).drop (t + 1) from cutI_fr _ (t + 1)]
      have su11 := same_new m11 (IL ((zs vs).drop (t + 1)))
      have eu11 : upd H21 u11 (IL ((zs vs).drop (t + 1))) u11 = _ := upd_same
      generalize upd H21 u11 (IL ((zs vs).drop (t + 1))) = H22 at su11 eu11  ⊢
      refine ⟨_, su11 _ _ eu10, line_le (by simp only [List.length_append, List.length_take, List.length_drop, List.length_cons, List.length_nil]; omega), fun u12 m12 => ?_⟩
      have hset : (zs vs).take t ++ [yy] ++ (zs vs).drop (t + 1) = zs (vs.set t yy.toNat) := by
        rw [← zs_set, show ((yy.toNat : Nat) : Int) = yy by omega, List.set_eq_take_append_cons_drop, if_pos (by omega), List.append_assoc]
        rfl
      rw [hset]
      have su12 := same_new m12 (IL (zs (vs.set t yy.toNat)))
      have eu12 : upd H22 u12 (IL (zs (vs.set t yy.toNat))) u12 = _ := upd_same
      generalize upd H22 u12 (IL (zs (vs.set t yy.toNat))) = H23 at su12 eu12  ⊢
      have eD23 := su12 _ _ (su11 _ _ eD21)
      try simp only [tSeq, tAsg, tVar, tC, tOp, rI0, rI, tUn, rU, tIfS, tTest, tRet, tRetN, tDrop, tCB, tCons, tNil, tLst, tLstI, tTup, gName, tB, tAnd, tOr, tNot, tAndV, tOrV, tNotV, tIf, tNext, tBreak, tCont, gSub, tCall, tCallN, tAug, ipI, tBML, tBML0, isL_IL, isL_lst, L2.start, List.map_cons, List.map_nil, List.length_cons, List.length_nil, List.cons_append, List.nil_append, List.getElem?_cons_succ, List.getElem?_cons_zero, Option.some.injEq, exists_eq_left', exists_eq_left, exists_and_left, V.int.injEq, V.ref.injEq, V.bl.injEq, V.str.injEq, List.set_cons_zero, List.set_cons_succ, List.cons.injEq, and_true, true_and, Nat.reduceAdd, Nat.reduceSub, List.replicate_succ, List.replicate_zero, rIxI, rIxH, rIxTH, rSetI, rSetH, rCatI, rRepI, rSlI, rAppendI, rExtendI, decide_eq_true_eq, upd_same, IL_inj, HO.lst.injEq, toInts_cons, toInts_nil, Option.map_some, if_true, if_false, Bool.true_eq_false, Bool.false_eq_true, Bool.not_true, Bool.not_false, Bool.not_eq_true', decide_eq_false_iff_not, atI_0, atI_1, atI_2, atI_3, atI_4, Int.reduceToNat, Int.reduceLT, Int.reduceLE, Int.reduceNeg, Int.reducePow, cast_lit, upd_upd, Int.reduceAdd, Int.reduceMul, Int.reduceSub, Nat.reduceLT, Nat.reduceLeDiff, cmul_r, cdiv_r, tSl, tPart, tNoPart, rEq, rNe, scal_nn, scal_ii, scal_bb, scal_ss, scal_is, scal_si, V.ty.injEq, and_assoc, tyH_non, tyH_bl, tyH_int, tyH_str, tyH_ref, tyO_lst, tyO_IL, tyO_tup, itO_lst, itO_tup, itO_IL, Dw.rIxD, rLenI, rLenH, rLenTH, rLenQ, rLenB, rListI, Dw.rListS, rIntI, rIntB, rSumI, rIsiD, rIsX, tCallS, tMakeS, tMake, tMakeC, tMakeSC, tFld, sFld, HO.ins.injEq, HO.tup.injEq, cxOf_K, nox_K, tr_K, suite_K, rTupleI, rAllB, rAnyB, BL_inj, tChain, wOnly, wAs, wMany, rEqI, rNeI, Dw.rMax2, rMin2, Dw.rIsN, rIsNotN, rStrIn, rStrNotIn, not_true_eq_false, not_false_eq_true, reduceCtorEq, cl_bool, cl_int, cl_str, cl_list, cl_tuple, isB_NoneType_bool, isB_NoneType_int, isB_NoneType_str, isB_NoneType_list, isB_NoneType_tuple, isB_bool_bool, isB_bool_int, isB_bool_str, isB_bool_list, isB_bool_tuple, isB_int_bool, isB_int_int, isB_int_str, isB_int_list, isB_int_tuple, isB_str_bool, isB_str_int, isB_str_str, isB_str_list, isB_str_tuple, isB_list_bool, isB_list_int, isB_list_str, isB_list_list, isB_list_tuple, isB_tuple_bool, isB_tuple_int, isB_tuple_str, isB_tuple_list, isB_tuple_tuple, rSlCI, iRng3, iRev, gCons, gNil, iZip, iEnum, tLc_eq, tFor_eq, iRng1, iRng2, iList, iTup, rSetD, iKeys, tDNewK, Int.reducePow, Int.reduceNeg, iEz, tPar, tRevL, Dw.rSetL, Dw.rIxL, rIxE, iSeqA, iEnumT, tLstRg, tRg2]
      have hrg : HO.lst (rgV (8 * (t : Int)) (8 * (t : Int) + 8)) = IL (zs ((List.range 8).map fun i => 8 * t + i)) := by
        unfold rgV IL zs
        rw [List.map_map, List.map_map, show (8 * (t : Int) + 8 - 8 * (t : Int)).toNat = 8 by omega]
        congr 1
      rw [hrg]
      refine ⟨.inl ⟨by decide, by decide⟩, .inl ⟨by decide, by decide⟩, .of_le (by omega) (by omega) (by omega) (by omega), fun u13 m13 => ?_⟩
      have su13 := same_new m13 (IL (zs ((List.range 8).map fun i => 8 * t + i)))
      have eu13 : upd H23 u13 (IL (zs ((List.range 8).map fun i => 8 * t + i))) u13 = _ := upd_same
      generalize upd H23 u13 (IL (zs ((List.range 8).map fun i => 8 * t + i))) = H24 at su13 eu13  ⊢
      have eD24 := su13 _ _ eD23
      refine ⟨D, zs vs, rfl, eD24, bytes_zs hv, ?_⟩
      rw [crcZ_zs]
      have hsb : ∀ v ∈ vs.set t yy.toNat, v < 256 := fun v h => (List.mem_or_eq_of_mem_set h).elim (hv v) fun e => by rw [e]; omega
      have hok := okU_of (n := (vs.set t yy.toNat).length) (ps := (List.range 8).map fun i => 8 * t + i) (by rw [List.length_map, List.length_range]; decide) (fun x hx => by
        obtain ⟨i, hi, rfl⟩ := List.mem_map.mp hx
        have := List.mem_range.mp hi
        rw [List.length_set]
        omega) (List.Pairwise.map _ (fun a b h => by omega) List.pairwise_lt_range)
      have hu := uni8 (y := yy.toNat) hv (by omega) (show t < vs.length by omega) (by omega)
      refine ⟨u12, u13, vs.set t yy.toNat, zs ((List.range 8).map fun i => 8 * t + i), crcN vs, rfl, su13 _ _ eu12, eu13, hsb, by rw [List.length_set]; omega, by rw [zs_len, List.length_map, List.length_range]; decide, crcN_lt _, fun ps2 hps2 _ _ _ => ?_, fun hno => absurd hok hno⟩
      have hpe := zs_inj hps2
      subst hpe
      rw [pl8_rev, hu]
      refine ⟨fun h => by (cases h), fun row hrow r5 H25 s25 n25 e25 => ?_⟩
      cases hrow
      exact same_of (d := .list ((zs vs).map PyData.int)) (.list .ints) (dt_IL e25) (dt_IL (s25 _ _ eD24)) (k _)
end
theorem all_mk {l : PySem.W.OpenLaw} {w : World} {K : PySem.W.Frag} {h : Heap} {mg : Str → Option Value} {fa f1 f2 f3 f4 f5 f6 f7 f8 f9 f10 f11 f12 f13 f14 f15 f16 f17 f18 f19 f20 f21 f22 f23 f24 C_InvalidUnknowns C_InvalidDump : Addr} (X : K.In h) (G : h.Ns mainGlobals mg) (hfa : mg "law" = some (.ref fa))
    {od1 an1 od2 an2 od3 an3 od4 an4 od5 an5 od6 an6 od7 an7 od8 an8 od9 an9 od10 an10 od11 an11 od12 an12 od13 an13 od14 an14 od15 an15 od16 an16 od17 an17 od18 an18 od19 an19 od20 an20 od21 an21 od22 an22 od23 an23 od24 an24 : Option Addr} {sl1 sl2 sl3 sl4 sl5 sl6 sl7 sl8 sl9 sl10 sl11 sl12 sl13 sl14 sl15 sl16 sl17 sl18 sl19 sl20 sl21 sl22 sl23 sl24 : Array (Option Value)} {oc1 kV1 dc1 pm1 cd1 ct1 oc2 kV2 dc2 pm2 cd2 ct2 oc3 kV3 dc3 pm3 cd3 ct3 oc4 kV4 dc4 pm4 cd4 ct4 oc5 kV5 dc5 pm5 cd5 ct5 oc6 kV6 dc6 pm6 cd6 ct6 oc7 kV7 dc7 pm7 cd7 ct7 oc8 kV8 dc8 pm8 cd8 ct8 oc9 kV9 dc9 pm9 cd9 ct9 oc10 kV10 dc10 pm10 cd10 ct10 oc11 kV11 dc11 pm11 cd11 ct11 oc12 kV12 dc12 pm12 cd12 ct12 oc13 kV13 dc13 pm13 cd13 ct13 oc14 kV14 dc14 pm14 cd14 ct14 oc15 kV15 dc15 pm15 cd15 ct15 oc16 kV16 dc16 pm16 cd16 ct16 oc17 kV17 dc17 pm17 cd17 ct17 oc18 kV18 dc18 pm18 cd18 ct18 oc19 kV19 dc19 pm19 cd19 ct19 oc20 kV20 dc20 pm20 cd20 ct20 oc21 kV21 dc21 pm21 cd21 ct21 oc22 kV22 dc22 pm22 cd22 ct22 oc23 kV23 dc23 pm23 cd23 ct23 oc24 kV24 dc24 pm24 cd24 ct24 u_LEAST_LENGTH u_GREATEST_LENGTH u_MOST_UNKNOWN u_POLYNOMIAL u_PERIOD : Value}
    (cn_LEAST_LENGTH : PySem.W.nsIn K mainGlobals "LEAST_LENGTH" = some (some u_LEAST_LENGTH)) (rl_LEAST_LENGTH : RelV (.int 16) u_LEAST_LENGTH)
    (cn_GREATEST_LENGTH : PySem.W.nsIn K mainGlobals "GREATEST_LENGTH" = some (some u_GREATEST_LENGTH)) (rl_GREATEST_LENGTH : RelV (.int 65536) u_GREATEST_LENGTH)
    (cn_MOST_UNKNOWN : PySem.W.nsIn K mainGlobals "MOST_UNKNOWN" = some (some u_MOST_UNKNOWN)) (rl_MOST_UNKNOWN : RelV (.int 24) u_MOST_UNKNOWN)
    (cn_POLYNOMIAL : PySem.W.nsIn K mainGlobals "POLYNOMIAL" = some (some u_POLYNOMIAL)) (rl_POLYNOMIAL : RelV (.int 4129) u_POLYNOMIAL)
    (cn_PERIOD : PySem.W.nsIn K mainGlobals "PERIOD" = some (some u_PERIOD)) (rl_PERIOD : RelV (.int 32767) u_PERIOD)
    (a1 : PySem.W.nsIn K mainGlobals "byte_bits" = some (some (.ref f1))) (l1 : K.lookup f1 = some ⟨oc1, od1, .func (PySem.W.fnOf "byte_bits" "byte_bits" (defArgs s_byte_bits) (defBody s_byte_bits) (defScope s_byte_bits) .none kV1 dc1 pm1 an1 cd1 ct1), sl1⟩) (c1 : PySem.W.codeIn K cd1 "byte_bits" = true) (k1 : PySem.W.keepIn K (.ref f1) = true)
    (a2 : PySem.W.nsIn K mainGlobals "bits_byte" = some (some (.ref f2))) (l2 : K.lookup f2 = some ⟨oc2, od2, .func (PySem.W.fnOf "bits_byte" "bits_byte" (defArgs s_bits_byte) (defBody s_bits_byte) (defScope s_bits_byte) .none kV2 dc2 pm2 an2 cd2 ct2), sl2⟩) (c2 : PySem.W.codeIn K cd2 "bits_byte" = true) (k2 : PySem.W.keepIn K (.ref f2) = true)
    (a3 : PySem.W.nsIn K mainGlobals "exclusive" = some (some (.ref f3))) (l3 : K.lookup f3 = some ⟨oc3, od3, .func (PySem.W.fnOf "exclusive" "exclusive" (defArgs s_exclusive) (defBody s_exclusive) (defScope s_exclusive) .none kV3 dc3 pm3 an3 cd3 ct3), sl3⟩) (c3 : PySem.W.codeIn K cd3 "exclusive" = true) (k3 : PySem.W.keepIn K (.ref f3) = true)
    (a4 : PySem.W.nsIn K mainGlobals "crc" = some (some (.ref f4))) (l4 : K.lookup f4 = some ⟨oc4, od4, .func (PySem.W.fnOf "crc" "crc" (defArgs s_crc) (defBody s_crc) (defScope s_crc) .none kV4 dc4 pm4 an4 cd4 ct4), sl4⟩) (c4 : PySem.W.codeIn K cd4 "crc" = true) (k4 : PySem.W.keepIn K (.ref f4) = true)
    (a5 : PySem.W.nsIn K mainGlobals "powers_up_to" = some (some (.ref f5))) (l5 : K.lookup f5 = some ⟨oc5, od5, .func (PySem.W.fnOf "powers_up_to" "powers_up_to" (defArgs s_powers_up_to) (defBody s_powers_up_to) (defScope s_powers_up_to) .none kV5 dc5 pm5 an5 cd5 ct5), sl5⟩) (c5 : PySem.W.codeIn K cd5 "powers_up_to" = true) (k5 : PySem.W.keepIn K (.ref f5) = true)
    (a6 : PySem.W.nsIn K mainGlobals "repeated_length" = some (some (.ref f6))) (l6 : K.lookup f6 = some ⟨oc6, od6, .func (PySem.W.fnOf "repeated_length" "repeated_length" (defArgs s_repeated_length) (defBody s_repeated_length) (defScope s_repeated_length) .none kV6 dc6 pm6 an6 cd6 ct6), sl6⟩) (c6 : PySem.W.codeIn K cd6 "repeated_length" = true) (k6 : PySem.W.keepIn K (.ref f6) = true)
    (a7 : PySem.W.nsIn K mainGlobals "length_of" = some (some (.ref f7))) (l7 : K.lookup f7 = some ⟨oc7, od7, .func (PySem.W.fnOf "length_of" "length_of" (defArgs s_length_of) (defBody s_length_of) (defScope s_length_of) .none kV7 dc7 pm7 an7 cd7 ct7), sl7⟩) (c7 : PySem.W.codeIn K cd7 "length_of" = true) (k7 : PySem.W.keepIn K (.ref f7) = true)
    (a8 : PySem.W.nsIn K mainGlobals "true_length" = some (some (.ref f8))) (l8 : K.lookup f8 = some ⟨oc8, od8, .func (PySem.W.fnOf "true_length" "true_length" (defArgs s_true_length) (defBody s_true_length) (defScope s_true_length) .none kV8 dc8 pm8 an8 cd8 ct8), sl8⟩) (c8 : PySem.W.codeIn K cd8 "true_length" = true) (k8 : PySem.W.keepIn K (.ref f8) = true)
    (a9 : PySem.W.nsIn K mainGlobals "trimmed" = some (some (.ref f9))) (l9 : K.lookup f9 = some ⟨oc9, od9, .func (PySem.W.fnOf "trimmed" "trimmed" (defArgs s_trimmed) (defBody s_trimmed) (defScope s_trimmed) .none kV9 dc9 pm9 an9 cd9 ct9), sl9⟩) (c9 : PySem.W.codeIn K cd9 "trimmed" = true) (k9 : PySem.W.keepIn K (.ref f9) = true)
    (a10 : PySem.W.nsIn K mainGlobals "merged_byte" = some (some (.ref f10))) (l10 : K.lookup f10 = some ⟨oc10, od10, .func (PySem.W.fnOf "merged_byte" "merged_byte" (defArgs s_merged_byte) (defBody s_merged_byte) (defScope s_merged_byte) .none kV10 dc10 pm10 an10 cd10 ct10), sl10⟩) (c10 : PySem.W.codeIn K cd10 "merged_byte" = true) (k10 : PySem.W.keepIn K (.ref f10) = true)
    (a11 : PySem.W.nsIn K mainGlobals "merged" = some (some (.ref f11))) (l11 : K.lookup f11 = some ⟨oc11, od11, .func (PySem.W.fnOf "merged" "merged" (defArgs s_merged) (defBody s_merged) (defScope s_merged) .none kV11 dc11 pm11 an11 cd11 ct11), sl11⟩) (c11 : PySem.W.codeIn K cd11 "merged" = true) (k11 : PySem.W.keepIn K (.ref f11) = true)
    (a12 : PySem.W.nsIn K mainGlobals "doubled" = some (some (.ref f12))) (l12 : K.lookup f12 = some ⟨oc12, od12, .func (PySem.W.fnOf "doubled" "doubled" (defArgs s_doubled) (defBody s_doubled) (defScope s_doubled) .none kV12 dc12 pm12 an12 cd12 ct12), sl12⟩) (c12 : PySem.W.codeIn K cd12 "doubled" = true) (k12 : PySem.W.keepIn K (.ref f12) = true)
    (a13 : PySem.W.nsIn K mainGlobals "crc_change" = some (some (.ref f13))) (l13 : K.lookup f13 = some ⟨oc13, od13, .func (PySem.W.fnOf "crc_change" "crc_change" (defArgs s_crc_change) (defBody s_crc_change) (defScope s_crc_change) .none kV13 dc13 pm13 an13 cd13 ct13), sl13⟩) (c13 : PySem.W.codeIn K cd13 "crc_change" = true) (k13 : PySem.W.keepIn K (.ref f13) = true)
    (a14 : PySem.W.nsIn K mainGlobals "with_bits_changed" = some (some (.ref f14))) (l14 : K.lookup f14 = some ⟨oc14, od14, .func (PySem.W.fnOf "with_bits_changed" "with_bits_changed" (defArgs s_with_bits_changed) (defBody s_with_bits_changed) (defScope s_with_bits_changed) .none kV14 dc14 pm14 an14 cd14 ct14), sl14⟩) (c14 : PySem.W.codeIn K cd14 "with_bits_changed" = true) (k14 : PySem.W.keepIn K (.ref f14) = true)
    (a15 : PySem.W.nsIn K mainGlobals "with_bits_cleared" = some (some (.ref f15))) (l15 : K.lookup f15 = some ⟨oc15, od15, .func (PySem.W.fnOf "with_bits_cleared" "with_bits_cleared" (defArgs s_with_bits_cleared) (defBody s_with_bits_cleared) (defScope s_with_bits_cleared) .none kV15 dc15 pm15 an15 cd15 ct15), sl15⟩) (c15 : PySem.W.codeIn K cd15 "with_bits_cleared" = true) (k15 : PySem.W.keepIn K (.ref f15) = true)
    (a16 : PySem.W.nsIn K mainGlobals "check_unknown" = some (some (.ref f16))) (l16 : K.lookup f16 = some ⟨oc16, od16, .func (PySem.W.fnOf "check_unknown" "check_unknown" (defArgs s_check_unknown) (defBody s_check_unknown) (defScope s_check_unknown) .none kV16 dc16 pm16 an16 cd16 ct16), sl16⟩) (c16 : PySem.W.codeIn K cd16 "check_unknown" = true) (k16 : PySem.W.keepIn K (.ref f16) = true)
    (a17 : PySem.W.nsIn K mainGlobals "reduced" = some (some (.ref f17))) (l17 : K.lookup f17 = some ⟨oc17, od17, .func (PySem.W.fnOf "reduced" "reduced" (defArgs s_reduced) (defBody s_reduced) (defScope s_reduced) .none kV17 dc17 pm17 an17 cd17 ct17), sl17⟩) (c17 : PySem.W.codeIn K cd17 "reduced" = true) (k17 : PySem.W.keepIn K (.ref f17) = true)
    (a18 : PySem.W.nsIn K mainGlobals "solved" = some (some (.ref f18))) (l18 : K.lookup f18 = some ⟨oc18, od18, .func (PySem.W.fnOf "solved" "solved" (defArgs s_solved) (defBody s_solved) (defScope s_solved) .none kV18 dc18 pm18 an18 cd18 ct18), sl18⟩) (c18 : PySem.W.codeIn K cd18 "solved" = true) (k18 : PySem.W.keepIn K (.ref f18) = true)
    (a19 : PySem.W.nsIn K mainGlobals "solution" = some (some (.ref f19))) (l19 : K.lookup f19 = some ⟨oc19, od19, .func (PySem.W.fnOf "solution" "solution" (defArgs s_solution) (defBody s_solution) (defScope s_solution) .none kV19 dc19 pm19 an19 cd19 ct19), sl19⟩) (c19 : PySem.W.codeIn K cd19 "solution" = true) (k19 : PySem.W.keepIn K (.ref f19) = true)
    (a20 : PySem.W.nsIn K mainGlobals "_law_pool" = some (some (.ref f20))) (l20 : K.lookup f20 = some ⟨oc20, od20, .func (PySem.W.fnOf "_law_pool" "_law_pool" (defArgs s_law_pool) (defBody s_law_pool) (defScope s_law_pool) .none kV20 dc20 pm20 an20 cd20 ct20), sl20⟩) (c20 : PySem.W.codeIn K cd20 "_law_pool" = true) (k20 : PySem.W.keepIn K (.ref f20) = true)
    (a21 : PySem.W.nsIn K mainGlobals "_law_spread" = some (some (.ref f21))) (l21 : K.lookup f21 = some ⟨oc21, od21, .func (PySem.W.fnOf "_law_spread" "_law_spread" (defArgs s_law_spread) (defBody s_law_spread) (defScope s_law_spread) .none kV21 dc21 pm21 an21 cd21 ct21), sl21⟩) (c21 : PySem.W.codeIn K cd21 "_law_spread" = true) (k21 : PySem.W.keepIn K (.ref f21) = true)
    (a22 : PySem.W.nsIn K mainGlobals "_law_draw" = some (some (.ref f22))) (l22 : K.lookup f22 = some ⟨oc22, od22, .func (PySem.W.fnOf "_law_draw" "_law_draw" (defArgs s_law_draw) (defBody s_law_draw) (defScope s_law_draw) .none kV22 dc22 pm22 an22 cd22 ct22), sl22⟩) (c22 : PySem.W.codeIn K cd22 "_law_draw" = true) (k22 : PySem.W.keepIn K (.ref f22) = true)
    (a23 : PySem.W.nsIn K mainGlobals "_law_same" = some (some (.ref f23))) (l23 : K.lookup f23 = some ⟨oc23, od23, .func (PySem.W.fnOf "_law_same" "_law_same" (defArgs s_law_same) (defBody s_law_same) (defScope s_law_same) .none kV23 dc23 pm23 an23 cd23 ct23), sl23⟩) (c23 : PySem.W.codeIn K cd23 "_law_same" = true) (k23 : PySem.W.keepIn K (.ref f23) = true)
    (a24 : PySem.W.nsIn K mainGlobals "law" = some (some (.ref f24))) (l24 : K.lookup f24 = some ⟨oc24, od24, .func (PySem.W.fnOf "law" "law" (defArgs s_law) (defBody s_law) (defScope s_law) .none kV24 dc24 pm24 an24 cd24 ct24), sl24⟩) (c24 : PySem.W.codeIn K cd24 "law" = true) (k24 : PySem.W.keepIn K (.ref f24) = true)
    (z_all : PySem.W.nsIn K mainGlobals "all" = some none)
    (z_bool : PySem.W.nsIn K mainGlobals "bool" = some none)
    (z_enumerate : PySem.W.nsIn K mainGlobals "enumerate" = some none)
    (z_int : PySem.W.nsIn K mainGlobals "int" = some none)
    (z_isinstance : PySem.W.nsIn K mainGlobals "isinstance" = some none)
    (z_len : PySem.W.nsIn K mainGlobals "len" = some none)
    (z_list : PySem.W.nsIn K mainGlobals "list" = some none)
    (z_max : PySem.W.nsIn K mainGlobals "max" = some none)
    (z_range : PySem.W.nsIn K mainGlobals "range" = some none)
    (z_str : PySem.W.nsIn K mainGlobals "str" = some none)
    (z_tuple : PySem.W.nsIn K mainGlobals "tuple" = some none)
    (z_zip : PySem.W.nsIn K mainGlobals "zip" = some none)
    (a_InvalidUnknowns : PySem.W.nsIn K mainGlobals "InvalidUnknowns" = some (some (.ref C_InvalidUnknowns))) (x_InvalidUnknowns : PySem.W.excIn K C_InvalidUnknowns [.type "ValueError", .type "Exception", .type "BaseException", .type "object"] "ValueError.__new__" = true) (k_InvalidUnknowns : PySem.W.keepIn K (.ref C_InvalidUnknowns) = true) (b_InvalidUnknowns : PySem.W.subIn K (.ref C_InvalidUnknowns) (.type "BaseException") = some true) (t_InvalidUnknowns : PySem.W.typeIn K (.ref C_InvalidUnknowns) = some (.type "type")) (i_InvalidUnknowns : PySem.W.isClsIn K C_InvalidUnknowns = true) (s_InvalidUnknowns : PySem.W.subIn K (.ref C_InvalidUnknowns) (.ref C_InvalidUnknowns) = some true)
    (a_InvalidDump : PySem.W.nsIn K mainGlobals "InvalidDump" = some (some (.ref C_InvalidDump))) (x_InvalidDump : PySem.W.excIn K C_InvalidDump [.type "ValueError", .type "Exception", .type "BaseException", .type "object"] "ValueError.__new__" = true) (k_InvalidDump : PySem.W.keepIn K (.ref C_InvalidDump) = true) (b_InvalidDump : PySem.W.subIn K (.ref C_InvalidDump) (.type "BaseException") = some true) (t_InvalidDump : PySem.W.typeIn K (.ref C_InvalidDump) = some (.type "type")) (i_InvalidDump : PySem.W.isClsIn K C_InvalidDump = true) (s_InvalidDump : PySem.W.subIn K (.ref C_InvalidDump) (.ref C_InvalidDump) = some true)
    : ∃ fd : FuncData, (∀ (s : Shared) (v : Value), BindsTo s fd ⟨[v], []⟩ [("script", v)]) ∧ ∀ base : Heap, K.In base → base.Ns mainGlobals mg → FnOk l.prog w K mg base CX0 11 fa fd ["script"] (spLaw K) := by
  have e := hfa.symm.trans (PySem.W.mg_of X G a24)
  cases e
  have F1 := fun_mk (st := s_byte_bits) l1 c1 k1
  have b1 := F1.binds (ps := ["value"]) fun _ _ _ _ _ _ us hl => match us, hl with | [_], _ => rfl
  have F2 := fun_mk (st := s_bits_byte) l2 c2 k2
  have b2 := F2.binds (ps := ["bits"]) fun _ _ _ _ _ _ us hl => match us, hl with | [_], _ => rfl
  have F3 := fun_mk (st := s_exclusive) l3 c3 k3
  have b3 := F3.binds (ps := ["first", "second"]) fun _ _ _ _ _ _ us hl => match us, hl with | [_, _], _ => rfl
  have F4 := fun_mk (st := s_crc) l4 c4 k4
  have b4 := F4.binds (ps := ["values"]) fun _ _ _ _ _ _ us hl => match us, hl with | [_], _ => rfl
  have F5 := fun_mk (st := s_powers_up_to) l5 c5 k5
  have b5 := F5.binds (ps := ["length"]) fun _ _ _ _ _ _ us hl => match us, hl with | [_], _ => rfl
  have F6 := fun_mk (st := s_repeated_length) l6 c6 k6
  have b6 := F6.binds (ps := ["dump"]) fun _ _ _ _ _ _ us hl => match us, hl with | [_], _ => rfl
  have F7 := fun_mk (st := s_length_of) l7 c7 k7
  have b7 := F7.binds (ps := ["dump"]) fun _ _ _ _ _ _ us hl => match us, hl with | [_], _ => rfl
  have F8 := fun_mk (st := s_true_length) l8 c8 k8
  have b8 := F8.binds (ps := ["dump"]) fun _ _ _ _ _ _ us hl => match us, hl with | [_], _ => rfl
  have F9 := fun_mk (st := s_trimmed) l9 c9 k9
  have b9 := F9.binds (ps := ["dump"]) fun _ _ _ _ _ _ us hl => match us, hl with | [_], _ => rfl
  have F10 := fun_mk (st := s_merged_byte) l10 c10 k10
  have b10 := F10.binds (ps := ["values"]) fun _ _ _ _ _ _ us hl => match us, hl with | [_], _ => rfl
  have F11 := fun_mk (st := s_merged) l11 c11 k11
  have b11 := F11.binds (ps := ["dumps"]) fun _ _ _ _ _ _ us hl => match us, hl with | [_], _ => rfl
  have F12 := fun_mk (st := s_doubled) l12 c12 k12
  have b12 := F12.binds (ps := ["number"]) fun _ _ _ _ _ _ us hl => match us, hl with | [_], _ => rfl
  have F13 := fun_mk (st := s_crc_change) l13 c13 k13
  have b13 := F13.binds (ps := ["length", "place"]) fun _ _ _ _ _ _ us hl => match us, hl with | [_, _], _ => rfl
  have F14 := fun_mk (st := s_with_bits_changed) l14 c14 k14
  have b14 := F14.binds (ps := ["values", "places"]) fun _ _ _ _ _ _ us hl => match us, hl with | [_, _], _ => rfl
  have F15 := fun_mk (st := s_with_bits_cleared) l15 c15 k15
  have b15 := F15.binds (ps := ["values", "places"]) fun _ _ _ _ _ _ us hl => match us, hl with | [_, _], _ => rfl
  have F16 := fun_mk (st := s_check_unknown) l16 c16 k16
  have b16 := F16.binds (ps := ["values", "unknown"]) fun _ _ _ _ _ _ us hl => match us, hl with | [_, _], _ => rfl
  have F17 := fun_mk (st := s_reduced) l17 c17 k17
  have b17 := F17.binds (ps := ["row", "basis"]) fun _ _ _ _ _ _ us hl => match us, hl with | [_, _], _ => rfl
  have F18 := fun_mk (st := s_solved) l18 c18 k18
  have b18 := F18.binds (ps := ["values", "unknown", "wanted"]) fun _ _ _ _ _ _ us hl => match us, hl with | [_, _, _], _ => rfl
  have F19 := fun_mk (st := s_solution) l19 c19 k19
  have b19 := F19.binds (ps := ["values", "unknown", "wanted"]) fun _ _ _ _ _ _ us hl => match us, hl with | [_, _, _], _ => rfl
  have F20 := fun_mk (st := s_law_pool) l20 c20 k20
  have b20 := F20.binds (ps := ["script"]) fun _ _ _ _ _ _ us hl => match us, hl with | [_], _ => rfl
  have F21 := fun_mk (st := s_law_spread) l21 c21 k21
  have b21 := F21.binds (ps := ["cell"]) fun _ _ _ _ _ _ us hl => match us, hl with | [_], _ => rfl
  have F22 := fun_mk (st := s_law_draw) l22 c22 k22
  have b22 := F22.binds (ps := ["pool", "many"]) fun _ _ _ _ _ _ us hl => match us, hl with | [_, _], _ => rfl
  have F23 := fun_mk (st := s_law_same) l23 c23 k23
  have b23 := F23.binds (ps := ["actual", "due"]) fun _ _ _ _ _ _ us hl => match us, hl with | [_, _], _ => rfl
  have F24 := fun_mk (st := s_law) l24 c24 k24
  have b24 := F24.binds (ps := ["script"]) fun _ _ _ _ _ _ us hl => match us, hl with | [_], _ => rfl
  have T : Tx K mg ⟨f1, _, f2, _, f3, _, f4, _, f5, _, f6, _, f7, _, f8, _, f9, _, f10, _, f11, _, f12, _, f13, _, f14, _, f15, _, f16, _, f17, _, f18, _, f19, _, f20, _, f21, _, f22, _, f23, _, fa, _, u_LEAST_LENGTH, u_GREATEST_LENGTH, u_MOST_UNKNOWN, u_POLYNOMIAL, u_PERIOD, C_InvalidUnknowns, C_InvalidDump⟩ := { F_byte_bits := F1, b_byte_bits := b1, g_byte_bits := PySem.W.mg_of X G a1, F_bits_byte := F2, b_bits_byte := b2, g_bits_byte := PySem.W.mg_of X G a2, F_exclusive := F3, b_exclusive := b3, g_exclusive := PySem.W.mg_of X G a3, F_crc := F4, b_crc := b4, g_crc := PySem.W.mg_of X G a4, F_powers_up_to := F5, b_powers_up_to := b5, g_powers_up_to := PySem.W.mg_of X G a5, F_repeated_length := F6, b_repeated_length := b6, g_repeated_length := PySem.W.mg_of X G a6, F_length_of := F7, b_length_of := b7, g_length_of := PySem.W.mg_of X G a7, F_true_length := F8, b_true_length := b8, g_true_length := PySem.W.mg_of X G a8, F_trimmed := F9, b_trimmed := b9, g_trimmed := PySem.W.mg_of X G a9, F_merged_byte := F10, b_merged_byte := b10, g_merged_byte := PySem.W.mg_of X G a10, F_merged := F11, b_merged := b11, g_merged := PySem.W.mg_of X G a11, F_doubled := F12, b_doubled := b12, g_doubled := PySem.W.mg_of X G a12, F_crc_change := F13, b_crc_change := b13, g_crc_change := PySem.W.mg_of X G a13, F_with_bits_changed := F14, b_with_bits_changed := b14, g_with_bits_changed := PySem.W.mg_of X G a14, F_with_bits_cleared := F15, b_with_bits_cleared := b15, g_with_bits_cleared := PySem.W.mg_of X G a15, F_check_unknown := F16, b_check_unknown := b16, g_check_unknown := PySem.W.mg_of X G a16, F_reduced := F17, b_reduced := b17, g_reduced := PySem.W.mg_of X G a17, F_solved := F18, b_solved := b18, g_solved := PySem.W.mg_of X G a18, F_solution := F19, b_solution := b19, g_solution := PySem.W.mg_of X G a19, F_law_pool := F20, b_law_pool := b20, g_law_pool := PySem.W.mg_of X G a20, F_law_spread := F21, b_law_spread := b21, g_law_spread := PySem.W.mg_of X G a21, F_law_draw := F22, b_law_draw := b22, g_law_draw := PySem.W.mg_of X G a22, F_law_same := F23, b_law_same := b23, g_law_same := PySem.W.mg_of X G a23, F_law := F24, b_law := b24, g_law := PySem.W.mg_of X G a24, z_all := PySem.W.mg_none_of X G z_all, z_bool := PySem.W.mg_none_of X G z_bool, z_enumerate := PySem.W.mg_none_of X G z_enumerate, z_int := PySem.W.mg_none_of X G z_int, z_isinstance := PySem.W.mg_none_of X G z_isinstance, z_len := PySem.W.mg_none_of X G z_len, z_list := PySem.W.mg_none_of X G z_list, z_max := PySem.W.mg_none_of X G z_max, z_range := PySem.W.mg_none_of X G z_range, z_str := PySem.W.mg_none_of X G z_str, z_tuple := PySem.W.mg_none_of X G z_tuple, z_zip := PySem.W.mg_none_of X G z_zip, c_LEAST_LENGTH := PySem.W.mg_of X G cn_LEAST_LENGTH, r_LEAST_LENGTH := rl_LEAST_LENGTH, c_GREATEST_LENGTH := PySem.W.mg_of X G cn_GREATEST_LENGTH, r_GREATEST_LENGTH := rl_GREATEST_LENGTH, c_MOST_UNKNOWN := PySem.W.mg_of X G cn_MOST_UNKNOWN, r_MOST_UNKNOWN := rl_MOST_UNKNOWN, c_POLYNOMIAL := PySem.W.mg_of X G cn_POLYNOMIAL, r_POLYNOMIAL := rl_POLYNOMIAL, c_PERIOD := PySem.W.mg_of X G cn_PERIOD, r_PERIOD := rl_PERIOD, x_InvalidUnknowns := ⟨PySem.W.mg_of X G a_InvalidUnknowns, x_InvalidUnknowns, k_InvalidUnknowns, b_InvalidUnknowns, t_InvalidUnknowns, exm_selfD b_InvalidUnknowns i_InvalidUnknowns t_InvalidUnknowns s_InvalidUnknowns⟩, x_InvalidDump := ⟨PySem.W.mg_of X G a_InvalidDump, x_InvalidDump, k_InvalidDump, b_InvalidDump, t_InvalidDump, exm_selfD b_InvalidDump i_InvalidDump t_InvalidDump s_InvalidDump⟩ }
  exact ⟨_, fun s v => .of_eq rfl, fun base _ _ => ok_law T⟩
end K71
open PySem PySem.W PyProof.Rows
set_option maxRecDepth 100000 in
set_option maxHeartbeats 0 in
theorem PySem.Challenge.cw_discwright_k71_whole_votes_give_the_true_holds : PySem.Challenge.rw_discwright_k71_whole_votes_give_the_true.Holds := by
  w_on; o_law; k_head; (case hw => w_witness2)
  k_fill
  refine L2.walk_of (l := PySem.Challenge.rw_discwright_k71_whole_votes_give_the_true) (n := 63) (k := 11) (x := "script") (CX := fun _ => L2.CX0) (sp := fun w => K71.spLaw _) rfl (by decide) rfl ⟨rfl, by decide, by decide⟩ (fun w h Y => PySem.W.kIn_of Y) ?F (fun _ _ a ns hl _ hS => ⟨a, ns, rfl, hS, hl, fun _ => rfl⟩) (fun _ _ _ _ _ h => h)
  case F =>
    intro w mg fa h KX G hmg
    refine' K71.all_mk KX G hmg ?cn_LEAST_LENGTH ?rl_LEAST_LENGTH ?cn_GREATEST_LENGTH ?rl_GREATEST_LENGTH ?cn_MOST_UNKNOWN ?rl_MOST_UNKNOWN ?cn_POLYNOMIAL ?rl_POLYNOMIAL ?cn_PERIOD ?rl_PERIOD ?a1 ?l1 ?c1 ?k1 ?a2 ?l2 ?c2 ?k2 ?a3 ?l3 ?c3 ?k3 ?a4 ?l4 ?c4 ?k4 ?a5 ?l5 ?c5 ?k5 ?a6 ?l6 ?c6 ?k6 ?a7 ?l7 ?c7 ?k7 ?a8 ?l8 ?c8 ?k8 ?a9 ?l9 ?c9 ?k9 ?a10 ?l10 ?c10 ?k10 ?a11 ?l11 ?c11 ?k11 ?a12 ?l12 ?c12 ?k12 ?a13 ?l13 ?c13 ?k13 ?a14 ?l14 ?c14 ?k14 ?a15 ?l15 ?c15 ?k15 ?a16 ?l16 ?c16 ?k16 ?a17 ?l17 ?c17 ?k17 ?a18 ?l18 ?c18 ?k18 ?a19 ?l19 ?c19 ?k19 ?a20 ?l20 ?c20 ?k20 ?a21 ?l21 ?c21 ?k21 ?a22 ?l22 ?c22 ?k22 ?a23 ?l23 ?c23 ?k23 ?a24 ?l24 ?c24 ?k24 ?z_all ?z_bool ?z_enumerate ?z_int ?z_isinstance ?z_len ?z_list ?z_max ?z_range ?z_str ?z_tuple ?z_zip ?a_InvalidUnknowns ?x_InvalidUnknowns ?k_InvalidUnknowns ?b_InvalidUnknowns ?t_InvalidUnknowns ?i_InvalidUnknowns ?s_InvalidUnknowns ?a_InvalidDump ?x_InvalidDump ?k_InvalidDump ?b_InvalidDump ?t_InvalidDump ?i_InvalidDump ?s_InvalidDump
    (case cn_LEAST_LENGTH => k_is)
    (case rl_LEAST_LENGTH => first | exact ⟨_, rfl⟩ | rfl)
    (case cn_GREATEST_LENGTH => k_is)
    (case rl_GREATEST_LENGTH => first | exact ⟨_, rfl⟩ | rfl)
    (case cn_MOST_UNKNOWN => k_is)
    (case rl_MOST_UNKNOWN => first | exact ⟨_, rfl⟩ | rfl)
    (case cn_POLYNOMIAL => k_is)
    (case rl_POLYNOMIAL => first | exact ⟨_, rfl⟩ | rfl)
    (case cn_PERIOD => k_is)
    (case rl_PERIOD => first | exact ⟨_, rfl⟩ | rfl)
    (case a1 => k_is)
    (case l1 => k_is)
    (case c1 => k_is)
    (case k1 => k_is)
    (case a2 => k_is)
    (case l2 => k_is)
    (case c2 => k_is)
    (case k2 => k_is)
    (case a3 => k_is)
    (case l3 => k_is)
    (case c3 => k_is)
    (case k3 => k_is)
    (case a4 => k_is)
    (case l4 => k_is)
    (case c4 => k_is)
    (case k4 => k_is)
    (case a5 => k_is)
    (case l5 => k_is)
    (case c5 => k_is)
    (case k5 => k_is)
    (case a6 => k_is)
    (case l6 => k_is)
    (case c6 => k_is)
    (case k6 => k_is)
    (case a7 => k_is)
    (case l7 => k_is)
    (case c7 => k_is)
    (case k7 => k_is)
    (case a8 => k_is)
    (case l8 => k_is)
    (case c8 => k_is)
    (case k8 => k_is)
    (case a9 => k_is)
    (case l9 => k_is)
    (case c9 => k_is)
    (case k9 => k_is)
    (case a10 => k_is)
    (case l10 => k_is)
    (case c10 => k_is)
    (case k10 => k_is)
    (case a11 => k_is)
    (case l11 => k_is)
    (case c11 => k_is)
    (case k11 => k_is)
    (case a12 => k_is)
    (case l12 => k_is)
    (case c12 => k_is)
    (case k12 => k_is)
    (case a13 => k_is)
    (case l13 => k_is)
    (case c13 => k_is)
    (case k13 => k_is)
    (case a14 => k_is)
    (case l14 => k_is)
    (case c14 => k_is)
    (case k14 => k_is)
    (case a15 => k_is)
    (case l15 => k_is)
    (case c15 => k_is)
    (case k15 => k_is)
    (case a16 => k_is)
    (case l16 => k_is)
    (case c16 => k_is)
    (case k16 => k_is)
    (case a17 => k_is)
    (case l17 => k_is)
    (case c17 => k_is)
    (case k17 => k_is)
    (case a18 => k_is)
    (case l18 => k_is)
    (case c18 => k_is)
    (case k18 => k_is)
    (case a19 => k_is)
    (case l19 => k_is)
    (case c19 => k_is)
    (case k19 => k_is)
    (case a20 => k_is)
    (case l20 => k_is)
    (case c20 => k_is)
    (case k20 => k_is)
    (case a21 => k_is)
    (case l21 => k_is)
    (case c21 => k_is)
    (case k21 => k_is)
    (case a22 => k_is)
    (case l22 => k_is)
    (case c22 => k_is)
    (case k22 => k_is)
    (case a23 => k_is)
    (case l23 => k_is)
    (case c23 => k_is)
    (case k23 => k_is)
    (case a24 => k_is)
    (case l24 => k_is)
    (case c24 => k_is)
    (case k24 => k_is)
    (case z_all => k_is)
    (case z_bool => k_is)
    (case z_enumerate => k_is)
    (case z_int => k_is)
    (case z_isinstance => k_is)
    (case z_len => k_is)
    (case z_list => k_is)
    (case z_max => k_is)
    (case z_range => k_is)
    (case z_str => k_is)
    (case z_tuple => k_is)
    (case z_zip => k_is)
    (case a_InvalidUnknowns => k_is)
    (case x_InvalidUnknowns => k_exc)
    (case k_InvalidUnknowns => k_is)
    (case b_InvalidUnknowns => k_is)
    (case t_InvalidUnknowns => k_is)
    (case i_InvalidUnknowns => k_is)
    (case s_InvalidUnknowns => first | rfl | k_is)
    (case a_InvalidDump => k_is)
    (case x_InvalidDump => k_exc)
    (case k_InvalidDump => k_is)
    (case b_InvalidDump => k_is)
    (case t_InvalidDump => k_is)
    (case i_InvalidDump => k_is)
    (case s_InvalidDump => first | rfl | k_is)

