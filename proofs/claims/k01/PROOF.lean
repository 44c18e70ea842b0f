import PyProof.Rows.All
import Wide.All
import OpenK.AllK
import Wide.FinOn
import HandS.Base
import HandS.Call
import HandS.List
import HandS.Comp
import HandS.Iter
import HandS.Dict
import HandS.Text
import HandS.Ends
import HandS.Words
import HandS.WordsList
import HandS.Wide
import HandS.Defaults
import HandS.Zip
import KE.DataEq
import HandS.Walk
import HandS.IsInst
import HandS.Codes
import PySem.Challenge.RW_feeblind_k01_names_and_numbers_judged
set_option Elab.async false
set_option linter.all false
set_option maxRecDepth 100000
set_option maxHeartbeats 4000000
/-! Rules that serve several kinds at once, and the bag of draws. -/
namespace Fb
open PySem PySem.Spec L2
open PyProof.Rows hiding St

/-! ### heaps that only grow -/
theorem grow {H : Hp} {p : Addr} {o : HO} (h : H p = none) : Same H (upd H p o) := by
  intro b u e
  rw [upd_ne (ne_of_none e h)]
  exact e
theorem upd_self {H : Hp} {p : Addr} {o : HO} (h : H p = some o) : upd H p o = H := by
  funext b
  unfold upd
  by_cases e : b = p
  · rw [if_pos e, e, h]
  · rw [if_neg e]
theorem same_tup {K : PySem.W.Frag} {H H' : Hp} {a : Addr} {xs : List V} (e : Same H H') (h : SqT K H a xs) : SqT K H' a xs := by
  rcases h with (h | ⟨o, h⟩) | h
  · exact Or.inl (Or.inl (e _ _ h))
  · exact Or.inl (Or.inr ⟨o, e _ _ h⟩)
  · exact Or.inr h

/-! ### == of data of any depth below sixty, whatever signs its texts have -/
mutual
theorem dp_plain {K : PySem.W.Frag} {H : Hp} : ∀ (d : PyData) {v : V}, Dp K H v d → d.plain = true
  | .none, _, _ => rfl
  | .bool _, _, _ => rfl
  | .int _, _, _ => rfl
  | .str _, _, _ => rfl
  | .list ds, _, h => by
    cases h with
    | lst _ a => exact dpAll_plain ds a
  | .tuple ds, _, h => by
    cases h with
    | tup _ a => exact dpAll_plain ds a
  | .dict _, _, h => by cases h
theorem dpAll_plain {K : PySem.W.Frag} {H : Hp} : ∀ (ds : List PyData) {vs : List V}, DpAll K H vs ds → PyData.plainAll ds = true
  | [], _, _ => rfl
  | d :: ds, _, h => by
    cases h with
    | cons a b =>
      have h1 := dp_plain d a
      have h2 := dpAll_plain ds b
      simp only [PyData.plainAll, h1, h2, Bool.and_self]
end
def rEqP (K : PySem.W.Frag) : R2 := fun x y H Q => ∃ d e, Dp K H x d ∧ Dp K H y e ∧ min d.depth e.depth ≤ 60 ∧ Q (.bl (PyData.eqv d e)) H
def rNeP (K : PySem.W.Frag) : R2 := fun x y H Q => ∃ d e, Dp K H x d ∧ Dp K H y e ∧ min d.depth e.depth ≤ 60 ∧ Q (.bl (!PyData.eqv d e)) H
section
variable {X : Cx} {k : Nat}
theorem op_eqP (hr : Room k X.A) : OpR X (compareOp .Eq) (rEqP X.K) := by
  rintro pins s σ H x y v u Q I rx ry ⟨d, e, hd, he, hl, q⟩
  obtain ⟨as, r1⟩ := Dp.reads I d x v hd rx
  obtain ⟨bs, r2⟩ := Dp.reads I e y u he ry
  have hu := hr.units
  exact SeqAt.eq_plain r1 r2 (dp_plain d hd) (dp_plain e he) (by omega) ⟨.bl _, H, I, rfl, q⟩
theorem op_neP (hr : Room k X.A) : OpR X (compareOp .NotEq) (rNeP X.K) := by
  rintro pins s σ H x y v u Q I rx ry ⟨d, e, hd, he, hl, q⟩
  obtain ⟨as, r1⟩ := Dp.reads I d x v hd rx
  obtain ⟨bs, r2⟩ := Dp.reads I e y u he ry
  have hu := hr.units
  exact SeqAt.ne_plain r1 r2 (dp_plain d hd) (dp_plain e he) (by omega) ⟨.bl _, H, I, rfl, q⟩
end

/-! ### rules for several kinds -/
def rAddStr : R2 := fun x y H Q => ∃ i j, x = .str i ∧ y = .str j ∧ i.length + j.length ≤ sizeLine ∧ Q (.str (i ++ j)) H
def rAddU : R2 := fun x y H Q => rI0 (fun i j => .int (i + j)) x y H Q ∨ rAddStr x y H Q ∨ rCat x y H Q
def rLeStr : R2 := fun x y H Q => ∃ i j, x = .str i ∧ y = .str j ∧ Q (.bl (!decide (j.cps.toList < i.cps.toList))) H
def rLeU : R2 := fun x y H Q => rI0 (fun i j => .bl (decide (i ≤ j))) x y H Q ∨ rLeStr x y H Q
def rLtStr : R2 := fun x y H Q => ∃ i j, x = .str i ∧ y = .str j ∧ Q (.bl (decide (i.cps.toList < j.cps.toList))) H
def rLtU (K : PySem.W.Frag) : R2 := fun x y H Q => rI0 (fun i j => .bl (decide (i < j))) x y H Q ∨ rLtStr x y H Q ∨ rLtT K x y H Q
def rEqU (K : PySem.W.Frag) : R2 := fun x y H Q => rEq x y H Q ∨ rEqP K x y H Q
def rNeU (K : PySem.W.Frag) : R2 := fun x y H Q => rNe x y H Q ∨ rNeP K x y H Q
def rLenSeq (K : PySem.W.Frag) : List V → Hp → VK → Prop := fun xs H Q => ∃ p ys, xs = [.ref p] ∧ (SqL K H p ys ∨ SqT K H p ys) ∧ Q (.int ys.length) H
def rLenStr : List V → Hp → VK → Prop := fun xs H Q => ∃ z, xs = [.str z] ∧ z.length ≤ sizeLine ∧ Q (.int z.length) H
def rLenDic : List V → Hp → VK → Prop := fun xs H Q => ∃ a kvs, xs = [V.ref a] ∧ H a = some (.dK kvs) ∧ Q (.int kvs.length) H
def rLenU (K : PySem.W.Frag) : List V → Hp → VK → Prop := fun xs H Q => rLenSeq K xs H Q ∨ rLenStr xs H Q
def rSlU (K : PySem.W.Frag) : V → Option Int → Option Int → Hp → VK → Prop := fun x lo hi H Q => rSlL K x lo hi H Q ∨ rSlS x lo hi H Q
section
variable {X : Cx} {k : Nat}
theorem op_addU : OpR X (binaryOp .Add) rAddU := op_add.or (op_add_str.or op_cat)
theorem op_leU : OpR X (compareOp .LtE) rLeU := op_le.or op_le_str
theorem op_geU : OpR X (compareOp .GtE) (rI0 fun i j => .bl (decide (j ≤ i))) := op_ge
theorem op_gtU : OpR X (compareOp .Gt) (rI0 fun i j => .bl (decide (j < i))) := op_gt
theorem op_ltU (hr : Room k X.A) : OpR X (compareOp .Lt) (rLtU X.K) := op_lt.or (op_lt_str.or (op_ltT hr.units0))
theorem op_eqU (hr : Room k X.A) : OpR X (compareOp .Eq) (rEqU X.K) := op_eq.or (op_eqP hr)
theorem op_neU (hr : Room k X.A) : OpR X (compareOp .NotEq) (rNeU X.K) := op_ne.or (op_neP hr)
theorem call_lenU : CallR X (.builtin "len") (rLenU X.K) := call_len_seq.or call_len_str
theorem sl_U : SlR X (rSlU X.K) := sl_list.or sl_str
end

/-! ### what a for walks, whatever it is: a list, a tuple, a text -/
def iAny (K : PySem.W.Frag) (tl : TE) : TI := fun σ H R => tl σ H fun x H1 =>
  (∃ a, x = .ref a ∧ (∃ xs, SqL K H1 a xs) ∧ R (Itl K a) H1) ∨ (∃ a, x = .ref a ∧ (∃ xs, SqT K H1 a xs) ∧ R (Itt K a) H1) ∨ (∃ z, x = .str z ∧ R (Its z) H1)
theorem pi_any {X : Cx} {tg l : Expr} {tl : TE} (hl : PE X l tl) : PI X tg l (iAny X.K tl) := by
  constructor
  intro pins s σ H R I h
  refine thn (hl.run pins s σ H _ I h) ?_
  rintro v s1 ⟨x, H1, I1, r1, q1⟩
  rcases q1 with ⟨a, e, ⟨xs, hq⟩, q⟩ | ⟨a, e, ⟨xs, hq⟩, q⟩ | ⟨z, e, q⟩
  all_goals subst e
  · cases r1
    obtain ⟨its, rv, p, hz⟩ := I1.list hq
    exact wpAny_pyIter_list p.isList (pi_one (tk := s1.toks) I1 _ (turn_list a _) ⟨_, Heap.get?_push_size _ rfl, rfl, rfl⟩ q)
  · cases r1
    obtain ⟨its, rv, p, hz⟩ := I1.tuple hq
    exact wpAny_pyIter_tuple (show s1.heap.IsTuple a its.toArray from p) (pi_one (tk := s1.toks) I1 _ (turn_tuple a _) ⟨_, Heap.get?_push_size _ rfl, rfl, rfl⟩ q)
  · obtain ⟨t, rfl⟩ := r1
    cases ha : z.cps.all (· < 128) with
    | false => exact wpAny_pyIter_wide ha (pi_one (tk := s1.toks) I1 _ (turn_str _ z t "str_iterator" (.inr rfl)) ⟨_, Heap.get?_push_size _ rfl, rfl, rfl⟩ q)
    | true => exact wpAny_pyIter_ascii ha (pi_one (tk := s1.toks) I1 _ (turn_str _ z t "str_ascii_iterator" (.inl rfl)) ⟨_, Heap.get?_push_size _ rfl, rfl, rfl⟩ q)

/-! ### an object tracked otherwise than before -/
theorem retrack {X : Cx} {pins : List (Addr × Obj)} {σ : St} {H : Hp} {s : Shared} {p : Addr} {o : HO} (I : Inv X pins σ H s) (mu : Mut (H p)) (there : ∃ u, s.heap.get? p = some u) (new : ObjOk X.prog X.w (upd H p o) s.heap p o) : Inv X pins σ (upd H p o) s :=
  I.write (h' := s.heap) (t' := s.toks) mu (.inl rfl) (fun _ _ _ e => e) there new

/-! ### the bag of draws: a list [the script's ints, how many are used, what is left of one, a stir, a count] -/
def bagL (q : Addr) (i c st t : Int) : List V := [.ref q, .int i, .int c, .int st, .int t]
def BagOk (i st : Int) : Prop := 0 ≤ i ∧ 0 ≤ st ∧ st < 2147483629
def bagO (q p : Addr) : HO := .ext fun h => ∃ (i c st t : Int) (its : List Value) (n : Nat), BagOk i st ∧ Vals (bagL q i c st t) its ∧ h.get? p = some { cls := .type "list", data := .seq its.toArray n }
theorem bag_shut {P : Program} {w : World} {H : Hp} {h : Heap} {q p : Addr} {i c st t : Int} (b : BagOk i st) (x : ObjOk P w H h p (.lst (bagL q i c st t))) : ObjOk P w H h p (bagO q p) := by
  obtain ⟨_, its, n, v, e⟩ := x
  refine ⟨⟨i, c, st, t, its, n, b, v, e⟩, ⟨_, e⟩, ?_⟩
  rintro h1 h2 ⟨i, c, st, t, its, n, b, v, e⟩ k
  exact ⟨i, c, st, t, its, n, b, v, k _ e⟩
theorem bag_opened {P : Program} {w : World} {H : Hp} {h : Heap} {q p : Addr} (x : ObjOk P w H h p (bagO q p)) : ∃ i c st t, BagOk i st ∧ ∀ H' : Hp, ObjOk P w H' h p (.lst (bagL q i c st t)) := by
  obtain ⟨⟨i, c, st, t, its, n, b, v, e⟩, _⟩ := x
  exact ⟨i, c, st, t, b, fun _ => ⟨by show 5 ≤ sizeLine; decide, its, n, v, e⟩⟩
/-- the bag at p stands as a list meanwhile -/
def shutAt (q p : Addr) (F : Hp → Prop) (H : Hp) : Prop := ∃ i c st t, BagOk i st ∧ H p = some (.lst (bagL q i c st t)) ∧ F (upd H p (bagO q p))
def tBag (t : TS) : TS := fun D σ H => ∃ p q, H p = some (bagO q p) ∧ ∀ i c st tt, BagOk i st →
  t ⟨fun σ' => shutAt q p (D.nx σ'), fun v => shutAt q p (D.rt v), fun σ' => shutAt q p (D.bk σ'), fun σ' => shutAt q p (D.ct σ')⟩ σ (upd H p (.lst (bagL q i c st tt)))
theorem shut {X : Cx} {pins : List (Addr × Obj)} {σ : St} {H : Hp} {s : Shared} {q p : Addr} {F : Hp → Prop} (I : Inv X pins σ H s) (h : shutAt q p F H) : ∃ H', Inv X pins σ H' s ∧ F H' := by
  obtain ⟨i, c, st, t, b, e, f⟩ := h
  have old := I.hok _ _ e
  obtain ⟨l, its, n, v, g⟩ := old
  exact ⟨_, retrack I (by rw [e]; trivial) ⟨_, g⟩ (bag_shut (H := upd H p (bagO q p)) b ⟨l, its, n, v, g⟩), f⟩
theorem pss_bag {X : Cx} {sts : List Stmt} {t : TS} (h : PSs X sts t) : PSs X sts (tBag t) := by
  constructor
  intro pins s σ H D I hw
  obtain ⟨p, q, hp, hw⟩ := hw
  obtain ⟨i, c, st, tt, b, ok⟩ := bag_opened (I.hok _ _ hp)
  have I1 := retrack (p := p) I (by rw [hp]; trivial) (I.hok _ _ hp).2.1 (ok _)
  refine thn (h.run pins s σ _ _ I1 (hw i c st tt b)) ?_
  intro f s1 r
  cases f with
  | next => obtain ⟨σ', H', I2, e⟩ := r; obtain ⟨H2, I3, f⟩ := shut I2 e; exact ⟨σ', H2, I3, f⟩
  | brk => obtain ⟨σ', H', I2, e⟩ := r; obtain ⟨H2, I3, f⟩ := shut I2 e; exact ⟨σ', H2, I3, f⟩
  | cont => obtain ⟨σ', H', I2, e⟩ := r; obtain ⟨H2, I3, f⟩ := shut I2 e; exact ⟨σ', H2, I3, f⟩
  | ret v => obtain ⟨x, σ', H', I2, rv, e⟩ := r; obtain ⟨H2, I3, f⟩ := shut I2 e; exact ⟨x, σ', H2, I3, rv, f⟩
/-- a list that is handed back becomes a bag -/
def tBagNew (t : TS) : TS := fun D σ H => t { D with rt := fun v H' => ∃ p q, v = .ref p ∧ shutAt q p (D.rt v) H' } σ H
theorem pss_bagNew {X : Cx} {sts : List Stmt} {t : TS} (h : PSs X sts t) : PSs X sts (tBagNew t) := by
  constructor
  intro pins s σ H D I hw
  refine thn (h.run pins s σ _ _ I hw) ?_
  intro f s1 r
  cases f with
  | next => exact r
  | brk => exact r
  | cont => exact r
  | ret v =>
    obtain ⟨x, σ', H', I2, rv, p, q, e, r⟩ := r
    obtain ⟨H2, I3, f⟩ := shut I2 r
    exact ⟨x, σ', H2, I3, rv, f⟩
end Fb

set_option Elab.async false
set_option linter.all false
set_option maxRecDepth 100000
set_option maxHeartbeats 4000000
namespace Fb
open PySem PySem.Spec L2
open PyProof.Rows hiding St
open C8 (Cal Met Mak Def cal0 met0 mak0 pe_c pe_mk pe_mt pe_mt0 fnScope fnBody fnArgs)

/-! ### isinstance of a built-in class, of a tuple of them -/
def anyB (a : String) : List String → Option Bool
  | [] => some false
  | b :: r => match kitB a b with
    | some true => some true
    | some false => anyB a r
    | none => none
theorem kit_any {K : PySem.W.Frag} {a : String} : ∀ {ns : List String} {b : Bool}, anyB a ns = some b → PySem.W.kitAny K (.type a) (ns.map Value.type) = some b
  | [], b, h => h
  | n :: r, b, h => by
    have ih := @kit_any K a r b
    unfold anyB at h
    rw [List.map_cons]
    unfold PySem.W.kitAny
    cases e : kitB a n with
    | none =>
      rw [e] at h
      cases h
    | some c =>
      rw [e] at h
      rw [kit_ty (K := K) e]
      cases c with
      | true => exact h
      | false => exact ih h
theorem clsAll : ∀ ns : List String, Paired ClsV (ns.map V.ty) (ns.map Value.type)
  | [] => .nil
  | n :: r => .cons (.ty n) (clsAll r)
def rIs1 (K : PySem.W.Frag) : List V → Hp → VK → Prop := fun xs H Q => ∃ (x : V) (n t : String) (b : Bool), xs = [x, .ty n] ∧ TyX K H x (.type t) ∧ kitB t n = some b ∧ Q (.bl b) H
def rIsN (K : PySem.W.Frag) : List V → Hp → VK → Prop := fun xs H Q => ∃ (x : V) (tp : Addr) (ns : List String) (t : String) (b : Bool), xs = [x, .ref tp] ∧ H tp = some (.tup (ns.map V.ty)) ∧ TyX K H x (.type t) ∧ anyB t ns = some b ∧ Q (.bl b) H
def rIsiU (K : PySem.W.Frag) : List V → Hp → VK → Prop := fun xs H Q => rIs1 K xs H Q ∨ rIsN K xs H Q
theorem CallR.imp {X : Cx} {f : Value} {r r' : List V → Hp → VK → Prop} (h : CallR X f r) (i : ∀ xs H Q, r' xs H Q → r xs H Q) : CallR X f r' :=
  fun pins s σ H xs us Q I rv q => h pins s σ H xs us Q I rv (i _ _ _ q)
theorem call_isiU {X : Cx} : CallR X (.builtin "isinstance") (rIsiU X.K) := by
  refine CallR.imp (call_isi.or call_isiT) fun xs H Q h => ?_
  rcases h with ⟨x, n, t, b, e, ty, kb, q⟩ | ⟨x, tp, ns, t, b, e, ht, ty, kb, q⟩
  · exact .inl ⟨x, _, _, _, b, e, .ty n, ty, kit_ty kb, q⟩
  · exact .inr ⟨x, tp, _, _, _, b, e, ht, clsAll ns, ty, kit_any kb, q⟩

/-! ### in, not in: a sign in a text, a flat value in a list or tuple -/
def rInSign (f : Bool → Bool) : R2 := fun x y H Q => ∃ (c : Nat) (z : Str), x = .str ⟨#[c]⟩ ∧ y = .str z ∧ Q (.bl (f (decide (c ∈ z.cps.toList)))) H
def rInU (K : PySem.W.Frag) : R2 := fun x y H Q => rInSign (fun b => b) x y H Q ∨ rIn K false x y H Q
def rNotInU (K : PySem.W.Frag) : R2 := fun x y H Q => rInSign (fun b => !b) x y H Q ∨ rIn K true x y H Q

/-! ### the same rules with the written part named (within a comprehension it must not lean on the block) -/
def rListOf (K : PySem.W.Frag) : List V → Hp → VK → Prop := fun xs H Q => ∃ p ys, xs = [.ref p] ∧ (SqL K H p ys ∨ SqT K H p ys) ∧ ∀ l, H l = none → Q (.ref l) (upd H l (.lst ys))
def rTupleOf (K : PySem.W.Frag) : List V → Hp → VK → Prop := fun xs H Q => ∃ p ys, xs = [.ref p] ∧ ((SqL K H p ys ∧ ∀ l, H l = none → Q (.ref l) (upd H l (.tup ys))) ∨ (SqT K H p ys ∧ Q (.ref p) H))
section
variable {X : Cx} {K : PySem.W.Frag} {k : Nat} (e : X.K = K)
include e
theorem ix_K : IxR X (rIx K) := e ▸ ix_seq
theorem eq_K (hr : Room k X.A) : OpR X (compareOp .Eq) (rEqU K) := e ▸ op_eqU hr
theorem ne_K (hr : Room k X.A) : OpR X (compareOp .NotEq) (rNeU K) := e ▸ op_neU hr
theorem lt_K (hr : Room k X.A) : OpR X (compareOp .Lt) (rLtU K) := e ▸ op_ltU hr
theorem in_K : OpR X (compareOp .In) (rInU K) := e ▸ op_in_sign.or op_in_seq
theorem notIn_K : OpR X (compareOp .NotIn) (rNotInU K) := e ▸ op_notIn_sign.or op_notIn_seq
theorem len_K : CallR X (.builtin "len") (rLenU K) := e ▸ call_lenU
theorem all_K (hc : X.calm = true) : CallR X (.builtin "all") (rAll K) := e ▸ cr_all hc
theorem any_K (hc : X.calm = true) : CallR X (.builtin "any") (rAny K) := e ▸ cr_any hc
theorem sl_K : SlR X (rSlU K) := e ▸ sl_U
theorem listOf_K : CallR X (.type "list") (rListOf K) := e ▸ call_list_of
theorem tupleOf_K : CallR X (.type "tuple") (rTupleOf K) := e ▸ call_tuple_of
theorem tup_K {es : List Expr} {kk n : Nat} {t : TGs} {pos : Pos} (hc : X.calm = true) (h : PGs X es t)
    (hn : (assignEach es X.env).length = n := by rfl) (hst : (assignEach es X.env).findIdx? (·.1) = none := by rfl) :
    PG X (.Tuple es kk pos) (gTup K n t) := e ▸ pg_tup hc h hn hst
theorem pi_K {tg l : Expr} {tl : TE} (hl : PE X l tl) : PI X tg l (iAny K tl) := e ▸ pi_any hl
theorem zip_K {e1 e2 : Expr} {ta : TA} {p pos tpos : Pos} {elts : List Expr} {kk : Nat} (hg : Gl X "zip") (hm : X.mg "zip" = none) (ha : PA X [e1, e2] ta)
    (hs : starEach [e1, e2] X.env = (false, eval e1 X.env) :: starEach [e2] X.env := by rfl) (hpl : (backTo pos (starEach [e2] X.env)).any (·.1) = false := by rfl) :
    PI X (.Tuple elts kk tpos) (.Call (.Name "zip" p) [e1, e2] [] pos) (RZ.iZipA K ta) := e ▸ RZ.pi_zipA hg hm ha hs hpl
end

/-! ### a value of any kind: what is known of it -/
def AnyV (K : PySem.W.Frag) (H : Hp) (v : V) : Prop :=
  v = .non ∨ (∃ b, v = .bl b) ∨ (∃ i, v = .int i) ∨ (∃ z : Str, v = .str z ∧ z.length ≤ 100000) ∨ (∃ a xs, v = .ref a ∧ H a = some (.lst xs)) ∨ (∃ a xs, v = .ref a ∧ H a = some (.tup xs)) ∨ ∃ a kvs, v = .ref a ∧ H a = some (.dK kvs)
theorem AnyV.mono {K : PySem.W.Frag} {H H' : Hp} {v : V} (h : AnyV K H v) (e : Same H H') : AnyV K H' v := by
  rcases h with h | h | h | h | ⟨a, xs, h, g⟩ | ⟨a, xs, h, g⟩ | ⟨a, xs, h, g⟩
  · exact .inl h
  · exact .inr (.inl h)
  · exact .inr (.inr (.inl h))
  · exact .inr (.inr (.inr (.inl h)))
  · exact .inr (.inr (.inr (.inr (.inl ⟨a, xs, h, e _ _ g⟩))))
  · exact .inr (.inr (.inr (.inr (.inr (.inl ⟨a, xs, h, e _ _ g⟩)))))
  · exact .inr (.inr (.inr (.inr (.inr (.inr ⟨a, xs, h, e _ _ g⟩)))))
theorem any_non {K : PySem.W.Frag} {H : Hp} : AnyV K H .non := .inl rfl
theorem any_bl {K : PySem.W.Frag} {H : Hp} (b : Bool) : AnyV K H (.bl b) := .inr (.inl ⟨b, rfl⟩)
theorem any_int {K : PySem.W.Frag} {H : Hp} (i : Int) : AnyV K H (.int i) := .inr (.inr (.inl ⟨i, rfl⟩))
theorem any_str {K : PySem.W.Frag} {H : Hp} {z : Str} (h : z.length ≤ 100000) : AnyV K H (.str z) := .inr (.inr (.inr (.inl ⟨z, rfl, h⟩)))
theorem any_lst {K : PySem.W.Frag} {H : Hp} {a : Addr} {xs : List V} (h : H a = some (.lst xs)) : AnyV K H (.ref a) := .inr (.inr (.inr (.inr (.inl ⟨a, xs, rfl, h⟩))))
theorem any_tup {K : PySem.W.Frag} {H : Hp} {a : Addr} {xs : List V} (h : H a = some (.tup xs)) : AnyV K H (.ref a) := .inr (.inr (.inr (.inr (.inr (.inl ⟨a, xs, rfl, h⟩)))))
theorem any_dic {K : PySem.W.Frag} {H : Hp} {a : Addr} {xs : List (Key × V)} (h : H a = some (.dK xs)) : AnyV K H (.ref a) := .inr (.inr (.inr (.inr (.inr (.inr ⟨a, xs, rfl, h⟩)))))
/-- its type's name -/
def tyName (H : Hp) : V → String
  | .non => "NoneType"
  | .bl _ => "bool"
  | .int _ => "int"
  | .str _ => "str"
  | .ref a => match H a with
    | some (.lst _) => "list"
    | some (.tup _) => "tuple"
    | _ => "dict"
  | _ => "dict"
theorem AnyV.ty {K : PySem.W.Frag} {H : Hp} {v : V} (h : AnyV K H v) : TyX K H v (.type (tyName H v)) := by
  rcases h with h | ⟨b, h⟩ | ⟨i, h⟩ | ⟨z, h, _⟩ | ⟨a, xs, h, g⟩ | ⟨a, xs, h, g⟩ | ⟨a, xs, h, g⟩
  all_goals subst h
  · exact .base .non
  · exact .base (.bl b)
  · exact .base (.int i)
  · exact .base (.str z)
  · simp only [tyName, g]; exact .base (.lst g)
  · simp only [tyName, g]; exact .base (.tup g)
  · simp only [tyName, g]; exact .base (.dK g)

theorem isi_K {X : Cx} {K : PySem.W.Frag} (e : X.K = K) : CallR X (.builtin "isinstance") (rIsiU K) := e ▸ call_isiU

/-! ### calls with keywords, of defs with defaults -/
section
variable {X : Cx} {CX : CXT} {k n : Nat} {f : Addr} {fd : FuncData} {ps ks : List Str} {sp : Sp} {E : XK} {x : Str} {p pos : Pos} {kws : List Keyword} {tk : TA} {g : List Value → List Value → List Value} {gV : List V → List V → List V}
theorem pe_callN0 (F : FnOk X.prog X.w X.K X.mg X.base CX k f fd ps sp) (hr : Room k X.A) (hg : Gl X x) (hm : X.mg x = some (.ref f)) (hk : PySem.W.keepIn X.K (.ref f) = true) (hb : KBn X.K fd ps 0 ks g gV) (hx : Passes CX X E)
    (hkw : PK X kws tk) (hall : (backToKw pos (keywordEach kws X.env)).all (·.1.isSome) = true := by rfl) (hks : (backToKw pos (keywordEach kws X.env)).filterMap (·.1) = ks := by rfl)
    (hdb : (x == ("__debug__" : Str)) = false := by decide)
    (hpl : ((backTo pos (starEach [] X.env)).any (·.1) || (backToKw pos (keywordEach kws X.env)).any (·.1.isNone)) = false := by rfl) :
    PE X (.Call (.Name x p) [] kws pos) (tCallN 0 ks.length sp gV E tNil tk) := by
  constructor
  intro pins s σ H Q I h
  refine wpAny_Call_Name_kw (ld_glob I hg hm ?_ hdb)
  refine PySem.W.callWith_KW0 (h₀ := X.base) I.ok.mod.kin hk hall (thn (hkw.run pos pins s σ H _ I h) ?_) hpl
  rintro ws s2 ⟨zs, H2, I2, rz, l1, l2, q2⟩
  refine ⟨I2.kIn, ?_⟩
  rw [hks]
  exact run_fnN F hr hb hx I2 .nil rz rfl l2 q2
end
/-- a def that may be called with these keywords -/
structure CalK (P : Program) (w : World) (K : PySem.W.Frag) (mg : Str → Option Value) (base : Heap) (k : Nat) (x : Str) (sp : Sp) (n : Nat) (ks : List Str) (gV : List V → List V → List V) : Prop where
  ex : ∃ (f : Addr) (fd : FuncData) (ps : List Str) (g : List Value → List Value → List Value), FnOk P w K mg base C8.CX0 k f fd ps sp ∧
    mg x = some (.ref f) ∧ PySem.W.keepIn K (.ref f) = true ∧ KBn K fd ps n ks g gV
section
variable {X : Cx} {k j n : Nat} {x : Str} {sp : Sp} {ks : List Str} {gV : List V → List V → List V} {p pos : Pos} {e : Expr} {es : List Expr} {kws : List Keyword} {t tk : TA}
theorem pe_kw (c : CalK X.prog X.w X.K X.mg X.base k x sp n ks gV) (hr : Room j X.A) (hk : k ≤ j) (hg : Gl X x) (ha : PA X (e :: es) t) (hkw : PK X kws tk)
    (hall : (backToKw pos (keywordEach kws X.env)).all (·.1.isSome) = true := by rfl) (hks : (backToKw pos (keywordEach kws X.env)).filterMap (·.1) = ks := by rfl)
    (hdb : (x == ("__debug__" : Str)) = false := by decide) (he : starEach (e :: es) X.env = (false, eval e X.env) :: starEach es X.env := by rfl)
    (hpl : ((backTo pos (starEach (e :: es) X.env)).any (·.1) || (backToKw pos (keywordEach kws X.env)).any (·.1.isNone)) = false := by rfl) :
    PE X (.Call (.Name x p) (e :: es) kws pos) (tCallN n ks.length sp gV C8.E0 t tk) := by
  obtain ⟨f, fd, ps, g, F, hm, kp, b⟩ := c.ex
  exact pe_callN F (hr.mono hk) hg hm kp b C8.pass0 ha hkw hall hks hdb he hpl
theorem pe_kw0 (c : CalK X.prog X.w X.K X.mg X.base k x sp 0 ks gV) (hr : Room j X.A) (hk : k ≤ j) (hg : Gl X x) (hkw : PK X kws tk)
    (hall : (backToKw pos (keywordEach kws X.env)).all (·.1.isSome) = true := by rfl) (hks : (backToKw pos (keywordEach kws X.env)).filterMap (·.1) = ks := by rfl)
    (hdb : (x == ("__debug__" : Str)) = false := by decide)
    (hpl : ((backTo pos (starEach [] X.env)).any (·.1) || (backToKw pos (keywordEach kws X.env)).any (·.1.isNone)) = false := by rfl) :
    PE X (.Call (.Name x p) [] kws pos) (tCallN 0 ks.length sp gV C8.E0 tNil tk) := by
  obtain ⟨f, fd, ps, g, F, hm, kp, b⟩ := c.ex
  exact pe_callN0 F (hr.mono hk) hg hm kp b C8.pass0 hkw hall hks hdb hpl
end

/-! ### promises by the number of parameters -/
def sp1 (f : V → Hp → VK → Prop) : Sp := fun vs H Q _ => ∃ a, vs = [a] ∧ f a H Q
def sp2 (f : V → V → Hp → VK → Prop) : Sp := fun vs H Q _ => ∃ a b, vs = [a, b] ∧ f a b H Q
def sp3 (f : V → V → V → Hp → VK → Prop) : Sp := fun vs H Q _ => ∃ a b c, vs = [a, b, c] ∧ f a b c H Q
def sp4 (f : V → V → V → V → Hp → VK → Prop) : Sp := fun vs H Q _ => ∃ a b c d, vs = [a, b, c, d] ∧ f a b c d H Q
/-- whatever heap comes that keeps this one -/
def Then (H : Hp) (Q : VK) (v : V) : Prop := ∀ H', Same H H' → Q v H'
theorem Then.here {H : Hp} {Q : VK} {v : V} (h : Then H Q v) : Q v H := h H (Same.refl H)
theorem Then.mono {H H' : Hp} {Q : VK} {v : V} (h : Then H Q v) (e : Same H H') : Then H' Q v := fun H2 e2 => h H2 (e.trans e2)
section
variable {P : Program} {w : World} {K : PySem.W.Frag} {mg : Str → Option Value} {base : Heap} {x : Str} {st : Stmt} {f : Addr} {fd : FuncData} {N : List Str} {k : Nat} {p1 p2 p3 p4 : Str}
theorem fn1 {g : V → Hp → VK → Prop} (F : Def K mg x st f fd) (S : FnScope N [p1] (fnScope st))
    (body : ∀ (cdv : Value) (A : Around) (outer : List Env) (s : Shared) (H : Hp) (a : V) (Q : VK) (E : XK), Room k (A.deeper (envOfC x (fnScope st) s.heap.objs.size f cdv)) → g a H Q →
      ∃ t, PSs (cxOf C8.CX0 P w K mg base N x (fnScope st) f cdv A outer s H E).nox (fnBody st) t ∧ t { nx := fun _ H' => Q .non H', rt := Q } (start N [a]) H) : FnOk P w K mg base C8.CX0 (k + 1) f fd [p1] (sp1 g) := by
  refine C8.fn0 F.fn S ?_ ?_
  · rintro vs H Q E ⟨a, rfl, _⟩
    rfl
  · rintro cdv A outer s H vs Q E hr ⟨a, rfl, h⟩
    exact body cdv A outer s H a Q E hr h
theorem fn2 {g : V → V → Hp → VK → Prop} (F : Def K mg x st f fd) (S : FnScope N [p1, p2] (fnScope st))
    (body : ∀ (cdv : Value) (A : Around) (outer : List Env) (s : Shared) (H : Hp) (a b : V) (Q : VK) (E : XK), Room k (A.deeper (envOfC x (fnScope st) s.heap.objs.size f cdv)) → g a b H Q →
      ∃ t, PSs (cxOf C8.CX0 P w K mg base N x (fnScope st) f cdv A outer s H E).nox (fnBody st) t ∧ t { nx := fun _ H' => Q .non H', rt := Q } (start N [a, b]) H) : FnOk P w K mg base C8.CX0 (k + 1) f fd [p1, p2] (sp2 g) := by
  refine C8.fn0 F.fn S ?_ ?_
  · rintro vs H Q E ⟨a, b, rfl, _⟩
    rfl
  · rintro cdv A outer s H vs Q E hr ⟨a, b, rfl, h⟩
    exact body cdv A outer s H a b Q E hr h
theorem fn3 {g : V → V → V → Hp → VK → Prop} (F : Def K mg x st f fd) (S : FnScope N [p1, p2, p3] (fnScope st))
    (body : ∀ (cdv : Value) (A : Around) (outer : List Env) (s : Shared) (H : Hp) (a b c : V) (Q : VK) (E : XK), Room k (A.deeper (envOfC x (fnScope st) s.heap.objs.size f cdv)) → g a b c H Q →
      ∃ t, PSs (cxOf C8.CX0 P w K mg base N x (fnScope st) f cdv A outer s H E).nox (fnBody st) t ∧ t { nx := fun _ H' => Q .non H', rt := Q } (start N [a, b, c]) H) : FnOk P w K mg base C8.CX0 (k + 1) f fd [p1, p2, p3] (sp3 g) := by
  refine C8.fn0 F.fn S ?_ ?_
  · rintro vs H Q E ⟨a, b, c, rfl, _⟩
    rfl
  · rintro cdv A outer s H vs Q E hr ⟨a, b, c, rfl, h⟩
    exact body cdv A outer s H a b c Q E hr h
theorem cal_of {ps : List Str} {sp : Sp} (F : Def K mg x st f fd) (df : fd.defaults = .none) (ok : FnOk P w K mg base C8.CX0 k f fd ps sp)
    (h : ∀ (kV doc pm : Value) (an : Option Addr) (cdv ct : Value) (us : List Value), us.length = ps.length → bindArgs (PySem.W.fnOf x x (fnArgs st) (fnBody st) (fnScope st) .none kV doc pm an cdv ct) ⟨us, []⟩ = pure (ps.zip us)) : Cal P w K mg base k x sp [] :=
  ⟨f, fd, ps, [], ok, F.mgf, F.kp, F.fn.binds df h, .nil⟩
end

/-! ### defaults and keywords: which value goes where -/
def pick {α : Type} (us its ws : List α) : List (Nat × Nat) → List α
  | [] => []
  | (0, i) :: r => (us[i]?).toList ++ pick us its ws r
  | (1, i) :: r => (its[i]?).toList ++ pick us its ws r
  | (_, i) :: r => (ws[i]?).toList ++ pick us its ws r
theorem vals_at {vs : List V} {us : List Value} (r : Vals vs us) (i : Nat) : Vals (vs[i]?).toList (us[i]?).toList := by
  cases e : vs[i]? with
  | none =>
    rw [r.none_of e]
    exact .nil
  | some v =>
    obtain ⟨u, h, rv⟩ := r.get e
    rw [h]
    exact .cons rv .nil
theorem pick_rel {vs ds zs : List V} {us its ws : List Value} (r1 : Vals vs us) (r2 : Vals ds its) (r3 : Vals zs ws) : ∀ l : List (Nat × Nat), Vals (pick vs ds zs l) (pick us its ws l)
  | [] => .nil
  | (0, i) :: r => (vals_at r1 i).append (pick_rel r1 r2 r3 r)
  | (1, i) :: r => (vals_at r2 i).append (pick_rel r1 r2 r3 r)
  | (_ + 2, i) :: r => (vals_at r3 i).append (pick_rel r1 r2 r3 r)
section
variable {K : PySem.W.Frag} {mg : Str → Option Value} {x : Str} {st : Stmt} {f : Addr} {fd : FuncData} {ps ks : List Str} {dvs : List V}
theorem dfl_binds (F : Def K mg x st f fd) (D : DflV K fd.defaults dvs) (hd : dvs ≠ []) (n j : Nat) (hn : n + (dvs.length - j) = ps.length)
    (h : ∀ (T : Addr) (kV doc pm : Value) (an : Option Addr) (cdv ct : Value) (us its : List Value), us.length = n → its.length = dvs.length →
      ∃ k, bindArgs (PySem.W.fnOf x x (fnArgs st) (fnBody st) (fnScope st) (.ref T) kV doc pm an cdv ct) ⟨us, []⟩ = seqItems? (.ref T) >>= k ∧ k (some its.toArray) = pure (ps.zip (us ++ its.drop j))) :
    ∃ ds, Vals (dvs.drop j) ds ∧ Binds K fd ps ds := by
  obtain ⟨oc, od, dV, kV, doc, pm, an, cdv, ct, osl, rfl, lk, hcd⟩ := F.fn.ex
  rcases D with ⟨e, _⟩ | ⟨_, T, o, its, m, e, lT, oT, rT⟩
  · exact absurd e hd
  · have e : dV = .ref T := e
    subst e
    refine ⟨its.drop j, rT.drop j, ?_⟩
    intro s us X hlen
    have l1 : its.length = dvs.length := rT.length.symm
    have l2 : us.length = n := by
      rw [List.length_append, List.length_drop, l1] at hlen
      omega
    obtain ⟨k, e1, e2⟩ := h T kV doc pm an cdv ct us its l2 l1
    refine BindsTo.of_looks fun M => ?_
    rw [e1]
    exact looks_items X lT oT (.of_pure e2)
theorem dfl_kbn (F : Def K mg x st f fd) (D : DflV K fd.defaults dvs) (hd : dvs ≠ []) (n : Nat) (sel : List (Nat × Nat))
    (h : ∀ (T : Addr) (kV doc pm : Value) (an : Option Addr) (cdv ct : Value) (us its ws : List Value), us.length = n → its.length = dvs.length → ws.length = ks.length →
      ∃ k, bindArgs (PySem.W.fnOf x x (fnArgs st) (fnBody st) (fnScope st) (.ref T) kV doc pm an cdv ct) ⟨us, ks.zip ws⟩ = seqItems? (.ref T) >>= k ∧ k (some its.toArray) = pure (ps.zip (pick us its ws sel))) :
    ∃ its, KBn K fd ps n ks (fun us ws => pick us its ws sel) (fun vs zs => pick vs dvs zs sel) := by
  obtain ⟨oc, od, dV, kV, doc, pm, an, cdv, ct, osl, rfl, lk, hcd⟩ := F.fn.ex
  rcases D with ⟨e, _⟩ | ⟨_, T, o, its, m, e, lT, oT, rT⟩
  · exact absurd e hd
  · have e : dV = .ref T := e
    subst e
    refine ⟨its, ?_, fun r1 r2 => pick_rel r1 rT r2 sel⟩
    intro s us ws X l1 l2
    obtain ⟨k, e1, e2⟩ := h T kV doc pm an cdv ct us its ws l1 rT.length.symm l2
    refine BindsTo.of_looks fun M => ?_
    rw [e1]
    exact looks_items X lT oT (.of_pure e2)
theorem nod_kbn (F : Def K mg x st f fd) (df : fd.defaults = .none) (n : Nat) (sel : List (Nat × Nat))
    (h : ∀ (kV doc pm : Value) (an : Option Addr) (cdv ct : Value) (us ws : List Value), us.length = n → ws.length = ks.length →
      bindArgs (PySem.W.fnOf x x (fnArgs st) (fnBody st) (fnScope st) .none kV doc pm an cdv ct) ⟨us, ks.zip ws⟩ = pure (ps.zip (pick us [] ws sel))) :
    KBn K fd ps n ks (fun us ws => pick us [] ws sel) (fun vs zs => pick vs [] zs sel) := by
  obtain ⟨oc, od, dV, kV, doc, pm, an, cdv, ct, osl, rfl, lk, hcd⟩ := F.fn.ex
  have e : dV = .none := df
  subst e
  exact ⟨fun s us ws _ l1 l2 => .of_eq (h kV doc pm an cdv ct us ws l1 l2), fun r1 r2 => pick_rel r1 .nil r2 sel⟩
end

/-! ### the bag, from a caller's side -/
def BagAt (H : Hp) (p : Addr) : Prop := ∃ (q : Addr) (ns : List Int), H p = some (bagO q p) ∧ H q = some (.lst (ns.map V.int))
theorem BagAt.mono {H H' : Hp} {p : Addr} (h : BagAt H p) (e : Same H H') : BagAt H' p := by
  obtain ⟨q, ns, a, b⟩ := h
  exact ⟨q, ns, e _ _ a, e _ _ b⟩
theorem rd_bag {K : PySem.W.Frag} {H : Hp} {p : Addr} {xs : List V} {j : Int} {v : V} {Q : VK} (e : atI xs j = some v) (k : Q v (upd H p (.lst xs))) : rIx K (.ref p) (.int j) (upd H p (.lst xs)) Q :=
  .inl ⟨p, xs, j, v, rfl, rfl, SqL.of upd_same, e, k⟩
theorem set_bag {H : Hp} {p : Addr} {xs : List V} {k : Int} {j : Nat} {v : V} {Q : Hp → Prop} (e : ixN xs.length k = some j) (q : Q (upd H p (.lst (xs.set j v)))) : rSetL (.ref p) (.int k) v (upd H p (.lst xs)) Q :=
  ⟨p, xs, k, j, rfl, rfl, upd_same, e, by rw [upd_upd]; exact q⟩
theorem shut_bag {H : Hp} {p q : Addr} {F : Hp → Prop} {i c st t : Int} (hp : H p = some (bagO q p)) (b : BagOk i st) (f : F H) : shutAt q p F (upd H p (.lst (bagL q i c st t))) :=
  ⟨i, c, st, t, b, upd_same, by rw [upd_upd, upd_self hp]; exact f⟩
end Fb

set_option Elab.async false
set_option linter.all false
set_option maxRecDepth 100000
set_option maxHeartbeats 4000000
namespace Fb
open PySem PySem.Spec L2
open PyProof.Rows hiding St
open C8 (Cal Met Mak Def cal0 met0 mak0 pe_c pe_mk pe_mt pe_mt0 fnScope fnBody fnArgs)

/-! ### comprehensions by what each element is -/
theorem same_mut {H H' : Hp} {p : Addr} {o : HO} (e : Same H H') (h : H p = none) : Same H (upd H' p o) := by
  intro a u ha
  rw [upd_ne (ne_of_none ha h)]
  exact e a u ha
theorem size5 {n : Nat} (h : n ≤ 100000) : n < sizeLine := Nat.lt_of_le_of_lt h (by decide)
theorem size5' {n : Nat} (h : n ≤ 100000) : n ≤ sizeLine := Nat.le_of_lt (size5 h)
section
variable {J : It} {n : Nat} {G : Hp → Prop} {Y : Nat → Hp → V → Hp → Prop} {g : TG} {tt : TT} {te : TE} {vs : List Nat} {σ : L2.St} {H1 : Hp} {D : Addr} {Qd : Hp → Prop}
/-- what a turn gives only makes the heap grow -/
def YGrow (Y : Nat → Hp → V → Hp → Prop) : Prop := ∀ i H x H', Y i H x H' → Same H H'
theorem grow_at {xs : List V} : YGrow (YAt xs) := by
  rintro i H x H' ⟨rfl, _⟩
  exact Same.refl _
theorem grow_fn {f : Nat → V} : YGrow (YFn f) := by
  rintro i H x H' ⟨rfl, _⟩
  exact Same.refl _
theorem grow_pair {xs ys : Nat → Option V} : YGrow (YPair xs ys) := by
  rintro i H x H' ⟨T, a, b, _, h, rfl, _⟩
  exact grow h

theorem upd_same_of {H H' : Hp} {p : Addr} {o : HO} (e : Same H H') : Same (upd H p o) (upd H' p o) := by
  intro b u h
  by_cases q : b = p
  · subst q
    rw [upd_same] at h
    rw [upd_same]
    exact h
  · rw [upd_ne q] at h
    rw [upd_ne q]
    exact e b u h
/-- each element of its kind, told by P, which does not lean on the new list -/
theorem lc_some (w : Walk J n G Y) (P : Nat → V → Hp → Prop) (hy : YGrow Y) (hn : n ≤ 100000) (hD : H1 D = none) (st : ∀ i v H H', Same H H' → P i v H → P i v H') (hG : ∀ H, Same H1 H → G H)
    (hs : ∀ i x H H', i < n → Same H1 H → (∃ xs, H D = some (.lst xs)) → Y i H x H' → ∀ R : V → Hp → Prop, (∀ v H2, Same H' H2 → (∀ o, P i v (upd H2 D o)) → R v H2) → g x (wipe σ vs) H' fun σ2 H2 => wipe σ2 vs = wipe σ vs ∧ te σ2 H2 R)
    (hd : ∀ xs H, Same H1 H → H D = some (.lst xs) → xs.length = n → (∀ i v, xs[i]? = some v → P i v H) → Qd H) :
    ∃ W : Nat → Nat → Hp → Prop, (∃ m, W 0 m (upd H1 D (.lst []))) ∧ ∀ i m H, W i m H →
      (J.stop i H ∧ Qd H) ∨ (J.go i H ∧ ∃ Nx : Hp → Prop, (∀ H', Nx H' → ∃ m', m' < m ∧ W (i + 1) m' H') ∧ ∀ x H', J.yld i H x H' → g x (wipe σ vs) H' fun σ2 H2 => wipe σ2 vs = wipe σ vs ∧ tYes σ2 H2 fun b H3 =>
        if b = true then te σ2 H3 fun y H4 => ∃ acc, H4 D = some (.lst acc) ∧ acc.length < sizeLine ∧ Nx (upd H4 D (.lst (acc ++ [y]))) else Nx H3) := by
  refine lc_it w (fun i H => Same H1 H ∧ ∃ xs : List V, H D = some (.lst xs) ∧ xs.length = i ∧ ∀ j v, xs[j]? = some v → ∀ o, P j v (upd H D o)) ?_ ?_ ?_ ?_
  · refine ⟨grow hD, [], upd_same, rfl, ?_⟩
    intro j v h
    cases h
  · rintro i H _ ⟨e, _⟩
    exact hG H e
  · rintro i x H H' hi ⟨e, xs, hx, hl, hp⟩ y
    have e2 := hy _ _ _ _ y
    refine hs i x H H' hi e ⟨xs, hx⟩ y _ ?_
    intro v H4 e4 p
    have e3 := e2.trans e4
    refine ⟨xs, e3 _ _ hx, size5 (by omega), same_mut (e.trans e3) hD, xs ++ [v], upd_same, by rw [List.length_append, hl]; rfl, ?_⟩
    intro j u hj o
    rw [upd_upd]
    by_cases q : j < xs.length
    · rw [List.getElem?_append_left q] at hj
      exact st _ _ _ _ (upd_same_of e3) (hp j u hj o)
    · rw [List.getElem?_append_right (by omega)] at hj
      have ej : j - xs.length = 0 := by
        cases h0 : j - xs.length with
        | zero => rfl
        | succ m =>
          rw [h0] at hj
          cases hj
      rw [ej] at hj
      cases hj
      rw [show j = i by omega]
      exact p o
  · rintro H ⟨e, xs, hx, hl, hp⟩
    refine hd xs H e hx hl ?_
    intro i v hv
    have := hp i v hv (.lst xs)
    rw [upd_self hx] at this
    exact this
/-- each element a value that is known -/
theorem lc_map (w : Walk J n G Y) (f : Nat → V) (hy : YGrow Y) (hn : n ≤ 100000) (hD : H1 D = none) (hG : ∀ H, Same H1 H → G H)
    (hs : ∀ i x H H', i < n → Same H1 H → Y i H x H' → ∀ R : V → Hp → Prop, (∀ H2, Same H' H2 → R (f i) H2) → g x (wipe σ vs) H' fun σ2 H2 => wipe σ2 vs = wipe σ vs ∧ te σ2 H2 R)
    (hd : ∀ H, Same H1 H → H D = some (.lst ((List.range n).map f)) → Qd H) :
    ∃ W : Nat → Nat → Hp → Prop, (∃ m, W 0 m (upd H1 D (.lst []))) ∧ ∀ i m H, W i m H →
      (J.stop i H ∧ Qd H) ∨ (J.go i H ∧ ∃ Nx : Hp → Prop, (∀ H', Nx H' → ∃ m', m' < m ∧ W (i + 1) m' H') ∧ ∀ x H', J.yld i H x H' → g x (wipe σ vs) H' fun σ2 H2 => wipe σ2 vs = wipe σ vs ∧ tYes σ2 H2 fun b H3 =>
        if b = true then te σ2 H3 fun y H4 => ∃ acc, H4 D = some (.lst acc) ∧ acc.length < sizeLine ∧ Nx (upd H4 D (.lst (acc ++ [y]))) else Nx H3) := by
  refine lc_some w (fun i v _ => v = f i) hy hn hD (fun _ _ _ _ _ h => h) hG ?_ ?_
  · intro i x H H' hi e _ y R h
    exact hs i x H H' hi e y R fun H2 e2 => h _ H2 e2 fun _ => rfl
  · intro xs H e hx hl hp
    have ex : xs = (List.range n).map f := by
      refine List.ext_getElem? fun i => ?_
      by_cases q : i < n
      · rw [List.getElem?_map, List.getElem?_range q, List.getElem?_eq_getElem (by omega)]
        exact congrArg some (hp i _ (List.getElem?_eq_getElem (by omega)))
      · rw [List.getElem?_eq_none (by omega), List.getElem?_eq_none (by simp; omega)]
    rw [ex] at hx
    exact hd H e hx
/-- the same with a test -/
theorem lc_filt (w : Walk J n G Y) (b : Nat → Bool) (f : Nat → V) (hy : YGrow Y) (hn : n ≤ 100000) (hD : H1 D = none) (hG : ∀ H, Same H1 H → G H)
    (hs : ∀ i x H H', i < n → Same H1 H → Y i H x H' → ∀ (F : Hp → Prop) (R : V → Hp → Prop), (∀ H2, Same H' H2 → b i = true → R (f i) H2) → (∀ H2, Same H' H2 → b i = false → F H2) →
      g x (wipe σ vs) H' fun σ2 H2 => wipe σ2 vs = wipe σ vs ∧ tt σ2 H2 fun c H3 => if c = true then te σ2 H3 R else F H3)
    (hd : ∀ H, Same H1 H → H D = some (.lst (((List.range n).filter b).map f)) → Qd H) :
    ∃ W : Nat → Nat → Hp → Prop, (∃ m, W 0 m (upd H1 D (.lst []))) ∧ ∀ i m H, W i m H →
      (J.stop i H ∧ Qd H) ∨ (J.go i H ∧ ∃ Nx : Hp → Prop, (∀ H', Nx H' → ∃ m', m' < m ∧ W (i + 1) m' H') ∧ ∀ x H', J.yld i H x H' → g x (wipe σ vs) H' fun σ2 H2 => wipe σ2 vs = wipe σ vs ∧ tt σ2 H2 fun b H3 =>
        if b = true then te σ2 H3 fun y H4 => ∃ acc, H4 D = some (.lst acc) ∧ acc.length < sizeLine ∧ Nx (upd H4 D (.lst (acc ++ [y]))) else Nx H3) := by
  refine lc_it w (fun i H => Same H1 H ∧ H D = some (.lst (((List.range i).filter b).map f))) ?_ ?_ ?_ ?_
  · exact ⟨grow hD, upd_same⟩
  · rintro i H _ ⟨e, _⟩
    exact hG H e
  · rintro i x H H' hi ⟨e, hx⟩ y
    have e2 := hy _ _ _ _ y
    have len : (((List.range i).filter b).map f).length ≤ 100000 := by
      rw [List.length_map]
      refine Nat.le_trans (List.length_filter_le _ _) ?_
      rw [List.length_range]
      omega
    refine hs i x H H' hi e y (fun H3 => Same H1 H3 ∧ H3 D = some (.lst (((List.range (i + 1)).filter b).map f))) _ ?_ ?_
    · intro H4 e4 hb
      refine ⟨_, (e2.trans e4) _ _ hx, size5 len, same_mut (e.trans (e2.trans e4)) hD, ?_⟩
      rw [upd_same, List.range_succ, List.filter_append, List.map_append, List.filter_cons_of_pos hb]
      rfl
    · intro H4 e4 hb
      refine ⟨e.trans (e2.trans e4), ?_⟩
      rw [(e2.trans e4) _ _ hx, List.range_succ, List.filter_append, List.map_append, List.filter_cons_of_neg (by rw [hb]; exact Bool.false_ne_true)]
      rw [List.filter_nil, List.map_nil, List.append_nil]
  · rintro H ⟨e, hx⟩
    exact hd H e hx
end

theorem small_log {n : Int} (h0 : 0 ≤ n) (h : n ≤ 1000000000000) : n.natAbs.log2 < 9000 :=
  Nat.lt_of_lt_of_le (PySem.Flt.log2_lt_of (show 0 < 50 by decide) (by omega)) (by decide)

/-- a value of any kind: a text, or none -/
theorem AnyV.strOr {K : PySem.W.Frag} {H : Hp} {v : V} (h : AnyV K H v) : (∃ z : Str, v = .str z ∧ z.length ≤ 100000) ∨ ((∀ z, v ≠ .str z) ∧ ∃ t, TyX K H v (.type t) ∧ kitB t "str" = some false) := by
  rcases h with h | ⟨b, h⟩ | ⟨i, h⟩ | ⟨z, h, l⟩ | ⟨a, xs, h, g⟩ | ⟨a, xs, h, g⟩ | ⟨a, xs, h, g⟩
  all_goals subst h
  · exact .inr ⟨(fun _ e => nomatch e), _, .base .non, by decide +kernel⟩
  · exact .inr ⟨(fun _ e => nomatch e), _, .base (.bl b), by decide +kernel⟩
  · exact .inr ⟨(fun _ e => nomatch e), _, .base (.int i), by decide +kernel⟩
  · exact .inl ⟨z, rfl, l⟩
  · exact .inr ⟨(fun _ e => nomatch e), _, .base (.lst g), by decide +kernel⟩
  · exact .inr ⟨(fun _ e => nomatch e), _, .base (.tup g), by decide +kernel⟩
  · exact .inr ⟨(fun _ e => nomatch e), _, .base (.dK g), by decide +kernel⟩
theorem AnyV.intOr {K : PySem.W.Frag} {H : Hp} {v : V} (h : AnyV K H v) : (∃ i, v = .int i) ∨ (∃ b, v = .bl b) ∨ ((∀ z, v ≠ .int z) ∧ ∃ t, TyX K H v (.type t) ∧ kitB t "int" = some false) := by
  rcases h with h | ⟨b, h⟩ | ⟨i, h⟩ | ⟨z, h, l⟩ | ⟨a, xs, h, g⟩ | ⟨a, xs, h, g⟩ | ⟨a, xs, h, g⟩
  all_goals subst h
  · exact .inr (.inr ⟨(fun _ e => nomatch e), _, .base .non, by decide +kernel⟩)
  · exact .inr (.inl ⟨b, rfl⟩)
  · exact .inl ⟨i, rfl⟩
  · exact .inr (.inr ⟨(fun _ e => nomatch e), _, .base (.str z), by decide +kernel⟩)
  · exact .inr (.inr ⟨(fun _ e => nomatch e), _, .base (.lst g), by decide +kernel⟩)
  · exact .inr (.inr ⟨(fun _ e => nomatch e), _, .base (.tup g), by decide +kernel⟩)
  · exact .inr (.inr ⟨(fun _ e => nomatch e), _, .base (.dK g), by decide +kernel⟩)

theorem map_range_get {α β : Type} (d : α) (f : α → β) : ∀ l : List α, (List.range l.length).map (fun i => f (l.getD i d)) = l.map f
  | [] => rfl
  | a :: r => by
    rw [List.length_cons, List.range_succ_eq_map, List.map_cons, List.map_map, List.map_cons]
    exact congrArg (f a :: ·) (map_range_get d f r)
theorem str_len (z : Str) : z.cps.size = z.cps.toList.length := (Array.length_toList).symm

/-! ### data on the heap -/
mutual
theorem dp_mono {K : PySem.W.Frag} {H H' : Hp} (e : Same H H') : ∀ (d : PyData) {v : V}, Dp K H v d → Dp K H' v d
  | .none, _, h => by cases h; exact .non
  | .bool _, _, h => by cases h; exact .bl _
  | .int _, _, h => by cases h; exact .int _
  | .str _, _, h => by cases h; exact .str _
  | .list ds, _, h => by
    cases h with
    | lst s a => exact .lst (e.seq s) (dpAll_mono e ds a)
  | .tuple ds, _, h => by
    cases h with
    | tup s a => exact .tup (same_tup e s) (dpAll_mono e ds a)
  | .dict _, _, h => by cases h
theorem dpAll_mono {K : PySem.W.Frag} {H H' : Hp} (e : Same H H') : ∀ (ds : List PyData) {vs : List V}, DpAll K H vs ds → DpAll K H' vs ds
  | [], _, h => by cases h; exact .nil
  | d :: ds, _, h => by
    cases h with
    | cons a b => exact .cons (dp_mono e d a) (dpAll_mono e ds b)
end
theorem dpAll_map {K : PySem.W.Frag} {H : Hp} {α : Type} {f : α → V} {g : α → PyData} : ∀ {l : List α}, (∀ x ∈ l, Dp K H (f x) (g x)) → DpAll K H (l.map f) (l.map g)
  | [], _ => .nil
  | x :: r, h => .cons (h x (List.mem_cons_self ..)) (dpAll_map fun y hy => h y (List.mem_cons_of_mem _ hy))
theorem dpAll_len {K : PySem.W.Frag} {H : Hp} : ∀ {vs : List V} {ds : List PyData}, DpAll K H vs ds → vs.length = ds.length
  | _, _, .nil => rfl
  | _, _, .cons _ b => congrArg Nat.succ (dpAll_len b)
theorem dpAll_get {K : PySem.W.Frag} {H : Hp} : ∀ {vs : List V} {ds : List PyData} {i : Nat} {v : V}, DpAll K H vs ds → vs[i]? = some v → ∃ d, ds[i]? = some d ∧ Dp K H v d
  | _, _, _, _, .nil, h => by cases h
  | _, _, 0, _, .cons (d := d) a _, h => by
    cases h
    exact ⟨d, rfl, a⟩
  | _, _, i + 1, v, .cons _ b, h => dpAll_get (i := i) b h
/-- the type's name -/
def dName : PyData → String
  | .none => "NoneType"
  | .bool _ => "bool"
  | .int _ => "int"
  | .str _ => "str"
  | .list _ => "list"
  | .tuple _ => "tuple"
  | .dict _ => "dict"
theorem sql_ty {K : PySem.W.Frag} {H : Hp} {a : Addr} {xs : List V} (h : SqL K H a xs) : TyX K H (.ref a) (.type "list") := by
  rcases h with (h | ⟨o, h⟩) | ⟨o, its, n, h, c, _⟩
  · exact .base (.lst h)
  · exact .base (.frz h)
  · exact .kList h c
theorem sqt_ty {K : PySem.W.Frag} {H : Hp} {a : Addr} {xs : List V} (h : SqT K H a xs) : TyX K H (.ref a) (.type "tuple") := by
  rcases h with (h | ⟨o, h⟩) | ⟨o, its, n, h, c, _⟩
  · exact .base (.tup h)
  · exact .fTuple h
  · exact .kTuple h c
theorem dp_ty {K : PySem.W.Frag} {H : Hp} {v : V} {d : PyData} (h : Dp K H v d) : TyX K H v (.type (dName d)) := by
  cases h with
  | non => exact .base .non
  | bl b => exact .base (.bl b)
  | int i => exact .base (.int i)
  | str x => exact .base (.str x)
  | lst s _ => exact sql_ty s
  | tup s _ => exact sqt_ty s
theorem ty_mono {K : PySem.W.Frag} {H H' : Hp} {v : V} {d : PyData} (h : Dp K H v d) (e : Same H H') : TyX K H' v (.type (dName d)) := dp_ty (dp_mono e d h)
/-- data of less than n levels, no list longer than 100000 -/
def Lk : Nat → PyData → Prop
  | 0, _ => False
  | n + 1, .list ds => ds.length ≤ 100000 ∧ ∀ d ∈ ds, Lk n d
  | n + 1, .tuple ds => ds.length ≤ 100000 ∧ ∀ d ∈ ds, Lk n d
  | _ + 1, .dict _ => False
  | _ + 1, _ => True

theorem walk_zipT {K : PySem.W.Frag} {a b : Addr} {xs ys : List V} {n : Nat} (hn : n = min xs.length ys.length) :
    Walk (RZ.ItzT K a b) n (fun H => SqT K H a xs ∧ SqT K H b ys) (YPair (fun i => xs[i]?) (fun i => ys[i]?)) := by
  subst hn
  constructor
  · rintro i H hi ⟨p, q⟩
    have h1 : i < xs.length := by omega
    have h2 : i < ys.length := by omega
    exact ⟨xs, ys, xs[i], ys[i], p, q, List.getElem?_eq_getElem h1, List.getElem?_eq_getElem h2⟩
  · rintro H ⟨p, q⟩
    exact ⟨xs, ys, p, q, by omega⟩
  · rintro i H v H' _ ⟨p, q⟩ ⟨T, x, z, h1, h2, h3, h4, h5⟩
    exact ⟨T, x, z, h1, h2, h3, h4 xs p, h5 ys q⟩
theorem lk_item {n : Nat} {ds : List PyData} {i : Nat} {d : PyData} (h : ∀ d ∈ ds, Lk n d) (e : ds[i]? = some d) : Lk n d := h d (List.mem_of_getElem? e)
theorem all_true (n : Nat) : ((List.range n).map fun _ => true).all id = true := by
  rw [List.all_eq_true]
  intro b h
  obtain ⟨_, _, rfl⟩ := List.mem_map.mp h
  rfl
end Fb

set_option Elab.async false
set_option linter.all false
set_option maxRecDepth 100000
set_option maxHeartbeats 4000000
namespace Fb
open PySem PySem.Spec L2
open PyProof.Rows hiding St
/-! ### names and numbers, without a heap -/
def letC (c : Nat) : Bool := decide (97 ≤ c) && decide (c ≤ 122)
def nameB : V → Bool
  | .str z => decide (1 ≤ z.length) && decide (z.length ≤ 8) && z.cps.toList.all letC
  | _ => false
theorem nameB_no {v : V} (h : ∀ z, v ≠ .str z) : nameB v = false := by
  cases v with
  | str z => exact absurd rfl (h z)
  | _ => rfl
theorem lt1 (a b : Nat) : decide ((#[a] : Array Nat).toList < (#[b] : Array Nat).toList) = decide (a < b) := by
  refine decide_eq_decide.mpr ?_
  show ([a] : List Nat) < [b] ↔ a < b
  rw [List.cons_lt_cons_iff]
  constructor
  · rintro (h | ⟨_, h⟩)
    · exact h
    · exact absurd h (List.not_lt_nil _)
  · exact fun h => .inl h
def numB (v : V) (l : Int) (h : Option Int) : Bool := match v with
  | .int i => decide (l ≤ i) && (match h with | none => true | some m => decide (i ≤ m))
  | _ => false
theorem numB_no {v : V} {l : Int} {h : Option Int} (no : ∀ z, v ≠ .int z) : numB v l h = false := by
  cases v with
  | int z => exact absurd rfl (no z)
  | _ => rfl
theorem numB_hi {a : V} {l : Int} {h : Option Int} (e : numB a l none = false) : numB a l h = false := by
  cases a with
  | int i =>
    have e : (decide (l ≤ i) && true) = false := e
    rw [Bool.and_true] at e
    show (decide (l ≤ i) && _) = false
    rw [e, Bool.false_and]
  | _ => rfl
theorem numB_int {a : V} {l : Int} (e : numB a l none = true) : ∃ i, a = .int i ∧ l ≤ i := by
  cases a with
  | int i =>
    have e : (decide (l ≤ i) && true) = true := e
    rw [Bool.and_true] at e
    exact ⟨i, rfl, of_decide_eq_true e⟩
  | _ => cases e
def az : Str := "abcdefghijklmnopqrstuvwxyz"
theorem az_in (c : Nat) : decide (c ∈ az.cps.toList) = letC c := by
  have e : az.cps.toList = (List.range 26).map (· + 97) := by decide +kernel
  rw [e]
  unfold letC
  rw [← Bool.decide_and]
  refine decide_eq_decide.mpr ?_
  rw [List.mem_map]
  constructor
  · rintro ⟨k, hk, rfl⟩
    have := List.mem_range.mp hk
    omega
  · intro h
    exact ⟨c - 97, List.mem_range.mpr (by omega), by omega⟩

theorem eqv_list_nil (ds : List PyData) : PyData.eqv (.list ds) (.list []) = ds.isEmpty := by
  cases ds <;> rfl

theorem filt_none (l : List Nat) : ((List.range l.length).filter fun i => !letC (l.getD i 0)).isEmpty = l.all letC := by
  induction l with
  | nil => rfl
  | cons a r ih =>
    rw [List.length_cons, List.range_succ_eq_map, List.filter_cons, List.all_cons, List.filter_map]
    show (if (!letC a) = true then _ else _ : List Nat).isEmpty = _
    cases h : letC a with
    | true =>
      rw [if_neg (by decide), List.isEmpty_map, Bool.true_and]
      exact ih
    | false =>
      rw [if_pos (by decide), Bool.false_and]
      rfl

/-- values that are all of one form are the images of what tells them -/
theorem all_of {α : Type} (f : α → V) : ∀ xs : List V, (∀ (i : Nat) v, xs[i]? = some v → ∃ c, v = f c) → ∃ cs : List α, xs = cs.map f
  | [], _ => ⟨[], rfl⟩
  | x :: r, h => by
    obtain ⟨c, hc⟩ := h 0 x rfl
    obtain ⟨cs, hcs⟩ := all_of f r fun i v e => h (i + 1) v e
    exact ⟨c :: cs, by rw [hc, hcs]; rfl⟩

theorem ones_sum : ∀ cs : List Nat, ((cs.map fun c => (⟨#[c]⟩ : Str)).map (·.length)).sum = cs.length
  | [] => rfl
  | c :: r => by
    rw [List.map_cons, List.map_cons, List.sum_cons, ones_sum r, List.length_cons]
    exact Nat.add_comm 1 _
theorem one_join (cs : List Nat) : (Txt.join "" (cs.map fun c => (⟨#[c]⟩ : Str))).length = cs.length := by
  have h := size_glued "" (cs.map fun c => (⟨#[c]⟩ : Str))
  rw [ones_sum] at h
  exact h

theorem num_text {i : Int} (h : i.natAbs < 10 ^ 20) : i.natAbs.log2 < 1920 ∧ (Str.ofString (toString i)).length ≤ 100000 := by
  have e := int_text_length_le10 (k := 20) (by decide) h
  refine ⟨Nat.lt_of_lt_of_le (PySem.Flt.log2_lt_of (k := 67) (by decide) (by omega)) (by decide), ?_⟩
  rw [PySem.ofString_length]
  omega

theorem str_cat (a b : Str) : (a ++ b).length = a.length + b.length := PySem.Str.length_append a b
end Fb

set_option Elab.async false
set_option linter.all false
set_option maxRecDepth 100000
set_option maxHeartbeats 4000000
namespace Fb
open PySem PySem.Spec L2
open PyProof.Rows hiding St
open C8 (Cal Met Mak Def cal0 met0 mak0 pe_c pe_mk pe_mt pe_mt0 fnScope fnBody fnArgs pss_cut tCut)
/-! ### the text by places -/
def topS (i : Nat) : Stmt := PySem.Challenge.pw_feeblind_k01_names_and_numbers_judged.main.body.getD i (.Pass ⟨0, 0, 0, 0⟩)
abbrev s_is_name : Stmt := topS 5
theorem sc_is_name : FnScope ["value", "letter"] ["value"] (fnScope s_is_name) := ⟨rfl, rfl, rfl, by decide +kernel, rfl, by decide +kernel, by decide +kernel⟩
abbrev s_is_number : Stmt := topS 6
theorem sc_is_number : FnScope ["value", "least", "most"] ["value", "least", "most"] (fnScope s_is_number) := ⟨rfl, rfl, rfl, by decide +kernel, rfl, by decide +kernel, by decide +kernel⟩
abbrev s__law_bag : Stmt := topS 8
theorem sc__law_bag : FnScope ["script", "stir", "lump"] ["script"] (fnScope s__law_bag) := ⟨rfl, rfl, rfl, by decide +kernel, rfl, by decide +kernel, by decide +kernel⟩
abbrev s__law_draw : Stmt := topS 9
theorem sc__law_draw : FnScope ["bag", "sides", "lump", "digit"] ["bag", "sides"] (fnScope s__law_draw) := ⟨rfl, rfl, rfl, by decide +kernel, rfl, by decide +kernel, by decide +kernel⟩
abbrev s__law_of : Stmt := topS 10
theorem sc__law_of : FnScope ["bag", "things"] ["bag", "things"] (fnScope s__law_of) := ⟨rfl, rfl, rfl, by decide +kernel, rfl, by decide +kernel, by decide +kernel⟩
abbrev s__law_like : Stmt := topS 11
theorem sc__law_like : FnScope ["told", "due", "k", "a", "b"] ["told", "due"] (fnScope s__law_like) := ⟨rfl, rfl, rfl, by decide +kernel, rfl, by decide +kernel, by decide +kernel⟩
abbrev s__law_is_number : Stmt := topS 12
theorem sc__law_is_number : FnScope ["thing", "low"] ["thing", "low"] (fnScope s__law_is_number) := ⟨rfl, rfl, rfl, by decide +kernel, rfl, by decide +kernel, by decide +kernel⟩
abbrev s__law_is_title : Stmt := topS 13
theorem sc__law_is_title : FnScope ["thing", "sign"] ["thing"] (fnScope s__law_is_title) := ⟨rfl, rfl, rfl, by decide +kernel, rfl, by decide +kernel, by decide +kernel⟩
abbrev s__law_odd : Stmt := topS 14
theorem sc__law_odd : FnScope ["bag"] ["bag"] (fnScope s__law_odd) := ⟨rfl, rfl, rfl, by decide +kernel, rfl, by decide +kernel, by decide +kernel⟩
abbrev s__law_within : Stmt := topS 15
theorem sc__law_within : FnScope ["thing", "low", "high"] ["thing", "low", "high"] (fnScope s__law_within) := ⟨rfl, rfl, rfl, by decide +kernel, rfl, by decide +kernel, by decide +kernel⟩
abbrev s__law_far : Stmt := topS 16
theorem sc__law_far : FnScope ["bag", "size"] ["bag"] (fnScope s__law_far) := ⟨rfl, rfl, rfl, by decide +kernel, rfl, by decide +kernel, by decide +kernel⟩
abbrev s__law_text : Stmt := topS 17
theorem sc__law_text : FnScope ["bag", "pick", "signs", "many", "found", "k"] ["bag"] (fnScope s__law_text) := ⟨rfl, rfl, rfl, by decide +kernel, rfl, by decide +kernel, by decide +kernel⟩
abbrev s__law_names_so : Stmt := topS 18
theorem sc__law_names_so : FnScope ["thing", "due"] ["thing"] (fnScope s__law_names_so) := ⟨rfl, rfl, rfl, by decide +kernel, rfl, by decide +kernel, by decide +kernel⟩
abbrev s__law_numbers_so : Stmt := topS 19
theorem sc__law_numbers_so : FnScope ["thing", "low", "high", "told", "due"] ["thing", "low", "high"] (fnScope s__law_numbers_so) := ⟨rfl, rfl, rfl, by decide +kernel, rfl, by decide +kernel, by decide +kernel⟩
abbrev s_law : Stmt := topS 20
theorem sc_law : FnScope ["script", "bag", "turn", "texts", "low", "high", "odd", "thing"] ["script"] (fnScope s_law) := ⟨rfl, rfl, rfl, by decide +kernel, rfl, by decide +kernel, by decide +kernel⟩
structure Top (K : PySem.W.Frag) (mg : Str → Option Value) : Prop where
  d_is_name : ∃ (f : Addr) (fd : FuncData), Def K mg "is_name" s_is_name f fd ∧ fd.defaults = .none
  d_is_number : ∃ (f : Addr) (fd : FuncData), Def K mg "is_number" s_is_number f fd ∧ DflV K fd.defaults [.int 0, .non]
  d__law_bag : ∃ (f : Addr) (fd : FuncData), Def K mg "_law_bag" s__law_bag f fd ∧ fd.defaults = .none
  d__law_draw : ∃ (f : Addr) (fd : FuncData), Def K mg "_law_draw" s__law_draw f fd ∧ fd.defaults = .none
  d__law_of : ∃ (f : Addr) (fd : FuncData), Def K mg "_law_of" s__law_of f fd ∧ fd.defaults = .none
  d__law_like : ∃ (f : Addr) (fd : FuncData), Def K mg "_law_like" s__law_like f fd ∧ fd.defaults = .none
  d__law_is_number : ∃ (f : Addr) (fd : FuncData), Def K mg "_law_is_number" s__law_is_number f fd ∧ fd.defaults = .none
  d__law_is_title : ∃ (f : Addr) (fd : FuncData), Def K mg "_law_is_title" s__law_is_title f fd ∧ fd.defaults = .none
  d__law_odd : ∃ (f : Addr) (fd : FuncData), Def K mg "_law_odd" s__law_odd f fd ∧ fd.defaults = .none
  d__law_within : ∃ (f : Addr) (fd : FuncData), Def K mg "_law_within" s__law_within f fd ∧ fd.defaults = .none
  d__law_far : ∃ (f : Addr) (fd : FuncData), Def K mg "_law_far" s__law_far f fd ∧ fd.defaults = .none
  d__law_text : ∃ (f : Addr) (fd : FuncData), Def K mg "_law_text" s__law_text f fd ∧ fd.defaults = .none
  d__law_names_so : ∃ (f : Addr) (fd : FuncData), Def K mg "_law_names_so" s__law_names_so f fd ∧ fd.defaults = .none
  d__law_numbers_so : ∃ (f : Addr) (fd : FuncData), Def K mg "_law_numbers_so" s__law_numbers_so f fd ∧ fd.defaults = .none
  d_law : ∃ (f : Addr) (fd : FuncData), Def K mg "law" s_law f fd ∧ fd.defaults = .none
  all : mg "all" = none
  bool : mg "bool" = none
  dict : mg "dict" = none
  int : mg "int" = none
  isinstance : mg "isinstance" = none
  len : mg "len" = none
  list : mg "list" = none
  range : mg "range" = none
  str : mg "str" = none
  tuple : mg "tuple" = none
  zip : mg "zip" = none
  m_MOST : ∃ u, mg "MOST" = some u ∧ RelV (.int 1000000) u
  m_PLENTY : ∃ u, mg "PLENTY" = some u ∧ RelV (.int 1000000000) u
  m_WHEEL : ∃ u, mg "WHEEL" = some u ∧ RelV (.str "car") u
  m_LETTERS : ∃ u, mg "LETTERS" = some u ∧ RelV (.int 8) u
end Fb

set_option Elab.async false
set_option linter.all false
set_option maxRecDepth 100000
set_option maxHeartbeats 4000000
namespace Fb
open PySem PySem.Spec L2
open PyProof.Rows hiding St
open C8 (Cal Met Mak Def cal0 met0 mak0 pe_c pe_mk pe_mt pe_mt0 fnScope fnBody fnArgs pss_cut tCut)
local macro_rules | `(tactic| walk_at "hp") => `(tactic| first | exact upd_same | assumption | (refine grow (by assumption) _ _ ?_; walk_at "hp") | (refine (show Same _ _ by assumption) _ _ ?_; walk_at "hp"))
local macro_rules | `(tactic| walk_at "sm") => `(tactic| first | exact Same.refl _ | assumption | (refine Same.trans ?_ (grow (by assumption)); walk_at "sm") | (refine Same.trans ?_ (show Same _ _ by assumption); walk_at "sm"))
section
variable {P : Program} {w : World} {K : PySem.W.Frag} {mg : Str → Option Value} {base : Heap}
/-! ### _law_bag -/
theorem cut_ints (ns : List Int) (lo hi : Option Int) : ∃ ms : List Int, cutV (ns.map V.int) lo hi = ms.map V.int := by
  unfold cutV
  rw [← List.map_drop, ← List.map_take]
  exact ⟨_, rfl⟩
def spBag (K : PySem.W.Frag) : Sp := sp1 fun a H Q => ∃ (l : Addr) (ns : List Int), a = .ref l ∧ SqL K H l (ns.map V.int) ∧ ∀ p H', Same H H' → BagAt H' p → Q (.ref p) H'
theorem c__law_bag (T : Top K mg) : Cal P w K mg base 1 "_law_bag" (spBag K) [] := by
  obtain ⟨f, fd, F, df⟩ := T.d__law_bag
  refine cal_of F df (fn1 F sc__law_bag fun cdv A outer s H a Q E hr h => ?_) fun _ _ _ _ _ _ us hl => match us, hl with | [_], _ => rfl
  have nd := sc__law_bag.nd
  obtain ⟨l, ns, rfl, hs, k⟩ := h
  refine ⟨_, pss_bagNew (pss_cons 
      (ps_set (i := 1) nd rfl (Or.inl rfl) pe_int) (pss_cons 
      (ps_for PassesOwn.never rfl (pi_K (K := K) rfl (pe_slice (sl_K (K := K) rfl) (pv 0) po_none (po_some pe_int))) (pg_name (i := 2) nd rfl (Or.inl rfl)) (pss_one 
      (ps_set (i := 1) nd rfl (Or.inl rfl) (pe_op op_mod (pe_callTy call_int1 (by rfl) T.int (by decide +kernel) (pa_cons (pe_op op_addU (pe_op op_addU (pe_op op_mul (pv 1) pe_int) (pe_op op_mul (pe_op op_mod (pe_callTy call_int1 (by rfl) T.int (by decide +kernel) (pa_cons (pv 2) pa_nil)) pe_int) pe_int)) pe_int) pa_nil)) pe_int)))) (pss_one 
      (ps_ret (pe_lst (pa_cons (pe_callTy (listOf_K (K := K) rfl) (by rfl) T.list (by decide +kernel) (pa_cons (pe_slice (sl_K (K := K) rfl) (pv 0) po_none (po_some pe_int)) pa_nil)) (pa_cons pe_int (pa_cons pe_int (pa_cons (pv 1) (pa_cons pe_int pa_nil)))))))))), ?_⟩
  -- for lump in script[:63]
  refine ⟨_, rfl, _, rfl, .inl ⟨l, _, rfl, hs, fun c nc => .inl ⟨c, rfl, ⟨_, SqL.of upd_same⟩, ?_⟩⟩⟩
  obtain ⟨ms, em⟩ := cut_ints ns none (some 63)
  rw [em]
  refine for_it (walk_list (xs := ms.map V.int)) (fun i σ H' => H' = upd H c (.lst (ms.map V.int)) ∧ ∃ (st : Int) (y : Option V), σ = [some (.ref l), some (.int st), y] ∧ 0 ≤ st ∧ st < 2147483629) ⟨rfl, _, _, rfl, by decide, by decide⟩ ?_ ?_ ?_
  · rintro i σ H' _ ⟨rfl, _⟩
    exact SqL.of upd_same
  · rintro i x σ H1 H2 hi ⟨rfl, st, y, rfl, s0, s1⟩ ⟨rfl, hx⟩
    obtain ⟨z, rfl⟩ : ∃ z, x = V.int z := by
      rw [List.getElem?_map] at hx
      cases e : ms[i]? with
      | none =>
        rw [e] at hx
        cases hx
      | some z =>
        rw [e] at hx
        exact ⟨z, (Option.some.inj hx).symm⟩
    refine ⟨_, rfl, _, _, rfl, rfl, .inr ⟨by decide, by decide⟩, _, rfl, .inl ⟨_, rfl, _, _, rfl, rfl, (by show (0 : Int) < _; decide), _, _, rfl, rfl, .inr ⟨by decide, by decide⟩, .inl ⟨_, _, rfl, rfl, .inl ⟨_, _, rfl, rfl, .inl ⟨_, rfl, _, _, rfl, rfl, (by show (0 : Int) < _; decide), ?_⟩⟩⟩⟩⟩
    exact ⟨rfl, _, _, rfl, Int.emod_nonneg _ (by decide), Int.emod_lt_of_pos _ (by decide)⟩
  · rintro σ H' ⟨rfl, st, y, rfl, s0, s1⟩
    -- return [list(script[:63]), 0, 0, stir, 0]
    have e1 : Same H (upd H c (.lst (ms.map V.int))) := grow nc
    refine ⟨_, rfl, _, rfl, .inl ⟨l, _, rfl, e1.seq hs, fun c2 n2 => ?_⟩⟩
    rw [em]
    refine ⟨c2, _, rfl, .inl (SqL.of upd_same), fun q nq => ⟨_, rfl, (by show 5 ≤ sizeLine; decide), fun p np => ?_⟩⟩
    have e2 := e1.trans (grow (o := .lst (ms.map V.int)) n2)
    have e3 := e2.trans (grow (o := .lst (ms.map V.int)) nq)
    have npq : q ≠ p := ne_of_none upd_same np
    refine ⟨p, q, rfl, 0, 0, st, 0, ⟨by decide, s0, s1⟩, upd_same, ?_⟩
    rw [upd_upd]
    refine k p _ (same_mut e3 (e3.free np)) ⟨q, ms, upd_same, ?_⟩
    rw [upd_ne npq, upd_same]

end
end Fb

set_option Elab.async false
set_option linter.all false
set_option maxRecDepth 100000
set_option maxHeartbeats 4000000
namespace Fb
open PySem PySem.Spec L2
open PyProof.Rows hiding St
open C8 (Cal Met Mak Def cal0 met0 mak0 pe_c pe_mk pe_mt pe_mt0 fnScope fnBody fnArgs pss_cut tCut)
local macro_rules | `(tactic| walk_at "hp") => `(tactic| first | exact upd_same | assumption | (refine grow (by assumption) _ _ ?_; walk_at "hp") | (refine (show Same _ _ by assumption) _ _ ?_; walk_at "hp"))
local macro_rules | `(tactic| walk_at "sm") => `(tactic| first | exact Same.refl _ | assumption | (refine Same.trans ?_ (grow (by assumption)); walk_at "sm") | (refine Same.trans ?_ (show Same _ _ by assumption); walk_at "sm"))
section
variable {P : Program} {w : World} {K : PySem.W.Frag} {mg : Str → Option Value} {base : Heap}
/-! ### _law_like -/
def spLike (K : PySem.W.Frag) (n : Nat) : Sp := sp2 fun a b H Q => ∃ d, Lk n d ∧ Dp K H a d ∧ Dp K H b d ∧ Then H Q (.bl true)
theorem c__law_like_n (T : Top K mg) : ∀ n, Cal P w K mg base (n + 1) "_law_like" (spLike K n) []
  | 0 => by
    obtain ⟨f, fd, F, df⟩ := T.d__law_like
    refine cal_of F df (fn2 F sc__law_like fun cdv A outer s H a b Q E hr h => ?_) fun _ _ _ _ _ _ us hl => match us, hl with | [_, _], _ => rfl
    obtain ⟨d, h, _⟩ := h
    exact h.elim
  | n + 1 => by
    have ih := @c__law_like_n T n
    obtain ⟨f, fd, F, df⟩ := T.d__law_like
    refine cal_of F df (fn2 F sc__law_like fun cdv A outer s H a b Q E hr h => ?_) fun _ _ _ _ _ _ us hl => match us, hl with | [_, _], _ => rfl
    have nd := sc__law_like.nd
    obtain ⟨d, lk, ha, hb, q⟩ := h
    refine ⟨_, (pss_cons 
      (ps_if (pt_val (pe_callB (isi_K (K := K) rfl) (by rfl) T.isinstance (by decide +kernel) (pa_cons (pv 1) (pa_cons (pe_tup (pa_cons (pe_bltn (v := .ty "list") (by rfl) T.list (by decide +kernel) rfl) (pa_cons (pe_bltn (v := .ty "tuple") (by rfl) T.tuple (by decide +kernel) rfl) pa_nil))) pa_nil)))) (pss_cons 
      (ps_if (PW.pt (pw_or (pt_cmpR (ne_K (K := K) rfl hr) (pe_callB (isi_K (K := K) rfl) (by rfl) T.isinstance (by decide +kernel) (pa_cons (pv 0) (pa_cons (pe_bltn (v := .ty "list") (by rfl) T.list (by decide +kernel) rfl) pa_nil))) (pe_callB (isi_K (K := K) rfl) (by rfl) T.isinstance (by decide +kernel) (pa_cons (pv 1) (pa_cons (pe_bltn (v := .ty "list") (by rfl) T.list (by decide +kernel) rfl) pa_nil))) (nomark _)) (pw_or1 (pt_cmpR (ne_K (K := K) rfl hr) (pe_callB (isi_K (K := K) rfl) (by rfl) T.isinstance (by decide +kernel) (pa_cons (pv 0) (pa_cons (pe_bltn (v := .ty "tuple") (by rfl) T.tuple (by decide +kernel) rfl) pa_nil))) (pe_callB (isi_K (K := K) rfl) (by rfl) T.isinstance (by decide +kernel) (pa_cons (pv 1) (pa_cons (pe_bltn (v := .ty "tuple") (by rfl) T.tuple (by decide +kernel) rfl) pa_nil))) (nomark _))))) (pss_one 
      (ps_ret pe_bl)) pss_nil) (pss_one 
      (ps_ret (pe_and (pe_cmpR (eq_K (K := K) rfl hr) (pe_callB (len_K (K := K) rfl) (by rfl) T.len (by decide +kernel) (pa_cons (pv 0) pa_nil)) (pe_callB (len_K (K := K) rfl) (by rfl) T.len (by decide +kernel) (pa_cons (pv 1) pa_nil)) (nomark _)) (pe_one (pe_callB (all_K (K := K) rfl rfl) (by rfl) T.all (by decide +kernel) (pa_cons (pe_lc (own := [("a", 3), ("b", 4)]) rfl nd (zip_K (K := K) rfl (by rfl) T.zip (pa_cons (pv 0) (pa_cons (pv 1) pa_nil))) (blkOk_by (N := ["told", "due", "k", "a", "b"]) (sc := fnScope s__law_like) (by decide +kernel)) (fun _ _ _ _ _ => (tup_K (K := K) (n := 2) rfl rfl (pgs_cons (pg_name (i := 3) nd rfl (Or.inl rfl)) (pgs_cons (pg_name (i := 4) nd rfl (Or.inl rfl)) pgs_nil)))) (fun _ _ _ _ _ => pts_nil) (fun _ _ _ _ _ => (pe_c ih hr (Nat.le_refl _) (by rfl) (pa_cons (pv 3) (pa_cons (pv 4) pa_nil))))) pa_nil))))))) pss_nil) (pss_cons 
      (ps_if (pt_val (pe_callB (isi_K (K := K) rfl) (by rfl) T.isinstance (by decide +kernel) (pa_cons (pv 1) (pa_cons (pe_bltn (v := .ty "dict") (by rfl) T.dict (by decide +kernel) rfl) pa_nil)))) (pss_cons 
      (ps_if (pt_not (pt_val (pe_callB (isi_K (K := K) rfl) (by rfl) T.isinstance (by decide +kernel) (pa_cons (pv 0) (pa_cons (pe_bltn (v := .ty "dict") (by rfl) T.dict (by decide +kernel) rfl) pa_nil))))) (pss_one 
      (ps_ret pe_bl)) pss_nil) (pss_one 
      (ps_ret (pe_c ih hr (Nat.le_refl _) (by rfl) (pa_cons (pe_lc (own := [("k", 2)]) rfl nd (pi_K (K := K) rfl (pv 0)) (blkOk_by (N := ["told", "due", "k", "a", "b"]) (sc := fnScope s__law_like) (by decide +kernel)) (fun _ _ _ _ _ => (pg_name (i := 2) nd rfl (Or.inl rfl))) (fun _ _ _ _ _ => pts_nil) (fun _ _ _ _ _ => (pe_lst (pa_cons (pv 2) (pa_cons (pe_ix (ix_K (K := K) rfl) (pv 0) (pv 2) (fun _ _ => rfl)) pa_nil))))) (pa_cons (pe_lc (own := [("k", 2)]) rfl nd (pi_K (K := K) rfl (pv 1)) (blkOk_by (N := ["told", "due", "k", "a", "b"]) (sc := fnScope s__law_like) (by decide +kernel)) (fun _ _ _ _ _ => (pg_name (i := 2) nd rfl (Or.inl rfl))) (fun _ _ _ _ _ => pts_nil) (fun _ _ _ _ _ => (pe_lst (pa_cons (pv 2) (pa_cons (pe_ix (ix_K (K := K) rfl) (pv 1) (pv 2) (fun _ _ => rfl)) pa_nil))))) pa_nil)))))) pss_nil) (pss_cons 
      (ps_if (PW.pt (pw_or (pt_cmpR op_isN (pv 1) pe_non (nomark _)) (pw_or1 (pt_cmpR op_isN (pv 0) pe_non (nomark _))))) (pss_one 
      (ps_ret (pe_and (pe_cmpR op_isN (pv 1) pe_non (nomark _)) (pe_one (pe_cmpR op_isN (pv 0) pe_non (nomark _)))))) pss_nil) (pss_cons 
      (ps_if (PW.pt (pw_or (pt_val (pe_callB (isi_K (K := K) rfl) (by rfl) T.isinstance (by decide +kernel) (pa_cons (pv 0) (pa_cons (pe_tup (pa_cons (pe_bltn (v := .ty "list") (by rfl) T.list (by decide +kernel) rfl) (pa_cons (pe_bltn (v := .ty "tuple") (by rfl) T.tuple (by decide +kernel) rfl) (pa_cons (pe_bltn (v := .ty "dict") (by rfl) T.dict (by decide +kernel) rfl) pa_nil)))) pa_nil)))) (pw_or1 (pt_cmpR (ne_K (K := K) rfl hr) (pe_callB (isi_K (K := K) rfl) (by rfl) T.isinstance (by decide +kernel) (pa_cons (pv 0) (pa_cons (pe_bltn (v := .ty "bool") (by rfl) T.bool (by decide +kernel) rfl) pa_nil))) (pe_callB (isi_K (K := K) rfl) (by rfl) T.isinstance (by decide +kernel) (pa_cons (pv 1) (pa_cons (pe_bltn (v := .ty "bool") (by rfl) T.bool (by decide +kernel) rfl) pa_nil))) (nomark _))))) (pss_one 
      (ps_ret pe_bl)) pss_nil) (pss_cons 
      (ps_if (PW.pt (pw_or (pt_cmpR (ne_K (K := K) rfl hr) (pe_callB (isi_K (K := K) rfl) (by rfl) T.isinstance (by decide +kernel) (pa_cons (pv 0) (pa_cons (pe_bltn (v := .ty "str") (by rfl) T.str (by decide +kernel) rfl) pa_nil))) (pe_callB (isi_K (K := K) rfl) (by rfl) T.isinstance (by decide +kernel) (pa_cons (pv 1) (pa_cons (pe_bltn (v := .ty "str") (by rfl) T.str (by decide +kernel) rfl) pa_nil))) (nomark _)) (pw_or1 (pt_cmpR (ne_K (K := K) rfl hr) (pe_callB (isi_K (K := K) rfl) (by rfl) T.isinstance (by decide +kernel) (pa_cons (pv 0) (pa_cons (pe_bltn (v := .ty "int") (by rfl) T.int (by decide +kernel) rfl) pa_nil))) (pe_callB (isi_K (K := K) rfl) (by rfl) T.isinstance (by decide +kernel) (pa_cons (pv 1) (pa_cons (pe_bltn (v := .ty "int") (by rfl) T.int (by decide +kernel) rfl) pa_nil))) (nomark _))))) (pss_one 
      (ps_ret pe_bl)) pss_nil) (pss_one 
      (ps_ret (pe_callTy call_bool1 (by rfl) T.bool (by decide +kernel) (pa_cons (pe_cmpR (eq_K (K := K) rfl hr) (pv 0) (pv 1) (nomark _)) pa_nil))))))))), ?_⟩
    have tb := dp_ty hb
    have ta := dp_ty ha
    cases d with
    | dict _ => exact lk.elim
    | none =>
      cases hb
      cases ha
      refine ⟨_, rfl, by decide, fun t nt => .inr ⟨_, _, ["list", "tuple"], "NoneType", false, rfl, upd_same, ty_mono .non (grow nt), by decide +kernel, _, rfl, iteF ?_⟩⟩
      refine ⟨_, rfl, .inl ⟨_, _, _, false, rfl, .base .non, by decide +kernel, _, rfl, iteF ?_⟩⟩
      refine ⟨_, rfl, rfl, _, rfl, iteT ⟨_, rfl, rfl, _, rfl, iteT ⟨_, rfl, rfl, q _ (grow nt)⟩⟩⟩
    | bool x =>
      cases hb
      cases ha
      refine ⟨_, rfl, by decide, fun t nt => .inr ⟨_, _, ["list", "tuple"], "bool", false, rfl, upd_same, .base (.bl x), by decide +kernel, _, rfl, iteF ?_⟩⟩
      refine ⟨_, rfl, .inl ⟨_, _, _, false, rfl, .base (.bl x), by decide +kernel, _, rfl, iteF ?_⟩⟩
      refine ⟨_, rfl, rfl, _, rfl, iteF ⟨_, rfl, rfl, _, rfl, iteF ?_⟩⟩
      refine ⟨_, rfl, by decide, fun t2 nt2 => .inr ⟨_, _, ["list", "tuple", "dict"], "bool", false, rfl, upd_same, .base (.bl x), by decide +kernel, _, rfl, iteF ?_⟩⟩
      refine ⟨_, rfl, .inl ⟨_, _, _, true, rfl, .base (.bl x), by decide +kernel, ⟨_, rfl, .inl ⟨_, _, _, true, rfl, .base (.bl x), by decide +kernel, .inl ⟨rfl, _, rfl, iteF ?_⟩⟩⟩⟩⟩
      refine ⟨_, rfl, .inl ⟨_, _, _, false, rfl, .base (.bl x), by decide +kernel, ⟨_, rfl, .inl ⟨_, _, _, false, rfl, .base (.bl x), by decide +kernel, .inl ⟨rfl, _, rfl, iteF ?_⟩⟩⟩⟩⟩
      refine ⟨_, rfl, .inl ⟨_, _, _, true, rfl, .base (.bl x), by decide +kernel, ⟨_, rfl, .inl ⟨_, _, _, true, rfl, .base (.bl x), by decide +kernel, .inl ⟨rfl, _, rfl, iteF ?_⟩⟩⟩⟩⟩
      refine ⟨_, rfl, _, rfl, .inl ⟨rfl, .inr ⟨_, rfl, ?_⟩⟩⟩
      rw [decide_eq_true (rfl : V.bl x = V.bl x)]
      exact q _ ((grow nt).trans (grow nt2))
    | int x =>
      cases hb
      cases ha
      refine ⟨_, rfl, by decide, fun t nt => .inr ⟨_, _, ["list", "tuple"], "int", false, rfl, upd_same, .base (.int x), by decide +kernel, _, rfl, iteF ?_⟩⟩
      refine ⟨_, rfl, .inl ⟨_, _, _, false, rfl, .base (.int x), by decide +kernel, _, rfl, iteF ?_⟩⟩
      refine ⟨_, rfl, rfl, _, rfl, iteF ⟨_, rfl, rfl, _, rfl, iteF ?_⟩⟩
      refine ⟨_, rfl, by decide, fun t2 nt2 => .inr ⟨_, _, ["list", "tuple", "dict"], "int", false, rfl, upd_same, .base (.int x), by decide +kernel, _, rfl, iteF ?_⟩⟩
      refine ⟨_, rfl, .inl ⟨_, _, _, false, rfl, .base (.int x), by decide +kernel, ⟨_, rfl, .inl ⟨_, _, _, false, rfl, .base (.int x), by decide +kernel, .inl ⟨rfl, _, rfl, iteF ?_⟩⟩⟩⟩⟩
      refine ⟨_, rfl, .inl ⟨_, _, _, false, rfl, .base (.int x), by decide +kernel, ⟨_, rfl, .inl ⟨_, _, _, false, rfl, .base (.int x), by decide +kernel, .inl ⟨rfl, _, rfl, iteF ?_⟩⟩⟩⟩⟩
      refine ⟨_, rfl, .inl ⟨_, _, _, true, rfl, .base (.int x), by decide +kernel, ⟨_, rfl, .inl ⟨_, _, _, true, rfl, .base (.int x), by decide +kernel, .inl ⟨rfl, _, rfl, iteF ?_⟩⟩⟩⟩⟩
      refine ⟨_, rfl, _, rfl, .inl ⟨rfl, .inr ⟨_, rfl, ?_⟩⟩⟩
      rw [decide_eq_true (rfl : V.int x = V.int x)]
      exact q _ ((grow nt).trans (grow nt2))
    | str x =>
      cases hb
      cases ha
      refine ⟨_, rfl, by decide, fun t nt => .inr ⟨_, _, ["list", "tuple"], "str", false, rfl, upd_same, .base (.str x), by decide +kernel, _, rfl, iteF ?_⟩⟩
      refine ⟨_, rfl, .inl ⟨_, _, _, false, rfl, .base (.str x), by decide +kernel, _, rfl, iteF ?_⟩⟩
      refine ⟨_, rfl, rfl, _, rfl, iteF ⟨_, rfl, rfl, _, rfl, iteF ?_⟩⟩
      refine ⟨_, rfl, by decide, fun t2 nt2 => .inr ⟨_, _, ["list", "tuple", "dict"], "str", false, rfl, upd_same, .base (.str x), by decide +kernel, _, rfl, iteF ?_⟩⟩
      refine ⟨_, rfl, .inl ⟨_, _, _, false, rfl, .base (.str x), by decide +kernel, ⟨_, rfl, .inl ⟨_, _, _, false, rfl, .base (.str x), by decide +kernel, .inl ⟨rfl, _, rfl, iteF ?_⟩⟩⟩⟩⟩
      refine ⟨_, rfl, .inl ⟨_, _, _, true, rfl, .base (.str x), by decide +kernel, ⟨_, rfl, .inl ⟨_, _, _, true, rfl, .base (.str x), by decide +kernel, .inl ⟨rfl, _, rfl, iteF ?_⟩⟩⟩⟩⟩
      refine ⟨_, rfl, .inl ⟨_, _, _, false, rfl, .base (.str x), by decide +kernel, ⟨_, rfl, .inl ⟨_, _, _, false, rfl, .base (.str x), by decide +kernel, .inl ⟨rfl, _, rfl, iteF ?_⟩⟩⟩⟩⟩
      refine ⟨_, rfl, _, rfl, .inl ⟨rfl, .inr ⟨_, rfl, ?_⟩⟩⟩
      rw [decide_eq_true (rfl : V.str x = V.str x)]
      exact q _ ((grow nt).trans (grow nt2))
    | list ds =>
      obtain ⟨hl, lks⟩ := lk
      cases hb with
      | lst sb db =>
      cases ha with
      | lst sa da =>
      rename_i bb ys aa xs
      have l1 := dpAll_len da
      have l2 := dpAll_len db
      refine ⟨_, rfl, by decide, fun t nt => .inr ⟨_, _, ["list", "tuple"], "list", true, rfl, upd_same, sql_ty (Same.seq (grow nt) sb), by decide +kernel, _, rfl, iteT ?_⟩⟩
      have sa := Same.seq (grow (o := .tup (["list", "tuple"].map V.ty)) nt) sa
      have sb := Same.seq (grow (o := .tup (["list", "tuple"].map V.ty)) nt) sb
      have da := dpAll_mono (grow (o := .tup (["list", "tuple"].map V.ty)) nt) ds da
      have db := dpAll_mono (grow (o := .tup (["list", "tuple"].map V.ty)) nt) ds db
      refine ⟨_, rfl, .inl ⟨_, _, _, true, rfl, sql_ty sa, by decide +kernel, ⟨_, rfl, .inl ⟨_, _, _, true, rfl, sql_ty sb, by decide +kernel, .inl ⟨rfl, _, rfl, iteF ?_⟩⟩⟩⟩⟩
      refine ⟨_, rfl, .inl ⟨_, _, _, false, rfl, sql_ty sa, by decide +kernel, ⟨_, rfl, .inl ⟨_, _, _, false, rfl, sql_ty sb, by decide +kernel, .inl ⟨rfl, _, rfl, iteF ?_⟩⟩⟩⟩⟩
      refine ⟨_, rfl, .inl ⟨_, _, rfl, .inl sa, ⟨_, rfl, .inl ⟨_, _, rfl, .inl sb, .inl ⟨rfl, _, rfl, ?_⟩⟩⟩⟩⟩
      rw [decide_eq_true (show V.int xs.length = V.int ys.length by rw [l1, l2])]
      refine iteT ⟨_, rfl, _, rfl, _, _, xs, ys, rfl, .inl ⟨sa, sb, fun D hD => ?_⟩⟩
      refine lc_map (walk_zip (n := ds.length) (by omega)) (fun _ => .bl true) grow_pair hl hD (fun H1 e => ⟨Same.seq e sa, Same.seq e sb⟩) ?_ ?_
      · rintro i x H1 H2 hi e ⟨T, x1, x2, rfl, nT, rfl, g1, g2⟩ R k
        obtain ⟨d1, h1, p1⟩ := dpAll_get da g1
        obtain ⟨d2, h2, p2⟩ := dpAll_get db g2
        have ed : d2 = d1 := Option.some.inj (h2.symm.trans h1)
        subst ed
        have e2 := e.trans (grow (o := .tup [x1, x2]) nT)
        exact ⟨T, [x1, x2], rfl, SqT.of upd_same, rfl, x1, [x2], rfl, x2, [], rfl, rfl, rfl, _, rfl, _, rfl, _, _, rfl, d2, lk_item lks h1, dp_mono e2 _ p1, dp_mono e2 _ p2, k⟩
      · intro H1 e hd
        refine ⟨D, (List.range ds.length).map fun _ => true, rfl, SqL.of (by rw [hd, List.map_map]; rfl), ?_⟩
        rw [all_true]
        exact q _ ((grow nt).trans e)
    | tuple ds =>
      obtain ⟨hl, lks⟩ := lk
      cases hb with
      | tup sb db =>
      cases ha with
      | tup sa da =>
      rename_i bb ys aa xs
      have l1 := dpAll_len da
      have l2 := dpAll_len db
      refine ⟨_, rfl, by decide, fun t nt => .inr ⟨_, _, ["list", "tuple"], "tuple", true, rfl, upd_same, sqt_ty (same_tup (grow nt) sb), by decide +kernel, _, rfl, iteT ?_⟩⟩
      have sa := same_tup (grow (o := .tup (["list", "tuple"].map V.ty)) nt) sa
      have sb := same_tup (grow (o := .tup (["list", "tuple"].map V.ty)) nt) sb
      have da := dpAll_mono (grow (o := .tup (["list", "tuple"].map V.ty)) nt) ds da
      have db := dpAll_mono (grow (o := .tup (["list", "tuple"].map V.ty)) nt) ds db
      refine ⟨_, rfl, .inl ⟨_, _, _, false, rfl, sqt_ty sa, by decide +kernel, ⟨_, rfl, .inl ⟨_, _, _, false, rfl, sqt_ty sb, by decide +kernel, .inl ⟨rfl, _, rfl, iteF ?_⟩⟩⟩⟩⟩
      refine ⟨_, rfl, .inl ⟨_, _, _, true, rfl, sqt_ty sa, by decide +kernel, ⟨_, rfl, .inl ⟨_, _, _, true, rfl, sqt_ty sb, by decide +kernel, .inl ⟨rfl, _, rfl, iteF ?_⟩⟩⟩⟩⟩
      refine ⟨_, rfl, .inl ⟨_, _, rfl, .inr sa, ⟨_, rfl, .inl ⟨_, _, rfl, .inr sb, .inl ⟨rfl, _, rfl, ?_⟩⟩⟩⟩⟩
      rw [decide_eq_true (show V.int xs.length = V.int ys.length by rw [l1, l2])]
      refine iteT ⟨_, rfl, _, rfl, _, _, xs, ys, rfl, .inr ⟨sa, sb, fun D hD => ?_⟩⟩
      refine lc_map (walk_zipT (n := ds.length) (by omega)) (fun _ => .bl true) grow_pair hl hD (fun H1 e => ⟨same_tup e sa, same_tup e sb⟩) ?_ ?_
      · rintro i x H1 H2 hi e ⟨T, x1, x2, rfl, nT, rfl, g1, g2⟩ R k
        obtain ⟨d1, h1, p1⟩ := dpAll_get da g1
        obtain ⟨d2, h2, p2⟩ := dpAll_get db g2
        have ed : d2 = d1 := Option.some.inj (h2.symm.trans h1)
        subst ed
        have e2 := e.trans (grow (o := .tup [x1, x2]) nT)
        exact ⟨T, [x1, x2], rfl, SqT.of upd_same, rfl, x1, [x2], rfl, x2, [], rfl, rfl, rfl, _, rfl, _, rfl, _, _, rfl, d2, lk_item lks h1, dp_mono e2 _ p1, dp_mono e2 _ p2, k⟩
      · intro H1 e hd
        refine ⟨D, (List.range ds.length).map fun _ => true, rfl, SqL.of (by rw [hd, List.map_map]; rfl), ?_⟩
        rw [all_true]
        exact q _ ((grow nt).trans e)
theorem c__law_like (T : Top K mg) : Cal P w K mg base 8 "_law_like" (spLike K 7) [] := c__law_like_n T 7

end
end Fb

set_option Elab.async false
set_option linter.all false
set_option maxRecDepth 100000
set_option maxHeartbeats 4000000
namespace Fb
open PySem PySem.Spec L2
open PyProof.Rows hiding St
open C8 (Cal Met Mak Def cal0 met0 mak0 pe_c pe_mk pe_mt pe_mt0 fnScope fnBody fnArgs pss_cut tCut)
local macro_rules | `(tactic| walk_at "hp") => `(tactic| first | exact upd_same | assumption | (refine grow (by assumption) _ _ ?_; walk_at "hp") | (refine (show Same _ _ by assumption) _ _ ?_; walk_at "hp"))
local macro_rules | `(tactic| walk_at "sm") => `(tactic| first | exact Same.refl _ | assumption | (refine Same.trans ?_ (grow (by assumption)); walk_at "sm") | (refine Same.trans ?_ (show Same _ _ by assumption); walk_at "sm"))
section
variable {P : Program} {w : World} {K : PySem.W.Frag} {mg : Str → Option Value} {base : Heap}
/-! ### _law_draw -/
def spDraw : Sp := sp2 fun a b H Q => ∃ (p : Addr) (n : Int), a = .ref p ∧ b = .int n ∧ BagAt H p ∧ 0 < n ∧ n.natAbs.log2 < 9000 ∧ ∀ d : Int, 0 ≤ d → d < n → Q (.int d) H
theorem c__law_draw (T : Top K mg) : Cal P w K mg base 1 "_law_draw" spDraw [] := by
  obtain ⟨f, fd, F, df⟩ := T.d__law_draw
  refine cal_of F df (fn2 F sc__law_draw fun cdv A outer s H a b Q E hr h => ?_) fun _ _ _ _ _ _ us hl => match us, hl with | [_, _], _ => rfl
  have nd := sc__law_draw.nd
  obtain ⟨p, n, rfl, rfl, ⟨q, ns, hp, hq⟩, h0, h9, k⟩ := h
  have npq : q ≠ p := fun e => by
    rw [e, hp] at hq
    cases hq
  have hq' : ∀ L, upd H p (.lst L) q = some (.lst (ns.map V.int)) := fun L => by
    rw [upd_ne npq]
    exact hq
  refine ⟨_, pss_bag (pss_cons 
      (ps_asg (pe_op op_addU (pe_ix (ix_K (K := K) rfl) (pv 0) pe_int (fun _ _ => rfl)) pe_int) (pg_sub (pv 0) pe_int set_list)) (pss_cut 
      (ps_if (PW.pt (pw_and (pt_cmpR (eq_K (K := K) rfl hr) (pe_ix (ix_K (K := K) rfl) (pv 0) pe_int (fun _ _ => rfl)) pe_int (nomark _)) (pw_and1 (pt_cmpR (lt_K (K := K) rfl hr) (pe_ix (ix_K (K := K) rfl) (pv 0) pe_int (fun _ _ => rfl)) (pe_callB (len_K (K := K) rfl) (by rfl) T.len (by decide +kernel) (pa_cons (pe_ix (ix_K (K := K) rfl) (pv 0) pe_int (fun _ _ => rfl)) pa_nil)) (nomark _))))) (pss_cons 
      (ps_set (i := 2) nd rfl (Or.inl rfl) (pe_callTy call_int1 (by rfl) T.int (by decide +kernel) (pa_cons (pe_ix (ix_K (K := K) rfl) (pe_ix (ix_K (K := K) rfl) (pv 0) pe_int (fun _ _ => rfl)) (pe_ix (ix_K (K := K) rfl) (pv 0) pe_int (fun _ _ => rfl)) (fun _ _ => rfl)) pa_nil))) (pss_cons 
      (ps_asg (pe_op op_addU (pe_ix (ix_K (K := K) rfl) (pv 0) pe_int (fun _ _ => rfl)) pe_int) (pg_sub (pv 0) pe_int set_list)) (pss_one 
      (ps_if (pt_cmpR op_geU (pv 2) (pe_op op_pow pe_int pe_int) (nomark _)) (pss_one 
      (ps_asg (pv 2) (pg_sub (pv 0) pe_int set_list))) (pss_one 
      (ps_asg (pe_op op_mod (pe_callTy call_int1 (by rfl) T.int (by decide +kernel) (pa_cons (pe_op op_addU (pe_op op_addU (pe_op op_mul (pe_ix (ix_K (K := K) rfl) (pv 0) pe_int (fun _ _ => rfl)) pe_int) (pe_op op_mul (pe_op op_mod (pv 2) pe_int) pe_int)) pe_int) pa_nil)) pe_int) (pg_sub (pv 0) pe_int set_list))))))) pss_nil) (pss_cons 
      (ps_if (pt_cmpR op_gtU (pe_ix (ix_K (K := K) rfl) (pv 0) pe_int (fun _ _ => rfl)) pe_int (nomark _)) (pss_cons 
      (ps_set (i := 3) nd rfl (Or.inl rfl) (pe_op op_mod (pe_callTy call_int1 (by rfl) T.int (by decide +kernel) (pa_cons (pe_ix (ix_K (K := K) rfl) (pv 0) pe_int (fun _ _ => rfl)) pa_nil)) (pv 1))) (pss_cons 
      (ps_asg (pe_op op_fdivW (pe_ix (ix_K (K := K) rfl) (pv 0) pe_int (fun _ _ => rfl)) (pv 1)) (pg_sub (pv 0) pe_int set_list)) (pss_one 
      (ps_ret (pv 3))))) pss_nil) (pss_cons 
      (ps_asg (pe_op op_mod (pe_callTy call_int1 (by rfl) T.int (by decide +kernel) (pa_cons (pe_op op_addU (pe_op op_addU (pe_op op_pow (pe_ix (ix_K (K := K) rfl) (pv 0) pe_int (fun _ _ => rfl)) pe_int) (pe_op op_mul (pe_ix (ix_K (K := K) rfl) (pv 0) pe_int (fun _ _ => rfl)) pe_int)) pe_int) pa_nil)) pe_int) (pg_sub (pv 0) pe_int set_list)) (pss_one 
      (ps_ret (pe_op op_mod (pe_callTy call_int1 (by rfl) T.int (by decide +kernel) (pa_cons (pe_op op_addU (pe_op op_fdivW (pe_ix (ix_K (K := K) rfl) (pv 0) pe_int (fun _ _ => rfl)) pe_int) (pe_op op_mul (pe_op op_mod (pe_callTy call_int1 (by rfl) T.int (by decide +kernel) (pa_cons (pe_ix (ix_K (K := K) rfl) (pv 0) pe_int (fun _ _ => rfl)) pa_nil)) pe_int) pe_int)) pa_nil)) (pv 1)))))))), ?_⟩
  refine ⟨p, q, hp, fun i c st t bk => ?_⟩
  obtain ⟨bi, b0, b1⟩ := id bk
  have md : ∀ x m : Int, 0 < m → m < 2147483629 → 0 ≤ x % m ∧ x % m < 2147483629 := fun x m h1 h2 =>
    ⟨Int.emod_nonneg _ (by omega), Int.lt_trans (Int.emod_lt_of_pos _ h1) h2⟩
  -- bag[4] = bag[4] + 1
  refine ⟨_, rfl, rd_bag rfl (.inl ⟨_, _, rfl, rfl, ⟨_, rfl, set_bag rfl ?_⟩⟩)⟩
  -- behind the first if: a bag, whatever it holds
  refine ⟨fun σ H' => ∃ i c st t y, BagOk i st ∧ H' = upd H p (.lst (bagL q i c st t)) ∧ σ = [some (.ref p), some (.int n), y, none], ?_, ?_⟩
  -- if bag[2] == 0 and ..
  · refine ⟨_, rfl, rd_bag rfl (.inl ⟨rfl, _, rfl, ite2 (fun ec => ?_) (fun ec => ?_)⟩)⟩
    · refine ⟨_, rfl, rd_bag rfl ⟨_, rfl, rd_bag rfl (.inl ⟨q, _, rfl, .inl (SqL.of (hq' _)), .inl ⟨_, _, rfl, rfl, _, rfl, ite2 (fun ei => ?_) (fun ei => ?_)⟩⟩)⟩⟩
      · have ei := of_decide_eq_true ei
        rw [List.length_map] at ei
        obtain ⟨j, rfl⟩ := Int.eq_ofNat_of_zero_le bi
        have hj : j < ns.length := by omega
        have gj : atI (ns.map V.int) (j : Int) = some (.int ns[j]) := atI_nat (by rw [List.getElem?_map, List.getElem?_eq_getElem hj]; rfl)
        -- lump = int(bag[0][bag[1]]); bag[1] = bag[1] + 1
        refine ⟨_, rfl, rd_bag rfl ⟨_, rfl, rd_bag rfl (.inl ⟨q, _, _, _, rfl, rfl, SqL.of (hq' _), gj, .inl ⟨_, rfl, ?_⟩⟩)⟩⟩
        refine ⟨_, rfl, rd_bag rfl (.inl ⟨_, _, rfl, rfl, ⟨_, rfl, set_bag rfl ?_⟩⟩)⟩
        refine ⟨_, rfl, _, _, rfl, rfl, ⟨by decide, by decide, by decide⟩, _, _, rfl, rfl, _, rfl, ite2 (fun el => ?_) (fun el => ?_)⟩
        · refine ⟨_, rfl, _, rfl, set_bag rfl ?_⟩
          exact ⟨(j : Int) + 1, ns[j], st, t + 1, _, ⟨by omega, b0, b1⟩, rfl, rfl⟩
        · refine ⟨_, rfl, rd_bag rfl ⟨_, _, rfl, rfl, .inr ⟨by decide, by decide⟩, _, rfl, _, _, rfl, rfl, (by show (0 : Int) < _; decide), _, _, rfl, rfl, .inr ⟨by decide, by decide⟩, .inl ⟨_, _, rfl, rfl, .inl ⟨_, _, rfl, rfl, .inl ⟨_, rfl, _, _, rfl, rfl, (by show (0 : Int) < _; decide), _, rfl, set_bag rfl ?_⟩⟩⟩⟩⟩
          obtain ⟨m1, m2⟩ := md (st * 69621 + ns[j] % 2147483549 * 271 + 97) 2147483579 (by decide) (by decide)
          exact ⟨(j : Int) + 1, c, _, t + 1, _, ⟨by omega, m1, m2⟩, rfl, rfl⟩
      · exact ⟨i, c, st, t + 1, _, bk, rfl, rfl⟩
    · exact iteF ⟨i, c, st, t + 1, _, bk, rfl, rfl⟩
  · rintro σ H' ⟨i, c, st, t, y, ⟨bi, b0, b1⟩, rfl, rfl⟩
    -- if bag[2] > 0
    refine ⟨_, rfl, rd_bag rfl ⟨_, _, rfl, rfl, _, rfl, ite2 (fun ec => ?_) (fun ec => ?_)⟩⟩
    · refine ⟨_, rfl, rd_bag rfl (.inl ⟨_, rfl, _, rfl, _, _, rfl, rfl, h0, ?_⟩)⟩
      refine ⟨_, rfl, rd_bag rfl ⟨_, rfl, _, _, rfl, rfl, ⟨h0, h9⟩, _, rfl, set_bag rfl ?_⟩⟩
      exact ⟨_, rfl, shut_bag hp ⟨bi, b0, b1⟩ (k _ (Int.emod_nonneg _ (by omega)) (Int.emod_lt_of_pos _ h0))⟩
    · refine ⟨_, rfl, rd_bag rfl ⟨_, _, rfl, rfl, ⟨by decide, by decide, by omega⟩, _, rfl, rd_bag rfl ⟨_, _, rfl, rfl, .inr ⟨by decide, by decide⟩, .inl ⟨_, _, rfl, rfl, .inl ⟨_, _, rfl, rfl, .inl ⟨_, rfl, _, _, rfl, rfl, (by show (0 : Int) < _; decide), _, rfl, set_bag rfl ?_⟩⟩⟩⟩⟩⟩
      obtain ⟨m1, m2⟩ := md (st ^ (3 : Int).toNat + t * 1299709 + 60013) 2147483579 (by decide) (by decide)
      refine ⟨_, rfl, rd_bag rfl ⟨_, _, rfl, rfl, ⟨by decide, by decide⟩, _, rfl, rd_bag rfl (.inl ⟨_, rfl, _, _, rfl, rfl, (by show (0 : Int) < _; decide), _, _, rfl, rfl, .inr ⟨by decide, by decide⟩, .inl ⟨_, _, rfl, rfl, .inl ⟨_, rfl, _, rfl, _, _, rfl, rfl, h0, ?_⟩⟩⟩)⟩⟩
      exact shut_bag hp ⟨bi, m1, m2⟩ (k _ (Int.emod_nonneg _ (by omega)) (Int.emod_lt_of_pos _ h0))

end
end Fb

set_option Elab.async false
set_option linter.all false
set_option maxRecDepth 100000
set_option maxHeartbeats 4000000
namespace Fb
open PySem PySem.Spec L2
open PyProof.Rows hiding St
open C8 (Cal Met Mak Def cal0 met0 mak0 pe_c pe_mk pe_mt pe_mt0 fnScope fnBody fnArgs pss_cut tCut)
local macro_rules | `(tactic| walk_at "hp") => `(tactic| first | exact upd_same | assumption | (refine grow (by assumption) _ _ ?_; walk_at "hp") | (refine (show Same _ _ by assumption) _ _ ?_; walk_at "hp"))
local macro_rules | `(tactic| walk_at "sm") => `(tactic| first | exact Same.refl _ | assumption | (refine Same.trans ?_ (grow (by assumption)); walk_at "sm") | (refine Same.trans ?_ (show Same _ _ by assumption); walk_at "sm"))
section
variable {P : Program} {w : World} {K : PySem.W.Frag} {mg : Str → Option Value} {base : Heap}
/-! ### _law_of -/
def spOf (K : PySem.W.Frag) : Sp := sp2 fun a b H Q => ∃ (p : Addr), a = .ref p ∧ BagAt H p ∧
  ((∃ (l : Addr) (xs : List V), b = .ref l ∧ (SqL K H l xs ∨ SqT K H l xs) ∧ 0 < xs.length ∧ xs.length ≤ 100000 ∧ ∀ x ∈ xs, Q x H) ∨
    ∃ z : Str, b = .str z ∧ 0 < z.length ∧ z.length ≤ 100000 ∧ ∀ c ∈ z.cps.toList, Q (.str ⟨#[c]⟩) H)
theorem c__law_of (T : Top K mg) : Cal P w K mg base 2 "_law_of" (spOf K) [] := by
  obtain ⟨f, fd, F, df⟩ := T.d__law_of
  refine cal_of F df (fn2 F sc__law_of fun cdv A outer s H a b Q E hr h => ?_) fun _ _ _ _ _ _ us hl => match us, hl with | [_, _], _ => rfl
  have nd := sc__law_of.nd
  obtain ⟨p, rfl, hb, h⟩ := h
  refine ⟨_, (pss_one 
      (ps_ret (pe_ix (ix_K (K := K) rfl) (pv 1) (pe_c (c__law_draw T) hr (by decide) (by rfl) (pa_cons (pv 0) (pa_cons (pe_callB (len_K (K := K) rfl) (by rfl) T.len (by decide +kernel) (pa_cons (pv 1) pa_nil)) pa_nil))) (fun _ _ => rfl)))), ?_⟩
  rcases h with ⟨l, xs, rfl, hs, h0, h1, q⟩ | ⟨z, rfl, h0, h1, q⟩
  · refine ⟨_, rfl, _, rfl, _, rfl, .inl ⟨l, xs, rfl, hs, _, _, rfl, p, _, rfl, rfl, hb, by omega, small_log (by omega) (by omega), fun d d0 d1 => ?_⟩⟩
    obtain ⟨j, rfl⟩ := Int.eq_ofNat_of_zero_le d0
    have hj : j < xs.length := by omega
    have g : atI xs (j : Int) = some xs[j] := atI_nat (List.getElem?_eq_getElem hj)
    have k := q _ (List.getElem_mem hj)
    rcases hs with hs | hs
    · exact .inl ⟨l, xs, _, _, rfl, rfl, hs, g, k⟩
    · exact .inr (.inl ⟨l, xs, _, _, rfl, rfl, hs, g, k⟩)
  · refine ⟨_, rfl, _, rfl, _, rfl, .inr ⟨z, rfl, size5' h1, _, _, rfl, p, _, rfl, rfl, hb, by omega, small_log (by omega) (by omega), fun d d0 d1 => ?_⟩⟩
    obtain ⟨j, rfl⟩ := Int.eq_ofNat_of_zero_le d0
    have hj : j < z.cps.toList.length := by
      have : z.length = z.cps.size := rfl
      rw [← str_len]
      omega
    exact .inr (.inr ⟨z, _, _, rfl, rfl, size5' h1, atI_nat (List.getElem?_eq_getElem hj), q _ (List.getElem_mem hj)⟩)

end
end Fb

set_option Elab.async false
set_option linter.all false
set_option maxRecDepth 100000
set_option maxHeartbeats 4000000
namespace Fb
open PySem PySem.Spec L2
open PyProof.Rows hiding St
open C8 (Cal Met Mak Def cal0 met0 mak0 pe_c pe_mk pe_mt pe_mt0 fnScope fnBody fnArgs pss_cut tCut)
local macro_rules | `(tactic| walk_at "hp") => `(tactic| first | exact upd_same | assumption | (refine grow (by assumption) _ _ ?_; walk_at "hp") | (refine (show Same _ _ by assumption) _ _ ?_; walk_at "hp"))
local macro_rules | `(tactic| walk_at "sm") => `(tactic| first | exact Same.refl _ | assumption | (refine Same.trans ?_ (grow (by assumption)); walk_at "sm") | (refine Same.trans ?_ (show Same _ _ by assumption); walk_at "sm"))
section
variable {P : Program} {w : World} {K : PySem.W.Frag} {mg : Str → Option Value} {base : Heap}
/-! ### _law_far -/
def spFar : Sp := sp1 fun a H Q => ∃ (p : Addr), a = .ref p ∧ BagAt H p ∧ ∀ (i : Int) (H' : Hp), Same H H' → -9999990000 < i → i < 9999990000 → Q (.int i) H'
theorem c__law_far (T : Top K mg) : Cal P w K mg base 3 "_law_far" spFar [] := by
  obtain ⟨f, fd, F, df⟩ := T.d__law_far
  refine cal_of F df (fn1 F sc__law_far fun cdv A outer s H a Q E hr h => ?_) fun _ _ _ _ _ _ us hl => match us, hl with | [_], _ => rfl
  have nd := sc__law_far.nd
  obtain ⟨p, rfl, hb, k⟩ := h
  refine ⟨_, (pss_cons 
      (ps_set (i := 1) nd rfl (Or.inl rfl) (pe_c (c__law_draw T) hr (by decide) (by rfl) (pa_cons (pv 0) (pa_cons (pe_c (c__law_of T) hr (by decide) (by rfl) (pa_cons (pv 0) (pa_cons (pe_lst (pa_cons pe_int (pa_cons pe_int (pa_cons pe_int (pa_cons pe_int (pa_cons pe_int pa_nil)))))) pa_nil))) pa_nil)))) (pss_one 
      (ps_ret (pe_ifExp (pt_cmpR op_gtU (pe_c (c__law_draw T) hr (by decide) (by rfl) (pa_cons (pv 0) (pa_cons pe_int pa_nil))) pe_int (nomark _)) (pv 1) (pe_un un_neg (pv 1)))))), ?_⟩
  refine ⟨_, rfl, _, rfl, by decide, fun l nl => ?_⟩
  have e1 : Same H _ := grow (o := .lst [.int 2, .int 10, .int 100, .int 1000001, .int 9999990000]) nl
  refine ⟨_, _, rfl, p, rfl, hb.mono e1, .inl ⟨l, _, rfl, .inl (SqL.of upd_same), by decide, by decide, fun x hx => ?_⟩⟩
  obtain ⟨n, rfl, n0, n1⟩ : ∃ n : Int, x = .int n ∧ 0 < n ∧ n ≤ 9999990000 := by
    simp only [List.mem_cons, List.not_mem_nil, or_false] at hx
    rcases hx with rfl | rfl | rfl | rfl | rfl
    all_goals exact ⟨_, rfl, by decide, by decide⟩
  refine ⟨_, _, rfl, p, n, rfl, rfl, hb.mono e1, n0, small_log (by omega) (by omega), fun d d0 d1 => ?_⟩
  refine ⟨_, rfl, _, _, rfl, p, 3, rfl, rfl, hb.mono e1, by decide, small_log (by decide) (by decide), fun d2 _ _ => ⟨_, _, rfl, rfl, _, rfl, ite2 (fun _ => ?_) (fun _ => ?_)⟩⟩
  · exact ⟨_, rfl, k d _ e1 (by omega) (by omega)⟩
  · exact ⟨_, rfl, _, rfl, k (-d) _ e1 (by omega) (by omega)⟩

end
end Fb

set_option Elab.async false
set_option linter.all false
set_option maxRecDepth 100000
set_option maxHeartbeats 4000000
namespace Fb
open PySem PySem.Spec L2
open PyProof.Rows hiding St
open C8 (Cal Met Mak Def cal0 met0 mak0 pe_c pe_mk pe_mt pe_mt0 fnScope fnBody fnArgs pss_cut tCut)
local macro_rules | `(tactic| walk_at "hp") => `(tactic| first | exact upd_same | assumption | (refine grow (by assumption) _ _ ?_; walk_at "hp") | (refine (show Same _ _ by assumption) _ _ ?_; walk_at "hp"))
local macro_rules | `(tactic| walk_at "sm") => `(tactic| first | exact Same.refl _ | assumption | (refine Same.trans ?_ (grow (by assumption)); walk_at "sm") | (refine Same.trans ?_ (show Same _ _ by assumption); walk_at "sm"))
section
variable {P : Program} {w : World} {K : PySem.W.Frag} {mg : Str → Option Value} {base : Heap}
/-! ### _law_text -/
def spText (K : PySem.W.Frag) : Sp := sp1 fun a H Q => ∃ (p : Addr), a = .ref p ∧ BagAt H p ∧ ∀ (z : Str) H', Same H H' → z.length ≤ 100 → Q (.str z) H'
theorem c__law_text (T : Top K mg) : Cal P w K mg base 3 "_law_text" (spText K) [] := by
  obtain ⟨f, fd, F, df⟩ := T.d__law_text
  refine cal_of F df (fn1 F sc__law_text fun cdv A outer s H a Q E hr h => ?_) fun _ _ _ _ _ _ us hl => match us, hl with | [_], _ => rfl
  have nd := sc__law_text.nd
  obtain ⟨p, rfl, hb, k⟩ := h
  refine ⟨_, (pss_cons 
      (ps_set (i := 1) nd rfl (Or.inl rfl) (pe_c (c__law_draw T) hr (by decide) (by rfl) (pa_cons (pv 0) (pa_cons pe_int pa_nil)))) (pss_cons 
      (ps_set (i := 2) nd rfl (Or.inr rfl) pe_str) (pss_cut 
      (ps_if (pt_cmpR (eq_K (K := K) rfl hr) (pv 1) pe_int (nomark _)) (pss_one 
      (ps_set (i := 2) nd rfl (Or.inr rfl) pe_str)) pss_nil) (pss_cons 
      (ps_set (i := 3) nd rfl (Or.inl rfl) (pe_c (c__law_of T) hr (by decide) (by rfl) (pa_cons (pv 0) (pa_cons (pe_lst (pa_cons pe_int (pa_cons pe_int (pa_cons pe_int (pa_cons pe_int (pa_cons pe_int (pa_cons pe_int (pa_cons pe_int (pa_cons pe_int (pa_cons pe_int (pa_cons (pe_c (c__law_draw T) hr (by decide) (by rfl) (pa_cons (pv 0) (pa_cons pe_int pa_nil))) pa_nil))))))))))) pa_nil)))) (pss_cons 
      (ps_setLc (i := 4) (own := [("k", 5)]) rfl nd rfl rfl (sw_true rfl rfl rfl (by decide +kernel)) (pi_range1 (by rfl) T.range (pa_cons (pv 3) pa_nil)) (blkOk_by (N := ["bag", "pick", "signs", "many", "found", "k"]) (sc := fnScope s__law_text) (by decide +kernel)) (fun _ _ _ _ _ => (pg_name (i := 5) nd rfl (Or.inl rfl))) (fun _ _ _ _ _ => pts_nil) (fun _ _ _ _ _ => (pe_c (c__law_of T) hr (by decide) (by rfl) (pa_cons (pv 0) (pa_cons (pv 2) pa_nil))))) (pss_cut 
      (ps_if (PW.pt (pw_and (pt_cmpR (eq_K (K := K) rfl hr) (pv 1) pe_int (nomark _)) (pw_and1 (pt_cmpR op_gtU (pv 3) pe_int (nomark _))))) (pss_one 
      (ps_asg (pe_c (c__law_of T) hr (by decide) (by rfl) (pa_cons (pv 0) (pa_cons (pe_lst (pa_cons pe_str (pa_cons pe_str (pa_cons pe_str (pa_cons pe_str (pa_cons pe_str (pa_cons pe_str (pa_cons pe_str (pa_cons pe_str pa_nil))))))))) pa_nil))) (pg_sub (pv 4) (pe_c (c__law_draw T) hr (by decide) (by rfl) (pa_cons (pv 0) (pa_cons (pv 3) pa_nil))) set_list))) pss_nil) (pss_one 
      (ps_ret (pe_join pe_str (pv 4)))))))))), ?_⟩
  refine ⟨_, rfl, _, _, rfl, p, 4, rfl, rfl, hb, by decide, small_log (by decide) (by decide), fun d _ _ => ?_⟩
  refine ⟨fun σ H' => H' = H ∧ ∃ sg : Str, σ = [some (.ref p), some (.int d), some (.str sg), none, none, none] ∧ 0 < sg.length ∧ sg.length ≤ 1000, ?_, ?_⟩
  · refine ⟨_, rfl, .inl ⟨rfl, _, rfl, ite2 (fun _ => ?_) (fun _ => ?_)⟩⟩
    · exact ⟨rfl, _, rfl, by decide +kernel, by decide +kernel⟩
    · exact ⟨rfl, _, rfl, by decide +kernel, by decide +kernel⟩
  · rintro σ H1 ⟨e1, sg, rfl, s0, s1⟩
    subst e1
    -- many = _law_of(bag, [..])
    refine ⟨_, rfl, _, rfl, _, _, rfl, p, 10, rfl, rfl, hb, by decide, small_log (by decide) (by decide), fun m m0 m1 => ⟨Nat.le_of_ble_eq_true rfl, fun l nl => ?_⟩⟩
    have e1 := grow (o := .lst [.int 0, .int 1, .int 2, .int 7, .int 8, .int 8, .int 9, .int 9, .int 12, .int m]) nl
    refine ⟨_, _, rfl, p, rfl, hb.mono e1, .inl ⟨l, _, rfl, .inl (SqL.of upd_same), Nat.le_of_ble_eq_true rfl, Nat.le_of_ble_eq_true rfl, fun x hx => ?_⟩⟩
    obtain ⟨n, rfl, n0, n1⟩ : ∃ n : Int, x = .int n ∧ 0 ≤ n ∧ n ≤ 12 := by
      simp only [List.mem_cons, List.not_mem_nil, or_false] at hx
      rcases hx with rfl | rfl | rfl | rfl | rfl | rfl | rfl | rfl | rfl | rfl
      all_goals exact ⟨_, rfl, by omega, by omega⟩
    -- found = [_law_of(bag, signs) for k in range(many)]
    refine ⟨_, rfl, n, rfl, by omega, by omega, fun D hD => ?_⟩
    refine lc_some walk_range (fun _ v _ => ∃ c : Nat, v = .str ⟨#[c]⟩) grow_fn (by omega) hD (fun _ _ _ _ _ h => h) (fun _ _ => trivial) ?_ ?_
    · rintro i x H2 H3 hi e _ ⟨rfl, rfl⟩ R kk
      exact ⟨rfl, _, rfl, _, rfl, _, _, rfl, p, rfl, (hb.mono e1).mono e, .inr ⟨sg, rfl, s0, by omega, fun c _ => kk _ _ (Same.refl _) fun _ => ⟨c, rfl⟩⟩⟩
    · intro xs H2 e2 hx hl hp
      obtain ⟨cs, rfl⟩ := all_of (fun c => V.str ⟨#[c]⟩) xs hp
      rw [List.length_map] at hl
      -- behind the change of one sign
      refine ⟨fun σ H3 => ∃ cs : List Nat, σ[4]? = some (some (.ref D)) ∧ Same H1 H3 ∧ H3 D = some (.lst (cs.map fun c => V.str ⟨#[c]⟩)) ∧ cs.length = n.toNat, ?_, ?_⟩
      · have fin : ∃ cs : List Nat, [some (V.ref p), some (V.int d), some (V.str sg), some (V.int n), some (V.ref D), none][4]? = some (some (.ref D)) ∧ Same H1 H2 ∧ H2 D = some (.lst (cs.map fun c => V.str ⟨#[c]⟩)) ∧ cs.length = n.toNat := ⟨cs, rfl, e1.trans e2, hx, hl⟩
        refine ⟨_, rfl, .inl ⟨rfl, _, rfl, ite2 (fun _ => ?_) (fun _ => iteF fin)⟩⟩
        refine ⟨_, rfl, _, _, rfl, rfl, _, rfl, ite2 (fun hn => ?_) (fun _ => fin)⟩
        have hn := of_decide_eq_true hn
        have hb2 := (hb.mono e1).mono e2
        refine ⟨_, rfl, Nat.le_of_ble_eq_true rfl, fun l2 nl2 => ?_⟩
        refine ⟨_, _, rfl, p, rfl, hb2.mono (grow nl2), .inl ⟨l2, _, rfl, .inl (SqL.of upd_same), Nat.le_of_ble_eq_true rfl, Nat.le_of_ble_eq_true rfl, fun x hx2 => ?_⟩⟩
        obtain ⟨c, rfl⟩ : ∃ c : Nat, x = .str ⟨#[c]⟩ := by
          simp only [List.mem_cons, List.not_mem_nil, or_false] at hx2
          rcases hx2 with rfl | rfl | rfl | rfl | rfl | rfl | rfl | rfl
          all_goals exact ⟨_, rfl⟩
        refine ⟨_, rfl, _, rfl, _, rfl, _, _, rfl, p, n, rfl, rfl, hb2.mono (grow nl2), hn, small_log (by omega) (by omega), fun j j0 j1 => ?_⟩
        refine ⟨D, _, j, j.toNat, rfl, rfl, (grow nl2) _ _ hx, ?_, ?_⟩
        · unfold ixN
          rw [if_pos j0, if_pos (by rw [List.length_map, hl]; omega)]
        · refine ⟨cs.set j.toNat c, rfl, ?_, ?_, by rw [List.length_set, hl]⟩
          · exact same_mut ((e1.trans e2).trans (grow nl2)) (e1.free hD)
          · rw [upd_same, List.map_set]
      · rintro σ H3 ⟨cs, hs, e, hx, hl⟩
        refine ⟨⟨_, rfl⟩, _, hs, _, D, cs.map fun c => ⟨#[c]⟩, rfl, rfl, .inl (SqL.of (by rw [hx, List.map_map]; rfl)), ?_, ?_⟩
        · rw [ones_sum]
          show cs.length + _ * 0 ≤ _
          omega
        · refine k _ H3 e ?_
          have := one_join cs
          omega

end
end Fb

set_option Elab.async false
set_option linter.all false
set_option maxRecDepth 100000
set_option maxHeartbeats 4000000
namespace Fb
open PySem PySem.Spec L2
open PyProof.Rows hiding St
open C8 (Cal Met Mak Def cal0 met0 mak0 pe_c pe_mk pe_mt pe_mt0 fnScope fnBody fnArgs pss_cut tCut)
local macro_rules | `(tactic| walk_at "hp") => `(tactic| first | exact upd_same | assumption | (refine grow (by assumption) _ _ ?_; walk_at "hp") | (refine (show Same _ _ by assumption) _ _ ?_; walk_at "hp"))
local macro_rules | `(tactic| walk_at "sm") => `(tactic| first | exact Same.refl _ | assumption | (refine Same.trans ?_ (grow (by assumption)); walk_at "sm") | (refine Same.trans ?_ (show Same _ _ by assumption); walk_at "sm"))
section
variable {P : Program} {w : World} {K : PySem.W.Frag} {mg : Str → Option Value} {base : Heap}
/-! ### _law_odd -/
def spOdd (K : PySem.W.Frag) : Sp := sp1 fun a H Q => ∃ (p : Addr), a = .ref p ∧ BagAt H p ∧ ∀ v H', Same H H' → AnyV K H' v → Q v H'
theorem c__law_odd (T : Top K mg) : Cal P w K mg base 3 "_law_odd" (spOdd K) [] := by
  obtain ⟨f, fd, F, df⟩ := T.d__law_odd
  refine cal_of F df (fn1 F sc__law_odd fun cdv A outer s H a Q E hr h => ?_) fun _ _ _ _ _ _ us hl => match us, hl with | [_], _ => rfl
  have nd := sc__law_odd.nd
  obtain ⟨p, rfl, hb, k⟩ := h
  refine ⟨_, (pss_one 
      (ps_ret (pe_c (c__law_of T) hr (by decide) (by rfl) (pa_cons (pv 0) (pa_cons (pe_lst (pa_cons pe_non (pa_cons pe_bl (pa_cons pe_bl (pa_cons pe_int (pa_cons pe_int (pa_cons (pe_un un_neg pe_int) (pa_cons pe_int (pa_cons pe_int (pa_cons pe_str (pa_cons pe_str (pa_cons pe_str (pa_cons pe_str (pa_cons pe_str (pa_cons (pe_tup pa_nil) (pa_cons (pe_lst pa_nil) (pa_cons pe_dnewK (pa_cons (pe_lst (pa_cons pe_str pa_nil)) (pa_cons (pe_tup (pa_cons pe_str (pa_cons pe_str pa_nil))) (pa_cons (pe_lst (pa_cons pe_non pa_nil)) (pa_cons (pe_tup (pa_cons (pe_tup (pa_cons pe_int (pa_cons pe_int pa_nil))) pa_nil)) (pa_cons (pe_disp (pps_cons pe_str pe_int pps_nil) (by rfl) (by rfl) (fun z => by cases z) (by decide)) (pa_cons pe_int (pa_cons pe_str (pa_cons (pe_tup (pa_cons pe_int pa_nil)) (pa_cons pe_int pa_nil)))))))))))))))))))))))))) pa_nil))))), ?_⟩
  refine ⟨_, rfl, _, rfl, ⟨Nat.zero_le _, fun a1 m1 => ⟨Nat.zero_le _, fun a2 m2 => fun a3 m3 => ⟨Nat.le_of_ble_eq_true rfl, fun a4 m4 => ⟨Nat.le_of_ble_eq_true rfl, fun a5 m5 => ⟨Nat.le_of_ble_eq_true rfl, fun a6 m6 => ⟨Nat.le_of_ble_eq_true rfl, fun a7 m7 => ⟨Nat.le_of_ble_eq_true rfl, fun a8 m8 => fun a9 m9 => ⟨upd_same, [(Sum.inr "a", .int 1)], rfl, by decide, ?_⟩⟩⟩⟩⟩⟩⟩⟩⟩
  rw [upd_upd]
  refine ⟨Nat.le_of_ble_eq_true rfl, fun a10 m10 => ⟨Nat.le_of_ble_eq_true rfl, fun l nl => ?_⟩⟩
  refine ⟨_, _, rfl, p, rfl, hb.mono (by walk_at "sm"), .inl ⟨l, _, rfl, .inl (SqL.of upd_same), Nat.le_of_ble_eq_true rfl, Nat.le_of_ble_eq_true rfl, fun x hx => k x _ (by walk_at "sm") ?_⟩⟩
  simp only [List.mem_cons, List.not_mem_nil, or_false] at hx
  rcases hx with rfl | rfl | rfl | rfl | rfl | rfl | rfl | rfl | rfl | rfl | rfl | rfl | rfl | rfl | rfl | rfl | rfl | rfl | rfl | rfl | rfl | rfl | rfl | rfl | rfl
  all_goals first
    | exact any_non
    | exact any_bl _
    | exact any_int _
    | exact any_str (by decide +kernel)
    | exact any_lst (by walk_at "hp")
    | exact any_tup (by walk_at "hp")
    | exact any_dic (by walk_at "hp")

end
end Fb

set_option Elab.async false
set_option linter.all false
set_option maxRecDepth 100000
set_option maxHeartbeats 4000000
namespace Fb
open PySem PySem.Spec L2
open PyProof.Rows hiding St
open C8 (Cal Met Mak Def cal0 met0 mak0 pe_c pe_mk pe_mt pe_mt0 fnScope fnBody fnArgs pss_cut tCut)
local macro_rules | `(tactic| walk_at "hp") => `(tactic| first | exact upd_same | assumption | (refine grow (by assumption) _ _ ?_; walk_at "hp") | (refine (show Same _ _ by assumption) _ _ ?_; walk_at "hp"))
local macro_rules | `(tactic| walk_at "sm") => `(tactic| first | exact Same.refl _ | assumption | (refine Same.trans ?_ (grow (by assumption)); walk_at "sm") | (refine Same.trans ?_ (show Same _ _ by assumption); walk_at "sm"))
section
variable {P : Program} {w : World} {K : PySem.W.Frag} {mg : Str → Option Value} {base : Heap}
/-! ### _law_is_title -/
def spTitle (K : PySem.W.Frag) : Sp := sp1 fun a H Q => AnyV K H a ∧ Then H Q (.bl (nameB a))
theorem c__law_is_title (T : Top K mg) : Cal P w K mg base 1 "_law_is_title" (spTitle K) [] := by
  obtain ⟨f, fd, F, df⟩ := T.d__law_is_title
  refine cal_of F df (fn1 F sc__law_is_title fun cdv A outer s H a Q E hr h => ?_) fun _ _ _ _ _ _ us hl => match us, hl with | [_], _ => rfl
  have nd := sc__law_is_title.nd
  obtain ⟨ha, q⟩ := h
  refine ⟨_, (pss_cons 
      (ps_if (PW.pt (pw_or (pt_not (pt_val (pe_callB (isi_K (K := K) rfl) (by rfl) T.isinstance (by decide +kernel) (pa_cons (pv 0) (pa_cons (pe_bltn (v := .ty "str") (by rfl) T.str (by decide +kernel) rfl) pa_nil))))) (pw_or (pt_cmpR (lt_K (K := K) rfl hr) (pe_callB (len_K (K := K) rfl) (by rfl) T.len (by decide +kernel) (pa_cons (pv 0) pa_nil)) pe_int (nomark _)) (pw_or1 (pt_cmpR op_gtU (pe_callB (len_K (K := K) rfl) (by rfl) T.len (by decide +kernel) (pa_cons (pv 0) pa_nil)) pe_int (nomark _)))))) (pss_one 
      (ps_ret pe_bl)) pss_nil) (pss_one 
      (ps_ret (pe_cmpR (eq_K (K := K) rfl hr) (pe_lc (own := [("sign", 1)]) rfl nd (pi_K (K := K) rfl (pv 0)) (blkOk_by (N := ["thing", "sign"]) (sc := fnScope s__law_is_title) (by decide +kernel)) (fun _ _ _ _ _ => (pg_name (i := 1) nd rfl (Or.inl rfl))) (fun _ _ _ _ _ => (pts_one (pt_cmpR (notIn_K (K := K) rfl) (pv 1) pe_str (by with_unfolding_all rfl)))) (fun _ _ _ _ _ => (pv 1))) (pe_lst pa_nil) (nomark _))))), ?_⟩
  rcases ha.strOr with ⟨z, rfl, hz⟩ | ⟨no, t, ty, kb⟩
  · refine ⟨_, rfl, .inl ⟨_, _, _, true, rfl, .base (.str z), by decide +kernel, _, rfl, iteF ?_⟩⟩
    have no1 : ¬ (1 ≤ z.length ∧ z.length ≤ 8) → Q (.bl false) H := fun h => by
      have k := q.here
      rw [show nameB (.str z) = false by
        show (decide (1 ≤ z.length) && decide (z.length ≤ 8) && z.cps.toList.all letC) = _
        rw [← Bool.decide_and, decide_eq_false h, Bool.false_and]] at k
      exact k
    refine ⟨_, rfl, .inr ⟨z, rfl, size5' hz, .inl ⟨_, _, rfl, rfl, _, rfl, ite2 (fun h1 => ?_) (fun h1 => ?_)⟩⟩⟩
    · have h1 := of_decide_eq_true h1
      exact iteT (no1 (by omega))
    · have h1 : ¬ (z.length : Int) < 1 := fun e => h1 (decide_eq_true e)
      refine ⟨_, rfl, .inr ⟨z, rfl, size5' hz, _, _, rfl, rfl, _, rfl, ite2 (fun h8 => ?_) (fun h8 => ?_)⟩⟩
      · have h8 := of_decide_eq_true h8
        exact no1 (by omega)
      · have h8 : ¬ (8 : Int) < z.length := fun e => h8 (decide_eq_true e)
        refine ⟨_, rfl, .inr (.inr ⟨z, rfl, fun D hD => ?_⟩)⟩
        refine lc_filt walk_str (fun i => !letC (z.cps.toList.getD i 0)) (fun i => .str ⟨#[z.cps.toList.getD i 0]⟩) ?_ (by show z.length ≤ 100000; exact hz) hD (fun _ _ => trivial) ?_ ?_
        · rintro i H x H' ⟨rfl, _⟩
          exact Same.refl _
        · rintro i x H1 H2 hi e ⟨rfl, c, hc, rfl⟩ F R k1 k2
          have ec : z.cps.toList.getD i 0 = c := by
            rw [List.getD_eq_getElem?_getD, Array.getElem?_toList, hc]
            rfl
          refine ⟨rfl, _, rfl, .inl ⟨c, az, rfl, rfl, _, rfl, ?_⟩⟩
          rw [az_in]
          have k1 := k1 H2 (Same.refl _)
          have k2 := k2 H2 (Same.refl _)
          rw [ec] at k1 k2
          cases hl : letC c with
          | false =>
            rw [hl] at k1
            exact iteT ⟨_, rfl, k1 rfl⟩
          | true =>
            rw [hl] at k2
            exact iteF (k2 rfl)
        · intro H1 e hd
          refine ⟨Nat.zero_le _, fun p np => .inr ⟨_, .list [], .lst (SqL.of ((grow np) _ _ hd)) (dpAll_map (g := fun i => .str ⟨#[z.cps.toList.getD i 0]⟩) fun _ _ => .str _), .lst (SqL.of upd_same) .nil, ?_, ?_⟩⟩
          · exact Nat.le_trans (Nat.min_le_right _ _) (by decide)
          · rw [eqv_list_nil]
            have ek : nameB (.str z) = (List.map (fun i => PyData.str ⟨#[z.cps.toList.getD i 0]⟩) ((List.range z.cps.size).filter fun i => !letC (z.cps.toList.getD i 0))).isEmpty := by
              show (decide (1 ≤ z.length) && decide (z.length ≤ 8) && z.cps.toList.all letC) = _
              rw [decide_eq_true (show 1 ≤ z.length by omega), decide_eq_true (show z.length ≤ 8 by omega), Bool.true_and, Bool.true_and, List.isEmpty_map, str_len]
              exact (filt_none z.cps.toList).symm
            rw [ek] at q
            exact q _ (e.trans (grow np))
  · refine ⟨_, rfl, .inl ⟨_, _, _, false, rfl, ty, kb, _, rfl, iteT ?_⟩⟩
    have := q.here
    rw [nameB_no no] at this
    exact this

end
end Fb

set_option Elab.async false
set_option linter.all false
set_option maxRecDepth 100000
set_option maxHeartbeats 4000000
namespace Fb
open PySem PySem.Spec L2
open PyProof.Rows hiding St
open C8 (Cal Met Mak Def cal0 met0 mak0 pe_c pe_mk pe_mt pe_mt0 fnScope fnBody fnArgs pss_cut tCut)
local macro_rules | `(tactic| walk_at "hp") => `(tactic| first | exact upd_same | assumption | (refine grow (by assumption) _ _ ?_; walk_at "hp") | (refine (show Same _ _ by assumption) _ _ ?_; walk_at "hp"))
local macro_rules | `(tactic| walk_at "sm") => `(tactic| first | exact Same.refl _ | assumption | (refine Same.trans ?_ (grow (by assumption)); walk_at "sm") | (refine Same.trans ?_ (show Same _ _ by assumption); walk_at "sm"))
section
variable {P : Program} {w : World} {K : PySem.W.Frag} {mg : Str → Option Value} {base : Heap}
/-! ### is_name -/
def spIsName (K : PySem.W.Frag) : Sp := sp1 fun a H Q => AnyV K H a ∧ Then H Q (.bl (nameB a))
theorem ok_is_name (T : Top K mg) {f : Addr} {fd : FuncData} (F : Def K mg "is_name" s_is_name f fd) : FnOk P w K mg base C8.CX0 1 f fd ["value"] (spIsName K) := by
  refine fn1 F sc_is_name fun cdv A outer s H a Q E hr h => ?_
  have nd := sc_is_name.nd
  obtain ⟨ha, q⟩ := h
  refine ⟨_, (pss_cons 
      (ps_if (PW.pt (pw_or (pt_not (pt_val (pe_callB (isi_K (K := K) rfl) (by rfl) T.isinstance (by decide +kernel) (pa_cons (pv 0) (pa_cons (pe_bltn (v := .ty "str") (by rfl) T.str (by decide +kernel) rfl) pa_nil))))) (pw_or1 (pt_not (pt_chain op_leU op_leU pe_int (pe_callB (len_K (K := K) rfl) (by rfl) T.len (by decide +kernel) (pa_cons (pv 0) pa_nil)) (C8.pe_gc (v := .int 8) (by rfl) T.m_LETTERS)))))) (pss_one 
      (ps_ret pe_bl)) pss_nil) (pss_one 
      (ps_ret (pe_callB (all_K (K := K) rfl rfl) (by rfl) T.all (by decide +kernel) (pa_cons (pe_lc (own := [("letter", 1)]) rfl nd (pi_K (K := K) rfl (pv 0)) (blkOk_by (N := ["value", "letter"]) (sc := fnScope s_is_name) (by decide +kernel)) (fun _ _ _ _ _ => (pg_name (i := 1) nd rfl (Or.inl rfl))) (fun _ _ _ _ _ => pts_nil) (fun _ _ _ _ _ => (pe_chain op_leU op_leU pe_str (pv 1) pe_str))) pa_nil))))), ?_⟩
  rcases ha.strOr with ⟨z, rfl, hz⟩ | ⟨no, t, ty, kb⟩
  · refine ⟨_, rfl, .inl ⟨_, _, _, true, rfl, .base (.str z), by decide +kernel, _, rfl, ?_⟩⟩
    -- not 1 <= len(value) <= LETTERS
    refine iteF ⟨_, rfl, .inr ⟨z, rfl, size5' hz, .inl ⟨_, _, rfl, rfl, _, rfl, ite2 (fun h1 => ?_) (fun h1 => ?_)⟩⟩⟩
    · refine .inl ⟨_, _, rfl, rfl, _, rfl, ?_⟩
      by_cases h8 : (z.length : Int) ≤ 8
      · rw [decide_eq_true h8]
        refine iteF ?_
        -- all([..])
        refine ⟨_, rfl, .inr (.inr ⟨z, rfl, fun D hD => ?_⟩)⟩
        refine lc_map walk_str (fun i => .bl (letC (z.cps.toList.getD i 0))) ?_ (by show z.length ≤ 100000; exact hz) hD (fun _ _ => trivial) ?_ ?_
        · rintro i H x H' ⟨rfl, _⟩
          exact Same.refl _
        · rintro i x H1 H2 hi e ⟨rfl, c, hc, rfl⟩ R k
          have ec : z.cps.toList.getD i 0 = c := by
            rw [List.getD_eq_getElem?_getD, Array.getElem?_toList, hc]
            rfl
          have f97 : decide ((("a" : Str).cps.toList) ≤ [c]) = true → True := fun _ => trivial
          refine ⟨rfl, _, rfl, .inr ⟨_, _, rfl, rfl, _, rfl, ?_⟩⟩
          have k := k H2 (Same.refl _)
          rw [ec] at k
          show (if (!decide (#[c].toList < #[97].toList)) = true then _ else _)
          rw [lt1]
          by_cases h97 : c < 97
          · rw [decide_eq_true h97]
            refine iteF ?_
            rw [show letC c = false by unfold letC; rw [decide_eq_false (by omega)]; rfl] at k
            exact k
          · rw [decide_eq_false h97]
            refine iteT (.inr ⟨_, _, rfl, rfl, ?_⟩)
            show R (.bl (!decide (#[122].toList < #[c].toList))) H2
            rw [lt1, show (!decide (122 < c)) = letC c by unfold letC; rw [decide_eq_true (show 97 ≤ c by omega), ← decide_not, Bool.true_and]; exact decide_eq_decide.mpr (by omega)]
            exact k
        · intro H1 e hd
          rw [str_len] at hd
          have hd := hd.trans (congrArg (fun l => some (HO.lst l)) (map_range_get 0 (fun c => V.bl (letC c)) z.cps.toList))
          refine ⟨D, z.cps.toList.map letC, rfl, SqL.of (by rw [hd, List.map_map]; rfl), ?_⟩
          have k := q H1 e
          rw [show nameB (.str z) = (z.cps.toList.map letC).all id by
            show (decide (1 ≤ z.length) && decide (z.length ≤ 8) && z.cps.toList.all letC) = _
            have h1 := of_decide_eq_true h1
            rw [decide_eq_true (show 1 ≤ z.length by omega), decide_eq_true (show z.length ≤ 8 by omega), List.all_map]
            rfl] at k
          exact k
      · rw [decide_eq_false h8]
        refine iteT ?_
        have k := q.here
        rw [show nameB (.str z) = false by
          show (decide (1 ≤ z.length) && decide (z.length ≤ 8) && z.cps.toList.all letC) = _
          rw [decide_eq_false (show ¬ z.length ≤ 8 by omega), Bool.and_false, Bool.false_and]] at k
        exact k
    · refine ⟨_, rfl, iteT ?_⟩
      have h1 : ¬ (1 : Int) ≤ z.length := fun e => h1 (decide_eq_true e)
      have k := q.here
      rw [show nameB (.str z) = false by
        show (decide (1 ≤ z.length) && decide (z.length ≤ 8) && z.cps.toList.all letC) = _
        rw [decide_eq_false (show ¬ 1 ≤ z.length by omega), Bool.false_and, Bool.false_and]] at k
      exact k
  · refine ⟨_, rfl, .inl ⟨_, _, _, false, rfl, ty, kb, _, rfl, ?_⟩⟩
    have := q.here
    rw [nameB_no no] at this
    exact this

theorem k_is_name_0_value (T : Top K mg) : CalK P w K mg base 1 "is_name" (spIsName K) 0 ["value"] (fun vs zs => pick vs [] zs [(2, 0)]) := by
  obtain ⟨f, fd, F, df⟩ := T.d_is_name
  exact ⟨f, fd, _, _, ok_is_name T F, F.mgf, F.kp, nod_kbn (ps := ["value"]) (ks := ["value"]) F df 0 [(2, 0)] fun _ _ _ _ _ _ us ws l1 l2 => match us, ws, l1, l2 with | [], [_], _, _ => rfl⟩
theorem c_is_name (T : Top K mg) : Cal P w K mg base 1 "is_name" (spIsName K) [] := by
  obtain ⟨f, fd, F, df⟩ := T.d_is_name
  exact cal_of F df (ok_is_name T F) fun _ _ _ _ _ _ us hl => match us, hl with | [_], _ => rfl

end
end Fb

set_option Elab.async false
set_option linter.all false
set_option maxRecDepth 100000
set_option maxHeartbeats 4000000
namespace Fb
open PySem PySem.Spec L2
open PyProof.Rows hiding St
open C8 (Cal Met Mak Def cal0 met0 mak0 pe_c pe_mk pe_mt pe_mt0 fnScope fnBody fnArgs pss_cut tCut)
local macro_rules | `(tactic| walk_at "hp") => `(tactic| first | exact upd_same | assumption | (refine grow (by assumption) _ _ ?_; walk_at "hp") | (refine (show Same _ _ by assumption) _ _ ?_; walk_at "hp"))
local macro_rules | `(tactic| walk_at "sm") => `(tactic| first | exact Same.refl _ | assumption | (refine Same.trans ?_ (grow (by assumption)); walk_at "sm") | (refine Same.trans ?_ (show Same _ _ by assumption); walk_at "sm"))
section
variable {P : Program} {w : World} {K : PySem.W.Frag} {mg : Str → Option Value} {base : Heap}
/-! ### _law_names_so -/
def spSo1 (K : PySem.W.Frag) : Sp := sp1 fun a H Q => AnyV K H a ∧ Then H Q (.bl true)
theorem c__law_names_so (T : Top K mg) : Cal P w K mg base 9 "_law_names_so" (spSo1 K) [] := by
  obtain ⟨f, fd, F, df⟩ := T.d__law_names_so
  refine cal_of F df (fn1 F sc__law_names_so fun cdv A outer s H a Q E hr h => ?_) fun _ _ _ _ _ _ us hl => match us, hl with | [_], _ => rfl
  have nd := sc__law_names_so.nd
  obtain ⟨ha, q⟩ := h
  refine ⟨_, (pss_cons 
      (ps_set (i := 1) nd rfl (Or.inl rfl) (pe_c (c__law_is_title T) hr (by decide) (by rfl) (pa_cons (pv 0) pa_nil))) (pss_one 
      (ps_ret (pe_c (c__law_like T) hr (by decide) (by rfl) (pa_cons (pe_lst (pa_cons (pe_c (c_is_name T) hr (by decide) (by rfl) (pa_cons (pv 0) pa_nil)) (pa_cons (pe_kw0 (k_is_name_0_value T) hr (by decide) (by rfl) (pk_cons (pv 0) pk_nil)) pa_nil))) (pa_cons (pe_lst (pa_cons (pv 1) (pa_cons (pv 1) pa_nil))) pa_nil)))))), ?_⟩
  refine ⟨_, rfl, _, rfl, ha, fun H1 e1 => ?_⟩
  refine ⟨_, rfl, _, rfl, ha.mono e1, fun H2 e2 => ?_⟩
  refine ⟨_, rfl, rfl, rfl, _, rfl, ha.mono (e1.trans e2), fun H3 e3 => ⟨Nat.le_of_ble_eq_true rfl, fun p np => ?_⟩⟩
  refine ⟨_, rfl, _, rfl, Nat.le_of_ble_eq_true rfl, fun p2 np2 => ?_⟩
  refine ⟨_, _, rfl, .list [.bool (nameB a), .bool (nameB a)], ⟨Nat.le_of_ble_eq_true rfl, ?_⟩, .lst (SqL.of ((grow np2) _ _ upd_same)) (.cons (.bl _) (.cons (.bl _) .nil)), .lst (SqL.of upd_same) (.cons (.bl _) (.cons (.bl _) .nil)), ?_⟩
  · intro d hd
    simp only [List.mem_cons, List.not_mem_nil, or_false, or_self] at hd
    subst hd
    trivial
  · exact q.mono (((e1.trans e2).trans e3).trans ((grow np).trans (grow np2)))

end
end Fb

set_option Elab.async false
set_option linter.all false
set_option maxRecDepth 100000
set_option maxHeartbeats 4000000
namespace Fb
open PySem PySem.Spec L2
open PyProof.Rows hiding St
open C8 (Cal Met Mak Def cal0 met0 mak0 pe_c pe_mk pe_mt pe_mt0 fnScope fnBody fnArgs pss_cut tCut)
local macro_rules | `(tactic| walk_at "hp") => `(tactic| first | exact upd_same | assumption | (refine grow (by assumption) _ _ ?_; walk_at "hp") | (refine (show Same _ _ by assumption) _ _ ?_; walk_at "hp"))
local macro_rules | `(tactic| walk_at "sm") => `(tactic| first | exact Same.refl _ | assumption | (refine Same.trans ?_ (grow (by assumption)); walk_at "sm") | (refine Same.trans ?_ (show Same _ _ by assumption); walk_at "sm"))
section
variable {P : Program} {w : World} {K : PySem.W.Frag} {mg : Str → Option Value} {base : Heap}
/-! ### is_number -/
def spIsNumber (K : PySem.W.Frag) : Sp := sp3 fun a b c H Q => ∃ (l : Int) (h : Option Int), AnyV K H a ∧ b = .int l ∧ c = (match h with | none => .non | some m => .int m) ∧ Q (.bl (numB a l h)) H
theorem ok_is_number (T : Top K mg) {f : Addr} {fd : FuncData} (F : Def K mg "is_number" s_is_number f fd) : FnOk P w K mg base C8.CX0 1 f fd ["value", "least", "most"] (spIsNumber K) := by
  refine fn3 F sc_is_number fun cdv A outer s H a b c Q E hr h => ?_
  have nd := sc_is_number.nd
  obtain ⟨l, h, ha, rfl, rfl, q⟩ := h
  refine ⟨_, (pss_cons 
      (ps_if (PW.pt (pw_or (pt_not (pt_val (pe_callB (isi_K (K := K) rfl) (by rfl) T.isinstance (by decide +kernel) (pa_cons (pv 0) (pa_cons (pe_bltn (v := .ty "int") (by rfl) T.int (by decide +kernel) rfl) pa_nil))))) (pw_or1 (pt_val (pe_callB (isi_K (K := K) rfl) (by rfl) T.isinstance (by decide +kernel) (pa_cons (pv 0) (pa_cons (pe_bltn (v := .ty "bool") (by rfl) T.bool (by decide +kernel) rfl) pa_nil))))))) (pss_one 
      (ps_ret pe_bl)) pss_nil) (pss_one 
      (ps_ret (pe_and (pe_cmpR op_geU (pv 0) (pv 1) (nomark _)) (pe_one (pe_or (pe_cmpR op_isN (pv 2) pe_non (nomark _)) (pe_one (pe_cmpR op_leU (pv 0) (pv 2) (nomark _))))))))), ?_⟩
  rcases ha.intOr with ⟨i, rfl⟩ | ⟨b, rfl⟩ | ⟨no, t, ty, kb⟩
  · refine ⟨_, rfl, .inl ⟨_, _, _, true, rfl, .base (.int i), by decide +kernel, _, rfl, iteF ?_⟩⟩
    refine ⟨_, rfl, .inl ⟨_, _, _, false, rfl, .base (.int i), by decide +kernel, _, rfl, iteF ?_⟩⟩
    refine ⟨_, rfl, _, rfl, _, _, rfl, rfl, _, rfl, ite2 (fun e => ?_) (fun e => ?_)⟩
    · have e := of_decide_eq_true e
      cases h with
      | none =>
        refine ⟨_, rfl, rfl, _, rfl, iteT ?_⟩
        rw [show numB (.int i) l none = true by show (decide (l ≤ i) && true) = true; rw [decide_eq_true e]; rfl] at q
        exact q
      | some m =>
        refine ⟨_, rfl, rfl, _, rfl, iteF ⟨_, rfl, _, rfl, .inl ⟨_, _, rfl, rfl, ?_⟩⟩⟩
        rw [show numB (.int i) l (some m) = decide (i ≤ m) by show (decide (l ≤ i) && _) = _; rw [decide_eq_true e, Bool.true_and]] at q
        exact q
    · rw [show numB (.int i) l h = false by show (decide (l ≤ i) && _) = _; rw [decide_eq_false (fun z => e (decide_eq_true z)), Bool.false_and]] at q
      exact q
  · refine ⟨_, rfl, .inl ⟨_, _, _, true, rfl, .base (.bl b), by decide +kernel, _, rfl, iteF ?_⟩⟩
    exact ⟨_, rfl, .inl ⟨_, _, _, true, rfl, .base (.bl b), by decide +kernel, _, rfl, iteT q⟩⟩
  · rw [numB_no no] at q
    exact ⟨_, rfl, .inl ⟨_, _, _, false, rfl, ty, kb, _, rfl, iteT q⟩⟩

theorem k_is_number_0_most_least_value (T : Top K mg) : CalK P w K mg base 1 "is_number" (spIsNumber K) 0 ["most", "least", "value"] (fun vs zs => pick vs [.int 0, .non] zs [(2, 2), (2, 1), (2, 0)]) := by
  obtain ⟨f, fd, F, D⟩ := T.d_is_number
  obtain ⟨its, b⟩ := dfl_kbn (ps := ["value", "least", "most"]) (ks := ["most", "least", "value"]) F D (by intro h; cases h) 0 [(2, 2), (2, 1), (2, 0)] fun _ _ _ _ _ _ _ us its ws l1 l2 l3 => match us, its, ws, l1, l2, l3 with | [], [_, _], [_, _, _], _, _, _ => ⟨_, rfl, rfl⟩
  exact ⟨f, fd, _, _, ok_is_number T F, F.mgf, F.kp, b⟩
theorem k_is_number_0_value_most (T : Top K mg) : CalK P w K mg base 1 "is_number" (spIsNumber K) 0 ["value", "most"] (fun vs zs => pick vs [.int 0, .non] zs [(2, 0), (1, 0), (2, 1)]) := by
  obtain ⟨f, fd, F, D⟩ := T.d_is_number
  obtain ⟨its, b⟩ := dfl_kbn (ps := ["value", "least", "most"]) (ks := ["value", "most"]) F D (by intro h; cases h) 0 [(2, 0), (1, 0), (2, 1)] fun _ _ _ _ _ _ _ us its ws l1 l2 l3 => match us, its, ws, l1, l2, l3 with | [], [_, _], [_, _], _, _, _ => ⟨_, rfl, rfl⟩
  exact ⟨f, fd, _, _, ok_is_number T F, F.mgf, F.kp, b⟩
theorem c_is_number_1 (T : Top K mg) : Cal P w K mg base 1 "is_number" (spIsNumber K) [.int 0, .non] := by
  obtain ⟨f, fd, F, D⟩ := T.d_is_number
  obtain ⟨ds, r, b⟩ := dfl_binds (ps := ["value", "least", "most"]) F D (by intro h; cases h) 1 0 rfl fun _ _ _ _ _ _ _ us its l1 l2 => match us, its, l1, l2 with | [_], [_, _], _, _ => ⟨_, rfl, rfl⟩
  exact ⟨f, fd, _, ds, ok_is_number T F, F.mgf, F.kp, b, r⟩
theorem k_is_number_1_least (T : Top K mg) : CalK P w K mg base 1 "is_number" (spIsNumber K) 1 ["least"] (fun vs zs => pick vs [.int 0, .non] zs [(0, 0), (2, 0), (1, 1)]) := by
  obtain ⟨f, fd, F, D⟩ := T.d_is_number
  obtain ⟨its, b⟩ := dfl_kbn (ps := ["value", "least", "most"]) (ks := ["least"]) F D (by intro h; cases h) 1 [(0, 0), (2, 0), (1, 1)] fun _ _ _ _ _ _ _ us its ws l1 l2 l3 => match us, its, ws, l1, l2, l3 with | [_], [_, _], [_], _, _, _ => ⟨_, rfl, rfl⟩
  exact ⟨f, fd, _, _, ok_is_number T F, F.mgf, F.kp, b⟩
theorem c_is_number_2 (T : Top K mg) : Cal P w K mg base 1 "is_number" (spIsNumber K) [.non] := by
  obtain ⟨f, fd, F, D⟩ := T.d_is_number
  obtain ⟨ds, r, b⟩ := dfl_binds (ps := ["value", "least", "most"]) F D (by intro h; cases h) 2 1 rfl fun _ _ _ _ _ _ _ us its l1 l2 => match us, its, l1, l2 with | [_, _], [_, _], _, _ => ⟨_, rfl, rfl⟩
  exact ⟨f, fd, _, ds, ok_is_number T F, F.mgf, F.kp, b, r⟩
theorem k_is_number_2_most (T : Top K mg) : CalK P w K mg base 1 "is_number" (spIsNumber K) 2 ["most"] (fun vs zs => pick vs [.int 0, .non] zs [(0, 0), (0, 1), (2, 0)]) := by
  obtain ⟨f, fd, F, D⟩ := T.d_is_number
  obtain ⟨its, b⟩ := dfl_kbn (ps := ["value", "least", "most"]) (ks := ["most"]) F D (by intro h; cases h) 2 [(0, 0), (0, 1), (2, 0)] fun _ _ _ _ _ _ _ us its ws l1 l2 l3 => match us, its, ws, l1, l2, l3 with | [_, _], [_, _], [_], _, _, _ => ⟨_, rfl, rfl⟩
  exact ⟨f, fd, _, _, ok_is_number T F, F.mgf, F.kp, b⟩
theorem c_is_number_3 (T : Top K mg) : Cal P w K mg base 1 "is_number" (spIsNumber K) [] := by
  obtain ⟨f, fd, F, D⟩ := T.d_is_number
  obtain ⟨ds, r, b⟩ := dfl_binds (ps := ["value", "least", "most"]) F D (by intro h; cases h) 3 2 rfl fun _ _ _ _ _ _ _ us its l1 l2 => match us, its, l1, l2 with | [_, _, _], [_, _], _, _ => ⟨_, rfl, rfl⟩
  exact ⟨f, fd, _, ds, ok_is_number T F, F.mgf, F.kp, b, r⟩

end
end Fb

set_option Elab.async false
set_option linter.all false
set_option maxRecDepth 100000
set_option maxHeartbeats 4000000
namespace Fb
open PySem PySem.Spec L2
open PyProof.Rows hiding St
open C8 (Cal Met Mak Def cal0 met0 mak0 pe_c pe_mk pe_mt pe_mt0 fnScope fnBody fnArgs pss_cut tCut)
local macro_rules | `(tactic| walk_at "hp") => `(tactic| first | exact upd_same | assumption | (refine grow (by assumption) _ _ ?_; walk_at "hp") | (refine (show Same _ _ by assumption) _ _ ?_; walk_at "hp"))
local macro_rules | `(tactic| walk_at "sm") => `(tactic| first | exact Same.refl _ | assumption | (refine Same.trans ?_ (grow (by assumption)); walk_at "sm") | (refine Same.trans ?_ (show Same _ _ by assumption); walk_at "sm"))
section
variable {P : Program} {w : World} {K : PySem.W.Frag} {mg : Str → Option Value} {base : Heap}
/-! ### _law_is_number -/
def spLIsNumber (K : PySem.W.Frag) : Sp := sp2 fun a b H Q => ∃ l, AnyV K H a ∧ b = .int l ∧ Q (.bl (numB a l none)) H
theorem c__law_is_number (T : Top K mg) : Cal P w K mg base 1 "_law_is_number" (spLIsNumber K) [] := by
  obtain ⟨f, fd, F, df⟩ := T.d__law_is_number
  refine cal_of F df (fn2 F sc__law_is_number fun cdv A outer s H a b Q E hr h => ?_) fun _ _ _ _ _ _ us hl => match us, hl with | [_, _], _ => rfl
  have nd := sc__law_is_number.nd
  obtain ⟨l, ha, rfl, q⟩ := h
  refine ⟨_, (pss_one 
      (ps_ret (pe_and (pe_callB (isi_K (K := K) rfl) (by rfl) T.isinstance (by decide +kernel) (pa_cons (pv 0) (pa_cons (pe_bltn (v := .ty "int") (by rfl) T.int (by decide +kernel) rfl) pa_nil))) (pe_and (pe_not (pe_callB (isi_K (K := K) rfl) (by rfl) T.isinstance (by decide +kernel) (pa_cons (pv 0) (pa_cons (pe_bltn (v := .ty "bool") (by rfl) T.bool (by decide +kernel) rfl) pa_nil)))) (pe_one (pe_cmpR op_geU (pv 0) (pv 1) (nomark _))))))), ?_⟩
  rcases ha.intOr with ⟨i, rfl⟩ | ⟨b, rfl⟩ | ⟨no, t, ty, kb⟩
  · refine ⟨_, rfl, .inl ⟨_, _, _, true, rfl, .base (.int i), by decide +kernel, _, rfl, iteT ?_⟩⟩
    refine ⟨_, rfl, .inl ⟨_, _, _, false, rfl, .base (.int i), by decide +kernel, _, rfl, _, rfl, iteT ?_⟩⟩
    refine ⟨_, rfl, _, rfl, _, _, rfl, rfl, ?_⟩
    rw [show numB (.int i) l none = decide (l ≤ i) from Bool.and_true _] at q
    exact q
  · refine ⟨_, rfl, .inl ⟨_, _, _, true, rfl, .base (.bl b), by decide +kernel, _, rfl, iteT ?_⟩⟩
    exact ⟨_, rfl, .inl ⟨_, _, _, true, rfl, .base (.bl b), by decide +kernel, _, rfl, _, rfl, iteF q⟩⟩
  · rw [numB_no no] at q
    exact ⟨_, rfl, .inl ⟨_, _, _, false, rfl, ty, kb, _, rfl, iteF q⟩⟩

end
end Fb

set_option Elab.async false
set_option linter.all false
set_option maxRecDepth 100000
set_option maxHeartbeats 4000000
namespace Fb
open PySem PySem.Spec L2
open PyProof.Rows hiding St
open C8 (Cal Met Mak Def cal0 met0 mak0 pe_c pe_mk pe_mt pe_mt0 fnScope fnBody fnArgs pss_cut tCut)
local macro_rules | `(tactic| walk_at "hp") => `(tactic| first | exact upd_same | assumption | (refine grow (by assumption) _ _ ?_; walk_at "hp") | (refine (show Same _ _ by assumption) _ _ ?_; walk_at "hp"))
local macro_rules | `(tactic| walk_at "sm") => `(tactic| first | exact Same.refl _ | assumption | (refine Same.trans ?_ (grow (by assumption)); walk_at "sm") | (refine Same.trans ?_ (show Same _ _ by assumption); walk_at "sm"))
section
variable {P : Program} {w : World} {K : PySem.W.Frag} {mg : Str → Option Value} {base : Heap}
/-! ### _law_within -/
def spWithin (K : PySem.W.Frag) : Sp := sp3 fun a b c H Q => ∃ (l : Int) (h : Option Int), AnyV K H a ∧ b = .int l ∧ c = (match h with | none => .non | some m => .int m) ∧ Q (.bl (numB a l h)) H
theorem c__law_within (T : Top K mg) : Cal P w K mg base 2 "_law_within" (spWithin K) [] := by
  obtain ⟨f, fd, F, df⟩ := T.d__law_within
  refine cal_of F df (fn3 F sc__law_within fun cdv A outer s H a b c Q E hr h => ?_) fun _ _ _ _ _ _ us hl => match us, hl with | [_, _, _], _ => rfl
  have nd := sc__law_within.nd
  obtain ⟨l, h, ha, rfl, rfl, q⟩ := h
  refine ⟨_, (pss_one 
      (ps_ret (pe_and (pe_c (c__law_is_number T) hr (by decide) (by rfl) (pa_cons (pv 0) (pa_cons (pv 1) pa_nil))) (pe_one (pe_or (pe_cmpR op_isN (pv 2) pe_non (nomark _)) (pe_one (pe_cmpR op_leU (pv 0) (pv 2) (nomark _)))))))), ?_⟩
  refine ⟨_, rfl, _, rfl, _, _, rfl, l, ha, rfl, _, rfl, ?_⟩
  cases e : numB a l none with
  | false =>
    rw [numB_hi e] at q
    exact iteF q
  | true =>
    obtain ⟨i, rfl, hi⟩ := numB_int e
    refine iteT ?_
    cases h with
    | none =>
      refine ⟨_, rfl, rfl, _, rfl, iteT ?_⟩
      rw [e] at q
      exact q
    | some m =>
      refine ⟨_, rfl, rfl, _, rfl, iteF ⟨_, rfl, _, rfl, .inl ⟨_, _, rfl, rfl, ?_⟩⟩⟩
      rw [show numB (.int i) l (some m) = decide (i ≤ m) by show (decide (l ≤ i) && _) = _; rw [decide_eq_true hi, Bool.true_and]] at q
      exact q

end
end Fb

set_option Elab.async false
set_option linter.all false
set_option maxRecDepth 100000
set_option maxHeartbeats 4000000
namespace Fb
open PySem PySem.Spec L2
open PyProof.Rows hiding St
open C8 (Cal Met Mak Def cal0 met0 mak0 pe_c pe_mk pe_mt pe_mt0 fnScope fnBody fnArgs pss_cut tCut)
local macro_rules | `(tactic| walk_at "hp") => `(tactic| first | exact upd_same | assumption | (refine grow (by assumption) _ _ ?_; walk_at "hp") | (refine (show Same _ _ by assumption) _ _ ?_; walk_at "hp"))
local macro_rules | `(tactic| walk_at "sm") => `(tactic| first | exact Same.refl _ | assumption | (refine Same.trans ?_ (grow (by assumption)); walk_at "sm") | (refine Same.trans ?_ (show Same _ _ by assumption); walk_at "sm"))
section
variable {P : Program} {w : World} {K : PySem.W.Frag} {mg : Str → Option Value} {base : Heap}
/-! ### _law_numbers_so -/
def spSo3 (K : PySem.W.Frag) : Sp := sp3 fun a b c H Q => ∃ (l : Int) (h : Option Int), AnyV K H a ∧ b = .int l ∧ c = (match h with | none => .non | some m => .int m) ∧ Then H Q (.bl true)
theorem c__law_numbers_so (T : Top K mg) : Cal P w K mg base 9 "_law_numbers_so" (spSo3 K) [] := by
  obtain ⟨f, fd, F, df⟩ := T.d__law_numbers_so
  refine cal_of F df (fn3 F sc__law_numbers_so fun cdv A outer s H a b c Q E hr h => ?_) fun _ _ _ _ _ _ us hl => match us, hl with | [_, _, _], _ => rfl
  have nd := sc__law_numbers_so.nd
  obtain ⟨l, h, ha, rfl, rfl, q⟩ := h
  refine ⟨_, (pss_cons 
      (ps_set (i := 3) nd rfl (Or.inl rfl) (pe_lst (pa_cons (pe_c (c_is_number_1 T) hr (by decide) (by rfl) (pa_cons (pv 0) pa_nil)) (pa_cons (pe_c (c_is_number_2 T) hr (by decide) (by rfl) (pa_cons (pv 0) (pa_cons (pv 1) pa_nil))) (pa_cons (pe_c (c_is_number_3 T) hr (by decide) (by rfl) (pa_cons (pv 0) (pa_cons (pv 1) (pa_cons (pv 2) pa_nil)))) pa_nil))))) (pss_cons 
      (ps_set (i := 3) nd rfl (Or.inl rfl) (pe_op op_addU (pv 3) (pe_lst (pa_cons (pe_kw0 (k_is_number_0_most_least_value T) hr (by decide) (by rfl) (pk_cons (pv 2) (pk_cons (pv 1) (pk_cons (pv 0) pk_nil)))) pa_nil)))) (pss_cons 
      (ps_set (i := 3) nd rfl (Or.inl rfl) (pe_op op_addU (pv 3) (pe_lst (pa_cons (pe_kw0 (k_is_number_0_value_most T) hr (by decide) (by rfl) (pk_cons (pv 0) (pk_cons (pv 2) pk_nil))) (pa_cons (pe_kw (k_is_number_1_least T) hr (by decide) (by rfl) (pa_cons (pv 0) pa_nil) (pk_cons (pv 1) pk_nil)) (pa_cons (pe_kw (k_is_number_2_most T) hr (by decide) (by rfl) (pa_cons (pv 0) (pa_cons (pv 1) pa_nil)) (pk_cons pe_non pk_nil)) pa_nil)))))) (pss_cons 
      (ps_set (i := 4) nd rfl (Or.inl rfl) (pe_lst (pa_cons (pe_c (c__law_within T) hr (by decide) (by rfl) (pa_cons (pv 0) (pa_cons pe_int (pa_cons pe_non pa_nil)))) (pa_cons (pe_c (c__law_within T) hr (by decide) (by rfl) (pa_cons (pv 0) (pa_cons (pv 1) (pa_cons pe_non pa_nil)))) (pa_cons (pe_c (c__law_within T) hr (by decide) (by rfl) (pa_cons (pv 0) (pa_cons (pv 1) (pa_cons (pv 2) pa_nil)))) pa_nil))))) (pss_cons 
      (ps_set (i := 4) nd rfl (Or.inl rfl) (pe_op op_addU (pv 4) (pe_lst (pa_cons (pe_c (c__law_within T) hr (by decide) (by rfl) (pa_cons (pv 0) (pa_cons (pv 1) (pa_cons (pv 2) pa_nil)))) (pa_cons (pe_c (c__law_within T) hr (by decide) (by rfl) (pa_cons (pv 0) (pa_cons pe_int (pa_cons (pv 2) pa_nil)))) (pa_cons (pe_c (c__law_within T) hr (by decide) (by rfl) (pa_cons (pv 0) (pa_cons (pv 1) (pa_cons pe_non pa_nil)))) pa_nil)))))) (pss_one 
      (ps_ret (pe_c (c__law_like T) hr (by decide) (by rfl) (pa_cons (pv 3) (pa_cons (pe_op op_addU (pv 4) (pe_lst (pa_cons (pe_c (c__law_within T) hr (by decide) (by rfl) (pa_cons (pv 0) (pa_cons (pv 1) (pa_cons pe_non pa_nil)))) pa_nil))) pa_nil)))))))))), ?_⟩
  -- told = [is_number(thing), is_number(thing, low), is_number(thing, low, high)]
  refine ⟨_, rfl, ⟨_, _, _, rfl, 0, none, ha, rfl, rfl, ?_⟩⟩
  refine ⟨_, rfl, _, rfl, ⟨_, _, _, rfl, l, none, ha, rfl, rfl, ?_⟩⟩
  refine ⟨_, rfl, _, rfl, _, rfl, ⟨_, _, _, rfl, l, h, ha, rfl, rfl, ?_⟩⟩
  refine ⟨Nat.le_of_ble_eq_true rfl, fun p1 n1 => ?_⟩
  have e1 := grow (H := H) (o := .lst [.bl (numB a 0 none), .bl (numB a l none), .bl (numB a l h)]) n1
  -- told = told + [is_number(most=high, least=low, value=thing)]
  refine ⟨_, rfl, _, rfl, _, rfl, _, rfl, rfl, rfl, ⟨_, _, _, rfl, l, h, ha.mono e1, rfl, rfl, ?_⟩⟩
  refine ⟨Nat.le_of_ble_eq_true rfl, fun p2 n2 => ?_⟩
  have e2 := e1.trans (grow (o := .lst [.bl (numB a l h)]) n2)
  refine .inr (.inr ⟨p1, p2, _, _, rfl, rfl, (grow n2) _ _ upd_same, upd_same, Nat.le_of_ble_eq_true rfl, fun p3 n3 => ?_⟩)
  have e3 := e2.trans (grow (o := .lst ([.bl (numB a 0 none), .bl (numB a l none), .bl (numB a l h)] ++ [.bl (numB a l h)])) n3)
  -- told = told + [is_number(value=thing, most=high), is_number(thing, least=low), is_number(thing, low, most=None)]
  refine ⟨_, rfl, _, rfl, _, rfl, rfl, rfl, ⟨_, _, _, rfl, 0, h, ha.mono e3, rfl, rfl, ?_⟩⟩
  refine ⟨_, rfl, _, rfl, rfl, rfl, ⟨_, _, _, rfl, l, none, ha.mono e3, rfl, rfl, ?_⟩⟩
  refine ⟨_, rfl, _, rfl, rfl, rfl, ⟨_, _, _, rfl, l, none, ha.mono e3, rfl, rfl, ?_⟩⟩
  refine ⟨Nat.le_of_ble_eq_true rfl, fun p4 n4 => ?_⟩
  have e4 := e3.trans (grow (o := .lst [.bl (numB a 0 h), .bl (numB a l none), .bl (numB a l none)]) n4)
  refine .inr (.inr ⟨p3, p4, _, _, rfl, rfl, (grow n4) _ _ upd_same, upd_same, Nat.le_of_ble_eq_true rfl, fun p5 n5 => ?_⟩)
  let told : List V := [.bl (numB a 0 none), .bl (numB a l none), .bl (numB a l h), .bl (numB a l h), .bl (numB a 0 h), .bl (numB a l none), .bl (numB a l none)]
  have e5 := e4.trans (grow (o := .lst told) n5)
  -- due = [..]
  refine ⟨_, rfl, ⟨_, _, _, rfl, 0, none, ha.mono e5, rfl, rfl, ?_⟩⟩
  refine ⟨_, rfl, _, rfl, ⟨_, _, _, rfl, l, none, ha.mono e5, rfl, rfl, ?_⟩⟩
  refine ⟨_, rfl, _, rfl, _, rfl, ⟨_, _, _, rfl, l, h, ha.mono e5, rfl, rfl, ?_⟩⟩
  refine ⟨Nat.le_of_ble_eq_true rfl, fun p6 n6 => ?_⟩
  have e6 := e5.trans (grow (o := .lst [.bl (numB a 0 none), .bl (numB a l none), .bl (numB a l h)]) n6)
  -- due = due + [..]
  refine ⟨_, rfl, _, rfl, _, rfl, _, rfl, ⟨_, _, _, rfl, l, h, ha.mono e6, rfl, rfl, ?_⟩⟩
  refine ⟨_, rfl, _, rfl, ⟨_, _, _, rfl, 0, h, ha.mono e6, rfl, rfl, ?_⟩⟩
  refine ⟨_, rfl, _, rfl, ⟨_, _, _, rfl, l, none, ha.mono e6, rfl, rfl, ?_⟩⟩
  refine ⟨Nat.le_of_ble_eq_true rfl, fun p7 n7 => ?_⟩
  have e7 := e6.trans (grow (o := .lst [.bl (numB a l h), .bl (numB a 0 h), .bl (numB a l none)]) n7)
  refine .inr (.inr ⟨p6, p7, _, _, rfl, rfl, (grow n7) _ _ upd_same, upd_same, Nat.le_of_ble_eq_true rfl, fun p8 n8 => ?_⟩)
  let due : List V := [.bl (numB a 0 none), .bl (numB a l none), .bl (numB a l h), .bl (numB a l h), .bl (numB a 0 h), .bl (numB a l none)]
  have e8 := e7.trans (grow (o := .lst due) n8)
  -- return _law_like(told, due + [..])
  refine ⟨_, rfl, _, rfl, _, rfl, _, rfl, ⟨_, _, _, rfl, l, none, ha.mono e8, rfl, rfl, ?_⟩⟩
  refine ⟨Nat.le_of_ble_eq_true rfl, fun p9 n9 => ?_⟩
  refine .inr (.inr ⟨p8, p9, _, _, rfl, rfl, (grow n9) _ _ upd_same, upd_same, Nat.le_of_ble_eq_true rfl, fun p10 n10 => ?_⟩)
  refine ⟨_, _, rfl, .list [.bool (numB a 0 none), .bool (numB a l none), .bool (numB a l h), .bool (numB a l h), .bool (numB a 0 h), .bool (numB a l none), .bool (numB a l none)], ⟨Nat.le_of_ble_eq_true rfl, ?_⟩, .lst (SqL.of (by walk_at "hp")) ?_, .lst (SqL.of upd_same) ?_, ?_⟩
  · intro d hd
    simp only [List.mem_cons, List.not_mem_nil, or_false] at hd
    rcases hd with rfl | rfl | rfl | rfl | rfl | rfl | rfl
    all_goals trivial
  · exact .cons (.bl _) (.cons (.bl _) (.cons (.bl _) (.cons (.bl _) (.cons (.bl _) (.cons (.bl _) (.cons (.bl _) .nil))))))
  · exact .cons (.bl _) (.cons (.bl _) (.cons (.bl _) (.cons (.bl _) (.cons (.bl _) (.cons (.bl _) (.cons (.bl _) .nil))))))
  · exact q.mono (e8.trans ((grow n9).trans (grow n10)))

end
end Fb

set_option Elab.async false
set_option linter.all false
set_option maxRecDepth 100000
set_option maxHeartbeats 4000000
namespace Fb
open PySem PySem.Spec L2
open PyProof.Rows hiding St
open C8 (Cal Met Mak Def cal0 met0 mak0 pe_c pe_mk pe_mt pe_mt0 fnScope fnBody fnArgs pss_cut tCut)
local macro_rules | `(tactic| walk_at "hp") => `(tactic| first | exact upd_same | assumption | (refine grow (by assumption) _ _ ?_; walk_at "hp") | (refine (show Same _ _ by assumption) _ _ ?_; walk_at "hp"))
local macro_rules | `(tactic| walk_at "sm") => `(tactic| first | exact Same.refl _ | assumption | (refine Same.trans ?_ (grow (by assumption)); walk_at "sm") | (refine Same.trans ?_ (show Same _ _ by assumption); walk_at "sm"))
section
variable {P : Program} {w : World} {K : PySem.W.Frag} {mg : Str → Option Value} {base : Heap}
/-! ### law -/
def spLaw1 (K : PySem.W.Frag) : Sp := sp1 fun a H Q => ∃ (l : Addr) (ns : List Int), a = .ref l ∧ SqL K H l (ns.map V.int) ∧ ∀ H', Q (.bl true) H'
theorem ok_law (T : Top K mg) {f : Addr} {fd : FuncData} (F : Def K mg "law" s_law f fd) : FnOk P w K mg base C8.CX0 10 f fd ["script"] (spLaw1 K) := by
  refine fn1 F sc_law fun cdv A outer s H a Q E hr h => ?_
  have nd := sc_law.nd
  obtain ⟨l, ns, rfl, hs, k⟩ := h
  refine ⟨_, (pss_cons 
      (ps_set (i := 1) nd rfl (Or.inl rfl) (pe_c (c__law_bag T) hr (by decide) (by rfl) (pa_cons (pv 0) pa_nil))) (pss_cons 
      (ps_if (pt_not (pt_val (pe_c (c__law_like T) hr (by decide) (by rfl) (pa_cons (pe_lst (pa_cons (C8.pe_gc (v := .int 1000000) (by rfl) T.m_MOST) (pa_cons (C8.pe_gc (v := .int 1000000000) (by rfl) T.m_PLENTY) (pa_cons (C8.pe_gc (v := .str "car") (by rfl) T.m_WHEEL) pa_nil)))) (pa_cons (pe_lst (pa_cons pe_int (pa_cons pe_int (pa_cons pe_str pa_nil)))) pa_nil))))) (pss_one 
      (ps_ret pe_bl)) pss_nil) (pss_cons 
      (ps_for PassesOwn.never rfl (pi_range1 (by rfl) T.range (pa_cons pe_int pa_nil)) (pg_name (i := 2) nd rfl (Or.inl rfl)) (pss_cons 
      (ps_set (i := 3) nd rfl (Or.inl rfl) (pe_lst (pa_cons (pe_c (c__law_text T) hr (by decide) (by rfl) (pa_cons (pv 1) pa_nil)) (pa_cons (pe_c (c__law_text T) hr (by decide) (by rfl) (pa_cons (pv 1) pa_nil)) pa_nil)))) (pss_cons 
      (ps_set (i := 4) nd rfl (Or.inl rfl) (pe_c (c__law_far T) hr (by decide) (by rfl) (pa_cons (pv 1) pa_nil))) (pss_cut 
      (ps_set (i := 5) nd rfl (Or.inl rfl) (pe_ifExp (pt_cmpR op_gtU (pe_c (c__law_draw T) hr (by decide) (by rfl) (pa_cons (pv 1) (pa_cons pe_int pa_nil))) pe_int (nomark _)) (pe_op op_addU (pv 4) (pe_c (c__law_draw T) hr (by decide) (by rfl) (pa_cons (pv 1) (pa_cons (pe_c (c__law_of T) hr (by decide) (by rfl) (pa_cons (pv 1) (pa_cons (pe_lst (pa_cons pe_int (pa_cons pe_int (pa_cons pe_int (pa_cons pe_int pa_nil))))) pa_nil))) pa_nil)))) (pe_c (c__law_far T) hr (by decide) (by rfl) (pa_cons (pv 1) pa_nil)))) (pss_cut 
      (ps_if (pt_cmpR (eq_K (K := K) rfl hr) (pe_c (c__law_draw T) hr (by decide) (by rfl) (pa_cons (pv 1) (pa_cons pe_int pa_nil))) pe_int (nomark _)) (pss_one 
      (ps_asg (pe_tup (pa_cons pe_int (pa_cons pe_int pa_nil))) (tup_K (K := K) (n := 2) rfl rfl (pgs_cons (pg_name (i := 4) nd rfl (Or.inl rfl)) (pgs_cons (pg_name (i := 5) nd rfl (Or.inl rfl)) pgs_nil))))) pss_nil) (pss_cons 
      (ps_set (i := 6) nd rfl (Or.inl rfl) (pe_lst (pa_cons (pe_c (c__law_odd T) hr (by decide) (by rfl) (pa_cons (pv 1) pa_nil)) (pa_cons (pe_lst (pa_cons (pe_ix (ix_K (K := K) rfl) (pv 3) pe_int (fun _ _ => rfl)) pa_nil)) (pa_cons (pe_tup (pa_cons (pv 4) pa_nil)) (pa_cons (pe_callTy call_str_int (by rfl) T.str (by decide +kernel) (pa_cons (pv 4) pa_nil)) (pa_cons (pe_op op_addU (pe_ix (ix_K (K := K) rfl) (pv 3) pe_int (fun _ _ => rfl)) (pe_ix (ix_K (K := K) rfl) (pv 3) pe_int (fun _ _ => rfl))) (pa_cons (pe_op op_addU (pe_ix (ix_K (K := K) rfl) (pv 3) pe_int (fun _ _ => rfl)) pe_str) (pa_cons (pe_tup (pa_cons (pe_ix (ix_K (K := K) rfl) (pv 3) pe_int (fun _ _ => rfl)) (pa_cons pe_non pa_nil))) pa_nil))))))))) (pss_cut 
      (ps_for PassesOwn.never rfl (pi_K (K := K) rfl (pe_op op_addU (pe_op op_addU (pv 3) (pv 6)) (pe_lst (pa_cons pe_str (pa_cons pe_str (pa_cons pe_str (pa_cons pe_str (pa_cons pe_str (pa_cons pe_str pa_nil))))))))) (pg_name (i := 7) nd rfl (Or.inl rfl)) (pss_one 
      (ps_if (PW.pt (pw_or (pt_not (pt_val (pe_c (c__law_names_so T) hr (by decide) (by rfl) (pa_cons (pv 7) pa_nil)))) (pw_or1 (pt_not (pt_val (pe_c (c__law_numbers_so T) hr (by decide) (by rfl) (pa_cons (pv 7) (pa_cons (pv 4) (pa_cons (pv 5) pa_nil))))))))) (pss_one 
      (ps_ret pe_bl)) pss_nil))) (pss_one 
      (ps_for PassesOwn.never rfl (pi_K (K := K) rfl (pe_lst (pa_cons (pe_op op_sub (pv 4) pe_int) (pa_cons (pv 4) (pa_cons (pe_op op_addU (pv 4) pe_int) (pa_cons (pe_op op_sub (pv 5) pe_int) (pa_cons (pv 5) (pa_cons (pe_op op_addU (pv 5) pe_int) (pa_cons pe_int (pa_cons (pe_un un_neg pe_int) (pa_cons pe_int (pa_cons (pe_c (c__law_far T) hr (by decide) (by rfl) (pa_cons (pv 1) pa_nil)) (pa_cons pe_bl (pa_cons pe_bl (pa_cons pe_non pa_nil))))))))))))))) (pg_name (i := 7) nd rfl (Or.inl rfl)) (pss_one 
      (ps_if (PW.pt (pw_or (pt_not (pt_val (pe_c (c__law_numbers_so T) hr (by decide) (by rfl) (pa_cons (pv 7) (pa_cons (pv 4) (pa_cons (pe_c (c__law_of T) hr (by decide) (by rfl) (pa_cons (pv 1) (pa_cons (pe_lst (pa_cons (pv 5) (pa_cons (pv 5) (pa_cons pe_non pa_nil)))) pa_nil))) pa_nil)))))) (pw_or1 (pt_not (pt_val (pe_c (c__law_names_so T) hr (by decide) (by rfl) (pa_cons (pv 7) pa_nil))))))) (pss_one 
      (ps_ret pe_bl)) pss_nil))))))))))) (pss_one 
      (ps_ret pe_bl))))), ?_⟩
  -- bag = _law_bag(script)
  refine ⟨_, rfl, _, rfl, l, ns, rfl, hs, fun p H1 e1 hb => ?_⟩
  -- the three constants
  refine ⟨Nat.le_of_ble_eq_true rfl, fun q1 n1 => ⟨Nat.le_of_ble_eq_true rfl, fun q2 n2 => ?_⟩⟩
  refine ⟨_, _, rfl, .list [.int 1000000, .int 1000000000, .str "car"], ⟨Nat.le_of_ble_eq_true rfl, ?_⟩, .lst (SqL.of (by walk_at "hp")) ?_, .lst (SqL.of upd_same) ?_, fun H2 e2 => ⟨_, rfl, iteF ?_⟩⟩
  · intro d hd
    simp only [List.mem_cons, List.not_mem_nil, or_false] at hd
    rcases hd with rfl | rfl | rfl
    all_goals trivial
  · exact .cons (.int _) (.cons (.int _) (.cons (.str _) .nil))
  · exact .cons (.int _) (.cons (.int _) (.cons (.str _) .nil))
  have hb2 : BagAt H2 p := hb.mono (((grow n1).trans (grow n2)).trans e2)
  clear e2 n1 n2 e1 hb
  -- for turn in range(5)
  refine ⟨5, rfl, by decide, by decide, for_it walk_range (fun i σ H' => BagAt H' p ∧ ∃ y2 y3 y4 y5 y6 y7, σ = [some (.ref l), some (.ref p), y2, y3, y4, y5, y6, y7]) ⟨hb2, _, _, _, _, _, _, rfl⟩ (fun _ _ _ _ _ => trivial) ?_ ?_⟩
  · rintro i x σ H3 H4 hi ⟨hb, y2, y3, y4, y5, y6, y7, rfl⟩ ⟨rfl, rfl⟩
    -- texts = [_law_text(bag), _law_text(bag)]; low = _law_far(bag)
    refine ⟨_, rfl, _, rfl, p, rfl, hb, fun z1 H5 e5 zl1 => ⟨_, rfl, _, rfl, p, rfl, hb.mono e5, fun z2 H6 e6 zl2 => ⟨Nat.le_of_ble_eq_true rfl, fun t nt => ?_⟩⟩⟩
    have hb6 := (hb.mono e5).mono (e6.trans (grow (o := .lst [.str z1, .str z2]) nt))
    refine ⟨_, rfl, _, rfl, p, rfl, hb6, fun low H7 e7 lo hi => ?_⟩
    have hb7 := hb6.mono e7
    have ht : H7 t = some (.lst [.str z1, .str z2]) := e7 _ _ upd_same
    -- high = ..
    refine ⟨fun σ H' => Same H7 H' ∧ ∃ (high : Int) (y2 y6 y7 : Option V), σ = [some (.ref l), some (.ref p), y2, some (.ref t), some (.int low), some (.int high), y6, y7], ?_, ?_⟩
    · refine ⟨_, rfl, _, _, rfl, p, 4, rfl, rfl, hb7, by decide, small_log (by decide) (by decide), fun d _ _ => ⟨_, _, rfl, rfl, _, rfl, ite2 (fun _ => ?_) (fun _ => ?_)⟩⟩
      · refine ⟨_, rfl, _, rfl, _, rfl, Nat.le_of_ble_eq_true rfl, fun q nq => ?_⟩
        refine ⟨_, _, rfl, p, rfl, hb7.mono (grow nq), .inl ⟨q, _, rfl, .inl (SqL.of upd_same), Nat.le_of_ble_eq_true rfl, Nat.le_of_ble_eq_true rfl, fun x hx => ?_⟩⟩
        obtain ⟨n, rfl, n0, n1⟩ : ∃ n : Int, x = .int n ∧ 0 < n ∧ n ≤ 1000 := by
          simp only [List.mem_cons, List.not_mem_nil, or_false] at hx
          rcases hx with rfl | rfl | rfl | rfl
          all_goals exact ⟨_, rfl, by decide, by decide⟩
        refine ⟨_, _, rfl, p, n, rfl, rfl, hb7.mono (grow nq), n0, small_log (by omega) (by omega), fun d2 _ _ => .inl ⟨_, _, rfl, rfl, ?_⟩⟩
        exact ⟨grow nq, _, _, _, _, rfl⟩
      · exact ⟨_, rfl, _, rfl, p, rfl, hb7, fun hh H8 e8 _ _ => ⟨e8, _, _, _, _, rfl⟩⟩
    rintro σ H8 ⟨e8, high, y2, y6, y7, rfl⟩
    have hb8 := hb7.mono e8
    -- if _law_draw(bag, 9) == 0
    refine ⟨fun σ H' => Same H7 H' ∧ ∃ (low high : Int) (y2 y6 y7 : Option V), σ = [some (.ref l), some (.ref p), y2, some (.ref t), some (.int low), some (.int high), y6, y7] ∧ low.natAbs < 10 ^ 20, ?_, ?_⟩
    · refine ⟨_, rfl, _, _, rfl, p, 9, rfl, rfl, hb8, by decide, small_log (by decide) (by decide), fun d _ _ => .inl ⟨rfl, _, rfl, ite2 (fun _ => ?_) (fun _ => ?_)⟩⟩
      · refine ⟨Nat.le_of_ble_eq_true rfl, fun q nq => ⟨q, _, rfl, SqT.of upd_same, rfl, _, _, rfl, _, _, rfl, rfl, ?_⟩⟩
        exact ⟨e8.trans (grow nq), _, _, _, _, _, rfl, by decide⟩
      · exact ⟨e8, _, _, _, _, _, rfl, by omega⟩
    rintro σ H9 ⟨e9, low, high, y2, y6, y7, rfl, hlow⟩
    have hb9 := hb7.mono e9
    have ht9 := e9 _ _ ht
    obtain ⟨lg, tl⟩ := num_text hlow
    clear e8 hb8 hlow lo hi
    have tl2 : (z1 ++ z2).length ≤ 100000 := by
      rw [str_cat]
      omega
    have tl3 : (z1 ++ ("\n" : Str)).length ≤ 100000 := by
      rw [str_cat]
      show z1.length + 1 ≤ _
      omega
    -- odd = [..]
    refine ⟨_, rfl, _, rfl, p, rfl, hb9, fun v1 H10 e10 a1 => ?_⟩
    refine ⟨_, rfl, .inl ⟨t, _, 0, _, rfl, rfl, SqL.of (e10 _ _ ht9), rfl, Nat.le_of_ble_eq_true rfl, fun w1 m1 => ?_⟩⟩
    have f1 := e10.trans (grow (o := .lst [.str z1]) m1)
    refine ⟨_, rfl, Nat.le_of_ble_eq_true rfl, fun w2 m2 => ?_⟩
    have f2 := f1.trans (grow (o := .tup [.int low]) m2)
    refine ⟨_, rfl, _, rfl, lg, ?_⟩
    refine ⟨_, rfl, .inl ⟨t, _, 0, _, rfl, rfl, SqL.of (f2 _ _ ht9), rfl, _, rfl, .inl ⟨t, _, 1, _, rfl, rfl, SqL.of (f2 _ _ ht9), rfl, .inr (.inl ⟨_, _, rfl, rfl, size5' (by omega), ?_⟩)⟩⟩⟩
    refine ⟨_, rfl, .inl ⟨t, _, 0, _, rfl, rfl, SqL.of (f2 _ _ ht9), rfl, .inr (.inl ⟨_, _, rfl, rfl, size5' (by show z1.length + 1 ≤ _; omega), ?_⟩)⟩⟩
    refine ⟨_, rfl, .inl ⟨t, _, 1, _, rfl, rfl, SqL.of (f2 _ _ ht9), rfl, Nat.le_of_ble_eq_true rfl, fun w3 m3 => ?_⟩⟩
    have f3 := f2.trans (grow (o := .tup [.str z2, .non]) m3)
    refine ⟨Nat.le_of_ble_eq_true rfl, fun od nod => ?_⟩
    have f4 := f3.trans (grow (o := .lst [v1, .ref w1, .ref w2, .str (Str.ofString (toString low)), .str (z1 ++ z2), .str (z1 ++ Str.ofString "\n"), .ref w3]) nod)
    -- for thing in texts + odd + [..]
    refine ⟨fun σ H' => BagAt H' p ∧ ∃ (y2 y3 y6 y7 : Option V), σ = [some (.ref l), some (.ref p), y2, y3, some (.int low), some (.int high), y6, y7], ?_, ?_⟩
    · refine ⟨_, rfl, _, rfl, .inr (.inr ⟨t, od, _, _, rfl, rfl, f4 _ _ ht9, upd_same, Nat.le_of_ble_eq_true rfl, fun c1 nc1 => ?_⟩)⟩
      refine ⟨Nat.le_of_ble_eq_true rfl, fun c2 nc2 => .inr (.inr ⟨c1, c2, _, _, rfl, rfl, (grow nc2) _ _ upd_same, upd_same, Nat.le_of_ble_eq_true rfl, fun c3 nc3 => .inl ⟨c3, rfl, ⟨_, SqL.of upd_same⟩, ?_⟩⟩)⟩
      refine for_it (walk_list (xs := [.str z1, .str z2, v1, .ref w1, .ref w2, .str (Str.ofString (toString low)), .str (z1 ++ z2), .str (z1 ++ Str.ofString "\n"), .ref w3, .str "car", .str "aaaaaaaa", .str "aaaaaaaaa", .str "", .str "a", .str "z"]))
        (fun i σ H' => Same _ H' ∧ ∃ (y2 y3 y6 y7 : Option V), σ = [some (.ref l), some (.ref p), y2, y3, some (.int low), some (.int high), y6, y7]) ⟨Same.refl _, _, _, _, _, rfl⟩ ?_ ?_ ?_
      · rintro i σ H' _ ⟨e, _⟩
        exact SqL.of (e _ _ upd_same)
      · rintro i x σ H' H'' hi ⟨e, y2, y3, y6, y7, rfl⟩ ⟨rfl, hx⟩
        have ax : AnyV K H'' x := by
          refine AnyV.mono ?_ e
          have hx := List.mem_of_getElem? hx
          simp only [List.mem_cons, List.not_mem_nil, or_false] at hx
          rcases hx with rfl | rfl | rfl | rfl | rfl | rfl | rfl | rfl | rfl | rfl | rfl | rfl | rfl | rfl | rfl
          all_goals first
            | exact a1.mono (by walk_at "sm")
            | exact any_lst (by walk_at "hp")
            | exact any_tup (by walk_at "hp")
            | exact any_str tl
            | exact any_str (by decide +kernel)
            | exact any_str (by omega)
            | exact any_str tl2
            | exact any_str tl3
        refine ⟨_, rfl, _, rfl, ax, fun G1 g1 => ⟨_, rfl, iteF ?_⟩⟩
        refine ⟨_, rfl, _, rfl, _, rfl, _, _, _, rfl, low, some high, ax.mono g1, rfl, rfl, fun G2 g2 => ⟨_, rfl, iteF ?_⟩⟩
        exact ⟨(e.trans g1).trans g2, _, _, _, _, rfl⟩
      · rintro σ H' ⟨e, y2, y3, y6, y7, rfl⟩
        exact ⟨(hb9.mono f4).mono (Same.trans (by walk_at "sm") e), _, _, _, _, rfl⟩
    rintro σ H11 ⟨hb11, y2, y3, y6, y7, rfl⟩
    -- for thing in [low - 1, ..]
    refine ⟨_, rfl, _, _, rfl, rfl, _, rfl, _, rfl, .inl ⟨_, _, rfl, rfl, _, rfl, _, _, rfl, rfl, _, rfl, _, rfl, .inl ⟨_, _, rfl, rfl, _, rfl, _, rfl, _, rfl, p, rfl, hb11, fun far H12 e12 _ _ => ?_⟩⟩⟩
    refine ⟨Nat.le_of_ble_eq_true rfl, fun c4 nc4 => .inl ⟨c4, rfl, ⟨_, SqL.of upd_same⟩, ?_⟩⟩
    refine for_it (walk_list (xs := [.int (low - 1), .int low, .int (low + 1), .int (high - 1), .int high, .int (high + 1), .int 0, .int (-1), .int 1, .int far, .bl true, .bl false, .non]))
      (fun i σ H' => Same _ H' ∧ ∃ (y2 y3 y6 y7 : Option V), σ = [some (.ref l), some (.ref p), y2, y3, some (.int low), some (.int high), y6, y7]) ⟨Same.refl _, _, _, _, _, rfl⟩ ?_ ?_ ?_
    · rintro i σ H' _ ⟨e, _⟩
      exact SqL.of (e _ _ upd_same)
    · rintro i x σ H' H'' hi ⟨e, y2, y3, y6, y7, rfl⟩ ⟨rfl, hx⟩
      have ax : AnyV K H'' x := by
        have hx := List.mem_of_getElem? hx
        simp only [List.mem_cons, List.not_mem_nil, or_false] at hx
        rcases hx with rfl | rfl | rfl | rfl | rfl | rfl | rfl | rfl | rfl | rfl | rfl | rfl | rfl
        all_goals first
          | exact any_int _
          | exact any_bl _
          | exact any_non
      have hb12 : BagAt H'' p := (hb11.mono e12).mono (Same.trans (by walk_at "sm") e)
      refine ⟨_, rfl, _, rfl, _, rfl, _, rfl, _, rfl, Nat.le_of_ble_eq_true rfl, fun c5 nc5 => ?_⟩
      refine ⟨_, _, rfl, p, rfl, hb12.mono (grow nc5), .inl ⟨c5, _, rfl, .inl (SqL.of upd_same), Nat.le_of_ble_eq_true rfl, Nat.le_of_ble_eq_true rfl, fun y hy => ?_⟩⟩
      obtain ⟨h, rfl⟩ : ∃ h : Option Int, y = (match h with | none => .non | some m => .int m) := by
        simp only [List.mem_cons, List.not_mem_nil, or_false] at hy
        rcases hy with rfl | rfl | rfl
        · exact ⟨some high, rfl⟩
        · exact ⟨some high, rfl⟩
        · exact ⟨none, rfl⟩
      refine ⟨_, _, _, rfl, low, h, ax.mono (grow nc5), rfl, rfl, fun G1 g1 => ⟨_, rfl, iteF ?_⟩⟩
      refine ⟨_, rfl, _, rfl, (ax.mono (grow nc5)).mono g1, fun G2 g2 => ⟨_, rfl, iteF ?_⟩⟩
      exact ⟨((e.trans (grow nc5)).trans g1).trans g2, _, _, _, _, rfl⟩
    · rintro σ H' ⟨e, y2, y3, y6, y7, rfl⟩
      exact ⟨(hb11.mono e12).mono (Same.trans (by walk_at "sm") e), _, _, _, _, _, _, rfl⟩
  · rintro σ H3 ⟨hb, y2, y3, y4, y5, y6, y7, rfl⟩
    exact k H3

end
end Fb

set_option Elab.async false
set_option linter.all false
set_option maxRecDepth 100000
set_option maxHeartbeats 4000000
namespace Fb
open PySem PySem.Spec L2
open PyProof.Rows hiding St
open C8 (Cal Met Mak Def cal0 met0 mak0 pe_c pe_mk pe_mt pe_mt0 fnScope fnBody fnArgs pss_cut tCut)
/-! ### what the top has written, each a fact that k_is finds -/
theorem all_mk {l : PySem.W.OpenLaw} {w : World} {K : PySem.W.Frag} {h : Heap} {mg : Str → Option Value} {fa f1 f2 t2 f3 f4 f5 f6 f7 f8 f9 f10 f11 f12 f13 f14 f15 : Addr} {od1 an1 : Option Addr} {sl1 : Array (Option Value)} {oc1 kV1 dc1 pm1 cd1 ct1 : Value}
    {od2 an2 : Option Addr} {sl2 : Array (Option Value)} {oc2 kV2 dc2 pm2 cd2 ct2 : Value}
    {dt2_0 : Tok}
    {to2 : Value} {td2 : Option Addr} {tn2 : Nat} {ts2 : Array (Option Value)}
    {od3 an3 : Option Addr} {sl3 : Array (Option Value)} {oc3 kV3 dc3 pm3 cd3 ct3 : Value}
    {od4 an4 : Option Addr} {sl4 : Array (Option Value)} {oc4 kV4 dc4 pm4 cd4 ct4 : Value}
    {od5 an5 : Option Addr} {sl5 : Array (Option Value)} {oc5 kV5 dc5 pm5 cd5 ct5 : Value}
    {od6 an6 : Option Addr} {sl6 : Array (Option Value)} {oc6 kV6 dc6 pm6 cd6 ct6 : Value}
    {od7 an7 : Option Addr} {sl7 : Array (Option Value)} {oc7 kV7 dc7 pm7 cd7 ct7 : Value}
    {od8 an8 : Option Addr} {sl8 : Array (Option Value)} {oc8 kV8 dc8 pm8 cd8 ct8 : Value}
    {od9 an9 : Option Addr} {sl9 : Array (Option Value)} {oc9 kV9 dc9 pm9 cd9 ct9 : Value}
    {od10 an10 : Option Addr} {sl10 : Array (Option Value)} {oc10 kV10 dc10 pm10 cd10 ct10 : Value}
    {od11 an11 : Option Addr} {sl11 : Array (Option Value)} {oc11 kV11 dc11 pm11 cd11 ct11 : Value}
    {od12 an12 : Option Addr} {sl12 : Array (Option Value)} {oc12 kV12 dc12 pm12 cd12 ct12 : Value}
    {od13 an13 : Option Addr} {sl13 : Array (Option Value)} {oc13 kV13 dc13 pm13 cd13 ct13 : Value}
    {od14 an14 : Option Addr} {sl14 : Array (Option Value)} {oc14 kV14 dc14 pm14 cd14 ct14 : Value}
    {od15 an15 : Option Addr} {sl15 : Array (Option Value)} {oc15 kV15 dc15 pm15 cd15 ct15 : Value}
    {g0 : Tok}
    {g1 : Tok}
    {g2 : Tok}
    {g3 : Tok}
    (X : K.In h) (G : h.Ns mainGlobals mg) (hfa : mg "law" = some (.ref fa))
    (a1 : PySem.W.nsIn K mainGlobals "is_name" = some (some (.ref f1)))
    (l1 : K.lookup f1 = some ⟨oc1, od1, .func (PySem.W.fnOf "is_name" "is_name" (fnArgs s_is_name) (fnBody s_is_name) (fnScope s_is_name) .none kV1 dc1 pm1 an1 cd1 ct1), sl1⟩)
    (c1 : PySem.W.codeIn K cd1 "is_name" = true)
    (k1 : PySem.W.keepIn K (.ref f1) = true)
    (a2 : PySem.W.nsIn K mainGlobals "is_number" = some (some (.ref f2)))
    (l2 : K.lookup f2 = some ⟨oc2, od2, .func (PySem.W.fnOf "is_number" "is_number" (fnArgs s_is_number) (fnBody s_is_number) (fnScope s_is_number) (.ref t2) kV2 dc2 pm2 an2 cd2 ct2), sl2⟩)
    (c2 : PySem.W.codeIn K cd2 "is_number" = true)
    (k2 : PySem.W.keepIn K (.ref f2) = true)
    (d2 : K.lookup t2 = some ⟨to2, td2, .seq #[.int 0 dt2_0, .none] tn2, ts2⟩)
    (a3 : PySem.W.nsIn K mainGlobals "_law_bag" = some (some (.ref f3)))
    (l3 : K.lookup f3 = some ⟨oc3, od3, .func (PySem.W.fnOf "_law_bag" "_law_bag" (fnArgs s__law_bag) (fnBody s__law_bag) (fnScope s__law_bag) .none kV3 dc3 pm3 an3 cd3 ct3), sl3⟩)
    (c3 : PySem.W.codeIn K cd3 "_law_bag" = true)
    (k3 : PySem.W.keepIn K (.ref f3) = true)
    (a4 : PySem.W.nsIn K mainGlobals "_law_draw" = some (some (.ref f4)))
    (l4 : K.lookup f4 = some ⟨oc4, od4, .func (PySem.W.fnOf "_law_draw" "_law_draw" (fnArgs s__law_draw) (fnBody s__law_draw) (fnScope s__law_draw) .none kV4 dc4 pm4 an4 cd4 ct4), sl4⟩)
    (c4 : PySem.W.codeIn K cd4 "_law_draw" = true)
    (k4 : PySem.W.keepIn K (.ref f4) = true)
    (a5 : PySem.W.nsIn K mainGlobals "_law_of" = some (some (.ref f5)))
    (l5 : K.lookup f5 = some ⟨oc5, od5, .func (PySem.W.fnOf "_law_of" "_law_of" (fnArgs s__law_of) (fnBody s__law_of) (fnScope s__law_of) .none kV5 dc5 pm5 an5 cd5 ct5), sl5⟩)
    (c5 : PySem.W.codeIn K cd5 "_law_of" = true)
    (k5 : PySem.W.keepIn K (.ref f5) = true)
    (a6 : PySem.W.nsIn K mainGlobals "_law_like" = some (some (.ref f6)))
    (l6 : K.lookup f6 = some ⟨oc6, od6, .func (PySem.W.fnOf "_law_like" "_law_like" (fnArgs s__law_like) (fnBody s__law_like) (fnScope s__law_like) .none kV6 dc6 pm6 an6 cd6 ct6), sl6⟩)
    (c6 : PySem.W.codeIn K cd6 "_law_like" = true)
    (k6 : PySem.W.keepIn K (.ref f6) = true)
    (a7 : PySem.W.nsIn K mainGlobals "_law_is_number" = some (some (.ref f7)))
    (l7 : K.lookup f7 = some ⟨oc7, od7, .func (PySem.W.fnOf "_law_is_number" "_law_is_number" (fnArgs s__law_is_number) (fnBody s__law_is_number) (fnScope s__law_is_number) .none kV7 dc7 pm7 an7 cd7 ct7), sl7⟩)
    (c7 : PySem.W.codeIn K cd7 "_law_is_number" = true)
    (k7 : PySem.W.keepIn K (.ref f7) = true)
    (a8 : PySem.W.nsIn K mainGlobals "_law_is_title" = some (some (.ref f8)))
    (l8 : K.lookup f8 = some ⟨oc8, od8, .func (PySem.W.fnOf "_law_is_title" "_law_is_title" (fnArgs s__law_is_title) (fnBody s__law_is_title) (fnScope s__law_is_title) .none kV8 dc8 pm8 an8 cd8 ct8), sl8⟩)
    (c8 : PySem.W.codeIn K cd8 "_law_is_title" = true)
    (k8 : PySem.W.keepIn K (.ref f8) = true)
    (a9 : PySem.W.nsIn K mainGlobals "_law_odd" = some (some (.ref f9)))
    (l9 : K.lookup f9 = some ⟨oc9, od9, .func (PySem.W.fnOf "_law_odd" "_law_odd" (fnArgs s__law_odd) (fnBody s__law_odd) (fnScope s__law_odd) .none kV9 dc9 pm9 an9 cd9 ct9), sl9⟩)
    (c9 : PySem.W.codeIn K cd9 "_law_odd" = true)
    (k9 : PySem.W.keepIn K (.ref f9) = true)
    (a10 : PySem.W.nsIn K mainGlobals "_law_within" = some (some (.ref f10)))
    (l10 : K.lookup f10 = some ⟨oc10, od10, .func (PySem.W.fnOf "_law_within" "_law_within" (fnArgs s__law_within) (fnBody s__law_within) (fnScope s__law_within) .none kV10 dc10 pm10 an10 cd10 ct10), sl10⟩)
    (c10 : PySem.W.codeIn K cd10 "_law_within" = true)
    (k10 : PySem.W.keepIn K (.ref f10) = true)
    (a11 : PySem.W.nsIn K mainGlobals "_law_far" = some (some (.ref f11)))
    (l11 : K.lookup f11 = some ⟨oc11, od11, .func (PySem.W.fnOf "_law_far" "_law_far" (fnArgs s__law_far) (fnBody s__law_far) (fnScope s__law_far) .none kV11 dc11 pm11 an11 cd11 ct11), sl11⟩)
    (c11 : PySem.W.codeIn K cd11 "_law_far" = true)
    (k11 : PySem.W.keepIn K (.ref f11) = true)
    (a12 : PySem.W.nsIn K mainGlobals "_law_text" = some (some (.ref f12)))
    (l12 : K.lookup f12 = some ⟨oc12, od12, .func (PySem.W.fnOf "_law_text" "_law_text" (fnArgs s__law_text) (fnBody s__law_text) (fnScope s__law_text) .none kV12 dc12 pm12 an12 cd12 ct12), sl12⟩)
    (c12 : PySem.W.codeIn K cd12 "_law_text" = true)
    (k12 : PySem.W.keepIn K (.ref f12) = true)
    (a13 : PySem.W.nsIn K mainGlobals "_law_names_so" = some (some (.ref f13)))
    (l13 : K.lookup f13 = some ⟨oc13, od13, .func (PySem.W.fnOf "_law_names_so" "_law_names_so" (fnArgs s__law_names_so) (fnBody s__law_names_so) (fnScope s__law_names_so) .none kV13 dc13 pm13 an13 cd13 ct13), sl13⟩)
    (c13 : PySem.W.codeIn K cd13 "_law_names_so" = true)
    (k13 : PySem.W.keepIn K (.ref f13) = true)
    (a14 : PySem.W.nsIn K mainGlobals "_law_numbers_so" = some (some (.ref f14)))
    (l14 : K.lookup f14 = some ⟨oc14, od14, .func (PySem.W.fnOf "_law_numbers_so" "_law_numbers_so" (fnArgs s__law_numbers_so) (fnBody s__law_numbers_so) (fnScope s__law_numbers_so) .none kV14 dc14 pm14 an14 cd14 ct14), sl14⟩)
    (c14 : PySem.W.codeIn K cd14 "_law_numbers_so" = true)
    (k14 : PySem.W.keepIn K (.ref f14) = true)
    (a15 : PySem.W.nsIn K mainGlobals "law" = some (some (.ref f15)))
    (l15 : K.lookup f15 = some ⟨oc15, od15, .func (PySem.W.fnOf "law" "law" (fnArgs s_law) (fnBody s_law) (fnScope s_law) .none kV15 dc15 pm15 an15 cd15 ct15), sl15⟩)
    (c15 : PySem.W.codeIn K cd15 "law" = true)
    (k15 : PySem.W.keepIn K (.ref f15) = true)
    (z0 : PySem.W.nsIn K mainGlobals "all" = some none)
    (z1 : PySem.W.nsIn K mainGlobals "bool" = some none)
    (z2 : PySem.W.nsIn K mainGlobals "dict" = some none)
    (z3 : PySem.W.nsIn K mainGlobals "int" = some none)
    (z4 : PySem.W.nsIn K mainGlobals "isinstance" = some none)
    (z5 : PySem.W.nsIn K mainGlobals "len" = some none)
    (z6 : PySem.W.nsIn K mainGlobals "list" = some none)
    (z7 : PySem.W.nsIn K mainGlobals "range" = some none)
    (z8 : PySem.W.nsIn K mainGlobals "str" = some none)
    (z9 : PySem.W.nsIn K mainGlobals "tuple" = some none)
    (z10 : PySem.W.nsIn K mainGlobals "zip" = some none)
    (m0 : PySem.W.nsIn K mainGlobals "MOST" = some (some (.int 1000000 g0)))
    (m1 : PySem.W.nsIn K mainGlobals "PLENTY" = some (some (.int 1000000000 g1)))
    (m2 : PySem.W.nsIn K mainGlobals "WHEEL" = some (some (.str "car" g2)))
    (m3 : PySem.W.nsIn K mainGlobals "LETTERS" = some (some (.int 8 g3))) :
    ∃ fd : FuncData, (∀ (s : Shared) (v : Value), BindsTo s fd ⟨[v], []⟩ [("script", v)]) ∧ ∀ base : Heap, K.In base → base.Ns mainGlobals mg → FnOk l.prog w K mg base C8.CX0 10 fa fd ["script"] (spLaw1 K) := by
  have T : Top K mg :=
    { d_is_name := ⟨f1, _, ⟨⟨_, _, _, _, _, _, _, _, _, _, rfl, l1, c1⟩, PySem.W.mg_of X G a1, k1⟩, rfl⟩
      d_is_number := ⟨f2, _, ⟨⟨_, _, _, _, _, _, _, _, _, _, rfl, l2, c2⟩, PySem.W.mg_of X G a2, k2⟩, .inr ⟨(by intro h; cases h), t2, _, [.int 0 dt2_0, .none], tn2, rfl, d2, rfl, (.cons ⟨_, rfl⟩ (.cons rfl .nil))⟩⟩
      d__law_bag := ⟨f3, _, ⟨⟨_, _, _, _, _, _, _, _, _, _, rfl, l3, c3⟩, PySem.W.mg_of X G a3, k3⟩, rfl⟩
      d__law_draw := ⟨f4, _, ⟨⟨_, _, _, _, _, _, _, _, _, _, rfl, l4, c4⟩, PySem.W.mg_of X G a4, k4⟩, rfl⟩
      d__law_of := ⟨f5, _, ⟨⟨_, _, _, _, _, _, _, _, _, _, rfl, l5, c5⟩, PySem.W.mg_of X G a5, k5⟩, rfl⟩
      d__law_like := ⟨f6, _, ⟨⟨_, _, _, _, _, _, _, _, _, _, rfl, l6, c6⟩, PySem.W.mg_of X G a6, k6⟩, rfl⟩
      d__law_is_number := ⟨f7, _, ⟨⟨_, _, _, _, _, _, _, _, _, _, rfl, l7, c7⟩, PySem.W.mg_of X G a7, k7⟩, rfl⟩
      d__law_is_title := ⟨f8, _, ⟨⟨_, _, _, _, _, _, _, _, _, _, rfl, l8, c8⟩, PySem.W.mg_of X G a8, k8⟩, rfl⟩
      d__law_odd := ⟨f9, _, ⟨⟨_, _, _, _, _, _, _, _, _, _, rfl, l9, c9⟩, PySem.W.mg_of X G a9, k9⟩, rfl⟩
      d__law_within := ⟨f10, _, ⟨⟨_, _, _, _, _, _, _, _, _, _, rfl, l10, c10⟩, PySem.W.mg_of X G a10, k10⟩, rfl⟩
      d__law_far := ⟨f11, _, ⟨⟨_, _, _, _, _, _, _, _, _, _, rfl, l11, c11⟩, PySem.W.mg_of X G a11, k11⟩, rfl⟩
      d__law_text := ⟨f12, _, ⟨⟨_, _, _, _, _, _, _, _, _, _, rfl, l12, c12⟩, PySem.W.mg_of X G a12, k12⟩, rfl⟩
      d__law_names_so := ⟨f13, _, ⟨⟨_, _, _, _, _, _, _, _, _, _, rfl, l13, c13⟩, PySem.W.mg_of X G a13, k13⟩, rfl⟩
      d__law_numbers_so := ⟨f14, _, ⟨⟨_, _, _, _, _, _, _, _, _, _, rfl, l14, c14⟩, PySem.W.mg_of X G a14, k14⟩, rfl⟩
      d_law := ⟨f15, _, ⟨⟨_, _, _, _, _, _, _, _, _, _, rfl, l15, c15⟩, PySem.W.mg_of X G a15, k15⟩, rfl⟩
      all := PySem.W.mg_none_of X G z0
      bool := PySem.W.mg_none_of X G z1
      dict := PySem.W.mg_none_of X G z2
      int := PySem.W.mg_none_of X G z3
      isinstance := PySem.W.mg_none_of X G z4
      len := PySem.W.mg_none_of X G z5
      list := PySem.W.mg_none_of X G z6
      range := PySem.W.mg_none_of X G z7
      str := PySem.W.mg_none_of X G z8
      tuple := PySem.W.mg_none_of X G z9
      zip := PySem.W.mg_none_of X G z10
      m_MOST := ⟨_, PySem.W.mg_of X G m0, _, rfl⟩
      m_PLENTY := ⟨_, PySem.W.mg_of X G m1, _, rfl⟩
      m_WHEEL := ⟨_, PySem.W.mg_of X G m2, _, rfl⟩
      m_LETTERS := ⟨_, PySem.W.mg_of X G m3, _, rfl⟩ }
  have ea := hfa.symm.trans (PySem.W.mg_of X G a15)
  cases ea
  exact ⟨_, fun s v => .of_eq rfl, fun base _ _ => ok_law T ⟨⟨_, _, _, _, _, _, _, _, _, _, rfl, l15, c15⟩, PySem.W.mg_of X G a15, k15⟩⟩
end Fb
open PySem PySem.W PyProof.Rows
set_option maxRecDepth 100000 in
set_option maxHeartbeats 0 in
theorem PySem.Challenge.cw_feeblind_k01_names_and_numbers_judged_holds : PySem.Challenge.rw_feeblind_k01_names_and_numbers_judged.Holds := by
  w_on; o_law; k_head; (case hw => w_witness2)
  k_fill
  refine L2.walk_of (l := PySem.Challenge.rw_feeblind_k01_names_and_numbers_judged) (n := 63) (k := 10) (x := "script") (CX := fun _ => C8.CX0) (sp := fun w => Fb.spLaw1 _) rfl (by decide) rfl ⟨rfl, by decide, by decide⟩ (fun w h Y => PySem.W.kIn_of Y) ?F (fun _ _ a ns hl _ hS => ⟨_, rfl, a, ns, rfl, hS, fun _ => rfl⟩) (fun _ _ _ _ _ z => z)
  case F =>
    intro w mg fa h KX G hmg
    refine' Fb.all_mk KX G hmg ?a1 ?l1 ?c1 ?k1 ?a2 ?l2 ?c2 ?k2 ?d2 ?a3 ?l3 ?c3 ?k3 ?a4 ?l4 ?c4 ?k4 ?a5 ?l5 ?c5 ?k5 ?a6 ?l6 ?c6 ?k6 ?a7 ?l7 ?c7 ?k7 ?a8 ?l8 ?c8 ?k8 ?a9 ?l9 ?c9 ?k9 ?a10 ?l10 ?c10 ?k10 ?a11 ?l11 ?c11 ?k11 ?a12 ?l12 ?c12 ?k12 ?a13 ?l13 ?c13 ?k13 ?a14 ?l14 ?c14 ?k14 ?a15 ?l15 ?c15 ?k15 ?z0 ?z1 ?z2 ?z3 ?z4 ?z5 ?z6 ?z7 ?z8 ?z9 ?z10 ?m0 ?m1 ?m2 ?m3
    (case a1 => k_is)
    (case l1 => k_is)
    (case c1 => k_is)
    (case k1 => k_is)
    (case a2 => k_is)
    (case l2 => k_is)
    (case c2 => k_is)
    (case k2 => k_is)
    (case d2 => k_is)
    (case a3 => k_is)
    (case l3 => k_is)
    (case c3 => k_is)
    (case k3 => k_is)
    (case a4 => k_is)
    (case l4 => k_is)
    (case c4 => k_is)
    (case k4 => k_is)
    (case a5 => k_is)
    (case l5 => k_is)
    (case c5 => k_is)
    (case k5 => k_is)
    (case a6 => k_is)
    (case l6 => k_is)
    (case c6 => k_is)
    (case k6 => k_is)
    (case a7 => k_is)
    (case l7 => k_is)
    (case c7 => k_is)
    (case k7 => k_is)
    (case a8 => k_is)
    (case l8 => k_is)
    (case c8 => k_is)
    (case k8 => k_is)
    (case a9 => k_is)
    (case l9 => k_is)
    (case c9 => k_is)
    (case k9 => k_is)
    (case a10 => k_is)
    (case l10 => k_is)
    (case c10 => k_is)
    (case k10 => k_is)
    (case a11 => k_is)
    (case l11 => k_is)
    (case c11 => k_is)
    (case k11 => k_is)
    (case a12 => k_is)
    (case l12 => k_is)
    (case c12 => k_is)
    (case k12 => k_is)
    (case a13 => k_is)
    (case l13 => k_is)
    (case c13 => k_is)
    (case k13 => k_is)
    (case a14 => k_is)
    (case l14 => k_is)
    (case c14 => k_is)
    (case k14 => k_is)
    (case a15 => k_is)
    (case l15 => k_is)
    (case c15 => k_is)
    (case k15 => k_is)
    (case z0 => k_is)
    (case z1 => k_is)
    (case z2 => k_is)
    (case z3 => k_is)
    (case z4 => k_is)
    (case z5 => k_is)
    (case z6 => k_is)
    (case z7 => k_is)
    (case z8 => k_is)
    (case z9 => k_is)
    (case z10 => k_is)
    (case m0 => k_is)
    (case m1 => k_is)
    (case m2 => k_is)
    (case m3 => k_is)

