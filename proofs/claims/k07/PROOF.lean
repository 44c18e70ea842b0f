import PyProof.Rows.All
import Wide.All
import OpenK.AllK
import Wide.FinOn
import HandS.Base
import HandS.Call
import HandS.List
import HandS.Comp
import HandS.Iter
import HandS.Dict
import HandS.Text
import HandS.Ends
import HandS.Words
import HandS.WordsList
import HandS.Wide
import HandS.Defaults
import HandS.Zip
import KE.DataEq
import HandS.Walk
import HandS.IsInst
import HandS.Codes
import HandS.Rev
import HandS.RevRange
import KE.GoesEnum
import KE.SortData
import HandS.Style
import HandS.SortInts
import HandS.TupSets
import KE.SortKeyHeap
import KE.KSortKey
import HandS.Lambda
import HandS.SortKw
import HandS.Deep
import HandS.TryOnly
import HandS.EndTab
import PySem.Challenge.RW_feeblind_k07_lines_alone_least
set_option Elab.async false
set_option linter.all false
set_option maxRecDepth 100000
set_option maxHeartbeats 4000000
/-! Rules that serve several kinds at once, and the bag of draws. -/
namespace Fb
open PySem PySem.Spec L2
open PyProof.Rows hiding St

/-! ### heaps that only grow -/
theorem grow {H : Hp} {p : Addr} {o : HO} (h : H p = none) : Same H (upd H p o) := by
  intro b u e
  rw [upd_ne (ne_of_none e h)]
  exact e
theorem upd_self {H : Hp} {p : Addr} {o : HO} (h : H p = some o) : upd H p o = H := by
  funext b
  unfold upd
  by_cases e : b = p
  · rw [if_pos e, e, h]
  · rw [if_neg e]
theorem same_tup {K : PySem.W.Frag} {H H' : Hp} {a : Addr} {xs : List V} (e : Same H H') (h : SqT K H a xs) : SqT K H' a xs := by
  rcases h with (h | ⟨o, h⟩) | h
  · exact Or.inl (Or.inl (e _ _ h))
  · exact Or.inl (Or.inr ⟨o, e _ _ h⟩)
  · exact Or.inr h

/-! ### == of data of any depth below sixty, whatever signs its texts have -/
mutual
theorem dp_plain {K : PySem.W.Frag} {H : Hp} : ∀ (d : PyData) {v : V}, Dp K H v d → d.plain = true
  | .none, _, _ => rfl
  | .bool _, _, _ => rfl
  | .int _, _, _ => rfl
  | .str _, _, _ => rfl
  | .list ds, _, h => by
    cases h with
    | lst _ a => exact dpAll_plain ds a
  | .tuple ds, _, h => by
    cases h with
    | tup _ a => exact dpAll_plain ds a
  | .dict _, _, h => by cases h
theorem dpAll_plain {K : PySem.W.Frag} {H : Hp} : ∀ (ds : List PyData) {vs : List V}, DpAll K H vs ds → PyData.plainAll ds = true
  | [], _, _ => rfl
  | d :: ds, _, h => by
    cases h with
    | cons a b =>
      have h1 := dp_plain d a
      have h2 := dpAll_plain ds b
      simp only [PyData.plainAll, h1, h2, Bool.and_self]
end
def rEqP (K : PySem.W.Frag) : R2 := fun x y H Q => ∃ d e, Dp K H x d ∧ Dp K H y e ∧ min d.depth e.depth ≤ 60 ∧ Q (.bl (PyData.eqv d e)) H
def rNeP (K : PySem.W.Frag) : R2 := fun x y H Q => ∃ d e, Dp K H x d ∧ Dp K H y e ∧ min d.depth e.depth ≤ 60 ∧ Q (.bl (!PyData.eqv d e)) H
section
variable {X : Cx} {k : Nat}
theorem op_eqP (hr : Room k X.A) : OpR X (compareOp .Eq) (rEqP X.K) := by
  rintro pins s σ H x y v u Q I rx ry ⟨d, e, hd, he, hl, q⟩
  obtain ⟨as, r1⟩ := Dp.reads I d x v hd rx
  obtain ⟨bs, r2⟩ := Dp.reads I e y u he ry
  have hu := hr.units
  exact SeqAt.eq_plain r1 r2 (dp_plain d hd) (dp_plain e he) (by omega) ⟨.bl _, H, I, rfl, q⟩
theorem op_neP (hr : Room k X.A) : OpR X (compareOp .NotEq) (rNeP X.K) := by
  rintro pins s σ H x y v u Q I rx ry ⟨d, e, hd, he, hl, q⟩
  obtain ⟨as, r1⟩ := Dp.reads I d x v hd rx
  obtain ⟨bs, r2⟩ := Dp.reads I e y u he ry
  have hu := hr.units
  exact SeqAt.ne_plain r1 r2 (dp_plain d hd) (dp_plain e he) (by omega) ⟨.bl _, H, I, rfl, q⟩
end

/-! ### rules for several kinds -/
def rAddStr : R2 := fun x y H Q => ∃ i j, x = .str i ∧ y = .str j ∧ i.length + j.length ≤ sizeLine ∧ Q (.str (i ++ j)) H
def rAddU : R2 := fun x y H Q => rI0 (fun i j => .int (i + j)) x y H Q ∨ rAddStr x y H Q ∨ rCat x y H Q
def rLeStr : R2 := fun x y H Q => ∃ i j, x = .str i ∧ y = .str j ∧ Q (.bl (!decide (j.cps.toList < i.cps.toList))) H
def rLeU : R2 := fun x y H Q => rI0 (fun i j => .bl (decide (i ≤ j))) x y H Q ∨ rLeStr x y H Q
def rLtStr : R2 := fun x y H Q => ∃ i j, x = .str i ∧ y = .str j ∧ Q (.bl (decide (i.cps.toList < j.cps.toList))) H
def rLtU (K : PySem.W.Frag) : R2 := fun x y H Q => rI0 (fun i j => .bl (decide (i < j))) x y H Q ∨ rLtStr x y H Q ∨ rLtT K x y H Q
def rEqU (K : PySem.W.Frag) : R2 := fun x y H Q => rEq x y H Q ∨ rEqP K x y H Q
def rNeU (K : PySem.W.Frag) : R2 := fun x y H Q => rNe x y H Q ∨ rNeP K x y H Q
def rLenSeq (K : PySem.W.Frag) : List V → Hp → VK → Prop := fun xs H Q => ∃ p ys, xs = [.ref p] ∧ (SqL K H p ys ∨ SqT K H p ys) ∧ Q (.int ys.length) H
def rLenStr : List V → Hp → VK → Prop := fun xs H Q => ∃ z, xs = [.str z] ∧ z.length ≤ sizeLine ∧ Q (.int z.length) H
def rLenDic : List V → Hp → VK → Prop := fun xs H Q => ∃ a kvs, xs = [V.ref a] ∧ H a = some (.dK kvs) ∧ Q (.int kvs.length) H
def rLenU (K : PySem.W.Frag) : List V → Hp → VK → Prop := fun xs H Q => rLenSeq K xs H Q ∨ rLenStr xs H Q
def rSlU (K : PySem.W.Frag) : V → Option Int → Option Int → Hp → VK → Prop := fun x lo hi H Q => rSlL K x lo hi H Q ∨ rSlS x lo hi H Q
section
variable {X : Cx} {k : Nat}
theorem op_addU : OpR X (binaryOp .Add) rAddU := op_add.or (op_add_str.or op_cat)
theorem op_leU : OpR X (compareOp .LtE) rLeU := op_le.or op_le_str
theorem op_geU : OpR X (compareOp .GtE) (rI0 fun i j => .bl (decide (j ≤ i))) := op_ge
theorem op_gtU : OpR X (compareOp .Gt) (rI0 fun i j => .bl (decide (j < i))) := op_gt
theorem op_ltU (hr : Room k X.A) : OpR X (compareOp .Lt) (rLtU X.K) := op_lt.or (op_lt_str.or (op_ltT hr.units0))
theorem op_eqU (hr : Room k X.A) : OpR X (compareOp .Eq) (rEqU X.K) := op_eq.or (op_eqP hr)
theorem op_neU (hr : Room k X.A) : OpR X (compareOp .NotEq) (rNeU X.K) := op_ne.or (op_neP hr)
theorem call_lenU : CallR X (.builtin "len") (rLenU X.K) := call_len_seq.or call_len_str
theorem sl_U : SlR X (rSlU X.K) := sl_list.or sl_str
end

/-! ### what a for walks, whatever it is: a list, a tuple, a text -/
def iAny (K : PySem.W.Frag) (tl : TE) : TI := fun σ H R => tl σ H fun x H1 =>
  (∃ a, x = .ref a ∧ (∃ xs, SqL K H1 a xs) ∧ R (Itl K a) H1) ∨ (∃ a, x = .ref a ∧ (∃ xs, SqT K H1 a xs) ∧ R (Itt K a) H1) ∨ (∃ z, x = .str z ∧ R (Its z) H1)
theorem pi_any {X : Cx} {tg l : Expr} {tl : TE} (hl : PE X l tl) : PI X tg l (iAny X.K tl) := by
  constructor
  intro pins s σ H R I h
  refine thn (hl.run pins s σ H _ I h) ?_
  rintro v s1 ⟨x, H1, I1, r1, q1⟩
  rcases q1 with ⟨a, e, ⟨xs, hq⟩, q⟩ | ⟨a, e, ⟨xs, hq⟩, q⟩ | ⟨z, e, q⟩
  all_goals subst e
  · cases r1
    obtain ⟨its, rv, p, hz⟩ := I1.list hq
    exact wpAny_pyIter_list p.isList (pi_one (tk := s1.toks) I1 _ (turn_list a _) ⟨_, Heap.get?_push_size _ rfl, rfl, rfl⟩ q)
  · cases r1
    obtain ⟨its, rv, p, hz⟩ := I1.tuple hq
    exact wpAny_pyIter_tuple (show s1.heap.IsTuple a its.toArray from p) (pi_one (tk := s1.toks) I1 _ (turn_tuple a _) ⟨_, Heap.get?_push_size _ rfl, rfl, rfl⟩ q)
  · obtain ⟨t, rfl⟩ := r1
    cases ha : z.cps.all (· < 128) with
    | false => exact wpAny_pyIter_wide ha (pi_one (tk := s1.toks) I1 _ (turn_str _ z t "str_iterator" (.inr rfl)) ⟨_, Heap.get?_push_size _ rfl, rfl, rfl⟩ q)
    | true => exact wpAny_pyIter_ascii ha (pi_one (tk := s1.toks) I1 _ (turn_str _ z t "str_ascii_iterator" (.inl rfl)) ⟨_, Heap.get?_push_size _ rfl, rfl, rfl⟩ q)

/-! ### an object tracked otherwise than before -/
theorem retrack {X : Cx} {pins : List (Addr × Obj)} {σ : St} {H : Hp} {s : Shared} {p : Addr} {o : HO} (I : Inv X pins σ H s) (mu : Mut (H p)) (there : ∃ u, s.heap.get? p = some u) (new : ObjOk X.prog X.w (upd H p o) s.heap p o) : Inv X pins σ (upd H p o) s :=
  I.write (h' := s.heap) (t' := s.toks) mu (.inl rfl) (fun _ _ _ e => e) there new

/-! ### the bag of draws: a list [the script's ints, how many are used, what is left of one, a stir, a count] -/
def bagL (q : Addr) (i c st t : Int) : List V := [.ref q, .int i, .int c, .int st, .int t]
def BagOk (i st : Int) : Prop := 0 ≤ i ∧ 0 ≤ st ∧ st < 2147483629
def bagO (q p : Addr) : HO := .ext fun h => ∃ (i c st t : Int) (its : List Value) (n : Nat), BagOk i st ∧ Vals (bagL q i c st t) its ∧ h.get? p = some { cls := .type "list", data := .seq its.toArray n }
theorem bag_shut {P : Program} {w : World} {H : Hp} {h : Heap} {q p : Addr} {i c st t : Int} (b : BagOk i st) (x : ObjOk P w H h p (.lst (bagL q i c st t))) : ObjOk P w H h p (bagO q p) := by
  obtain ⟨_, its, n, v, e⟩ := x
  refine ⟨⟨i, c, st, t, its, n, b, v, e⟩, ⟨_, e⟩, ?_⟩
  rintro h1 h2 ⟨i, c, st, t, its, n, b, v, e⟩ k
  exact ⟨i, c, st, t, its, n, b, v, k _ e⟩
theorem bag_opened {P : Program} {w : World} {H : Hp} {h : Heap} {q p : Addr} (x : ObjOk P w H h p (bagO q p)) : ∃ i c st t, BagOk i st ∧ ∀ H' : Hp, ObjOk P w H' h p (.lst (bagL q i c st t)) := by
  obtain ⟨⟨i, c, st, t, its, n, b, v, e⟩, _⟩ := x
  exact ⟨i, c, st, t, b, fun _ => ⟨by show 5 ≤ sizeLine; decide, its, n, v, e⟩⟩
/-- the bag at p stands as a list meanwhile -/
def shutAt (q p : Addr) (F : Hp → Prop) (H : Hp) : Prop := ∃ i c st t, BagOk i st ∧ H p = some (.lst (bagL q i c st t)) ∧ F (upd H p (bagO q p))
def tBag (t : TS) : TS := fun D σ H => ∃ p q, H p = some (bagO q p) ∧ ∀ i c st tt, BagOk i st →
  t ⟨fun σ' => shutAt q p (D.nx σ'), fun v => shutAt q p (D.rt v), fun σ' => shutAt q p (D.bk σ'), fun σ' => shutAt q p (D.ct σ')⟩ σ (upd H p (.lst (bagL q i c st tt)))
theorem shut {X : Cx} {pins : List (Addr × Obj)} {σ : St} {H : Hp} {s : Shared} {q p : Addr} {F : Hp → Prop} (I : Inv X pins σ H s) (h : shutAt q p F H) : ∃ H', Inv X pins σ H' s ∧ F H' := by
  obtain ⟨i, c, st, t, b, e, f⟩ := h
  have old := I.hok _ _ e
  obtain ⟨l, its, n, v, g⟩ := old
  exact ⟨_, retrack I (by rw [e]; trivial) ⟨_, g⟩ (bag_shut (H := upd H p (bagO q p)) b ⟨l, its, n, v, g⟩), f⟩
theorem pss_bag {X : Cx} {sts : List Stmt} {t : TS} (h : PSs X sts t) : PSs X sts (tBag t) := by
  constructor
  intro pins s σ H D I hw
  obtain ⟨p, q, hp, hw⟩ := hw
  obtain ⟨i, c, st, tt, b, ok⟩ := bag_opened (I.hok _ _ hp)
  have I1 := retrack (p := p) I (by rw [hp]; trivial) (I.hok _ _ hp).2.1 (ok _)
  refine thn (h.run pins s σ _ _ I1 (hw i c st tt b)) ?_
  intro f s1 r
  cases f with
  | next => obtain ⟨σ', H', I2, e⟩ := r; obtain ⟨H2, I3, f⟩ := shut I2 e; exact ⟨σ', H2, I3, f⟩
  | brk => obtain ⟨σ', H', I2, e⟩ := r; obtain ⟨H2, I3, f⟩ := shut I2 e; exact ⟨σ', H2, I3, f⟩
  | cont => obtain ⟨σ', H', I2, e⟩ := r; obtain ⟨H2, I3, f⟩ := shut I2 e; exact ⟨σ', H2, I3, f⟩
  | ret v => obtain ⟨x, σ', H', I2, rv, e⟩ := r; obtain ⟨H2, I3, f⟩ := shut I2 e; exact ⟨x, σ', H2, I3, rv, f⟩
/-- a list that is handed back becomes a bag -/
def tBagNew (t : TS) : TS := fun D σ H => t { D with rt := fun v H' => ∃ p q, v = .ref p ∧ shutAt q p (D.rt v) H' } σ H
theorem pss_bagNew {X : Cx} {sts : List Stmt} {t : TS} (h : PSs X sts t) : PSs X sts (tBagNew t) := by
  constructor
  intro pins s σ H D I hw
  refine thn (h.run pins s σ _ _ I hw) ?_
  intro f s1 r
  cases f with
  | next => exact r
  | brk => exact r
  | cont => exact r
  | ret v =>
    obtain ⟨x, σ', H', I2, rv, p, q, e, r⟩ := r
    obtain ⟨H2, I3, f⟩ := shut I2 r
    exact ⟨x, σ', H2, I3, rv, f⟩
end Fb

set_option Elab.async false
set_option linter.all false
set_option maxRecDepth 100000
set_option maxHeartbeats 4000000
namespace Fb
open PySem PySem.Spec L2
open PyProof.Rows hiding St
open C8 (Cal Met Mak Def cal0 met0 mak0 pe_c pe_mk pe_mt pe_mt0 fnScope fnBody fnArgs)

/-! ### isinstance of a built-in class, of a tuple of them -/
def anyB (a : String) : List String → Option Bool
  | [] => some false
  | b :: r => match kitB a b with
    | some true => some true
    | some false => anyB a r
    | none => none
theorem kit_any {K : PySem.W.Frag} {a : String} : ∀ {ns : List String} {b : Bool}, anyB a ns = some b → PySem.W.kitAny K (.type a) (ns.map Value.type) = some b
  | [], b, h => h
  | n :: r, b, h => by
    have ih := @kit_any K a r b
    unfold anyB at h
    rw [List.map_cons]
    unfold PySem.W.kitAny
    cases e : kitB a n with
    | none =>
      rw [e] at h
      cases h
    | some c =>
      rw [e] at h
      rw [kit_ty (K := K) e]
      cases c with
      | true => exact h
      | false => exact ih h
theorem clsAll : ∀ ns : List String, Paired ClsV (ns.map V.ty) (ns.map Value.type)
  | [] => .nil
  | n :: r => .cons (.ty n) (clsAll r)
def rIs1 (K : PySem.W.Frag) : List V → Hp → VK → Prop := fun xs H Q => ∃ (x : V) (n t : String) (b : Bool), xs = [x, .ty n] ∧ TyX K H x (.type t) ∧ kitB t n = some b ∧ Q (.bl b) H
def rIsN (K : PySem.W.Frag) : List V → Hp → VK → Prop := fun xs H Q => ∃ (x : V) (tp : Addr) (ns : List String) (t : String) (b : Bool), xs = [x, .ref tp] ∧ H tp = some (.tup (ns.map V.ty)) ∧ TyX K H x (.type t) ∧ anyB t ns = some b ∧ Q (.bl b) H
def rIsiU (K : PySem.W.Frag) : List V → Hp → VK → Prop := fun xs H Q => rIs1 K xs H Q ∨ rIsN K xs H Q
theorem CallR.imp {X : Cx} {f : Value} {r r' : List V → Hp → VK → Prop} (h : CallR X f r) (i : ∀ xs H Q, r' xs H Q → r xs H Q) : CallR X f r' :=
  fun pins s σ H xs us Q I rv q => h pins s σ H xs us Q I rv (i _ _ _ q)
theorem call_isiU {X : Cx} : CallR X (.builtin "isinstance") (rIsiU X.K) := by
  refine CallR.imp (call_isi.or call_isiT) fun xs H Q h => ?_
  rcases h with ⟨x, n, t, b, e, ty, kb, q⟩ | ⟨x, tp, ns, t, b, e, ht, ty, kb, q⟩
  · exact .inl ⟨x, _, _, _, b, e, .ty n, ty, kit_ty kb, q⟩
  · exact .inr ⟨x, tp, _, _, _, b, e, ht, clsAll ns, ty, kit_any kb, q⟩

/-! ### in, not in: a sign in a text, a flat value in a list or tuple -/
def rInSign (f : Bool → Bool) : R2 := fun x y H Q => ∃ (c : Nat) (z : Str), x = .str ⟨#[c]⟩ ∧ y = .str z ∧ Q (.bl (f (decide (c ∈ z.cps.toList)))) H
def rInU (K : PySem.W.Frag) : R2 := fun x y H Q => rInSign (fun b => b) x y H Q ∨ rIn K false x y H Q
def rNotInU (K : PySem.W.Frag) : R2 := fun x y H Q => rInSign (fun b => !b) x y H Q ∨ rIn K true x y H Q

/-! ### the same rules with the written part named (within a comprehension it must not lean on the block) -/
def rListOf (K : PySem.W.Frag) : List V → Hp → VK → Prop := fun xs H Q => ∃ p ys, xs = [.ref p] ∧ (SqL K H p ys ∨ SqT K H p ys) ∧ ∀ l, H l = none → Q (.ref l) (upd H l (.lst ys))
def rTupleOf (K : PySem.W.Frag) : List V → Hp → VK → Prop := fun xs H Q => ∃ p ys, xs = [.ref p] ∧ ((SqL K H p ys ∧ ∀ l, H l = none → Q (.ref l) (upd H l (.tup ys))) ∨ (SqT K H p ys ∧ Q (.ref p) H))
section
variable {X : Cx} {K : PySem.W.Frag} {k : Nat} (e : X.K = K)
include e
theorem ix_K : IxR X (rIx K) := e ▸ ix_seq
theorem eq_K (hr : Room k X.A) : OpR X (compareOp .Eq) (rEqU K) := e ▸ op_eqU hr
theorem ne_K (hr : Room k X.A) : OpR X (compareOp .NotEq) (rNeU K) := e ▸ op_neU hr
theorem lt_K (hr : Room k X.A) : OpR X (compareOp .Lt) (rLtU K) := e ▸ op_ltU hr
theorem in_K : OpR X (compareOp .In) (rInU K) := e ▸ op_in_sign.or op_in_seq
theorem notIn_K : OpR X (compareOp .NotIn) (rNotInU K) := e ▸ op_notIn_sign.or op_notIn_seq
theorem len_K : CallR X (.builtin "len") (rLenU K) := e ▸ call_lenU
theorem all_K (hc : X.calm = true) : CallR X (.builtin "all") (rAll K) := e ▸ cr_all hc
theorem any_K (hc : X.calm = true) : CallR X (.builtin "any") (rAny K) := e ▸ cr_any hc
theorem sl_K : SlR X (rSlU K) := e ▸ sl_U
theorem listOf_K : CallR X (.type "list") (rListOf K) := e ▸ call_list_of
theorem tupleOf_K : CallR X (.type "tuple") (rTupleOf K) := e ▸ call_tuple_of
theorem tup_K {es : List Expr} {kk n : Nat} {t : TGs} {pos : Pos} (hc : X.calm = true) (h : PGs X es t)
    (hn : (assignEach es X.env).length = n := by rfl) (hst : (assignEach es X.env).findIdx? (·.1) = none := by rfl) :
    PG X (.Tuple es kk pos) (gTup K n t) := e ▸ pg_tup hc h hn hst
theorem pi_K {tg l : Expr} {tl : TE} (hl : PE X l tl) : PI X tg l (iAny K tl) := e ▸ pi_any hl
theorem zip_K {e1 e2 : Expr} {ta : TA} {p pos tpos : Pos} {elts : List Expr} {kk : Nat} (hg : Gl X "zip") (hm : X.mg "zip" = none) (ha : PA X [e1, e2] ta)
    (hs : starEach [e1, e2] X.env = (false, eval e1 X.env) :: starEach [e2] X.env := by rfl) (hpl : (backTo pos (starEach [e2] X.env)).any (·.1) = false := by rfl) :
    PI X (.Tuple elts kk tpos) (.Call (.Name "zip" p) [e1, e2] [] pos) (RZ.iZipA K ta) := e ▸ RZ.pi_zipA hg hm ha hs hpl
end

/-! ### a value of any kind: what is known of it -/
def AnyV (K : PySem.W.Frag) (H : Hp) (v : V) : Prop :=
  v = .non ∨ (∃ b, v = .bl b) ∨ (∃ i, v = .int i) ∨ (∃ z : Str, v = .str z ∧ z.length ≤ 100000) ∨ (∃ a xs, v = .ref a ∧ H a = some (.lst xs)) ∨ (∃ a xs, v = .ref a ∧ H a = some (.tup xs)) ∨ ∃ a kvs, v = .ref a ∧ H a = some (.dK kvs)
theorem AnyV.mono {K : PySem.W.Frag} {H H' : Hp} {v : V} (h : AnyV K H v) (e : Same H H') : AnyV K H' v := by
  rcases h with h | h | h | h | ⟨a, xs, h, g⟩ | ⟨a, xs, h, g⟩ | ⟨a, xs, h, g⟩
  · exact .inl h
  · exact .inr (.inl h)
  · exact .inr (.inr (.inl h))
  · exact .inr (.inr (.inr (.inl h)))
  · exact .inr (.inr (.inr (.inr (.inl ⟨a, xs, h, e _ _ g⟩))))
  · exact .inr (.inr (.inr (.inr (.inr (.inl ⟨a, xs, h, e _ _ g⟩)))))
  · exact .inr (.inr (.inr (.inr (.inr (.inr ⟨a, xs, h, e _ _ g⟩)))))
theorem any_non {K : PySem.W.Frag} {H : Hp} : AnyV K H .non := .inl rfl
theorem any_bl {K : PySem.W.Frag} {H : Hp} (b : Bool) : AnyV K H (.bl b) := .inr (.inl ⟨b, rfl⟩)
theorem any_int {K : PySem.W.Frag} {H : Hp} (i : Int) : AnyV K H (.int i) := .inr (.inr (.inl ⟨i, rfl⟩))
theorem any_str {K : PySem.W.Frag} {H : Hp} {z : Str} (h : z.length ≤ 100000) : AnyV K H (.str z) := .inr (.inr (.inr (.inl ⟨z, rfl, h⟩)))
theorem any_lst {K : PySem.W.Frag} {H : Hp} {a : Addr} {xs : List V} (h : H a = some (.lst xs)) : AnyV K H (.ref a) := .inr (.inr (.inr (.inr (.inl ⟨a, xs, rfl, h⟩))))
theorem any_tup {K : PySem.W.Frag} {H : Hp} {a : Addr} {xs : List V} (h : H a = some (.tup xs)) : AnyV K H (.ref a) := .inr (.inr (.inr (.inr (.inr (.inl ⟨a, xs, rfl, h⟩)))))
theorem any_dic {K : PySem.W.Frag} {H : Hp} {a : Addr} {xs : List (Key × V)} (h : H a = some (.dK xs)) : AnyV K H (.ref a) := .inr (.inr (.inr (.inr (.inr (.inr ⟨a, xs, rfl, h⟩)))))
/-- its type's name -/
def tyName (H : Hp) : V → String
  | .non => "NoneType"
  | .bl _ => "bool"
  | .int _ => "int"
  | .str _ => "str"
  | .ref a => match H a with
    | some (.lst _) => "list"
    | some (.tup _) => "tuple"
    | _ => "dict"
  | _ => "dict"
theorem AnyV.ty {K : PySem.W.Frag} {H : Hp} {v : V} (h : AnyV K H v) : TyX K H v (.type (tyName H v)) := by
  rcases h with h | ⟨b, h⟩ | ⟨i, h⟩ | ⟨z, h, _⟩ | ⟨a, xs, h, g⟩ | ⟨a, xs, h, g⟩ | ⟨a, xs, h, g⟩
  all_goals subst h
  · exact .base .non
  · exact .base (.bl b)
  · exact .base (.int i)
  · exact .base (.str z)
  · simp only [tyName, g]; exact .base (.lst g)
  · simp only [tyName, g]; exact .base (.tup g)
  · simp only [tyName, g]; exact .base (.dK g)

theorem isi_K {X : Cx} {K : PySem.W.Frag} (e : X.K = K) : CallR X (.builtin "isinstance") (rIsiU K) := e ▸ call_isiU

/-! ### calls with keywords, of defs with defaults -/
section
variable {X : Cx} {CX : CXT} {k n : Nat} {f : Addr} {fd : FuncData} {ps ks : List Str} {sp : Sp} {E : XK} {x : Str} {p pos : Pos} {kws : List Keyword} {tk : TA} {g : List Value → List Value → List Value} {gV : List V → List V → List V}
theorem pe_callN0 (F : FnOk X.prog X.w X.K X.mg X.base CX k f fd ps sp) (hr : Room k X.A) (hg : Gl X x) (hm : X.mg x = some (.ref f)) (hk : PySem.W.keepIn X.K (.ref f) = true) (hb : KBn X.K fd ps 0 ks g gV) (hx : Passes CX X E)
    (hkw : PK X kws tk) (hall : (backToKw pos (keywordEach kws X.env)).all (·.1.isSome) = true := by rfl) (hks : (backToKw pos (keywordEach kws X.env)).filterMap (·.1) = ks := by rfl)
    (hdb : (x == ("__debug__" : Str)) = false := by decide)
    (hpl : ((backTo pos (starEach [] X.env)).any (·.1) || (backToKw pos (keywordEach kws X.env)).any (·.1.isNone)) = false := by rfl) :
    PE X (.Call (.Name x p) [] kws pos) (tCallN 0 ks.length sp gV E tNil tk) := by
  constructor
  intro pins s σ H Q I h
  refine wpAny_Call_Name_kw (ld_glob I hg hm ?_ hdb)
  refine PySem.W.callWith_KW0 (h₀ := X.base) I.ok.mod.kin hk hall (thn (hkw.run pos pins s σ H _ I h) ?_) hpl
  rintro ws s2 ⟨zs, H2, I2, rz, l1, l2, q2⟩
  refine ⟨I2.kIn, ?_⟩
  rw [hks]
  exact run_fnN F hr hb hx I2 .nil rz rfl l2 q2
end
/-- a def that may be called with these keywords -/
structure CalK (P : Program) (w : World) (K : PySem.W.Frag) (mg : Str → Option Value) (base : Heap) (k : Nat) (x : Str) (sp : Sp) (n : Nat) (ks : List Str) (gV : List V → List V → List V) : Prop where
  ex : ∃ (f : Addr) (fd : FuncData) (ps : List Str) (g : List Value → List Value → List Value), FnOk P w K mg base C8.CX0 k f fd ps sp ∧
    mg x = some (.ref f) ∧ PySem.W.keepIn K (.ref f) = true ∧ KBn K fd ps n ks g gV
section
variable {X : Cx} {k j n : Nat} {x : Str} {sp : Sp} {ks : List Str} {gV : List V → List V → List V} {p pos : Pos} {e : Expr} {es : List Expr} {kws : List Keyword} {t tk : TA}
theorem pe_kw (c : CalK X.prog X.w X.K X.mg X.base k x sp n ks gV) (hr : Room j X.A) (hk : k ≤ j) (hg : Gl X x) (ha : PA X (e :: es) t) (hkw : PK X kws tk)
    (hall : (backToKw pos (keywordEach kws X.env)).all (·.1.isSome) = true := by rfl) (hks : (backToKw pos (keywordEach kws X.env)).filterMap (·.1) = ks := by rfl)
    (hdb : (x == ("__debug__" : Str)) = false := by decide) (he : starEach (e :: es) X.env = (false, eval e X.env) :: starEach es X.env := by rfl)
    (hpl : ((backTo pos (starEach (e :: es) X.env)).any (·.1) || (backToKw pos (keywordEach kws X.env)).any (·.1.isNone)) = false := by rfl) :
    PE X (.Call (.Name x p) (e :: es) kws pos) (tCallN n ks.length sp gV C8.E0 t tk) := by
  obtain ⟨f, fd, ps, g, F, hm, kp, b⟩ := c.ex
  exact pe_callN F (hr.mono hk) hg hm kp b C8.pass0 ha hkw hall hks hdb he hpl
theorem pe_kw0 (c : CalK X.prog X.w X.K X.mg X.base k x sp 0 ks gV) (hr : Room j X.A) (hk : k ≤ j) (hg : Gl X x) (hkw : PK X kws tk)
    (hall : (backToKw pos (keywordEach kws X.env)).all (·.1.isSome) = true := by rfl) (hks : (backToKw pos (keywordEach kws X.env)).filterMap (·.1) = ks := by rfl)
    (hdb : (x == ("__debug__" : Str)) = false := by decide)
    (hpl : ((backTo pos (starEach [] X.env)).any (·.1) || (backToKw pos (keywordEach kws X.env)).any (·.1.isNone)) = false := by rfl) :
    PE X (.Call (.Name x p) [] kws pos) (tCallN 0 ks.length sp gV C8.E0 tNil tk) := by
  obtain ⟨f, fd, ps, g, F, hm, kp, b⟩ := c.ex
  exact pe_callN0 F (hr.mono hk) hg hm kp b C8.pass0 hkw hall hks hdb hpl
end

/-! ### promises by the number of parameters -/
def sp1 (f : V → Hp → VK → Prop) : Sp := fun vs H Q _ => ∃ a, vs = [a] ∧ f a H Q
def sp2 (f : V → V → Hp → VK → Prop) : Sp := fun vs H Q _ => ∃ a b, vs = [a, b] ∧ f a b H Q
def sp3 (f : V → V → V → Hp → VK → Prop) : Sp := fun vs H Q _ => ∃ a b c, vs = [a, b, c] ∧ f a b c H Q
def sp4 (f : V → V → V → V → Hp → VK → Prop) : Sp := fun vs H Q _ => ∃ a b c d, vs = [a, b, c, d] ∧ f a b c d H Q
/-- whatever heap comes that keeps this one -/
def Then (H : Hp) (Q : VK) (v : V) : Prop := ∀ H', Same H H' → Q v H'
theorem Then.here {H : Hp} {Q : VK} {v : V} (h : Then H Q v) : Q v H := h H (Same.refl H)
theorem Then.mono {H H' : Hp} {Q : VK} {v : V} (h : Then H Q v) (e : Same H H') : Then H' Q v := fun H2 e2 => h H2 (e.trans e2)
section
variable {P : Program} {w : World} {K : PySem.W.Frag} {mg : Str → Option Value} {base : Heap} {x : Str} {st : Stmt} {f : Addr} {fd : FuncData} {N : List Str} {k : Nat} {p1 p2 p3 p4 : Str}
theorem fn1 {g : V → Hp → VK → Prop} (F : Def K mg x st f fd) (S : FnScope N [p1] (fnScope st))
    (body : ∀ (cdv : Value) (A : Around) (outer : List Env) (s : Shared) (H : Hp) (a : V) (Q : VK) (E : XK), Room k (A.deeper (envOfC x (fnScope st) s.heap.objs.size f cdv)) → g a H Q →
      ∃ t, PSs (cxOf C8.CX0 P w K mg base N x (fnScope st) f cdv A outer s H E).nox (fnBody st) t ∧ t { nx := fun _ H' => Q .non H', rt := Q } (start N [a]) H) : FnOk P w K mg base C8.CX0 (k + 1) f fd [p1] (sp1 g) := by
  refine C8.fn0 F.fn S ?_ ?_
  · rintro vs H Q E ⟨a, rfl, _⟩
    rfl
  · rintro cdv A outer s H vs Q E hr ⟨a, rfl, h⟩
    exact body cdv A outer s H a Q E hr h
theorem fn2 {g : V → V → Hp → VK → Prop} (F : Def K mg x st f fd) (S : FnScope N [p1, p2] (fnScope st))
    (body : ∀ (cdv : Value) (A : Around) (outer : List Env) (s : Shared) (H : Hp) (a b : V) (Q : VK) (E : XK), Room k (A.deeper (envOfC x (fnScope st) s.heap.objs.size f cdv)) → g a b H Q →
      ∃ t, PSs (cxOf C8.CX0 P w K mg base N x (fnScope st) f cdv A outer s H E).nox (fnBody st) t ∧ t { nx := fun _ H' => Q .non H', rt := Q } (start N [a, b]) H) : FnOk P w K mg base C8.CX0 (k + 1) f fd [p1, p2] (sp2 g) := by
  refine C8.fn0 F.fn S ?_ ?_
  · rintro vs H Q E ⟨a, b, rfl, _⟩
    rfl
  · rintro cdv A outer s H vs Q E hr ⟨a, b, rfl, h⟩
    exact body cdv A outer s H a b Q E hr h
theorem fn3 {g : V → V → V → Hp → VK → Prop} (F : Def K mg x st f fd) (S : FnScope N [p1, p2, p3] (fnScope st))
    (body : ∀ (cdv : Value) (A : Around) (outer : List Env) (s : Shared) (H : Hp) (a b c : V) (Q : VK) (E : XK), Room k (A.deeper (envOfC x (fnScope st) s.heap.objs.size f cdv)) → g a b c H Q →
      ∃ t, PSs (cxOf C8.CX0 P w K mg base N x (fnScope st) f cdv A outer s H E).nox (fnBody st) t ∧ t { nx := fun _ H' => Q .non H', rt := Q } (start N [a, b, c]) H) : FnOk P w K mg base C8.CX0 (k + 1) f fd [p1, p2, p3] (sp3 g) := by
  refine C8.fn0 F.fn S ?_ ?_
  · rintro vs H Q E ⟨a, b, c, rfl, _⟩
    rfl
  · rintro cdv A outer s H vs Q E hr ⟨a, b, c, rfl, h⟩
    exact body cdv A outer s H a b c Q E hr h
theorem cal_of {ps : List Str} {sp : Sp} (F : Def K mg x st f fd) (df : fd.defaults = .none) (ok : FnOk P w K mg base C8.CX0 k f fd ps sp)
    (h : ∀ (kV doc pm : Value) (an : Option Addr) (cdv ct : Value) (us : List Value), us.length = ps.length → bindArgs (PySem.W.fnOf x x (fnArgs st) (fnBody st) (fnScope st) .none kV doc pm an cdv ct) ⟨us, []⟩ = pure (ps.zip us)) : Cal P w K mg base k x sp [] :=
  ⟨f, fd, ps, [], ok, F.mgf, F.kp, F.fn.binds df h, .nil⟩
end

/-! ### defaults and keywords: which value goes where -/
def pick {α : Type} (us its ws : List α) : List (Nat × Nat) → List α
  | [] => []
  | (0, i) :: r => (us[i]?).toList ++ pick us its ws r
  | (1, i) :: r => (its[i]?).toList ++ pick us its ws r
  | (_, i) :: r => (ws[i]?).toList ++ pick us its ws r
theorem vals_at {vs : List V} {us : List Value} (r : Vals vs us) (i : Nat) : Vals (vs[i]?).toList (us[i]?).toList := by
  cases e : vs[i]? with
  | none =>
    rw [r.none_of e]
    exact .nil
  | some v =>
    obtain ⟨u, h, rv⟩ := r.get e
    rw [h]
    exact .cons rv .nil
theorem pick_rel {vs ds zs : List V} {us its ws : List Value} (r1 : Vals vs us) (r2 : Vals ds its) (r3 : Vals zs ws) : ∀ l : List (Nat × Nat), Vals (pick vs ds zs l) (pick us its ws l)
  | [] => .nil
  | (0, i) :: r => (vals_at r1 i).append (pick_rel r1 r2 r3 r)
  | (1, i) :: r => (vals_at r2 i).append (pick_rel r1 r2 r3 r)
  | (_ + 2, i) :: r => (vals_at r3 i).append (pick_rel r1 r2 r3 r)
section
variable {K : PySem.W.Frag} {mg : Str → Option Value} {x : Str} {st : Stmt} {f : Addr} {fd : FuncData} {ps ks : List Str} {dvs : List V}
theorem dfl_binds (F : Def K mg x st f fd) (D : DflV K fd.defaults dvs) (hd : dvs ≠ []) (n j : Nat) (hn : n + (dvs.length - j) = ps.length)
    (h : ∀ (T : Addr) (kV doc pm : Value) (an : Option Addr) (cdv ct : Value) (us its : List Value), us.length = n → its.length = dvs.length →
      ∃ k, bindArgs (PySem.W.fnOf x x (fnArgs st) (fnBody st) (fnScope st) (.ref T) kV doc pm an cdv ct) ⟨us, []⟩ = seqItems? (.ref T) >>= k ∧ k (some its.toArray) = pure (ps.zip (us ++ its.drop j))) :
    ∃ ds, Vals (dvs.drop j) ds ∧ Binds K fd ps ds := by
  obtain ⟨oc, od, dV, kV, doc, pm, an, cdv, ct, osl, rfl, lk, hcd⟩ := F.fn.ex
  rcases D with ⟨e, _⟩ | ⟨_, T, o, its, m, e, lT, oT, rT⟩
  · exact absurd e hd
  · have e : dV = .ref T := e
    subst e
    refine ⟨its.drop j, rT.drop j, ?_⟩
    intro s us X hlen
    have l1 : its.length = dvs.length := rT.length.symm
    have l2 : us.length = n := by
      rw [List.length_append, List.length_drop, l1] at hlen
      omega
    obtain ⟨k, e1, e2⟩ := h T kV doc pm an cdv ct us its l2 l1
    refine BindsTo.of_looks fun M => ?_
    rw [e1]
    exact looks_items X lT oT (.of_pure e2)
theorem dfl_kbn (F : Def K mg x st f fd) (D : DflV K fd.defaults dvs) (hd : dvs ≠ []) (n : Nat) (sel : List (Nat × Nat))
    (h : ∀ (T : Addr) (kV doc pm : Value) (an : Option Addr) (cdv ct : Value) (us its ws : List Value), us.length = n → its.length = dvs.length → ws.length = ks.length →
      ∃ k, bindArgs (PySem.W.fnOf x x (fnArgs st) (fnBody st) (fnScope st) (.ref T) kV doc pm an cdv ct) ⟨us, ks.zip ws⟩ = seqItems? (.ref T) >>= k ∧ k (some its.toArray) = pure (ps.zip (pick us its ws sel))) :
    ∃ its, KBn K fd ps n ks (fun us ws => pick us its ws sel) (fun vs zs => pick vs dvs zs sel) := by
  obtain ⟨oc, od, dV, kV, doc, pm, an, cdv, ct, osl, rfl, lk, hcd⟩ := F.fn.ex
  rcases D with ⟨e, _⟩ | ⟨_, T, o, its, m, e, lT, oT, rT⟩
  · exact absurd e hd
  · have e : dV = .ref T := e
    subst e
    refine ⟨its, ?_, fun r1 r2 => pick_rel r1 rT r2 sel⟩
    intro s us ws X l1 l2
    obtain ⟨k, e1, e2⟩ := h T kV doc pm an cdv ct us its ws l1 rT.length.symm l2
    refine BindsTo.of_looks fun M => ?_
    rw [e1]
    exact looks_items X lT oT (.of_pure e2)
theorem nod_kbn (F : Def K mg x st f fd) (df : fd.defaults = .none) (n : Nat) (sel : List (Nat × Nat))
    (h : ∀ (kV doc pm : Value) (an : Option Addr) (cdv ct : Value) (us ws : List Value), us.length = n → ws.length = ks.length →
      bindArgs (PySem.W.fnOf x x (fnArgs st) (fnBody st) (fnScope st) .none kV doc pm an cdv ct) ⟨us, ks.zip ws⟩ = pure (ps.zip (pick us [] ws sel))) :
    KBn K fd ps n ks (fun us ws => pick us [] ws sel) (fun vs zs => pick vs [] zs sel) := by
  obtain ⟨oc, od, dV, kV, doc, pm, an, cdv, ct, osl, rfl, lk, hcd⟩ := F.fn.ex
  have e : dV = .none := df
  subst e
  exact ⟨fun s us ws _ l1 l2 => .of_eq (h kV doc pm an cdv ct us ws l1 l2), fun r1 r2 => pick_rel r1 .nil r2 sel⟩
end

/-! ### the bag, from a caller's side -/
def BagAt (H : Hp) (p : Addr) : Prop := ∃ (q : Addr) (ns : List Int), H p = some (bagO q p) ∧ H q = some (.lst (ns.map V.int))
theorem BagAt.mono {H H' : Hp} {p : Addr} (h : BagAt H p) (e : Same H H') : BagAt H' p := by
  obtain ⟨q, ns, a, b⟩ := h
  exact ⟨q, ns, e _ _ a, e _ _ b⟩
theorem rd_bag {K : PySem.W.Frag} {H : Hp} {p : Addr} {xs : List V} {j : Int} {v : V} {Q : VK} (e : atI xs j = some v) (k : Q v (upd H p (.lst xs))) : rIx K (.ref p) (.int j) (upd H p (.lst xs)) Q :=
  .inl ⟨p, xs, j, v, rfl, rfl, SqL.of upd_same, e, k⟩
theorem set_bag {H : Hp} {p : Addr} {xs : List V} {k : Int} {j : Nat} {v : V} {Q : Hp → Prop} (e : ixN xs.length k = some j) (q : Q (upd H p (.lst (xs.set j v)))) : rSetL (.ref p) (.int k) v (upd H p (.lst xs)) Q :=
  ⟨p, xs, k, j, rfl, rfl, upd_same, e, by rw [upd_upd]; exact q⟩
theorem shut_bag {H : Hp} {p q : Addr} {F : Hp → Prop} {i c st t : Int} (hp : H p = some (bagO q p)) (b : BagOk i st) (f : F H) : shutAt q p F (upd H p (.lst (bagL q i c st t))) :=
  ⟨i, c, st, t, b, upd_same, by rw [upd_upd, upd_self hp]; exact f⟩
end Fb

set_option Elab.async false
set_option linter.all false
set_option maxRecDepth 100000
set_option maxHeartbeats 4000000
namespace Fb
open PySem PySem.Spec L2
open PyProof.Rows hiding St
open C8 (Cal Met Mak Def cal0 met0 mak0 pe_c pe_mk pe_mt pe_mt0 fnScope fnBody fnArgs)

/-! ### comprehensions by what each element is -/
theorem same_mut {H H' : Hp} {p : Addr} {o : HO} (e : Same H H') (h : H p = none) : Same H (upd H' p o) := by
  intro a u ha
  rw [upd_ne (ne_of_none ha h)]
  exact e a u ha
theorem size5 {n : Nat} (h : n ≤ 100000) : n < sizeLine := Nat.lt_of_le_of_lt h (by decide)
theorem size5' {n : Nat} (h : n ≤ 100000) : n ≤ sizeLine := Nat.le_of_lt (size5 h)
section
variable {J : It} {n : Nat} {G : Hp → Prop} {Y : Nat → Hp → V → Hp → Prop} {g : TG} {tt : TT} {te : TE} {vs : List Nat} {σ : L2.St} {H1 : Hp} {D : Addr} {Qd : Hp → Prop}
/-- what a turn gives only makes the heap grow -/
def YGrow (Y : Nat → Hp → V → Hp → Prop) : Prop := ∀ i H x H', Y i H x H' → Same H H'
theorem grow_at {xs : List V} : YGrow (YAt xs) := by
  rintro i H x H' ⟨rfl, _⟩
  exact Same.refl _
theorem grow_fn {f : Nat → V} : YGrow (YFn f) := by
  rintro i H x H' ⟨rfl, _⟩
  exact Same.refl _
theorem grow_pair {xs ys : Nat → Option V} : YGrow (YPair xs ys) := by
  rintro i H x H' ⟨T, a, b, _, h, rfl, _⟩
  exact grow h

theorem upd_same_of {H H' : Hp} {p : Addr} {o : HO} (e : Same H H') : Same (upd H p o) (upd H' p o) := by
  intro b u h
  by_cases q : b = p
  · subst q
    rw [upd_same] at h
    rw [upd_same]
    exact h
  · rw [upd_ne q] at h
    rw [upd_ne q]
    exact e b u h
/-- each element of its kind, told by P, which does not lean on the new list -/
theorem lc_some (w : Walk J n G Y) (P : Nat → V → Hp → Prop) (hy : YGrow Y) (hn : n ≤ 100000) (hD : H1 D = none) (st : ∀ i v H H', Same H H' → P i v H → P i v H') (hG : ∀ H, Same H1 H → G H)
    (hs : ∀ i x H H', i < n → Same H1 H → (∃ xs, H D = some (.lst xs)) → Y i H x H' → ∀ R : V → Hp → Prop, (∀ v H2, Same H' H2 → (∀ o, P i v (upd H2 D o)) → R v H2) → g x (wipe σ vs) H' fun σ2 H2 => wipe σ2 vs = wipe σ vs ∧ te σ2 H2 R)
    (hd : ∀ xs H, Same H1 H → H D = some (.lst xs) → xs.length = n → (∀ i v, xs[i]? = some v → P i v H) → Qd H) :
    ∃ W : Nat → Nat → Hp → Prop, (∃ m, W 0 m (upd H1 D (.lst []))) ∧ ∀ i m H, W i m H →
      (J.stop i H ∧ Qd H) ∨ (J.go i H ∧ ∃ Nx : Hp → Prop, (∀ H', Nx H' → ∃ m', m' < m ∧ W (i + 1) m' H') ∧ ∀ x H', J.yld i H x H' → g x (wipe σ vs) H' fun σ2 H2 => wipe σ2 vs = wipe σ vs ∧ tYes σ2 H2 fun b H3 =>
        if b = true then te σ2 H3 fun y H4 => ∃ acc, H4 D = some (.lst acc) ∧ acc.length < sizeLine ∧ Nx (upd H4 D (.lst (acc ++ [y]))) else Nx H3) := by
  refine lc_it w (fun i H => Same H1 H ∧ ∃ xs : List V, H D = some (.lst xs) ∧ xs.length = i ∧ ∀ j v, xs[j]? = some v → ∀ o, P j v (upd H D o)) ?_ ?_ ?_ ?_
  · refine ⟨grow hD, [], upd_same, rfl, ?_⟩
    intro j v h
    cases h
  · rintro i H _ ⟨e, _⟩
    exact hG H e
  · rintro i x H H' hi ⟨e, xs, hx, hl, hp⟩ y
    have e2 := hy _ _ _ _ y
    refine hs i x H H' hi e ⟨xs, hx⟩ y _ ?_
    intro v H4 e4 p
    have e3 := e2.trans e4
    refine ⟨xs, e3 _ _ hx, size5 (by omega), same_mut (e.trans e3) hD, xs ++ [v], upd_same, by rw [List.length_append, hl]; rfl, ?_⟩
    intro j u hj o
    rw [upd_upd]
    by_cases q : j < xs.length
    · rw [List.getElem?_append_left q] at hj
      exact st _ _ _ _ (upd_same_of e3) (hp j u hj o)
    · rw [List.getElem?_append_right (by omega)] at hj
      have ej : j - xs.length = 0 := by
        cases h0 : j - xs.length with
        | zero => rfl
        | succ m =>
          rw [h0] at hj
          cases hj
      rw [ej] at hj
      cases hj
      rw [show j = i by omega]
      exact p o
  · rintro H ⟨e, xs, hx, hl, hp⟩
    refine hd xs H e hx hl ?_
    intro i v hv
    have := hp i v hv (.lst xs)
    rw [upd_self hx] at this
    exact this
/-- each element a value that is known -/
theorem lc_map (w : Walk J n G Y) (f : Nat → V) (hy : YGrow Y) (hn : n ≤ 100000) (hD : H1 D = none) (hG : ∀ H, Same H1 H → G H)
    (hs : ∀ i x H H', i < n → Same H1 H → Y i H x H' → ∀ R : V → Hp → Prop, (∀ H2, Same H' H2 → R (f i) H2) → g x (wipe σ vs) H' fun σ2 H2 => wipe σ2 vs = wipe σ vs ∧ te σ2 H2 R)
    (hd : ∀ H, Same H1 H → H D = some (.lst ((List.range n).map f)) → Qd H) :
    ∃ W : Nat → Nat → Hp → Prop, (∃ m, W 0 m (upd H1 D (.lst []))) ∧ ∀ i m H, W i m H →
      (J.stop i H ∧ Qd H) ∨ (J.go i H ∧ ∃ Nx : Hp → Prop, (∀ H', Nx H' → ∃ m', m' < m ∧ W (i + 1) m' H') ∧ ∀ x H', J.yld i H x H' → g x (wipe σ vs) H' fun σ2 H2 => wipe σ2 vs = wipe σ vs ∧ tYes σ2 H2 fun b H3 =>
        if b = true then te σ2 H3 fun y H4 => ∃ acc, H4 D = some (.lst acc) ∧ acc.length < sizeLine ∧ Nx (upd H4 D (.lst (acc ++ [y]))) else Nx H3) := by
  refine lc_some w (fun i v _ => v = f i) hy hn hD (fun _ _ _ _ _ h => h) hG ?_ ?_
  · intro i x H H' hi e _ y R h
    exact hs i x H H' hi e y R fun H2 e2 => h _ H2 e2 fun _ => rfl
  · intro xs H e hx hl hp
    have ex : xs = (List.range n).map f := by
      refine List.ext_getElem? fun i => ?_
      by_cases q : i < n
      · rw [List.getElem?_map, List.getElem?_range q, List.getElem?_eq_getElem (by omega)]
        exact congrArg some (hp i _ (List.getElem?_eq_getElem (by omega)))
      · rw [List.getElem?_eq_none (by omega), List.getElem?_eq_none (by simp; omega)]
    rw [ex] at hx
    exact hd H e hx
/-- the same with a test -/
theorem lc_filt (w : Walk J n G Y) (b : Nat → Bool) (f : Nat → V) (hy : YGrow Y) (hn : n ≤ 100000) (hD : H1 D = none) (hG : ∀ H, Same H1 H → G H)
    (hs : ∀ i x H H', i < n → Same H1 H → Y i H x H' → ∀ (F : Hp → Prop) (R : V → Hp → Prop), (∀ H2, Same H' H2 → b i = true → R (f i) H2) → (∀ H2, Same H' H2 → b i = false → F H2) →
      g x (wipe σ vs) H' fun σ2 H2 => wipe σ2 vs = wipe σ vs ∧ tt σ2 H2 fun c H3 => if c = true then te σ2 H3 R else F H3)
    (hd : ∀ H, Same H1 H → H D = some (.lst (((List.range n).filter b).map f)) → Qd H) :
    ∃ W : Nat → Nat → Hp → Prop, (∃ m, W 0 m (upd H1 D (.lst []))) ∧ ∀ i m H, W i m H →
      (J.stop i H ∧ Qd H) ∨ (J.go i H ∧ ∃ Nx : Hp → Prop, (∀ H', Nx H' → ∃ m', m' < m ∧ W (i + 1) m' H') ∧ ∀ x H', J.yld i H x H' → g x (wipe σ vs) H' fun σ2 H2 => wipe σ2 vs = wipe σ vs ∧ tt σ2 H2 fun b H3 =>
        if b = true then te σ2 H3 fun y H4 => ∃ acc, H4 D = some (.lst acc) ∧ acc.length < sizeLine ∧ Nx (upd H4 D (.lst (acc ++ [y]))) else Nx H3) := by
  refine lc_it w (fun i H => Same H1 H ∧ H D = some (.lst (((List.range i).filter b).map f))) ?_ ?_ ?_ ?_
  · exact ⟨grow hD, upd_same⟩
  · rintro i H _ ⟨e, _⟩
    exact hG H e
  · rintro i x H H' hi ⟨e, hx⟩ y
    have e2 := hy _ _ _ _ y
    have len : (((List.range i).filter b).map f).length ≤ 100000 := by
      rw [List.length_map]
      refine Nat.le_trans (List.length_filter_le _ _) ?_
      rw [List.length_range]
      omega
    refine hs i x H H' hi e y (fun H3 => Same H1 H3 ∧ H3 D = some (.lst (((List.range (i + 1)).filter b).map f))) _ ?_ ?_
    · intro H4 e4 hb
      refine ⟨_, (e2.trans e4) _ _ hx, size5 len, same_mut (e.trans (e2.trans e4)) hD, ?_⟩
      rw [upd_same, List.range_succ, List.filter_append, List.map_append, List.filter_cons_of_pos hb]
      rfl
    · intro H4 e4 hb
      refine ⟨e.trans (e2.trans e4), ?_⟩
      rw [(e2.trans e4) _ _ hx, List.range_succ, List.filter_append, List.map_append, List.filter_cons_of_neg (by rw [hb]; exact Bool.false_ne_true)]
      rw [List.filter_nil, List.map_nil, List.append_nil]
  · rintro H ⟨e, hx⟩
    exact hd H e hx
end

theorem small_log {n : Int} (h0 : 0 ≤ n) (h : n ≤ 1000000000000) : n.natAbs.log2 < 9000 :=
  Nat.lt_of_lt_of_le (PySem.Flt.log2_lt_of (show 0 < 50 by decide) (by omega)) (by decide)

/-- a value of any kind: a text, or none -/
theorem AnyV.strOr {K : PySem.W.Frag} {H : Hp} {v : V} (h : AnyV K H v) : (∃ z : Str, v = .str z ∧ z.length ≤ 100000) ∨ ((∀ z, v ≠ .str z) ∧ ∃ t, TyX K H v (.type t) ∧ kitB t "str" = some false) := by
  rcases h with h | ⟨b, h⟩ | ⟨i, h⟩ | ⟨z, h, l⟩ | ⟨a, xs, h, g⟩ | ⟨a, xs, h, g⟩ | ⟨a, xs, h, g⟩
  all_goals subst h
  · exact .inr ⟨(fun _ e => nomatch e), _, .base .non, by decide +kernel⟩
  · exact .inr ⟨(fun _ e => nomatch e), _, .base (.bl b), by decide +kernel⟩
  · exact .inr ⟨(fun _ e => nomatch e), _, .base (.int i), by decide +kernel⟩
  · exact .inl ⟨z, rfl, l⟩
  · exact .inr ⟨(fun _ e => nomatch e), _, .base (.lst g), by decide +kernel⟩
  · exact .inr ⟨(fun _ e => nomatch e), _, .base (.tup g), by decide +kernel⟩
  · exact .inr ⟨(fun _ e => nomatch e), _, .base (.dK g), by decide +kernel⟩
theorem AnyV.intOr {K : PySem.W.Frag} {H : Hp} {v : V} (h : AnyV K H v) : (∃ i, v = .int i) ∨ (∃ b, v = .bl b) ∨ ((∀ z, v ≠ .int z) ∧ ∃ t, TyX K H v (.type t) ∧ kitB t "int" = some false) := by
  rcases h with h | ⟨b, h⟩ | ⟨i, h⟩ | ⟨z, h, l⟩ | ⟨a, xs, h, g⟩ | ⟨a, xs, h, g⟩ | ⟨a, xs, h, g⟩
  all_goals subst h
  · exact .inr (.inr ⟨(fun _ e => nomatch e), _, .base .non, by decide +kernel⟩)
  · exact .inr (.inl ⟨b, rfl⟩)
  · exact .inl ⟨i, rfl⟩
  · exact .inr (.inr ⟨(fun _ e => nomatch e), _, .base (.str z), by decide +kernel⟩)
  · exact .inr (.inr ⟨(fun _ e => nomatch e), _, .base (.lst g), by decide +kernel⟩)
  · exact .inr (.inr ⟨(fun _ e => nomatch e), _, .base (.tup g), by decide +kernel⟩)
  · exact .inr (.inr ⟨(fun _ e => nomatch e), _, .base (.dK g), by decide +kernel⟩)

theorem map_range_get {α β : Type} (d : α) (f : α → β) : ∀ l : List α, (List.range l.length).map (fun i => f (l.getD i d)) = l.map f
  | [] => rfl
  | a :: r => by
    rw [List.length_cons, List.range_succ_eq_map, List.map_cons, List.map_map, List.map_cons]
    exact congrArg (f a :: ·) (map_range_get d f r)
theorem str_len (z : Str) : z.cps.size = z.cps.toList.length := (Array.length_toList).symm

/-! ### data on the heap -/
mutual
theorem dp_mono {K : PySem.W.Frag} {H H' : Hp} (e : Same H H') : ∀ (d : PyData) {v : V}, Dp K H v d → Dp K H' v d
  | .none, _, h => by cases h; exact .non
  | .bool _, _, h => by cases h; exact .bl _
  | .int _, _, h => by cases h; exact .int _
  | .str _, _, h => by cases h; exact .str _
  | .list ds, _, h => by
    cases h with
    | lst s a => exact .lst (e.seq s) (dpAll_mono e ds a)
  | .tuple ds, _, h => by
    cases h with
    | tup s a => exact .tup (same_tup e s) (dpAll_mono e ds a)
  | .dict _, _, h => by cases h
theorem dpAll_mono {K : PySem.W.Frag} {H H' : Hp} (e : Same H H') : ∀ (ds : List PyData) {vs : List V}, DpAll K H vs ds → DpAll K H' vs ds
  | [], _, h => by cases h; exact .nil
  | d :: ds, _, h => by
    cases h with
    | cons a b => exact .cons (dp_mono e d a) (dpAll_mono e ds b)
end
theorem dpAll_map {K : PySem.W.Frag} {H : Hp} {α : Type} {f : α → V} {g : α → PyData} : ∀ {l : List α}, (∀ x ∈ l, Dp K H (f x) (g x)) → DpAll K H (l.map f) (l.map g)
  | [], _ => .nil
  | x :: r, h => .cons (h x (List.mem_cons_self ..)) (dpAll_map fun y hy => h y (List.mem_cons_of_mem _ hy))
theorem dpAll_len {K : PySem.W.Frag} {H : Hp} : ∀ {vs : List V} {ds : List PyData}, DpAll K H vs ds → vs.length = ds.length
  | _, _, .nil => rfl
  | _, _, .cons _ b => congrArg Nat.succ (dpAll_len b)
theorem dpAll_get {K : PySem.W.Frag} {H : Hp} : ∀ {vs : List V} {ds : List PyData} {i : Nat} {v : V}, DpAll K H vs ds → vs[i]? = some v → ∃ d, ds[i]? = some d ∧ Dp K H v d
  | _, _, _, _, .nil, h => by cases h
  | _, _, 0, _, .cons (d := d) a _, h => by
    cases h
    exact ⟨d, rfl, a⟩
  | _, _, i + 1, v, .cons _ b, h => dpAll_get (i := i) b h
/-- the type's name -/
def dName : PyData → String
  | .none => "NoneType"
  | .bool _ => "bool"
  | .int _ => "int"
  | .str _ => "str"
  | .list _ => "list"
  | .tuple _ => "tuple"
  | .dict _ => "dict"
theorem sql_ty {K : PySem.W.Frag} {H : Hp} {a : Addr} {xs : List V} (h : SqL K H a xs) : TyX K H (.ref a) (.type "list") := by
  rcases h with (h | ⟨o, h⟩) | ⟨o, its, n, h, c, _⟩
  · exact .base (.lst h)
  · exact .base (.frz h)
  · exact .kList h c
theorem sqt_ty {K : PySem.W.Frag} {H : Hp} {a : Addr} {xs : List V} (h : SqT K H a xs) : TyX K H (.ref a) (.type "tuple") := by
  rcases h with (h | ⟨o, h⟩) | ⟨o, its, n, h, c, _⟩
  · exact .base (.tup h)
  · exact .fTuple h
  · exact .kTuple h c
theorem dp_ty {K : PySem.W.Frag} {H : Hp} {v : V} {d : PyData} (h : Dp K H v d) : TyX K H v (.type (dName d)) := by
  cases h with
  | non => exact .base .non
  | bl b => exact .base (.bl b)
  | int i => exact .base (.int i)
  | str x => exact .base (.str x)
  | lst s _ => exact sql_ty s
  | tup s _ => exact sqt_ty s
theorem ty_mono {K : PySem.W.Frag} {H H' : Hp} {v : V} {d : PyData} (h : Dp K H v d) (e : Same H H') : TyX K H' v (.type (dName d)) := dp_ty (dp_mono e d h)
/-- data of less than n levels, no list longer than 100000 -/
def Lk : Nat → PyData → Prop
  | 0, _ => False
  | n + 1, .list ds => ds.length ≤ 100000 ∧ ∀ d ∈ ds, Lk n d
  | n + 1, .tuple ds => ds.length ≤ 100000 ∧ ∀ d ∈ ds, Lk n d
  | _ + 1, .dict _ => False
  | _ + 1, _ => True

theorem walk_zipT {K : PySem.W.Frag} {a b : Addr} {xs ys : List V} {n : Nat} (hn : n = min xs.length ys.length) :
    Walk (RZ.ItzT K a b) n (fun H => SqT K H a xs ∧ SqT K H b ys) (YPair (fun i => xs[i]?) (fun i => ys[i]?)) := by
  subst hn
  constructor
  · rintro i H hi ⟨p, q⟩
    have h1 : i < xs.length := by omega
    have h2 : i < ys.length := by omega
    exact ⟨xs, ys, xs[i], ys[i], p, q, List.getElem?_eq_getElem h1, List.getElem?_eq_getElem h2⟩
  · rintro H ⟨p, q⟩
    exact ⟨xs, ys, p, q, by omega⟩
  · rintro i H v H' _ ⟨p, q⟩ ⟨T, x, z, h1, h2, h3, h4, h5⟩
    exact ⟨T, x, z, h1, h2, h3, h4 xs p, h5 ys q⟩
theorem lk_item {n : Nat} {ds : List PyData} {i : Nat} {d : PyData} (h : ∀ d ∈ ds, Lk n d) (e : ds[i]? = some d) : Lk n d := h d (List.mem_of_getElem? e)
theorem all_true (n : Nat) : ((List.range n).map fun _ => true).all id = true := by
  rw [List.all_eq_true]
  intro b h
  obtain ⟨_, _, rfl⟩ := List.mem_map.mp h
  rfl
end Fb

set_option Elab.async false
set_option linter.all false
set_option maxRecDepth 100000
set_option maxHeartbeats 4000000
namespace Fb
open PySem PySem.Spec L2
open PyProof.Rows hiding St
/-! ### names and numbers, without a heap -/
def letC (c : Nat) : Bool := decide (97 ≤ c) && decide (c ≤ 122)
def nameB : V → Bool
  | .str z => decide (1 ≤ z.length) && decide (z.length ≤ 8) && z.cps.toList.all letC
  | _ => false
theorem nameB_no {v : V} (h : ∀ z, v ≠ .str z) : nameB v = false := by
  cases v with
  | str z => exact absurd rfl (h z)
  | _ => rfl
theorem lt1 (a b : Nat) : decide ((#[a] : Array Nat).toList < (#[b] : Array Nat).toList) = decide (a < b) := by
  refine decide_eq_decide.mpr ?_
  show ([a] : List Nat) < [b] ↔ a < b
  rw [List.cons_lt_cons_iff]
  constructor
  · rintro (h | ⟨_, h⟩)
    · exact h
    · exact absurd h (List.not_lt_nil _)
  · exact fun h => .inl h
def numB (v : V) (l : Int) (h : Option Int) : Bool := match v with
  | .int i => decide (l ≤ i) && (match h with | none => true | some m => decide (i ≤ m))
  | _ => false
theorem numB_no {v : V} {l : Int} {h : Option Int} (no : ∀ z, v ≠ .int z) : numB v l h = false := by
  cases v with
  | int z => exact absurd rfl (no z)
  | _ => rfl
theorem numB_hi {a : V} {l : Int} {h : Option Int} (e : numB a l none = false) : numB a l h = false := by
  cases a with
  | int i =>
    have e : (decide (l ≤ i) && true) = false := e
    rw [Bool.and_true] at e
    show (decide (l ≤ i) && _) = false
    rw [e, Bool.false_and]
  | _ => rfl
theorem numB_int {a : V} {l : Int} (e : numB a l none = true) : ∃ i, a = .int i ∧ l ≤ i := by
  cases a with
  | int i =>
    have e : (decide (l ≤ i) && true) = true := e
    rw [Bool.and_true] at e
    exact ⟨i, rfl, of_decide_eq_true e⟩
  | _ => cases e
def az : Str := "abcdefghijklmnopqrstuvwxyz"
theorem az_in (c : Nat) : decide (c ∈ az.cps.toList) = letC c := by
  have e : az.cps.toList = (List.range 26).map (· + 97) := by decide +kernel
  rw [e]
  unfold letC
  rw [← Bool.decide_and]
  refine decide_eq_decide.mpr ?_
  rw [List.mem_map]
  constructor
  · rintro ⟨k, hk, rfl⟩
    have := List.mem_range.mp hk
    omega
  · intro h
    exact ⟨c - 97, List.mem_range.mpr (by omega), by omega⟩

theorem eqv_list_nil (ds : List PyData) : PyData.eqv (.list ds) (.list []) = ds.isEmpty := by
  cases ds <;> rfl

theorem filt_none (l : List Nat) : ((List.range l.length).filter fun i => !letC (l.getD i 0)).isEmpty = l.all letC := by
  induction l with
  | nil => rfl
  | cons a r ih =>
    rw [List.length_cons, List.range_succ_eq_map, List.filter_cons, List.all_cons, List.filter_map]
    show (if (!letC a) = true then _ else _ : List Nat).isEmpty = _
    cases h : letC a with
    | true =>
      rw [if_neg (by decide), List.isEmpty_map, Bool.true_and]
      exact ih
    | false =>
      rw [if_pos (by decide), Bool.false_and]
      rfl

/-- values that are all of one form are the images of what tells them -/
theorem all_of {α : Type} (f : α → V) : ∀ xs : List V, (∀ (i : Nat) v, xs[i]? = some v → ∃ c, v = f c) → ∃ cs : List α, xs = cs.map f
  | [], _ => ⟨[], rfl⟩
  | x :: r, h => by
    obtain ⟨c, hc⟩ := h 0 x rfl
    obtain ⟨cs, hcs⟩ := all_of f r fun i v e => h (i + 1) v e
    exact ⟨c :: cs, by rw [hc, hcs]; rfl⟩

theorem ones_sum : ∀ cs : List Nat, ((cs.map fun c => (⟨#[c]⟩ : Str)).map (·.length)).sum = cs.length
  | [] => rfl
  | c :: r => by
    rw [List.map_cons, List.map_cons, List.sum_cons, ones_sum r, List.length_cons]
    exact Nat.add_comm 1 _
theorem one_join (cs : List Nat) : (Txt.join "" (cs.map fun c => (⟨#[c]⟩ : Str))).length = cs.length := by
  have h := size_glued "" (cs.map fun c => (⟨#[c]⟩ : Str))
  rw [ones_sum] at h
  exact h

theorem num_text {i : Int} (h : i.natAbs < 10 ^ 20) : i.natAbs.log2 < 1920 ∧ (Str.ofString (toString i)).length ≤ 100000 := by
  have e := int_text_length_le10 (k := 20) (by decide) h
  refine ⟨Nat.lt_of_lt_of_le (PySem.Flt.log2_lt_of (k := 67) (by decide) (by omega)) (by decide), ?_⟩
  rw [PySem.ofString_length]
  omega

theorem str_cat (a b : Str) : (a ++ b).length = a.length + b.length := PySem.Str.length_append a b
end Fb

set_option Elab.async false
set_option linter.all false
set_option maxRecDepth 100000
set_option maxHeartbeats 4000000
/-! enumerate over a tuple -/
namespace PySem
open Sem (wp)
set_option maxHeartbeats 1000000 in
theorem fb_enum_new {v : Value} {o : Obj} {G : Heap → Prop} (B : Begins v o G) :
    Meets (Builtin.«enumerate.__new__» ⟨[.type "enumerate", v], []⟩) (fun _ R s => G s.heap ∧
      R (.ok (.ret (.ref (s.heap.push o).objs.size))) { s with heap := (s.heap.push o).push { cls := .type "enumerate", data := .fields #[.none, .bool false, .ref s.heap.objs.size, rawInt 0, .none, .none] } }) := by
  refine .of_wp fun prog w A R s h => ?_
  obtain ⟨h0, g, d, tk, os⟩ := s
  obtain ⟨h1, h⟩ := h
  have sb := sub_enumerate
  have go : ∀ {A' : Around} {E Q : Value → Shared → Prop}, Q (.ref h0.objs.size) ⟨h0.push o, g, d, tk, os⟩ → wpAny (model prog w) A' (pyIter v) Q E ⟨h0, g, d, tk, os⟩ := by
    intro A' E Q q
    exact B.iter prog w _ _ ⟨h0, g, d, tk, os⟩ _ h1 q
  wp_walk using go
  refine wpAny_stack_any fun stk => wpAny_pure ?_
  split
  · rename_i c _ _ _ _ _
    cases (c == Value.type "enumerate") <;> (wp_walk using go; exact ⟨_, rfl, h⟩)
  · wp_walk using go
    exact ⟨_, rfl, h⟩
theorem fb_enum {prog : Program} {w : World} {A : Around} {E Q : Value → Shared → Prop} {s : Shared} {v : Value} {o : Obj} {G : Heap → Prop} (B : Begins v o G) (h1 : G s.heap)
    (h : ∀ h', IsEnum h' (s.heap.objs.size + 1) s.heap.objs.size 0 .none → h'.get? s.heap.objs.size = some o → (∀ b u, s.heap.get? b = some u → h'.get? b = some u) → Q (.ref (s.heap.objs.size + 1)) { s with heap := h' }) :
    wpAny (model prog w) A (call (.type "enumerate") [v]) Q E s := by
  refine callType_new F.called_enumerate (by decide) (F.typeCall_enumerate_1 _) (F.newCall_enumerate_1 _) (fun _ => F.args_object_init_2 _ _) F.entry_enumerate_new (fb_enum_new B) ⟨h1, ?_⟩
  have z : (s.heap.push o).objs.size = s.heap.objs.size + 1 := Heap.size_push ..
  have he : IsEnum ((s.heap.push o).push { cls := .type "enumerate", data := .fields #[.none, .bool false, .ref s.heap.objs.size, rawInt 0, .none, .none] }) (s.heap.objs.size + 1) s.heap.objs.size 0 .none := by
    rw [← z]
    exact Heap.get?_push_size _ rfl
  show _ ∧ _
  rw [z]
  exact ⟨⟨_, he, rfl⟩, h _ he (Heap.get?_push_of_some _ (Heap.get?_push_size _ B.free)) fun b u e => Heap.get?_push_of_some _ (Heap.get?_push_of_some _ e)⟩
end PySem
namespace Fb
open PySem PySem.Spec L2
open PyProof.Rows hiding St
/-- the tuple at a, each item behind its place in a new pair -/
def IteT (K : PySem.W.Frag) (a : Addr) : It where
  go := fun i H => ∃ (xs : List V) (x : V), SqT K H a xs ∧ xs[i]? = some x
  yld := fun i H v H' => ∃ T x, v = .ref T ∧ H T = none ∧ H' = upd H T (.tup [.int (i : Nat), x]) ∧ ∀ xs, SqT K H a xs → xs[i]? = some x
  stop := fun i H => ∃ xs : List V, SqT K H a xs ∧ xs.length = i
theorem turn_enumT {P : Program} {w : World} {K : PySem.W.Frag} {elts : List Expr} {kk : Nat} {tpos : Pos} (a e it : Addr) :
    Turn P w K (.Tuple elts kk tpos) (IteT K a) [e, it] e (fun i h => (∃ old, IsEnum h e it ((i : Nat) : Int) old) ∧ h.IsTupleIter it a i ∧ e ≠ it) where
  mem := List.mem_cons_self ..
  obj := by
    rintro i h ⟨⟨old, h1⟩, ⟨o, h2, _, h3⟩, _⟩ b hb
    rcases List.mem_cons.mp hb with rfl | hb
    · exact ⟨_, h1, fun v q => nomatch q⟩
    · cases List.mem_singleton.mp hb
      exact ⟨o, h2, fun v q => by rw [h3] at q; cases q⟩
  keep := by
    rintro i h h' ⟨⟨old, h1⟩, h2, h3⟩ k
    exact ⟨⟨old, k e (List.mem_cons_self ..) _ h1⟩, h2.at fun o q => k it (List.mem_cons_of_mem _ (List.mem_singleton.mpr rfl)) o q, h3⟩
  item := by
    intro X hP hw hK hc i pins s σ H E I hf st hg
    subst hP hw hK
    obtain ⟨⟨old, h1⟩, h2, h3⟩ := st
    obtain ⟨xs, x, hq, hx⟩ := hg
    obtain ⟨its, rv, p, hz⟩ := I.tuple hq
    obtain ⟨u, hu, ru⟩ := rv.get hx
    have le : e < s.heap.objs.size := Heap.lt_size h1
    have li : it < s.heap.objs.size := by
      obtain ⟨_, q, _⟩ := h2
      exact Heap.lt_size q
    have ea : e ≠ a := by
      rintro rfl
      obtain ⟨o, q, c, _⟩ := p
      rw [h1] at q
      cases q
      exact absurd (Value.type.inj c) (by decide)
    have ia : a ≠ it := by
      rintro rfl
      obtain ⟨o, q, c, _⟩ := p
      obtain ⟨o2, q2, c2, _⟩ := h2
      rw [q] at q2
      cases q2
      rw [c] at c2
      exact absurd (Value.type.inj c2) (by decide)
    have lt : i < its.toArray.size := by
      rw [List.size_toArray]
      exact (List.getElem?_eq_some_iff.mp hu).1
    have nf : e ∉ ([it, a] : List Addr) := by
      intro q
      rcases List.mem_cons.mp q with q | q
      · exact h3 q
      · exact ea (List.mem_singleton.mp q)
    refine wpAny_pyNext_enum_itemD (Draws.tuple (prog := X.prog) (w := X.w) (A := X.A.in1) (I.ok.hd hc) it a ia its.toArray) h1 ⟨h2, p⟩ lt h3 nf fun y h' tk hy ho hs hT hsz hk => ?_
    have ey : y = u := by
      have hy : its.toArray[i]? = some y := hy
      rw [List.getElem?_toArray, hu] at hy
      exact (Option.some.inj hy).symm
    subst ey
    refine ⟨_, rfl, wpAny_letOwnedTupleGo_enum (s := { s with heap := h', toks := tk + 1 }) ho fun g he sb => ?_⟩
    have hT2 := (sb.2 _ (Nat.ne_of_gt le)).trans hT
    have hk2 : ∀ b ob, b ∉ [e, it] → s.heap.get? b = some ob → g.get? b = some ob := by
      intro b ob nb q
      have n1 : b ≠ e := fun z => nb (by rw [z]; exact List.mem_cons_self ..)
      have n2 : b ≠ it := fun z => nb (by rw [z]; exact List.mem_cons_of_mem _ (List.mem_singleton.mpr rfl))
      exact (sb.2 b n1).trans (hk b ob n1 n2 q)
    have new : ObjOk X.prog X.w (upd H s.heap.objs.size (.tup [.int (i : Nat), x])) g s.heap.objs.size (.tup [.int (i : Nat), x]) :=
      ⟨by show 2 ≤ sizeLine; decide, [.int i tk, y], .cons ⟨_, rfl⟩ (.cons ru .nil), ⟨_, hT2, rfl, _, rfl⟩⟩
    have I1 : Inv X pins σ (upd H s.heap.objs.size (.tup [.int (i : Nat), x])) { s with heap := g, toks := tk + 1 } := I.turnedNew (ch := [e, it]) hk2 hf (Nat.le_refl _) new
    refine ⟨.ref s.heap.objs.size, _, I1, rfl, ⟨_, x, rfl, I.hok.fresh (Nat.le_refl _), rfl, fun ys hys => by rw [I.tuple_inj hys hq]; exact hx⟩, ⟨⟨y, ?_⟩, hs.1.at fun o q => (sb.2 it (Ne.symm h3)).trans q, h3⟩, fun b hb => ?_⟩
    · rw [show ((i + 1 : Nat) : Int) = (i : Int) + 1 by omega]
      exact he
    · rw [upd_ne ?_]
      · exact (hf b hb).1
      · rcases List.mem_cons.mp hb with rfl | hb
        · exact Nat.ne_of_lt le
        · cases List.mem_singleton.mp hb
          exact Nat.ne_of_lt li
  done := by
    intro X hP hw hK hc i pins s σ H E I hf st hg
    subst hP hw hK
    obtain ⟨⟨old, h1⟩, h2, h3⟩ := st
    obtain ⟨xs, hq, hx⟩ := hg
    obtain ⟨its, rv, p, hz⟩ := I.tuple hq
    have ia : a ≠ it := by
      rintro rfl
      obtain ⟨o, q, c, _⟩ := p
      obtain ⟨o2, q2, c2, _⟩ := h2
      rw [q] at q2
      cases q2
      rw [c] at c2
      exact absurd (Value.type.inj c2) (by decide)
    have en : i = its.toArray.size := by
      rw [List.size_toArray, ← rv.length]
      exact hx.symm
    obtain ⟨f0, f1, f2, f3, f4, f5⟩ := hf it (List.mem_cons_of_mem _ (List.mem_singleton.mpr rfl))
    refine wpAny_pyNext_enum_endD (Draws.tuple (prog := X.prog) (w := X.w) (A := X.A.in1) (I.ok.hd hc) it a ia its.toArray) h1 ⟨en ▸ h2, p⟩ fun h' eb => ⟨rfl, ?_⟩
    exact I.turned (t' := s.toks) (fun b o hb q => eb b o hb q) f0 f1 f3 f4 f5
  self := by
    rintro A i s Q E ⟨⟨_, h1⟩, _⟩ h
    exact wpAny_pyIter_enum h1 h
def iEnumT (K : PySem.W.Frag) (ta : TA) : TI := fun σ H R => ta σ H fun vs H1 => ∃ a xs, vs = [.ref a] ∧ SqT K H1 a xs ∧ R (IteT K a) H1
theorem pi_enumT {X : Cx} {K : PySem.W.Frag} (eK : X.K = K) {e : Expr} {ta : TA} {p pos tpos : Pos} {elts : List Expr} {kk : Nat} (hg : Gl X "enumerate") (hm : X.mg "enumerate" = none) (ha : PA X [e] ta) (hs : starEach [e] X.env = [(false, eval e X.env)] := by rfl) :
    PI X (.Tuple elts kk tpos) (.Call (.Name "enumerate" p) [e] [] pos) (iEnumT K ta) := by
  subst eK
  constructor
  intro pins s σ H R I h
  refine Call_ (ld_blt I hg hm boot_enumerate (PyProof.Rows.callWith_type1 (thn (ha.run pos pins s σ H _ I h) ?_) hs rfl))
  rintro us s1 ⟨vs, H1, I1, r1, a, xs, rfl, hq, q⟩
  cases r1 with
  | cons r rr =>
    cases rr
    cases r
    obtain ⟨its, rv, p', hz⟩ := I1.tuple hq
    refine fb_enum (begins_tuple a its.toArray) p' fun h' he ho hk => wpAny_pyIter_enum he ?_
    have I2 : Inv X pins σ H1 { s1 with heap := h' } := I1.kept (t' := s1.toks) hk
    refine ⟨s1.heap.objs.size + 1, [s1.heap.objs.size + 1, s1.heap.objs.size], _, _, H1, rfl, I2, turn_enumT a _ _, ⟨⟨.none, he⟩, ⟨_, ho, rfl, rfl⟩, Nat.succ_ne_self _⟩, fun b hb => ?_, q⟩
    have le : s1.heap.objs.size ≤ b := by
      rcases List.mem_cons.mp hb with rfl | hb
      · exact Nat.le_succ _
      · cases List.mem_singleton.mp hb
        exact Nat.le_refl _
    exact I1.fpOk le (I1.hok.fresh le)
theorem walk_enumT {K : PySem.W.Frag} {a : Addr} {xs : List V} : Walk (IteT K a) xs.length (fun H => SqT K H a xs) (YPair (fun i => some (.int (i : Nat))) (fun i => xs[i]?)) := by
  constructor
  · intro i H hi q
    exact ⟨xs, xs[i], q, List.getElem?_eq_getElem hi⟩
  · intro H q
    exact ⟨xs, q, rfl⟩
  · rintro i H v H' _ q ⟨T, x, h1, h2, h3, h4⟩
    exact ⟨T, .int (i : Nat), x, h1, h2, h3, rfl, h4 xs q⟩
section
variable {X : Cx} {K : PySem.W.Frag} (e : X.K = K)
include e
theorem max_K (hc : X.calm = true) : CallR X (.builtin "max") (rMax K) := e ▸ cr_max hc
theorem slT_K : SlR X (rSlT K) := e ▸ sl_tup
end
theorem tup_inj {X : Cx} {pins : List (Addr × Obj)} {σ : L2.St} {H : Hp} {s : Shared} {a : Addr} {xs ys : List V} (I : Inv X pins σ H s) (h1 : SqT X.K H a xs) (h2 : SqT X.K H a ys) : xs = ys := I.tuple_inj h1 h2
end Fb

set_option Elab.async false
set_option linter.all false
set_option maxRecDepth 100000
set_option maxHeartbeats 4000000
namespace Fb
open PySem PySem.Spec L2
open PyProof.Rows hiding St
/-! ### methods by their body -/
section
variable {P : Program} {w : World} {K : PySem.W.Frag} {mg : Str → Option Value} {base : Heap} {m qual : Str} {st : Stmt} {f : Addr} {fd : FuncData} {N : List Str} {k : Nat} {p1 p2 p3 : Str}
theorem fm1 {g : V → Hp → VK → Prop} (F : C8.Fun K m qual st f fd) (S : FnScope N [p1] (C8.fnScope st))
    (body : ∀ (cdv : Value) (A : Around) (outer : List Env) (s : Shared) (H : Hp) (a : V) (Q : VK) (E : XK), Room k (A.deeper (envOfC qual (C8.fnScope st) s.heap.objs.size f cdv)) → g a H Q →
      ∃ t, PSs (cxOf C8.CX0 P w K mg base N qual (C8.fnScope st) f cdv A outer s H E).nox (C8.fnBody st) t ∧ t { nx := fun _ H' => Q .non H', rt := Q } (start N [a]) H) : FnOk P w K mg base C8.CX0 (k + 1) f fd [p1] (sp1 g) := by
  refine C8.fn0 F S ?_ ?_
  · rintro vs H Q E ⟨a, rfl, _⟩
    rfl
  · rintro cdv A outer s H vs Q E hr ⟨a, rfl, h⟩
    exact body cdv A outer s H a Q E hr h
theorem fm2 {g : V → V → Hp → VK → Prop} (F : C8.Fun K m qual st f fd) (S : FnScope N [p1, p2] (C8.fnScope st))
    (body : ∀ (cdv : Value) (A : Around) (outer : List Env) (s : Shared) (H : Hp) (a b : V) (Q : VK) (E : XK), Room k (A.deeper (envOfC qual (C8.fnScope st) s.heap.objs.size f cdv)) → g a b H Q →
      ∃ t, PSs (cxOf C8.CX0 P w K mg base N qual (C8.fnScope st) f cdv A outer s H E).nox (C8.fnBody st) t ∧ t { nx := fun _ H' => Q .non H', rt := Q } (start N [a, b]) H) : FnOk P w K mg base C8.CX0 (k + 1) f fd [p1, p2] (sp2 g) := by
  refine C8.fn0 F S ?_ ?_
  · rintro vs H Q E ⟨a, b, rfl, _⟩
    rfl
  · rintro cdv A outer s H vs Q E hr ⟨a, b, rfl, h⟩
    exact body cdv A outer s H a b Q E hr h
theorem fm3 {g : V → V → V → Hp → VK → Prop} (F : C8.Fun K m qual st f fd) (S : FnScope N [p1, p2, p3] (C8.fnScope st))
    (body : ∀ (cdv : Value) (A : Around) (outer : List Env) (s : Shared) (H : Hp) (a b c : V) (Q : VK) (E : XK), Room k (A.deeper (envOfC qual (C8.fnScope st) s.heap.objs.size f cdv)) → g a b c H Q →
      ∃ t, PSs (cxOf C8.CX0 P w K mg base N qual (C8.fnScope st) f cdv A outer s H E).nox (C8.fnBody st) t ∧ t { nx := fun _ H' => Q .non H', rt := Q } (start N [a, b, c]) H) : FnOk P w K mg base C8.CX0 (k + 1) f fd [p1, p2, p3] (sp3 g) := by
  refine C8.fn0 F S ?_ ?_
  · rintro vs H Q E ⟨a, b, c, rfl, _⟩
    rfl
  · rintro cdv A outer s H vs Q E hr ⟨a, b, c, rfl, h⟩
    exact body cdv A outer s H a b c Q E hr h
end
/-! ### hours of a day, without a heap -/
/-- can it be entered at t -/
def openM (ws : Option (List (Int × Int))) (t : Int) : Bool := match ws with
  | none => true
  | some l => l.any fun p => decide (p.1 ≤ t) && decide (t < p.2)
/-- what is read at any time -/
def readM (f : List Int) (t : Int) : Int := f.getD (t % (f.length : Int)).toNat 0 + t / (f.length : Int) * f.length
/-! ### windows on the heap -/
def dW (l : List (Int × Int)) : List PyData := l.map fun p => .tuple [.int p.1, .int p.2]
def WinV (K : PySem.W.Frag) (H : Hp) (v : V) (ws : Option (List (Int × Int))) : Prop :=
  (ws = none ∧ v = .non) ∨ ∃ l, ws = some l ∧ l.length ≤ 1000 ∧ (Dp K H v (.list (dW l)) ∨ Dp K H v (.tuple (dW l)))
theorem WinV.mono {K : PySem.W.Frag} {H H' : Hp} {v : V} {ws : Option (List (Int × Int))} (h : WinV K H v ws) (e : Same H H') : WinV K H' v ws := by
  rcases h with h | ⟨l, h1, h2, h | h⟩
  · exact .inl h
  · exact .inr ⟨l, h1, h2, .inl (dp_mono e _ h)⟩
  · exact .inr ⟨l, h1, h2, .inr (dp_mono e _ h)⟩
theorem dp_pair {K : PySem.W.Frag} {H : Hp} {v : V} {a b : Int} (h : Dp K H v (.tuple [.int a, .int b])) : ∃ T, v = .ref T ∧ SqT K H T [.int a, .int b] := by
  cases h with
  | tup s x =>
    cases x with
    | cons p q =>
      cases q with
      | cons r u =>
        cases u
        cases p
        cases r
        exact ⟨_, rfl, s⟩
theorem dW_get {K : PySem.W.Frag} {H : Hp} {xs : List V} {l : List (Int × Int)} {i : Nat} {x : V} (h : DpAll K H xs (dW l)) (e : xs[i]? = some x) : ∃ p T, l[i]? = some p ∧ x = .ref T ∧ SqT K H T [.int p.1, .int p.2] := by
  obtain ⟨d, hd, hx⟩ := dpAll_get h e
  unfold dW at hd
  rw [List.getElem?_map] at hd
  cases hl : l[i]? with
  | none =>
    rw [hl] at hd
    cases hd
  | some p =>
    rw [hl] at hd
    cases hd
    obtain ⟨T, e1, e2⟩ := dp_pair hx
    exact ⟨p, T, rfl, e1, e2⟩
/-- a tuple of ints -/
def TupI (K : PySem.W.Frag) (H : Hp) (v : V) (f : List Int) : Prop := ∃ a, v = .ref a ∧ SqT K H a (f.map V.int)
theorem TupI.mono {K : PySem.W.Frag} {H H' : Hp} {v : V} {f : List Int} (h : TupI K H v f) (e : Same H H') : TupI K H' v f := by
  obtain ⟨a, h1, h2⟩ := h
  exact ⟨a, h1, same_tup e h2⟩
/-- the i-th of what a comprehension over a list makes -/
theorem map_get {α β : Type} (d : α) (f : α → β) (l : List α) {n : Nat} (h : n = l.length) : (List.range n).map (fun i => f (l.getD i d)) = l.map f := by
  rw [h]
  exact map_range_get d f l
theorem getD_of {α : Type} {l : List α} {i : Nat} {x d : α} (h : l[i]? = some x) : l.getD i d = x := by
  rw [List.getD_eq_getElem?_getD, h]
  rfl
theorem int_get {f : List Int} {i : Nat} {x : V} (h : (f.map V.int)[i]? = some x) : ∃ z, f[i]? = some z ∧ x = .int z := by
  rw [List.getElem?_map] at h
  cases e : f[i]? with
  | none =>
    rw [e] at h
    cases h
  | some z =>
    rw [e] at h
    exact ⟨z, rfl, (Option.some.inj h).symm⟩
/-! ### the walk, time by time -/
def walkM (n : Int) (ws : Option (List (Int × Int))) : Int → Nat → Int
  | t, 0 => t
  | t, m + 1 => if openM ws (t % n) = true then t else walkM n ws (t + 1) m
def anyO (n : Nat) (ws : Option (List (Int × Int))) : Bool := (List.range n).any fun i => openM ws (i : Nat)
def hoursM (n : Nat) (ws : Option (List (Int × Int))) (k : Int) : Option (List Int) :=
  if anyO n ws = true then some ((List.range n).map fun i => walkM n ws (i : Nat) n + k) else none
/-- u is the next open time from t -/
structure PB (n : Nat) (ws : Option (List (Int × Int))) (t u : Int) : Prop where
  le : t ≤ u
  op : openM ws (u % n) = true
  no : ∀ s, t ≤ s → s < u → openM ws (s % n) = false
  hi : u ≤ t + n
theorem walk_pb {n : Nat} {ws : Option (List (Int × Int))} {u : Int} (hop : openM ws (u % n) = true) : ∀ (m : Nat) (t : Int), t ≤ u → (∀ s, t ≤ s → s < u → openM ws (s % n) = false) → u ≤ t + m → walkM n ws t m = u
  | 0, t, h1, _, h3 => by
    show t = u
    omega
  | m + 1, t, h1, h2, h3 => by
    show (if openM ws (t % n) = true then t else walkM n ws (t + 1) m) = u
    by_cases e : t = u
    · subst e
      rw [if_pos hop]
    · have h := h2 t (Int.le_refl _) (by omega)
      rw [if_neg (by rw [h]; exact Bool.false_ne_true)]
      exact walk_pb hop m (t + 1) (by omega) (fun s a b => h2 s (by omega) b) (by omega)
theorem PB.walk {n : Nat} {ws : Option (List (Int × Int))} {t u : Int} (p : PB n ws t u) : walkM n ws t n = u := walk_pb p.op n t p.le p.no p.hi
/-- from the day's end backward -/
def bM (n : Nat) (ws : Option (List (Int × Int))) (a : Nat) : Nat → Int
  | 0 => (a : Int) + n
  | j + 1 => if openM ws ((n : Int) - 1 - j) = true then (n : Int) - 1 - j else bM n ws a j
theorem bM_pb {n a : Nat} {ws : Option (List (Int × Int))} (ha : a < n) (hop : openM ws (a : Nat) = true) (hno : ∀ s : Nat, s < a → openM ws (s : Nat) = false) : ∀ j : Nat, j ≤ n → PB n ws ((n : Int) - j) (bM n ws a j)
  | 0, _ => by
    have e : ((a : Int) + n) % n = a := by
      rw [Int.add_emod_right]
      exact Int.emod_eq_of_lt (by omega) (by omega)
    refine ⟨by show (n : Int) - (0 : Nat) ≤ a + n; omega, by show openM ws (((a : Int) + n) % n) = true; rw [e]; exact hop, ?_, by show (a : Int) + n ≤ _; omega⟩
    intro s h1 h2
    have h2 : s < (a : Int) + n := h2
    obtain ⟨k, rfl⟩ : ∃ k : Nat, s = (k : Int) + n := ⟨(s - n).toNat, by omega⟩
    rw [Int.add_emod_right, Int.emod_eq_of_lt (by omega) (by omega)]
    exact hno k (by omega)
  | j + 1, h => by
    have p := bM_pb ha hop hno j (by omega)
    have e : ((n : Int) - 1 - j) % n = (n : Int) - 1 - j := Int.emod_eq_of_lt (by omega) (by omega)
    show PB n ws ((n : Int) - (j + 1 : Nat)) (if openM ws ((n : Int) - 1 - j) = true then (n : Int) - 1 - j else bM n ws a j)
    by_cases o : openM ws ((n : Int) - 1 - j) = true
    · rw [if_pos o]
      exact ⟨by omega, by rw [e]; exact o, fun s a b => by omega, by omega⟩
    · rw [if_neg o]
      have hle := p.le
      have hhi := p.hi
      have o : openM ws ((n : Int) - 1 - j) = false := by
        cases q : openM ws ((n : Int) - 1 - j) with
        | false => rfl
        | true => exact absurd q o
      refine ⟨by omega, p.op, ?_, ?_⟩
      · intro s h1 h2
        by_cases q : s = (n : Int) - 1 - j
        · rw [q, e]
          exact o
        · exact p.no s (by omega) h2
      · by_cases q : bM n ws a j = (n : Int) - j + n
        · exfalso
          have h1 := p.op
          rw [q, Int.add_emod_right] at h1
          have h2 := p.no ((n : Int) - j) (Int.le_refl _) (by omega)
          rw [h1] at h2
          cases h2
        · omega
theorem first_open {n a : Nat} {p : Nat → Bool} {r : List Nat} (h : (List.range n).filter p = a :: r) : a < n ∧ p a = true ∧ ∀ s, s < a → p s = false := by
  have e : (List.range n).find? p = some a := by
    rw [← List.head?_filter, h]
    rfl
  obtain ⟨h1, h2, h3⟩ := List.find?_range_eq_some.mp e
  refine ⟨List.mem_range.mp h2, h1, fun s hs => ?_⟩
  have := h3 s hs
  cases q : p s with
  | false => rfl
  | true =>
    rw [q] at this
    cases this
theorem none_open {n : Nat} {p : Nat → Bool} (h : (List.range n).filter p = []) : (List.range n).any p = false := by
  cases e : (List.range n).any p with
  | false => rfl
  | true =>
    obtain ⟨x, hx, px⟩ := List.any_eq_true.mp e
    have := List.mem_filter.mpr ⟨hx, px⟩
    rw [h] at this
    cases this
theorem some_open {n a : Nat} {p : Nat → Bool} {r : List Nat} (h : (List.range n).filter p = a :: r) : (List.range n).any p = true := by
  obtain ⟨h1, h2, _⟩ := first_open h
  exact List.any_eq_true.mpr ⟨a, List.mem_range.mpr h1, h2⟩
/-- what is told of a day with an open time -/
structure Day (n : Nat) (ws : Option (List (Int × Int))) (E : Nat → Int) : Prop where
  lo : ∀ i, i < n → (i : Int) ≤ E i
  hi : ∀ i, i < n → E i ≤ i + n
  up : ∀ i, i + 1 < n → E i ≤ E (i + 1)
  last : E (n - 1) ≤ E 0 + n
theorem day_of {n a : Nat} {ws : Option (List (Int × Int))} (ha : a < n) (hop : openM ws (a : Nat) = true) (hno : ∀ s : Nat, s < a → openM ws (s : Nat) = false) :
    (∀ i, i < n → walkM n ws (i : Nat) n = bM n ws a (n - i)) ∧ Day n ws (fun i => walkM n ws (i : Nat) n) := by
  have pb : ∀ i, i < n → PB n ws (i : Nat) (bM n ws a (n - i)) := fun i hi => by
    have p := bM_pb ha hop hno (n - i) (by omega)
    rw [show (n : Int) - (n - i : Nat) = (i : Nat) by omega] at p
    exact p
  have w : ∀ i, i < n → walkM n ws (i : Nat) n = bM n ws a (n - i) := fun i hi => (pb i hi).walk
  refine ⟨w, ⟨fun i hi => ?_, fun i hi => ?_, fun i hi => ?_, ?_⟩⟩
  · show (i : Int) ≤ walkM n ws (i : Nat) n
    rw [w i hi]
    exact (pb i hi).le
  · show walkM n ws (i : Nat) n ≤ _
    rw [w i hi]
    exact (pb i hi).hi
  · show walkM n ws (i : Nat) n ≤ walkM n ws (i + 1 : Nat) n
    rw [w i (by omega), w (i + 1) hi, show n - i = (n - (i + 1)) + 1 by omega]
    have p := (pb (i + 1) hi).le
    show (if openM ws ((n : Int) - 1 - (n - (i + 1) : Nat)) = true then (n : Int) - 1 - (n - (i + 1) : Nat) else bM n ws a (n - (i + 1))) ≤ bM n ws a (n - (i + 1))
    by_cases o : openM ws ((n : Int) - 1 - (n - (i + 1) : Nat)) = true
    · rw [if_pos o]
      omega
    · rw [if_neg o]
      exact Int.le_refl _
  · show walkM n ws (n - 1 : Nat) n ≤ walkM n ws (0 : Nat) n + n
    rw [w (n - 1) (by omega), w 0 (by omega), show n - (n - 1) = 0 + 1 by omega]
    have p0 := pb 0 (by omega)
    have q : (a : Int) ≤ bM n ws a (n - 0) := by
      by_cases h : (a : Int) ≤ bM n ws a (n - 0)
      · exact h
      · exfalso
        have h1 := p0.le
        have h2 := p0.op
        generalize bM n ws a (n - 0) = u at *
        rw [Int.emod_eq_of_lt (by omega) (by omega)] at h2
        have h3 := hno u.toNat (by omega)
        rw [show ((u.toNat : Nat) : Int) = u by omega, h2] at h3
        cases h3
    show (if openM ws ((n : Int) - 1 - (0 : Nat)) = true then (n : Int) - 1 - (0 : Nat) else (a : Int) + n) ≤ _
    by_cases o : openM ws ((n : Int) - 1 - (0 : Nat)) = true
    · rw [if_pos o]
      omega
    · rw [if_neg o]
      omega
/-! ### tuples of ints as data -/
def optD : Option (List Int) → PyData
  | none => .none
  | some f => .tuple (f.map .int)
theorem TupI.dp {K : PySem.W.Frag} {H : Hp} {v : V} {f : List Int} (h : TupI K H v f) : Dp K H v (.tuple (f.map .int)) := by
  obtain ⟨a, rfl, s⟩ := h
  exact .tup s (dpAll_map fun x _ => .int x)
theorem tup_at {f : List Int} {i : Int} (h0 : 0 ≤ i) (h1 : i < f.length) : atI (f.map V.int) i = some (.int (f.getD i.toNat 0)) := by
  obtain ⟨j, rfl⟩ := Int.eq_ofNat_of_zero_le h0
  have hj : j < f.length := by omega
  refine (atI_nat ?_).trans rfl
  rw [List.getElem?_map, List.getElem?_eq_getElem hj, Int.toNat_natCast, List.getD_eq_getElem?_getD, List.getElem?_eq_getElem hj]
  rfl
theorem mod_in {t n : Int} (h : 0 < n) : 0 ≤ t % n ∧ t % n < n := ⟨Int.emod_nonneg _ (by omega), Int.emod_lt_of_pos _ h⟩
/-- the greatest time at which one is through by e -/
theorem latest {f : List Int} {e m : Int} (h0 : 0 < f.length) (hm : ∃ i, i < f.length ∧ m = (i : Nat) + (e - f.getD i 0) / (f.length : Int) * f.length) (hx : ∀ i, i < f.length → (i : Nat) + (e - f.getD i 0) / (f.length : Int) * f.length ≤ m) :
    readM f m ≤ e ∧ e < readM f (m + 1) := by
  have hn : (0 : Int) < f.length := by omega
  have key : ∀ t : Int, readM f t ≤ e → t ≤ m := by
    intro t ht
    obtain ⟨h1, h2⟩ := mod_in (t := t) hn
    have h3 := hx (t % f.length).toNat (by omega)
    unfold readM at ht
    rw [Int.toNat_of_nonneg h1] at h3
    have h4 : t / (f.length : Int) ≤ (e - f.getD (t % f.length).toNat 0) / (f.length : Int) := by
      refine (Int.le_ediv_iff_mul_le hn).mpr ?_
      omega
    have h5 := Int.mul_le_mul_of_nonneg_right h4 (Int.le_of_lt hn)
    have h6 := Int.emod_add_mul_ediv t f.length
    rw [Int.mul_comm] at h6
    omega
  constructor
  · obtain ⟨i, hi, rfl⟩ := hm
    unfold readM
    rw [Int.add_mul_emod_self_right, Int.add_mul_ediv_right _ _ (by omega), Int.emod_eq_of_lt (by omega) (by omega), Int.ediv_eq_zero_of_lt (by omega) (by omega), Int.toNat_natCast, Int.zero_add]
    have := Int.ediv_mul_le (e - f.getD i 0) (show (f.length : Int) ≠ 0 by omega)
    omega
  · by_cases h : e < readM f (m + 1)
    · exact h
    · have := key (m + 1) (by omega)
      omega
theorem latest_bound {f : List Int} {e : Int} {i : Nat} (h0 : 0 < f.length) (hl : f.length ≤ 1000) (hi : i < f.length) (b0 : 0 ≤ f.getD i 0) (b1 : f.getD i 0 ≤ 100000) (e0 : -1000000 ≤ e) (e1 : e ≤ 1000000) :
    -2000000 ≤ (i : Nat) + (e - f.getD i 0) / (f.length : Int) * f.length ∧ (i : Nat) + (e - f.getD i 0) / (f.length : Int) * f.length ≤ 2000000 := by
  have hn : (0 : Int) < f.length := by omega
  have h1 := Int.emod_add_mul_ediv (e - f.getD i 0) f.length
  obtain ⟨h2, h3⟩ := mod_in (t := e - f.getD i 0) hn
  rw [Int.mul_comm] at h1
  omega
theorem read_mod (f : List Int) (t : Int) : t - t / (f.length : Int) * f.length = t % (f.length : Int) := by
  have h := Int.emod_add_mul_ediv t f.length
  rw [Int.mul_comm] at h
  omega
theorem bw_any (l : List (Int × Int)) (t : Int) : openM (some l) t = (l.map fun p => decide (p.1 ≤ t) && decide (t < p.2)).any id := by
  rw [List.any_map]
  rfl
/-- windows as what is walked: a list or a tuple of pairs -/
theorem WinV.some {K : PySem.W.Frag} {H : Hp} {v : V} {l : List (Int × Int)} (h : WinV K H v (some l)) : l.length ≤ 1000 ∧ ∃ W xs, v = .ref W ∧ (SqL K H W xs ∨ SqT K H W xs) ∧ DpAll K H xs (dW l) ∧ l.length = xs.length := by
  rcases h with ⟨h, _⟩ | ⟨l', h1, h2, h3⟩
  · cases h
  · cases h1
    have len : ∀ xs, DpAll K H xs (dW l) → l.length = xs.length := fun xs hx => by
      have := dpAll_len hx
      unfold dW at this
      rw [List.length_map] at this
      exact this.symm
    rcases h3 with h | h
    · cases h with
      | lst s x => exact ⟨h2, _, _, rfl, .inl s, x, len _ x⟩
    · cases h with
      | tup s x => exact ⟨h2, _, _, rfl, .inr s, x, len _ x⟩
theorem WinV.none {K : PySem.W.Frag} {H : Hp} {v : V} (h : WinV K H v none) : v = .non := by
  rcases h with ⟨_, h⟩ | ⟨l', h1, _⟩
  · exact h
  · cases h1
/-- an object of the class Hours -/
def hfl (d : Int) (t : Addr) : List (Str × V) := putF "stay" (.ref t) (putF "day" (.int d) [])
def HoursAt (CH : Addr) (H : Hp) (p : Addr) (d : Nat) : Prop := ∃ dx t, H p = some (.ins CH dx (hfl d t)) ∧ H t = some (.tup (rgV 0 d))
theorem HoursAt.mono {CH : Addr} {H H' : Hp} {p : Addr} {d : Nat} (h : HoursAt CH H p d) (e : Same H H') : HoursAt CH H' p d := by
  obtain ⟨dx, t, a, b⟩ := h
  exact ⟨dx, t, e _ _ a, e _ _ b⟩
theorem ne_ds : ¬ (("day" : Str) = "stay") := by decide +kernel
theorem hfl_day (d : Int) (t : Addr) : (hfl d t).lookup ("day" : Str) = some (.int d) := by
  unfold hfl
  rw [lookup_putF, if_neg ne_ds, lookup_putF, if_pos rfl]
theorem hfl_stay (d : Int) (t : Addr) : (hfl d t).lookup ("stay" : Str) = some (.ref t) := by
  unfold hfl
  rw [lookup_putF, if_pos rfl]
theorem hfl_no (d : Int) (t : Addr) {m : Str} (h1 : ¬ m = "stay") (h2 : ¬ m = "day") : (hfl d t).lookup m = none := by
  unfold hfl
  rw [lookup_putF, if_neg h1, lookup_putF, if_neg h2]
  rfl
theorem tup_last {f : List Int} (h : 0 < f.length) : atI (f.map V.int) (-1) = some (.int (f.getD (f.length - 1) 0)) := by
  have e : ixN (f.map V.int).length (-1) = some (f.length - 1) := by
    unfold ixN
    rw [List.length_map, if_neg (by decide), if_pos (by omega)]
    exact congrArg some (by omega)
  unfold atI
  rw [e]
  show (f.map V.int)[f.length - 1]? = _
  rw [List.getElem?_map, List.getD_eq_getElem?_getD, List.getElem?_eq_getElem (show f.length - 1 < f.length by omega)]
  rfl
theorem cut_tail {f : List Int} (h : 0 < f.length) : HT.sIx (f.map V.int).length 0 (some 1) = 1 ∧ cutV (f.map V.int) (some 1) none = (f.drop 1).map V.int := by
  have e : HT.sIx (f.map V.int).length 0 (some 1) = 1 := by
    rw [List.length_map]
    refine (HT.sIx_nat f.length 0 1).trans ?_
    exact Nat.min_eq_left (by omega)
  refine ⟨e, ?_⟩
  unfold cutV
  rw [e, HT.sIx_none, List.length_map, ← List.map_drop]
  exact List.take_of_length_le (by rw [List.length_map, List.length_drop]; exact Nat.le_refl _)
theorem rev_bM {n a : Nat} {ws : Option (List (Int × Int))} {k : Int} (w : ∀ i, i < n → walkM n ws (i : Nat) n = bM n ws a (n - i)) :
    ((List.range n).map fun i => V.int (bM n ws a (i + 1) + k)).reverse = ((List.range n).map fun i => walkM n ws (i : Nat) n + k).map V.int := by
  rw [List.map_map]
  refine List.ext_getElem (by simp) fun i h1 h2 => ?_
  have hi : i < n := by simpa using h2
  rw [List.getElem_reverse, List.getElem_map, List.getElem_map, List.getElem_range, List.getElem_range]
  show V.int _ = V.int (walkM n ws (i : Nat) n + k)
  rw [w i hi, List.length_map, List.length_range, show n - 1 - i + 1 = n - i by omega]
theorem at0 {x : V} {xs : List V} : atI (x :: xs) 0 = some x := (show atI (x :: xs) ((0 : Nat) : Int) = some x from atI_nat rfl)
theorem at1 {x y : V} {xs : List V} : atI (x :: y :: xs) 1 = some y := (show atI (x :: y :: xs) ((1 : Nat) : Int) = some y from atI_nat rfl)
theorem filt_open (l : List (Int × Int)) (t : Int) : (!((List.range l.length).filter fun i => decide ((l.getD i (0, 0)).1 ≤ t) && decide (t < (l.getD i (0, 0)).2)).isEmpty) = openM (some l) t := by
  show _ = l.any fun p => decide (p.1 ≤ t) && decide (t < p.2)
  generalize e : (fun p : Int × Int => decide (p.1 ≤ t) && decide (t < p.2)) = b
  have e2 : (fun i => decide ((l.getD i (0, 0)).1 ≤ t) && decide (t < (l.getD i (0, 0)).2)) = fun i => b (l.getD i (0, 0)) := by
    funext i
    rw [← e]
  rw [e2]
  clear e e2
  induction l with
  | nil => rfl
  | cons a r ih =>
    rw [List.length_cons, List.range_succ_eq_map, List.filter_cons, List.any_cons, List.filter_map]
    show (!(if b a = true then _ else _ : List Nat).isEmpty) = _
    cases h : b a with
    | true =>
      rw [if_pos rfl, Bool.true_or]
      rfl
    | false =>
      rw [if_neg Bool.false_ne_true, List.isEmpty_map, Bool.false_or]
      exact ih
/-- what the law's loop has found behind j turns: stood at an open time, or still going -/
def stepM (n : Nat) (ws : Option (List (Int × Int))) (t : Int) (j : Nat) : Prop := ∀ m, walkM n ws t (j + m) = walkM n ws (t + j) m
theorem stepM_zero {n : Nat} {ws : Option (List (Int × Int))} {t : Int} : stepM n ws t 0 := fun m => by
  rw [Nat.zero_add, show t + ((0 : Nat) : Int) = t by omega]
theorem stepM_succ {n : Nat} {ws : Option (List (Int × Int))} {t : Int} {j : Nat} (h : stepM n ws t j) (o : openM ws ((t + j) % n) = false) : stepM n ws t (j + 1) := fun m => by
  have h1 := h (m + 1)
  rw [show j + (m + 1) = j + 1 + m by omega] at h1
  rw [h1, show t + ((j + 1 : Nat) : Int) = t + j + 1 by omega]
  exact if_neg (by rw [o]; exact Bool.false_ne_true)
theorem stepM_end {n : Nat} {ws : Option (List (Int × Int))} {t : Int} (h : stepM n ws t n) : t + n = walkM n ws t n := (h 0).symm
theorem stepM_stop {n : Nat} {ws : Option (List (Int × Int))} {t : Int} {j : Nat} (h : stepM n ws t j) (hj : j < n) (o : openM ws ((t + j) % n) = true) : t + j = walkM n ws t n := by
  have h1 := h (n - j - 1 + 1)
  rw [show j + (n - j - 1 + 1) = n by omega] at h1
  rw [h1]
  exact (if_pos o).symm
theorem sqt_upd {K : PySem.W.Frag} {H : Hp} {q U : Addr} {xs ys : List V} {o : HO} (hq : H q = some (.lst ys)) (h : SqT K H U xs) : SqT K (upd H q o) U xs := by
  rcases h with (h | ⟨o2, h⟩) | h
  · refine .inl (.inl ?_)
    rw [upd_ne fun e => by rw [e, hq] at h; cases h]
    exact h
  · refine .inl (.inr ⟨o2, ?_⟩)
    rw [upd_ne fun e => by rw [e, hq] at h; cases h]
    exact h
  · exact .inr h
theorem dW_upd {K : PySem.W.Frag} {H : Hp} {q : Addr} {ys : List V} {o : HO} (hq : H q = some (.lst ys)) : ∀ {l : List (Int × Int)} {xs : List V}, DpAll K H xs (dW l) → DpAll K (upd H q o) xs (dW l)
  | [], _, h => by
    cases h
    exact .nil
  | p :: r, _, h => by
    have h : DpAll K H _ (.tuple [.int p.1, .int p.2] :: dW r) := h
    cases h with
    | cons a b =>
      obtain ⟨U, rfl, s⟩ := dp_pair a
      exact .cons (.tup (sqt_upd hq s) (.cons (.int _) (.cons (.int _) .nil))) (dW_upd hq b)
theorem dW_snoc (l : List (Int × Int)) (a b : Int) : dW (l ++ [(a, b)]) = dW l ++ [.tuple [.int a, .int b]] := List.map_append
theorem dpAll_snoc {K : PySem.W.Frag} {H : Hp} : ∀ {xs : List V} {ds : List PyData} {x : V} {d : PyData}, DpAll K H xs ds → Dp K H x d → DpAll K H (xs ++ [x]) (ds ++ [d])
  | _, _, _, _, .nil, h => .cons h .nil
  | _, _, _, _, .cons a b, h => .cons a (dpAll_snoc b h)
theorem cut_mem (cs : List Int) (lo hi : Option Int) : ∃ ms : List Int, cutV (cs.map V.int) lo hi = ms.map V.int ∧ (∀ z ∈ ms, z ∈ cs) ∧ ms.length ≤ cs.length := by
  unfold cutV
  rw [← List.map_drop, ← List.map_take]
  refine ⟨_, rfl, fun z hz => List.mem_of_mem_drop (List.mem_of_mem_take hz), ?_⟩
  rw [List.length_take, List.length_drop]
  omega
/-- what the law's own windows are: None or a new list of pairs -/
def WinL (K : PySem.W.Frag) (H : Hp) (v : V) (ws : Option (List (Int × Int))) : Prop :=
  (ws = none ∧ v = .non) ∨ ∃ l D xs, ws = some l ∧ l.length ≤ 1000 ∧ v = .ref D ∧ H D = some (.lst xs) ∧ DpAll K H xs (dW l)
theorem WinL.mono {K : PySem.W.Frag} {H H' : Hp} {v : V} {ws : Option (List (Int × Int))} (h : WinL K H v ws) (e : Same H H') : WinL K H' v ws := by
  rcases h with h | ⟨l, D, xs, h1, h2, h3, h4, h5⟩
  · exact .inl h
  · exact .inr ⟨l, D, xs, h1, h2, h3, e _ _ h4, dpAll_mono e _ h5⟩
theorem WinL.win {K : PySem.W.Frag} {H : Hp} {v : V} {ws : Option (List (Int × Int))} (h : WinL K H v ws) : WinV K H v ws := by
  rcases h with h | ⟨l, D, xs, h1, h2, rfl, h4, h5⟩
  · exact .inl h
  · exact .inr ⟨l, h1, h2, .inl (.lst (SqL.of h4) h5)⟩
def OkF (n : Nat) (f : List Int) : Prop := f.length = n ∧ ∀ i, i < n → 0 ≤ f.getD i 0 ∧ f.getD i 0 ≤ 2000
theorem okF_of {n : Nat} {f : List Int} (h : f.length = n) (p : ∀ x ∈ f, 0 ≤ x ∧ x ≤ 2000) : OkF n f := by
  refine ⟨h, fun i hi => ?_⟩
  rw [getD_of (List.getElem?_eq_getElem (show i < f.length by omega))]
  exact p _ (List.getElem_mem _)
theorem okF_stay {n : Nat} (h : n ≤ 96) : OkF n ((List.range n).map fun i => ((i : Nat) : Int)) := by
  refine okF_of (by rw [List.length_map, List.length_range]) fun x hx => ?_
  obtain ⟨i, hi, rfl⟩ := List.mem_map.mp hx
  have := List.mem_range.mp hi
  omega
theorem rg_nat (n : Nat) : rgV 0 (n : Int) = ((List.range n).map fun i => ((i : Nat) : Int)).map V.int := by
  unfold rgV
  rw [show ((n : Int) - 0).toNat = n by omega, List.map_map]
  refine List.map_congr_left fun i _ => ?_
  show V.int (0 + (i : Nat)) = V.int (i : Nat)
  rw [Int.zero_add]
def FoundAt (K : PySem.W.Frag) (H : Hp) (q : Addr) (n m : Nat) : Prop := ∃ us : List V, H q = some (.lst us) ∧ 0 < us.length ∧ us.length ≤ m ∧ ∀ u ∈ us, ∃ f, TupI K H u f ∧ OkF n f
theorem FoundAt.mono {K : PySem.W.Frag} {H H' : Hp} {q : Addr} {n m m' : Nat} (h : FoundAt K H q n m) (e : Same H H') (hm : m ≤ m') : FoundAt K H' q n m' := by
  obtain ⟨us, h1, h2, h3, h4⟩ := h
  refine ⟨us, e _ _ h1, h2, by omega, fun u hu => ?_⟩
  obtain ⟨f, t, o⟩ := h4 u hu
  exact ⟨f, t.mono e, o⟩
theorem tupI_upd {K : PySem.W.Frag} {H : Hp} {q : Addr} {ys : List V} {o : HO} {v : V} {f : List Int} (hq : H q = some (.lst ys)) (h : TupI K H v f) : TupI K (upd H q o) v f := by
  obtain ⟨a, h1, h2⟩ := h
  exact ⟨a, h1, sqt_upd hq h2⟩
theorem span_in {z : V} (h : z ∈ ([.int 1, .int 2, .int 3, .int 4, .int 5, .int 6, .int 7, .int 8, .int 8, .int 24, .int 96] : List V)) : ∃ n : Nat, z = .int n ∧ 1 ≤ n ∧ n ≤ 96 := by
  simp only [List.mem_cons, List.not_mem_nil, or_false] at h
  rcases h with rfl | rfl | rfl | rfl | rfl | rfl | rfl | rfl | rfl | rfl | rfl
  · exact ⟨1, rfl, by decide, by decide⟩
  · exact ⟨2, rfl, by decide, by decide⟩
  · exact ⟨3, rfl, by decide, by decide⟩
  · exact ⟨4, rfl, by decide, by decide⟩
  · exact ⟨5, rfl, by decide, by decide⟩
  · exact ⟨6, rfl, by decide, by decide⟩
  · exact ⟨7, rfl, by decide, by decide⟩
  · exact ⟨8, rfl, by decide, by decide⟩
  · exact ⟨8, rfl, by decide, by decide⟩
  · exact ⟨24, rfl, by decide, by decide⟩
  · exact ⟨96, rfl, by decide, by decide⟩
/-- what hours tell keeps what a value must keep -/
theorem hours_ok {n : Nat} {ws : Option (List (Int × Int))} {k : Int} {f : List Int} (h : hoursM n ws k = some f) (n0 : 1 ≤ n) (n1 : n ≤ 96) (k0 : 0 ≤ k) (k1 : k ≤ 961) :
    OkF n f ∧ (∀ i, i < f.length → (i : Int) ≤ f.getD i 0) ∧ (∀ i, i + 1 < f.length → f.getD i 0 ≤ f.getD (i + 1) 0) ∧ f.getD (f.length - 1) 0 ≤ f.getD 0 0 + f.length := by
  unfold hoursM at h
  cases hA : anyO n ws with
  | false =>
    rw [hA] at h
    cases h
  | true =>
    rw [hA, if_pos rfl] at h
    cases h
    cases hF : (List.range n).filter (fun i => openM ws (i : Nat)) with
    | nil =>
      have := none_open hF
      unfold anyO at hA
      rw [hA] at this
      cases this
    | cons a r =>
      obtain ⟨ha, hop, hno⟩ := first_open hF
      obtain ⟨_, D⟩ := day_of ha hop hno
      have ln : ((List.range n).map fun i => walkM n ws (i : Nat) n + k).length = n := by rw [List.length_map, List.length_range]
      have g : ∀ i, i < n → ((List.range n).map fun i => walkM n ws (i : Nat) n + k).getD i 0 = walkM n ws (i : Nat) n + k := fun i hi => by
        rw [List.getD_eq_getElem?_getD, List.getElem?_map, List.getElem?_range hi]
        rfl
      have lo := D.lo
      have hi := D.hi
      have up := D.up
      have la := D.last
      refine ⟨⟨ln, fun i hi' => ?_⟩, fun i hi' => ?_, fun i hi' => ?_, ?_⟩
      · rw [g i hi']
        have a1 := lo i hi'
        have a2 := hi i hi'
        constructor <;> omega
      · rw [ln] at hi'
        rw [g i hi']
        have a1 := lo i hi'
        omega
      · rw [ln] at hi'
        rw [g i (by omega), g (i + 1) hi']
        have a1 := up i hi'
        omega
      · rw [ln, g (n - 1) (by omega), g 0 (by omega)]
        have a1 := la
        omega
theorem dpAll_rep {K : PySem.W.Frag} {H : Hp} {d : PyData} : ∀ {us : List V}, (∀ u ∈ us, Dp K H u d) → DpAll K H us (List.replicate us.length d)
  | [], _ => .nil
  | u :: r, h => .cons (h u (List.mem_cons_self ..)) (dpAll_rep fun x hx => h x (List.mem_cons_of_mem _ hx))
theorem lk_optD {m : Nat} {o : Option (List Int)} (h : ∀ f, o = some f → f.length ≤ 100000) : Lk (m + 2) (optD o) := by
  cases o with
  | none => trivial
  | some f =>
    refine ⟨by rw [List.length_map]; exact h f rfl, fun d hd => ?_⟩
    obtain ⟨z, _, rfl⟩ := List.mem_map.mp hd
    trivial
theorem optD_upd {K : PySem.W.Frag} {H : Hp} {q : Addr} {ys : List V} {o : HO} {v : V} {r : Option (List Int)} (hq : H q = some (.lst ys)) (h : Dp K H v (optD r)) : Dp K (upd H q o) v (optD r) := by
  cases r with
  | none =>
    cases h
    exact .non
  | some f =>
    cases h with
    | tup s x => exact .tup (sqt_upd hq s) (ints_free x)
where ints_free {K : PySem.W.Frag} {H H' : Hp} : ∀ {f : List Int} {xs : List V}, DpAll K H xs (f.map .int) → DpAll K H' xs (f.map .int)
  | [], _, h => by
    cases h
    exact .nil
  | z :: r, _, h => by
    cases h with
    | cons a b =>
      cases a
      exact .cons (.int _) (ints_free b)
theorem optD_tup {K : PySem.W.Frag} {H : Hp} {v : V} {f : List Int} (h : Dp K H v (optD (some f))) : TupI K H v f := by
  cases h with
  | tup s x =>
    refine ⟨_, rfl, ?_⟩
    rw [← ints_are x]
    exact s
where ints_are {K : PySem.W.Frag} {H : Hp} : ∀ {f : List Int} {xs : List V}, DpAll K H xs (f.map .int) → xs = f.map V.int
  | [], _, h => by
    cases h
    rfl
  | z :: r, _, h => by
    cases h with
    | cons a b =>
      cases a
      rw [ints_are b]
      rfl
theorem dpAll_rep2 {K : PySem.W.Frag} {H : Hp} {d : PyData} {v : V} (h : Dp K H v d) : ∀ {m : Nat}, DpAll K H ((List.range m).map fun _ => v) (List.replicate m d) := fun {m} => by
  rw [List.map_const', List.length_range]
  induction m with
  | zero => exact .nil
  | succ m ih => exact .cons h ih
theorem lk_dW {l : List (Int × Int)} {m : Nat} (h : l.length ≤ 1000) : Lk (m + 3) (.list (dW l)) := by
  refine ⟨by unfold dW; rw [List.length_map]; omega, fun d hd => ?_⟩
  obtain ⟨z, _, rfl⟩ := List.mem_map.mp hd
  refine ⟨Nat.le_of_ble_eq_true rfl, fun d hd => ?_⟩
  simp only [List.mem_cons, List.not_mem_nil, or_false] at hd
  rcases hd with rfl | rfl
  · trivial
  · trivial
def BdM (f : List Int) : Prop := 0 < f.length ∧ f.length ≤ 96 ∧ ∀ i, i < f.length → 0 ≤ f.getD i 0 ∧ f.getD i 0 ≤ 10000
theorem bd_of {n : Nat} {f : List Int} (h : OkF n f) (n0 : 1 ≤ n) (n1 : n ≤ 96) : BdM f := by
  obtain ⟨rfl, p⟩ := h
  refine ⟨n0, n1, fun i hi => ?_⟩
  have := p i hi
  omega
theorem bd_joined {n : Nat} {f g : List Int} (h : OkF n f) (h2 : OkF n g) (n0 : 1 ≤ n) (n1 : n ≤ 96) : BdM (f.map (readM g)) := by
  obtain ⟨lf, p⟩ := h
  obtain ⟨lg, p2⟩ := h2
  refine ⟨by rw [List.length_map]; omega, by rw [List.length_map]; omega, fun i hi => ?_⟩
  rw [List.length_map] at hi
  have e : (f.map (readM g)).getD i 0 = readM g (f.getD i 0) := by
    rw [List.getD_eq_getElem?_getD, List.getD_eq_getElem?_getD, List.getElem?_map, List.getElem?_eq_getElem hi]
    rfl
  rw [e]
  have a := p i (by omega)
  generalize f.getD i 0 = t at a
  have hn : (0 : Int) < g.length := by omega
  obtain ⟨m0, m1⟩ := mod_in (t := t) hn
  have b := p2 (t % g.length).toNat (by omega)
  have c := Int.emod_add_mul_ediv t g.length
  rw [Int.mul_comm] at c
  have d : 0 ≤ t / (g.length : Int) * g.length := Int.mul_nonneg (Int.ediv_nonneg a.1 (by omega)) (by omega)
  unfold readM
  constructor <;> omega
theorem bd_lower {n : Nat} {f g : List Int} (h : OkF n f) (h2 : OkF n g) (n0 : 1 ≤ n) (n1 : n ≤ 96) : BdM ((List.range f.length).map fun i => if g.getD i 0 < f.getD i 0 then g.getD i 0 else f.getD i 0) := by
  obtain ⟨lf, p⟩ := h
  obtain ⟨lg, p2⟩ := h2
  refine ⟨by rw [List.length_map, List.length_range]; omega, by rw [List.length_map, List.length_range]; omega, fun i hi => ?_⟩
  rw [List.length_map, List.length_range] at hi
  have e : ((List.range f.length).map fun i => if g.getD i 0 < f.getD i 0 then g.getD i 0 else f.getD i 0).getD i 0 = if g.getD i 0 < f.getD i 0 then g.getD i 0 else f.getD i 0 := by
    rw [List.getD_eq_getElem?_getD, List.getElem?_map, List.getElem?_range hi]
    rfl
  rw [e]
  have a := p i (by omega)
  have b := p2 i (by omega)
  split <;> omega
end Fb

set_option Elab.async false
set_option linter.all false
set_option maxRecDepth 100000
set_option maxHeartbeats 4000000
/-! sorted of data, out of a list or a tuple -/
namespace PySem.W
open PySem PyProof.Rows
section
variable {prog : Program} {w : World} {A : Around} {E : Value → Shared → Prop} {s : Shared}
theorem fb_collect {T : String} (hT : T = "list" ∨ T = "tuple") {l : Addr} {o : Obj} {vs : List Value} {n : Nat} {Q : List Value → Shared → Prop} (g : s.heap.get? l = some o) (c : o.cls = .type T) (d : o.data = .seq vs.toArray n)
    (q : Q vs { s with heap := (s.heap.push (seqObj "list" #[] 0)).update s.heap.objs.size (Obj.mapSeq (· ++ vs.toArray)) }) (z : vs.length ≤ sizeLine) :
    wpAny (model prog w) A (collect (.ref l)) Q E s := by
  unfold collect
  refine wpAny_bind (wpAny_runValue (codeAny_builtin entry_proto_collect' ?_))
  show wpAny _ _ (newList [] >>= fun l1 => again (.builtin "list.__iadd__" ⟨[l1, .ref l], []⟩)) _ _ s
  refine wpAny_bind (wpAny_newList ?_)
  refine wpAny_pure ⟨Code.quiet_builtin _ (by decide +kernel), codeAny_builtin entry_list_iadd' ?_⟩
  show wpAny _ _ (Builtin.List.listExtendWith (.ref s.heap.objs.size) (.ref l) (.ref s.heap.objs.size)) _ _ { heap := s.heap.push (seqObj "list" #[] 0), gens := s.gens, drawn := s.drawn, toks := s.toks, os := s.os }
  unfold Builtin.List.listExtendWith
  have g' : (s.heap.push (seqObj "list" #[] 0)).get? l = some o := Heap.get?_push_of_some _ g
  refine wpAny_bind (wpAny_typeOf (T := T) ⟨o, g', c⟩ ?_)
  have ht : (Value.type T == Value.type "list" || Value.type T == Value.type "tuple") = true := by
    rcases hT with rfl | rfl <;> rfl
  rw [if_pos (by rcases hT with rfl | rfl <;> simp)]
  refine wpAny_bind (listItems_at g' d ?_)
  refine wpAny_bind (listItems_at (n := 0) (xs := #[]) (Heap.get?_push_size _ rfl) rfl ?_)
  rw [if_neg (show ¬ _ by simp)]
  have room : (#[] ++ vs.toArray).size ≤ sizeLine + 1 := by
    rw [Array.size_append, List.size_toArray]
    show 0 + vs.length ≤ _
    omega
  refine wpAny_bind (listUpdate_at (n := 0) (xs := #[]) (Heap.get?_push_size _ rfl) rfl ?_ (Nat.zero_le _) room)
  refine wpAny_pure ?_
  show wpAny (model prog w) A (load s.heap.objs.size >>= _) Q E { s with heap := (s.heap.push (seqObj "list" #[] 0)).update s.heap.objs.size (Obj.mapSeq (· ++ vs.toArray)) }
  refine wpAny_bind (wpAny_load (get?_update_seq (Heap.get?_push_size _ rfl) _) ?_)
  show wpAny _ _ (pure (#[] ++ vs.toArray : Array Value).toList) Q E _
  have e : (#[] ++ vs.toArray : Array Value).toList = vs := by simp
  rw [e]
  exact wpAny_pure q
theorem fb_sort {T : String} (hT : T = "list" ∨ T = "tuple") {l : Addr} {o : Obj} {vs : List Value} {n : Nat} {Q : Value → Shared → Prop} (g : s.heap.get? l = some o) (c : o.cls = .type T) (d : o.data = .seq vs.toArray n) (z : vs.length ≤ sizeLine)
    (body : ∀ E' : Value → Shared → Prop, wpAny (model prog w) A.in1.in1 (Builtin.«list.sort» ⟨[.ref (s.heap.objs.size + 1)], []⟩) (fun f s' => f = .done (.ret .none) ∧ Q (.ref (s.heap.objs.size + 1)) s') E' { s with heap := copyHeap s.heap vs }) :
    wpAny (model prog w) A (call (.builtin "sorted") [.ref l]) Q E s := by
  refine call_function_entry_kw kind_sorted plain_sorted entry_sorted (args_sorted1 _) ?_
  unfold Builtin.«sorted»
  refine wpAny_bind (m := checkCount "sorted" 1 1 _) (wpAny_pure ?_)
  refine wpAny_bind (fb_collect hT g c d ?_ z)
  refine wpAny_bind (wpAny_newList ?_ z)
  have sz : ((s.heap.push (seqObj "list" #[] 0)).update s.heap.objs.size (Obj.mapSeq (· ++ vs.toArray))).objs.size = s.heap.objs.size + 1 := (Heap.size_update ..).trans (size_push' ..)
  show wpAny _ _ _ _ _ { heap := copyHeap s.heap vs, gens := s.gens, drawn := s.drawn, toks := s.toks, os := s.os }
  rw [sz]
  refine wpAny_bind (wpAny_holding (wpAny_call_entry_kw slot_list_sort ⟨_, copyHeap_at s.heap vs, rfl⟩ entry_list_sort ?_ (args_list_sort _)))
  refine wpAny_mono (body _) ?_ fun _ _ e => e
  rintro f s' ⟨rfl, hq⟩
  exact ⟨_, rfl, wpAny_pure ⟨_, rfl, hq⟩⟩
theorem fb_sorted {β : Type} {R : Value → β → Prop} {enc : β → PyData} {bs : List β} {T : String} (hT : T = "list" ∨ T = "tuple") {l : Addr} {o : Obj} {vs : List Value} {n : Nat} {Q : Value → Shared → Prop} (g : s.heap.get? l = some o) (c : o.cls = .type T) (d : o.data = .seq vs.toArray n)
    (e : EachIs R vs bs) (er : EachIs (fun v b => ∃ as, Reads s.heap v (enc b) as) vs bs) (al : AllAlike (bs.map enc)) (so : Sortable (bs.map enc)) (z : bs.length ≤ sizeLine) (hu : ∀ b, b ∈ bs → A.units + 2 + (enc b).depth < cLine)
    (h : ∀ out, out.length = bs.length → EachIs R out (bs.mergeSort (dataLe false enc)) → Q (.ref (s.heap.objs.size + 1)) { s with heap := sortedAll s.heap vs (List.toArray out) }) :
    wpAny (model prog w) A (call (.builtin "sorted") [.ref l]) Q E s := by
  have er2 : EachIs (fun v b => ∃ as, Reads (sortingHeap (copyHeap s.heap vs) (s.heap.objs.size + 1) vs) v (enc b) as) vs bs := by
    refine er.mono ?_
    rintro v b ⟨as, r⟩
    exact ⟨as, PyProof.Rows.Reads.keeps (fun _ _ => sorting_copy_old) r⟩
  have zl : vs.length ≤ sizeLine := by
    rw [e.length]
    exact z
  refine fb_sort hT g c d zl fun E' => ?_
  refine list_sort_vals (s := { s with heap := copyHeap s.heap vs }) (copyHeap_at s.heap vs) (SortsAt.data (s := { s with heap := sortingHeap (copyHeap s.heap vs) (s.heap.objs.size + 1) vs }) (each_map (R := fun v d => ∃ as, Reads (sortingHeap (copyHeap s.heap vs) (s.heap.objs.size + 1) vs) v d as) enc er2) al so (bound_map hu)) zl ⟨rfl, ?_⟩
  refine h _ ?_ (sortVals_data false e er2 al)
  rw [sortVals_length false rfl]
  exact e.length
end
end PySem.W
namespace Fb
open PySem PySem.Spec L2
open PyProof.Rows hiding St
/-- values and what they read as, sorted -/
abbrev sortD (zs : List (V × PyData)) : List (V × PyData) := zs.mergeSort (PySem.W.dataLe false Prod.snd)
def rSortD (K : PySem.W.Frag) : List V → Hp → VK → Prop := fun vs H Q => ∃ (a : Addr) (zs : List (V × PyData)), vs = [.ref a] ∧ (SqL K H a (zs.map Prod.fst) ∨ SqT K H a (zs.map Prod.fst)) ∧ (∀ z ∈ zs, Dp K H z.1 z.2 ∧ z.2.depth ≤ 60) ∧
  PySem.W.AllAlike (zs.map Prod.snd) ∧ PySem.W.Sortable (zs.map Prod.snd) ∧ ∀ p, H p = none → Q (.ref p) (upd H p (.lst ((sortD zs).map Prod.fst)))
theorem each_vals : ∀ {zs : List (V × PyData)} {us : List Value}, Vals (zs.map Prod.fst) us → PySem.W.EachIs (fun u (z : V × PyData) => RelV z.1 u) us zs
  | [], _, h => by
    cases h
    exact .nil
  | z :: r, _, h => by
    cases h with
    | cons a b => exact .cons a (each_vals b)
theorem vals_each : ∀ {zs : List (V × PyData)} {us : List Value}, PySem.W.EachIs (fun u (z : V × PyData) => RelV z.1 u) us zs → Vals (zs.map Prod.fst) us
  | _, _, .nil => .nil
  | _, _, .cons a b => .cons a (vals_each b)
theorem each_reads {X : Cx} {pins : List (Addr × Obj)} {σ : L2.St} {H : Hp} {s : Shared} (I : Inv X pins σ H s) : ∀ {zs : List (V × PyData)} {us : List Value}, Vals (zs.map Prod.fst) us → (∀ z ∈ zs, Dp X.K H z.1 z.2) → PySem.W.EachIs (fun u (z : V × PyData) => ∃ as, Reads s.heap u z.2 as) us zs
  | [], _, h, _ => by
    cases h
    exact .nil
  | z :: r, _, h, hd => by
    cases h with
    | cons a b => exact .cons (Dp.reads I z.2 z.1 _ (hd z (List.mem_cons_self ..)) a) (each_reads I b fun x hx => hd x (List.mem_cons_of_mem _ hx))
theorem cr_sortD {X : Cx} {k : Nat} (hr : Room k X.A) : CallR X (.builtin "sorted") (rSortD X.K) := by
  rintro pins s σ H vs us Q I r ⟨a, zs, rfl, hs, hd, al, so, q⟩
  have hu := hr.units
  rw [Vals.ref1 r]
  have fin : ∀ {T : String} (hT : T = "list" ∨ T = "tuple") {o : Obj} {its : List Value} {n : Nat}, s.heap.get? a = some o → o.cls = .type T → o.data = .seq its.toArray n → Vals (zs.map Prod.fst) its → (zs.map Prod.fst).length ≤ sizeLine →
      wpAny (model X.prog X.w) X.A (call (.builtin "sorted") [.ref a]) (EP X pins σ Q) X.xe s := by
    intro T hT o its n g c d rv hz
    rw [List.length_map] at hz
    refine PySem.W.fb_sorted hT g c d (each_vals rv) (each_reads I rv fun z m => (hd z m).1) al so hz (fun z m => ?_) fun out lo eo => ?_
    · have := (hd z m).2
      omega
    · obtain ⟨ep, he⟩ := PyProof.Rows.sortedAll_at s.heap its out.toArray
      have len : ((sortD zs).map Prod.fst).length ≤ sizeLine := by
        rw [List.length_map, List.length_mergeSort]
        exact hz
      exact ⟨.ref _, upd H (s.heap.objs.size + 1) (.lst ((sortD zs).map Prod.fst)), I.laid (t' := s.toks) (fun _ _ => PyProof.Rows.sortedAll_old) (Nat.le_succ _) ⟨len, out, ep, vals_each eo, he⟩, rfl, q _ (I.hok.fresh (Nat.le_succ _))⟩
  rcases hs with hs | hs
  · obtain ⟨its, rv, hl, hz⟩ := I.list hs
    obtain ⟨o, g, c, n, d⟩ := hl.isList
    exact fin (.inl rfl) g c d rv hz
  · obtain ⟨its, rv, hl, hz⟩ := I.tuple hs
    obtain ⟨o, g, c, n, d⟩ := hl
    exact fin (.inr rfl) g c d rv hz
end Fb

set_option Elab.async false
set_option linter.all false
set_option maxRecDepth 100000
set_option maxHeartbeats 4000000
/-! lines: which of them alone are least on a stretch -/
namespace Fb
abbrev Ln := Int × Int
/-- read at the setting n / d, times d -/
def vA (l : Ln) (n d : Int) : Int := l.1 * d + l.2 * n
def nevM (x y z : Ln) : Bool := decide ((z.1 - y.1) * (x.2 - y.2) ≤ (y.1 - x.1) * (y.2 - z.2))
def blwM (l o : Ln) (s : Int) : Bool := decide (l.1 + l.2 * s < o.1 + o.2 * s)
/-- x stands before y: a rises, b falls -/
def Bf (x y : Ln) : Prop := x.1 < y.1 ∧ y.2 < x.2
theorem Bf.trans {x y z : Ln} (h : Bf x y) (k : Bf y z) : Bf x z := ⟨Int.lt_trans h.1 k.1, Int.lt_trans k.2 h.2⟩
def popM (l : Ln) : List Ln → List Ln
  | y :: x :: r => if nevM x y l = true then popM l (x :: r) else y :: x :: r
  | r => r
def addM (top : Int) (l : Ln) (R : List Ln) : List Ln := match popM l R with
  | [] => [l]
  | y :: r => if blwM l y top = true then l :: y :: r else y :: r
def lowM (top : Int) (rows : List Ln) : List Ln := (rows.foldl (fun R l => addM top l R) []).reverse
/-- what is kept, the last one first -/
def Good (top : Int) : List Ln → Prop
  | y :: x :: r => Bf x y ∧ blwM y x top = true ∧ (∀ w r', r = w :: r' → nevM w x y = false) ∧ Good top (x :: r)
  | _ => True
theorem Good.tail {top : Int} {y : Ln} : ∀ {r : List Ln}, Good top (y :: r) → Good top r
  | [], _ => trivial
  | _ :: _, h => h.2.2.2
theorem pop_sub {l : Ln} : ∀ {R : List Ln}, ∀ q ∈ popM l R, q ∈ R
  | [], q, h => h
  | [_], q, h => h
  | y :: x :: r, q, h => by
    unfold popM at h
    by_cases e : nevM x y l = true
    · rw [if_pos e] at h
      exact List.mem_cons_of_mem _ (pop_sub q h)
    · rw [if_neg e] at h
      exact h
theorem pop_good {top : Int} {l : Ln} : ∀ {R : List Ln}, Good top R → Good top (popM l R)
  | [], h => h
  | [_], h => h
  | y :: x :: r, h => by
    unfold popM
    by_cases e : nevM x y l = true
    · rw [if_pos e]
      exact pop_good h.tail
    · rw [if_neg e]
      exact h
theorem pop_top {l y x : Ln} {r : List Ln} : ∀ {R : List Ln}, popM l R = y :: x :: r → nevM x y l = false
  | [], h => by cases h
  | [_], h => by cases h
  | b :: a :: s, h => by
    unfold popM at h
    by_cases e : nevM a b l = true
    · rw [if_pos e] at h
      exact pop_top h
    · rw [if_neg e] at h
      cases h
      cases q : nevM x y l with
      | false => rfl
      | true => exact absurd q e
theorem pop_ne {l : Ln} : ∀ {R : List Ln}, R ≠ [] → popM l R ≠ []
  | [], h, _ => h rfl
  | [_], _, e => by cases e
  | y :: x :: r, _, e => by
    unfold popM at e
    by_cases q : nevM x y l = true
    · rw [if_pos q] at e
      exact pop_ne (List.cons_ne_nil _ _) e
    · rw [if_neg q] at e
      cases e
/-- a line that is nowhere alone least: one of its neighbours is no greater -/
theorem nev_cover {x y z : Ln} {n d : Int} (h : nevM x y z = true) (xy : Bf x y) (yz : Bf y z) (hd : 0 < d) : vA x n d ≤ vA y n d ∨ vA z n d ≤ vA y n d := by
  have h := of_decide_eq_true h
  obtain ⟨a1, b1⟩ := xy
  obtain ⟨a2, b2⟩ := yz
  by_cases c : vA x n d ≤ vA y n d
  · exact .inl c
  · refine .inr ?_
    by_cases e : vA z n d ≤ vA y n d
    · exact e
    · exfalso
      unfold vA at c e
      have c1 : 0 < (x.2 - y.2) * n - (y.1 - x.1) * d := by grind
      have e1 : 0 < (z.1 - y.1) * d - (y.2 - z.2) * n := by grind
      have m1 := Int.mul_pos c1 (show 0 < y.2 - z.2 by omega)
      have m2 := Int.mul_pos e1 (show 0 < x.2 - y.2 by omega)
      have m3 := Int.mul_le_mul_of_nonneg_right h (Int.le_of_lt hd)
      grind
theorem pop_cover {l : Ln} {n d : Int} (hd : 0 < d) {top : Int} : ∀ {R : List Ln}, Good top R → (∀ y ∈ R, Bf y l) → ∀ q ∈ R, ∃ t, (t = l ∨ t ∈ popM l R) ∧ vA t n d ≤ vA q n d
  | [], _, _, q, h => by cases h
  | [_], _, _, q, h => ⟨q, .inr h, Int.le_refl _⟩
  | y :: x :: r, g, hb, q, h => by
    unfold popM
    by_cases e : nevM x y l = true
    · rw [if_pos e]
      have ih := pop_cover (l := l) (n := n) hd g.tail (fun z hz => hb z (List.mem_cons_of_mem _ hz))
      rcases List.mem_cons.mp h with rfl | h
      · rcases nev_cover (n := n) e g.1 (hb _ (List.mem_cons_self ..)) hd with c | c
        · obtain ⟨t, ht, le⟩ := ih x (List.mem_cons_self ..)
          exact ⟨t, ht, Int.le_trans le c⟩
        · exact ⟨l, .inl rfl, c⟩
      · exact ih q h
    · rw [if_neg e]
      exact ⟨q, .inr h, Int.le_refl _⟩
theorem not_below {l y : Ln} {top n d : Int} (h : blwM l y top = false) (b : Bf y l) (hd : 0 < d) (h2 : n ≤ top * d) : vA y n d ≤ vA l n d := by
  have h : ¬ l.1 + l.2 * top < y.1 + y.2 * top := of_decide_eq_false h
  obtain ⟨a1, b1⟩ := b
  unfold vA
  have m1 := Int.mul_le_mul_of_nonneg_right (show y.1 + y.2 * top ≤ l.1 + l.2 * top by omega) (Int.le_of_lt hd)
  have m2 := Int.mul_le_mul_of_nonneg_left h2 (show 0 ≤ y.2 - l.2 by omega)
  grind
theorem add_sub {top : Int} {l : Ln} {R : List Ln} : ∀ q ∈ addM top l R, q = l ∨ q ∈ R := by
  intro q h
  unfold addM at h
  cases e : popM l R with
  | nil =>
    rw [e] at h
    exact .inl (List.mem_singleton.mp h)
  | cons y r =>
    rw [e] at h
    have s := fun x hx => pop_sub (l := l) (R := R) x (by rw [e]; exact hx)
    by_cases b : blwM l y top = true
    · have h : q ∈ (if blwM l y top = true then l :: y :: r else y :: r) := h
      rw [if_pos b] at h
      rcases List.mem_cons.mp h with h | h
      · exact .inl h
      · exact .inr (s q h)
    · have h : q ∈ (if blwM l y top = true then l :: y :: r else y :: r) := h
      rw [if_neg b] at h
      exact .inr (s q h)
theorem add_good {top : Int} {l : Ln} {R : List Ln} (g : Good top R) (hb : ∀ y ∈ R, Bf y l) : Good top (addM top l R) := by
  unfold addM
  have pg := pop_good (l := l) g
  cases e : popM l R with
  | nil => exact trivial
  | cons y r =>
    rw [e] at pg
    show Good top (if blwM l y top = true then l :: y :: r else y :: r)
    by_cases b : blwM l y top = true
    · rw [if_pos b]
      refine ⟨hb y (pop_sub y (by rw [e]; exact List.mem_cons_self ..)), b, ?_, pg⟩
      rintro w r' rfl
      exact pop_top e
    · rw [if_neg b]
      exact pg
theorem add_cover {top : Int} {l : Ln} {R : List Ln} {n d : Int} (g : Good top R) (hb : ∀ y ∈ R, Bf y l) (hd : 0 < d) (h2 : n ≤ top * d) : ∀ q, (q = l ∨ q ∈ R) → ∃ t ∈ addM top l R, vA t n d ≤ vA q n d := by
  have lc : ∃ t ∈ addM top l R, vA t n d ≤ vA l n d := by
    unfold addM
    cases e : popM l R with
    | nil => exact ⟨l, List.mem_singleton.mpr rfl, Int.le_refl _⟩
    | cons y r =>
      show ∃ t ∈ (if blwM l y top = true then l :: y :: r else y :: r), _
      cases b : blwM l y top with
      | true => exact ⟨l, List.mem_cons_self .., Int.le_refl _⟩
      | false => exact ⟨y, List.mem_cons_self .., not_below b (hb y (pop_sub y (by rw [e]; exact List.mem_cons_self ..))) hd h2⟩
  have pc : ∀ q ∈ popM l R, q ∈ addM top l R := by
    intro q h
    unfold addM
    cases e : popM l R with
    | nil =>
      rw [e] at h
      cases h
    | cons y r =>
      rw [e] at h
      show q ∈ (if blwM l y top = true then l :: y :: r else y :: r)
      cases b : blwM l y top with
      | true => exact List.mem_cons_of_mem _ h
      | false => exact h
  rintro q (rfl | h)
  · exact lc
  · obtain ⟨t, ht, le⟩ := pop_cover (l := l) (n := n) hd g hb q h
    rcases ht with rfl | ht
    · obtain ⟨u, hu, le2⟩ := lc
      exact ⟨u, hu, Int.le_trans le2 le⟩
    · exact ⟨t, pc t ht, le⟩
/-- rows in their order: a rises, b falls -/
def Rows (rows : List Ln) : Prop := rows.Pairwise Bf
theorem fold_ok {top : Int} : ∀ (rows R done : List Ln), Rows rows → (∀ y ∈ done, ∀ l ∈ rows, Bf y l) → (∀ y ∈ R, y ∈ done) → Good top R → (∀ n d, 0 < d → n ≤ top * d → ∀ q ∈ done, ∃ t ∈ R, vA t n d ≤ vA q n d) →
    (∀ y ∈ rows.foldl (fun R l => addM top l R) R, y ∈ done ∨ y ∈ rows) ∧ Good top (rows.foldl (fun R l => addM top l R) R) ∧
    ∀ n d, 0 < d → n ≤ top * d → ∀ q, (q ∈ done ∨ q ∈ rows) → ∃ t ∈ rows.foldl (fun R l => addM top l R) R, vA t n d ≤ vA q n d
  | [], R, done, _, _, sub, g, c => ⟨fun y hy => .inl (sub y hy), g, fun n d hd h2 q hq => by
      rcases hq with hq | hq
      · exact c n d hd h2 q hq
      · cases hq⟩
  | l :: rows, R, done, hr, hb, sub, g, c => by
    have hr := List.pairwise_cons.mp hr
    have hl : ∀ y ∈ R, Bf y l := fun y hy => hb y (sub y hy) l (List.mem_cons_self ..)
    obtain ⟨i1, i2, i3⟩ := fold_ok rows (addM top l R) (l :: done) hr.2
      (fun y hy m hm => by
        rcases List.mem_cons.mp hy with rfl | hy
        · exact hr.1 m hm
        · exact hb y hy m (List.mem_cons_of_mem _ hm))
      (fun y hy => by
        rcases add_sub y hy with rfl | hy
        · exact List.mem_cons_self ..
        · exact List.mem_cons_of_mem _ (sub y hy))
      (add_good g hl)
      (fun n d hd h2 q hq => by
        rcases List.mem_cons.mp hq with rfl | hq
        · exact add_cover g hl hd h2 q (.inl rfl)
        · obtain ⟨t, ht, le⟩ := c n d hd h2 q hq
          obtain ⟨u, hu, le2⟩ := add_cover (n := n) g hl hd h2 t (.inr ht)
          exact ⟨u, hu, Int.le_trans le2 le⟩)
    refine ⟨fun y hy => ?_, i2, fun n d hd h2 q hq => ?_⟩
    · rcases i1 y hy with h | h
      · rcases List.mem_cons.mp h with rfl | h
        · exact .inr (List.mem_cons_self ..)
        · exact .inl h
      · exact .inr (List.mem_cons_of_mem _ h)
    · rcases hq with hq | hq
      · exact i3 n d hd h2 q (.inl (List.mem_cons_of_mem _ hq))
      · rcases List.mem_cons.mp hq with rfl | hq
        · exact i3 n d hd h2 q (.inl (List.mem_cons_self ..))
        · exact i3 n d hd h2 q (.inr hq)
/-- the lowest lines: of the rows, in their chain, and nowhere above a row -/
theorem low_ok {top : Int} {rows : List Ln} (hr : Rows rows) : (∀ y ∈ lowM top rows, y ∈ rows) ∧ Good top (lowM top rows).reverse ∧ ∀ n d, 0 < d → n ≤ top * d → ∀ q ∈ rows, ∃ t ∈ lowM top rows, vA t n d ≤ vA q n d := by
  obtain ⟨h1, h2, h3⟩ := fold_ok (top := top) rows [] [] hr (fun y hy => by cases hy) (fun y hy => by cases hy) trivial (fun n d _ _ q hq => by cases hq)
  unfold lowM
  refine ⟨fun y hy => ?_, by rw [List.reverse_reverse]; exact h2, fun n d hd hn q hq => ?_⟩
  · rcases h1 y (List.mem_reverse.mp hy) with h | h
    · cases h
    · exact h
  · obtain ⟨t, ht, le⟩ := h3 n d hd hn q (.inr hq)
    exact ⟨t, List.mem_reverse.mpr ht, le⟩
theorem low_ne {top : Int} {l : Ln} {rows : List Ln} (hr : Rows (l :: rows)) : lowM top (l :: rows) ≠ [] := by
  intro e
  by_cases h : 0 ≤ top
  · obtain ⟨t, ht, _⟩ := (low_ok (top := top) hr).2.2 0 1 (by decide) (by omega) l (List.mem_cons_self ..)
    rw [e] at ht
    cases ht
  · obtain ⟨t, ht, _⟩ := (low_ok (top := top) hr).2.2 top 1 (by decide) (by omega) l (List.mem_cons_self ..)
    rw [e] at ht
    cases ht
/-! ### alone least -/
theorem nev_lt {s t u : Ln} (h : nevM s t u = false) : (t.1 - s.1) * (t.2 - u.2) < (u.1 - t.1) * (s.2 - t.2) := Int.not_le.mp (of_decide_eq_false h)
theorem blw_lt {l o : Ln} {s : Int} (h : blwM l o s = true) : l.1 + l.2 * s < o.1 + o.2 * s := of_decide_eq_true h
/-- behind the meeting with s, t loses to u later than it wins against s -/
theorem vA_up {s t u : Ln} {n d : Int} (st : Bf s t) (tu : Bf t u) (h : nevM s t u = false) (hd : 0 < d) (k : vA s n d < vA t n d) : vA t n d < vA u n d := by
  have h := nev_lt h
  obtain ⟨a1, b1⟩ := st
  obtain ⟨a2, b2⟩ := tu
  unfold vA at k ⊢
  have k1 : (s.2 - t.2) * n < (t.1 - s.1) * d := by grind
  have m1 := Int.mul_lt_mul_of_pos_left k1 (show 0 < t.2 - u.2 by omega)
  have m2 := Int.mul_lt_mul_of_pos_right h hd
  have m3 : (s.2 - t.2) * ((t.2 - u.2) * n) < (s.2 - t.2) * ((u.1 - t.1) * d) := by grind
  have m4 := Int.lt_of_mul_lt_mul_left m3 (show 0 ≤ s.2 - t.2 by omega)
  grind
theorem vA_down {s t u : Ln} {n d : Int} (st : Bf s t) (tu : Bf t u) (h : nevM s t u = false) (hd : 0 < d) (k : vA u n d < vA t n d) : vA t n d < vA s n d := by
  have h := nev_lt h
  obtain ⟨a1, b1⟩ := st
  obtain ⟨a2, b2⟩ := tu
  unfold vA at k ⊢
  have k1 : (u.1 - t.1) * d < (t.2 - u.2) * n := by grind
  have m1 := Int.mul_lt_mul_of_pos_left k1 (show 0 < s.2 - t.2 by omega)
  have m2 := Int.mul_lt_mul_of_pos_right h hd
  have m3 : (t.2 - u.2) * ((t.1 - s.1) * d) < (t.2 - u.2) * ((s.2 - t.2) * n) := by grind
  have m4 := Int.lt_of_mul_lt_mul_left m3 (show 0 ≤ t.2 - u.2 by omega)
  grind
theorem chain_down {top n d : Int} (hd : 0 < d) : ∀ {suf : List Ln} {t : Ln}, Good top (t :: suf) → (∀ s r, suf = s :: r → vA t n d < vA s n d) → ∀ z ∈ suf, vA t n d < vA z n d
  | [], _, _, _, z, h => by cases h
  | s :: r, t, g, k, z, h => by
    have h1 := k s r rfl
    rcases List.mem_cons.mp h with rfl | h
    · exact h1
    · have ih := chain_down hd (suf := r) (t := s) g.tail (fun w r' e => by
        subst e
        have g2 := g.tail
        exact vA_down g2.1 g.1 (g.2.2.1 w r' rfl) hd h1) z h
      exact Int.lt_trans h1 ih
theorem good_at {top : Int} : ∀ {pre : List Ln} {t : Ln} {suf : List Ln}, Good top (pre ++ t :: suf) → Good top (t :: suf)
  | [], _, _, g => g
  | _ :: pre, _, _, g => good_at (pre := pre) g.tail
theorem chain_up {top n d : Int} (hd : 0 < d) : ∀ {pre : List Ln} {t : Ln} {suf : List Ln}, Good top (pre ++ t :: suf) → (∀ u p, pre = p ++ [u] → vA t n d < vA u n d) →
    (∀ y p, pre = y :: p → ∀ x r, p ++ t :: suf = x :: r → vA x n d < vA y n d) ∧ ∀ z ∈ pre, vA t n d < vA z n d
  | [], _, _, _, _ => ⟨fun y p e => (by cases e), fun z h => by cases h⟩
  | [y], t, suf, g, k => by
    have h := k y [] rfl
    refine ⟨fun y' p e x r e2 => ?_, fun z hz => ?_⟩
    · cases e
      cases e2
      exact h
    · cases List.mem_singleton.mp hz
      exact h
  | y :: y2 :: p, t, suf, g, k => by
    obtain ⟨i1, i2⟩ := chain_up hd (pre := y2 :: p) (t := t) (suf := suf) g.tail (fun u q e => k u (y :: q) (by rw [e]; rfl))
    have key : vA y2 n d < vA y n d := by
      have g : Good top (y :: y2 :: (p ++ t :: suf)) := g
      cases e : p ++ t :: suf with
      | nil => cases p <;> cases e
      | cons x r =>
        rw [e] at g
        have h1 := i1 y2 p rfl x r e
        exact vA_up g.tail.1 g.1 (g.2.2.1 x r rfl) hd h1
    refine ⟨fun y' p' e x r e2 => ?_, fun z hz => ?_⟩
    · cases e
      cases e2
      exact key
    · rcases List.mem_cons.mp hz with rfl | hz
      · exact Int.lt_trans (i2 y2 (List.mem_cons_self ..)) key
      · exact i2 z hz
/-- the settings of the law, as whole places over F -/
structure Places (rays : List Ln) (roof F : Int) (ps : List Int) : Prop where
  fp : 0 < F
  up : ps.Pairwise (· < ·)
  m0 : 0 ∈ ps
  mr : roof * F ∈ ps
  inn : ∀ x ∈ ps, 0 ≤ x ∧ x ≤ roof * F
  cross : ∀ l ∈ rays, ∀ u ∈ rays, Bf l u → u.1 - l.1 < roof * (l.2 - u.2) → ∃ x ∈ ps, x * (l.2 - u.2) = (u.1 - l.1) * F
theorem next_at {a b : Int} : ∀ {ps : List Int}, ps.Pairwise (· < ·) → a ∈ ps → b ∈ ps → a < b → ∃ k, k + 1 < ps.length ∧ ps.getD k 0 = a ∧ ps.getD (k + 1) 0 ≤ b ∧ a < ps.getD (k + 1) 0 ∧ ∀ x ∈ ps, ¬ (a < x ∧ x < ps.getD (k + 1) 0)
  | [], _, h, _, _ => by cases h
  | c :: ps, hp, ha, hb, lt => by
    have hp := List.pairwise_cons.mp hp
    rcases List.mem_cons.mp ha with rfl | ha
    · rcases List.mem_cons.mp hb with rfl | hb
      · omega
      · cases ps with
        | nil => cases hb
        | cons e r =>
          have h2 := List.pairwise_cons.mp hp.2
          refine ⟨0, by show 1 < r.length + 1 + 1; omega, rfl, ?_, hp.1 e (List.mem_cons_self ..), fun x hx hh => ?_⟩
          · rcases List.mem_cons.mp hb with rfl | hb
            · exact Int.le_refl _
            · exact Int.le_of_lt (h2.1 b hb)
          · have hh2 : x < e := hh.2
            rcases List.mem_cons.mp hx with rfl | hx
            · omega
            · rcases List.mem_cons.mp hx with rfl | hx
              · omega
              · have := h2.1 x hx
                omega
    · have ca := hp.1 a ha
      have hb : b ∈ ps := by
        rcases List.mem_cons.mp hb with rfl | hb
        · omega
        · exact hb
      obtain ⟨k, h1, h2, h3, h4, h5⟩ := next_at hp.2 ha hb lt
      refine ⟨k + 1, by show k + 1 + 1 < ps.length + 1; omega, h2, h3, h4, fun x hx hh => ?_⟩
      rcases List.mem_cons.mp hx with rfl | hx
      · omega
      · exact h5 x hx hh
theorem alone {rays R : List Ln} {roof F : Int} {qs : List Int} (P : Places rays roof F qs) (hr : 0 < roof) (g : Good roof R) (sub : ∀ t ∈ R, t ∈ rays) (cov : ∀ n d, 0 ≤ n → 0 < d → n ≤ roof * d → ∀ q ∈ rays, ∃ t ∈ R, vA t n d ≤ vA q n d) {t : Ln} (ht : t ∈ R) :
    ∃ k, k + 1 < qs.length ∧ ∀ z ∈ rays, z ≠ t → vA t (qs.getD k 0 + qs.getD (k + 1) 0) (F * 2) < vA z (qs.getD k 0 + qs.getD (k + 1) 0) (F * 2) := by
  obtain ⟨pre, suf, rfl⟩ := List.append_of_mem ht
  have F0 := P.fp
  have gt := good_at g
  have tr := sub t ht
  -- where t wins
  obtain ⟨lo, hlo, l0, lz, l1⟩ : ∃ lo ∈ qs, 0 ≤ lo ∧ (suf = [] → lo = 0) ∧ ∀ s r, suf = s :: r → lo * (s.2 - t.2) = (t.1 - s.1) * F ∧ Bf s t := by
    cases suf with
    | nil => exact ⟨0, P.m0, Int.le_refl _, fun _ => rfl, fun s r e => by cases e⟩
    | cons s r =>
      have b := blw_lt gt.2.1
      have bs : Bf s t := gt.1
      obtain ⟨x, hx, ex⟩ := P.cross s (sub s (by simp)) t (sub t (by simp)) bs (by grind)
      refine ⟨x, hx, (P.inn x hx).1, (fun e => by cases e), fun s' r' e => ?_⟩
      cases e
      exact ⟨ex, bs⟩
  -- where t loses
  obtain ⟨hi, hhi, hz, h2⟩ : ∃ hi ∈ qs, (pre = [] → hi = roof * F) ∧ ∀ u p, pre = p ++ [u] → hi * (t.2 - u.2) = (u.1 - t.1) * F ∧ Bf t u ∧ (∀ s r, suf = s :: r → nevM s t u = false) := by
    rcases List.eq_nil_or_concat pre with rfl | ⟨p, u, rfl⟩
    · refine ⟨roof * F, P.mr, fun _ => rfl, fun u p e => ?_⟩
      have := congrArg List.length e
      simp at this
    · rw [List.concat_eq_append, List.append_assoc] at g
      have gu : Good roof (u :: t :: suf) := good_at g
      have b := blw_lt gu.2.1
      have bu : Bf t u := gu.1
      obtain ⟨x, hx, ex⟩ := P.cross t tr u (sub u (by simp)) bu (by grind)
      refine ⟨x, hx, fun e => ?_, fun u' p' e => ?_⟩
      · have := congrArg List.length e
        simp at this
      · rw [List.concat_eq_append] at e
        have e2 := (List.append_inj' e rfl).2
        cases e2
        exact ⟨ex, bu, gu.2.2.1⟩
  have lt : lo < hi := by
    rcases List.eq_nil_or_concat pre with e | ⟨p, u, e⟩
    · have eh := hz e
      have rF := Int.mul_pos hr F0
      cases suf with
      | nil =>
        rw [lz rfl, eh]
        exact rF
      | cons s r =>
        obtain ⟨e1, bs⟩ := l1 s r rfl
        have b := blw_lt gt.2.1
        obtain ⟨a1, b1⟩ := bs
        have q1 : t.1 - s.1 < roof * (s.2 - t.2) := by
          rw [Int.mul_sub, Int.mul_comm roof, Int.mul_comm roof]
          omega
        have m1 := Int.mul_lt_mul_of_pos_right q1 F0
        have m2 : lo * (s.2 - t.2) < hi * (s.2 - t.2) := by
          rw [e1, eh, Int.mul_right_comm]
          exact m1
        exact Int.lt_of_mul_lt_mul_right m2 (by omega)
    · rw [List.concat_eq_append] at e
      obtain ⟨e2, bu, nv⟩ := h2 u p e
      obtain ⟨a2, b2⟩ := bu
      cases suf with
      | nil =>
        rw [lz rfl]
        have m1 := Int.mul_pos (show 0 < u.1 - t.1 by omega) F0
        rw [← e2] at m1
        have m2 : 0 * (t.2 - u.2) < hi * (t.2 - u.2) := by
          rw [Int.zero_mul]
          exact m1
        exact Int.lt_of_mul_lt_mul_right m2 (by omega)
      | cons s r =>
        obtain ⟨e1, bs⟩ := l1 s r rfl
        have nv := nev_lt (nv s r rfl)
        obtain ⟨a1, b1⟩ := bs
        have m1 := Int.mul_lt_mul_of_pos_right nv F0
        have m2 : lo * ((s.2 - t.2) * (t.2 - u.2)) < hi * ((s.2 - t.2) * (t.2 - u.2)) := by
          have k1 : lo * ((s.2 - t.2) * (t.2 - u.2)) = (t.1 - s.1) * (t.2 - u.2) * F := by
            rw [← Int.mul_assoc, e1, Int.mul_right_comm]
          have k2 : hi * ((s.2 - t.2) * (t.2 - u.2)) = (u.1 - t.1) * (s.2 - t.2) * F := by
            rw [Int.mul_comm (s.2 - t.2), ← Int.mul_assoc, e2, Int.mul_right_comm]
          rw [k1, k2]
          exact m1
        exact Int.lt_of_mul_lt_mul_right m2 (Int.le_of_lt (Int.mul_pos (by omega) (by omega)))
  obtain ⟨k, k1, k2, k3, k4, k5⟩ := next_at P.up hlo hhi lt
  refine ⟨k, k1, ?_⟩
  rw [k2]
  generalize qs.getD (k + 1) 0 = nx at k3 k4 k5
  have hm : lo * 2 < lo + nx ∧ lo + nx < nx * 2 := by omega
  have hD : 0 < F * 2 := by omega
  have down := chain_down (n := lo + nx) hD gt (fun s r e => by
    obtain ⟨e1, a1, b1⟩ := l1 s r e
    have m1 := Int.mul_lt_mul_of_pos_right hm.1 (show 0 < s.2 - t.2 by omega)
    have m2 : lo * 2 * (s.2 - t.2) = (t.1 - s.1) * F * 2 := by rw [Int.mul_right_comm, e1]
    unfold vA
    rw [m2] at m1
    grind)
  have up := (chain_up (n := lo + nx) hD g (fun u p e => by
    obtain ⟨e2, ⟨a2, b2⟩, _⟩ := h2 u p e
    have m1 := Int.mul_lt_mul_of_pos_right (show lo + nx < hi * 2 by omega) (show 0 < t.2 - u.2 by omega)
    have m2 : hi * 2 * (t.2 - u.2) = (u.1 - t.1) * F * 2 := by rw [Int.mul_right_comm, e2]
    unfold vA
    rw [m2] at m1
    grind)).2
  have inT : ∀ z ∈ pre ++ t :: suf, z = t ∨ vA t (lo + nx) (F * 2) < vA z (lo + nx) (F * 2) := by
    intro z hz
    rcases List.mem_append.mp hz with h | h
    · exact .inr (up z h)
    · rcases List.mem_cons.mp h with h | h
      · exact .inl h
      · exact .inr (down z h)
  have hiF := (P.inn hi hhi).2
  have mroof : lo + nx ≤ roof * (F * 2) := by
    rw [← Int.mul_assoc]
    omega
  intro z hz ne
  obtain ⟨u, hu, le⟩ := cov (lo + nx) (F * 2) (by omega) hD mroof z hz
  rcases inT u hu with rfl | h
  · -- not equal: a crossing between two neighbouring places
    rcases Int.lt_or_le (vA u (lo + nx) (F * 2)) (vA z (lo + nx) (F * 2)) with h | h
    · exact h
    exfalso
    have eq := Int.le_antisymm le h
    unfold vA at eq
    have no : ∀ l ∈ rays, ∀ v ∈ rays, Bf l v → (l.2 - v.2) * (lo + nx) = (v.1 - l.1) * (F * 2) → False := by
      intro l hl v hv b e
      obtain ⟨a1, b1⟩ := b
      have lt2 : v.1 - l.1 < roof * (l.2 - v.2) := by
        have m1 := Int.mul_lt_mul_of_pos_left (show lo + nx < roof * (F * 2) by rw [← Int.mul_assoc]; omega) (show 0 < l.2 - v.2 by omega)
        rw [e, show (l.2 - v.2) * (roof * (F * 2)) = roof * (l.2 - v.2) * (F * 2) by rw [← Int.mul_assoc, Int.mul_comm (l.2 - v.2)]] at m1
        exact Int.lt_of_mul_lt_mul_right m1 (Int.le_of_lt hD)
      obtain ⟨x, hx, ex⟩ := P.cross l hl v hv ⟨a1, b1⟩ lt2
      have x2 : x * 2 = lo + nx := by
        have m1 : (l.2 - v.2) * (x * 2) = (l.2 - v.2) * (lo + nx) := by
          rw [e, ← Int.mul_assoc, ← Int.mul_assoc, Int.mul_comm (l.2 - v.2), ex]
        exact Int.eq_of_mul_eq_mul_left (by omega) m1
      exact k5 x hx ⟨by omega, by omega⟩
    have mpos : 0 < lo + nx := by omega
    rcases Int.lt_trichotomy z.2 u.2 with hb | hb | hb
    · refine no u tr z hz ⟨?_, hb⟩ (by grind)
      have m1 := Int.mul_pos (show 0 < u.2 - z.2 by omega) mpos
      have m2 : 0 * (F * 2) < (z.1 - u.1) * (F * 2) := by grind
      have := Int.lt_of_mul_lt_mul_right m2 (Int.le_of_lt hD)
      omega
    · rw [hb] at eq
      have m2 : u.1 * (F * 2) = z.1 * (F * 2) := by omega
      have := Int.eq_of_mul_eq_mul_right (by omega) m2
      exact ne (Prod.ext this.symm hb)
    · refine no z hz u tr ⟨?_, hb⟩ (by grind)
      have m1 := Int.mul_pos (show 0 < z.2 - u.2 by omega) mpos
      have m2 : 0 * (F * 2) < (u.1 - z.1) * (F * 2) := by grind
      have := Int.lt_of_mul_lt_mul_right m2 (Int.le_of_lt hD)
      omega
  · exact Int.lt_of_lt_of_le h le
end Fb

set_option Elab.async false
set_option linter.all false
set_option maxRecDepth 100000
set_option maxHeartbeats 4000000
/-! rows of ints on the heap -/
namespace Fb
open PySem PySem.Spec L2
open PyProof.Rows hiding St
def rowD (l : List Int) : PyData := .tuple (l.map .int)
def RowsV (K : PySem.W.Frag) (H : Hp) (xs : List V) (ls : List (List Int)) : Prop := DpAll K H xs (ls.map rowD)
theorem RowsV.mono {K : PySem.W.Frag} {H H' : Hp} {xs : List V} {ls : List (List Int)} (h : RowsV K H xs ls) (e : Same H H') : RowsV K H' xs ls := dpAll_mono e _ h
theorem RowsV.len {K : PySem.W.Frag} {H : Hp} {xs : List V} {ls : List (List Int)} (h : RowsV K H xs ls) : xs.length = ls.length := by
  have := dpAll_len h
  rw [List.length_map] at this
  exact this
theorem RowsV.get {K : PySem.W.Frag} {H : Hp} {xs : List V} {ls : List (List Int)} (h : RowsV K H xs ls) {i : Nat} {x : V} (e : xs[i]? = some x) : ∃ l, ls[i]? = some l ∧ TupI K H x l := by
  obtain ⟨d, g1, g2⟩ := dpAll_get h e
  rw [List.getElem?_map] at g1
  cases hl : ls[i]? with
  | none =>
    rw [hl] at g1
    cases g1
  | some l =>
    rw [hl] at g1
    cases g1
    exact ⟨l, rfl, optD_tup g2⟩
theorem RowsV.upd {K : PySem.W.Frag} {H : Hp} {q : Addr} {ys : List V} {o : HO} (hq : H q = some (.lst ys)) : ∀ {ls : List (List Int)} {xs : List V}, RowsV K H xs ls → RowsV K (upd H q o) xs ls
  | [], _, h => by
    cases h
    exact .nil
  | l :: r, _, h => by
    have h : DpAll K H _ (rowD l :: r.map rowD) := h
    cases h with
    | cons a b => exact .cons (optD_upd (r := some l) hq a) (RowsV.upd hq b)
theorem RowsV.snoc {K : PySem.W.Frag} {H : Hp} {xs : List V} {ls : List (List Int)} {x : V} {l : List Int} (h : RowsV K H xs ls) (t : TupI K H x l) : RowsV K H (xs ++ [x]) (ls ++ [l]) := by
  unfold RowsV
  rw [List.map_append]
  exact dpAll_snoc h t.dp
/-- one row at most another, place by place -/
def leM (f g : List Int) : Bool := (List.range f.length).all fun i => decide (f.getD i 0 ≤ g.getD i 0)
def rowLe : List Int → List Int → Bool := PySem.W.dataLe false rowD
def thinS (k : List (List Int)) (r : List Int) : List (List Int) := if (k.any fun o => leM o r) = true then k else k ++ [r]
def thinM (ls : List (List Int)) : List (List Int) := (ls.mergeSort rowLe).foldl thinS []
theorem thinS_t {k : List (List Int)} {r : List Int} (h : (k.any fun o => leM o r) = true) : thinS k r = k := if_pos h
theorem thinS_f {k : List (List Int)} {r : List Int} (h : (k.any fun o => leM o r) = false) : thinS k r = k ++ [r] := if_neg (by rw [h]; exact Bool.false_ne_true)
theorem sortD_snd {zs : List (V × PyData)} {ls : List (List Int)} (h : zs.map Prod.snd = ls.map rowD) : (sortD zs).map Prod.snd = (ls.mergeSort rowLe).map rowD := by
  have h1 : (sortD zs).map Prod.snd = (zs.map Prod.snd).mergeSort (PySem.W.dataLe false id) := List.map_mergeSort fun a _ b _ => rfl
  have h2 : (ls.mergeSort rowLe).map rowD = (ls.map rowD).mergeSort (PySem.W.dataLe false id) := List.map_mergeSort fun a _ b _ => rfl
  rw [h1, h2, h]
theorem rows_sorted {K : PySem.W.Frag} {H : Hp} {zs : List (V × PyData)} {ls : List (List Int)} (hd : ∀ z ∈ zs, Dp K H z.1 z.2) (h : zs.map Prod.snd = ls.map rowD) : RowsV K H ((sortD zs).map Prod.fst) (ls.mergeSort rowLe) := by
  unfold RowsV
  rw [← sortD_snd h]
  exact dpAll_map fun z hz => hd z (List.mem_mergeSort.mp hz)
theorem zip_rows {K : PySem.W.Frag} {H : Hp} {xs : List V} {ls : List (List Int)} (h : RowsV K H xs ls) (hw : ∀ l ∈ ls, l ≠ []) :
    ∃ zs : List (V × PyData), zs.map Prod.fst = xs ∧ zs.map Prod.snd = ls.map rowD ∧ (∀ z ∈ zs, Dp K H z.1 z.2 ∧ z.2.depth ≤ 60) ∧ PySem.W.AllAlike (zs.map Prod.snd) ∧ PySem.W.Sortable (zs.map Prod.snd) := by
  have len : xs.length = (ls.map rowD).length := by rw [h.len, List.length_map]
  have e1 : (xs.zip (ls.map rowD)).map Prod.fst = xs := List.map_fst_zip (by omega)
  have e2 : (xs.zip (ls.map rowD)).map Prod.snd = ls.map rowD := List.map_snd_zip (by omega)
  refine ⟨xs.zip (ls.map rowD), e1, e2, fun z hz => ?_, ?_, ?_⟩
  · obtain ⟨i, hi⟩ := List.getElem?_of_mem hz
    obtain ⟨g1, g2⟩ := List.getElem?_zip_eq_some.mp hi
    obtain ⟨d, k1, k2⟩ := dpAll_get h g1
    rw [g2] at k1
    cases k1
    refine ⟨k2, ?_⟩
    rw [List.getElem?_map] at g2
    cases hl : ls[i]? with
    | none =>
      rw [hl] at g2
      cases g2
    | some l =>
      rw [hl] at g2
      rw [← Option.some.inj g2]
      show PyData.depth (.tuple (l.map .int)) ≤ 60
      simp only [PyData.depth, PySem.W.depth_ints]
      omega
  · rw [e2]
    exact PySem.W.AllAlike.of fun a b => PySem.W.alike_ints a b
  · rw [e2]
    refine .inl fun d hd => ?_
    obtain ⟨l, hl, rfl⟩ := List.mem_map.mp hd
    cases l with
    | nil => exact absurd rfl (hw _ hl)
    | cons a r => exact ⟨.int a, r.map .int, rfl⟩
theorem take_fold {α β : Type} (f : β → α → β) (b : β) (l : List α) (i : Nat) (x : α) (h : l[i]? = some x) : (l.take (i + 1)).foldl f b = f ((l.take i).foldl f b) x := by
  rw [List.take_add_one, h, List.foldl_append]
  rfl
theorem thin_sub : ∀ (ls k : List (List Int)), ∀ r ∈ ls.foldl thinS k, r ∈ k ∨ r ∈ ls
  | [], k, r, h => .inl h
  | l :: ls, k, r, h => by
    rcases thin_sub ls (thinS k l) r h with h | h
    · unfold thinS at h
      split at h
      · exact .inl h
      · rcases List.mem_append.mp h with h | h
        · exact .inl h
        · exact .inr (List.mem_cons.mpr (.inl (List.mem_singleton.mp h)))
    · exact .inr (List.mem_cons_of_mem _ h)
section
variable {P : Program} {w : World} {K : PySem.W.Frag} {mg : Str → Option Value} {base : Heap} {m qual : Str} {st : Stmt} {f : Addr} {fd : FuncData} {N : List Str} {k : Nat} {p1 p2 p3 p4 : Str}
theorem fm4 {g : V → V → V → V → Hp → VK → Prop} (F : C8.Fun K m qual st f fd) (S : FnScope N [p1, p2, p3, p4] (C8.fnScope st))
    (body : ∀ (cdv : Value) (A : Around) (outer : List Env) (s : Shared) (H : Hp) (a b c d : V) (Q : VK) (E : XK), Room k (A.deeper (envOfC qual (C8.fnScope st) s.heap.objs.size f cdv)) → g a b c d H Q →
      ∃ t, PSs (cxOf C8.CX0 P w K mg base N qual (C8.fnScope st) f cdv A outer s H E).nox (C8.fnBody st) t ∧ t { nx := fun _ H' => Q .non H', rt := Q } (start N [a, b, c, d]) H) : FnOk P w K mg base C8.CX0 (k + 1) f fd [p1, p2, p3, p4] (sp4 g) := by
  refine C8.fn0 F S ?_ ?_
  · rintro vs H Q E ⟨a, b, c, d, rfl, _⟩
    rfl
  · rintro cdv A outer s H vs Q E hr ⟨a, b, c, d, rfl, h⟩
    exact body cdv A outer s H a b c d Q E hr h
theorem fn4 {g : V → V → V → V → Hp → VK → Prop} (F : C8.Def K mg m st f fd) (S : FnScope N [p1, p2, p3, p4] (C8.fnScope st))
    (body : ∀ (cdv : Value) (A : Around) (outer : List Env) (s : Shared) (H : Hp) (a b c d : V) (Q : VK) (E : XK), Room k (A.deeper (envOfC m (C8.fnScope st) s.heap.objs.size f cdv)) → g a b c d H Q →
      ∃ t, PSs (cxOf C8.CX0 P w K mg base N m (C8.fnScope st) f cdv A outer s H E).nox (C8.fnBody st) t ∧ t { nx := fun _ H' => Q .non H', rt := Q } (start N [a, b, c, d]) H) : FnOk P w K mg base C8.CX0 (k + 1) f fd [p1, p2, p3, p4] (sp4 g) := fm4 F.fn S body
end
/-! ### lines as pairs -/
def tol (p : Ln) : List Int := [p.1, p.2]
def pairLe (p q : Ln) : Bool := decide (p.1 < q.1 ∨ (p.1 = q.1 ∧ p.2 ≤ q.2))
def leP (o r : Ln) : Bool := decide (o.1 ≤ r.1) && decide (o.2 ≤ r.2)
def thinPS (k : List Ln) (r : Ln) : List Ln := if (k.any fun o => leP o r) = true then k else k ++ [r]
def thinP (rays : List Ln) : List Ln := (rays.mergeSort pairLe).foldl thinPS []
theorem leM_tol (o r : Ln) : leM (tol o) (tol r) = leP o r := by
  show ([0, 1] : List Nat).all _ = _
  simp only [List.all_cons, List.all_nil, Bool.and_true]
  rfl
theorem fold_tol : ∀ (l k : List Ln), (l.map tol).foldl thinS (k.map tol) = (l.foldl thinPS k).map tol
  | [], k => rfl
  | r :: l, k => by
    show (l.map tol).foldl thinS (thinS (k.map tol) (tol r)) = (l.foldl thinPS (thinPS k r)).map tol
    rw [← fold_tol l (thinPS k r)]
    congr 1
    unfold thinS thinPS
    rw [List.any_map]
    have e : ((fun o => leM o (tol r)) ∘ tol) = fun o => leP o r := by
      funext o
      exact leM_tol o r
    rw [e]
    split
    · rfl
    · rw [List.map_append]
      rfl
theorem thin_tol (rays : List Ln) : thinM (rays.map tol) = (thinP rays).map tol := by
  unfold thinM thinP
  have e : (rays.mergeSort pairLe).map tol = (rays.map tol).mergeSort rowLe := by
    refine List.map_mergeSort fun a _ b _ => ?_
    exact (congrFun (congrFun (PySem.W.dataLe_ii (β := Ln) Prod.fst Prod.snd) a) b).symm
  rw [← e]
  exact fold_tol _ []
theorem thinP_sub : ∀ (l k : List Ln), ∀ r ∈ l.foldl thinPS k, r ∈ k ∨ r ∈ l
  | [], k, r, h => .inl h
  | a :: l, k, r, h => by
    rcases thinP_sub l (thinPS k a) r h with h | h
    · unfold thinPS at h
      split at h
      · exact .inl h
      · rcases List.mem_append.mp h with h | h
        · exact .inl h
        · exact .inr (List.mem_cons.mpr (.inl (List.mem_singleton.mp h)))
    · exact .inr (List.mem_cons_of_mem _ h)
theorem thinP_cover : ∀ (l k : List Ln), (∀ o ∈ k, o ∈ l.foldl thinPS k) ∧ ∀ q ∈ l, ∃ r ∈ l.foldl thinPS k, leP r q = true
  | [], k => ⟨fun o h => h, fun q h => by cases h⟩
  | a :: l, k => by
    obtain ⟨i1, i2⟩ := thinP_cover l (thinPS k a)
    have kk : ∀ o ∈ k, o ∈ thinPS k a := fun o h => by
      unfold thinPS
      split
      · exact h
      · exact List.mem_append_left _ h
    refine ⟨fun o h => i1 o (kk o h), fun q h => ?_⟩
    rcases List.mem_cons.mp h with rfl | h
    · by_cases c : (k.any fun o => leP o q) = true
      · obtain ⟨o, ho, le⟩ := List.any_eq_true.mp c
        exact ⟨o, i1 o (kk o ho), le⟩
      · refine ⟨q, i1 q ?_, by unfold leP; simp⟩
        unfold thinPS
        rw [if_neg c]
        exact List.mem_append_right _ (List.mem_singleton.mpr rfl)
    · exact i2 q h
theorem pair_rows {p q : Ln} (h : pairLe p q = true) (n : leP p q = false) : Bf p q := by
  have h := of_decide_eq_true h
  unfold leP at n
  rw [← Bool.decide_and] at n
  have n := of_decide_eq_false n
  constructor <;> omega
theorem thinP_rows : ∀ (l k : List Ln), Rows k → (∀ o ∈ k, ∀ q ∈ l, pairLe o q = true) → l.Pairwise (fun a b => pairLe a b = true) → Rows (l.foldl thinPS k)
  | [], k, h, _, _ => h
  | a :: l, k, h, h2, h3 => by
    have h3 := List.pairwise_cons.mp h3
    refine thinP_rows l (thinPS k a) ?_ ?_ h3.2
    · unfold thinPS
      split
      · exact h
      · rename_i c
        refine List.pairwise_append.mpr ⟨h, List.pairwise_singleton _ _, fun o ho b hb => ?_⟩
        cases List.mem_singleton.mp hb
        refine pair_rows (h2 o ho a (List.mem_cons_self ..)) ?_
        cases e : leP o a with
        | false => rfl
        | true => exact absurd (List.any_eq_true.mpr ⟨o, ho, e⟩) c
    · intro o ho q hq
      unfold thinPS at ho
      split at ho
      · exact h2 o ho q (List.mem_cons_of_mem _ hq)
      · rcases List.mem_append.mp ho with ho | ho
        · exact h2 o ho q (List.mem_cons_of_mem _ hq)
        · cases List.mem_singleton.mp ho
          exact h3.1 q hq
theorem thinP_ok (rays : List Ln) : (∀ r ∈ thinP rays, r ∈ rays) ∧ Rows (thinP rays) ∧ ∀ q ∈ rays, ∃ r ∈ thinP rays, r.1 ≤ q.1 ∧ r.2 ≤ q.2 := by
  have tr : ∀ a b c : Ln, pairLe a b = true → pairLe b c = true → pairLe a c = true := fun a b c h k => by
    have h := of_decide_eq_true h
    have k := of_decide_eq_true k
    exact decide_eq_true (by omega)
  have to : ∀ a b : Ln, (pairLe a b || pairLe b a) = true := fun a b => by
    unfold pairLe
    rw [← Bool.decide_or]
    exact decide_eq_true (by omega)
  refine ⟨fun r h => ?_, ?_, fun q hq => ?_⟩
  · rcases thinP_sub _ _ r h with h | h
    · cases h
    · exact List.mem_mergeSort.mp h
  · exact thinP_rows _ [] List.Pairwise.nil (fun o h => by cases h) (List.pairwise_mergeSort tr to rays)
  · obtain ⟨r, h1, h2⟩ := (thinP_cover (rays.mergeSort pairLe) []).2 q (List.mem_mergeSort.mpr hq)
    unfold leP at h2
    rw [Bool.and_eq_true] at h2
    exact ⟨r, h1, of_decide_eq_true h2.1, of_decide_eq_true h2.2⟩
/-- the value of a dial that is left of lines -/
def lowestM (top : Int) (rays : List Ln) : Option (List Ln) := if rays = [] then none else some (lowM top (thinP rays))
def lnD : Option (List Ln) → PyData
  | none => .none
  | some T => .tuple (T.map fun t => rowD (tol t))
theorem lowest_ok {top : Int} {rays T : List Ln} (h : lowestM top rays = some T) : T ≠ [] ∧ (∀ y ∈ T, y ∈ rays) ∧ Good top T.reverse ∧ ∀ n d, 0 ≤ n → 0 < d → n ≤ top * d → ∀ q ∈ rays, ∃ t ∈ T, vA t n d ≤ vA q n d := by
  unfold lowestM at h
  split at h
  · cases h
  · rename_i ne
    cases h
    obtain ⟨s, rw1, c⟩ := thinP_ok rays
    obtain ⟨l1, l2, l3⟩ := low_ok (top := top) rw1
    refine ⟨?_, fun y hy => s y (l1 y hy), l2, fun n d n0 hd h2 q hq => ?_⟩
    · cases rays with
      | nil => exact absurd rfl ne
      | cons q r =>
        obtain ⟨y, hy, _⟩ := c q (List.mem_cons_self ..)
        cases e : thinP (q :: r) with
        | nil =>
          rw [e] at hy
          cases hy
        | cons a b =>
          rw [e] at rw1
          exact low_ne rw1
    · obtain ⟨y, hy, a1, a2⟩ := c q hq
      obtain ⟨t, ht, le⟩ := l3 n d hd h2 y hy
      refine ⟨t, ht, Int.le_trans le ?_⟩
      unfold vA
      have m1 := Int.mul_le_mul_of_nonneg_right a1 (Int.le_of_lt hd)
      have m2 := Int.mul_le_mul_of_nonneg_right a2 n0
      omega
def BdL (l : Ln) : Prop := -10000000000000 ≤ l.1 ∧ l.1 ≤ 10000000000000 ∧ -10000000000000 ≤ l.2 ∧ l.2 ≤ 10000000000000
theorem dpAll_last {K : PySem.W.Frag} {H : Hp} {d : PyData} : ∀ {ds : List PyData} {xs : List V}, DpAll K H xs (ds ++ [d]) → ∃ ys y, xs = ys ++ [y] ∧ DpAll K H ys ds ∧ Dp K H y d
  | [], _, h => by
    cases h with
    | cons a b =>
      cases b
      exact ⟨[], _, rfl, .nil, a⟩
  | e :: ds, _, h => by
    have h : DpAll K H _ (e :: (ds ++ [d])) := h
    cases h with
    | cons a b =>
      obtain ⟨ys, y, rfl, h1, h2⟩ := dpAll_last b
      exact ⟨_ :: ys, y, rfl, .cons a h1, h2⟩
theorem rows_last {K : PySem.W.Frag} {H : Hp} {y : Ln} {R : List Ln} {us : List V} (h : RowsV K H us ((y :: R).reverse.map tol)) : ∃ vs u, us = vs ++ [u] ∧ RowsV K H vs (R.reverse.map tol) ∧ TupI K H u (tol y) := by
  unfold RowsV at h
  rw [List.reverse_cons, List.map_append, List.map_append] at h
  obtain ⟨vs, u, e, h1, h2⟩ := dpAll_last h
  exact ⟨vs, u, e, h1, optD_tup (f := tol y) h2⟩
theorem ix_end {n k : Nat} (h : k ≤ n) (h0 : 0 < k) : ixN n (-(k : Int)) = some (n - k) := by
  unfold ixN
  rw [if_neg (by omega), if_pos (by omega)]
  exact congrArg some (by omega)
theorem atI_last (us : List V) (u : V) : atI (us ++ [u]) (-1) = some u := by
  have e : ixN (us ++ [u]).length (-((1 : Nat) : Int)) = some us.length := by
    rw [ix_end (by rw [List.length_append]; exact Nat.le_add_left _ _) (by decide), List.length_append]
    rfl
  show (ixN (us ++ [u]).length (-((1 : Nat) : Int))).bind _ = _
  rw [e]
  show (us ++ [u])[us.length]? = some u
  rw [List.getElem?_append_right (Nat.le_refl _), Nat.sub_self]
  rfl
theorem atI_last2 (us : List V) (a u : V) : atI (us ++ [a] ++ [u]) (-2) = some a := by
  have e : ixN (us ++ [a] ++ [u]).length (-((2 : Nat) : Int)) = some us.length := by
    rw [ix_end (by rw [List.length_append, List.length_append]; exact Nat.le_add_left _ _) (by decide), List.length_append, List.length_append]
    rfl
  show (ixN (us ++ [a] ++ [u]).length (-((2 : Nat) : Int))).bind _ = _
  rw [e, List.append_assoc]
  show (us ++ ([a] ++ [u]))[us.length]? = some a
  rw [List.getElem?_append_right (Nat.le_refl _), Nat.sub_self]
  rfl
theorem pop_step {l y x : Ln} {r : List Ln} (h : nevM x y l = true) : popM l (y :: x :: r) = popM l (x :: r) := if_pos h
theorem pop_stop {l y x : Ln} {r : List Ln} (h : nevM x y l = false) : popM l (y :: x :: r) = y :: x :: r := if_neg (by rw [h]; exact Bool.false_ne_true)
theorem thinP_len0 : ∀ (l k : List Ln), (l.foldl thinPS k).length ≤ k.length + l.length
  | [], k => Nat.le_refl _
  | a :: l, k => by
    have h := thinP_len0 l (thinPS k a)
    have h2 : (thinPS k a).length ≤ k.length + 1 := by
      unfold thinPS
      split
      · exact Nat.le_succ _
      · rw [List.length_append]
        exact Nat.le_refl _
    show (l.foldl thinPS (thinPS k a)).length ≤ k.length + (l.length + 1)
    omega
theorem thinP_len (rays : List Ln) : (thinP rays).length ≤ rays.length := by
  have h := thinP_len0 (rays.mergeSort pairLe) []
  rw [List.length_mergeSort] at h
  exact Nat.le_trans h (by rw [List.length_nil, Nat.zero_add]; exact Nat.le_refl _)
def dfl (top : Int) (t : Addr) : List (Str × V) := putF "stay" (.ref t) (putF "top" (.int top) (putF "slope" (.str "b") (putF "wish" (.str "a") [])))
def DialAt (CH : Addr) (H : Hp) (p : Addr) (top : Int) : Prop := ∃ dx t, H p = some (.ins CH dx (dfl top t))
theorem DialAt.mono {CH : Addr} {H H' : Hp} {p : Addr} {top : Int} (h : DialAt CH H p top) (e : Same H H') : DialAt CH H' p top := by
  obtain ⟨dx, t, a⟩ := h
  exact ⟨dx, t, e _ _ a⟩
theorem dfl_top (top : Int) (t : Addr) : (dfl top t).lookup ("top" : Str) = some (.int top) := by
  unfold dfl
  rw [lookup_putF, if_neg (by decide +kernel), lookup_putF, if_pos rfl]
theorem dfl_no (top : Int) (t : Addr) {m : Str} (h1 : ¬ m = "stay") (h2 : ¬ m = "top") (h3 : ¬ m = "slope") (h4 : ¬ m = "wish") : (dfl top t).lookup m = none := by
  unfold dfl
  rw [lookup_putF, if_neg h1, lookup_putF, if_neg h2, lookup_putF, if_neg h3, lookup_putF, if_neg h4]
  rfl
theorem ln_tup {K : PySem.W.Frag} {H : Hp} {v : V} {T : List Ln} (h : Dp K H v (lnD (some T))) : ∃ A xs, v = .ref A ∧ SqT K H A xs ∧ RowsV K H xs (T.map tol) := by
  cases h with
  | tup s x =>
    refine ⟨_, _, rfl, s, ?_⟩
    unfold RowsV
    rw [List.map_map]
    exact x
theorem op_catT_K {X : Cx} {K : PySem.W.Frag} (e : X.K = K) : OpR X (binaryOp .Add) (rCatT K) := e ▸ op_catT
theorem dpAll_app {K : PySem.W.Frag} {H : Hp} : ∀ {xs ys : List V} {ds es : List PyData}, DpAll K H xs ds → DpAll K H ys es → DpAll K H (xs ++ ys) (ds ++ es)
  | _, _, _, _, .nil, h => h
  | _, _, _, _, .cons a b, h => .cons a (dpAll_app b h)
theorem RowsV.app {K : PySem.W.Frag} {H : Hp} {xs ys : List V} {ls ms : List (List Int)} (h : RowsV K H xs ls) (k : RowsV K H ys ms) : RowsV K H (xs ++ ys) (ls ++ ms) := by
  unfold RowsV
  rw [List.map_append]
  exact dpAll_app h k
/-! ### rays as values -/
def BdR (r : Ln) : Prop := 0 ≤ r.1 ∧ r.1 ≤ 100000000 ∧ 0 ≤ r.2 ∧ r.2 ≤ 1000
def RayV (K : PySem.W.Frag) (B : Ln → Prop) (H : Hp) (v : V) : Prop := ∃ r, TupI K H v (tol r) ∧ B r
theorem RayV.mono {K : PySem.W.Frag} {B : Ln → Prop} {H H' : Hp} {v : V} (h : RayV K B H v) (e : Same H H') : RayV K B H' v := by
  obtain ⟨r, a, b⟩ := h
  exact ⟨r, a.mono e, b⟩
theorem RayV.upd {K : PySem.W.Frag} {B : Ln → Prop} {H : Hp} {v : V} {q : Addr} {ys : List V} {o : HO} (hq : H q = some (.lst ys)) (h : RayV K B H v) : RayV K B (upd H q o) v := by
  obtain ⟨r, a, b⟩ := h
  exact ⟨r, tupI_upd hq a, b⟩
theorem RayV.imp {K : PySem.W.Frag} {B B' : Ln → Prop} {H : Hp} {v : V} (h : RayV K B H v) (k : ∀ r, B r → B' r) : RayV K B' H v := by
  obtain ⟨r, a, b⟩ := h
  exact ⟨r, a, k r b⟩
theorem rays_of {K : PySem.W.Frag} {B : Ln → Prop} {H : Hp} : ∀ {us : List V}, (∀ v ∈ us, RayV K B H v) → ∃ rays : List Ln, RowsV K H us (rays.map tol) ∧ ∀ r ∈ rays, B r
  | [], _ => ⟨[], .nil, fun r h => by cases h⟩
  | u :: us, h => by
    obtain ⟨r, a, b⟩ := h u (List.mem_cons_self ..)
    obtain ⟨rs, c, d⟩ := rays_of fun v hv => h v (List.mem_cons_of_mem _ hv)
    refine ⟨r :: rs, .cons a.dp c, fun x hx => ?_⟩
    rcases List.mem_cons.mp hx with rfl | hx
    · exact b
    · exact d x hx
theorem cut_memV (xs : List V) (lo hi : Option Int) : (∀ v ∈ cutV xs lo hi, v ∈ xs) ∧ (cutV xs lo hi).length ≤ xs.length := by
  unfold cutV
  refine ⟨fun v hv => List.mem_of_mem_drop (List.mem_of_mem_take hv), ?_⟩
  rw [List.length_take, List.length_drop]
  omega
theorem cut_len {xs : List V} {h : Int} (h0 : 0 ≤ h) (h1 : h ≤ xs.length) : ((cutV xs none (some h)).length : Int) = h := by
  obtain ⟨n, rfl⟩ := Int.eq_ofNat_of_zero_le h0
  unfold cutV
  rw [HT.sIx_none, HT.sIx_nat, List.length_take, List.length_drop]
  omega
theorem rays_mono {K : PySem.W.Frag} {B : Ln → Prop} {H H' : Hp} {us : List V} (h : ∀ v ∈ us, RayV K B H v) (e : Same H H') : ∀ v ∈ us, RayV K B H' v := fun v hv => (h v hv).mono e
/-- one more ray at the end of a list -/
theorem rays_snoc {K : PySem.W.Frag} {B B' : Ln → Prop} {H : Hp} {us : List V} {v : V} {q : Addr} {o : HO} (hq : H q = some (.lst us)) (h : ∀ v ∈ us, RayV K B H v) (i : ∀ r, B r → B' r) (hv : RayV K B' H v) : ∀ u ∈ us ++ [v], RayV K B' (upd H q o) u := by
  intro u hu
  rcases List.mem_append.mp hu with hu | hu
  · exact ((h u hu).imp i).upd hq
  · cases List.mem_singleton.mp hu
    exact hv.upd hq
/-! ### a list of new pairs -/
def PairsV (H : Hp) (us : List V) (zs : List (V × V)) : Prop := us.length = zs.length ∧ ∀ (i : Nat) u, us[i]? = some u → ∃ z U, zs[i]? = some z ∧ u = .ref U ∧ H U = some (.tup [z.1, z.2])
theorem PairsV.mono {H H' : Hp} {us : List V} {zs : List (V × V)} (h : PairsV H us zs) (e : Same H H') : PairsV H' us zs := by
  refine ⟨h.1, fun i u hu => ?_⟩
  obtain ⟨z, U, a, b, c⟩ := h.2 i u hu
  exact ⟨z, U, a, b, e _ _ c⟩
theorem PairsV.upd {H : Hp} {us ys : List V} {zs : List (V × V)} {q : Addr} {o : HO} (hq : H q = some (.lst ys)) (h : PairsV H us zs) : PairsV (upd H q o) us zs := by
  refine ⟨h.1, fun i u hu => ?_⟩
  obtain ⟨z, U, a, b, c⟩ := h.2 i u hu
  refine ⟨z, U, a, b, ?_⟩
  rw [upd_ne fun e => by rw [e, hq] at c; cases c]
  exact c
theorem PairsV.snoc {H : Hp} {us : List V} {zs : List (V × V)} {z : V × V} {U : Addr} (h : PairsV H us zs) (k : H U = some (.tup [z.1, z.2])) : PairsV H (us ++ [.ref U]) (zs ++ [z]) := by
  refine ⟨by rw [List.length_append, List.length_append, h.1]; rfl, fun i u hu => ?_⟩
  by_cases q : i < us.length
  · rw [List.getElem?_append_left q] at hu
    obtain ⟨z', U', a, b, c⟩ := h.2 i u hu
    exact ⟨z', U', by rw [List.getElem?_append_left (by rw [← h.1]; exact q)]; exact a, b, c⟩
  · have hi : i = us.length := by
      have := (List.getElem?_eq_some_iff.mp hu).1
      rw [List.length_append] at this
      have this : i < us.length + 1 := this
      omega
    subst hi
    rw [List.getElem?_append_right (Nat.le_refl _), Nat.sub_self] at hu
    cases hu
    exact ⟨z, U, by rw [h.1, List.getElem?_append_right (Nat.le_refl _), Nat.sub_self]; rfl, rfl, k⟩
def prodV (xs ys : List V) : List (V × V) := xs.flatMap fun x => ys.map fun y => (x, y)
theorem prod_take {xs ys : List V} {i : Nat} {x : V} (h : xs[i]? = some x) : prodV (xs.take (i + 1)) ys = prodV (xs.take i) ys ++ ys.map fun y => (x, y) := by
  unfold prodV
  rw [List.take_add_one, h, List.flatMap_append]
  show _ ++ ([x].flatMap fun x => ys.map fun y => (x, y)) = _
  rw [List.flatMap_singleton]
theorem map_take {xs : List V} {i : Nat} {y x : V} (h : xs[i]? = some y) : ((xs.take (i + 1)).map fun y => (x, y)) = ((xs.take i).map fun y => (x, y)) ++ [(x, y)] := by
  rw [List.take_add_one, h, List.map_append]
  rfl
/-! ### a comprehension within a comprehension -/
theorem lc_in {J : It} {n : Nat} {G : Hp → Prop} {Y : Nat → Hp → V → Hp → Prop} (w : Walk J n G Y) {H4 : Hp} {Nx : Hp → Prop} {R : V → Hp → (Hp → Prop) → Prop} (Pv : Nat → Hp → Prop) (h0 : Pv 0 H4) (hG : ∀ i H, i ≤ n → Pv i H → G H)
    (hs : ∀ i x H H', i < n → Pv i H → Y i H x H' → R x H' (Pv (i + 1))) (hd : ∀ H, Pv n H → Nx H) :
    ∃ W1 : Nat → Nat → Hp → Prop, (∃ m, W1 0 m H4) ∧ ∀ j k H, W1 j k H →
      (J.stop j H ∧ Nx H) ∨ (J.go j H ∧ ∃ Nx1 : Hp → Prop, (∀ H', Nx1 H' → ∃ k', k' < k ∧ W1 (j + 1) k' H') ∧ ∀ x H', J.yld j H x H' → R x H' Nx1) := by
  refine ⟨fun i m H => m = n - i ∧ i ≤ n ∧ Pv i H, ⟨n, rfl, Nat.zero_le _, h0⟩, ?_⟩
  rintro i m H ⟨rfl, hi, pv⟩
  have g := hG i H hi pv
  rcases Nat.lt_or_ge i n with lt | ge
  · refine .inr ⟨w.goes i H lt g, Pv (i + 1), fun H' p' => ⟨n - (i + 1), by omega, rfl, lt, p'⟩, ?_⟩
    exact fun x H' y => hs i x H H' lt pv (w.yields i H x H' lt g y)
  · have e : i = n := Nat.le_antisymm hi ge
    subst e
    exact .inl ⟨w.stops H g, hd H pv⟩
def sumsM (one two : List Ln) : List Ln := one.flatMap fun p => two.map fun q => (p.1 + q.1, p.2 + q.2)
theorem sums_take {one two : List Ln} {i : Nat} {p : Ln} (h : one[i]? = some p) : sumsM (one.take (i + 1)) two = sumsM (one.take i) two ++ two.map fun q => (p.1 + q.1, p.2 + q.2) := by
  unfold sumsM
  rw [List.take_add_one, h, List.flatMap_append]
  show _ ++ ([p].flatMap fun p => two.map fun q => (p.1 + q.1, p.2 + q.2)) = _
  rw [List.flatMap_singleton]
theorem sums_len (one two : List Ln) : (sumsM one two).length = one.length * two.length := by
  unfold sumsM
  rw [List.length_flatMap]
  simp [List.map_const', List.sum_replicate_nat]
theorem line_get {K : PySem.W.Frag} {H : Hp} {xs : List V} {one : List Ln} {i : Nat} {x : V} (h : RowsV K H xs (one.map tol)) (g : xs[i]? = some x) : ∃ p, one[i]? = some p ∧ TupI K H x (tol p) := by
  obtain ⟨l, gl, tl⟩ := h.get g
  rw [List.getElem?_map] at gl
  cases e : one[i]? with
  | none =>
    rw [e] at gl
    cases gl
  | some p =>
    rw [e] at gl
    cases gl
    exact ⟨p, rfl, tl⟩
theorem take_map_add {α β : Type} (f : α → β) {l : List α} {i : Nat} {x : α} (h : l[i]? = some x) : (l.take (i + 1)).map f = (l.take i).map f ++ [f x] := by
  rw [List.take_add_one, h, List.map_append]
  rfl
theorem rows_from {K : PySem.W.Frag} {H : Hp} (g : Nat → List Int) {xs : List V} (h : ∀ i v, xs[i]? = some v → TupI K H v (g i)) : RowsV K H xs ((List.range xs.length).map g) := by
  induction xs generalizing g with
  | nil => exact .nil
  | cons x r ih =>
    have e : ((List.range (x :: r).length).map g).map rowD = rowD (g 0) :: ((List.range r.length).map (g ∘ Nat.succ)).map rowD := by
      rw [List.length_cons, List.range_succ_eq_map, List.map_cons, List.map_cons]
      congr 1
      rw [List.map_map, List.map_map, List.map_map]
      rfl
    unfold RowsV
    rw [e]
    exact .cons (h 0 x rfl).dp (ih (g ∘ Nat.succ) fun i v e => h (i + 1) v e)
theorem dec_int2 (i j : Int) : decide (V.int i = V.int j) = decide (i = j) := decide_eq_decide.mpr ⟨fun e => V.int.inj e, fun e => congrArg V.int e⟩
def BdH (r : Ln) : Prop := 0 ≤ r.1 ∧ r.1 ≤ 50000000 ∧ 0 ≤ r.2 ∧ r.2 ≤ 500
theorem BdH.r {r : Ln} (h : BdH r) : BdR r := by
  obtain ⟨a, b, c, d⟩ := h
  exact ⟨a, by omega, c, by omega⟩
theorem BdR.l {r : Ln} (h : BdR r) : BdL r := by
  obtain ⟨a, b, c, d⟩ := h
  exact ⟨by omega, by omega, by omega, by omega⟩
theorem bd_sums {one two : List Ln} (h1 : ∀ r ∈ one, BdH r) (h2 : ∀ r ∈ two, BdH r) : ∀ r ∈ sumsM one two, BdR r := by
  intro r hr
  unfold sumsM at hr
  obtain ⟨p, hp, hr⟩ := List.mem_flatMap.mp hr
  obtain ⟨q, hq, rfl⟩ := List.mem_map.mp hr
  obtain ⟨a1, a2, a3, a4⟩ := h1 p hp
  obtain ⟨b1, b2, b3, b4⟩ := h2 q hq
  exact ⟨by show 0 ≤ p.1 + q.1; omega, by show p.1 + q.1 ≤ _; omega, by show 0 ≤ p.2 + q.2; omega, by show p.2 + q.2 ≤ _; omega⟩
end Fb

set_option Elab.async false
set_option linter.all false
set_option maxRecDepth 100000
set_option maxHeartbeats 4000000
/-! the law's own look at each line: the stretch on which it is least -/
namespace Fb
def spanS (t : Ln) (s : Ln × Ln) (u : Ln) : Ln × Ln :=
  if t.2 < u.2 then (if s.1.1 * (u.2 - t.2) < (t.1 - u.1) * s.1.2 then ((t.1 - u.1, u.2 - t.2), s.2) else s)
  else if u.2 < t.2 then (if (u.1 - t.1) * s.2.2 < s.2.1 * (t.2 - u.2) then (s.1, (u.1 - t.1, t.2 - u.2)) else s)
  else if u.1 < t.1 then (s.1, (-1, 1)) else s
def spanM (t : Ln) (rays : List Ln) (roof : Int) : Ln × Ln := rays.foldl (spanS t) ((0, 1), (roof, 1))
/-- it is least on a stretch of some length -/
def longM (t : Ln) (rays : List Ln) (roof : Int) : Bool := decide ((spanM t rays roof).1.1 * (spanM t rays roof).2.2 < (spanM t rays roof).2.1 * (spanM t rays roof).1.2)
theorem span_fold {t : Ln} {A B : Ln → Prop} : ∀ (rays : List Ln) (s : Ln × Ln), A s.1 → B s.2 → (∀ u ∈ rays, (t.2 < u.2 → A (t.1 - u.1, u.2 - t.2)) ∧ (u.2 < t.2 → B (u.1 - t.1, t.2 - u.2)) ∧ (u.2 = t.2 → t.1 ≤ u.1)) →
    A (rays.foldl (spanS t) s).1 ∧ B (rays.foldl (spanS t) s).2
  | [], s, a, b, _ => ⟨a, b⟩
  | u :: rays, s, a, b, h => by
    obtain ⟨h1, h2, h3⟩ := h u (List.mem_cons_self ..)
    have st : A (spanS t s u).1 ∧ B (spanS t s u).2 := by
      unfold spanS
      by_cases c1 : t.2 < u.2
      · rw [if_pos c1]
        split
        · exact ⟨h1 c1, b⟩
        · exact ⟨a, b⟩
      · rw [if_neg c1]
        by_cases c2 : u.2 < t.2
        · rw [if_pos c2]
          split
          · exact ⟨a, h2 c2⟩
          · exact ⟨a, b⟩
        · rw [if_neg c2, if_neg (by have := h3 (by omega); omega)]
          exact ⟨a, b⟩
    exact span_fold rays _ st.1 st.2 fun v hv => h v (List.mem_cons_of_mem _ hv)
theorem least_of (f g : Ln → Int) : ∀ rays : List Ln, rays ≠ [] → ∃ t ∈ rays, ∀ u ∈ rays, f t < f u ∨ (f t = f u ∧ g t ≤ g u)
  | [], h => absurd rfl h
  | [t], _ => ⟨t, List.mem_cons_self .., fun u hu => by
      cases List.mem_singleton.mp hu
      exact .inr ⟨rfl, Int.le_refl _⟩⟩
  | a :: b :: r, _ => by
    obtain ⟨t, ht, h⟩ := least_of f g (b :: r) (List.cons_ne_nil _ _)
    by_cases c : f t < f a ∨ (f t = f a ∧ g t ≤ g a)
    · refine ⟨t, List.mem_cons_of_mem _ ht, fun u hu => ?_⟩
      rcases List.mem_cons.mp hu with rfl | hu
      · exact c
      · exact h u hu
    · refine ⟨a, List.mem_cons_self .., fun u hu => ?_⟩
      rcases List.mem_cons.mp hu with rfl | hu
      · exact .inr ⟨rfl, Int.le_refl _⟩
      · have := h u hu
        omega
/-- the lines that are least on some stretch are, together, nowhere above a line -/
theorem long_cover {rays : List Ln} {roof n d : Int} (hr : 0 < roof) (n0 : 0 ≤ n) (hd : 0 < d) (h2 : n ≤ roof * d) {q : Ln} (hq : q ∈ rays) : ∃ t ∈ rays, longM t rays roof = true ∧ vA t n d ≤ vA q n d := by
  have ne : rays ≠ [] := fun e => by
    rw [e] at hq
    cases hq
  have same : ∀ t u : Ln, vA t n d ≤ vA u n d → u.2 = t.2 → t.1 ≤ u.1 := fun t u h e => by
    unfold vA at h
    rw [e] at h
    have : t.1 * d ≤ u.1 * d := by omega
    exact Int.le_of_mul_le_mul_right this hd
  by_cases c : n < roof * d
  · obtain ⟨t, ht, h⟩ := least_of (fun l => vA l n d) (fun l => l.2) rays ne
    have le : ∀ u ∈ rays, vA t n d ≤ vA u n d := fun u hu => by
      have := h u hu
      omega
    refine ⟨t, ht, ?_, le q hq⟩
    obtain ⟨⟨a1, a2⟩, b1, b2⟩ := span_fold (t := t) (A := fun l => 0 < l.2 ∧ l.1 * d ≤ l.2 * n) (B := fun l => 0 < l.2 ∧ l.2 * n < l.1 * d) rays ((0, 1), (roof, 1)) ⟨by show (0 : Int) < 1; decide, by show 0 * d ≤ 1 * n; omega⟩ ⟨by show (0 : Int) < 1; decide, by show 1 * n < roof * d; omega⟩ (fun u hu => by
      refine ⟨fun e => ⟨by show 0 < u.2 - t.2; omega, ?_⟩, fun e => ⟨by show 0 < t.2 - u.2; omega, ?_⟩, same t u (le u hu)⟩
      · have := le u hu
        unfold vA at this
        show (t.1 - u.1) * d ≤ (u.2 - t.2) * n
        rw [Int.sub_mul, Int.sub_mul]
        omega
      · have : vA t n d < vA u n d := by
          rcases h u hu with h | ⟨_, h⟩
          · exact h
          · have h : t.2 ≤ u.2 := h
            omega
        unfold vA at this
        show (t.2 - u.2) * n < (u.1 - t.1) * d
        rw [Int.sub_mul, Int.sub_mul]
        omega)
    refine decide_eq_true ?_
    change 0 < (spanM t rays roof).1.2 at a1
    change (spanM t rays roof).1.1 * d ≤ (spanM t rays roof).1.2 * n at a2
    change 0 < (spanM t rays roof).2.2 at b1
    change (spanM t rays roof).2.2 * n < (spanM t rays roof).2.1 * d at b2
    generalize (spanM t rays roof).1 = lo at *
    generalize (spanM t rays roof).2 = hi at *
    have m1 := Int.mul_le_mul_of_nonneg_right a2 (Int.le_of_lt b1)
    have m2 := Int.mul_lt_mul_of_pos_right b2 a1
    have m3 : lo.1 * hi.2 * d < hi.1 * lo.2 * d := by grind
    exact Int.lt_of_mul_lt_mul_right m3 (Int.le_of_lt hd)
  · have eq : n = roof * d := by omega
    obtain ⟨t, ht, h⟩ := least_of (fun l => vA l n d) (fun l => -l.2) rays ne
    have le : ∀ u ∈ rays, vA t n d ≤ vA u n d := fun u hu => by
      have := h u hu
      omega
    refine ⟨t, ht, ?_, le q hq⟩
    have np : 0 < n := by
      rw [eq]
      exact Int.mul_pos hr hd
    obtain ⟨⟨a1, a2⟩, b1, b2⟩ := span_fold (t := t) (A := fun l => 0 < l.2 ∧ l.1 * d < l.2 * n) (B := fun l => 0 < l.2 ∧ l.2 * n ≤ l.1 * d) rays ((0, 1), (roof, 1)) ⟨by show (0 : Int) < 1; decide, by show 0 * d < 1 * n; omega⟩ ⟨by show (0 : Int) < 1; decide, by show 1 * n ≤ roof * d; omega⟩ (fun u hu => by
      refine ⟨fun e => ⟨by show 0 < u.2 - t.2; omega, ?_⟩, fun e => ⟨by show 0 < t.2 - u.2; omega, ?_⟩, same t u (le u hu)⟩
      · have : vA t n d < vA u n d := by
          rcases h u hu with h | ⟨_, h⟩
          · exact h
          · have h : -t.2 ≤ -u.2 := h
            omega
        unfold vA at this
        show (t.1 - u.1) * d < (u.2 - t.2) * n
        rw [Int.sub_mul, Int.sub_mul]
        omega
      · have := le u hu
        unfold vA at this
        show (t.2 - u.2) * n ≤ (u.1 - t.1) * d
        rw [Int.sub_mul, Int.sub_mul]
        omega)
    refine decide_eq_true ?_
    change 0 < (spanM t rays roof).1.2 at a1
    change (spanM t rays roof).1.1 * d < (spanM t rays roof).1.2 * n at a2
    change 0 < (spanM t rays roof).2.2 at b1
    change (spanM t rays roof).2.2 * n ≤ (spanM t rays roof).2.1 * d at b2
    generalize (spanM t rays roof).1 = lo at *
    generalize (spanM t rays roof).2 = hi at *
    have m1 := Int.mul_lt_mul_of_pos_right a2 b1
    have m2 := Int.mul_le_mul_of_nonneg_right b2 (Int.le_of_lt a1)
    have m3 : lo.1 * hi.2 * d < hi.1 * lo.2 * d := by grind
    exact Int.lt_of_mul_lt_mul_right m3 (Int.le_of_lt hd)
/-! ### the settings at which two lines meet -/
def meetS (roof : Int) (l u : Ln) (found : List (Int × Int)) : List (Int × Int) :=
  if u.2 < l.2 ∧ l.1 < u.1 ∧ u.1 - l.1 < roof * (l.2 - u.2) then
    (if (found.any fun p => decide (p.1 * (l.2 - u.2) = (u.1 - l.1) * p.2)) = true then found else found ++ [(u.1 - l.1, l.2 - u.2)]) else found
def meetM (rays : List Ln) (roof : Int) : List (Int × Int) := rays.foldl (fun f l => rays.foldl (fun f u => meetS roof l u f) f) [(0, 1), (roof, 1)]
/-- what stands in found -/
structure MeetOk (roof : Int) (f : List (Int × Int)) : Prop where
  m0 : ((0, 1) : Int × Int) ∈ f
  mr : (roof, (1 : Int)) ∈ f
  inn : ∀ p ∈ f, 0 < p.2 ∧ 0 ≤ p.1 ∧ p.1 ≤ roof * p.2
  ne : f.Pairwise fun p q => p.1 * q.2 ≠ q.1 * p.2
theorem meetS_ok {roof : Int} {l u : Ln} {f : List (Int × Int)} (h : MeetOk roof f) : MeetOk roof (meetS roof l u f) ∧ (∀ p ∈ f, p ∈ meetS roof l u f) ∧ (Bf l u → u.1 - l.1 < roof * (l.2 - u.2) → ∃ p ∈ meetS roof l u f, p.1 * (l.2 - u.2) = (u.1 - l.1) * p.2) := by
  unfold meetS
  by_cases c : u.2 < l.2 ∧ l.1 < u.1 ∧ u.1 - l.1 < roof * (l.2 - u.2)
  · rw [if_pos c]
    by_cases a : (f.any fun p => decide (p.1 * (l.2 - u.2) = (u.1 - l.1) * p.2)) = true
    · rw [if_pos a]
      refine ⟨h, fun p hp => hp, fun _ _ => ?_⟩
      obtain ⟨p, hp, e⟩ := List.any_eq_true.mp a
      exact ⟨p, hp, of_decide_eq_true e⟩
    · rw [if_neg a]
      refine ⟨⟨List.mem_append_left _ h.m0, List.mem_append_left _ h.mr, fun p hp => ?_, ?_⟩, fun p hp => List.mem_append_left _ hp, fun _ _ => ⟨_, List.mem_append_right _ (List.mem_singleton.mpr rfl), ?_⟩⟩
      · rcases List.mem_append.mp hp with hp | hp
        · exact h.inn p hp
        · cases List.mem_singleton.mp hp
          exact ⟨by show 0 < l.2 - u.2; omega, by show 0 ≤ u.1 - l.1; omega, by show u.1 - l.1 ≤ roof * (l.2 - u.2); omega⟩
      · refine List.pairwise_append.mpr ⟨h.ne, List.pairwise_singleton _ _, fun p hp q hq e => ?_⟩
        cases List.mem_singleton.mp hq
        exact a (List.any_eq_true.mpr ⟨p, hp, decide_eq_true e⟩)
      · exact Int.mul_comm _ _ ▸ rfl
  · rw [if_neg c]
    exact ⟨h, fun p hp => hp, fun b lt => absurd ⟨b.2, b.1, lt⟩ c⟩
theorem meet_in {roof : Int} {l : Ln} : ∀ (us : List Ln) (f : List (Int × Int)), MeetOk roof f → MeetOk roof (us.foldl (fun f u => meetS roof l u f) f) ∧ (∀ p ∈ f, p ∈ us.foldl (fun f u => meetS roof l u f) f) ∧
    ∀ u ∈ us, Bf l u → u.1 - l.1 < roof * (l.2 - u.2) → ∃ p ∈ us.foldl (fun f u => meetS roof l u f) f, p.1 * (l.2 - u.2) = (u.1 - l.1) * p.2
  | [], f, h => ⟨h, fun p hp => hp, fun u hu => by cases hu⟩
  | u :: us, f, h => by
    obtain ⟨a1, a2, a3⟩ := meetS_ok (l := l) (u := u) h
    obtain ⟨b1, b2, b3⟩ := meet_in us _ a1
    refine ⟨b1, fun p hp => b2 p (a2 p hp), fun v hv bf lt => ?_⟩
    rcases List.mem_cons.mp hv with rfl | hv
    · obtain ⟨p, hp, e⟩ := a3 bf lt
      exact ⟨p, b2 p hp, e⟩
    · exact b3 v hv bf lt
theorem meet_out {roof : Int} {rays : List Ln} : ∀ (ls : List Ln) (f : List (Int × Int)), MeetOk roof f → MeetOk roof (ls.foldl (fun f l => rays.foldl (fun f u => meetS roof l u f) f) f) ∧ (∀ p ∈ f, p ∈ ls.foldl (fun f l => rays.foldl (fun f u => meetS roof l u f) f) f) ∧
    ∀ l ∈ ls, ∀ u ∈ rays, Bf l u → u.1 - l.1 < roof * (l.2 - u.2) → ∃ p ∈ ls.foldl (fun f l => rays.foldl (fun f u => meetS roof l u f) f) f, p.1 * (l.2 - u.2) = (u.1 - l.1) * p.2
  | [], f, h => ⟨h, fun p hp => hp, fun u hu => by cases hu⟩
  | l :: ls, f, h => by
    obtain ⟨a1, a2, a3⟩ := meet_in (l := l) rays f h
    obtain ⟨b1, b2, b3⟩ := meet_out (rays := rays) ls _ a1
    refine ⟨b1, fun p hp => b2 p (a2 p hp), fun v hv u hu bf lt => ?_⟩
    rcases List.mem_cons.mp hv with rfl | hv
    · obtain ⟨p, hp, e⟩ := a3 u hu bf lt
      exact ⟨p, b2 p hp, e⟩
    · exact b3 v hv u hu bf lt
theorem meet_ok {rays : List Ln} {roof : Int} (hr : 0 < roof) : MeetOk roof (meetM rays roof) ∧ ∀ l ∈ rays, ∀ u ∈ rays, Bf l u → u.1 - l.1 < roof * (l.2 - u.2) → ∃ p ∈ meetM rays roof, p.1 * (l.2 - u.2) = (u.1 - l.1) * p.2 := by
  have h0 : MeetOk roof [(0, 1), (roof, 1)] := by
    refine ⟨by simp, by simp, fun p hp => ?_, ?_⟩
    · simp only [List.mem_cons, List.not_mem_nil, or_false] at hp
      rcases hp with rfl | rfl
      · exact ⟨by decide, by decide, by show (0 : Int) ≤ roof * 1; omega⟩
      · exact ⟨by show (0 : Int) < 1; decide, by show 0 ≤ roof; omega, by show roof ≤ roof * 1; omega⟩
    · refine List.pairwise_cons.mpr ⟨fun q hq => ?_, List.pairwise_singleton _ _⟩
      cases List.mem_singleton.mp hq
      show (0 : Int) * 1 ≠ roof * 1
      omega
  obtain ⟨a, _, c⟩ := meet_out (rays := rays) rays _ h0
  exact ⟨a, c⟩
/-- one denominator for all -/
def flatM (f : List (Int × Int)) : Int := f.foldl (fun F p => if F % p.2 ≠ 0 then F * p.2 else F) 1
theorem flat_ok : ∀ (f : List (Int × Int)) (F : Int), 0 < F → (∀ p ∈ f, 0 < p.2) → 0 < f.foldl (fun F p => if F % p.2 ≠ 0 then F * p.2 else F) F ∧ F ∣ f.foldl (fun F p => if F % p.2 ≠ 0 then F * p.2 else F) F ∧ ∀ p ∈ f, p.2 ∣ f.foldl (fun F p => if F % p.2 ≠ 0 then F * p.2 else F) F
  | [], F, h, _ => ⟨h, Int.dvd_refl _, fun p hp => by cases hp⟩
  | p :: f, F, h, hp => by
    have p0 := hp p (List.mem_cons_self ..)
    have st : 0 < (if F % p.2 ≠ 0 then F * p.2 else F) ∧ F ∣ (if F % p.2 ≠ 0 then F * p.2 else F) ∧ p.2 ∣ (if F % p.2 ≠ 0 then F * p.2 else F) := by
      by_cases c : F % p.2 ≠ 0
      · rw [if_pos c]
        exact ⟨Int.mul_pos h p0, Int.dvd_mul_right _ _, Int.dvd_mul_left _ _⟩
      · rw [if_neg c]
        exact ⟨h, Int.dvd_refl _, Int.dvd_of_emod_eq_zero (by omega)⟩
    obtain ⟨a, b, c⟩ := flat_ok f _ st.1 fun q hq => hp q (List.mem_cons_of_mem _ hq)
    refine ⟨a, Int.dvd_trans st.2.1 b, fun q hq => ?_⟩
    rcases List.mem_cons.mp hq with rfl | hq
    · exact Int.dvd_trans st.2.2 b
    · exact c q hq
/-- the places, put in order, are places -/
theorem places_ok {rays : List Ln} {roof : Int} (hr : 0 < roof) {ps : List Int} (hp : ps.Perm ((meetM rays roof).map fun p => p.1 * (flatM (meetM rays roof) / p.2))) (hs : ps.Pairwise (· ≤ ·)) : Places rays roof (flatM (meetM rays roof)) ps := by
  obtain ⟨M, cr⟩ := meet_ok (rays := rays) hr
  generalize meetM rays roof = f at *
  obtain ⟨F0, _, dv⟩ := flat_ok f 1 (by decide) fun p hp => (M.inn p hp).1
  change 0 < flatM f at F0
  change ∀ p ∈ f, p.2 ∣ flatM f at dv
  generalize flatM f = F at *
  have mem : ∀ x, x ∈ ps ↔ ∃ p ∈ f, p.1 * (F / p.2) = x := fun x => by
    rw [hp.mem_iff, List.mem_map]
  have quo : ∀ p ∈ f, p.2 * (F / p.2) = F := fun p hp => Int.mul_ediv_cancel' (dv p hp)
  refine ⟨F0, ?_, (mem 0).mpr ⟨(0, 1), M.m0, Int.zero_mul _⟩, (mem _).mpr ⟨(roof, 1), M.mr, by show roof * (F / 1) = roof * F; rw [Int.ediv_one]⟩, fun x hx => ?_, fun l hl u hu bf lt => ?_⟩
  · have nd : ps.Nodup := by
      refine hp.nodup_iff.mpr ?_
      refine List.pairwise_map.mpr (M.ne.imp_of_mem fun {p q} hp hq ne e => ne ?_)
      have e1 := quo p hp
      have e2 := quo q hq
      have m : p.1 * q.2 * F = q.1 * p.2 * F := by
        have : p.1 * (F / p.2) * (p.2 * q.2) = q.1 * (F / q.2) * (p.2 * q.2) := by rw [e]
        grind
      exact Int.eq_of_mul_eq_mul_right (by omega) m
    exact (hs.and nd).imp fun {a b} h => by
      have h1 := h.1
      have h2 := h.2
      omega
  · obtain ⟨p, hp, rfl⟩ := (mem x).mp hx
    obtain ⟨p0, p1, p2⟩ := M.inn p hp
    have e1 := quo p hp
    have q0 : 0 ≤ F / p.2 := Int.ediv_nonneg (Int.le_of_lt F0) (Int.le_of_lt p0)
    refine ⟨Int.mul_nonneg p1 q0, ?_⟩
    have m := Int.mul_le_mul_of_nonneg_right p2 q0
    rw [Int.mul_assoc, e1] at m
    exact m
  · obtain ⟨p, hp, e⟩ := cr l hl u hu bf lt
    refine ⟨_, (mem _).mpr ⟨p, hp, rfl⟩, ?_⟩
    have e1 := quo p hp
    grind
/-! ### the lowest lines of the lowest lines -/
theorem good_rows {top : Int} : ∀ {R : List Ln}, Good top R → R.Pairwise (fun y x => Bf x y)
  | [], _ => List.Pairwise.nil
  | [_], _ => List.pairwise_singleton _ _
  | y :: x :: r, g => by
    have ih := good_rows g.tail
    refine List.pairwise_cons.mpr ⟨fun z hz => ?_, ih⟩
    rcases List.mem_cons.mp hz with rfl | hz
    · exact g.1
    · exact ((List.pairwise_cons.mp ih).1 z hz).trans g.1
theorem thin_again : ∀ (l k : List Ln), Rows (k ++ l) → l.foldl thinPS k = k ++ l
  | [], k, _ => (List.append_nil k).symm
  | a :: l, k, h => by
    have e : thinPS k a = k ++ [a] := by
      unfold thinPS
      refine if_neg fun c => ?_
      obtain ⟨o, ho, le⟩ := List.any_eq_true.mp c
      have b := (List.pairwise_append.mp h).2.2 o ho a (List.mem_cons_self ..)
      unfold leP at le
      rw [Bool.and_eq_true] at le
      have := of_decide_eq_true le.2
      have := b.2
      omega
    show l.foldl thinPS (thinPS k a) = _
    rw [e, thin_again l (k ++ [a]) (by rw [List.append_assoc]; exact h), List.append_assoc]
    rfl
theorem add_again {top : Int} {a : Ln} : ∀ {R : List Ln}, Good top (a :: R) → addM top a R = a :: R
  | [], _ => rfl
  | [y], g => if_pos g.2.1
  | y :: x :: r, g => by
    unfold addM
    rw [pop_stop (g.2.2.1 x r rfl)]
    exact if_pos g.2.1
theorem low_fold {top : Int} : ∀ (l R : List Ln), Good top (l.reverse ++ R) → l.foldl (fun R l => addM top l R) R = l.reverse ++ R
  | [], R, _ => rfl
  | a :: l, R, g => by
    rw [List.reverse_cons, List.append_assoc] at g ⊢
    have g2 : Good top (a :: R) := good_at g
    show l.foldl (fun R l => addM top l R) (addM top a R) = _
    rw [add_again g2]
    exact low_fold l (a :: R) g
theorem low_again {top : Int} {T : List Ln} (ne : T ≠ []) (g : Good top T.reverse) : lowestM top T = some T := by
  have rw0 : Rows T := by
    have := good_rows g
    exact List.pairwise_reverse.mp this
  have sorted : T.mergeSort pairLe = T := List.mergeSort_of_pairwise (rw0.imp fun {a b} h => decide_eq_true (.inl h.1))
  have e1 : thinP T = T := by
    unfold thinP
    rw [sorted]
    exact thin_again T [] rw0
  unfold lowestM
  rw [if_neg ne, e1]
  unfold lowM
  rw [low_fold T [] (by rw [List.append_nil]; exact g), List.append_nil, List.reverse_reverse]
theorem fold_inv {α β : Type} (I : β → Prop) (g : β → α → β) : ∀ (l : List α) (b : β), I b → (∀ b x, x ∈ l → I b → I (g b x)) → I (l.foldl g b)
  | [], _, h, _ => h
  | x :: l, b, h, k => fold_inv I g l (g b x) (k b x (List.mem_cons_self ..) h) fun b y hy => k b y (List.mem_cons_of_mem _ hy)
theorem meet_bd {rays : List Ln} {roof : Int} (bd : ∀ r ∈ rays, BdR r) : ∀ p ∈ meetM rays roof, p.2 ≤ 1000 := by
  unfold meetM
  refine fold_inv (fun f : List (Int × Int) => ∀ p ∈ f, p.2 ≤ 1000) _ rays _ (fun p hp => ?_) fun f l hl hf => fold_inv (fun f : List (Int × Int) => ∀ p ∈ f, p.2 ≤ 1000) _ rays f hf fun f u hu hf p hp => ?_
  · simp only [List.mem_cons, List.not_mem_nil, or_false] at hp
    rcases hp with rfl | rfl
    · decide
    · show (1 : Int) ≤ 1000
      decide
  · obtain ⟨_, _, _, a⟩ := bd l hl
    obtain ⟨_, _, b, _⟩ := bd u hu
    unfold meetS at hp
    split at hp
    · split at hp
      · exact hf p hp
      · rcases List.mem_append.mp hp with hp | hp
        · exact hf p hp
        · cases List.mem_singleton.mp hp
          show l.2 - u.2 ≤ 1000
          omega
    · exact hf p hp
end Fb

set_option Elab.async false
set_option linter.all false
set_option maxRecDepth 100000
set_option maxHeartbeats 4000000
/-! sorted by a key that a lambda of one name tells -/
namespace Fb
open PySem PySem.Spec L2
open PyProof.Rows hiding St
open LamX (TabB Tabs TabS ExtN CodeO)

/-! ### the heap without the tables of code objects -/
/-- what is tracked but the tables -/
def noT (H : Hp) : Hp := fun b => match H b with
  | some (.tbl _) => none
  | o => o
theorem noT_at {H : Hp} {b : Addr} {o : HO} (h : H b = some o) (n : ∀ ps, o ≠ .tbl ps) : noT H b = some o := by
  unfold noT
  rw [h]
  cases o <;> first | rfl | exact absurd rfl (n _)
theorem noT_of {H : Hp} {b : Addr} {o : HO} (h : noT H b = some o) : H b = some o ∧ ∀ ps, o ≠ .tbl ps := by
  unfold noT at h
  split at h
  · cases h
  · rename_i o' hn
    refine ⟨h, fun ps e => ?_⟩
    subst e
    exact hn ps h
theorem noT_same (H : Hp) : Same (noT H) H := fun _ _ h => (noT_of h).1
theorem ext_same {H H' : Hp} (e : ExtN H H') : Same (noT H) H' := fun b o h => e b o (noT_of h).1 (noT_of h).2
theorem same_ext {H H' : Hp} (e : Same (noT H) H') : ExtN H H' := fun b o h n => e b o (noT_at h n)
theorem noT_mono {H H' : Hp} (e : Same H H') : Same (noT H) (noT H') := fun b o h => noT_at (e b o (noT_of h).1) (noT_of h).2
theorem noT_sqt {K : PySem.W.Frag} {H : Hp} {a : Addr} {xs : List V} (h : SqT K H a xs) : SqT K (noT H) a xs := by
  rcases h with (h | ⟨o, h⟩) | h
  · exact .inl (.inl (noT_at h fun _ e => nomatch e))
  · exact .inl (.inr ⟨o, noT_at h fun _ e => nomatch e⟩)
  · exact .inr h
theorem noT_sql {K : PySem.W.Frag} {H : Hp} {a : Addr} {xs : List V} (h : SqL K H a xs) : SqL K (noT H) a xs := by
  rcases h with (h | ⟨o, h⟩) | h
  · exact .inl (.inl (noT_at h fun _ e => nomatch e))
  · exact .inl (.inr ⟨o, noT_at h fun _ e => nomatch e⟩)
  · exact .inr h
mutual
theorem noT_dp {K : PySem.W.Frag} {H : Hp} : ∀ (d : PyData) {v : V}, Dp K H v d → Dp K (noT H) v d
  | .none, _, h => by cases h; exact .non
  | .bool _, _, h => by cases h; exact .bl _
  | .int _, _, h => by cases h; exact .int _
  | .str _, _, h => by cases h; exact .str _
  | .list ds, _, h => by
    cases h with
    | lst s a => exact .lst (noT_sql s) (noT_all ds a)
  | .tuple ds, _, h => by
    cases h with
    | tup s a => exact .tup (noT_sqt s) (noT_all ds a)
  | .dict _, _, h => by cases h
theorem noT_all {K : PySem.W.Frag} {H : Hp} : ∀ (ds : List PyData) {vs : List V}, DpAll K H vs ds → DpAll K (noT H) vs ds
  | [], _, h => by cases h; exact .nil
  | d :: ds, _, h => by
    cases h with
    | cons a b => exact .cons (noT_dp d a) (noT_all ds b)
end
theorem noT_bag {H : Hp} {p : Addr} (h : BagAt H p) : BagAt (noT H) p := by
  obtain ⟨q, ns, a, b⟩ := h
  exact ⟨q, ns, noT_at a (fun _ e => by unfold bagO at e; cases e), noT_at b fun _ e => nomatch e⟩
theorem tabs_same {T : List (Addr × Str)} {H H' : Hp} (t : Tabs T H) (e : Same H H') : Tabs T H' := t.ext e

/-! ### the lambda as a value -/
/-- the function at f, its code object at c' -/
def LamO (f c' : Addr) (q : Str) (params : Arguments) (body : Expr) (scope : Scope) : HO :=
  .ext fun h => ∃ pm ctv : Value, h.get? f = some (PySem.W.kla_obj "<lambda>" q params body scope [] pm c' ctv)
theorem lamO_ok {P : Program} {w : World} {H : Hp} {h : Heap} {f c' : Addr} {q : Str} {params : Arguments} {body : Expr} {scope : Scope} {pm ctv : Value} (e : h.get? f = some (PySem.W.kla_obj "<lambda>" q params body scope [] pm c' ctv)) :
    ObjOk P w H h f (LamO f c' q params body scope) :=
  ⟨⟨pm, ctv, e⟩, ⟨_, e⟩, fun h1 h2 ⟨pm, ctv, e⟩ k => ⟨pm, ctv, k _ e⟩⟩
section
variable {X : Cx} {pins : List (Addr × Obj)} {σ : L2.St} {H : Hp} {s : Shared}
theorem tabs_upd {T : List (Addr × Str)} {H : Hp} {f : Addr} {o : HO} (t : Tabs T H) (n : H f = none) : Tabs T (upd H f o) := t.ext (grow n)
theorem lam_new {T : List (Addr × Str)} {c P : Addr} {params : Arguments} {body : Expr} {scope : Scope} {pos : Pos} {q : Str} {E : Value → Shared → Prop} {Q : Value → Shared → Prop} (I : Inv X pins σ H s) (TB : TabB X.base X.mg c P) (hcode : X.env.code = .ref c)
    (eq : q = X.env.qual ++ "<lambda>") (hm : (P, q) ∈ T) (hu : ∀ p ∈ T, p.1 = P → p.2 = q) (hT : Tabs T H) (hdef : defaultsOf params X.env = ([], [])) (hfree : ∀ y ∈ scope.names, y.2 ≠ .free) (hclo : cloFrom X.env.cells scope.names [] = [])
    (k : ∀ (f c' : Addr) (H1 : Hp) (s' : Shared), Inv X pins σ H1 s' → ExtN H H1 → Tabs T H1 → H1 f = some (LamO f c' q params body scope) → H1 c' = some (CodeO c' q) → Q (.ref f) s') :
    wpAny (model X.prog X.w) X.A (eval (.Lambda params body scope pos) X.env) Q E s := by
  subst eq
  obtain ⟨ps, hP, ht, ha⟩ := hT _ hm
  have bP : s.heap.BuiltinsAt X.mg P := TB.bm.keeps I.bk
  have hP' : s.heap.get? P = some { cls := .none, data := .fields ps } := I.hok P _ hP
  have clo : closureFor scope X.env = pure [] := by
    have := closure_ok (env := X.env) (scope := scope) fun y hy e => absurd e (hfree y hy)
    rw [hclo] at this
    exact this
  -- the function is laid, once its code object is known
  have fin : ∀ (H2 : Hp) (h2 : Heap) (tk : Nat) (pm ctv : Value) (c' : Addr), Inv X pins σ H2 { s with heap := h2, toks := tk } → ExtN H H2 → Tabs T H2 → H2 c' = some (CodeO c' (X.env.qual ++ "<lambda>")) →
      Q (.ref h2.objs.size) { s with heap := h2.push (PySem.W.kla_obj "<lambda>" (X.env.qual ++ "<lambda>") params body scope [] pm c' ctv), toks := tk } := by
    intro H2 h2 tk pm ctv c' J e t hc
    have nF : H2 h2.objs.size = none := J.hok.fresh (Nat.le_refl _)
    refine k h2.objs.size c' (upd H2 h2.objs.size (LamO h2.objs.size c' (X.env.qual ++ "<lambda>") params body scope)) _ (J.laid (t' := tk) (fun b u z => Heap.get?_push_of_some _ z) (Nat.le_refl _) (lamO_ok (Heap.get?_push_size _ rfl)))
      (e.trans (ExtN.of (grow nF))) (tabs_upd t nF) upd_same ((grow nF) _ _ hc)
  refine PySem.W.kla_eval hdef ?_
  cases hc : codeAmong pos ps.toList with
  | none =>
    refine PySem.W.kla_makeFunction (mg := X.mg) (c := c) (P := P) (ps := ps) clo I.ok.glob (I.mod.glob.keeps I.bk) hcode (TB.code.keeps I.bk) hP' ht hc TB.gP bP fun c' ctv h' tk hx hge hlt hrec htb => ?_
    obtain ⟨c2, oc, vs, t, e2, hoc, hd, hv⟩ := hrec
    cases e2
    have nC : H c' = none := I.hok.fresh hge
    have J := LamX.inv_table (t' := tk) (q := X.env.qual ++ "<lambda>") (more := #[rawInt pos.line, rawInt pos.col, .ref c']) (h' := h') I hP (fun b o hb e => hx b o hb e) htb hge ⟨oc, vs, t, hoc, hd, hv⟩
    have hE : ExtN H (upd (upd H P (.tbl (ps ++ #[rawInt pos.line, rawInt pos.col, .ref c']))) c' (CodeO c' (X.env.qual ++ "<lambda>"))) := by
      intro b o e n
      rw [upd_ne (ne_of_none e nC), upd_ne]
      · exact e
      · intro z
        subst z
        exact n ps (Option.some.inj (e.symm.trans hP))
    have eL : (ps ++ #[rawInt pos.line, rawInt pos.col, Value.ref c']).toList = ps.toList ++ [rawInt pos.line, rawInt pos.col, .ref c'] := by simp
    refine fin _ h' tk _ ctv c' J hE (fun p hp => ?_) upd_same
    by_cases hb : p.1 = P
    · rw [hu p hp hb, hb]
      refine ⟨_, (upd_ne (ne_of_none hP nC)).trans upd_same, ?_, ?_⟩
      · rw [eL]
        exact PySem.TriplesOk_snoc _ _ _ _ ht
      · intro p' cv hcv
        rw [eL] at hcv
        rcases LamX.among_app _ ht hcv with z | z
        · obtain ⟨c0, e1, e2⟩ := ha p' cv z
          exact ⟨c0, e1, hE _ _ e2 LamX.codeO_ne⟩
        · exact ⟨c', z, upd_same⟩
    · obtain ⟨ps', a1, a2, a3⟩ := hT p hp
      refine ⟨ps', ?_, a2, ?_⟩
      · rw [upd_ne (ne_of_none a1 nC), upd_ne hb]
        exact a1
      · intro p' cv hcv
        obtain ⟨c0, e1, e2⟩ := a3 p' cv hcv
        exact ⟨c0, e1, hE _ _ e2 LamX.codeO_ne⟩
  | some cv =>
    obtain ⟨c', e, hco⟩ := ha pos cv hc
    subst e
    refine PySem.W.kla_makeFunctionHit (mg := X.mg) (c := c) (P := P) (ps := ps) clo I.ok.glob (I.mod.glob.keeps I.bk) hcode (TB.code.keeps I.bk) hP' ht hc bP fun ctv h' tk hx hsz => ?_
    exact fin H h' tk _ ctv c' (I.kept hx) (ExtN.refl H) hT hco
/-- a lambda, made -/
def tLamV (T : List (Addr × Str)) (q : Str) (params : Arguments) (body : Expr) (scope : Scope) : TE := fun σ H Q => Tabs T H ∧ ∀ f c' H1, ExtN H H1 → Tabs T H1 → H1 f = some (LamO f c' q params body scope) → H1 c' = some (CodeO c' q) → Q (.ref f) H1
theorem pe_lamV {T : List (Addr × Str)} {c P : Addr} {params : Arguments} {body : Expr} {scope : Scope} {pos : Pos} {q : Str} (TB : TabB X.base X.mg c P) (hcode : X.env.code = .ref c)
    (eq : q = X.env.qual ++ "<lambda>") (hm : (P, q) ∈ T) (hu : ∀ p ∈ T, p.1 = P → p.2 = q) (hdef : defaultsOf params X.env = ([], [])) (hfree : ∀ y ∈ scope.names, y.2 ≠ .free) (hclo : cloFrom X.env.cells scope.names [] = []) :
    PE X (.Lambda params body scope pos) (tLamV T q params body scope) := by
  refine ⟨fun pins s σ H Q I h => ?_⟩
  obtain ⟨hT, h⟩ := h
  exact lam_new I TB hcode eq hm hu hT hdef hfree hclo fun f c' H1 s' J e t h1 h2 => ⟨.ref f, H1, J, rfl, h f c' H1 e t h1 h2⟩
end

/-! ### a key: the negative of an item -/
/-- lambda x: -x[i] -/
structure NegKey (x : Str) (i : Int) (j : Nat) (params : Arguments) (body : Expr) (scope : Scope) : Prop where
  shape : ∃ p1 k p2 p3 p4, body = .UnaryOp .USub (.Subscript (.Name x p1) (.Constant (.int i) k p2) p3) p4
  kind : scope.kind = .function
  co : scope.isCoroutine = false
  gen : scope.isGenerator = false
  cell : ∀ y ∈ scope.names, y.2 ≠ .cell
  own : scope.names.lookup x = some .local
  bug : (x == ("__debug__" : Str)) = false
  bind : ∀ (q : Str) (pm cdv ctv v : Value), bindArgs (PySem.W.kla_fn "<lambda>" q params body scope [] pm cdv ctv) ⟨[v], []⟩ = pure [(x, v)]
  ix : i = j
  small : j < 1000
theorem neg_key {P : Program} {w : World} {A : Around} {s : Shared} {f c' t : Addr} {x q : Str} {i : Int} {j : Nat} {params : Arguments} {body : Expr} {scope : Scope} {pm ctv : Value} {items : Array Value} {z : Int} {tz : Tok} (N : NegKey x i j params body scope)
    (ho : s.heap.get? f = some (PySem.W.kla_obj "<lambda>" q params body scope [] pm c' ctv)) (hc : s.heap.CodeRec (.ref c') q) (lim : s.heap.NoLimit) (room : A.depth < recursionLimit) (ht : IsTup s.heap t items) (hx : items[j]? = some (.int z tz)) :
    wpAny (model P w) A (call (.ref f) [.ref t]) (PySem.W.KeyPure (.int (-z)) s) (fun _ _ => False) s := by
  obtain ⟨p1, k, p2, p3, p4, eb⟩ := N.shape
  have bind := N.bind q pm (.ref c') ctv (.ref t)
  refine wpAny_call (codeAny_mono (R := fun r s' => ∃ v, r = .ok (.ret v) ∧ PySem.W.KeyPure (.int (-z)) s v s') ?_ ?_)
  · refine PySem.W.kla_callFunE room ho rfl N.co N.gen rfl hc ?_
    rw [bind]
    refine wpAny_pure (wpAny_newFunctionEnv N.cell ?_ (fun h₁ hns hsb => ⟨lim.fresh _ hsb, ?_⟩) N.kind)
    · intro y hy
      rw [List.mem_singleton.mp hy]
      exact N.own
    · have kp : ∀ b o, s.heap.get? b = some o → h₁.get? b = some o := fun b o e => hsb.extBut b o (Nat.ne_of_lt (Heap.lt_size e)) (Heap.get?_push_of_some _ e)
      refine PySem.W.kla_codeExpr ?_
      rw [eb]
      refine UnaryOp_ (wpAny_Subscript_Constant_late (wpAny_Name (wpAny_loadName_local N.kind N.own hns (v := .ref t) ?_ ?_) N.bug))
      · show List.lookup x [(x, Value.ref t)] = some (.ref t)
        simp [List.lookup]
      · refine wpAny_Constant_int ?_
        have e := N.ix
        subst e
        have sm := N.small
        have lt : j < items.size := (Array.getElem?_eq_some_iff.mp hx).1
        refine ⟨"tuple", _, slot_tuple_getitem.lookup, (ht.keeps kp).typeIs, getItem_tuple (j := j) (ht.keeps kp) (by omega) (by omega) ?_ hx ?_⟩
        · unfold seqIndex?
          simp only [show ¬ ((j : Int) < 0) by omega, if_false]
          rw [if_pos]
          · simp
          · simp only [Bool.and_eq_true, decide_eq_true_eq]
            omega
        · exact neg_int ⟨_, rfl, h₁, _, rfl, kp, .int _ _⟩
  · rintro r s' ⟨v, rfl, h⟩
    exact h
/-- sorted(xs, key=lambda x: -x[i]): the items in some order -/
def rSortNeg (K : PySem.W.Frag) (j : Nat) (q : Str) (params : Arguments) (body : Expr) (scope : Scope) : List V → List V → Hp → VK → Prop := fun vs ws H Q => ∃ (a f c' : Addr) (zs : List (V × List Int)), vs = [V.ref a] ∧ ws = [V.ref f] ∧ SqL K H a (zs.map Prod.fst) ∧
  (∀ z ∈ zs, TupI K H z.1 z.2 ∧ j < z.2.length) ∧ H f = some (LamO f c' q params body scope) ∧ H c' = some (CodeO c' q) ∧ ∀ (p : Addr) (zs' : List (V × List Int)), zs'.Perm zs → H p = none → Q (.ref p) (upd H p (.lst (zs'.map Prod.fst)))
theorem negs_vals : ∀ {zs : List (V × List Int)} {us : List Value}, Vals (zs.map Prod.fst) us → PySem.W.EachIs (fun u (z : V × List Int) => RelV z.1 u) us zs
  | [], _, h => by
    cases h
    exact .nil
  | z :: r, _, h => by
    cases h with
    | cons a b => exact .cons a (negs_vals b)
theorem vals_negs : ∀ {zs : List (V × List Int)} {us : List Value}, PySem.W.EachIs (fun u (z : V × List Int) => RelV z.1 u) us zs → Vals (zs.map Prod.fst) us
  | _, _, .nil => .nil
  | _, _, .cons a b => .cons a (vals_negs b)
theorem cr_sortNeg {X : Cx} {k : Nat} {x q : Str} {i : Int} {j : Nat} {params : Arguments} {body : Expr} {scope : Scope} (hr : Room k X.A) (N : NegKey x i j params body scope) : CallRK X (.builtin "sorted") [Str.ofString "key"] (rSortNeg X.K j q params body scope) := by
  intro pins s σ H vs ws us us2 Q I r r2 h
  obtain ⟨a, f, c', zs, rfl, rfl, hs, hz, hf, hc, k⟩ := h
  rw [Vals.ref1 r, Vals.ref1 r2]
  obtain ⟨its, rv, hl, hz2⟩ := I.list hs
  obtain ⟨⟨pm, ctv, ef⟩, _, _⟩ := I.hok f _ hf
  obtain ⟨⟨oc, cvs, ct, ec, dc, vc⟩, _, _⟩ := I.hok c' _ hc
  have un := hr.un
  have dp := hr.dp
  rw [List.length_map] at hz2
  refine PySem.W.sorted_key_data (b := false) (bs := zs) (R := fun u (z : V × List Int) => RelV z.1 u) (fun z : V × List Int => .int (-(z.2.getD j 0))) hl.isList (negs_vals rv) (PySem.W.AllAlike.of fun _ _ => rfl)
    (PySem.W.Sortable.others fun b => ⟨(fun h => nomatch h), fun xs h => nomatch h⟩) hz2 (fun z _ => ?_) (PyProof.Rows.ksk_s1 _ _) (fun _ => PyProof.Rows.ksk_l1 _ _) (fun _ => PyProof.Rows.ksk_t1 _ _) (fun v z rz mz h tk kp => ?_) fun out c h' tk kp fr hD lo eo => ?_
  · show X.A.units + 2 + 0 < _
    omega
  · obtain ⟨⟨A1, e1, sA⟩, lt⟩ := hz z mz
    rw [e1] at rz
    cases rz
    obtain ⟨its2, rv2, hl2, _⟩ := I.tuple sA
    have g : (z.2.map V.int)[j]? = some (.int (z.2.getD j 0)) := by
      rw [List.getElem?_map, List.getElem?_eq_getElem lt, List.getD_eq_getElem?_getD, List.getElem?_eq_getElem lt]
      rfl
    obtain ⟨u, eu, ru⟩ := rv2.get g
    obtain ⟨tz, rfl⟩ := ru
    exact neg_key (s := { s with heap := h, toks := tk }) N (kp _ _ ef) ⟨c', oc, cvs, ct, rfl, kp _ _ ec, dc, vc⟩ (I.nolimit.keeps kp) (by show X.A.depth < _; omega) (hl2.keeps kp) (by simpa using eu)
  · have pm2 : (zs.mergeSort (PySem.W.dataLe false fun z : V × List Int => .int (-(z.2.getD j 0)))).Perm zs := List.mergeSort_perm _ _
    refine ⟨.ref _, upd H (s.heap.objs.size + 1) (.lst ((zs.mergeSort (PySem.W.dataLe false fun z : V × List Int => .int (-(z.2.getD j 0)))).map Prod.fst)), I.laid (t' := tk) kp (Nat.le_succ _) ⟨?_, out, c, vals_negs eo, hD⟩, rfl, k _ _ pm2 (I.hok.fresh (Nat.le_succ _))⟩
    rw [List.length_map, pm2.length_eq]
    exact hz2
theorem setOf_K {X : Cx} {K : PySem.W.Frag} {P : Program} {w : World} (eK : X.K = K) (eP : X.prog = P) (ew : X.w = w) (hc : X.calm = true) (hu : X.A.units + 64 < cLine) : CallR X (.type "set") (rSetOfT K P w) := by
  subst eK eP ew
  exact cr_setOfT hc hu
theorem sortedT_K {X : Cx} {K : PySem.W.Frag} {P : Program} {w : World} (eK : X.K = K) (eP : X.prog = P) (ew : X.w = w) (hc : X.calm = true) : CallR X (.builtin "sorted") (rSortedT K P w) := by
  subst eK eP ew
  exact cr_sortedT hc
theorem room_set {k : Nat} {A : Around} (hr : Room k A) : A.units + 64 < cLine := by
  have := hr.un
  omega
/-- sorted(e, key=lambda x: -x[i]) -/
theorem pe_sortNeg {X : Cx} {K : PySem.W.Frag} {k : Nat} {T : List (Addr × Str)} {c P : Addr} {x q : Str} {i : Int} {j : Nat} {params : Arguments} {body : Expr} {scope : Scope} {p lpos kpos pos : Pos} {e : Expr} {te : TE} (eK : X.K = K) (hr : Room k X.A) (hg : Gl X "sorted") (hm : X.mg "sorted" = none) (he0 : PE X e te)
    (TB : TabB X.base X.mg c P) (hcode : X.env.code = .ref c) (eq : q = X.env.qual ++ "<lambda>") (hT : (P, q) ∈ T) (hu : ∀ p ∈ T, p.1 = P → p.2 = q) (N : NegKey x i j params body scope) (hdef : defaultsOf params X.env = ([], []) := by rfl) (hfree : ∀ y ∈ scope.names, y.2 ≠ .free := by decide)
    (hclo : cloFrom X.env.cells scope.names [] = [] := by rfl) (hse : starEach [e] X.env = (false, eval e X.env) :: starEach [] X.env := by rfl) (he : backTo pos (starEach [e] X.env) = (false, eval e X.env) :: backTo pos (starEach [] X.env) := by rfl) (hpl : (backTo pos (starEach [e] X.env)).any (·.1) = false := by rfl) :
    PE X (.Call (.Name "sorted" p) [e] [⟨some "key", .Lambda params body scope lpos, kpos⟩] pos) (tCKw (rSortNeg K j q params body scope) (tCons te tNil) (tCons (tLamV T q params body scope) tNil)) := by
  subst eK
  exact pe_callBK (cr_sortNeg hr N) hg hm (by decide +kernel) (pa_cons he0 pa_nil (hs := hse)) (pk_cons (pe_lamV TB hcode eq hT hu hdef hfree hclo) pk_nil) (by decide) (by decide) he hpl rfl rfl rfl
end Fb

set_option Elab.async false
set_option linter.all false
set_option maxRecDepth 100000
set_option maxHeartbeats 4000000
/-! rows of ints compared, looked for in a list; what least things say -/
namespace Fb
open PySem PySem.Spec L2
open PyProof.Rows hiding St
theorem eqv_ln (p q : Ln) : PyData.eqv (rowD (tol p)) (rowD (tol q)) = decide (p = q) := by
  obtain ⟨a, b⟩ := p
  obtain ⟨c, d⟩ := q
  show PyData.eqv (.tuple [.int a, .int b]) (.tuple [.int c, .int d]) = _
  simp only [PyData.eqv, PyData.eqvAll, Bool.and_true]
  by_cases h1 : a = c
  · by_cases h2 : b = d
    · simp [h1, h2]
    · simp [h2]
  · simp [h1]
theorem any_eqv (t : Ln) (rays : List Ln) : ((rays.map fun r => rowD (tol r)).any fun z => PyData.eqv z (rowD (tol t))) = rays.any fun r => decide (r = t) := by
  induction rays with
  | nil => rfl
  | cons r l ih =>
    rw [List.map_cons, List.any_cons, List.any_cons, ih, eqv_ln]
theorem depth_ln (p : Ln) : (rowD (tol p)).depth = 1 := by
  simp [rowD, tol, PyData.depth, PyData.depthAll]
theorem depthAll_ln : ∀ rays : List Ln, PyData.depthAll (rays.map fun r => rowD (tol r)) ≤ 1
  | [] => by simp [PyData.depthAll]
  | r :: l => by
    have ih := depthAll_ln l
    simp only [List.map_cons, PyData.depthAll, depth_ln]
    exact Nat.max_le.mpr ⟨Nat.le_refl _, ih⟩
theorem lay_ln : ∀ rays : List Ln, PyData.canLayAll0 (rays.map fun r => rowD (tol r)) = true
  | [] => by simp [PyData.canLayAll0]
  | r :: l => by
    have ih := lay_ln l
    simp only [List.map_cons, PyData.canLayAll0, ih, Bool.and_true]
    simp [rowD, tol, PyData.canLay0, PyData.canLayAll0]
theorem shaped_ln (p : Ln) : SeqAt.shaped (rowD (tol p)) = true := by
  unfold SeqAt.shaped
  rw [depth_ln]
  simp [rowD, tol, PyData.canLay0, PyData.canLayAll0]
theorem shaped_lns (rays : List Ln) : SeqAt.shaped (.list (rays.map fun r => rowD (tol r))) = true := by
  unfold SeqAt.shaped
  have h := depthAll_ln rays
  have h2 : PyData.depth (.list (rays.map fun r => rowD (tol r))) ≤ 64 := by
    simp only [PyData.depth]
    omega
  rw [decide_eq_true h2]
  simp only [PyData.canLay0, lay_ln, Bool.true_and]
theorem in_D {X : Cx} {K : PySem.W.Frag} (e : X.K = K) (hu : X.A.units + 65 < cLine) : OpR X (compareOp .In) (rInD K) := e ▸ op_inD hu
theorem room65 {k : Nat} {A : Around} (hr : Room k A) : A.units + 65 < cLine := by
  have := hr.un
  omega
/-- the least of what is read of some is the least of what is read of all -/
theorem least_same {T rays : List Ln} {f : Ln → Int} {a b : Int} (sub : ∀ t ∈ T, t ∈ rays) (cov : ∀ q ∈ rays, ∃ t ∈ T, f t ≤ f q) (ha : a ∈ T.map f) (la : ∀ y ∈ T.map f, a ≤ y) (hb : b ∈ rays.map f) (lb : ∀ y ∈ rays.map f, b ≤ y) : a = b := by
  obtain ⟨t, ht, rfl⟩ := List.mem_map.mp ha
  obtain ⟨q, hq, rfl⟩ := List.mem_map.mp hb
  obtain ⟨u, hu, le⟩ := cov q hq
  have h1 := la _ (List.mem_map_of_mem hu)
  have h2 := lb _ (List.mem_map_of_mem (sub t ht))
  omega
theorem nodup_le {α : Type} [DecidableEq α] : ∀ {l m : List α}, l.Nodup → (∀ x ∈ l, x ∈ m) → l.length ≤ m.length
  | [], _, _, _ => Nat.zero_le _
  | x :: l, m, h, s => by
    have h := List.nodup_cons.mp h
    have hx := s x (List.mem_cons_self ..)
    have ih := nodup_le (l := l) (m := m.erase x) h.2 fun y hy => (List.mem_erase_of_ne (fun e => h.1 (by rw [← e]; exact hy))).mpr (s y (List.mem_cons_of_mem _ hy))
    rw [List.length_erase_of_mem hx] at ih
    have := List.length_pos_of_mem hx
    rw [List.length_cons]
    omega
end Fb
namespace Fb
open PySem PySem.Spec L2
open PyProof.Rows hiding St
theorem low_len {top : Int} {rays L : List Ln} (h : lowestM top rays = some L) : L.length ≤ rays.length := by
  obtain ⟨_, sub, good, _⟩ := lowest_ok h
  have fall := good_rows good
  rw [List.pairwise_reverse] at fall
  exact nodup_le (fall.imp fun {a b} hb e => by
    subst e
    exact Int.lt_irrefl _ hb.1) sub
theorem lk_ln {n : Nat} {L : List Ln} (h : L.length ≤ 100000) : Lk (n + 3) (lnD (some L)) := by
  refine ⟨by rw [List.length_map]; exact h, fun d hd => ?_⟩
  obtain ⟨t, _, rfl⟩ := List.mem_map.mp hd
  refine ⟨(show 2 ≤ 100000 by decide), fun d hd => ?_⟩
  obtain ⟨z, _, rfl⟩ := List.mem_map.mp hd
  exact trivial
theorem lk_lns {n : Nat} {L : List Ln} (h : L.length ≤ 100000) : Lk (n + 3) (.list (L.map fun t => rowD (tol t))) := by
  refine ⟨by rw [List.length_map]; exact h, fun d hd => ?_⟩
  obtain ⟨t, _, rfl⟩ := List.mem_map.mp hd
  refine ⟨(show 2 ≤ 100000 by decide), fun d hd => ?_⟩
  obtain ⟨z, _, rfl⟩ := List.mem_map.mp hd
  exact trivial
theorem rows_all {K : PySem.W.Frag} {H : Hp} {xs : List V} {L : List Ln} (h : RowsV K H xs (L.map tol)) : DpAll K H xs (L.map fun t => rowD (tol t)) := by
  unfold RowsV at h
  rw [List.map_map] at h
  exact h
theorem ln_dp {K : PySem.W.Frag} {H : Hp} {A : Addr} {xs : List V} {L : List Ln} (s : SqT K H A xs) (h : RowsV K H xs (L.map tol)) : Dp K H (.ref A) (lnD (some L)) := .tup s (rows_all h)
theorem noT_rows {K : PySem.W.Frag} {H : Hp} {xs : List V} {ls : List (List Int)} (h : RowsV K H xs ls) : RowsV K (noT H) xs ls := noT_all _ h
theorem noT_dial {CH : Addr} {H : Hp} {p : Addr} {top : Int} (h : DialAt CH H p top) : DialAt CH (noT H) p top := by
  obtain ⟨dx, t, h⟩ := h
  exact ⟨dx, t, noT_at h fun _ e => nomatch e⟩
theorem rows_take {K : PySem.W.Frag} {H : Hp} {xs : List V} {L : List Ln} (h : RowsV K H xs (L.map tol)) (c : Nat) : RowsV K H (xs.take c) ((L.take c).map tol) ∧ RowsV K H (xs.drop c) ((L.drop c).map tol) := by
  induction c generalizing xs L with
  | zero => exact ⟨.nil, h⟩
  | succ c ih =>
    cases L with
    | nil =>
      cases h
      exact ⟨.nil, .nil⟩
    | cons a L =>
      have h : DpAll K H xs (rowD (tol a) :: (L.map tol).map rowD) := h
      cases h with
      | cons h1 h2 =>
        obtain ⟨i1, i2⟩ := ih (L := L) h2
        exact ⟨.cons h1 i1, i2⟩
theorem cut_take {xs : List V} {c : Int} (h0 : 0 ≤ c) (h1 : c ≤ xs.length) : cutV xs none (some c) = xs.take c.toNat ∧ cutV xs (some c) none = xs.drop c.toNat := by
  obtain ⟨n, rfl⟩ := Int.eq_ofNat_of_zero_le h0
  have h1 : n ≤ xs.length := by omega
  unfold cutV
  refine ⟨?_, ?_⟩
  · rw [HT.sIx_nat, HT.sIx_none, List.drop_zero]
    show xs.take (min n xs.length - 0) = xs.take n
    rw [Nat.min_eq_left h1, Nat.sub_zero]
  · rw [HT.sIx_nat, HT.sIx_none]
    show (xs.drop (min n xs.length)).take (xs.length - min n xs.length) = xs.drop n
    rw [Nat.min_eq_left h1]
    exact List.take_of_length_le (by rw [List.length_drop]; exact Nat.le_refl _)
theorem prod_rows {K : PySem.W.Frag} {H : Hp} {xs2 : List V} {p2 : List Ln} (h2 : RowsV K H xs2 (p2.map tol)) : ∀ {p1 : List Ln} {xs1 : List V}, RowsV K H xs1 (p1.map tol) → ∀ {i : Nat} {z : V × V}, (prodV xs1 xs2)[i]? = some z →
    ∃ p q, TupI K H z.1 (tol p) ∧ TupI K H z.2 (tol q) ∧ p ∈ p1 ∧ q ∈ p2 ∧ (sumsM p1 p2)[i]? = some (p.1 + q.1, p.2 + q.2)
  | [], _, h, i, z, g => by
    cases h
    cases g
  | p :: r, _, h, i, z, g => by
    have h : DpAll K H _ (rowD (tol p) :: (r.map tol).map rowD) := h
    cases h with
    | cons a b =>
      rename_i x xs
      have len := h2.len
      rw [List.length_map] at len
      have g : (xs2.map (fun y => (x, y)) ++ prodV xs xs2)[i]? = some z := g
      show ∃ p' q, _ ∧ _ ∧ _ ∧ _ ∧ ((p2.map fun q => (p.1 + q.1, p.2 + q.2)) ++ sumsM r p2)[i]? = _
      by_cases c : i < xs2.length
      · rw [List.getElem?_append_left (by rw [List.length_map]; exact c), List.getElem?_map, List.getElem?_eq_getElem c] at g
        cases g
        obtain ⟨q, gq, qV⟩ := line_get h2 (List.getElem?_eq_getElem c)
        refine ⟨p, q, optD_tup a, qV, List.mem_cons_self .., List.mem_of_getElem? gq, ?_⟩
        rw [List.getElem?_append_left (by rw [List.length_map, ← len]; exact c), List.getElem?_map, gq]
        rfl
      · rw [List.getElem?_append_right (by rw [List.length_map]; omega), List.length_map] at g
        obtain ⟨p', q, h1, h3, h4, h5, h6⟩ := prod_rows h2 (p1 := r) b g
        refine ⟨p', q, h1, h3, List.mem_cons_of_mem _ h4, h5, ?_⟩
        rw [List.getElem?_append_right (by rw [List.length_map]; omega), List.length_map, ← len]
        exact h6
theorem prodV_len (xs ys : List V) : (prodV xs ys).length = xs.length * ys.length := by
  unfold prodV
  rw [List.length_flatMap]
  simp [List.map_const', List.sum_replicate_nat]
end Fb

set_option Elab.async false
set_option linter.all false
set_option maxRecDepth 100000
set_option maxHeartbeats 4000000
namespace Fb
open PySem PySem.Spec L2
open PyProof.Rows hiding St
open C8 (Cal Met Mak Def cal0 met0 mak0 pe_c pe_mk pe_mt pe_mt0 fnScope fnBody fnArgs pss_cut tCut)
/-! ### the text by places -/
def topS (i : Nat) : Stmt := PySem.Challenge.pw_feeblind_k07_lines_alone_least.main.body.getD i (.Pass ⟨0, 0, 0, 0⟩)
abbrev s_is_name : Stmt := topS 9
theorem sc_is_name : FnScope ["value", "letter"] ["value"] (fnScope s_is_name) := ⟨rfl, rfl, rfl, by decide +kernel, rfl, by decide +kernel, by decide +kernel⟩
abbrev s_is_number : Stmt := topS 10
theorem sc_is_number : FnScope ["value", "least", "most"] ["value", "least", "most"] (fnScope s_is_number) := ⟨rfl, rfl, rfl, by decide +kernel, rfl, by decide +kernel, by decide +kernel⟩
abbrev s_is_at_most : Stmt := topS 14
theorem sc_is_at_most : FnScope ["one", "other", "left", "right"] ["one", "other"] (fnScope s_is_at_most) := ⟨rfl, rfl, rfl, by decide +kernel, rfl, by decide +kernel, by decide +kernel⟩
abbrev s_thin_rows : Stmt := topS 15
theorem sc_thin_rows : FnScope ["rows", "kept", "row"] ["rows"] (fnScope s_thin_rows) := ⟨rfl, rfl, rfl, by decide +kernel, rfl, by decide +kernel, by decide +kernel⟩
abbrev s_any_at_most : Stmt := topS 16
theorem sc_any_at_most : FnScope ["rows", "row", "other"] ["rows", "row"] (fnScope s_any_at_most) := ⟨rfl, rfl, rfl, by decide +kernel, rfl, by decide +kernel, by decide +kernel⟩
abbrev s_never_alone : Stmt := topS 18
theorem sc_never_alone : FnScope ["before", "line", "behind", "wins", "loses"] ["before", "line", "behind"] (fnScope s_never_alone) := ⟨rfl, rfl, rfl, by decide +kernel, rfl, by decide +kernel, by decide +kernel⟩
abbrev s_is_below_at : Stmt := topS 19
theorem sc_is_below_at : FnScope ["line", "other", "setting"] ["line", "other", "setting"] (fnScope s_is_below_at) := ⟨rfl, rfl, rfl, by decide +kernel, rfl, by decide +kernel, by decide +kernel⟩
abbrev s_lowest_lines : Stmt := topS 20
theorem sc_lowest_lines : FnScope ["lines", "top", "kept", "line"] ["lines", "top"] (fnScope s_lowest_lines) := ⟨rfl, rfl, rfl, by decide +kernel, rfl, by decide +kernel, by decide +kernel⟩
abbrev s__law_bag : Stmt := topS 23
theorem sc__law_bag : FnScope ["script", "stir", "lump"] ["script"] (fnScope s__law_bag) := ⟨rfl, rfl, rfl, by decide +kernel, rfl, by decide +kernel, by decide +kernel⟩
abbrev s__law_draw : Stmt := topS 24
theorem sc__law_draw : FnScope ["bag", "sides", "lump", "digit"] ["bag", "sides"] (fnScope s__law_draw) := ⟨rfl, rfl, rfl, by decide +kernel, rfl, by decide +kernel, by decide +kernel⟩
abbrev s__law_of : Stmt := topS 25
theorem sc__law_of : FnScope ["bag", "things"] ["bag", "things"] (fnScope s__law_of) := ⟨rfl, rfl, rfl, by decide +kernel, rfl, by decide +kernel, by decide +kernel⟩
abbrev s__law_turned : Stmt := topS 26
theorem sc__law_turned : FnScope ["bag", "things", "left", "found", "k"] ["bag", "things"] (fnScope s__law_turned) := ⟨rfl, rfl, rfl, by decide +kernel, rfl, by decide +kernel, by decide +kernel⟩
abbrev s__law_like : Stmt := topS 27
theorem sc__law_like : FnScope ["told", "due", "k", "a", "b"] ["told", "due"] (fnScope s__law_like) := ⟨rfl, rfl, rfl, by decide +kernel, rfl, by decide +kernel, by decide +kernel⟩
abbrev s__law_is_number : Stmt := topS 28
theorem sc__law_is_number : FnScope ["thing", "low"] ["thing", "low"] (fnScope s__law_is_number) := ⟨rfl, rfl, rfl, by decide +kernel, rfl, by decide +kernel, by decide +kernel⟩
abbrev s__law_span : Stmt := topS 29
theorem sc__law_span : FnScope ["ray", "rays", "roof", "low", "high", "c", "d"] ["ray", "rays", "roof"] (fnScope s__law_span) := ⟨rfl, rfl, rfl, by decide +kernel, rfl, by decide +kernel, by decide +kernel⟩
abbrev s__law_lines : Stmt := topS 30
theorem sc__law_lines : FnScope ["rays", "roof", "kept", "found", "ray", "low", "high"] ["rays", "roof"] (fnScope s__law_lines) := ⟨rfl, rfl, rfl, by decide +kernel, rfl, by decide +kernel, by decide +kernel⟩
abbrev s__law_pairs : Stmt := topS 31
theorem sc__law_pairs : FnScope ["a", "b", "found", "x", "y"] ["a", "b"] (fnScope s__law_pairs) := ⟨rfl, rfl, rfl, by decide +kernel, rfl, by decide +kernel, by decide +kernel⟩
abbrev s__law_tuple_of : Stmt := topS 32
theorem sc__law_tuple_of : FnScope ["thing", "many"] ["thing", "many"] (fnScope s__law_tuple_of) := ⟨rfl, rfl, rfl, by decide +kernel, rfl, by decide +kernel, by decide +kernel⟩
abbrev s__law_through : Stmt := topS 33
theorem sc__law_through : FnScope ["bag", "roof", "a", "b", "pick", "b_y", "at_y", "a_y"] ["bag", "roof", "a", "b"] (fnScope s__law_through) := ⟨rfl, rfl, rfl, by decide +kernel, rfl, by decide +kernel, by decide +kernel⟩
abbrev s__law_star : Stmt := topS 34
theorem sc__law_star : FnScope ["bag", "roof", "part", "slopes", "found", "k", "spot", "high", "x", "slope"] ["bag", "roof"] (fnScope s__law_star) := ⟨rfl, rfl, rfl, by decide +kernel, rfl, by decide +kernel, by decide +kernel⟩
abbrev s__law_bow : Stmt := topS 35
theorem sc__law_bow : FnScope ["bag", "k", "a", "slope", "found", "step"] ["bag"] (fnScope s__law_bow) := ⟨rfl, rfl, rfl, by decide +kernel, rfl, by decide +kernel, by decide +kernel⟩
abbrev s__law_rays : Stmt := topS 36
theorem sc__law_rays : FnScope ["bag", "roof", "style", "size", "found", "k", "x", "pick"] ["bag", "roof"] (fnScope s__law_rays) := ⟨rfl, rfl, rfl, by decide +kernel, rfl, by decide +kernel, by decide +kernel⟩
abbrev s__law_settings : Stmt := topS 37
theorem sc__law_settings : FnScope ["rays", "roof", "found", "flat", "places", "between", "a", "b", "p", "q", "c", "d", "k"] ["rays", "roof"] (fnScope s__law_settings) := ⟨rfl, rfl, rfl, by decide +kernel, rfl, by decide +kernel, by decide +kernel⟩
abbrev s__law_read_at : Stmt := topS 38
theorem sc__law_read_at : FnScope ["ray", "setting_y"] ["ray", "setting_y"] (fnScope s__law_read_at) := ⟨rfl, rfl, rfl, by decide +kernel, rfl, by decide +kernel, by decide +kernel⟩
abbrev s__law_rays_so : Stmt := topS 39
theorem sc__law_rays_so : FnScope ["told", "rays", "roof", "x", "y", "edges", "between", "least_at", "k", "z"] ["told", "rays", "roof"] (fnScope s__law_rays_so) := ⟨rfl, rfl, rfl, by decide +kernel, rfl, by decide +kernel, by decide +kernel⟩
abbrev s_Dial___init__ : Stmt := inClass (topS 21) 0
theorem sc_Dial___init__ : FnScope ["self", "wish", "slope", "top"] ["self", "wish", "slope", "top"] (fnScope s_Dial___init__) := ⟨rfl, rfl, rfl, by decide +kernel, rfl, by decide +kernel, by decide +kernel⟩
abbrev s_Dial_best : Stmt := inClass (topS 21) 1
theorem sc_Dial_best : FnScope ["self", "one", "other"] ["self", "one", "other"] (fnScope s_Dial_best) := ⟨rfl, rfl, rfl, by decide +kernel, rfl, by decide +kernel, by decide +kernel⟩
abbrev s_Dial_then : Stmt := inClass (topS 21) 2
theorem sc_Dial_then : FnScope ["self", "one", "other", "a", "b", "more", "steeper"] ["self", "one", "other"] (fnScope s_Dial_then) := ⟨rfl, rfl, rfl, by decide +kernel, rfl, by decide +kernel, by decide +kernel⟩
abbrev s_law : Stmt := topS 40
theorem sc_law : FnScope ["script", "bag", "turn", "roof", "rays", "held", "told", "cut", "made", "parts", "sums", "x", "y"] ["script"] (fnScope s_law) := ⟨rfl, rfl, rfl, by decide +kernel, rfl, by decide +kernel, by decide +kernel⟩
structure Top (K : PySem.W.Frag) (mg : Str → Option Value) (CH : Addr) : Prop where
  cl_Dial : Cls K CH
  g_Dial : mg "Dial" = some (.ref CH)
  na_wish : NoAttr K CH "wish"
  na_slope : NoAttr K CH "slope"
  na_top : NoAttr K CH "top"
  na_stay : NoAttr K CH "stay"
  d_is_name : ∃ (f : Addr) (fd : FuncData), Def K mg "is_name" s_is_name f fd ∧ fd.defaults = .none
  d_is_number : ∃ (f : Addr) (fd : FuncData), Def K mg "is_number" s_is_number f fd ∧ DflV K fd.defaults [.int 0, .non]
  d_is_at_most : ∃ (f : Addr) (fd : FuncData), Def K mg "is_at_most" s_is_at_most f fd ∧ fd.defaults = .none
  d_thin_rows : ∃ (f : Addr) (fd : FuncData), Def K mg "thin_rows" s_thin_rows f fd ∧ fd.defaults = .none
  d_any_at_most : ∃ (f : Addr) (fd : FuncData), Def K mg "any_at_most" s_any_at_most f fd ∧ fd.defaults = .none
  d_never_alone : ∃ (f : Addr) (fd : FuncData), Def K mg "never_alone" s_never_alone f fd ∧ fd.defaults = .none
  d_is_below_at : ∃ (f : Addr) (fd : FuncData), Def K mg "is_below_at" s_is_below_at f fd ∧ fd.defaults = .none
  d_lowest_lines : ∃ (f : Addr) (fd : FuncData), Def K mg "lowest_lines" s_lowest_lines f fd ∧ fd.defaults = .none
  d__law_bag : ∃ (f : Addr) (fd : FuncData), Def K mg "_law_bag" s__law_bag f fd ∧ fd.defaults = .none
  d__law_draw : ∃ (f : Addr) (fd : FuncData), Def K mg "_law_draw" s__law_draw f fd ∧ fd.defaults = .none
  d__law_of : ∃ (f : Addr) (fd : FuncData), Def K mg "_law_of" s__law_of f fd ∧ fd.defaults = .none
  d__law_turned : ∃ (f : Addr) (fd : FuncData), Def K mg "_law_turned" s__law_turned f fd ∧ fd.defaults = .none
  d__law_like : ∃ (f : Addr) (fd : FuncData), Def K mg "_law_like" s__law_like f fd ∧ fd.defaults = .none
  d__law_is_number : ∃ (f : Addr) (fd : FuncData), Def K mg "_law_is_number" s__law_is_number f fd ∧ fd.defaults = .none
  d__law_span : ∃ (f : Addr) (fd : FuncData), Def K mg "_law_span" s__law_span f fd ∧ fd.defaults = .none
  d__law_lines : ∃ (f : Addr) (fd : FuncData), Def K mg "_law_lines" s__law_lines f fd ∧ fd.defaults = .none
  d__law_pairs : ∃ (f : Addr) (fd : FuncData), Def K mg "_law_pairs" s__law_pairs f fd ∧ fd.defaults = .none
  d__law_tuple_of : ∃ (f : Addr) (fd : FuncData), Def K mg "_law_tuple_of" s__law_tuple_of f fd ∧ fd.defaults = .none
  d__law_through : ∃ (f : Addr) (fd : FuncData), Def K mg "_law_through" s__law_through f fd ∧ fd.defaults = .none
  d__law_star : ∃ (f : Addr) (fd : FuncData), Def K mg "_law_star" s__law_star f fd ∧ fd.defaults = .none
  d__law_bow : ∃ (f : Addr) (fd : FuncData), Def K mg "_law_bow" s__law_bow f fd ∧ fd.defaults = .none
  d__law_rays : ∃ (f : Addr) (fd : FuncData), Def K mg "_law_rays" s__law_rays f fd ∧ fd.defaults = .none
  d__law_settings : ∃ (f : Addr) (fd : FuncData), Def K mg "_law_settings" s__law_settings f fd ∧ fd.defaults = .none
  d__law_read_at : ∃ (f : Addr) (fd : FuncData), Def K mg "_law_read_at" s__law_read_at f fd ∧ fd.defaults = .none
  d__law_rays_so : ∃ (f : Addr) (fd : FuncData), Def K mg "_law_rays_so" s__law_rays_so f fd ∧ fd.defaults = .none
  d_Dial___init__ : ∃ (f : Addr) (fd : FuncData), Mk K CH f ∧ C8.Fun K "__init__" "Dial.__init__" s_Dial___init__ f fd ∧ fd.defaults = .none
  d_Dial_best : ∃ (f : Addr) (fd : FuncData), Meth K CH "best" f ∧ C8.Fun K "best" "Dial.best" s_Dial_best f fd ∧ fd.defaults = .none
  d_Dial_then : ∃ (f : Addr) (fd : FuncData), Meth K CH "then" f ∧ C8.Fun K "then" "Dial.then" s_Dial_then f fd ∧ fd.defaults = .none
  d_law : ∃ (f : Addr) (fd : FuncData), Def K mg "law" s_law f fd ∧ fd.defaults = .none
  all : mg "all" = none
  any : mg "any" = none
  bool : mg "bool" = none
  dict : mg "dict" = none
  int : mg "int" = none
  isinstance : mg "isinstance" = none
  len : mg "len" = none
  list : mg "list" = none
  min : mg "min" = none
  range : mg "range" = none
  reversed : mg "reversed" = none
  set : mg "set" = none
  sorted : mg "sorted" = none
  str : mg "str" = none
  tuple : mg "tuple" = none
  zip : mg "zip" = none
  m_MOST : ∃ u, mg "MOST" = some u ∧ RelV (.int 1000000) u
  m_LETTERS : ∃ u, mg "LETTERS" = some u ∧ RelV (.int 8) u
end Fb

set_option Elab.async false
set_option linter.all false
set_option maxRecDepth 100000
set_option maxHeartbeats 4000000
namespace Fb
open PySem PySem.Spec L2
open PyProof.Rows hiding St
open C8 (Cal Met Mak Def cal0 met0 mak0 pe_c pe_mk pe_mt pe_mt0 fnScope fnBody fnArgs pss_cut tCut)
local macro_rules | `(tactic| walk_at "hp") => `(tactic| first | exact upd_same | assumption | (refine grow (by assumption) _ _ ?_; walk_at "hp") | (refine (show Same _ _ by assumption) _ _ ?_; walk_at "hp"))
local macro_rules | `(tactic| walk_at "sm") => `(tactic| first | exact Same.refl _ | assumption | (refine Same.trans ?_ (grow (by assumption)); walk_at "sm") | (refine Same.trans ?_ (show Same _ _ by assumption); walk_at "sm"))
section
variable {P : Program} {w : World} {K : PySem.W.Frag} {mg : Str → Option Value} {base : Heap}
variable {CH : Addr}
/-! ### _law_bag -/
theorem cut_ints (ns : List Int) (lo hi : Option Int) : ∃ ms : List Int, cutV (ns.map V.int) lo hi = ms.map V.int := by
  unfold cutV
  rw [← List.map_drop, ← List.map_take]
  exact ⟨_, rfl⟩
def spBag (K : PySem.W.Frag) : Sp := sp1 fun a H Q => ∃ (l : Addr) (ns : List Int), a = .ref l ∧ SqL K H l (ns.map V.int) ∧ ∀ p H', Same H H' → BagAt H' p → Q (.ref p) H'
theorem c__law_bag (T : Top K mg CH) : Cal P w K mg base 1 "_law_bag" (spBag K) [] := by
  obtain ⟨f, fd, F, df⟩ := T.d__law_bag
  refine cal_of F df (fn1 F sc__law_bag fun cdv A outer s H a Q E hr h => ?_) fun _ _ _ _ _ _ us hl => match us, hl with | [_], _ => rfl
  have nd := sc__law_bag.nd
  obtain ⟨l, ns, rfl, hs, k⟩ := h
  refine ⟨_, pss_bagNew (pss_cons 
      (ps_set (i := 1) nd rfl (Or.inl rfl) pe_int) (pss_cons 
      (ps_for PassesOwn.never rfl (pi_K (K := K) rfl (pe_slice (sl_K (K := K) rfl) (pv 0) po_none (po_some pe_int))) (pg_name (i := 2) nd rfl (Or.inl rfl)) (pss_one 
      (ps_set (i := 1) nd rfl (Or.inl rfl) (pe_op op_mod (pe_callTy call_int1 (by rfl) T.int (by decide +kernel) (pa_cons (pe_op op_addU (pe_op op_addU (pe_op op_mul (pv 1) pe_int) (pe_op op_mul (pe_op op_mod (pe_callTy call_int1 (by rfl) T.int (by decide +kernel) (pa_cons (pv 2) pa_nil)) pe_int) pe_int)) pe_int) pa_nil)) pe_int)))) (pss_one 
      (ps_ret (pe_lst (pa_cons (pe_callTy (listOf_K (K := K) rfl) (by rfl) T.list (by decide +kernel) (pa_cons (pe_slice (sl_K (K := K) rfl) (pv 0) po_none (po_some pe_int)) pa_nil)) (pa_cons pe_int (pa_cons pe_int (pa_cons (pv 1) (pa_cons pe_int pa_nil)))))))))), ?_⟩
  -- for lump in script[:63]
  refine ⟨_, rfl, _, rfl, .inl ⟨l, _, rfl, hs, fun c nc => .inl ⟨c, rfl, ⟨_, SqL.of upd_same⟩, ?_⟩⟩⟩
  obtain ⟨ms, em⟩ := cut_ints ns none (some 63)
  rw [em]
  refine for_it (walk_list (xs := ms.map V.int)) (fun i σ H' => H' = upd H c (.lst (ms.map V.int)) ∧ ∃ (st : Int) (y : Option V), σ = [some (.ref l), some (.int st), y] ∧ 0 ≤ st ∧ st < 2147483629) ⟨rfl, _, _, rfl, by decide, by decide⟩ ?_ ?_ ?_
  · rintro i σ H' _ ⟨rfl, _⟩
    exact SqL.of upd_same
  · rintro i x σ H1 H2 hi ⟨rfl, st, y, rfl, s0, s1⟩ ⟨rfl, hx⟩
    obtain ⟨z, rfl⟩ : ∃ z, x = V.int z := by
      rw [List.getElem?_map] at hx
      cases e : ms[i]? with
      | none =>
        rw [e] at hx
        cases hx
      | some z =>
        rw [e] at hx
        exact ⟨z, (Option.some.inj hx).symm⟩
    refine ⟨_, rfl, _, _, rfl, rfl, .inr ⟨by decide, by decide⟩, _, rfl, .inl ⟨_, rfl, _, _, rfl, rfl, (by show (0 : Int) < _; decide), _, _, rfl, rfl, .inr ⟨by decide, by decide⟩, .inl ⟨_, _, rfl, rfl, .inl ⟨_, _, rfl, rfl, .inl ⟨_, rfl, _, _, rfl, rfl, (by show (0 : Int) < _; decide), ?_⟩⟩⟩⟩⟩
    exact ⟨rfl, _, _, rfl, Int.emod_nonneg _ (by decide), Int.emod_lt_of_pos _ (by decide)⟩
  · rintro σ H' ⟨rfl, st, y, rfl, s0, s1⟩
    -- return [list(script[:63]), 0, 0, stir, 0]
    have e1 : Same H (upd H c (.lst (ms.map V.int))) := grow nc
    refine ⟨_, rfl, _, rfl, .inl ⟨l, _, rfl, e1.seq hs, fun c2 n2 => ?_⟩⟩
    rw [em]
    refine ⟨c2, _, rfl, .inl (SqL.of upd_same), fun q nq => ⟨_, rfl, (by show 5 ≤ sizeLine; decide), fun p np => ?_⟩⟩
    have e2 := e1.trans (grow (o := .lst (ms.map V.int)) n2)
    have e3 := e2.trans (grow (o := .lst (ms.map V.int)) nq)
    have npq : q ≠ p := ne_of_none upd_same np
    refine ⟨p, q, rfl, 0, 0, st, 0, ⟨by decide, s0, s1⟩, upd_same, ?_⟩
    rw [upd_upd]
    refine k p _ (same_mut e3 (e3.free np)) ⟨q, ms, upd_same, ?_⟩
    rw [upd_ne npq, upd_same]

end
end Fb

set_option Elab.async false
set_option linter.all false
set_option maxRecDepth 100000
set_option maxHeartbeats 4000000
namespace Fb
open PySem PySem.Spec L2
open PyProof.Rows hiding St
open C8 (Cal Met Mak Def cal0 met0 mak0 pe_c pe_mk pe_mt pe_mt0 fnScope fnBody fnArgs pss_cut tCut)
local macro_rules | `(tactic| walk_at "hp") => `(tactic| first | exact upd_same | assumption | (refine grow (by assumption) _ _ ?_; walk_at "hp") | (refine (show Same _ _ by assumption) _ _ ?_; walk_at "hp"))
local macro_rules | `(tactic| walk_at "sm") => `(tactic| first | exact Same.refl _ | assumption | (refine Same.trans ?_ (grow (by assumption)); walk_at "sm") | (refine Same.trans ?_ (show Same _ _ by assumption); walk_at "sm"))
section
variable {P : Program} {w : World} {K : PySem.W.Frag} {mg : Str → Option Value} {base : Heap}
variable {CH : Addr}
/-! ### _law_draw -/
def spDraw : Sp := sp2 fun a b H Q => ∃ (p : Addr) (n : Int), a = .ref p ∧ b = .int n ∧ BagAt H p ∧ 0 < n ∧ n.natAbs.log2 < 9000 ∧ ∀ d : Int, 0 ≤ d → d < n → Q (.int d) H
theorem c__law_draw (T : Top K mg CH) : Cal P w K mg base 1 "_law_draw" spDraw [] := by
  obtain ⟨f, fd, F, df⟩ := T.d__law_draw
  refine cal_of F df (fn2 F sc__law_draw fun cdv A outer s H a b Q E hr h => ?_) fun _ _ _ _ _ _ us hl => match us, hl with | [_, _], _ => rfl
  have nd := sc__law_draw.nd
  obtain ⟨p, n, rfl, rfl, ⟨q, ns, hp, hq⟩, h0, h9, k⟩ := h
  have npq : q ≠ p := fun e => by
    rw [e, hp] at hq
    cases hq
  have hq' : ∀ L, upd H p (.lst L) q = some (.lst (ns.map V.int)) := fun L => by
    rw [upd_ne npq]
    exact hq
  refine ⟨_, pss_bag (pss_cons 
      (ps_asg (pe_op op_addU (pe_ix (ix_K (K := K) rfl) (pv 0) pe_int (fun _ _ => rfl)) pe_int) (pg_sub (pv 0) pe_int set_list)) (pss_cut 
      (ps_if (PW.pt (pw_and (pt_cmpR (eq_K (K := K) rfl hr) (pe_ix (ix_K (K := K) rfl) (pv 0) pe_int (fun _ _ => rfl)) pe_int (nomark _)) (pw_and1 (pt_cmpR (lt_K (K := K) rfl hr) (pe_ix (ix_K (K := K) rfl) (pv 0) pe_int (fun _ _ => rfl)) (pe_callB (len_K (K := K) rfl) (by rfl) T.len (by decide +kernel) (pa_cons (pe_ix (ix_K (K := K) rfl) (pv 0) pe_int (fun _ _ => rfl)) pa_nil)) (nomark _))))) (pss_cons 
      (ps_set (i := 2) nd rfl (Or.inl rfl) (pe_callTy call_int1 (by rfl) T.int (by decide +kernel) (pa_cons (pe_ix (ix_K (K := K) rfl) (pe_ix (ix_K (K := K) rfl) (pv 0) pe_int (fun _ _ => rfl)) (pe_ix (ix_K (K := K) rfl) (pv 0) pe_int (fun _ _ => rfl)) (fun _ _ => rfl)) pa_nil))) (pss_cons 
      (ps_asg (pe_op op_addU (pe_ix (ix_K (K := K) rfl) (pv 0) pe_int (fun _ _ => rfl)) pe_int) (pg_sub (pv 0) pe_int set_list)) (pss_one 
      (ps_if (pt_cmpR op_geU (pv 2) (pe_op op_pow pe_int pe_int) (nomark _)) (pss_one 
      (ps_asg (pv 2) (pg_sub (pv 0) pe_int set_list))) (pss_one 
      (ps_asg (pe_op op_mod (pe_callTy call_int1 (by rfl) T.int (by decide +kernel) (pa_cons (pe_op op_addU (pe_op op_addU (pe_op op_mul (pe_ix (ix_K (K := K) rfl) (pv 0) pe_int (fun _ _ => rfl)) pe_int) (pe_op op_mul (pe_op op_mod (pv 2) pe_int) pe_int)) pe_int) pa_nil)) pe_int) (pg_sub (pv 0) pe_int set_list))))))) pss_nil) (pss_cons 
      (ps_if (pt_cmpR op_gtU (pe_ix (ix_K (K := K) rfl) (pv 0) pe_int (fun _ _ => rfl)) pe_int (nomark _)) (pss_cons 
      (ps_set (i := 3) nd rfl (Or.inl rfl) (pe_op op_mod (pe_callTy call_int1 (by rfl) T.int (by decide +kernel) (pa_cons (pe_ix (ix_K (K := K) rfl) (pv 0) pe_int (fun _ _ => rfl)) pa_nil)) (pv 1))) (pss_cons 
      (ps_asg (pe_op op_fdivW (pe_ix (ix_K (K := K) rfl) (pv 0) pe_int (fun _ _ => rfl)) (pv 1)) (pg_sub (pv 0) pe_int set_list)) (pss_one 
      (ps_ret (pv 3))))) pss_nil) (pss_cons 
      (ps_asg (pe_op op_mod (pe_callTy call_int1 (by rfl) T.int (by decide +kernel) (pa_cons (pe_op op_addU (pe_op op_addU (pe_op op_pow (pe_ix (ix_K (K := K) rfl) (pv 0) pe_int (fun _ _ => rfl)) pe_int) (pe_op op_mul (pe_ix (ix_K (K := K) rfl) (pv 0) pe_int (fun _ _ => rfl)) pe_int)) pe_int) pa_nil)) pe_int) (pg_sub (pv 0) pe_int set_list)) (pss_one 
      (ps_ret (pe_op op_mod (pe_callTy call_int1 (by rfl) T.int (by decide +kernel) (pa_cons (pe_op op_addU (pe_op op_fdivW (pe_ix (ix_K (K := K) rfl) (pv 0) pe_int (fun _ _ => rfl)) pe_int) (pe_op op_mul (pe_op op_mod (pe_callTy call_int1 (by rfl) T.int (by decide +kernel) (pa_cons (pe_ix (ix_K (K := K) rfl) (pv 0) pe_int (fun _ _ => rfl)) pa_nil)) pe_int) pe_int)) pa_nil)) (pv 1)))))))), ?_⟩
  refine ⟨p, q, hp, fun i c st t bk => ?_⟩
  obtain ⟨bi, b0, b1⟩ := id bk
  have md : ∀ x m : Int, 0 < m → m < 2147483629 → 0 ≤ x % m ∧ x % m < 2147483629 := fun x m h1 h2 =>
    ⟨Int.emod_nonneg _ (by omega), Int.lt_trans (Int.emod_lt_of_pos _ h1) h2⟩
  -- bag[4] = bag[4] + 1
  refine ⟨_, rfl, rd_bag rfl (.inl ⟨_, _, rfl, rfl, ⟨_, rfl, set_bag rfl ?_⟩⟩)⟩
  -- behind the first if: a bag, whatever it holds
  refine ⟨fun σ H' => ∃ i c st t y, BagOk i st ∧ H' = upd H p (.lst (bagL q i c st t)) ∧ σ = [some (.ref p), some (.int n), y, none], ?_, ?_⟩
  -- if bag[2] == 0 and ..
  · refine ⟨_, rfl, rd_bag rfl (.inl ⟨rfl, _, rfl, ite2 (fun ec => ?_) (fun ec => ?_)⟩)⟩
    · refine ⟨_, rfl, rd_bag rfl ⟨_, rfl, rd_bag rfl (.inl ⟨q, _, rfl, .inl (SqL.of (hq' _)), .inl ⟨_, _, rfl, rfl, _, rfl, ite2 (fun ei => ?_) (fun ei => ?_)⟩⟩)⟩⟩
      · have ei := of_decide_eq_true ei
        rw [List.length_map] at ei
        obtain ⟨j, rfl⟩ := Int.eq_ofNat_of_zero_le bi
        have hj : j < ns.length := by omega
        have gj : atI (ns.map V.int) (j : Int) = some (.int ns[j]) := atI_nat (by rw [List.getElem?_map, List.getElem?_eq_getElem hj]; rfl)
        -- lump = int(bag[0][bag[1]]); bag[1] = bag[1] + 1
        refine ⟨_, rfl, rd_bag rfl ⟨_, rfl, rd_bag rfl (.inl ⟨q, _, _, _, rfl, rfl, SqL.of (hq' _), gj, .inl ⟨_, rfl, ?_⟩⟩)⟩⟩
        refine ⟨_, rfl, rd_bag rfl (.inl ⟨_, _, rfl, rfl, ⟨_, rfl, set_bag rfl ?_⟩⟩)⟩
        refine ⟨_, rfl, _, _, rfl, rfl, ⟨by decide, by decide, by decide⟩, _, _, rfl, rfl, _, rfl, ite2 (fun el => ?_) (fun el => ?_)⟩
        · refine ⟨_, rfl, _, rfl, set_bag rfl ?_⟩
          exact ⟨(j : Int) + 1, ns[j], st, t + 1, _, ⟨by omega, b0, b1⟩, rfl, rfl⟩
        · refine ⟨_, rfl, rd_bag rfl ⟨_, _, rfl, rfl, .inr ⟨by decide, by decide⟩, _, rfl, _, _, rfl, rfl, (by show (0 : Int) < _; decide), _, _, rfl, rfl, .inr ⟨by decide, by decide⟩, .inl ⟨_, _, rfl, rfl, .inl ⟨_, _, rfl, rfl, .inl ⟨_, rfl, _, _, rfl, rfl, (by show (0 : Int) < _; decide), _, rfl, set_bag rfl ?_⟩⟩⟩⟩⟩
          obtain ⟨m1, m2⟩ := md (st * 69621 + ns[j] % 2147483549 * 271 + 97) 2147483579 (by decide) (by decide)
          exact ⟨(j : Int) + 1, c, _, t + 1, _, ⟨by omega, m1, m2⟩, rfl, rfl⟩
      · exact ⟨i, c, st, t + 1, _, bk, rfl, rfl⟩
    · exact iteF ⟨i, c, st, t + 1, _, bk, rfl, rfl⟩
  · rintro σ H' ⟨i, c, st, t, y, ⟨bi, b0, b1⟩, rfl, rfl⟩
    -- if bag[2] > 0
    refine ⟨_, rfl, rd_bag rfl ⟨_, _, rfl, rfl, _, rfl, ite2 (fun ec => ?_) (fun ec => ?_)⟩⟩
    · refine ⟨_, rfl, rd_bag rfl (.inl ⟨_, rfl, _, rfl, _, _, rfl, rfl, h0, ?_⟩)⟩
      refine ⟨_, rfl, rd_bag rfl ⟨_, rfl, _, _, rfl, rfl, ⟨h0, h9⟩, _, rfl, set_bag rfl ?_⟩⟩
      exact ⟨_, rfl, shut_bag hp ⟨bi, b0, b1⟩ (k _ (Int.emod_nonneg _ (by omega)) (Int.emod_lt_of_pos _ h0))⟩
    · refine ⟨_, rfl, rd_bag rfl ⟨_, _, rfl, rfl, ⟨by decide, by decide, by omega⟩, _, rfl, rd_bag rfl ⟨_, _, rfl, rfl, .inr ⟨by decide, by decide⟩, .inl ⟨_, _, rfl, rfl, .inl ⟨_, _, rfl, rfl, .inl ⟨_, rfl, _, _, rfl, rfl, (by show (0 : Int) < _; decide), _, rfl, set_bag rfl ?_⟩⟩⟩⟩⟩⟩
      obtain ⟨m1, m2⟩ := md (st ^ (3 : Int).toNat + t * 1299709 + 60013) 2147483579 (by decide) (by decide)
      refine ⟨_, rfl, rd_bag rfl ⟨_, _, rfl, rfl, ⟨by decide, by decide⟩, _, rfl, rd_bag rfl (.inl ⟨_, rfl, _, _, rfl, rfl, (by show (0 : Int) < _; decide), _, _, rfl, rfl, .inr ⟨by decide, by decide⟩, .inl ⟨_, _, rfl, rfl, .inl ⟨_, rfl, _, rfl, _, _, rfl, rfl, h0, ?_⟩⟩⟩)⟩⟩
      exact shut_bag hp ⟨bi, m1, m2⟩ (k _ (Int.emod_nonneg _ (by omega)) (Int.emod_lt_of_pos _ h0))

end
end Fb

set_option Elab.async false
set_option linter.all false
set_option maxRecDepth 100000
set_option maxHeartbeats 4000000
namespace Fb
open PySem PySem.Spec L2
open PyProof.Rows hiding St
open C8 (Cal Met Mak Def cal0 met0 mak0 pe_c pe_mk pe_mt pe_mt0 fnScope fnBody fnArgs pss_cut tCut)
local macro_rules | `(tactic| walk_at "hp") => `(tactic| first | exact upd_same | assumption | (refine grow (by assumption) _ _ ?_; walk_at "hp") | (refine (show Same _ _ by assumption) _ _ ?_; walk_at "hp"))
local macro_rules | `(tactic| walk_at "sm") => `(tactic| first | exact Same.refl _ | assumption | (refine Same.trans ?_ (grow (by assumption)); walk_at "sm") | (refine Same.trans ?_ (show Same _ _ by assumption); walk_at "sm"))
section
variable {P : Program} {w : World} {K : PySem.W.Frag} {mg : Str → Option Value} {base : Heap}
variable {CH : Addr}
/-! ### _law_of -/
def spOf (K : PySem.W.Frag) : Sp := sp2 fun a b H Q => ∃ (p : Addr), a = .ref p ∧ BagAt H p ∧
  ((∃ (l : Addr) (xs : List V), b = .ref l ∧ (SqL K H l xs ∨ SqT K H l xs) ∧ 0 < xs.length ∧ xs.length ≤ 100000 ∧ ∀ x ∈ xs, Q x H) ∨
    ∃ z : Str, b = .str z ∧ 0 < z.length ∧ z.length ≤ 100000 ∧ ∀ c ∈ z.cps.toList, Q (.str ⟨#[c]⟩) H)
theorem c__law_of (T : Top K mg CH) : Cal P w K mg base 2 "_law_of" (spOf K) [] := by
  obtain ⟨f, fd, F, df⟩ := T.d__law_of
  refine cal_of F df (fn2 F sc__law_of fun cdv A outer s H a b Q E hr h => ?_) fun _ _ _ _ _ _ us hl => match us, hl with | [_, _], _ => rfl
  have nd := sc__law_of.nd
  obtain ⟨p, rfl, hb, h⟩ := h
  refine ⟨_, (pss_one 
      (ps_ret (pe_ix (ix_K (K := K) rfl) (pv 1) (pe_c (c__law_draw T) hr (by decide) (by rfl) (pa_cons (pv 0) (pa_cons (pe_callB (len_K (K := K) rfl) (by rfl) T.len (by decide +kernel) (pa_cons (pv 1) pa_nil)) pa_nil))) (fun _ _ => rfl)))), ?_⟩
  rcases h with ⟨l, xs, rfl, hs, h0, h1, q⟩ | ⟨z, rfl, h0, h1, q⟩
  · refine ⟨_, rfl, _, rfl, _, rfl, .inl ⟨l, xs, rfl, hs, _, _, rfl, p, _, rfl, rfl, hb, by omega, small_log (by omega) (by omega), fun d d0 d1 => ?_⟩⟩
    obtain ⟨j, rfl⟩ := Int.eq_ofNat_of_zero_le d0
    have hj : j < xs.length := by omega
    have g : atI xs (j : Int) = some xs[j] := atI_nat (List.getElem?_eq_getElem hj)
    have k := q _ (List.getElem_mem hj)
    rcases hs with hs | hs
    · exact .inl ⟨l, xs, _, _, rfl, rfl, hs, g, k⟩
    · exact .inr (.inl ⟨l, xs, _, _, rfl, rfl, hs, g, k⟩)
  · refine ⟨_, rfl, _, rfl, _, rfl, .inr ⟨z, rfl, size5' h1, _, _, rfl, p, _, rfl, rfl, hb, by omega, small_log (by omega) (by omega), fun d d0 d1 => ?_⟩⟩
    obtain ⟨j, rfl⟩ := Int.eq_ofNat_of_zero_le d0
    have hj : j < z.cps.toList.length := by
      have : z.length = z.cps.size := rfl
      rw [← str_len]
      omega
    exact .inr (.inr ⟨z, _, _, rfl, rfl, size5' h1, atI_nat (List.getElem?_eq_getElem hj), q _ (List.getElem_mem hj)⟩)

end
end Fb

set_option Elab.async false
set_option linter.all false
set_option maxRecDepth 100000
set_option maxHeartbeats 4000000
namespace Fb
open PySem PySem.Spec L2
open PyProof.Rows hiding St
open C8 (Cal Met Mak Def cal0 met0 mak0 pe_c pe_mk pe_mt pe_mt0 fnScope fnBody fnArgs pss_cut tCut)
local macro_rules | `(tactic| walk_at "hp") => `(tactic| first | exact upd_same | assumption | (refine grow (by assumption) _ _ ?_; walk_at "hp") | (refine (show Same _ _ by assumption) _ _ ?_; walk_at "hp"))
local macro_rules | `(tactic| walk_at "sm") => `(tactic| first | exact Same.refl _ | assumption | (refine Same.trans ?_ (grow (by assumption)); walk_at "sm") | (refine Same.trans ?_ (show Same _ _ by assumption); walk_at "sm"))
section
variable {P : Program} {w : World} {K : PySem.W.Frag} {mg : Str → Option Value} {base : Heap}
variable {CH : Addr}
/-! ### _law_turned -/
def spTurnedV (K : PySem.W.Frag) : Sp := sp2 fun a b H Q => ∃ (p l : Addr) (zs : List V), a = .ref p ∧ BagAt H p ∧ b = .ref l ∧ SqL K H l zs ∧ zs.length ≤ 1000 ∧
  ∀ (H' : Hp) (D : Addr) (cs : List V), Same H H' → H' D = some (.lst cs) → (∀ v ∈ cs, v ∈ zs) → cs.length = zs.length → Q (.ref D) H'
theorem c__law_turned (T : Top K mg CH) : Cal P w K mg base 2 "_law_turned" (spTurnedV K) [] := by
  obtain ⟨f, fd, F, df⟩ := T.d__law_turned
  refine cal_of F df (fn2 F sc__law_turned fun cdv A outer s H a b Q E hr h => ?_) fun _ _ _ _ _ _ us hl => match us, hl with | [_, _], _ => rfl
  have nd := sc__law_turned.nd
  obtain ⟨p, l, zs, rfl, hb, rfl, hs, hl, k⟩ := h
  refine ⟨_, (pss_cons 
      (ps_set (i := 2) nd rfl (Or.inl rfl) (pe_callTy (listOf_K (K := K) rfl) (by rfl) T.list (by decide +kernel) (pa_cons (pv 1) pa_nil))) (pss_cons 
      (ps_set (i := 3) nd rfl (Or.inl rfl) (pe_lst pa_nil)) (pss_cons 
      (ps_for PassesOwn.never rfl (pi_range1 (by rfl) T.range (pa_cons (pe_callB (len_K (K := K) rfl) (by rfl) T.len (by decide +kernel) (pa_cons (pv 1) pa_nil)) pa_nil)) (pg_name (i := 4) nd rfl (Or.inl rfl)) (pss_one 
      (ps_expr (pe_bm PySem.F.plainAttrs_list PySem.F.slot_list_append PySem.F.type_list_append mt_append (pv 3) (pa_cons (pe_bm PySem.F.plainAttrs_list PySem.F.slot_list_pop PySem.F.type_list_pop mt_popAt (pv 2) (pa_cons (pe_c (c__law_draw T) hr (by decide) (by rfl) (pa_cons (pv 0) (pa_cons (pe_callB (len_K (K := K) rfl) (by rfl) T.len (by decide +kernel) (pa_cons (pv 2) pa_nil)) pa_nil))) pa_nil)) pa_nil))))) (pss_one 
      (ps_ret (pv 3)))))), ?_⟩
  refine ⟨_, rfl, l, _, rfl, .inl hs, fun c nc => ?_⟩
  refine ⟨Nat.le_of_ble_eq_true rfl, fun q nq => ?_⟩
  have ncq : c ≠ q := ne_of_none upd_same nq
  have nq0 : H q = none := by
    rw [upd_ne ncq.symm] at nq
    exact nq
  have e0 : Same H (upd (upd H c (.lst zs)) q (.lst [])) := (grow nc).trans (grow nq)
  refine ⟨_, rfl, .inl ⟨l, _, rfl, .inl (e0.seq hs), ?_⟩⟩
  refine ⟨(zs.length : Int), rfl, by omega, by omega, ?_⟩
  rw [show ((zs.length : Nat) : Int).toNat = zs.length from rfl]
  refine for_it walk_range (fun i σ H' => Same H H' ∧ (∃ ys us : List V, H' c = some (.lst ys) ∧ ys.length = zs.length - i ∧ (∀ v ∈ ys, v ∈ zs) ∧ H' q = some (.lst us) ∧ us.length = i ∧ ∀ v ∈ us, v ∈ zs) ∧ ∃ y, σ = [some (.ref p), some (.ref l), some (.ref c), some (.ref q), y])
    ⟨e0, ⟨zs, [], by rw [upd_ne ncq, upd_same], rfl, fun v hv => hv, upd_same, rfl, fun v hv => by cases hv⟩, _, rfl⟩ (fun _ _ _ _ _ => trivial) ?_ ?_
  · rintro i x σ H1 H2 hi ⟨e, ⟨ys, us, hc, ly, py, hq, lu, pu⟩, y, rfl⟩ ⟨rfl, rfl⟩
    refine ⟨_, rfl, .inl ⟨rfl, _, SqL.of hq⟩, _, rfl, .inl ⟨rfl, _, SqL.of hc⟩, _, rfl, _, rfl, .inl ⟨c, _, rfl, .inl (SqL.of hc), ?_⟩⟩
    refine ⟨_, _, rfl, p, (ys.length : Int), rfl, rfl, hb.mono e, by omega, small_log (by omega) (by omega), fun d d0 d1 => ?_⟩
    obtain ⟨j, rfl⟩ := Int.eq_ofNat_of_zero_le d0
    have hj : j < ys.length := by omega
    have ix : ixN ys.length (j : Int) = some j := by
      unfold ixN
      rw [if_pos (by omega), if_pos (by omega)]
      rfl
    refine ⟨c, ys, (j : Int), j, ys[j], rfl, rfl, hc, by omega, by omega, (ixN_seq ix).1, List.getElem?_eq_getElem hj, ?_⟩
    have hq' : upd H2 c (.lst (ys.eraseIdx j)) q = some (.lst us) := by
      rw [upd_ne ncq.symm]
      exact hq
    refine ⟨q, us, _, rfl, rfl, hq', size5 (by omega), ?_⟩
    refine ⟨same_mut (same_mut e nc) nq0, ⟨ys.eraseIdx j, us ++ [ys[j]], by rw [upd_ne ncq, upd_same], ?_, fun v hv => py v (List.mem_of_mem_eraseIdx hv), upd_same, by rw [List.length_append, lu]; rfl, fun v hv => ?_⟩, _, rfl⟩
    · rw [List.length_eraseIdx_of_lt hj]
      omega
    · rcases List.mem_append.mp hv with hv | hv
      · exact pu v hv
      · cases List.mem_singleton.mp hv
        exact py _ (List.getElem_mem hj)
  · rintro σ H1 ⟨e, ⟨ys, us, hc, ly, py, hq, lu, pu⟩, y, rfl⟩
    exact ⟨_, rfl, k H1 q us e hq pu lu⟩

end
end Fb

set_option Elab.async false
set_option linter.all false
set_option maxRecDepth 100000
set_option maxHeartbeats 4000000
namespace Fb
open PySem PySem.Spec L2
open PyProof.Rows hiding St
open C8 (Cal Met Mak Def cal0 met0 mak0 pe_c pe_mk pe_mt pe_mt0 fnScope fnBody fnArgs pss_cut tCut)
local macro_rules | `(tactic| walk_at "hp") => `(tactic| first | exact upd_same | assumption | (refine grow (by assumption) _ _ ?_; walk_at "hp") | (refine (show Same _ _ by assumption) _ _ ?_; walk_at "hp"))
local macro_rules | `(tactic| walk_at "sm") => `(tactic| first | exact Same.refl _ | assumption | (refine Same.trans ?_ (grow (by assumption)); walk_at "sm") | (refine Same.trans ?_ (show Same _ _ by assumption); walk_at "sm"))
section
variable {P : Program} {w : World} {K : PySem.W.Frag} {mg : Str → Option Value} {base : Heap}
variable {CH : Addr}
/-! ### _law_bow -/
def spBow (K : PySem.W.Frag) : Sp := sp1 fun a H Q => ∃ (p : Addr), a = .ref p ∧ BagAt H p ∧ ∀ (H' : Hp) (D : Addr) (us : List V), Same H H' → H' D = some (.lst us) → (∀ v ∈ us, RayV K BdH H' v) → us.length ≤ 20 → Q (.ref D) H'
theorem c__law_bow (T : Top K mg CH) : Cal P w K mg base 3 "_law_bow" (spBow K) [] := by
  obtain ⟨f, fd, F, df⟩ := T.d__law_bow
  refine cal_of F df (fn1 F sc__law_bow fun cdv A outer s H a Q E hr h => ?_) fun _ _ _ _ _ _ us hl => match us, hl with | [_], _ => rfl
  have nd := sc__law_bow.nd
  obtain ⟨p, rfl, hb, k⟩ := h
  refine ⟨_, (pss_cons 
      (ps_par3 (i := 2) (j := 3) (l := 4) rfl nd rfl rfl rfl (by decide) (by decide) (by decide) rfl rfl rfl (pa_cons (pe_c (c__law_draw T) hr (by decide) (by rfl) (pa_cons (pv 0) (pa_cons pe_int pa_nil))) (pa_cons (pe_op op_addU pe_int (pe_c (c__law_draw T) hr (by decide) (by rfl) (pa_cons (pv 0) (pa_cons pe_int pa_nil)))) (pa_cons (pe_lst pa_nil) pa_nil))) (by rfl)) (pss_cons 
      (ps_for PassesOwn.never rfl (pi_range1 (by rfl) T.range (pa_cons (pe_op op_addU pe_int (pe_c (c__law_draw T) hr (by decide) (by rfl) (pa_cons (pv 0) (pa_cons pe_int pa_nil)))) pa_nil)) (pg_name (i := 1) nd rfl (Or.inl rfl)) (pss_cut 
      (ps_if (pt_cmpR op_geU (pv 3) pe_int (nomark _)) (pss_one 
      (ps_expr (pe_bm PySem.F.plainAttrs_list PySem.F.slot_list_append PySem.F.type_list_append mt_append (pv 4) (pa_cons (pe_tup (pa_cons (pv 2) (pa_cons (pv 3) pa_nil))) pa_nil)))) pss_nil) (pss_cons 
      (ps_set (i := 5) nd rfl (Or.inl rfl) (pe_op op_addU pe_int (pe_c (c__law_draw T) hr (by decide) (by rfl) (pa_cons (pv 0) (pa_cons pe_int pa_nil))))) (pss_one 
      (ps_par (i := 2) (j := 3) rfl nd rfl rfl (by decide) rfl rfl (pa_cons (pe_op op_addU (pv 2) (pe_op op_mul (pe_op op_addU (pv 1) pe_int) (pv 5))) (pa_cons (pe_op op_sub (pv 3) (pv 5)) pa_nil)) (by rfl)))))) (pss_one 
      (ps_ret (pe_c (c__law_turned T) hr (by decide) (by rfl) (pa_cons (pv 0) (pa_cons (pv 4) pa_nil))))))), ?_⟩
  refine ⟨_, rfl, _, _, rfl, p, 4, rfl, rfl, hb, by decide, small_log (by decide) (by decide), fun a a0 a1 => ?_⟩
  refine ⟨_, rfl, _, _, rfl, p, 4, rfl, rfl, hb, by decide, small_log (by decide) (by decide), fun s s0 s1 => .inl ⟨_, _, rfl, rfl, ?_⟩⟩
  refine ⟨Nat.le_of_ble_eq_true rfl, fun q nq => ⟨_, _, _, rfl, ?_⟩⟩
  have e1 := grow (o := .lst []) nq
  have hq1 := upd_same (H := H) (a := q) (o := .lst [])
  have hb1 := hb.mono e1
  refine ⟨_, rfl, _, _, rfl, p, 3, rfl, rfl, hb1, by decide, small_log (by decide) (by decide), fun m m0 m2 => .inl ⟨_, _, rfl, rfl, _, rfl, by omega, by omega, ?_⟩⟩
  refine for_it walk_range (fun i σ H' => Same H H' ∧ (∃ us, H' q = some (.lst us) ∧ us.length ≤ i ∧ ∀ v ∈ us, RayV K BdH H' v) ∧ ∃ (k a s : Int) (y1 y5 : Option V), 0 ≤ a ∧ a ≤ 3 + i * 20 ∧ s ≤ 11 ∧ σ = [some (.ref p), y1, some (.int a), some (.int s), some (.ref q), y5])
    ⟨e1, ⟨[], hq1, Nat.le_refl _, fun v h => by cases h⟩, 0, a, 8 + s, _, _, a0, by omega, by omega, rfl⟩ (fun _ _ _ _ _ => trivial) ?_ ?_
  · rintro i x σ H2 H3 hi ⟨e, ⟨us, hq, lu, pu⟩, _, a, s, y1, y5, a0, a1, s1, rfl⟩ ⟨rfl, hx⟩
    have hx : x = V.int (i : Nat) := hx.trans (congrArg V.int (Int.zero_add _))
    subst hx
    have hb2 := hb.mono e
    refine ⟨fun σ' H' => Same H H' ∧ (∃ us, H' q = some (.lst us) ∧ us.length ≤ i + 1 ∧ ∀ v ∈ us, RayV K BdH H' v) ∧ ∃ y5, σ' = [some (.ref p), some (.int (i : Nat)), some (.int a), some (.int s), some (.ref q), y5], ?_, ?_⟩
    · refine ⟨_, rfl, _, _, rfl, rfl, _, rfl, ite2 (fun h => ?_) (fun h => ?_)⟩
      · have h := of_decide_eq_true h
        refine ⟨_, rfl, .inl ⟨rfl, _, SqL.of hq⟩, _, rfl, _, rfl, Nat.le_of_ble_eq_true rfl, fun c nc => ?_⟩
        have hq3 := (grow (o := .tup [.int a, .int s]) nc) _ _ hq
        have ncq : c ≠ q := fun z => by
          rw [z, hq] at nc
          cases nc
        refine ⟨q, us, _, rfl, rfl, hq3, size5 (by omega), ?_⟩
        refine ⟨same_mut (e.trans (grow nc)) nq, ⟨us ++ [.ref c], upd_same, by rw [List.length_append]; exact Nat.succ_le_succ lu, fun v hv => ?_⟩, _, rfl⟩
        rcases List.mem_append.mp hv with hv | hv
        · exact ((pu v hv).mono (grow nc)).upd hq3
        · cases List.mem_singleton.mp hv
          exact ⟨(a, s), tupI_upd hq3 ⟨c, rfl, SqT.of upd_same⟩, a0, by show a ≤ _; omega, h, by show s ≤ _; omega⟩
      · exact ⟨e, ⟨us, hq, by omega, pu⟩, _, rfl⟩
    rintro σ' H4 ⟨e4, hus, y5, rfl⟩
    refine ⟨_, rfl, _, _, rfl, p, 2, rfl, rfl, hb.mono e4, by decide, small_log (by decide) (by decide), fun d d0 d1 => .inl ⟨_, _, rfl, rfl, ?_⟩⟩
    have u1 := Int.mul_le_mul (show ((i : Nat) : Int) + 1 ≤ 10 by omega) (show 1 + d ≤ 2 by omega) (by omega) (by omega)
    have u2 := Int.mul_nonneg (show (0 : Int) ≤ (i : Nat) + 1 by omega) (show 0 ≤ 1 + d by omega)
    refine ⟨_, rfl, _, rfl, .inl ⟨_, _, rfl, rfl, _, rfl, _, _, rfl, rfl, .inl ⟨by omega, by omega⟩, .inl ⟨_, _, rfl, rfl, ?_⟩⟩⟩
    refine ⟨_, rfl, _, rfl, _, _, rfl, rfl, _, _, rfl, ?_⟩
    exact ⟨e4, hus, 0, _, _, _, _, by omega, by omega, by omega, rfl⟩
  · rintro σ H2 ⟨e, ⟨us, hq, lu, pu⟩, _, a, s, y1, y5, a0, a1, s1, rfl⟩
    refine ⟨_, rfl, _, rfl, _, _, rfl, p, q, us, rfl, hb.mono e, rfl, SqL.of hq, by omega, fun H' D cs e2 hD sub len => k H' D cs (e.trans e2) hD (fun v hv => (pu v (sub v hv)).mono e2) (by omega)⟩

end
end Fb

set_option Elab.async false
set_option linter.all false
set_option maxRecDepth 100000
set_option maxHeartbeats 4000000
namespace Fb
open PySem PySem.Spec L2
open PyProof.Rows hiding St
open C8 (Cal Met Mak Def cal0 met0 mak0 pe_c pe_mk pe_mt pe_mt0 fnScope fnBody fnArgs pss_cut tCut)
local macro_rules | `(tactic| walk_at "hp") => `(tactic| first | exact upd_same | assumption | (refine grow (by assumption) _ _ ?_; walk_at "hp") | (refine (show Same _ _ by assumption) _ _ ?_; walk_at "hp"))
local macro_rules | `(tactic| walk_at "sm") => `(tactic| first | exact Same.refl _ | assumption | (refine Same.trans ?_ (grow (by assumption)); walk_at "sm") | (refine Same.trans ?_ (show Same _ _ by assumption); walk_at "sm"))
section
variable {P : Program} {w : World} {K : PySem.W.Frag} {mg : Str → Option Value} {base : Heap}
variable {CH : Addr}
/-! ### _law_star -/
def spStar (K : PySem.W.Frag) : Sp := sp2 fun a b H Q => ∃ (p : Addr) (roof : Int), a = .ref p ∧ BagAt H p ∧ b = .int roof ∧ 1 ≤ roof ∧ roof ≤ 1000000 ∧ ∀ (H' : Hp) (D : Addr) (us : List V), Same H H' → H' D = some (.lst us) → (∀ v ∈ us, RayV K BdH H' v) → us.length ≤ 20 → Q (.ref D) H'
def BdS (i : Nat) (r : Ln) : Prop := 0 ≤ r.1 ∧ r.1 ≤ 100 + i * 3 ∧ 0 ≤ r.2 ∧ r.2 ≤ 20 + i * 3
theorem c__law_star (T : Top K mg CH) : Cal P w K mg base 3 "_law_star" (spStar K) [] := by
  obtain ⟨f, fd, F, df⟩ := T.d__law_star
  refine cal_of F df (fn2 F sc__law_star fun cdv A outer s H a b Q E hr h => ?_) fun _ _ _ _ _ _ us hl => match us, hl with | [_, _], _ => rfl
  have nd := sc__law_star.nd
  obtain ⟨p, roof, rfl, hb, rfl, r0, r1, k⟩ := h
  refine ⟨_, (pss_cons 
      (ps_set (i := 2) nd rfl (Or.inr rfl) (pe_c (c__law_of T) hr (by decide) (by rfl) (pa_cons (pv 0) (pa_cons (pe_lst (pa_cons pe_int (pa_cons pe_int (pa_cons pe_int (pa_cons pe_int pa_nil))))) pa_nil)))) (pss_cons 
      (ps_asg (pe_tup (pa_cons (pe_c (c__law_draw T) hr (by decide) (by rfl) (pa_cons (pv 0) (pa_cons (pe_op op_addU (pe_op op_mul (pe_callB (call_min2 rfl) (by rfl) T.min (by decide +kernel) (pa_cons (pv 1) (pa_cons pe_int pa_nil))) (pv 2)) pe_int) pa_nil))) (pa_cons (pe_op op_addU pe_int (pe_c (c__law_draw T) hr (by decide) (by rfl) (pa_cons (pv 0) (pa_cons pe_int pa_nil)))) pa_nil))) (tup_K (K := K) (n := 2) rfl rfl (pgs_cons (pg_name (i := 6) nd rfl (Or.inr rfl)) (pgs_cons (pg_name (i := 7) nd rfl (Or.inr rfl)) pgs_nil)))) (pss_cons 
      (ps_set (i := 3) nd rfl (Or.inl rfl) (pe_slice (sl_K (K := K) rfl) (pe_c (c__law_turned T) hr (by decide) (by rfl) (pa_cons (pv 0) (pa_cons (pe_lst (pa_cons pe_int (pa_cons pe_int (pa_cons pe_int (pa_cons pe_int (pa_cons pe_int pa_nil)))))) pa_nil))) po_none (po_some (pe_op op_addU pe_int (pe_c (c__law_draw T) hr (by decide) (by rfl) (pa_cons (pv 0) (pa_cons pe_int pa_nil))))))) (pss_cons 
      (ps_setLc (i := 4) (own := [("slope", 9)]) rfl nd rfl rfl (sw_true rfl rfl rfl (by decide +kernel)) (pi_K (K := K) rfl (pv 3)) (blkOk_by (N := ["bag", "roof", "part", "slopes", "found", "k", "spot", "high", "x", "slope"]) (sc := fnScope s__law_star) (by decide +kernel)) (fun _ _ _ _ _ => (pg_name (i := 9) nd rfl (Or.inl rfl))) (fun _ _ _ _ _ => pts_nil) (fun _ _ _ _ _ => (pe_tup (pa_cons (pe_op op_sub (pv 7) (pe_op op_mul (pv 9) (pv 6))) (pa_cons (pe_op op_mul (pv 2) (pv 9)) pa_nil))))) (pss_cons 
      (ps_for PassesOwn.never rfl (pi_range1 (by rfl) T.range (pa_cons (pe_c (c__law_draw T) hr (by decide) (by rfl) (pa_cons (pv 0) (pa_cons pe_int pa_nil))) pa_nil)) (pg_name (i := 5) nd rfl (Or.inl rfl)) (pss_cons 
      (ps_set (i := 8) nd rfl (Or.inl rfl) (pe_c (c__law_of T) hr (by decide) (by rfl) (pa_cons (pv 0) (pa_cons (pv 4) pa_nil)))) (pss_one 
      (ps_expr (pe_bm PySem.F.plainAttrs_list PySem.F.slot_list_append PySem.F.type_list_append mt_append (pv 4) (pa_cons (pe_tup (pa_cons (pe_op op_addU (pe_op op_addU (pe_ix (ix_K (K := K) rfl) (pv 8) pe_int (fun _ _ => rfl)) pe_int) (pe_c (c__law_draw T) hr (by decide) (by rfl) (pa_cons (pv 0) (pa_cons pe_int pa_nil)))) (pa_cons (pe_op op_addU (pe_ix (ix_K (K := K) rfl) (pv 8) pe_int (fun _ _ => rfl)) (pe_c (c__law_draw T) hr (by decide) (by rfl) (pa_cons (pv 0) (pa_cons pe_int pa_nil)))) pa_nil))) pa_nil)))))) (pss_one 
      (ps_ret (pe_c (c__law_turned T) hr (by decide) (by rfl) (pa_cons (pv 0) (pa_cons (pv 4) pa_nil)))))))))), ?_⟩
  refine ⟨_, rfl, Nat.le_of_ble_eq_true rfl, fun c nc => ?_⟩
  have hb1 := hb.mono (grow (o := .lst [.int 1, .int 1, .int 2, .int 3]) nc)
  refine ⟨_, _, rfl, p, rfl, hb1, .inl ⟨c, _, rfl, .inl (SqL.of upd_same), Nat.le_of_ble_eq_true rfl, Nat.le_of_ble_eq_true rfl, fun x hx => ?_⟩⟩
  obtain ⟨pt, rfl, pt0, pt1⟩ : ∃ m : Int, x = .int m ∧ 1 ≤ m ∧ m ≤ 3 := by
    simp only [List.mem_cons, List.not_mem_nil, or_false] at hx
    rcases hx with rfl | rfl | rfl | rfl
    all_goals exact ⟨_, rfl, by decide, by decide⟩
  have e1 := grow (o := .lst [.int 1, .int 1, .int 2, .int 3]) nc
  generalize upd H c _ = H1 at e1 hb1
  -- spot, high
  have mn : (1 : Int) ≤ (if 4 < roof then 4 else roof) ∧ (if 4 < roof then 4 else roof) ≤ (4 : Int) := by
    split <;> omega
  refine ⟨_, rfl, _, rfl, _, _, rfl, ?_⟩
  generalize (if 4 < roof then 4 else roof) = M at mn
  have u1 := Int.mul_le_mul mn.2 pt1 (by omega) (by omega)
  have u2 := Int.mul_nonneg (show 0 ≤ M by omega) (show 0 ≤ pt by omega)
  refine ⟨_, rfl, _, _, rfl, rfl, .inl ⟨by omega, by omega⟩, .inl ⟨_, _, rfl, rfl, _, _, rfl, p, _, rfl, rfl, hb1, by omega, small_log (by omega) (by omega), fun sp sp0 sp1 => ?_⟩⟩
  refine ⟨_, rfl, _, _, rfl, p, 20, rfl, rfl, hb1, by decide, small_log (by decide) (by decide), fun hh h0 h1 => .inl ⟨_, _, rfl, rfl, Nat.le_of_ble_eq_true rfl, fun t nt => ?_⟩⟩
  have e2 := e1.trans (grow (o := .tup [.int sp, .int (48 + hh)]) nt)
  have hb2 := hb1.mono (grow (o := .tup [.int sp, .int (48 + hh)]) nt)
  refine ⟨t, _, rfl, SqT.of upd_same, rfl, _, _, rfl, _, _, rfl, rfl, ?_⟩
  generalize upd H1 t _ = H2 at e2 hb2
  -- slopes
  refine ⟨_, rfl, Nat.le_of_ble_eq_true rfl, fun c2 nc2 => ?_⟩
  have e3 := e2.trans (grow (o := .lst [.int 0, .int 1, .int 2, .int 3, .int 4]) nc2)
  have hb3 := hb2.mono (grow (o := .lst [.int 0, .int 1, .int 2, .int 3, .int 4]) nc2)
  refine ⟨_, _, rfl, p, c2, _, rfl, hb3, rfl, SqL.of upd_same, Nat.le_of_ble_eq_true rfl, fun H4 D cs e4 hD sub len => ?_⟩
  refine ⟨_, rfl, _, _, rfl, p, 3, rfl, rfl, hb3.mono e4, by decide, small_log (by decide) (by decide), fun d d0 d1 => .inl ⟨_, _, rfl, rfl, _, rfl, .inl ⟨D, _, rfl, SqL.of hD, fun sl nsl => ?_⟩⟩⟩
  have len : cs.length = 5 := len
  obtain ⟨cm, cl⟩ := cut_memV cs none (some (2 + d))
  have cn := cut_len (xs := cs) (h := 2 + d) (by omega) (by omega)
  generalize cutV cs none (some (2 + d)) = ss at cm cl cn nsl
  have e5 := (e3.trans e4).trans (grow (o := .lst ss) nsl)
  have hb5 := (hb3.mono e4).mono (grow (o := .lst ss) nsl)
  -- found
  refine ⟨_, rfl, .inl ⟨sl, rfl, ⟨_, SqL.of upd_same⟩, fun F hF => ?_⟩⟩
  refine lc_some (walk_list (xs := ss)) (fun _ v H => RayV K (BdS 0) H v) grow_at (by omega) hF (fun _ _ _ _ e h => h.mono e) (fun H e => SqL.of (e _ _ upd_same)) ?_ ?_
  · rintro i x G1 G2 hi e ⟨xs0, hx0⟩ ⟨rfl, g⟩ R kk
    obtain ⟨z, rfl, z0, z1⟩ : ∃ z : Int, x = .int z ∧ 0 ≤ z ∧ z ≤ 4 := by
      have := sub x (cm x (List.mem_of_getElem? g))
      simp only [List.mem_cons, List.not_mem_nil, or_false] at this
      rcases this with rfl | rfl | rfl | rfl | rfl
      all_goals exact ⟨_, rfl, by decide, by decide⟩
    have v1 := Int.mul_le_mul z1 (show sp ≤ 12 by omega) sp0 (by omega)
    have v2 := Int.mul_nonneg z0 sp0
    have v3 := Int.mul_le_mul pt1 z1 z0 (by omega)
    have v4 := Int.mul_nonneg (show 0 ≤ pt by omega) z0
    refine ⟨rfl, _, rfl, _, rfl, _, rfl, _, _, rfl, rfl, .inl ⟨by omega, by omega⟩, _, _, rfl, rfl, _, rfl, _, rfl, _, _, rfl, rfl, .inl ⟨by omega, by omega⟩, Nat.le_of_ble_eq_true rfl, fun t nt => kk _ _ (grow nt) fun o => ?_⟩
    exact ⟨(48 + hh - z * sp, pt * z), tupI_upd ((grow nt) _ _ hx0) ⟨t, rfl, SqT.of upd_same⟩, by show 0 ≤ 48 + hh - z * sp; omega, by show 48 + hh - z * sp ≤ _; omega, v4, by show pt * z ≤ _; omega⟩
  intro us G e6 hFG lus pus
  have hpus : ∀ v ∈ us, RayV K (BdS 0) G v := fun v hv => by
    obtain ⟨i, hi⟩ := List.getElem?_of_mem hv
    exact pus i v hi
  refine ⟨_, rfl, _, _, rfl, p, 3, rfl, rfl, hb5.mono e6, by decide, small_log (by decide) (by decide), fun m m0 m1 => ⟨m, rfl, by omega, by omega, ?_⟩⟩
  refine for_it walk_range (fun i σ H' => Same (upd H4 sl (.lst ss)) H' ∧ (∃ us, H' F = some (.lst us) ∧ 0 < us.length ∧ us.length ≤ 5 + i ∧ ∀ v ∈ us, RayV K (BdS i) H' v) ∧ ∃ y5 y8 y9, σ = [some (.ref p), some (.int roof), some (.int pt), some (.ref sl), some (.ref F), y5, some (.int sp), some (.int (48 + hh)), y8, y9])
    ⟨e6, ⟨us, hFG, by omega, by omega, hpus⟩, _, _, _, rfl⟩ (fun _ _ _ _ _ => trivial) ?_ ?_
  · rintro i x σ G1 G2 hi ⟨e, ⟨us, hq, l0, l1, pu⟩, y5, y8, y9, rfl⟩ ⟨rfl, rfl⟩
    have hb6 := hb5.mono e
    refine ⟨_, rfl, _, rfl, _, _, rfl, p, rfl, hb6, .inl ⟨F, us, rfl, .inl (SqL.of hq), l0, by omega, fun x hx => ?_⟩⟩
    obtain ⟨r, ⟨U, rfl, sU⟩, b0, b1, b2, b3⟩ := pu x hx
    refine ⟨_, rfl, .inl ⟨rfl, _, SqL.of hq⟩, _, rfl, .inr (.inl ⟨U, _, _, _, rfl, rfl, sU, at0, .inl ⟨_, _, rfl, rfl, ?_⟩⟩)⟩
    refine ⟨_, rfl, _, _, rfl, p, 2, rfl, rfl, hb6, by decide, small_log (by decide) (by decide), fun d1 f0 f1 => .inl ⟨_, _, rfl, rfl, ?_⟩⟩
    refine ⟨_, rfl, .inr (.inl ⟨U, _, _, _, rfl, rfl, sU, at1, _, rfl, _, _, rfl, p, 2, rfl, rfl, hb6, by decide, small_log (by decide) (by decide), fun d2 g0 g1 => .inl ⟨_, _, rfl, rfl, ?_⟩⟩)⟩
    refine ⟨Nat.le_of_ble_eq_true rfl, fun t nt => ?_⟩
    have hq3 := (grow (o := .tup [.int (r.1 + 1 + d1), .int (r.2 + d2)]) nt) _ _ hq
    refine ⟨F, us, _, rfl, rfl, hq3, size5 (by omega), ?_⟩
    refine ⟨same_mut (e.trans (grow nt)) hF, ⟨us ++ [.ref t], upd_same, by rw [List.length_append]; omega, by rw [List.length_append]; exact Nat.succ_le_succ l1, ?_⟩, _, _, _, rfl⟩
    refine rays_snoc hq3 (rays_mono pu (grow nt)) (fun s hs => ?_) ⟨(r.1 + 1 + d1, r.2 + d2), ⟨t, rfl, SqT.of upd_same⟩, ?_⟩
    · obtain ⟨a1, a2, a3, a4⟩ := hs
      exact ⟨a1, by omega, a3, by omega⟩
    · exact ⟨by show 0 ≤ r.1 + 1 + d1; omega, by show r.1 + 1 + d1 ≤ _; omega, by show 0 ≤ r.2 + d2; omega, by show r.2 + d2 ≤ _; omega⟩
  · rintro σ G1 ⟨e, ⟨us, hq, l0, l1, pu⟩, y5, y8, y9, rfl⟩
    refine ⟨_, rfl, _, rfl, _, _, rfl, p, F, us, rfl, hb5.mono e, rfl, SqL.of hq, by omega, fun H' D cs e7 hD sub len => k H' D cs (e5.trans (e.trans e7)) hD (fun v hv => ((pu v (sub v hv)).mono e7).imp fun s hs => ?_) (by omega)⟩
    obtain ⟨a1, a2, a3, a4⟩ := hs
    exact ⟨a1, by omega, a3, by omega⟩

end
end Fb

set_option Elab.async false
set_option linter.all false
set_option maxRecDepth 100000
set_option maxHeartbeats 4000000
namespace Fb
open PySem PySem.Spec L2
open PyProof.Rows hiding St
open C8 (Cal Met Mak Def cal0 met0 mak0 pe_c pe_mk pe_mt pe_mt0 fnScope fnBody fnArgs pss_cut tCut)
local macro_rules | `(tactic| walk_at "hp") => `(tactic| first | exact upd_same | assumption | (refine grow (by assumption) _ _ ?_; walk_at "hp") | (refine (show Same _ _ by assumption) _ _ ?_; walk_at "hp"))
local macro_rules | `(tactic| walk_at "sm") => `(tactic| first | exact Same.refl _ | assumption | (refine Same.trans ?_ (grow (by assumption)); walk_at "sm") | (refine Same.trans ?_ (show Same _ _ by assumption); walk_at "sm"))
section
variable {P : Program} {w : World} {K : PySem.W.Frag} {mg : Str → Option Value} {base : Heap}
variable {CH : Addr}
/-! ### _law_through -/
def BdT (m : Int) (r : Ln) : Prop := 0 ≤ r.1 ∧ r.1 ≤ m ∧ 0 ≤ r.2 ∧ r.2 ≤ 6
def spThrough (K : PySem.W.Frag) : Sp := sp4 fun a b c d H Q => ∃ (p : Addr) (roof x y m : Int), a = .ref p ∧ BagAt H p ∧ b = .int roof ∧ 1 ≤ roof ∧ roof ≤ 1000000 ∧ c = .int x ∧ d = .int y ∧ 0 ≤ x ∧ x ≤ m ∧ 0 ≤ y ∧ y ≤ 6 ∧ m ≤ 90000000 ∧
  ∀ H' v, Same H H' → RayV K (BdT (m + 6000000)) H' v → Q v H'
theorem c__law_through (T : Top K mg CH) : Cal P w K mg base 2 "_law_through" (spThrough K) [] := by
  obtain ⟨f, fd, F, df⟩ := T.d__law_through
  refine cal_of F df (fn4 F sc__law_through fun cdv A outer s H a b c d Q E hr h => ?_) fun _ _ _ _ _ _ us hl => match us, hl with | [_, _, _, _], _ => rfl
  have nd := sc__law_through.nd
  obtain ⟨p, roof, x, y, m, rfl, hb, rfl, r0, r1, rfl, rfl, x0, x1, y0, y1, m1, k⟩ := h
  refine ⟨_, (pss_cons 
      (ps_set (i := 4) nd rfl (Or.inl rfl) (pe_c (c__law_draw T) hr (by decide) (by rfl) (pa_cons (pv 0) (pa_cons pe_int pa_nil)))) (pss_cons 
      (ps_set (i := 5) nd rfl (Or.inl rfl) (pe_c (c__law_draw T) hr (by decide) (by rfl) (pa_cons (pv 0) (pa_cons pe_int pa_nil)))) (pss_cons 
      (ps_if (pt_cmpR (eq_K (K := K) rfl hr) (pv 4) pe_int (nomark _)) (pss_one 
      (ps_ret (pe_tup (pa_cons (pv 2) (pa_cons (pv 5) pa_nil))))) pss_nil) (pss_cut 
      (ps_set (i := 6) nd rfl (Or.inl rfl) (pe_ifExp (pt_cmpR (eq_K (K := K) rfl hr) (pv 4) pe_int (nomark _)) (pv 1) (pe_c (c__law_draw T) hr (by decide) (by rfl) (pa_cons (pv 0) (pa_cons (pe_op op_addU (pv 1) pe_int) pa_nil))))) (pss_cons 
      (ps_set (i := 7) nd rfl (Or.inl rfl) (pe_op op_sub (pe_op op_addU (pv 2) (pe_op op_mul (pv 3) (pv 6))) (pe_op op_mul (pv 5) (pv 6)))) (pss_one 
      (ps_ret (pe_ifExp (pt_cmpR op_geU (pv 7) pe_int (nomark _)) (pe_tup (pa_cons (pv 7) (pa_cons (pv 5) pa_nil))) (pe_tup (pa_cons (pv 2) (pa_cons (pv 3) pa_nil))))))))))), ?_⟩
  refine ⟨_, rfl, _, _, rfl, p, 4, rfl, rfl, hb, by decide, small_log (by decide) (by decide), fun pk p0 p1 => ?_⟩
  refine ⟨_, rfl, _, _, rfl, p, 7, rfl, rfl, hb, by decide, small_log (by decide) (by decide), fun z z0 z1 => ?_⟩
  refine ⟨_, rfl, .inl ⟨rfl, _, rfl, ite2 (fun _ => ?_) (fun _ => ?_)⟩⟩
  · refine ⟨_, rfl, _, rfl, Nat.le_of_ble_eq_true rfl, fun c nc => ?_⟩
    exact k _ _ (grow nc) ⟨(x, z), ⟨c, rfl, SqT.of upd_same⟩, x0, by show x ≤ _; omega, z0, by show z ≤ 6; omega⟩
  refine ⟨fun σ H' => H' = H ∧ ∃ at1 : Int, 0 ≤ at1 ∧ at1 ≤ 1000000 ∧ ∃ y7, σ = [some (.ref p), some (.int roof), some (.int x), some (.int y), some (.int pk), some (.int z), some (.int at1), y7], ?_, ?_⟩
  · refine ⟨_, rfl, .inl ⟨rfl, _, rfl, ite2 (fun _ => ?_) (fun _ => ?_)⟩⟩
    · exact ⟨_, rfl, rfl, roof, by omega, by omega, _, rfl⟩
    · exact ⟨_, rfl, _, rfl, .inl ⟨_, _, rfl, rfl, _, _, rfl, p, _, rfl, rfl, hb, by omega, small_log (by omega) (by omega), fun d d0 d1 => ⟨rfl, d, d0, by omega, _, rfl⟩⟩⟩
  rintro σ H' ⟨rfl, at1, a0, a1, y7, rfl⟩
  have u1 := Int.mul_le_mul y1 a1 a0 (by omega)
  have u2 := Int.mul_nonneg y0 a0
  have u3 := Int.mul_nonneg z0 a0
  refine ⟨_, rfl, _, rfl, _, rfl, _, _, rfl, rfl, .inl ⟨by omega, by omega⟩, .inl ⟨_, _, rfl, rfl, ?_⟩⟩
  refine ⟨_, rfl, _, rfl, _, _, rfl, rfl, .inl ⟨by omega, by omega⟩, _, _, rfl, rfl, ?_⟩
  refine ⟨_, rfl, _, _, rfl, rfl, _, rfl, ite2 (fun h => ?_) (fun h => ?_)⟩
  · have h := of_decide_eq_true h
    refine ⟨_, rfl, _, rfl, Nat.le_of_ble_eq_true rfl, fun c nc => ?_⟩
    exact k _ _ (grow nc) ⟨(x + y * at1 - z * at1, z), ⟨c, rfl, SqT.of upd_same⟩, h, by show x + y * at1 - z * at1 ≤ _; omega, z0, by show z ≤ 6; omega⟩
  · refine ⟨_, rfl, _, rfl, Nat.le_of_ble_eq_true rfl, fun c nc => ?_⟩
    exact k _ _ (grow nc) ⟨(x, y), ⟨c, rfl, SqT.of upd_same⟩, x0, by show x ≤ _; omega, y0, y1⟩

end
end Fb

set_option Elab.async false
set_option linter.all false
set_option maxRecDepth 100000
set_option maxHeartbeats 4000000
namespace Fb
open PySem PySem.Spec L2
open PyProof.Rows hiding St
open C8 (Cal Met Mak Def cal0 met0 mak0 pe_c pe_mk pe_mt pe_mt0 fnScope fnBody fnArgs pss_cut tCut)
local macro_rules | `(tactic| walk_at "hp") => `(tactic| first | exact upd_same | assumption | (refine grow (by assumption) _ _ ?_; walk_at "hp") | (refine (show Same _ _ by assumption) _ _ ?_; walk_at "hp"))
local macro_rules | `(tactic| walk_at "sm") => `(tactic| first | exact Same.refl _ | assumption | (refine Same.trans ?_ (grow (by assumption)); walk_at "sm") | (refine Same.trans ?_ (show Same _ _ by assumption); walk_at "sm"))
section
variable {P : Program} {w : World} {K : PySem.W.Frag} {mg : Str → Option Value} {base : Heap}
variable {CH : Addr}
/-! ### _law_rays -/
def spRays (K : PySem.W.Frag) : Sp := sp2 fun a b H Q => ∃ (p : Addr) (roof : Int), a = .ref p ∧ BagAt H p ∧ b = .int roof ∧ 1 ≤ roof ∧ roof ≤ 1000000 ∧ ∀ (H' : Hp) (D : Addr) (us : List V), Same H H' → H' D = some (.lst us) → (∀ v ∈ us, RayV K BdH H' v) → us.length ≤ 20 → Q (.ref D) H'
def _law_turnedQ (K : PySem.W.Frag) (p F : Addr) (H : Hp) (Q : VK) : Prop := spTurnedV K [.ref p, .ref F] H Q C8.E0
def _law_raysN (K : PySem.W.Frag) (H0 : Hp) (F : Addr) (i : Nat) (H' : Hp) : Prop := Same H0 H' ∧ ∃ us, H' F = some (.lst us) ∧ 0 < us.length ∧ us.length ≤ 3 + i ∧ ∀ v ∈ us, RayV K (BdT (1000000 + i * 6000001)) H' v
theorem c__law_rays (T : Top K mg CH) : Cal P w K mg base 4 "_law_rays" (spRays K) [] := by
  obtain ⟨f, fd, F, df⟩ := T.d__law_rays
  refine cal_of F df (fn2 F sc__law_rays fun cdv A outer s H a b Q E hr h => ?_) fun _ _ _ _ _ _ us hl => match us, hl with | [_, _], _ => rfl
  have nd := sc__law_rays.nd
  obtain ⟨p, roof, rfl, hb, rfl, r0, r1, k⟩ := h
  refine ⟨_, (pss_cons 
      (ps_set (i := 2) nd rfl (Or.inl rfl) (pe_c (c__law_draw T) hr (by decide) (by rfl) (pa_cons (pv 0) (pa_cons pe_int pa_nil)))) (pss_cons 
      (ps_if (pt_cmpR (eq_K (K := K) rfl hr) (pv 2) pe_int (nomark _)) (pss_one 
      (ps_ret (pe_c (c__law_bow T) hr (by decide) (by rfl) (pa_cons (pv 0) pa_nil)))) pss_nil) (pss_cons 
      (ps_if (pt_cmpR (eq_K (K := K) rfl hr) (pv 2) pe_int (nomark _)) (pss_one 
      (ps_ret (pe_c (c__law_star T) hr (by decide) (by rfl) (pa_cons (pv 0) (pa_cons (pv 1) pa_nil))))) pss_nil) (pss_cons 
      (ps_set (i := 3) nd rfl (Or.inr rfl) (pe_c (c__law_of T) hr (by decide) (by rfl) (pa_cons (pv 0) (pa_cons (pe_lst (pa_cons pe_int (pa_cons pe_int (pa_cons pe_int (pa_cons pe_int (pa_cons pe_int pa_nil)))))) pa_nil)))) (pss_cons 
      (ps_setLc (i := 4) (own := [("k", 5)]) rfl nd rfl rfl (sw_true rfl rfl rfl (by decide +kernel)) (pi_range1 (by rfl) T.range (pa_cons (pe_c (c__law_of T) hr (by decide) (by rfl) (pa_cons (pv 0) (pa_cons (pe_lst (pa_cons pe_int (pa_cons pe_int (pa_cons pe_int (pa_cons pe_int (pa_cons pe_int pa_nil)))))) pa_nil))) pa_nil)) (blkOk_by (N := ["bag", "roof", "style", "size", "found", "k", "x", "pick"]) (sc := fnScope s__law_rays) (by decide +kernel)) (fun _ _ _ _ _ => (pg_name (i := 5) nd rfl (Or.inl rfl))) (fun _ _ _ _ _ => pts_nil) (fun _ _ _ _ _ => (pe_tup (pa_cons (pe_c (c__law_draw T) hr (by decide) (by rfl) (pa_cons (pv 0) (pa_cons (pv 3) pa_nil))) (pa_cons (pe_c (c__law_draw T) hr (by decide) (by rfl) (pa_cons (pv 0) (pa_cons pe_int pa_nil))) pa_nil))))) (pss_cons 
      (ps_for PassesOwn.never rfl (pi_range1 (by rfl) T.range (pa_cons (pe_ifExp (pt_cmpR (ne_K (K := K) rfl hr) (pv 4) (pe_lst pa_nil) (nomark _)) (pe_c (c__law_draw T) hr (by decide) (by rfl) (pa_cons (pv 0) (pa_cons pe_int pa_nil))) pe_int) pa_nil)) (pg_name (i := 5) nd rfl (Or.inl rfl)) (pss_cons 
      (ps_set (i := 6) nd rfl (Or.inl rfl) (pe_c (c__law_of T) hr (by decide) (by rfl) (pa_cons (pv 0) (pa_cons (pv 4) pa_nil)))) (pss_cons 
      (ps_set (i := 7) nd rfl (Or.inl rfl) (pe_c (c__law_draw T) hr (by decide) (by rfl) (pa_cons (pv 0) (pa_cons pe_int pa_nil)))) (pss_one 
      (ps_if (pt_cmpR (eq_K (K := K) rfl hr) (pv 7) pe_int (nomark _)) (pss_one 
      (ps_expr (pe_bm PySem.F.plainAttrs_list PySem.F.slot_list_append PySem.F.type_list_append mt_append (pv 4) (pa_cons (pe_tup (pa_cons (pe_op op_addU (pe_ix (ix_K (K := K) rfl) (pv 6) pe_int (fun _ _ => rfl)) (pe_c (c__law_draw T) hr (by decide) (by rfl) (pa_cons (pv 0) (pa_cons pe_int pa_nil)))) (pa_cons (pe_ix (ix_K (K := K) rfl) (pv 6) pe_int (fun _ _ => rfl)) pa_nil))) pa_nil)))) (pss_one 
      (ps_if (pt_cmpR (eq_K (K := K) rfl hr) (pv 7) pe_int (nomark _)) (pss_one 
      (ps_expr (pe_bm PySem.F.plainAttrs_list PySem.F.slot_list_append PySem.F.type_list_append mt_append (pv 4) (pa_cons (pe_tup (pa_cons (pe_op op_addU (pe_ix (ix_K (K := K) rfl) (pv 6) pe_int (fun _ _ => rfl)) pe_int) (pa_cons (pe_ix (ix_K (K := K) rfl) (pv 6) pe_int (fun _ _ => rfl)) pa_nil))) pa_nil)))) (pss_one 
      (ps_expr (pe_bm PySem.F.plainAttrs_list PySem.F.slot_list_append PySem.F.type_list_append mt_append (pv 4) (pa_cons (pe_c (c__law_through T) hr (by decide) (by rfl) (pa_cons (pv 0) (pa_cons (pv 1) (pa_cons (pe_ix (ix_K (K := K) rfl) (pv 6) pe_int (fun _ _ => rfl)) (pa_cons (pe_ix (ix_K (K := K) rfl) (pv 6) pe_int (fun _ _ => rfl)) pa_nil))))) pa_nil))))))))))) (pss_one 
      (ps_ret (pe_c (c__law_turned T) hr (by decide) (by rfl) (pa_cons (pv 0) (pa_cons (pv 4) pa_nil))))))))))), ?_⟩
  refine ⟨_, rfl, _, _, rfl, p, 4, rfl, rfl, hb, by decide, small_log (by decide) (by decide), fun st st0 st1 => ?_⟩
  refine ⟨_, rfl, .inl ⟨rfl, _, rfl, ite2 (fun _ => ?_) (fun _ => ?_)⟩⟩
  · exact ⟨_, rfl, _, rfl, p, rfl, hb, k⟩
  refine ⟨_, rfl, .inl ⟨rfl, _, rfl, ite2 (fun _ => ?_) (fun _ => ?_)⟩⟩
  · exact ⟨_, rfl, _, rfl, _, _, rfl, p, roof, rfl, hb, rfl, r0, r1, k⟩
  refine ⟨_, rfl, Nat.le_of_ble_eq_true rfl, fun c nc => ?_⟩
  have e1 := grow (o := .lst [.int 4, .int 10, .int 10, .int 30, .int 1000000]) nc
  have hb1 := hb.mono e1
  refine ⟨_, _, rfl, p, rfl, hb1, .inl ⟨c, _, rfl, .inl (SqL.of upd_same), Nat.le_of_ble_eq_true rfl, Nat.le_of_ble_eq_true rfl, fun x hx => ?_⟩⟩
  obtain ⟨sz, rfl, sz0, sz1⟩ : ∃ m : Int, x = .int m ∧ 1 ≤ m ∧ m ≤ 1000000 := by
    simp only [List.mem_cons, List.not_mem_nil, or_false] at hx
    rcases hx with rfl | rfl | rfl | rfl | rfl
    all_goals exact ⟨_, rfl, by decide, by decide⟩
  generalize upd H c _ = H1 at e1 hb1
  -- found
  refine ⟨_, rfl, Nat.le_of_ble_eq_true rfl, fun c2 nc2 => ?_⟩
  have e2 := e1.trans (grow (o := .lst [.int 0, .int 1, .int 1, .int 2, .int 3]) nc2)
  have hb2 := hb1.mono (grow (o := .lst [.int 0, .int 1, .int 1, .int 2, .int 3]) nc2)
  refine ⟨_, _, rfl, p, rfl, hb2, .inl ⟨c2, _, rfl, .inl (SqL.of upd_same), Nat.le_of_ble_eq_true rfl, Nat.le_of_ble_eq_true rfl, fun x hx => ?_⟩⟩
  obtain ⟨n, rfl, n1⟩ : ∃ n : Nat, x = .int n ∧ n ≤ 3 := by
    simp only [List.mem_cons, List.not_mem_nil, or_false] at hx
    rcases hx with rfl | rfl | rfl | rfl | rfl
    · exact ⟨0, rfl, by decide⟩
    · exact ⟨1, rfl, by decide⟩
    · exact ⟨1, rfl, by decide⟩
    · exact ⟨2, rfl, by decide⟩
    · exact ⟨3, rfl, by decide⟩
  refine ⟨(n : Int), rfl, by omega, by omega, fun F hF => ?_⟩
  rw [show ((n : Nat) : Int).toNat = n from rfl]
  refine lc_some (walk_range (n := n)) (fun _ v H => RayV K (BdT 1000000) H v) grow_fn (by omega) hF (fun _ _ _ _ e h => h.mono e) (fun H e => trivial) ?_ ?_
  · rintro i x G1 G2 hi e ⟨xs0, hx0⟩ ⟨rfl, rfl⟩ R kk
    have hb3 := hb2.mono e
    refine ⟨rfl, _, rfl, _, rfl, _, _, rfl, p, sz, rfl, rfl, hb3, by omega, small_log (by omega) (by omega), fun a a0 a1 => ?_⟩
    refine ⟨_, rfl, _, _, rfl, p, 7, rfl, rfl, hb3, by decide, small_log (by decide) (by decide), fun b b0 b1 => ?_⟩
    refine ⟨Nat.le_of_ble_eq_true rfl, fun t nt => kk _ _ (grow nt) fun o => ?_⟩
    exact ⟨(a, b), tupI_upd ((grow nt) _ _ hx0) ⟨t, rfl, SqT.of upd_same⟩, a0, by show a ≤ _; omega, b0, by show b ≤ 6; omega⟩
  intro us G e3 hFG lus pus
  have hpus : ∀ v ∈ us, RayV K (BdT 1000000) G v := fun v hv => by
    obtain ⟨i, hi⟩ := List.getElem?_of_mem hv
    exact pus i v hi
  have hb3 := hb2.mono e3
  obtain ⟨rs, hrs, _⟩ := rays_of hpus
  have lrs := hrs.len
  rw [List.length_map] at lrs
  have e4 : Same H G := e2.trans e3
  have fin : ∀ (G' : Hp) (us' : List V), Same H G' → BagAt G' p → G' F = some (.lst us') → (∀ v ∈ us', RayV K BdH G' v) → us'.length ≤ 20 → _law_turnedQ K p F G' Q := fun G' us' e hb hF' hv hl =>
    ⟨_, _, rfl, p, F, us', rfl, hb, rfl, SqL.of hF', by omega, fun H' D cs e7 hD sub len => k H' D cs (e.trans e7) hD (fun v hv' => (hv v (sub v hv')).mono e7) (by omega)⟩
  refine ⟨_, rfl, Nat.zero_le _, fun w nw => .inr ⟨.list ((rs.map tol).map rowD), .list [], .lst (SqL.of ((grow nw) _ _ hFG)) (hrs.mono (grow nw)), .lst (SqL.of upd_same) .nil, Nat.le_trans (Nat.min_le_right _ _) (by decide), ?_⟩⟩
  rw [eqv_list_nil]
  have e5 := e4.trans (grow (o := .lst []) nw)
  have e5' := e3.trans (grow (o := .lst []) nw)
  have hF5 := (grow (o := .lst []) nw) _ _ hFG
  have hb5 := hb3.mono (grow (o := .lst []) nw)
  have hp5 := rays_mono hpus (grow (o := .lst []) nw)
  have bdr : ∀ (i : Nat) (r : Ln), i ≤ 5 → BdT (1000000 + i * 6000001) r → BdH r := fun i r hi h => by
    obtain ⟨a1, a2, a3, a4⟩ := h
    exact ⟨a1, by omega, a3, by omega⟩
  generalize upd G w _ = G5 at e5 e5' hF5 hb5 hp5
  cases us with
  | nil =>
    have : rs = [] := List.eq_nil_of_length_eq_zero lrs.symm
    subst this
    refine ⟨_, rfl, iteF ⟨0, rfl, by decide, by decide, ?_⟩⟩
    refine for_it (walk_range (n := 0)) (fun i σ H' => H' = G5 ∧ ∃ y5 y6 y7, σ = [some (.ref p), some (.int roof), some (.int st), some (.int sz), some (.ref F), y5, y6, y7]) ⟨rfl, _, _, _, rfl⟩ (fun _ _ _ _ _ => trivial) (fun i x σ H1 H2 hi => absurd hi (Nat.not_lt_zero _)) ?_
    rintro σ H' ⟨rfl, y5, y6, y7, rfl⟩
    exact ⟨_, rfl, _, rfl, fin H' [] e5 hb5 hF5 (fun v h => by cases h) (by decide)⟩
  | cons u us =>
    have ne : rs ≠ [] := fun z => by
      rw [z] at lrs
      cases lrs
    have em : (!((rs.map tol).map rowD).isEmpty) = true := by
      cases rs with
      | nil => exact absurd rfl ne
      | cons _ _ => rfl
    rw [em]
    refine ⟨_, rfl, iteT ⟨_, rfl, _, _, rfl, p, 5, rfl, rfl, hb5, by decide, small_log (by decide) (by decide), fun m m0 m1 => ⟨m, rfl, by omega, by omega, ?_⟩⟩⟩
    refine for_it walk_range (fun i σ H' => Same (upd H1 c2 (.lst [.int 0, .int 1, .int 1, .int 2, .int 3])) H' ∧ (∃ us, H' F = some (.lst us) ∧ 0 < us.length ∧ us.length ≤ 3 + i ∧ ∀ v ∈ us, RayV K (BdT (1000000 + i * 6000001)) H' v) ∧ ∃ y5 y6 y7, σ = [some (.ref p), some (.int roof), some (.int st), some (.int sz), some (.ref F), y5, y6, y7])
      ⟨e5', ⟨u :: us, hF5, Nat.succ_pos _, by omega, fun v hv => (hp5 v hv).imp fun r h => by
        obtain ⟨a1, a2, a3, a4⟩ := h
        exact ⟨a1, by omega, a3, a4⟩⟩, _, _, _, rfl⟩ (fun _ _ _ _ _ => trivial) ?_ ?_
    · rintro i x σ K1 K2 hi ⟨e, ⟨us, hq, l0, l1, pu⟩, y5, y6, y7, rfl⟩ ⟨rfl, rfl⟩
      have hb6 := hb2.mono e
      have hi5 : i < 5 := by omega
      refine ⟨_, rfl, _, rfl, _, _, rfl, p, rfl, hb6, .inl ⟨F, us, rfl, .inl (SqL.of hq), l0, by omega, fun x hx => ?_⟩⟩
      obtain ⟨r, ⟨U, rfl, sU⟩, b0, b1, b2, b3⟩ := pu x hx
      refine ⟨_, rfl, _, _, rfl, p, 6, rfl, rfl, hb6, by decide, small_log (by decide) (by decide), fun pk _ _ => ?_⟩
      have put : ∀ (G : Hp) (v : V), Same K2 G → RayV K (BdT (1000000 + (i + 1 : Nat) * 6000001)) G v → _law_raysN K (upd H1 c2 (.lst [.int 0, .int 1, .int 1, .int 2, .int 3])) F (i + 1) (upd G F (.lst (us ++ [v]))) := fun G v e2 hv => by
        have hq3 := e2 _ _ hq
        refine ⟨same_mut (e.trans e2) hF, us ++ [v], upd_same, by rw [List.length_append]; omega, by rw [List.length_append]; exact Nat.succ_le_succ l1, ?_⟩
        refine rays_snoc hq3 (rays_mono pu e2) (fun s hs => ?_) hv
        obtain ⟨a1, a2, a3, a4⟩ := hs
        exact ⟨a1, by omega, a3, a4⟩
      refine ⟨_, rfl, .inl ⟨rfl, _, rfl, ite2 (fun _ => ?_) (fun _ => ?_)⟩⟩
      · refine ⟨_, rfl, .inl ⟨rfl, _, SqL.of hq⟩, _, rfl, .inr (.inl ⟨U, _, _, _, rfl, rfl, sU, at0, ?_⟩)⟩
        refine ⟨_, rfl, _, _, rfl, p, 2, rfl, rfl, hb6, by decide, small_log (by decide) (by decide), fun d1 f0 f1 => .inl ⟨_, _, rfl, rfl, ?_⟩⟩
        refine ⟨_, rfl, .inr (.inl ⟨U, _, _, _, rfl, rfl, sU, at1, Nat.le_of_ble_eq_true rfl, fun t nt => ?_⟩)⟩
        obtain ⟨q1, q2⟩ := put _ (.ref t) (grow nt) ⟨(r.1 + d1, r.2), ⟨t, rfl, SqT.of upd_same⟩, by show 0 ≤ r.1 + d1; omega, by show r.1 + d1 ≤ _; omega, b2, b3⟩
        exact ⟨F, us, _, rfl, rfl, (grow nt) _ _ hq, size5 (by omega), q1, q2, _, _, _, rfl⟩
      · refine ⟨_, rfl, .inl ⟨rfl, _, rfl, ite2 (fun _ => ?_) (fun _ => ?_)⟩⟩
        · refine ⟨_, rfl, .inl ⟨rfl, _, SqL.of hq⟩, _, rfl, .inr (.inl ⟨U, _, _, _, rfl, rfl, sU, at0, .inl ⟨_, _, rfl, rfl, ?_⟩⟩)⟩
          refine ⟨_, rfl, .inr (.inl ⟨U, _, _, _, rfl, rfl, sU, at1, Nat.le_of_ble_eq_true rfl, fun t nt => ?_⟩)⟩
          obtain ⟨q1, q2⟩ := put _ (.ref t) (grow nt) ⟨(r.1 + 1, r.2), ⟨t, rfl, SqT.of upd_same⟩, by show 0 ≤ r.1 + 1; omega, by show r.1 + 1 ≤ _; omega, b2, b3⟩
          exact ⟨F, us, _, rfl, rfl, (grow nt) _ _ hq, size5 (by omega), q1, q2, _, _, _, rfl⟩
        · refine ⟨_, rfl, .inl ⟨rfl, _, SqL.of hq⟩, _, rfl, _, rfl, _, rfl, .inr (.inl ⟨U, _, _, _, rfl, rfl, sU, at0, _, rfl, .inr (.inl ⟨U, _, _, _, rfl, rfl, sU, at1, ?_⟩)⟩)⟩
          refine ⟨_, _, _, _, rfl, p, roof, r.1, r.2, 1000000 + i * 6000001, rfl, hb6, rfl, r0, r1, rfl, rfl, b0, b1, b2, b3, by omega, fun G v e2 hv => ?_⟩
          obtain ⟨q1, q2⟩ := put G v e2 (hv.imp fun s hs => by
            obtain ⟨a1, a2, a3, a4⟩ := hs
            exact ⟨a1, by omega, a3, a4⟩)
          exact ⟨F, us, _, rfl, rfl, e2 _ _ hq, size5 (by omega), q1, q2, _, _, _, rfl⟩
    · rintro σ K1 ⟨e, ⟨us, hq, l0, l1, pu⟩, y5, y6, y7, rfl⟩
      exact ⟨_, rfl, _, rfl, fin K1 us (e2.trans e) (hb2.mono e) hq (fun v hv => (pu v hv).imp fun r h => bdr m.toNat r (by omega) h) (by omega)⟩

end
end Fb

set_option Elab.async false
set_option linter.all false
set_option maxRecDepth 100000
set_option maxHeartbeats 4000000
namespace Fb
open PySem PySem.Spec L2
open PyProof.Rows hiding St
open C8 (Cal Met Mak Def cal0 met0 mak0 pe_c pe_mk pe_mt pe_mt0 fnScope fnBody fnArgs pss_cut tCut)
local macro_rules | `(tactic| walk_at "hp") => `(tactic| first | exact upd_same | assumption | (refine grow (by assumption) _ _ ?_; walk_at "hp") | (refine (show Same _ _ by assumption) _ _ ?_; walk_at "hp"))
local macro_rules | `(tactic| walk_at "sm") => `(tactic| first | exact Same.refl _ | assumption | (refine Same.trans ?_ (grow (by assumption)); walk_at "sm") | (refine Same.trans ?_ (show Same _ _ by assumption); walk_at "sm"))
section
variable {P : Program} {w : World} {K : PySem.W.Frag} {mg : Str → Option Value} {base : Heap}
variable {CH : Addr}
/-! ### is_at_most -/
def spAtMost (K : PySem.W.Frag) : Sp := sp2 fun a b H Q => ∃ f g : List Int, TupI K H a f ∧ TupI K H b g ∧ f.length = g.length ∧ f.length ≤ 100000 ∧ Then H Q (.bl (leM f g))
theorem c_is_at_most (T : Top K mg CH) : Cal P w K mg base 1 "is_at_most" (spAtMost K) [] := by
  obtain ⟨f, fd, F, df⟩ := T.d_is_at_most
  refine cal_of F df (fn2 F sc_is_at_most fun cdv A outer s H a b Q E hr h => ?_) fun _ _ _ _ _ _ us hl => match us, hl with | [_, _], _ => rfl
  have nd := sc_is_at_most.nd
  obtain ⟨f, g, ⟨A1, rfl, hf⟩, ⟨A2, rfl, hg⟩, hl, h1, q⟩ := h
  have lnf : (f.map V.int).length = f.length := List.length_map ..
  have lng : (g.map V.int).length = g.length := List.length_map ..
  refine ⟨_, (pss_cons 
      (ps_for PassesOwn.never rfl (zip_K (K := K) rfl (by rfl) T.zip (pa_cons (pv 0) (pa_cons (pv 1) pa_nil))) (tup_K (K := K) (n := 2) rfl rfl (pgs_cons (pg_name (i := 2) nd rfl (Or.inl rfl)) (pgs_cons (pg_name (i := 3) nd rfl (Or.inl rfl)) pgs_nil))) (pss_one 
      (ps_if (pt_cmpR op_gtU (pv 2) (pv 3) (nomark _)) (pss_one 
      (ps_ret pe_bl)) pss_nil))) (pss_one 
      (ps_ret pe_bl))), ?_⟩
  refine ⟨_, rfl, _, rfl, _, _, _, _, rfl, .inr ⟨hf, hg, ?_⟩⟩
  refine for_it (walk_zipT (n := f.length) (by omega)) (fun i σ H' => Same H H' ∧ (∀ j, j < i → f.getD j 0 ≤ g.getD j 0) ∧ ∃ y2 y3, σ = [some (.ref A1), some (.ref A2), y2, y3]) ⟨Same.refl _, (fun j hj => by omega), _, _, rfl⟩ (fun i σ H' _ ⟨e, _⟩ => ⟨same_tup e hf, same_tup e hg⟩) ?_ ?_
  · rintro i x σ H1 H2 hi ⟨e, hj, y2, y3, rfl⟩ ⟨U, x1, x2, rfl, nU, rfl, g1, g2⟩
    obtain ⟨z1, g3, rfl⟩ := int_get g1
    obtain ⟨z2, g4, rfl⟩ := int_get g2
    refine ⟨U, _, rfl, SqT.of upd_same, rfl, _, _, rfl, _, _, rfl, rfl, ?_⟩
    refine ⟨_, rfl, _, rfl, _, _, rfl, rfl, _, rfl, ite2 (fun h => ?_) (fun h => ?_)⟩
    · have h := of_decide_eq_true h
      have e1 : leM f g = false := by
        cases e2 : leM f g with
        | false => rfl
        | true =>
          have := of_decide_eq_true (List.all_eq_true.mp e2 i (List.mem_range.mpr hi))
          rw [getD_of g3, getD_of g4] at this
          omega
      rw [e1] at q
      exact q _ (e.trans (grow nU))
    · have h : ¬ z2 < z1 := fun z => h (decide_eq_true z)
      refine ⟨e.trans (grow nU), fun j hj2 => ?_, _, _, rfl⟩
      by_cases ej : j = i
      · rw [ej, getD_of g3, getD_of g4]
        omega
      · exact hj j (by omega)
  · rintro σ H1 ⟨e, hj, y2, y3, rfl⟩
    have e1 : leM f g = true := List.all_eq_true.mpr fun i hi => decide_eq_true (hj i (List.mem_range.mp hi))
    rw [e1] at q
    exact q _ e

end
end Fb

set_option Elab.async false
set_option linter.all false
set_option maxRecDepth 100000
set_option maxHeartbeats 4000000
namespace Fb
open PySem PySem.Spec L2
open PyProof.Rows hiding St
open C8 (Cal Met Mak Def cal0 met0 mak0 pe_c pe_mk pe_mt pe_mt0 fnScope fnBody fnArgs pss_cut tCut)
local macro_rules | `(tactic| walk_at "hp") => `(tactic| first | exact upd_same | assumption | (refine grow (by assumption) _ _ ?_; walk_at "hp") | (refine (show Same _ _ by assumption) _ _ ?_; walk_at "hp"))
local macro_rules | `(tactic| walk_at "sm") => `(tactic| first | exact Same.refl _ | assumption | (refine Same.trans ?_ (grow (by assumption)); walk_at "sm") | (refine Same.trans ?_ (show Same _ _ by assumption); walk_at "sm"))
section
variable {P : Program} {w : World} {K : PySem.W.Frag} {mg : Str → Option Value} {base : Heap}
variable {CH : Addr}
/-! ### any_at_most -/
def spAnyAtMost (K : PySem.W.Frag) : Sp := sp2 fun a b H Q => ∃ (R : Addr) (xs : List V) (ls : List (List Int)) (r : List Int), a = .ref R ∧ SqL K H R xs ∧ RowsV K H xs ls ∧ TupI K H b r ∧ (∀ l ∈ ls, l.length = r.length) ∧ r.length ≤ 100000 ∧ Then H Q (.bl (ls.any fun o => leM o r))
theorem c_any_at_most (T : Top K mg CH) : Cal P w K mg base 2 "any_at_most" (spAnyAtMost K) [] := by
  obtain ⟨f, fd, F, df⟩ := T.d_any_at_most
  refine cal_of F df (fn2 F sc_any_at_most fun cdv A outer s H a b Q E hr h => ?_) fun _ _ _ _ _ _ us hl => match us, hl with | [_, _], _ => rfl
  have nd := sc_any_at_most.nd
  obtain ⟨R, xs, ls, r, rfl, hs, hx, hr', hw, h1, q⟩ := h
  have len := hx.len
  refine ⟨_, (pss_cons 
      (ps_for PassesOwn.never rfl (pi_reversed (by rfl) T.reversed (pa_cons (pv 0) pa_nil)) (pg_name (i := 2) nd rfl (Or.inl rfl)) (pss_one 
      (ps_if (pt_val (pe_c (c_is_at_most T) hr (by decide) (by rfl) (pa_cons (pv 2) (pa_cons (pv 1) pa_nil)))) (pss_one 
      (ps_ret pe_bl)) pss_nil))) (pss_one 
      (ps_ret pe_bl))), ?_⟩
  refine ⟨_, rfl, R, xs, rfl, hs, ?_⟩
  refine for_it walk_rev (fun i σ H' => Same H H' ∧ (∀ j, j < i → leM (ls.getD (ls.length - 1 - j) []) r = false) ∧ ∃ y2, σ = [some (.ref R), some b, y2]) ⟨Same.refl _, (fun j hj => by omega), _, rfl⟩ (fun i σ H' _ ⟨e, _⟩ => e.seq hs) ?_ ?_
  · rintro i x σ H1 H2 hi ⟨e, hj, y2, rfl⟩ ⟨rfl, g⟩
    obtain ⟨l, gl, tl⟩ := hx.get g
    rw [len] at gl
    refine ⟨_, rfl, _, rfl, _, _, rfl, l, r, tl.mono e, hr'.mono e, hw l (List.mem_of_getElem? gl), by rw [hw l (List.mem_of_getElem? gl)]; exact h1, fun H3 e3 => ⟨_, rfl, ?_⟩⟩
    cases o : leM l r with
    | true =>
      refine iteT ?_
      rw [show (ls.any fun o => leM o r) = true from List.any_eq_true.mpr ⟨l, List.mem_of_getElem? gl, o⟩] at q
      exact q _ (e.trans e3)
    | false =>
      refine iteF ⟨e.trans e3, fun j hj2 => ?_, _, rfl⟩
      by_cases ej : j = i
      · rw [ej, getD_of gl]
        exact o
      · exact hj j (by omega)
  · rintro σ H1 ⟨e, hj, y2, rfl⟩
    have e1 : (ls.any fun o => leM o r) = false := by
      cases e2 : ls.any fun o => leM o r with
      | false => rfl
      | true =>
        obtain ⟨l, hl, o⟩ := List.any_eq_true.mp e2
        obtain ⟨i, hi⟩ := List.getElem?_of_mem hl
        have hlt := (List.getElem?_eq_some_iff.mp hi).1
        have := hj (ls.length - 1 - i) (by omega)
        rw [show ls.length - 1 - (ls.length - 1 - i) = i by omega, getD_of hi, o] at this
        cases this
    rw [e1] at q
    exact q _ e

end
end Fb

set_option Elab.async false
set_option linter.all false
set_option maxRecDepth 100000
set_option maxHeartbeats 4000000
namespace Fb
open PySem PySem.Spec L2
open PyProof.Rows hiding St
open C8 (Cal Met Mak Def cal0 met0 mak0 pe_c pe_mk pe_mt pe_mt0 fnScope fnBody fnArgs pss_cut tCut)
local macro_rules | `(tactic| walk_at "hp") => `(tactic| first | exact upd_same | assumption | (refine grow (by assumption) _ _ ?_; walk_at "hp") | (refine (show Same _ _ by assumption) _ _ ?_; walk_at "hp"))
local macro_rules | `(tactic| walk_at "sm") => `(tactic| first | exact Same.refl _ | assumption | (refine Same.trans ?_ (grow (by assumption)); walk_at "sm") | (refine Same.trans ?_ (show Same _ _ by assumption); walk_at "sm"))
section
variable {P : Program} {w : World} {K : PySem.W.Frag} {mg : Str → Option Value} {base : Heap}
variable {CH : Addr}
/-! ### thin_rows -/
def spThinRows (K : PySem.W.Frag) : Sp := sp1 fun a H Q => ∃ (R : Addr) (xs : List V) (ls : List (List Int)) (n : Nat), a = .ref R ∧ (SqL K H R xs ∨ SqT K H R xs) ∧ RowsV K H xs ls ∧ (∀ l ∈ ls, l.length = n) ∧ 0 < n ∧ n ≤ 100000 ∧ ls.length ≤ 100000 ∧
  ∀ H' v, Same H H' → ((thinM ls = [] ∧ v = .non) ∨ thinM ls ≠ [] ∧ ∃ D ys, v = .ref D ∧ H' D = some (.tup ys) ∧ RowsV K H' ys (thinM ls)) → Q v H'
theorem c_thin_rows (T : Top K mg CH) : Cal P w K mg base 3 "thin_rows" (spThinRows K) [] := by
  obtain ⟨f, fd, F, df⟩ := T.d_thin_rows
  refine cal_of F df (fn1 F sc_thin_rows fun cdv A outer s H a Q E hr h => ?_) fun _ _ _ _ _ _ us hl => match us, hl with | [_], _ => rfl
  have nd := sc_thin_rows.nd
  obtain ⟨R, xs, ls, n, rfl, hs, hx, hw, n0, n1, hl, k⟩ := h
  refine ⟨_, (pss_cons 
      (ps_set (i := 1) nd rfl (Or.inl rfl) (pe_lst pa_nil)) (pss_cons 
      (ps_for PassesOwn.never rfl (pi_K (K := K) rfl (pe_callB (cr_sortD hr) (by rfl) T.sorted (by decide +kernel) (pa_cons (pv 0) pa_nil))) (pg_name (i := 2) nd rfl (Or.inl rfl)) (pss_one 
      (ps_if (pt_not (pt_val (pe_c (c_any_at_most T) hr (by decide) (by rfl) (pa_cons (pv 1) (pa_cons (pv 2) pa_nil))))) (pss_one 
      (ps_expr (pe_bm PySem.F.plainAttrs_list PySem.F.slot_list_append PySem.F.type_list_append mt_append (pv 1) (pa_cons (pv 2) pa_nil)))) pss_nil))) (pss_one 
      (ps_ret (pe_ifExp (pt_truth (pv 1) (fun _ => rfl)) (pe_callTy (tupleOf_K (K := K) rfl) (by rfl) T.tuple (by decide +kernel) (pa_cons (pv 1) pa_nil)) pe_non))))), ?_⟩
  refine ⟨Nat.le_of_ble_eq_true rfl, fun p np => ?_⟩
  have hx1 := hx.mono (grow (o := .lst []) np)
  obtain ⟨zs, z1, z2, z3, z4, z5⟩ := zip_rows hx1 (fun l hm e => by
    have := hw l hm
    rw [e] at this
    have this : 0 = n := this
    omega)
  refine ⟨_, rfl, R, zs, rfl, ?_, z3, z4, z5, fun c nc => ?_⟩
  · rw [z1]
    rcases hs with h | h
    · exact .inl ((grow np).seq h)
    · exact .inr (same_tup (grow np) h)
  have hS := (rows_sorted (fun z hz => (z3 z hz).1) z2).mono (grow (o := .lst ((sortD zs).map Prod.fst)) nc)
  have lS := hS.len
  have lm : (ls.mergeSort rowLe).length = ls.length := List.length_mergeSort _
  have hp1 := (grow (o := .lst ((sortD zs).map Prod.fst)) nc) _ _ (upd_same (H := H) (a := p) (o := .lst []))
  have e1 : Same H (upd (upd H p (.lst [])) c (.lst ((sortD zs).map Prod.fst))) := (grow np).trans (grow nc)
  have ncp : c ≠ p := fun z => by
    rw [z, upd_same] at nc
    cases nc
  refine .inl ⟨c, rfl, ⟨_, SqL.of upd_same⟩, ?_⟩
  refine for_it (walk_list (xs := (sortD zs).map Prod.fst)) (fun i σ H' => Same H H' ∧ H' c = some (.lst ((sortD zs).map Prod.fst)) ∧ RowsV K H' ((sortD zs).map Prod.fst) (ls.mergeSort rowLe) ∧ (∃ us, H' p = some (.lst us) ∧ us.length ≤ i ∧ RowsV K H' us (((ls.mergeSort rowLe).take i).foldl thinS [])) ∧ ∃ y, σ = [some (.ref R), some (.ref p), y])
    ⟨e1, upd_same, hS, ⟨[], hp1, Nat.le_refl _, .nil⟩, _, rfl⟩ (fun i σ H' _ ⟨_, h, _⟩ => SqL.of h) ?_ ?_
  · rintro i x σ H1 H2 hi ⟨e, hc, hS, ⟨us, hp, lu, hu⟩, y, rfl⟩ ⟨rfl, g⟩
    obtain ⟨l, gl, tl⟩ := hS.get g
    have ml : l ∈ ls := List.mem_mergeSort.mp (List.mem_of_getElem? gl)
    refine ⟨_, rfl, _, rfl, _, _, rfl, p, us, _, l, rfl, SqL.of hp, hu, tl, fun o ho => ?_, by rw [hw l ml]; exact n1, fun H3 e3 => ⟨_, rfl, ?_⟩⟩
    · rcases thin_sub _ _ o ho with h | h
      · cases h
      · rw [hw l ml, hw o (List.mem_mergeSort.mp (List.mem_of_mem_take h))]
    rw [take_fold thinS [] _ i l gl]
    have hp3 := e3 _ _ hp
    cases o : (((ls.mergeSort rowLe).take i).foldl thinS []).any fun o => leM o l with
    | true =>
      refine iteF ⟨e.trans e3, e3 _ _ hc, hS.mono e3, ⟨us, hp3, by omega, ?_⟩, _, rfl⟩
      rw [thinS_t o]
      exact hu.mono e3
    | false =>
      refine iteT ⟨_, rfl, .inl ⟨rfl, _, SqL.of hp3⟩, _, rfl, p, us, _, rfl, rfl, hp3, size5 (by rw [List.length_map] at hi lS; omega), ?_⟩
      refine ⟨same_mut (e.trans e3) np, by rw [upd_ne ncp]; exact e3 _ _ hc, (hS.mono e3).upd hp3, ⟨us ++ [x], upd_same, by rw [List.length_append]; exact Nat.succ_le_succ lu, ?_⟩, _, rfl⟩
      rw [thinS_f o]
      exact ((hu.mono e3).upd hp3).snoc (tupI_upd hp3 (tl.mono e3))
  · rintro σ H1 ⟨e, hc, hS, ⟨us, hp, lu, hu⟩, y, rfl⟩
    have eT : (((ls.mergeSort rowLe).take ((sortD zs).map Prod.fst).length).foldl thinS []) = thinM ls := by
      unfold thinM
      rw [lS, List.take_length]
    rw [eT] at hu
    refine ⟨_, rfl, _, .inl ⟨us, SqL.of hp, rfl⟩, ?_⟩
    have lu2 := hu.len
    cases us with
    | nil =>
      refine iteF (k _ _ e (.inl ⟨?_, rfl⟩))
      exact List.eq_nil_of_length_eq_zero lu2.symm
    | cons u us =>
      refine iteT ⟨_, rfl, p, _, rfl, .inl ⟨SqL.of hp, fun q nq => k _ _ (e.trans (grow nq)) (.inr ⟨fun z => ?_, q, _, rfl, upd_same, hu.mono (grow nq)⟩)⟩⟩
      rw [z] at lu2
      cases lu2

end
end Fb

set_option Elab.async false
set_option linter.all false
set_option maxRecDepth 100000
set_option maxHeartbeats 4000000
namespace Fb
open PySem PySem.Spec L2
open PyProof.Rows hiding St
open C8 (Cal Met Mak Def cal0 met0 mak0 pe_c pe_mk pe_mt pe_mt0 fnScope fnBody fnArgs pss_cut tCut)
local macro_rules | `(tactic| walk_at "hp") => `(tactic| first | exact upd_same | assumption | (refine grow (by assumption) _ _ ?_; walk_at "hp") | (refine (show Same _ _ by assumption) _ _ ?_; walk_at "hp"))
local macro_rules | `(tactic| walk_at "sm") => `(tactic| first | exact Same.refl _ | assumption | (refine Same.trans ?_ (grow (by assumption)); walk_at "sm") | (refine Same.trans ?_ (show Same _ _ by assumption); walk_at "sm"))
section
variable {P : Program} {w : World} {K : PySem.W.Frag} {mg : Str → Option Value} {base : Heap}
variable {CH : Addr}
/-! ### never_alone -/
def spNever (K : PySem.W.Frag) : Sp := sp3 fun a b c H Q => ∃ x y z : Ln, TupI K H a (tol x) ∧ TupI K H b (tol y) ∧ TupI K H c (tol z) ∧ BdL x ∧ BdL y ∧ BdL z ∧ Q (.bl (nevM x y z)) H
theorem c_never_alone (T : Top K mg CH) : Cal P w K mg base 1 "never_alone" (spNever K) [] := by
  obtain ⟨f, fd, F, df⟩ := T.d_never_alone
  refine cal_of F df (fn3 F sc_never_alone fun cdv A outer s H a b c Q E hr h => ?_) fun _ _ _ _ _ _ us hl => match us, hl with | [_, _, _], _ => rfl
  have nd := sc_never_alone.nd
  obtain ⟨x, y, z, ⟨A1, rfl, h1⟩, ⟨A2, rfl, h2⟩, ⟨A3, rfl, h3⟩, ⟨b1, b2, b3, b4⟩, ⟨c1, c2, c3, c4⟩, ⟨d1, d2, d3, d4⟩, q⟩ := h
  refine ⟨_, (pss_cons 
      (ps_set (i := 3) nd rfl (Or.inl rfl) (pe_op op_mul (pe_op op_sub (pe_ix (ix_K (K := K) rfl) (pv 1) pe_int (fun _ _ => rfl)) (pe_ix (ix_K (K := K) rfl) (pv 0) pe_int (fun _ _ => rfl))) (pe_op op_sub (pe_ix (ix_K (K := K) rfl) (pv 1) pe_int (fun _ _ => rfl)) (pe_ix (ix_K (K := K) rfl) (pv 2) pe_int (fun _ _ => rfl))))) (pss_cons 
      (ps_set (i := 4) nd rfl (Or.inl rfl) (pe_op op_mul (pe_op op_sub (pe_ix (ix_K (K := K) rfl) (pv 2) pe_int (fun _ _ => rfl)) (pe_ix (ix_K (K := K) rfl) (pv 1) pe_int (fun _ _ => rfl))) (pe_op op_sub (pe_ix (ix_K (K := K) rfl) (pv 0) pe_int (fun _ _ => rfl)) (pe_ix (ix_K (K := K) rfl) (pv 1) pe_int (fun _ _ => rfl))))) (pss_one 
      (ps_ret (pe_cmpR op_geU (pv 3) (pv 4) (nomark _)))))), ?_⟩
  refine ⟨_, rfl, .inr (.inl ⟨A2, _, _, _, rfl, rfl, h2, at0, _, rfl, .inr (.inl ⟨A1, _, _, _, rfl, rfl, h1, at0, _, _, rfl, rfl, ?_⟩)⟩)⟩
  refine ⟨_, rfl, .inr (.inl ⟨A2, _, _, _, rfl, rfl, h2, at1, _, rfl, .inr (.inl ⟨A3, _, _, _, rfl, rfl, h3, at1, _, _, rfl, rfl, _, _, rfl, rfl, .inl ⟨by omega, by omega⟩, ?_⟩)⟩)⟩
  refine ⟨_, rfl, .inr (.inl ⟨A3, _, _, _, rfl, rfl, h3, at0, _, rfl, .inr (.inl ⟨A2, _, _, _, rfl, rfl, h2, at0, _, _, rfl, rfl, ?_⟩)⟩)⟩
  refine ⟨_, rfl, .inr (.inl ⟨A1, _, _, _, rfl, rfl, h1, at1, _, rfl, .inr (.inl ⟨A2, _, _, _, rfl, rfl, h2, at1, _, _, rfl, rfl, _, _, rfl, rfl, .inl ⟨by omega, by omega⟩, ?_⟩)⟩)⟩
  exact ⟨_, rfl, _, rfl, _, _, rfl, rfl, q⟩

end
end Fb

set_option Elab.async false
set_option linter.all false
set_option maxRecDepth 100000
set_option maxHeartbeats 4000000
namespace Fb
open PySem PySem.Spec L2
open PyProof.Rows hiding St
open C8 (Cal Met Mak Def cal0 met0 mak0 pe_c pe_mk pe_mt pe_mt0 fnScope fnBody fnArgs pss_cut tCut)
local macro_rules | `(tactic| walk_at "hp") => `(tactic| first | exact upd_same | assumption | (refine grow (by assumption) _ _ ?_; walk_at "hp") | (refine (show Same _ _ by assumption) _ _ ?_; walk_at "hp"))
local macro_rules | `(tactic| walk_at "sm") => `(tactic| first | exact Same.refl _ | assumption | (refine Same.trans ?_ (grow (by assumption)); walk_at "sm") | (refine Same.trans ?_ (show Same _ _ by assumption); walk_at "sm"))
section
variable {P : Program} {w : World} {K : PySem.W.Frag} {mg : Str → Option Value} {base : Heap}
variable {CH : Addr}
/-! ### is_below_at -/
def spBelow (K : PySem.W.Frag) : Sp := sp3 fun a b c H Q => ∃ (l o : Ln) (s : Int), TupI K H a (tol l) ∧ TupI K H b (tol o) ∧ c = .int s ∧ BdL l ∧ BdL o ∧ Q (.bl (blwM l o s)) H
theorem c_is_below_at (T : Top K mg CH) : Cal P w K mg base 1 "is_below_at" (spBelow K) [] := by
  obtain ⟨f, fd, F, df⟩ := T.d_is_below_at
  refine cal_of F df (fn3 F sc_is_below_at fun cdv A outer s H a b c Q E hr h => ?_) fun _ _ _ _ _ _ us hl => match us, hl with | [_, _, _], _ => rfl
  have nd := sc_is_below_at.nd
  obtain ⟨l, o, s, ⟨A1, rfl, h1⟩, ⟨A2, rfl, h2⟩, rfl, ⟨b1, b2, b3, b4⟩, ⟨c1, c2, c3, c4⟩, q⟩ := h
  refine ⟨_, (pss_one 
      (ps_ret (pe_cmpR (lt_K (K := K) rfl hr) (pe_op op_addU (pe_ix (ix_K (K := K) rfl) (pv 0) pe_int (fun _ _ => rfl)) (pe_op op_mul (pe_ix (ix_K (K := K) rfl) (pv 0) pe_int (fun _ _ => rfl)) (pv 2))) (pe_op op_addU (pe_ix (ix_K (K := K) rfl) (pv 1) pe_int (fun _ _ => rfl)) (pe_op op_mul (pe_ix (ix_K (K := K) rfl) (pv 1) pe_int (fun _ _ => rfl)) (pv 2))) (nomark _)))), ?_⟩
  refine ⟨_, rfl, .inr (.inl ⟨A1, _, _, _, rfl, rfl, h1, at0, _, rfl, .inr (.inl ⟨A1, _, _, _, rfl, rfl, h1, at1, _, rfl, _, _, rfl, rfl, .inl ⟨by omega, by omega⟩, .inl ⟨_, _, rfl, rfl, ?_⟩⟩)⟩)⟩
  exact ⟨_, rfl, .inr (.inl ⟨A2, _, _, _, rfl, rfl, h2, at0, _, rfl, .inr (.inl ⟨A2, _, _, _, rfl, rfl, h2, at1, _, rfl, _, _, rfl, rfl, .inl ⟨by omega, by omega⟩, .inl ⟨_, _, rfl, rfl, .inl ⟨_, _, rfl, rfl, q⟩⟩⟩)⟩)⟩

end
end Fb

set_option Elab.async false
set_option linter.all false
set_option maxRecDepth 100000
set_option maxHeartbeats 4000000
namespace Fb
open PySem PySem.Spec L2
open PyProof.Rows hiding St
open C8 (Cal Met Mak Def cal0 met0 mak0 pe_c pe_mk pe_mt pe_mt0 fnScope fnBody fnArgs pss_cut tCut)
local macro_rules | `(tactic| walk_at "hp") => `(tactic| first | exact upd_same | assumption | (refine grow (by assumption) _ _ ?_; walk_at "hp") | (refine (show Same _ _ by assumption) _ _ ?_; walk_at "hp"))
local macro_rules | `(tactic| walk_at "sm") => `(tactic| first | exact Same.refl _ | assumption | (refine Same.trans ?_ (grow (by assumption)); walk_at "sm") | (refine Same.trans ?_ (show Same _ _ by assumption); walk_at "sm"))
section
variable {P : Program} {w : World} {K : PySem.W.Frag} {mg : Str → Option Value} {base : Heap}
variable {CH : Addr}
/-! ### lowest_lines -/
def spLowest (K : PySem.W.Frag) : Sp := sp2 fun a b H Q => ∃ (R : Addr) (xs : List V) (rays : List Ln) (top : Int), a = .ref R ∧ (SqL K H R xs ∨ SqT K H R xs) ∧ RowsV K H xs (rays.map tol) ∧ (∀ r ∈ rays, BdL r) ∧ rays.length ≤ 1000 ∧ b = .int top ∧
  ∀ H' v, Same H H' → Dp K H' v (lnD (lowestM top rays)) → Q v H'
theorem ok_lowest_lines (T : Top K mg CH) {f : Addr} {fd : FuncData} (F : Def K mg "lowest_lines" s_lowest_lines f fd) : FnOk P w K mg base C8.CX0 4 f fd ["lines", "top"] (spLowest K) := by
  refine fn2 F sc_lowest_lines fun cdv A outer s H a b Q E hr h => ?_
  have nd := sc_lowest_lines.nd
  obtain ⟨R, xs, rays, top, rfl, hs, hx, bd, hl, rfl, k⟩ := h
  have lx := hx.len
  rw [List.length_map] at lx
  refine ⟨_, (pss_cons 
      (ps_if (pt_not (pt_truth (pv 0) (fun _ => rfl))) (pss_one 
      (ps_ret pe_non)) pss_nil) (pss_cons 
      (ps_set (i := 2) nd rfl (Or.inl rfl) (pe_lst pa_nil)) (pss_cons 
      (ps_for PassesOwn.never rfl (pi_K (K := K) rfl (pe_c (c_thin_rows T) hr (by decide) (by rfl) (pa_cons (pv 0) pa_nil))) (pg_name (i := 3) nd rfl (Or.inl rfl)) (pss_cut 
      (ps_while PassesOwn.never (PW.pt (pw_and (pt_cmpR op_gtU (pe_callB (len_K (K := K) rfl) (by rfl) T.len (by decide +kernel) (pa_cons (pv 2) pa_nil)) pe_int (nomark _)) (pw_and1 (pt_val (pe_c (c_never_alone T) hr (by decide) (by rfl) (pa_cons (pe_ix (ix_K (K := K) rfl) (pv 2) (pe_un un_neg pe_int) (fun _ _ => rfl)) (pa_cons (pe_ix (ix_K (K := K) rfl) (pv 2) (pe_un un_neg pe_int) (fun _ _ => rfl)) (pa_cons (pv 3) pa_nil)))))))) (pss_one 
      (ps_expr (pe_bm0 PySem.F.plainAttrs_list PySem.F.slot_list_pop PySem.F.type_list_pop mt_pop (pv 2))))) (pss_one 
      (ps_if (PW.pt (pw_or (pt_not (pt_truth (pv 2) (fun _ => rfl))) (pw_or1 (pt_val (pe_c (c_is_below_at T) hr (by decide) (by rfl) (pa_cons (pv 3) (pa_cons (pe_ix (ix_K (K := K) rfl) (pv 2) (pe_un un_neg pe_int) (fun _ _ => rfl)) (pa_cons (pv 1) pa_nil)))))))) (pss_one 
      (ps_expr (pe_bm PySem.F.plainAttrs_list PySem.F.slot_list_append PySem.F.type_list_append mt_append (pv 2) (pa_cons (pv 3) pa_nil)))) pss_nil)))) (pss_one 
      (ps_ret (pe_callTy (tupleOf_K (K := K) rfl) (by rfl) T.tuple (by decide +kernel) (pa_cons (pv 2) pa_nil))))))), ?_⟩
  have tru : TruV K (.ref R) H (!xs.isEmpty) := by
    rcases hs with h | h
    · exact .inl ⟨xs, h, rfl⟩
    · exact .inr (.inl ⟨xs, h, rfl⟩)
  refine ⟨_, rfl, _, tru, ?_⟩
  by_cases e0 : rays = []
  · subst e0
    have : xs = [] := List.eq_nil_of_length_eq_zero lx
    subst this
    exact iteT (k H _ (Same.refl _) .non)
  have ex : xs.isEmpty = false := by
    cases xs with
    | nil => exact absurd (List.eq_nil_of_length_eq_zero lx.symm) e0
    | cons _ _ => rfl
  rw [ex]
  refine iteF ?_
  refine ⟨Nat.le_of_ble_eq_true rfl, fun p np => ?_⟩
  have e1 := grow (o := .lst []) np
  refine ⟨_, rfl, _, rfl, R, xs, rays.map tol, 2, rfl, hs.imp (fun h => e1.seq h) (fun h => same_tup e1 h), hx.mono e1, fun l h => ?_, by decide, by decide, by rw [List.length_map]; omega, fun H2 v e2 hv => ?_⟩
  · obtain ⟨r, _, rfl⟩ := List.mem_map.mp h
    rfl
  rw [thin_tol] at hv
  obtain ⟨ts, tr, tc⟩ := thinP_ok rays
  rcases hv with ⟨z, _⟩ | ⟨nz, C, ys, rfl, hC, hy⟩
  · exfalso
    cases rays with
    | nil => exact e0 rfl
    | cons q r =>
      obtain ⟨y, hy, _⟩ := tc q (List.mem_cons_self ..)
      rw [List.map_eq_nil_iff.mp z] at hy
      cases hy
  have tl0 := thinP_len rays
  have ly := hy.len
  rw [List.length_map] at ly
  have hp2 := e2 _ _ (upd_same (H := H) (a := p) (o := .lst []))
  refine .inr (.inl ⟨C, rfl, ⟨_, SqT.of hC⟩, ?_⟩)
  refine for_it (walk_tup (xs := ys)) (fun i σ H' => Same H H' ∧ H' C = some (.tup ys) ∧ RowsV K H' ys ((thinP rays).map tol) ∧ (∃ us S, S = ((thinP rays).take i).foldl (fun R l => addM top l R) [] ∧ H' p = some (.lst us) ∧ RowsV K H' us (S.reverse.map tol) ∧ us.length ≤ i ∧ (∀ t ∈ S, t ∈ rays)) ∧ ∃ y3, σ = [some (.ref R), some (.int top), some (.ref p), y3])
    ⟨e1.trans e2, hC, hy, ⟨[], [], rfl, hp2, .nil, Nat.le_refl _, fun t h => by cases h⟩, _, rfl⟩ (fun i σ H' _ ⟨_, h, _⟩ => SqT.of h) ?_ ?_
  · rintro i x σ H3 H4 hi ⟨e, hC, hy, ⟨us, S, eS, hp, hu, lu, sS⟩, y3, rfl⟩ ⟨rfl, g⟩
    obtain ⟨l', gl, tl⟩ := hy.get g
    rw [List.getElem?_map] at gl
    cases hlq : (thinP rays)[i]? with
    | none =>
      rw [hlq] at gl
      cases gl
    | some l =>
    rw [hlq] at gl
    cases gl
    have ml : l ∈ rays := ts l (List.mem_of_getElem? hlq)
    have npC : C ≠ p := fun z => by
      rw [z, hp] at hC
      cases hC
    -- while
    refine ⟨fun σ' H' => Same H H' ∧ H' C = some (.tup ys) ∧ RowsV K H' ys ((thinP rays).map tol) ∧ TupI K H' x (tol l) ∧ (∃ us, H' p = some (.lst us) ∧ RowsV K H' us ((popM l S).reverse.map tol) ∧ us.length ≤ i) ∧ σ' = [some (.ref R), some (.int top), some (.ref p), some x], ?_, ?_⟩
    · refine ⟨fun m σ' H' => Same H H' ∧ H' C = some (.tup ys) ∧ RowsV K H' ys ((thinP rays).map tol) ∧ TupI K H' x (tol l) ∧ (∃ us S', us.length = m ∧ H' p = some (.lst us) ∧ RowsV K H' us (S'.reverse.map tol) ∧ us.length ≤ i ∧ popM l S' = popM l S ∧ ∀ t ∈ S', t ∈ rays) ∧ σ' = [some (.ref R), some (.int top), some (.ref p), some x],
        ⟨_, e, hC, hy, tl, ⟨us, S, rfl, hp, hu, lu, rfl, sS⟩, rfl⟩, ?_⟩
      rintro m σ' H5 ⟨e, hC, hy, tl, ⟨us, S', em, hp, hu, lu, eP, sS⟩, rfl⟩
      have lS := hu.len
      rw [List.length_map, List.length_reverse] at lS
      refine ⟨_, rfl, .inl ⟨p, us, rfl, .inl (SqL.of hp), _, _, rfl, rfl, _, rfl, ite2 (fun h => ?_) (fun h => ?_)⟩⟩
      · have h := of_decide_eq_true h
        obtain ⟨y, z, r, rfl⟩ : ∃ y z r, S' = y :: z :: r := by
          match S', lS with
          | [], q =>
            have q : us.length = 0 := q
            omega
          | [_], q =>
            have q : us.length = 1 := q
            omega
          | y :: z :: r, _ => exact ⟨y, z, r, rfl⟩
        obtain ⟨vs, u, rfl, hvs, tu⟩ := rows_last hu
        obtain ⟨ws, u2, rfl, hws, tu2⟩ := rows_last hvs
        refine ⟨_, rfl, _, rfl, .inl ⟨p, _, _, _, rfl, rfl, SqL.of hp, atI_last2 ws u2 u, ?_⟩⟩
        refine ⟨_, rfl, _, rfl, .inl ⟨p, _, _, _, rfl, rfl, SqL.of hp, atI_last (ws ++ [u2]) u, ?_⟩⟩
        refine ⟨_, rfl, _, _, _, rfl, z, y, l, tu2, tu, tl, bd z (sS z (by simp)), bd y (sS y (by simp)), bd l ml, _, rfl, ?_⟩
        cases nv : nevM z y l with
        | true =>
          refine iteT ⟨fun σ' H' => Same H H' ∧ H' C = some (.tup ys) ∧ RowsV K H' ys ((thinP rays).map tol) ∧ TupI K H' x (tol l) ∧ (∃ us S', us.length + 1 = m ∧ H' p = some (.lst us) ∧ RowsV K H' us (S'.reverse.map tol) ∧ us.length ≤ i ∧ popM l S' = popM l S ∧ ∀ t ∈ S', t ∈ rays) ∧ σ' = [some (.ref R), some (.int top), some (.ref p), some x], ?_, ?_⟩
          · rintro σ' H' ⟨k1, k2, k3, k4, ⟨us, S', k5, k6⟩, k7⟩
            exact ⟨us.length, by omega, k1, k2, k3, k4, ⟨us, S', rfl, k6⟩, k7⟩
          refine ⟨_, rfl, .inl ⟨rfl, _, SqL.of hp⟩, p, _, u, rfl, rfl, hp, ?_, ?_⟩
          · rw [List.length_append]
            show (ws ++ [u2] ++ [u])[(ws ++ [u2]).length]? = some u
            rw [List.getElem?_append_right (Nat.le_refl _), Nat.sub_self]
            rfl
          · rw [List.dropLast_concat]
            refine ⟨same_mut e np, by rw [upd_ne npC]; exact hC, hy.upd hp, tupI_upd hp tl, ⟨ws ++ [u2], z :: r, ?_, upd_same, hvs.upd hp, by rw [List.length_append] at lu; omega, ?_, fun t ht => sS t (List.mem_cons_of_mem _ ht)⟩, rfl⟩
            · rw [← em, List.length_append (bs := [u])]
              rfl
            · rw [← eP, pop_step nv]
        | false =>
          refine iteF ⟨e, hC, hy, tl, ⟨_, hp, ?_, lu⟩, rfl⟩
          rw [← eP, pop_stop nv]
          exact hu
      · have h : ¬ (1 : Int) < us.length := fun z => h (decide_eq_true z)
        refine ⟨e, hC, hy, tl, ⟨us, hp, ?_, lu⟩, rfl⟩
        have le : S'.length ≤ 1 := by omega
        have eq : popM l S' = S' := by
          match S', le with
          | [], _ => rfl
          | [_], _ => rfl
          | _ :: _ :: r, q => exact absurd q (by simp)
        rw [← eP, eq]
        exact hu
    rintro σ' H5 ⟨e, hC, hy, tl, ⟨us, hp, hu, lu⟩, rfl⟩
    have eS2 : ((thinP rays).take (i + 1)).foldl (fun R l => addM top l R) [] = addM top l S := by
      rw [eS]
      exact take_fold (fun R l => addM top l R) [] _ i l hlq
    have sub2 : ∀ t ∈ addM top l S, t ∈ rays := fun t ht => by
      rcases add_sub t ht with rfl | h
      · exact ml
      · exact sS t h
    refine ⟨_, rfl, _, .inl ⟨us, SqL.of hp, rfl⟩, ?_⟩
    have lU := hu.len
    have app : ∀ z : List Ln, addM top l S = l :: z → popM l S = z → ∃ us2 S2, S2 = ((thinP rays).take (i + 1)).foldl (fun R l => addM top l R) [] ∧ upd H5 p (.lst (us ++ [x])) p = some (.lst us2) ∧ RowsV K (upd H5 p (.lst (us ++ [x]))) us2 (S2.reverse.map tol) ∧ us2.length ≤ i + 1 ∧ ∀ t ∈ S2, t ∈ rays := by
      intro z h1 h2
      refine ⟨us ++ [x], l :: z, by rw [eS2, h1], upd_same, ?_, by rw [List.length_append]; exact Nat.succ_le_succ lu, by rw [← h1]; exact sub2⟩
      rw [List.reverse_cons, List.map_append]
      rw [h2] at hu
      exact (hu.upd hp).snoc (tupI_upd hp tl)
    cases eP : popM l S with
    | nil =>
      rw [eP] at hu lU
      have eu : us = [] := List.eq_nil_of_length_eq_zero lU
      have eA : addM top l S = [l] := by
        unfold addM
        rw [eP]
      subst eu
      refine iteT ⟨_, rfl, .inl ⟨rfl, _, SqL.of hp⟩, _, rfl, p, [], _, rfl, rfl, hp, size5 (by decide), ?_⟩
      exact ⟨same_mut e np, by rw [upd_ne npC]; exact hC, hy.upd hp, app [] eA eP, _, rfl⟩
    | cons y r =>
      rw [eP] at hu
      obtain ⟨vs, u, rfl, hvs, tu⟩ := rows_last hu
      have my : y ∈ rays := sS y (pop_sub (l := l) y (by rw [eP]; exact List.mem_cons_self ..))
      have ne : (vs ++ [u]).isEmpty = false := by cases vs <;> rfl
      rw [ne]
      refine iteF ?_
      refine ⟨_, rfl, _, rfl, _, rfl, .inl ⟨p, _, _, _, rfl, rfl, SqL.of hp, atI_last vs u, ?_⟩⟩
      refine ⟨_, rfl, _, _, _, rfl, l, y, top, tl, tu, rfl, bd l ml, bd y my, _, rfl, ?_⟩
      cases bl : blwM l y top with
      | true =>
        have eA : addM top l S = l :: y :: r := by
          unfold addM
          rw [eP]
          exact if_pos bl
        refine iteT ⟨_, rfl, .inl ⟨rfl, _, SqL.of hp⟩, _, rfl, p, _, _, rfl, rfl, hp, size5 (by omega), ?_⟩
        exact ⟨same_mut e np, by rw [upd_ne npC]; exact hC, hy.upd hp, app (y :: r) eA eP, _, rfl⟩
      | false =>
        have eA : addM top l S = y :: r := by
          unfold addM
          rw [eP]
          exact if_neg (by rw [bl]; exact Bool.false_ne_true)
        exact iteF ⟨e, hC, hy, ⟨vs ++ [u], y :: r, by rw [eS2, eA], hp, hu, by omega, by rw [← eA]; exact sub2⟩, _, rfl⟩
  · rintro σ H3 ⟨e, hC, hy, ⟨us, S, eS, hp, hu, lu, sS⟩, y3, rfl⟩
    refine ⟨_, rfl, p, _, rfl, .inl ⟨SqL.of hp, fun q nq => k _ _ (e.trans (grow nq)) ?_⟩⟩
    unfold lowestM
    rw [if_neg e0]
    rw [ly, List.take_length] at eS
    subst eS
    refine .tup (SqT.of upd_same) ?_
    have h := hu.mono (grow (o := .tup us) nq)
    unfold RowsV at h
    rw [List.map_map] at h
    exact h

theorem k_lowest_lines_0_top_lines (T : Top K mg CH) : CalK P w K mg base 4 "lowest_lines" (spLowest K) 0 ["top", "lines"] (fun vs zs => pick vs [] zs [(2, 1), (2, 0)]) := by
  obtain ⟨f, fd, F, df⟩ := T.d_lowest_lines
  exact ⟨f, fd, _, _, ok_lowest_lines T F, F.mgf, F.kp, nod_kbn (ps := ["lines", "top"]) (ks := ["top", "lines"]) F df 0 [(2, 1), (2, 0)] fun _ _ _ _ _ _ us ws l1 l2 => match us, ws, l1, l2 with | [], [_, _], _, _ => rfl⟩
theorem c_lowest_lines (T : Top K mg CH) : Cal P w K mg base 4 "lowest_lines" (spLowest K) [] := by
  obtain ⟨f, fd, F, df⟩ := T.d_lowest_lines
  exact cal_of F df (ok_lowest_lines T F) fun _ _ _ _ _ _ us hl => match us, hl with | [_, _], _ => rfl

end
end Fb

set_option Elab.async false
set_option linter.all false
set_option maxRecDepth 100000
set_option maxHeartbeats 4000000
namespace Fb
open PySem PySem.Spec L2
open PyProof.Rows hiding St
open C8 (Cal Met Mak Def cal0 met0 mak0 pe_c pe_mk pe_mt pe_mt0 fnScope fnBody fnArgs pss_cut tCut)
local macro_rules | `(tactic| walk_at "hp") => `(tactic| first | exact upd_same | assumption | (refine grow (by assumption) _ _ ?_; walk_at "hp") | (refine (show Same _ _ by assumption) _ _ ?_; walk_at "hp"))
local macro_rules | `(tactic| walk_at "sm") => `(tactic| first | exact Same.refl _ | assumption | (refine Same.trans ?_ (grow (by assumption)); walk_at "sm") | (refine Same.trans ?_ (show Same _ _ by assumption); walk_at "sm"))
section
variable {P : Program} {w : World} {K : PySem.W.Frag} {mg : Str → Option Value} {base : Heap}
variable {CH : Addr}
/-! ### _law_like -/
def spLike (K : PySem.W.Frag) (n : Nat) : Sp := sp2 fun a b H Q => ∃ d, Lk n d ∧ Dp K H a d ∧ Dp K H b d ∧ Then H Q (.bl true)
theorem c__law_like_n (T : Top K mg CH) : ∀ n, Cal P w K mg base (n + 1) "_law_like" (spLike K n) []
  | 0 => by
    obtain ⟨f, fd, F, df⟩ := T.d__law_like
    refine cal_of F df (fn2 F sc__law_like fun cdv A outer s H a b Q E hr h => ?_) fun _ _ _ _ _ _ us hl => match us, hl with | [_, _], _ => rfl
    obtain ⟨d, h, _⟩ := h
    exact h.elim
  | n + 1 => by
    have ih := @c__law_like_n T n
    obtain ⟨f, fd, F, df⟩ := T.d__law_like
    refine cal_of F df (fn2 F sc__law_like fun cdv A outer s H a b Q E hr h => ?_) fun _ _ _ _ _ _ us hl => match us, hl with | [_, _], _ => rfl
    have nd := sc__law_like.nd
    obtain ⟨d, lk, ha, hb, q⟩ := h
    refine ⟨_, (pss_cons 
      (ps_if (pt_val (pe_callB (isi_K (K := K) rfl) (by rfl) T.isinstance (by decide +kernel) (pa_cons (pv 1) (pa_cons (pe_tup (pa_cons (pe_bltn (v := .ty "list") (by rfl) T.list (by decide +kernel) rfl) (pa_cons (pe_bltn (v := .ty "tuple") (by rfl) T.tuple (by decide +kernel) rfl) pa_nil))) pa_nil)))) (pss_cons 
      (ps_if (PW.pt (pw_or (pt_cmpR (ne_K (K := K) rfl hr) (pe_callB (isi_K (K := K) rfl) (by rfl) T.isinstance (by decide +kernel) (pa_cons (pv 0) (pa_cons (pe_bltn (v := .ty "list") (by rfl) T.list (by decide +kernel) rfl) pa_nil))) (pe_callB (isi_K (K := K) rfl) (by rfl) T.isinstance (by decide +kernel) (pa_cons (pv 1) (pa_cons (pe_bltn (v := .ty "list") (by rfl) T.list (by decide +kernel) rfl) pa_nil))) (nomark _)) (pw_or1 (pt_cmpR (ne_K (K := K) rfl hr) (pe_callB (isi_K (K := K) rfl) (by rfl) T.isinstance (by decide +kernel) (pa_cons (pv 0) (pa_cons (pe_bltn (v := .ty "tuple") (by rfl) T.tuple (by decide +kernel) rfl) pa_nil))) (pe_callB (isi_K (K := K) rfl) (by rfl) T.isinstance (by decide +kernel) (pa_cons (pv 1) (pa_cons (pe_bltn (v := .ty "tuple") (by rfl) T.tuple (by decide +kernel) rfl) pa_nil))) (nomark _))))) (pss_one 
      (ps_ret pe_bl)) pss_nil) (pss_one 
      (ps_ret (pe_and (pe_cmpR (eq_K (K := K) rfl hr) (pe_callB (len_K (K := K) rfl) (by rfl) T.len (by decide +kernel) (pa_cons (pv 0) pa_nil)) (pe_callB (len_K (K := K) rfl) (by rfl) T.len (by decide +kernel) (pa_cons (pv 1) pa_nil)) (nomark _)) (pe_one (pe_callB (all_K (K := K) rfl rfl) (by rfl) T.all (by decide +kernel) (pa_cons (pe_lc (own := [("a", 3), ("b", 4)]) rfl nd (zip_K (K := K) rfl (by rfl) T.zip (pa_cons (pv 0) (pa_cons (pv 1) pa_nil))) (blkOk_by (N := ["told", "due", "k", "a", "b"]) (sc := fnScope s__law_like) (by decide +kernel)) (fun _ _ _ _ _ => (tup_K (K := K) (n := 2) rfl rfl (pgs_cons (pg_name (i := 3) nd rfl (Or.inl rfl)) (pgs_cons (pg_name (i := 4) nd rfl (Or.inl rfl)) pgs_nil)))) (fun _ _ _ _ _ => pts_nil) (fun _ _ _ _ _ => (pe_c ih hr (Nat.le_refl _) (by rfl) (pa_cons (pv 3) (pa_cons (pv 4) pa_nil))))) pa_nil))))))) pss_nil) (pss_cons 
      (ps_if (pt_val (pe_callB (isi_K (K := K) rfl) (by rfl) T.isinstance (by decide +kernel) (pa_cons (pv 1) (pa_cons (pe_bltn (v := .ty "dict") (by rfl) T.dict (by decide +kernel) rfl) pa_nil)))) (pss_cons 
      (ps_if (pt_not (pt_val (pe_callB (isi_K (K := K) rfl) (by rfl) T.isinstance (by decide +kernel) (pa_cons (pv 0) (pa_cons (pe_bltn (v := .ty "dict") (by rfl) T.dict (by decide +kernel) rfl) pa_nil))))) (pss_one 
      (ps_ret pe_bl)) pss_nil) (pss_one 
      (ps_ret (pe_c ih hr (Nat.le_refl _) (by rfl) (pa_cons (pe_lc (own := [("k", 2)]) rfl nd (pi_K (K := K) rfl (pv 0)) (blkOk_by (N := ["told", "due", "k", "a", "b"]) (sc := fnScope s__law_like) (by decide +kernel)) (fun _ _ _ _ _ => (pg_name (i := 2) nd rfl (Or.inl rfl))) (fun _ _ _ _ _ => pts_nil) (fun _ _ _ _ _ => (pe_lst (pa_cons (pv 2) (pa_cons (pe_ix (ix_K (K := K) rfl) (pv 0) (pv 2) (fun _ _ => rfl)) pa_nil))))) (pa_cons (pe_lc (own := [("k", 2)]) rfl nd (pi_K (K := K) rfl (pv 1)) (blkOk_by (N := ["told", "due", "k", "a", "b"]) (sc := fnScope s__law_like) (by decide +kernel)) (fun _ _ _ _ _ => (pg_name (i := 2) nd rfl (Or.inl rfl))) (fun _ _ _ _ _ => pts_nil) (fun _ _ _ _ _ => (pe_lst (pa_cons (pv 2) (pa_cons (pe_ix (ix_K (K := K) rfl) (pv 1) (pv 2) (fun _ _ => rfl)) pa_nil))))) pa_nil)))))) pss_nil) (pss_cons 
      (ps_if (PW.pt (pw_or (pt_cmpR op_isN (pv 1) pe_non (nomark _)) (pw_or1 (pt_cmpR op_isN (pv 0) pe_non (nomark _))))) (pss_one 
      (ps_ret (pe_and (pe_cmpR op_isN (pv 1) pe_non (nomark _)) (pe_one (pe_cmpR op_isN (pv 0) pe_non (nomark _)))))) pss_nil) (pss_cons 
      (ps_if (PW.pt (pw_or (pt_val (pe_callB (isi_K (K := K) rfl) (by rfl) T.isinstance (by decide +kernel) (pa_cons (pv 0) (pa_cons (pe_tup (pa_cons (pe_bltn (v := .ty "list") (by rfl) T.list (by decide +kernel) rfl) (pa_cons (pe_bltn (v := .ty "tuple") (by rfl) T.tuple (by decide +kernel) rfl) (pa_cons (pe_bltn (v := .ty "dict") (by rfl) T.dict (by decide +kernel) rfl) pa_nil)))) pa_nil)))) (pw_or1 (pt_cmpR (ne_K (K := K) rfl hr) (pe_callB (isi_K (K := K) rfl) (by rfl) T.isinstance (by decide +kernel) (pa_cons (pv 0) (pa_cons (pe_bltn (v := .ty "bool") (by rfl) T.bool (by decide +kernel) rfl) pa_nil))) (pe_callB (isi_K (K := K) rfl) (by rfl) T.isinstance (by decide +kernel) (pa_cons (pv 1) (pa_cons (pe_bltn (v := .ty "bool") (by rfl) T.bool (by decide +kernel) rfl) pa_nil))) (nomark _))))) (pss_one 
      (ps_ret pe_bl)) pss_nil) (pss_cons 
      (ps_if (PW.pt (pw_or (pt_cmpR (ne_K (K := K) rfl hr) (pe_callB (isi_K (K := K) rfl) (by rfl) T.isinstance (by decide +kernel) (pa_cons (pv 0) (pa_cons (pe_bltn (v := .ty "str") (by rfl) T.str (by decide +kernel) rfl) pa_nil))) (pe_callB (isi_K (K := K) rfl) (by rfl) T.isinstance (by decide +kernel) (pa_cons (pv 1) (pa_cons (pe_bltn (v := .ty "str") (by rfl) T.str (by decide +kernel) rfl) pa_nil))) (nomark _)) (pw_or1 (pt_cmpR (ne_K (K := K) rfl hr) (pe_callB (isi_K (K := K) rfl) (by rfl) T.isinstance (by decide +kernel) (pa_cons (pv 0) (pa_cons (pe_bltn (v := .ty "int") (by rfl) T.int (by decide +kernel) rfl) pa_nil))) (pe_callB (isi_K (K := K) rfl) (by rfl) T.isinstance (by decide +kernel) (pa_cons (pv 1) (pa_cons (pe_bltn (v := .ty "int") (by rfl) T.int (by decide +kernel) rfl) pa_nil))) (nomark _))))) (pss_one 
      (ps_ret pe_bl)) pss_nil) (pss_one 
      (ps_ret (pe_callTy call_bool1 (by rfl) T.bool (by decide +kernel) (pa_cons (pe_cmpR (eq_K (K := K) rfl hr) (pv 0) (pv 1) (nomark _)) pa_nil))))))))), ?_⟩
    have tb := dp_ty hb
    have ta := dp_ty ha
    cases d with
    | dict _ => exact lk.elim
    | none =>
      cases hb
      cases ha
      refine ⟨_, rfl, by decide, fun t nt => .inr ⟨_, _, ["list", "tuple"], "NoneType", false, rfl, upd_same, ty_mono .non (grow nt), by decide +kernel, _, rfl, iteF ?_⟩⟩
      refine ⟨_, rfl, .inl ⟨_, _, _, false, rfl, .base .non, by decide +kernel, _, rfl, iteF ?_⟩⟩
      refine ⟨_, rfl, rfl, _, rfl, iteT ⟨_, rfl, rfl, _, rfl, iteT ⟨_, rfl, rfl, q _ (grow nt)⟩⟩⟩
    | bool x =>
      cases hb
      cases ha
      refine ⟨_, rfl, by decide, fun t nt => .inr ⟨_, _, ["list", "tuple"], "bool", false, rfl, upd_same, .base (.bl x), by decide +kernel, _, rfl, iteF ?_⟩⟩
      refine ⟨_, rfl, .inl ⟨_, _, _, false, rfl, .base (.bl x), by decide +kernel, _, rfl, iteF ?_⟩⟩
      refine ⟨_, rfl, rfl, _, rfl, iteF ⟨_, rfl, rfl, _, rfl, iteF ?_⟩⟩
      refine ⟨_, rfl, by decide, fun t2 nt2 => .inr ⟨_, _, ["list", "tuple", "dict"], "bool", false, rfl, upd_same, .base (.bl x), by decide +kernel, _, rfl, iteF ?_⟩⟩
      refine ⟨_, rfl, .inl ⟨_, _, _, true, rfl, .base (.bl x), by decide +kernel, ⟨_, rfl, .inl ⟨_, _, _, true, rfl, .base (.bl x), by decide +kernel, .inl ⟨rfl, _, rfl, iteF ?_⟩⟩⟩⟩⟩
      refine ⟨_, rfl, .inl ⟨_, _, _, false, rfl, .base (.bl x), by decide +kernel, ⟨_, rfl, .inl ⟨_, _, _, false, rfl, .base (.bl x), by decide +kernel, .inl ⟨rfl, _, rfl, iteF ?_⟩⟩⟩⟩⟩
      refine ⟨_, rfl, .inl ⟨_, _, _, true, rfl, .base (.bl x), by decide +kernel, ⟨_, rfl, .inl ⟨_, _, _, true, rfl, .base (.bl x), by decide +kernel, .inl ⟨rfl, _, rfl, iteF ?_⟩⟩⟩⟩⟩
      refine ⟨_, rfl, _, rfl, .inl ⟨rfl, .inr ⟨_, rfl, ?_⟩⟩⟩
      rw [decide_eq_true (rfl : V.bl x = V.bl x)]
      exact q _ ((grow nt).trans (grow nt2))
    | int x =>
      cases hb
      cases ha
      refine ⟨_, rfl, by decide, fun t nt => .inr ⟨_, _, ["list", "tuple"], "int", false, rfl, upd_same, .base (.int x), by decide +kernel, _, rfl, iteF ?_⟩⟩
      refine ⟨_, rfl, .inl ⟨_, _, _, false, rfl, .base (.int x), by decide +kernel, _, rfl, iteF ?_⟩⟩
      refine ⟨_, rfl, rfl, _, rfl, iteF ⟨_, rfl, rfl, _, rfl, iteF ?_⟩⟩
      refine ⟨_, rfl, by decide, fun t2 nt2 => .inr ⟨_, _, ["list", "tuple", "dict"], "int", false, rfl, upd_same, .base (.int x), by decide +kernel, _, rfl, iteF ?_⟩⟩
      refine ⟨_, rfl, .inl ⟨_, _, _, false, rfl, .base (.int x), by decide +kernel, ⟨_, rfl, .inl ⟨_, _, _, false, rfl, .base (.int x), by decide +kernel, .inl ⟨rfl, _, rfl, iteF ?_⟩⟩⟩⟩⟩
      refine ⟨_, rfl, .inl ⟨_, _, _, false, rfl, .base (.int x), by decide +kernel, ⟨_, rfl, .inl ⟨_, _, _, false, rfl, .base (.int x), by decide +kernel, .inl ⟨rfl, _, rfl, iteF ?_⟩⟩⟩⟩⟩
      refine ⟨_, rfl, .inl ⟨_, _, _, true, rfl, .base (.int x), by decide +kernel, ⟨_, rfl, .inl ⟨_, _, _, true, rfl, .base (.int x), by decide +kernel, .inl ⟨rfl, _, rfl, iteF ?_⟩⟩⟩⟩⟩
      refine ⟨_, rfl, _, rfl, .inl ⟨rfl, .inr ⟨_, rfl, ?_⟩⟩⟩
      rw [decide_eq_true (rfl : V.int x = V.int x)]
      exact q _ ((grow nt).trans (grow nt2))
    | str x =>
      cases hb
      cases ha
      refine ⟨_, rfl, by decide, fun t nt => .inr ⟨_, _, ["list", "tuple"], "str", false, rfl, upd_same, .base (.str x), by decide +kernel, _, rfl, iteF ?_⟩⟩
      refine ⟨_, rfl, .inl ⟨_, _, _, false, rfl, .base (.str x), by decide +kernel, _, rfl, iteF ?_⟩⟩
      refine ⟨_, rfl, rfl, _, rfl, iteF ⟨_, rfl, rfl, _, rfl, iteF ?_⟩⟩
      refine ⟨_, rfl, by decide, fun t2 nt2 => .inr ⟨_, _, ["list", "tuple", "dict"], "str", false, rfl, upd_same, .base (.str x), by decide +kernel, _, rfl, iteF ?_⟩⟩
      refine ⟨_, rfl, .inl ⟨_, _, _, false, rfl, .base (.str x), by decide +kernel, ⟨_, rfl, .inl ⟨_, _, _, false, rfl, .base (.str x), by decide +kernel, .inl ⟨rfl, _, rfl, iteF ?_⟩⟩⟩⟩⟩
      refine ⟨_, rfl, .inl ⟨_, _, _, true, rfl, .base (.str x), by decide +kernel, ⟨_, rfl, .inl ⟨_, _, _, true, rfl, .base (.str x), by decide +kernel, .inl ⟨rfl, _, rfl, iteF ?_⟩⟩⟩⟩⟩
      refine ⟨_, rfl, .inl ⟨_, _, _, false, rfl, .base (.str x), by decide +kernel, ⟨_, rfl, .inl ⟨_, _, _, false, rfl, .base (.str x), by decide +kernel, .inl ⟨rfl, _, rfl, iteF ?_⟩⟩⟩⟩⟩
      refine ⟨_, rfl, _, rfl, .inl ⟨rfl, .inr ⟨_, rfl, ?_⟩⟩⟩
      rw [decide_eq_true (rfl : V.str x = V.str x)]
      exact q _ ((grow nt).trans (grow nt2))
    | list ds =>
      obtain ⟨hl, lks⟩ := lk
      cases hb with
      | lst sb db =>
      cases ha with
      | lst sa da =>
      rename_i bb ys aa xs
      have l1 := dpAll_len da
      have l2 := dpAll_len db
      refine ⟨_, rfl, by decide, fun t nt => .inr ⟨_, _, ["list", "tuple"], "list", true, rfl, upd_same, sql_ty (Same.seq (grow nt) sb), by decide +kernel, _, rfl, iteT ?_⟩⟩
      have sa := Same.seq (grow (o := .tup (["list", "tuple"].map V.ty)) nt) sa
      have sb := Same.seq (grow (o := .tup (["list", "tuple"].map V.ty)) nt) sb
      have da := dpAll_mono (grow (o := .tup (["list", "tuple"].map V.ty)) nt) ds da
      have db := dpAll_mono (grow (o := .tup (["list", "tuple"].map V.ty)) nt) ds db
      refine ⟨_, rfl, .inl ⟨_, _, _, true, rfl, sql_ty sa, by decide +kernel, ⟨_, rfl, .inl ⟨_, _, _, true, rfl, sql_ty sb, by decide +kernel, .inl ⟨rfl, _, rfl, iteF ?_⟩⟩⟩⟩⟩
      refine ⟨_, rfl, .inl ⟨_, _, _, false, rfl, sql_ty sa, by decide +kernel, ⟨_, rfl, .inl ⟨_, _, _, false, rfl, sql_ty sb, by decide +kernel, .inl ⟨rfl, _, rfl, iteF ?_⟩⟩⟩⟩⟩
      refine ⟨_, rfl, .inl ⟨_, _, rfl, .inl sa, ⟨_, rfl, .inl ⟨_, _, rfl, .inl sb, .inl ⟨rfl, _, rfl, ?_⟩⟩⟩⟩⟩
      rw [decide_eq_true (show V.int xs.length = V.int ys.length by rw [l1, l2])]
      refine iteT ⟨_, rfl, _, rfl, _, _, xs, ys, rfl, .inl ⟨sa, sb, fun D hD => ?_⟩⟩
      refine lc_map (walk_zip (n := ds.length) (by omega)) (fun _ => .bl true) grow_pair hl hD (fun H1 e => ⟨Same.seq e sa, Same.seq e sb⟩) ?_ ?_
      · rintro i x H1 H2 hi e ⟨T, x1, x2, rfl, nT, rfl, g1, g2⟩ R k
        obtain ⟨d1, h1, p1⟩ := dpAll_get da g1
        obtain ⟨d2, h2, p2⟩ := dpAll_get db g2
        have ed : d2 = d1 := Option.some.inj (h2.symm.trans h1)
        subst ed
        have e2 := e.trans (grow (o := .tup [x1, x2]) nT)
        exact ⟨T, [x1, x2], rfl, SqT.of upd_same, rfl, x1, [x2], rfl, x2, [], rfl, rfl, rfl, _, rfl, _, rfl, _, _, rfl, d2, lk_item lks h1, dp_mono e2 _ p1, dp_mono e2 _ p2, k⟩
      · intro H1 e hd
        refine ⟨D, (List.range ds.length).map fun _ => true, rfl, SqL.of (by rw [hd, List.map_map]; rfl), ?_⟩
        rw [all_true]
        exact q _ ((grow nt).trans e)
    | tuple ds =>
      obtain ⟨hl, lks⟩ := lk
      cases hb with
      | tup sb db =>
      cases ha with
      | tup sa da =>
      rename_i bb ys aa xs
      have l1 := dpAll_len da
      have l2 := dpAll_len db
      refine ⟨_, rfl, by decide, fun t nt => .inr ⟨_, _, ["list", "tuple"], "tuple", true, rfl, upd_same, sqt_ty (same_tup (grow nt) sb), by decide +kernel, _, rfl, iteT ?_⟩⟩
      have sa := same_tup (grow (o := .tup (["list", "tuple"].map V.ty)) nt) sa
      have sb := same_tup (grow (o := .tup (["list", "tuple"].map V.ty)) nt) sb
      have da := dpAll_mono (grow (o := .tup (["list", "tuple"].map V.ty)) nt) ds da
      have db := dpAll_mono (grow (o := .tup (["list", "tuple"].map V.ty)) nt) ds db
      refine ⟨_, rfl, .inl ⟨_, _, _, false, rfl, sqt_ty sa, by decide +kernel, ⟨_, rfl, .inl ⟨_, _, _, false, rfl, sqt_ty sb, by decide +kernel, .inl ⟨rfl, _, rfl, iteF ?_⟩⟩⟩⟩⟩
      refine ⟨_, rfl, .inl ⟨_, _, _, true, rfl, sqt_ty sa, by decide +kernel, ⟨_, rfl, .inl ⟨_, _, _, true, rfl, sqt_ty sb, by decide +kernel, .inl ⟨rfl, _, rfl, iteF ?_⟩⟩⟩⟩⟩
      refine ⟨_, rfl, .inl ⟨_, _, rfl, .inr sa, ⟨_, rfl, .inl ⟨_, _, rfl, .inr sb, .inl ⟨rfl, _, rfl, ?_⟩⟩⟩⟩⟩
      rw [decide_eq_true (show V.int xs.length = V.int ys.length by rw [l1, l2])]
      refine iteT ⟨_, rfl, _, rfl, _, _, xs, ys, rfl, .inr ⟨sa, sb, fun D hD => ?_⟩⟩
      refine lc_map (walk_zipT (n := ds.length) (by omega)) (fun _ => .bl true) grow_pair hl hD (fun H1 e => ⟨same_tup e sa, same_tup e sb⟩) ?_ ?_
      · rintro i x H1 H2 hi e ⟨T, x1, x2, rfl, nT, rfl, g1, g2⟩ R k
        obtain ⟨d1, h1, p1⟩ := dpAll_get da g1
        obtain ⟨d2, h2, p2⟩ := dpAll_get db g2
        have ed : d2 = d1 := Option.some.inj (h2.symm.trans h1)
        subst ed
        have e2 := e.trans (grow (o := .tup [x1, x2]) nT)
        exact ⟨T, [x1, x2], rfl, SqT.of upd_same, rfl, x1, [x2], rfl, x2, [], rfl, rfl, rfl, _, rfl, _, rfl, _, _, rfl, d2, lk_item lks h1, dp_mono e2 _ p1, dp_mono e2 _ p2, k⟩
      · intro H1 e hd
        refine ⟨D, (List.range ds.length).map fun _ => true, rfl, SqL.of (by rw [hd, List.map_map]; rfl), ?_⟩
        rw [all_true]
        exact q _ ((grow nt).trans e)
theorem c__law_like (T : Top K mg CH) : Cal P w K mg base 8 "_law_like" (spLike K 7) [] := c__law_like_n T 7

end
end Fb

set_option Elab.async false
set_option linter.all false
set_option maxRecDepth 100000
set_option maxHeartbeats 4000000
namespace Fb
open PySem PySem.Spec L2
open PyProof.Rows hiding St
open C8 (Cal Met Mak Def cal0 met0 mak0 pe_c pe_mk pe_mt pe_mt0 fnScope fnBody fnArgs pss_cut tCut)
local macro_rules | `(tactic| walk_at "hp") => `(tactic| first | exact upd_same | assumption | (refine grow (by assumption) _ _ ?_; walk_at "hp") | (refine (show Same _ _ by assumption) _ _ ?_; walk_at "hp"))
local macro_rules | `(tactic| walk_at "sm") => `(tactic| first | exact Same.refl _ | assumption | (refine Same.trans ?_ (grow (by assumption)); walk_at "sm") | (refine Same.trans ?_ (show Same _ _ by assumption); walk_at "sm"))
section
variable {P : Program} {w : World} {K : PySem.W.Frag} {mg : Str → Option Value} {base : Heap}
variable {CH : Addr}
/-! ### is_name -/
def spIsName (K : PySem.W.Frag) : Sp := sp1 fun a H Q => AnyV K H a ∧ Then H Q (.bl (nameB a))
theorem ok_is_name (T : Top K mg CH) {f : Addr} {fd : FuncData} (F : Def K mg "is_name" s_is_name f fd) : FnOk P w K mg base C8.CX0 1 f fd ["value"] (spIsName K) := by
  refine fn1 F sc_is_name fun cdv A outer s H a Q E hr h => ?_
  have nd := sc_is_name.nd
  obtain ⟨ha, q⟩ := h
  refine ⟨_, (pss_cons 
      (ps_if (PW.pt (pw_or (pt_not (pt_val (pe_callB (isi_K (K := K) rfl) (by rfl) T.isinstance (by decide +kernel) (pa_cons (pv 0) (pa_cons (pe_bltn (v := .ty "str") (by rfl) T.str (by decide +kernel) rfl) pa_nil))))) (pw_or1 (pt_not (pt_chain op_leU op_leU pe_int (pe_callB (len_K (K := K) rfl) (by rfl) T.len (by decide +kernel) (pa_cons (pv 0) pa_nil)) (C8.pe_gc (v := .int 8) (by rfl) T.m_LETTERS)))))) (pss_one 
      (ps_ret pe_bl)) pss_nil) (pss_one 
      (ps_ret (pe_callB (all_K (K := K) rfl rfl) (by rfl) T.all (by decide +kernel) (pa_cons (pe_lc (own := [("letter", 1)]) rfl nd (pi_K (K := K) rfl (pv 0)) (blkOk_by (N := ["value", "letter"]) (sc := fnScope s_is_name) (by decide +kernel)) (fun _ _ _ _ _ => (pg_name (i := 1) nd rfl (Or.inl rfl))) (fun _ _ _ _ _ => pts_nil) (fun _ _ _ _ _ => (pe_chain op_leU op_leU pe_str (pv 1) pe_str))) pa_nil))))), ?_⟩
  rcases ha.strOr with ⟨z, rfl, hz⟩ | ⟨no, t, ty, kb⟩
  · refine ⟨_, rfl, .inl ⟨_, _, _, true, rfl, .base (.str z), by decide +kernel, _, rfl, ?_⟩⟩
    -- not 1 <= len(value) <= LETTERS
    refine iteF ⟨_, rfl, .inr ⟨z, rfl, size5' hz, .inl ⟨_, _, rfl, rfl, _, rfl, ite2 (fun h1 => ?_) (fun h1 => ?_)⟩⟩⟩
    · refine .inl ⟨_, _, rfl, rfl, _, rfl, ?_⟩
      by_cases h8 : (z.length : Int) ≤ 8
      · rw [decide_eq_true h8]
        refine iteF ?_
        -- all([..])
        refine ⟨_, rfl, .inr (.inr ⟨z, rfl, fun D hD => ?_⟩)⟩
        refine lc_map walk_str (fun i => .bl (letC (z.cps.toList.getD i 0))) ?_ (by show z.length ≤ 100000; exact hz) hD (fun _ _ => trivial) ?_ ?_
        · rintro i H x H' ⟨rfl, _⟩
          exact Same.refl _
        · rintro i x H1 H2 hi e ⟨rfl, c, hc, rfl⟩ R k
          have ec : z.cps.toList.getD i 0 = c := by
            rw [List.getD_eq_getElem?_getD, Array.getElem?_toList, hc]
            rfl
          have f97 : decide ((("a" : Str).cps.toList) ≤ [c]) = true → True := fun _ => trivial
          refine ⟨rfl, _, rfl, .inr ⟨_, _, rfl, rfl, _, rfl, ?_⟩⟩
          have k := k H2 (Same.refl _)
          rw [ec] at k
          show (if (!decide (#[c].toList < #[97].toList)) = true then _ else _)
          rw [lt1]
          by_cases h97 : c < 97
          · rw [decide_eq_true h97]
            refine iteF ?_
            rw [show letC c = false by unfold letC; rw [decide_eq_false (by omega)]; rfl] at k
            exact k
          · rw [decide_eq_false h97]
            refine iteT (.inr ⟨_, _, rfl, rfl, ?_⟩)
            show R (.bl (!decide (#[122].toList < #[c].toList))) H2
            rw [lt1, show (!decide (122 < c)) = letC c by unfold letC; rw [decide_eq_true (show 97 ≤ c by omega), ← decide_not, Bool.true_and]; exact decide_eq_decide.mpr (by omega)]
            exact k
        · intro H1 e hd
          rw [str_len] at hd
          have hd := hd.trans (congrArg (fun l => some (HO.lst l)) (map_range_get 0 (fun c => V.bl (letC c)) z.cps.toList))
          refine ⟨D, z.cps.toList.map letC, rfl, SqL.of (by rw [hd, List.map_map]; rfl), ?_⟩
          have k := q H1 e
          rw [show nameB (.str z) = (z.cps.toList.map letC).all id by
            show (decide (1 ≤ z.length) && decide (z.length ≤ 8) && z.cps.toList.all letC) = _
            have h1 := of_decide_eq_true h1
            rw [decide_eq_true (show 1 ≤ z.length by omega), decide_eq_true (show z.length ≤ 8 by omega), List.all_map]
            rfl] at k
          exact k
      · rw [decide_eq_false h8]
        refine iteT ?_
        have k := q.here
        rw [show nameB (.str z) = false by
          show (decide (1 ≤ z.length) && decide (z.length ≤ 8) && z.cps.toList.all letC) = _
          rw [decide_eq_false (show ¬ z.length ≤ 8 by omega), Bool.and_false, Bool.false_and]] at k
        exact k
    · refine ⟨_, rfl, iteT ?_⟩
      have h1 : ¬ (1 : Int) ≤ z.length := fun e => h1 (decide_eq_true e)
      have k := q.here
      rw [show nameB (.str z) = false by
        show (decide (1 ≤ z.length) && decide (z.length ≤ 8) && z.cps.toList.all letC) = _
        rw [decide_eq_false (show ¬ 1 ≤ z.length by omega), Bool.false_and, Bool.false_and]] at k
      exact k
  · refine ⟨_, rfl, .inl ⟨_, _, _, false, rfl, ty, kb, _, rfl, ?_⟩⟩
    have := q.here
    rw [nameB_no no] at this
    exact this

theorem c_is_name (T : Top K mg CH) : Cal P w K mg base 1 "is_name" (spIsName K) [] := by
  obtain ⟨f, fd, F, df⟩ := T.d_is_name
  exact cal_of F df (ok_is_name T F) fun _ _ _ _ _ _ us hl => match us, hl with | [_], _ => rfl

end
end Fb

set_option Elab.async false
set_option linter.all false
set_option maxRecDepth 100000
set_option maxHeartbeats 4000000
namespace Fb
open PySem PySem.Spec L2
open PyProof.Rows hiding St
open C8 (Cal Met Mak Def cal0 met0 mak0 pe_c pe_mk pe_mt pe_mt0 fnScope fnBody fnArgs pss_cut tCut)
local macro_rules | `(tactic| walk_at "hp") => `(tactic| first | exact upd_same | assumption | (refine grow (by assumption) _ _ ?_; walk_at "hp") | (refine (show Same _ _ by assumption) _ _ ?_; walk_at "hp"))
local macro_rules | `(tactic| walk_at "sm") => `(tactic| first | exact Same.refl _ | assumption | (refine Same.trans ?_ (grow (by assumption)); walk_at "sm") | (refine Same.trans ?_ (show Same _ _ by assumption); walk_at "sm"))
section
variable {P : Program} {w : World} {K : PySem.W.Frag} {mg : Str → Option Value} {base : Heap}
variable {CH : Addr}
/-! ### is_number -/
def spIsNumber (K : PySem.W.Frag) : Sp := sp3 fun a b c H Q => ∃ (l : Int) (h : Option Int), AnyV K H a ∧ b = .int l ∧ c = (match h with | none => .non | some m => .int m) ∧ Q (.bl (numB a l h)) H
theorem ok_is_number (T : Top K mg CH) {f : Addr} {fd : FuncData} (F : Def K mg "is_number" s_is_number f fd) : FnOk P w K mg base C8.CX0 1 f fd ["value", "least", "most"] (spIsNumber K) := by
  refine fn3 F sc_is_number fun cdv A outer s H a b c Q E hr h => ?_
  have nd := sc_is_number.nd
  obtain ⟨l, h, ha, rfl, rfl, q⟩ := h
  refine ⟨_, (pss_cons 
      (ps_if (PW.pt (pw_or (pt_not (pt_val (pe_callB (isi_K (K := K) rfl) (by rfl) T.isinstance (by decide +kernel) (pa_cons (pv 0) (pa_cons (pe_bltn (v := .ty "int") (by rfl) T.int (by decide +kernel) rfl) pa_nil))))) (pw_or1 (pt_val (pe_callB (isi_K (K := K) rfl) (by rfl) T.isinstance (by decide +kernel) (pa_cons (pv 0) (pa_cons (pe_bltn (v := .ty "bool") (by rfl) T.bool (by decide +kernel) rfl) pa_nil))))))) (pss_one 
      (ps_ret pe_bl)) pss_nil) (pss_one 
      (ps_ret (pe_and (pe_cmpR op_geU (pv 0) (pv 1) (nomark _)) (pe_one (pe_or (pe_cmpR op_isN (pv 2) pe_non (nomark _)) (pe_one (pe_cmpR op_leU (pv 0) (pv 2) (nomark _))))))))), ?_⟩
  rcases ha.intOr with ⟨i, rfl⟩ | ⟨b, rfl⟩ | ⟨no, t, ty, kb⟩
  · refine ⟨_, rfl, .inl ⟨_, _, _, true, rfl, .base (.int i), by decide +kernel, _, rfl, iteF ?_⟩⟩
    refine ⟨_, rfl, .inl ⟨_, _, _, false, rfl, .base (.int i), by decide +kernel, _, rfl, iteF ?_⟩⟩
    refine ⟨_, rfl, _, rfl, _, _, rfl, rfl, _, rfl, ite2 (fun e => ?_) (fun e => ?_)⟩
    · have e := of_decide_eq_true e
      cases h with
      | none =>
        refine ⟨_, rfl, rfl, _, rfl, iteT ?_⟩
        rw [show numB (.int i) l none = true by show (decide (l ≤ i) && true) = true; rw [decide_eq_true e]; rfl] at q
        exact q
      | some m =>
        refine ⟨_, rfl, rfl, _, rfl, iteF ⟨_, rfl, _, rfl, .inl ⟨_, _, rfl, rfl, ?_⟩⟩⟩
        rw [show numB (.int i) l (some m) = decide (i ≤ m) by show (decide (l ≤ i) && _) = _; rw [decide_eq_true e, Bool.true_and]] at q
        exact q
    · rw [show numB (.int i) l h = false by show (decide (l ≤ i) && _) = _; rw [decide_eq_false (fun z => e (decide_eq_true z)), Bool.false_and]] at q
      exact q
  · refine ⟨_, rfl, .inl ⟨_, _, _, true, rfl, .base (.bl b), by decide +kernel, _, rfl, iteF ?_⟩⟩
    exact ⟨_, rfl, .inl ⟨_, _, _, true, rfl, .base (.bl b), by decide +kernel, _, rfl, iteT q⟩⟩
  · rw [numB_no no] at q
    exact ⟨_, rfl, .inl ⟨_, _, _, false, rfl, ty, kb, _, rfl, iteT q⟩⟩

theorem c_is_number_3 (T : Top K mg CH) : Cal P w K mg base 1 "is_number" (spIsNumber K) [] := by
  obtain ⟨f, fd, F, D⟩ := T.d_is_number
  obtain ⟨ds, r, b⟩ := dfl_binds (ps := ["value", "least", "most"]) F D (by intro h; cases h) 3 2 rfl fun _ _ _ _ _ _ _ us its l1 l2 => match us, its, l1, l2 with | [_, _, _], [_, _], _, _ => ⟨_, rfl, rfl⟩
  exact ⟨f, fd, _, ds, ok_is_number T F, F.mgf, F.kp, b, r⟩

end
end Fb

set_option Elab.async false
set_option linter.all false
set_option maxRecDepth 100000
set_option maxHeartbeats 4000000
namespace Fb
open PySem PySem.Spec L2
open PyProof.Rows hiding St
open C8 (Cal Met Mak Def cal0 met0 mak0 pe_c pe_mk pe_mt pe_mt0 fnScope fnBody fnArgs pss_cut tCut)
local macro_rules | `(tactic| walk_at "hp") => `(tactic| first | exact upd_same | assumption | (refine grow (by assumption) _ _ ?_; walk_at "hp") | (refine (show Same _ _ by assumption) _ _ ?_; walk_at "hp"))
local macro_rules | `(tactic| walk_at "sm") => `(tactic| first | exact Same.refl _ | assumption | (refine Same.trans ?_ (grow (by assumption)); walk_at "sm") | (refine Same.trans ?_ (show Same _ _ by assumption); walk_at "sm"))
section
variable {P : Program} {w : World} {K : PySem.W.Frag} {mg : Str → Option Value} {base : Heap}
variable {CH : Addr}
/-! ### Dial.__init__ -/
def spDial (CH : Addr) : Sp := sp4 fun a b c d H Q => ∃ (p dx : Addr) (top : Int), a = .ref p ∧ H p = some (.ins CH dx []) ∧ b = .str "a" ∧ c = .str "b" ∧ d = .int top ∧ 1 ≤ top ∧ top ≤ 1000000 ∧
  ∀ H' : Hp, (∀ c o, H c = some o → c ≠ p → H' c = some o) → DialAt CH H' p top → Q .non H'
theorem c_Dial___init__ (T : Top K mg CH) : Mak P w K mg base 2 "Dial" CH (spDial CH) [] := by
  obtain ⟨f, fd, me, F, df⟩ := T.d_Dial___init__
  refine ⟨f, fd, ["self", "wish", "slope", "top"], [], me, ?_, T.g_Dial, F.binds df fun _ _ _ _ _ _ us hl => match us, hl with | [_, _, _, _], _ => rfl, .nil⟩
  refine fm4 F sc_Dial___init__ fun cdv A outer s H a b c d Q E hr h => ?_
  have nd := sc_Dial___init__.nd
  obtain ⟨p, dx, top, rfl, hp, rfl, rfl, rfl, d0, d1, k⟩ := h
  refine ⟨_, (pss_cons 
      (ps_if (pt_not (pt_val (pe_c (c_is_name T) hr (by decide) (by rfl) (pa_cons (pv 1) pa_nil)))) (pss_one 
      ps_never) pss_nil) (pss_cons 
      (ps_if (pt_not (pt_val (pe_c (c_is_name T) hr (by decide) (by rfl) (pa_cons (pv 2) pa_nil)))) (pss_one 
      ps_never) pss_nil) (pss_cons 
      (ps_if (pt_not (pt_val (pe_c (c_is_number_3 T) hr (by decide) (by rfl) (pa_cons (pv 3) (pa_cons pe_int (pa_cons (C8.pe_gc (v := .int 1000000) (by rfl) T.m_MOST) pa_nil)))))) (pss_one 
      ps_never) pss_nil) (pss_cons 
      (ps_fld (pv 0) (pv 1) rfl) (pss_cons 
      (ps_fld (pv 0) (pv 2) rfl) (pss_cons 
      (ps_fld (pv 0) (pv 3) rfl) (pss_one 
      (ps_fld (pv 0) (pe_tup (pa_cons (pe_tup (pa_cons pe_int (pa_cons pe_int pa_nil))) pa_nil)) rfl)))))))), ?_⟩
  have n1 : nameB (.str "a") = true := by decide +kernel
  have n2 : nameB (.str "b") = true := by decide +kernel
  refine ⟨_, rfl, _, rfl, any_str (by decide +kernel), fun H1 e1 => ⟨_, rfl, ?_⟩⟩
  rw [n1]
  refine iteF ?_
  refine ⟨_, rfl, _, rfl, any_str (by decide +kernel), fun H2 e2 => ⟨_, rfl, ?_⟩⟩
  rw [n2]
  refine iteF ?_
  refine ⟨_, rfl, _, _, _, rfl, 1, some 1000000, any_int _, rfl, rfl, _, rfl, ?_⟩
  rw [show numB (.int top) 1 (some 1000000) = true by show (decide ((1 : Int) ≤ top) && decide (top ≤ 1000000)) = true; rw [decide_eq_true (by omega), decide_eq_true (by omega)]; rfl]
  refine iteF ?_
  have e3 := e1.trans e2
  refine ⟨_, rfl, _, rfl, p, CH, dx, _, rfl, e3 _ _ hp, T.cl_Dial, T.na_wish, (by show 0 < 1000; decide), ?_⟩
  refine ⟨_, rfl, _, rfl, p, CH, dx, _, rfl, upd_same, T.cl_Dial, T.na_slope, (by show 1 < 1000; decide), ?_⟩
  rw [upd_upd]
  refine ⟨_, rfl, _, rfl, p, CH, dx, _, rfl, upd_same, T.cl_Dial, T.na_top, (by show 2 < 1000; decide), ?_⟩
  rw [upd_upd]
  refine ⟨Nat.le_of_ble_eq_true rfl, fun t nt => ⟨Nat.le_of_ble_eq_true rfl, fun t2 nt2 => ?_⟩⟩
  have npt : p ≠ t := fun e => by
    rw [← e, upd_same] at nt
    cases nt
  have npt2 : p ≠ t2 := fun e => by
    rw [← e, upd_ne npt, upd_same] at nt2
    cases nt2
  refine ⟨_, rfl, p, CH, dx, _, rfl, (by rw [upd_ne npt2, upd_ne npt]; exact upd_same), T.cl_Dial, T.na_stay, (by show 3 < 1000; decide), ?_⟩
  refine k _ (fun c o e nc => ?_) ⟨dx, t2, upd_same⟩
  have h2 := e3 _ _ e
  have h3 : upd H2 p (.ins CH dx (putF "top" (.int top) (putF "slope" (.str "b") (putF "wish" (.str "a") [])))) c = some o := by
    rw [upd_ne nc]
    exact h2
  rw [upd_ne nc]
  exact (grow nt2) _ _ ((grow nt) _ _ h3)

end
end Fb

set_option Elab.async false
set_option linter.all false
set_option maxRecDepth 100000
set_option maxHeartbeats 4000000
namespace Fb
open PySem PySem.Spec L2
open PyProof.Rows hiding St
open C8 (Cal Met Mak Def cal0 met0 mak0 pe_c pe_mk pe_mt pe_mt0 fnScope fnBody fnArgs pss_cut tCut)
local macro_rules | `(tactic| walk_at "hp") => `(tactic| first | exact upd_same | assumption | (refine grow (by assumption) _ _ ?_; walk_at "hp") | (refine (show Same _ _ by assumption) _ _ ?_; walk_at "hp"))
local macro_rules | `(tactic| walk_at "sm") => `(tactic| first | exact Same.refl _ | assumption | (refine Same.trans ?_ (grow (by assumption)); walk_at "sm") | (refine Same.trans ?_ (show Same _ _ by assumption); walk_at "sm"))
section
variable {P : Program} {w : World} {K : PySem.W.Frag} {mg : Str → Option Value} {base : Heap}
variable {CH : Addr}
/-! ### _law_span -/
def spSpan (K : PySem.W.Frag) : Sp := sp3 fun a b c H Q => ∃ (t : Ln) (R : Addr) (xs : List V) (rays : List Ln) (roof : Int), TupI K H a (tol t) ∧ b = .ref R ∧ SqL K H R xs ∧ RowsV K H xs (rays.map tol) ∧ c = .int roof ∧ BdR t ∧ (∀ r ∈ rays, BdR r) ∧
  ∀ (H' : Hp) (S L M : Addr), Same H H' → H' S = some (.tup [.ref L, .ref M]) → H' L = some (.tup [.int (spanM t rays roof).1.1, .int (spanM t rays roof).1.2]) → H' M = some (.tup [.int (spanM t rays roof).2.1, .int (spanM t rays roof).2.2]) → Q (.ref S) H'
theorem c__law_span (T : Top K mg CH) : Cal P w K mg base 1 "_law_span" (spSpan K) [] := by
  obtain ⟨f, fd, F, df⟩ := T.d__law_span
  refine cal_of F df (fn3 F sc__law_span fun cdv A outer s H a b c Q E hr h => ?_) fun _ _ _ _ _ _ us hl => match us, hl with | [_, _, _], _ => rfl
  have nd := sc__law_span.nd
  obtain ⟨t, R, xs, rays, roof, ⟨A1, rfl, hA⟩, rfl, hs, hx, rfl, ⟨t1, t2, t3, t4⟩, bd, k⟩ := h
  have lx := hx.len
  rw [List.length_map] at lx
  refine ⟨_, (pss_cons 
      (ps_par (i := 3) (j := 4) rfl nd rfl rfl (by decide) rfl rfl (pa_cons (pe_tup (pa_cons pe_int (pa_cons pe_int pa_nil))) (pa_cons (pe_tup (pa_cons (pv 2) (pa_cons pe_int pa_nil))) pa_nil)) (by rfl)) (pss_cons 
      (ps_for PassesOwn.never rfl (pi_K (K := K) rfl (pv 1)) (tup_K (K := K) (n := 2) rfl rfl (pgs_cons (pg_name (i := 5) nd rfl (Or.inl rfl)) (pgs_cons (pg_name (i := 6) nd rfl (Or.inl rfl)) pgs_nil))) (pss_one 
      (ps_if (pt_cmpR op_gtU (pv 6) (pe_ix (ix_K (K := K) rfl) (pv 0) pe_int (fun _ _ => rfl)) (nomark _)) (pss_one 
      (ps_if (pt_cmpR op_gtU (pe_op op_mul (pe_op op_sub (pe_ix (ix_K (K := K) rfl) (pv 0) pe_int (fun _ _ => rfl)) (pv 5)) (pe_ix (ix_K (K := K) rfl) (pv 3) pe_int (fun _ _ => rfl))) (pe_op op_mul (pe_ix (ix_K (K := K) rfl) (pv 3) pe_int (fun _ _ => rfl)) (pe_op op_sub (pv 6) (pe_ix (ix_K (K := K) rfl) (pv 0) pe_int (fun _ _ => rfl)))) (nomark _)) (pss_one 
      (ps_set (i := 3) nd rfl (Or.inl rfl) (pe_tup (pa_cons (pe_op op_sub (pe_ix (ix_K (K := K) rfl) (pv 0) pe_int (fun _ _ => rfl)) (pv 5)) (pa_cons (pe_op op_sub (pv 6) (pe_ix (ix_K (K := K) rfl) (pv 0) pe_int (fun _ _ => rfl))) pa_nil))))) pss_nil)) (pss_one 
      (ps_if (pt_cmpR (lt_K (K := K) rfl hr) (pv 6) (pe_ix (ix_K (K := K) rfl) (pv 0) pe_int (fun _ _ => rfl)) (nomark _)) (pss_one 
      (ps_if (pt_cmpR (lt_K (K := K) rfl hr) (pe_op op_mul (pe_op op_sub (pv 5) (pe_ix (ix_K (K := K) rfl) (pv 0) pe_int (fun _ _ => rfl))) (pe_ix (ix_K (K := K) rfl) (pv 4) pe_int (fun _ _ => rfl))) (pe_op op_mul (pe_ix (ix_K (K := K) rfl) (pv 4) pe_int (fun _ _ => rfl)) (pe_op op_sub (pe_ix (ix_K (K := K) rfl) (pv 0) pe_int (fun _ _ => rfl)) (pv 6))) (nomark _)) (pss_one 
      (ps_set (i := 4) nd rfl (Or.inl rfl) (pe_tup (pa_cons (pe_op op_sub (pv 5) (pe_ix (ix_K (K := K) rfl) (pv 0) pe_int (fun _ _ => rfl))) (pa_cons (pe_op op_sub (pe_ix (ix_K (K := K) rfl) (pv 0) pe_int (fun _ _ => rfl)) (pv 6)) pa_nil))))) pss_nil)) (pss_one 
      (ps_if (pt_cmpR (lt_K (K := K) rfl hr) (pv 5) (pe_ix (ix_K (K := K) rfl) (pv 0) pe_int (fun _ _ => rfl)) (nomark _)) (pss_one 
      (ps_set (i := 4) nd rfl (Or.inl rfl) (pe_tup (pa_cons (pe_un un_neg pe_int) (pa_cons pe_int pa_nil))))) pss_nil))))))) (pss_one 
      (ps_ret (pe_tup (pa_cons (pv 3) (pa_cons (pv 4) pa_nil))))))), ?_⟩
  refine ⟨Nat.le_of_ble_eq_true rfl, fun L0 nL0 => ⟨_, rfl, Nat.le_of_ble_eq_true rfl, fun M0 nM0 => ⟨_, _, rfl, ?_⟩⟩⟩
  have e0 := (grow (o := .tup [.int 0, .int 1]) nL0).trans (grow (o := .tup [.int roof, .int 1]) nM0)
  have hL0 := (grow (o := .tup [.int roof, .int 1]) nM0) _ _ (upd_same (H := H) (a := L0) (o := .tup [.int 0, .int 1]))
  refine ⟨_, rfl, .inl ⟨R, rfl, ⟨_, e0.seq hs⟩, ?_⟩⟩
  refine for_it (walk_list (xs := xs)) (fun i σ H' => Same H H' ∧ (∃ (s : Ln × Ln) (L M : Addr), s = (rays.take i).foldl (spanS t) ((0, 1), (roof, 1)) ∧ H' L = some (.tup [.int s.1.1, .int s.1.2]) ∧ H' M = some (.tup [.int s.2.1, .int s.2.2]) ∧ ∃ y5 y6, σ = [some (.ref A1), some (.ref R), some (.int roof), some (.ref L), some (.ref M), y5, y6]))
    ⟨e0, ((0, 1), (roof, 1)), L0, M0, rfl, hL0, upd_same, _, _, rfl⟩ (fun i σ H' _ ⟨e, _⟩ => e.seq hs) ?_ ?_
  · rintro i x σ H1 H2 hi ⟨e, s, L, M, es, hL, hM, y5, y6, rfl⟩ ⟨rfl, g⟩
    obtain ⟨u, gu, ⟨U, rfl, sU⟩⟩ := line_get (hx.mono e) g
    obtain ⟨u1, u2, u3, u4⟩ := bd u (List.mem_of_getElem? gu)
    have hA := same_tup e hA
    have step : (rays.take (i + 1)).foldl (spanS t) ((0, 1), (roof, 1)) = spanS t s u := by
      rw [take_fold (spanS t) _ _ i u gu, es]
    refine ⟨U, _, rfl, sU, rfl, _, _, rfl, _, _, rfl, rfl, ?_⟩
    refine ⟨_, rfl, _, rfl, .inr (.inl ⟨A1, _, _, _, rfl, rfl, hA, at1, _, _, rfl, rfl, _, rfl, ite2 (fun c1 => ?_) (fun c1 => ?_)⟩)⟩
    · have c1 := of_decide_eq_true c1
      refine ⟨_, rfl, .inr (.inl ⟨A1, _, _, _, rfl, rfl, hA, at0, _, rfl, _, _, rfl, rfl, ?_⟩)⟩
      refine ⟨_, rfl, .inr (.inl ⟨L, _, _, _, rfl, rfl, (SqT.of hL), at1, _, _, rfl, rfl, .inl ⟨by omega, by omega⟩, ?_⟩)⟩
      refine ⟨_, rfl, .inr (.inl ⟨L, _, _, _, rfl, rfl, (SqT.of hL), at0, _, rfl, _, rfl, .inr (.inl ⟨A1, _, _, _, rfl, rfl, hA, at1, _, _, rfl, rfl, ?_⟩)⟩)⟩
      refine ⟨_, _, rfl, rfl, .inr ⟨by omega, by omega⟩, _, _, rfl, rfl, _, rfl, ite2 (fun c2 => ?_) (fun c2 => ?_)⟩
      · have c2 := of_decide_eq_true c2
        refine ⟨_, rfl, .inr (.inl ⟨A1, _, _, _, rfl, rfl, hA, at0, _, rfl, _, _, rfl, rfl, ?_⟩)⟩
        refine ⟨_, rfl, _, rfl, .inr (.inl ⟨A1, _, _, _, rfl, rfl, hA, at1, _, _, rfl, rfl, Nat.le_of_ble_eq_true rfl, fun t0 nt => ?_⟩)⟩
        refine ⟨e.trans (grow nt), spanS t s u, t0, M, step.symm, ?_, ?_, _, _, rfl⟩
        · rw [upd_same]
          unfold spanS
          rw [if_pos c1, if_pos c2]
        · have := (grow (o := .tup [.int (t.1 - u.1), .int (u.2 - t.2)]) nt) _ _ hM
          unfold spanS
          rw [if_pos c1, if_pos c2]
          exact this
      · have c2 : ¬ s.1.1 * (u.2 - t.2) < (t.1 - u.1) * s.1.2 := fun z => c2 (decide_eq_true z)
        have es2 : spanS t s u = s := by
          unfold spanS
          rw [if_pos c1, if_neg c2]
        exact ⟨e, s, L, M, es2 ▸ step.symm, hL, hM, _, _, rfl⟩
    · have c1 : ¬ t.2 < u.2 := fun z => c1 (decide_eq_true z)
      refine ⟨_, rfl, _, rfl, .inr (.inl ⟨A1, _, _, _, rfl, rfl, hA, at1, .inl ⟨_, _, rfl, rfl, _, rfl, ite2 (fun c2 => ?_) (fun c2 => ?_)⟩⟩)⟩
      · have c2 := of_decide_eq_true c2
        refine ⟨_, rfl, _, rfl, .inr (.inl ⟨A1, _, _, _, rfl, rfl, hA, at0, _, _, rfl, rfl, ?_⟩)⟩
        refine ⟨_, rfl, .inr (.inl ⟨M, _, _, _, rfl, rfl, (SqT.of hM), at1, _, _, rfl, rfl, .inl ⟨by omega, by omega⟩, ?_⟩)⟩
        refine ⟨_, rfl, .inr (.inl ⟨M, _, _, _, rfl, rfl, (SqT.of hM), at0, _, rfl, .inr (.inl ⟨A1, _, _, _, rfl, rfl, hA, at1, _, rfl, _, _, rfl, rfl, ?_⟩)⟩)⟩
        refine ⟨_, _, rfl, rfl, .inr ⟨by omega, by omega⟩, .inl ⟨_, _, rfl, rfl, _, rfl, ite2 (fun c3 => ?_) (fun c3 => ?_)⟩⟩
        · have c3 := of_decide_eq_true c3
          refine ⟨_, rfl, _, rfl, .inr (.inl ⟨A1, _, _, _, rfl, rfl, hA, at0, _, _, rfl, rfl, ?_⟩)⟩
          refine ⟨_, rfl, .inr (.inl ⟨A1, _, _, _, rfl, rfl, hA, at1, _, rfl, _, _, rfl, rfl, Nat.le_of_ble_eq_true rfl, fun t0 nt => ?_⟩)⟩
          refine ⟨e.trans (grow nt), spanS t s u, L, t0, step.symm, ?_, ?_, _, _, rfl⟩
          · have := (grow (o := .tup [.int (u.1 - t.1), .int (t.2 - u.2)]) nt) _ _ hL
            unfold spanS
            rw [if_neg c1, if_pos c2, if_pos c3]
            exact this
          · rw [upd_same]
            unfold spanS
            rw [if_neg c1, if_pos c2, if_pos c3]
        · have c3 : ¬ (u.1 - t.1) * s.2.2 < s.2.1 * (t.2 - u.2) := fun z => c3 (decide_eq_true z)
          have es2 : spanS t s u = s := by
            unfold spanS
            rw [if_neg c1, if_pos c2, if_neg c3]
          exact ⟨e, s, L, M, es2 ▸ step.symm, hL, hM, _, _, rfl⟩
      · have c2 : ¬ u.2 < t.2 := fun z => c2 (decide_eq_true z)
        refine ⟨_, rfl, _, rfl, .inr (.inl ⟨A1, _, _, _, rfl, rfl, hA, at0, .inl ⟨_, _, rfl, rfl, _, rfl, ite2 (fun c3 => ?_) (fun c3 => ?_)⟩⟩)⟩
        · have c3 := of_decide_eq_true c3
          refine ⟨_, rfl, Nat.le_of_ble_eq_true rfl, fun t0 nt => ?_⟩
          refine ⟨e.trans (grow nt), spanS t s u, L, t0, step.symm, ?_, ?_, _, _, rfl⟩
          · have := (grow (o := .tup [.int (-1), .int 1]) nt) _ _ hL
            unfold spanS
            rw [if_neg c1, if_neg c2, if_pos c3]
            exact this
          · rw [upd_same]
            unfold spanS
            rw [if_neg c1, if_neg c2, if_pos c3]
        · have c3 : ¬ u.1 < t.1 := fun z => c3 (decide_eq_true z)
          have es2 : spanS t s u = s := by
            unfold spanS
            rw [if_neg c1, if_neg c2, if_neg c3]
          exact ⟨e, s, L, M, es2 ▸ step.symm, hL, hM, _, _, rfl⟩
  · rintro σ H1 ⟨e, s, L, M, es, hL, hM, y5, y6, rfl⟩
    have es : s = spanM t rays roof := by
      rw [es, lx, List.take_length]
      rfl
    subst es
    refine ⟨_, rfl, _, rfl, Nat.le_of_ble_eq_true rfl, fun S nS => ?_⟩
    exact k _ S L M (e.trans (grow nS)) upd_same ((grow nS) _ _ hL) ((grow nS) _ _ hM)

end
end Fb

set_option Elab.async false
set_option linter.all false
set_option maxRecDepth 100000
set_option maxHeartbeats 4000000
namespace Fb
open PySem PySem.Spec L2
open PyProof.Rows hiding St
open C8 (Cal Met Mak Def cal0 met0 mak0 pe_c pe_mk pe_mt pe_mt0 fnScope fnBody fnArgs pss_cut tCut)
local macro_rules | `(tactic| walk_at "hp") => `(tactic| first | exact upd_same | assumption | (refine grow (by assumption) _ _ ?_; walk_at "hp") | (refine (show Same _ _ by assumption) _ _ ?_; walk_at "hp"))
local macro_rules | `(tactic| walk_at "sm") => `(tactic| first | exact Same.refl _ | assumption | (refine Same.trans ?_ (grow (by assumption)); walk_at "sm") | (refine Same.trans ?_ (show Same _ _ by assumption); walk_at "sm"))
section
variable {P : Program} {w : World} {K : PySem.W.Frag} {mg : Str → Option Value} {base : Heap}
variable {CH : Addr}
/-! ### _law_lines -/
def qL : Str := (("_law_lines" : Str) ++ ".<locals>.") ++ "<lambda>"
/-- the def that makes a lambda: its code object at cL, the table of it at PL -/
structure TopL (K : PySem.W.Frag) (mg : Str → Option Value) (base : Heap) (cL PL : Addr) : Prop where
  dl : ∃ (f : Addr) (fd : FuncData), Def K mg "_law_lines" s__law_lines f fd ∧ fd.defaults = .none ∧ fd.code = .ref cL
  tb : LamX.TabB base mg cL PL
theorem fn2c {x : Str} {st : Stmt} {f : Addr} {fd : FuncData} {N : List Str} {k : Nat} {p1 p2 : Str} {cd : Value} {g : V → V → Hp → VK → Prop} (F : Def K mg x st f fd) (hcd : fd.code = cd) (S : FnScope N [p1, p2] (fnScope st))
    (body : ∀ (A : Around) (outer : List Env) (s : Shared) (H : Hp) (a b : V) (Q : VK) (E : XK), Room k (A.deeper (envOfC x (fnScope st) s.heap.objs.size f cd)) → g a b H Q →
      ∃ t, PSs (cxOf C8.CX0 P w K mg base N x (fnScope st) f cd A outer s H E).nox (fnBody st) t ∧ t { nx := fun _ H' => Q .non H', rt := Q } (start N [a, b]) H) : FnOk P w K mg base C8.CX0 (k + 1) f fd [p1, p2] (sp2 g) := by
  obtain ⟨oc, od, dV, kV, doc, pm, an, cdv, ct, osl, rfl, lk, hcd2⟩ := F.fn.ex
  have e : cdv = cd := hcd
  subst e
  refine fn_of lk hcd2 S ?_ fun A outer s H vs Q E hr hsp => ?_
  · rintro vs H Q E ⟨a, b, rfl, _⟩
    rfl
  · obtain ⟨a, b, rfl, h⟩ := hsp
    obtain ⟨t, h, q⟩ := body A outer s H a b Q E hr h
    exact ⟨t, h.nox, q⟩
theorem rows_split {H : Hp} : ∀ {ls : List (List Int)} {xs : List V}, RowsV K H xs ls → ∃ ks : List (Addr × List Int), xs = ks.map (fun p => V.ref p.1) ∧ ks.map Prod.snd = ls ∧ ∀ p ∈ ks, SqT K H p.1 (p.2.map V.int)
  | [], _, h => by
    cases h
    exact ⟨[], rfl, rfl, fun p hp => by cases hp⟩
  | l :: r, _, h => by
    have h : DpAll K H _ (rowD l :: r.map rowD) := h
    cases h with
    | cons a b =>
      obtain ⟨ks, h1, h2, h3⟩ := rows_split b
      obtain ⟨A, e, sA⟩ : TupI K H _ l := optD_tup a
      refine ⟨(A, l) :: ks, ?_, ?_, ?_⟩
      · rw [e, h1]
        rfl
      · rw [← h2]
        rfl
      · intro p hp
        rcases List.mem_cons.mp hp with rfl | hp
        · exact sA
        · exact h3 p hp
theorem rows_join {H : Hp} {ks : List (Addr × List Int)} (h : ∀ p ∈ ks, SqT K H p.1 (p.2.map V.int)) : RowsV K H (ks.map fun p => V.ref p.1) (ks.map Prod.snd) := by
  unfold RowsV
  rw [List.map_map]
  exact dpAll_map fun p hp => TupI.dp ⟨p.1, rfl, h p hp⟩
def unl (l : List Int) : Ln := (l.getD 0 0, l.getD 1 0)
theorem take_snoc {α : Type} {l : List α} {i : Nat} {x : α} (h : l[i]? = some x) : l.take (i + 1) = l.take i ++ [x] := by
  obtain ⟨lt, e⟩ := List.getElem?_eq_some_iff.mp h
  rw [← e, List.take_append_getElem]
theorem unl_tol (r : Ln) : unl (tol r) = r := rfl
theorem tol_unl {ls : List (List Int)} (h : ∀ l ∈ ls, ∃ r, l = tol r) : (ls.map unl).map tol = ls := by
  rw [List.map_map]
  refine (List.map_congr_left fun l hl => ?_).trans (List.map_id ls)
  obtain ⟨r, rfl⟩ := h l hl
  rfl
theorem span_bd {t : Ln} {rays : List Ln} {roof : Int} (ht : BdR t) (hb : ∀ r ∈ rays, BdR r) (h1 : 1 ≤ roof) (h2 : roof ≤ 1000000) :
    (-200000000 ≤ (spanM t rays roof).1.1 ∧ (spanM t rays roof).1.1 ≤ 200000000) ∧ (-200000000 ≤ (spanM t rays roof).2.1 ∧ (spanM t rays roof).2.1 ≤ 200000000) := by
  obtain ⟨t1, t2, t3, t4⟩ := ht
  refine fold_inv (fun s : Ln × Ln => (-200000000 ≤ s.1.1 ∧ s.1.1 ≤ 200000000) ∧ (-200000000 ≤ s.2.1 ∧ s.2.1 ≤ 200000000)) (spanS t) rays ((0, 1), (roof, 1)) ⟨⟨by show (-200000000 : Int) ≤ 0; decide, by show (0 : Int) ≤ 200000000; decide⟩, by show -200000000 ≤ roof; omega, by show roof ≤ 200000000; omega⟩ ?_
  rintro s u hu ⟨⟨a1, a2⟩, a3, a4⟩
  obtain ⟨u1, u2, u3, u4⟩ := hb u hu
  unfold spanS
  repeat' split
  all_goals (refine ⟨⟨?_, ?_⟩, ?_, ?_⟩ <;> first | assumption | (show _ ≤ _; dsimp only; omega))
def spLines (K : PySem.W.Frag) (PL : Addr) : Sp := sp2 fun a b H Q => ∃ (R : Addr) (xs : List V) (rays : List Ln) (roof : Int), a = .ref R ∧ SqL K H R xs ∧ RowsV K H xs (rays.map tol) ∧ (∀ r ∈ rays, BdH r) ∧ rays.length < 64 ∧ b = .int roof ∧ 1 ≤ roof ∧ roof ≤ 1000000 ∧
  LamX.Tabs [(PL, qL)] H ∧ ∀ (H' : Hp) (A : Addr) (ys : List V) (lns : List Ln), Same (noT H) H' → LamX.Tabs [(PL, qL)] H' → H' A = some (.tup ys) → RowsV K H' ys (lns.map tol) → (∀ t ∈ lns, t ∈ rays) →
    (∀ n d, 0 ≤ n → 0 < d → n ≤ roof * d → ∀ q ∈ rays, ∃ t ∈ lns, vA t n d ≤ vA q n d) → lns.length ≤ rays.length → Q (.ref A) H'
theorem c__law_lines {cL PL : Addr} (T : Top K mg CH) (L : TopL K mg base cL PL) : Cal P w K mg base 2 "_law_lines" (spLines K PL) [] := by
  obtain ⟨f, fd, F, df, hcd⟩ := L.dl
  refine cal_of F df (fn2c F hcd sc__law_lines fun A outer s H a b Q E hr h => ?_) fun _ _ _ _ _ _ us hl => match us, hl with | [_, _], _ => rfl
  have nd := sc__law_lines.nd
  obtain ⟨R, xs, rays, roof, rfl, hs, hx, bd, hl, rfl, r0, r1, tabs, k⟩ := h
  obtain ⟨ks, rfl, hks, sk⟩ := rows_split hx
  have lks : ks.length = rays.length := by
    have := congrArg List.length hks
    rw [List.length_map, List.length_map] at this
    exact this
  have isT : ∀ p ∈ ks, ∃ r ∈ rays, p.2 = tol r := fun p hp => by
    have : p.2 ∈ rays.map tol := by
      rw [← hks]
      exact List.mem_map_of_mem hp
    obtain ⟨r, hr2, e⟩ := List.mem_map.mp this
    exact ⟨r, hr2, e.symm⟩
  refine ⟨_, (pss_cons 
      (ps_set (i := 2) nd rfl (Or.inl rfl) (pe_callB (sortedT_K (K := K) (P := P) (w := w) rfl rfl rfl rfl) (by rfl) T.sorted (by decide +kernel) (pa_cons (pe_callTy (setOf_K (K := K) (P := P) (w := w) rfl rfl rfl rfl (room_set hr)) (by rfl) T.set (by decide +kernel) (pa_cons (pv 0) pa_nil)) pa_nil))) (pss_cons 
      (ps_set (i := 3) nd rfl (Or.inl rfl) (pe_lst pa_nil)) (pss_cons 
      (ps_for PassesOwn.never rfl (pi_K (K := K) rfl (pv 2)) (pg_name (i := 4) nd rfl (Or.inl rfl)) (pss_cons 
      (ps_asg (pe_c (c__law_span T) hr (by decide) (by rfl) (pa_cons (pv 4) (pa_cons (pv 2) (pa_cons (pv 1) pa_nil)))) (tup_K (K := K) (n := 2) rfl rfl (pgs_cons (pg_name (i := 5) nd rfl (Or.inl rfl)) (pgs_cons (pg_name (i := 6) nd rfl (Or.inl rfl)) pgs_nil)))) (pss_one 
      (ps_if (pt_cmpR (lt_K (K := K) rfl hr) (pe_op op_mul (pe_ix (ix_K (K := K) rfl) (pv 5) pe_int (fun _ _ => rfl)) (pe_ix (ix_K (K := K) rfl) (pv 6) pe_int (fun _ _ => rfl))) (pe_op op_mul (pe_ix (ix_K (K := K) rfl) (pv 6) pe_int (fun _ _ => rfl)) (pe_ix (ix_K (K := K) rfl) (pv 5) pe_int (fun _ _ => rfl))) (nomark _)) (pss_one 
      (ps_expr (pe_bm PySem.F.plainAttrs_list PySem.F.slot_list_append PySem.F.type_list_append mt_append (pv 3) (pa_cons (pv 4) pa_nil)))) pss_nil)))) (pss_one 
      (ps_ret (pe_callTy (tupleOf_K (K := K) rfl) (by rfl) T.tuple (by decide +kernel) (pa_cons (pe_sortNeg (K := K) (x := "ray") (i := 1) (j := 1) (T := [(PL, qL)]) (q := qL) rfl hr (by rfl) T.sorted (pv 3) L.tb rfl rfl (List.mem_cons_self ..) (fun p hp _ => by rw [List.mem_singleton.mp hp]) ⟨⟨_, _, _, _, _, rfl⟩, rfl, rfl, rfl, by decide, rfl, rfl, fun _ _ _ _ _ => rfl, rfl, by decide⟩) pa_nil))))))), ?_⟩
  refine ⟨_, rfl, R, ks, rfl, hs, sk, by omega, fun S L0 nS sub all => ?_⟩
  have e1 := grow (o := SetTO P w S L0) nS
  refine ⟨S, L0, 2, 50000001, rfl, upd_same, fun p hp => same_tup e1 (sk p (sub p hp)), by decide, fun p hp => ?_, fun L1 p1 pm ndL lt1 _ np1 => ?_⟩
  · obtain ⟨r, hr2, e⟩ := isT p (sub p hp)
    obtain ⟨b1, b2, b3, b4⟩ := bd r hr2
    rw [e]
    refine ⟨rfl, fun z hz => ?_⟩
    have hz : z ∈ [r.1, r.2] := hz
    rcases List.mem_cons.mp hz with rfl | hz
    · omega
    · rw [List.mem_singleton.mp hz]
      omega
  have e2 := e1.trans (grow (o := .lst (L1.map fun q => V.ref q.1)) np1)
  have hp1 := upd_same (H := upd H S (SetTO P w S L0)) (a := p1) (o := .lst (L1.map fun q => V.ref q.1))
  generalize upd (upd H S (SetTO P w S L0)) p1 _ = H1 at e2 hp1
  have isL : ∀ p ∈ L1, p ∈ ks := fun p hp => sub p (pm.mem_iff.mp hp)
  have rL : RowsV K H1 (L1.map fun q => V.ref q.1) (L1.map Prod.snd) := rows_join fun p hp => same_tup e2 (sk p (isL p hp))
  have rt : ((L1.map Prod.snd).map unl).map tol = L1.map Prod.snd := tol_unl fun l hl2 => by
    obtain ⟨p, hp, rfl⟩ := List.mem_map.mp hl2
    obtain ⟨r, _, e⟩ := isT p (isL p hp)
    exact ⟨r, e⟩
  rw [← rt] at rL
  have mem : ∀ t, t ∈ (L1.map Prod.snd).map unl ↔ t ∈ rays := fun t => by
    constructor
    · intro h
      obtain ⟨l, h1, rfl⟩ := List.mem_map.mp h
      obtain ⟨p, h2, rfl⟩ := List.mem_map.mp h1
      obtain ⟨r, hr2, e⟩ := isT p (isL p h2)
      rw [e, unl_tol]
      exact hr2
    · intro h
      have : tol t ∈ ks.map Prod.snd := by
        rw [hks]
        exact List.mem_map_of_mem h
      obtain ⟨p, h1, h2⟩ := List.mem_map.mp this
      have h3 := all p h1
      rw [h2] at h3
      obtain ⟨p', h4, h5⟩ := List.mem_map.mp h3
      have h6 : p'.2 ∈ L1.map Prod.snd := List.mem_map_of_mem (pm.mem_iff.mpr h4)
      rw [h5] at h6
      have := List.mem_map_of_mem (f := unl) h6
      rw [unl_tol] at this
      exact this
  have lenL : ((L1.map Prod.snd).map unl).length = L1.length := by rw [List.length_map, List.length_map]
  have lxs : (L1.map fun q : Addr × List Int => V.ref q.1).length = L1.length := List.length_map ..
  have lr : L1.length ≤ rays.length := by
    have h1 := nodup_le (l := L1.map fun x => x.snd) (m := rays.map tol) ndL fun x hx => by
      obtain ⟨p, hp, rfl⟩ := List.mem_map.mp hx
      obtain ⟨r, hr2, e⟩ := isT p (isL p hp)
      rw [e]
      exact List.mem_map_of_mem hr2
    rw [List.length_map, List.length_map] at h1
    exact h1
  generalize (L1.map Prod.snd).map unl = kept at rL mem lenL
  generalize (L1.map fun q : Addr × List Int => V.ref q.1) = ys1 at hp1 rL lxs
  have bdK : ∀ r ∈ kept, BdR r := fun r hr2 => (bd r ((mem r).mp hr2)).r
  -- found
  refine ⟨Nat.le_of_ble_eq_true rfl, fun q nq => ?_⟩
  have e3 := e2.trans (grow (o := .lst []) nq)
  have hp2 := (grow (o := .lst []) nq) _ _ hp1
  have rL2 := rL.mono (grow (o := .lst []) nq)
  refine ⟨_, rfl, .inl ⟨p1, rfl, ⟨_, SqL.of hp2⟩, ?_⟩⟩
  refine for_it (walk_list (xs := ys1)) (fun i σ H' => Same H1 H' ∧ (∃ zs : List (V × List Int), H' q = some (.lst (zs.map Prod.fst)) ∧ (∀ z ∈ zs, TupI K H' z.1 z.2) ∧ zs.map Prod.snd = ((kept.take i).filter fun t => longM t kept roof).map tol) ∧
      ∃ y4 y5 y6, σ = [some (.ref R), some (.int roof), some (.ref p1), some (.ref q), y4, y5, y6])
    ⟨grow nq, ⟨[], upd_same, (fun z hz => by cases hz), rfl⟩, _, _, _, rfl⟩ (fun i σ H' _ ⟨e, _⟩ => SqL.of (e _ _ hp1)) ?_ ?_
  · rintro i x σ H2 H3 hi ⟨e, ⟨zs, hq, hz, ez⟩, y4, y5, y6, rfl⟩ ⟨rfl, g⟩
    obtain ⟨t, gt, tV⟩ := line_get (rL.mono e) g
    have tb := bdK t (List.mem_of_getElem? gt)
    obtain ⟨⟨s1, s2⟩, s3, s4⟩ := span_bd tb bdK r0 r1
    refine ⟨_, rfl, _, rfl, _, rfl, _, _, _, rfl, t, p1, ys1, kept, roof, tV, rfl, SqL.of (e _ _ hp1), rL.mono e, rfl, tb, bdK, fun H3 S1 Lo Hi e4 hS hLo hHi => ?_⟩
    refine ⟨S1, _, rfl, SqT.of hS, rfl, _, _, rfl, _, _, rfl, rfl, ?_⟩
    refine ⟨_, rfl, .inr (.inl ⟨Lo, _, _, _, rfl, rfl, SqT.of hLo, at0, _, rfl, .inr (.inl ⟨Hi, _, _, _, rfl, rfl, SqT.of hHi, at1, _, _, rfl, rfl, .inl ⟨by omega, by omega⟩, ?_⟩)⟩)⟩
    refine ⟨_, rfl, .inr (.inl ⟨Hi, _, _, _, rfl, rfl, SqT.of hHi, at0, _, rfl, .inr (.inl ⟨Lo, _, _, _, rfl, rfl, SqT.of hLo, at1, _, _, rfl, rfl, .inl ⟨by omega, by omega⟩, ?_⟩)⟩)⟩
    have step : (kept.take (i + 1)).filter (fun t => longM t kept roof) = (kept.take i).filter (fun t => longM t kept roof) ++ (if longM t kept roof = true then [t] else []) := by
      rw [take_snoc gt, List.filter_append, List.filter_cons, List.filter_nil]
    refine .inl ⟨_, _, rfl, rfl, _, rfl, ite2 (fun c1 => ?_) (fun c1 => ?_)⟩
    · have c1 : longM t kept roof = true := c1
      have hq3 := e4 _ _ hq
      have lz : zs.length ≤ 64 := by
        have := congrArg List.length ez
        rw [List.length_map, List.length_map] at this
        rw [this]
        refine Nat.le_trans (List.length_filter_le _ _) ?_
        rw [List.length_take]
        omega
      refine ⟨_, rfl, .inl ⟨rfl, _, SqL.of hq3⟩, _, rfl, q, _, _, rfl, rfl, hq3, size5 (by rw [List.length_map]; omega), ?_⟩
      refine ⟨same_mut (e.trans e4) nq, ⟨zs ++ [(x, tol t)], ?_, ?_, ?_⟩, _, _, _, rfl⟩
      · rw [upd_same, List.map_append]
        rfl
      · intro z hz2
        rcases List.mem_append.mp hz2 with hz2 | hz2
        · exact tupI_upd hq3 ((hz z hz2).mono e4)
        · rw [List.mem_singleton.mp hz2]
          exact tupI_upd hq3 (tV.mono e4)
      · rw [List.map_append, ez, step, if_pos c1, List.map_append]
        rfl
    · have c1 : ¬ longM t kept roof = true := c1
      refine ⟨e.trans e4, ⟨zs, e4 _ _ hq, fun z hz2 => (hz z hz2).mono e4, ?_⟩, _, _, _, rfl⟩
      rw [ez, step, if_neg c1, List.append_nil]
  rintro σ H2 ⟨e, ⟨zs, hq, hz, ez⟩, y4, y5, y6, rfl⟩
  have eK : kept.take ys1.length = kept := by rw [lxs, ← lenL, List.take_length]
  rw [eK] at ez
  have tabs2 : LamX.Tabs [(PL, qL)] H2 := tabs_same tabs (e2.trans e)
  refine ⟨_, rfl, tabs2, fun fl c' H5 e5 t5 hf hc => ⟨q, fl, c', zs, rfl, rfl, SqL.of (e5 _ _ hq (fun _ h => nomatch h)), fun z hz2 => ?_, hf, hc, fun p2 zs' pm2 np2 => ?_⟩⟩
  · have : z.2 ∈ zs.map Prod.snd := List.mem_map_of_mem hz2
    rw [ez] at this
    obtain ⟨r, _, er⟩ := List.mem_map.mp this
    obtain ⟨A1, hA, sA⟩ := hz z hz2
    refine ⟨⟨A1, hA, same_tup (ext_same e5) (noT_sqt sA)⟩, ?_⟩
    rw [← er]
    exact Nat.one_lt_two
  refine ⟨p2, _, rfl, .inl ⟨SqL.of upd_same, fun A2 nA2 => ?_⟩⟩
  have e6 := (noT_mono (e2.trans e)).trans ((ext_same e5).trans ((grow (o := .lst (zs'.map Prod.fst)) np2).trans (grow (o := .tup (zs'.map Prod.fst)) nA2)))
  have e7 := (grow (o := .lst (zs'.map Prod.fst)) np2).trans (grow (o := .tup (zs'.map Prod.fst)) nA2)
  have hm : ∀ t, t ∈ (zs'.map Prod.snd).map unl ↔ t ∈ kept ∧ longM t kept roof = true := fun t => by
    have h1 : (zs'.map Prod.snd).Perm ((kept.filter fun t => longM t kept roof).map tol) := ez ▸ pm2.map Prod.snd
    have h2 := h1.map unl
    rw [List.map_map (l := kept.filter _), show (unl ∘ tol) = id from rfl, List.map_id] at h2
    rw [h2.mem_iff, List.mem_filter]
  have lz : zs'.length ≤ rays.length := by
    rw [pm2.length_eq]
    have := congrArg List.length ez
    rw [List.length_map, List.length_map] at this
    rw [this]
    refine Nat.le_trans (List.length_filter_le _ _) ?_
    omega
  refine k _ A2 _ ((zs'.map Prod.snd).map unl) e6 (tabs_same t5 e7) upd_same ?_ (fun t ht => (mem t).mp ((hm t).mp ht).1) (fun n d n0 d0 le q hq => ?_) (by rw [List.length_map, List.length_map]; exact lz)
  · rw [tol_unl]
    · unfold RowsV
      rw [List.map_map]
      refine dpAll_map fun z hz2 => ?_
      obtain ⟨A1, hA, sA⟩ := hz z (pm2.mem_iff.mp hz2)
      exact TupI.dp ⟨A1, hA, same_tup e7 (same_tup (ext_same e5) (noT_sqt sA))⟩
    · intro l hl2
      obtain ⟨z, hz2, rfl⟩ := List.mem_map.mp hl2
      have : z.2 ∈ zs.map Prod.snd := List.mem_map_of_mem (pm2.mem_iff.mp hz2)
      rw [ez] at this
      obtain ⟨r, _, er⟩ := List.mem_map.mp this
      exact ⟨r, er.symm⟩
  · obtain ⟨t, t1, t2, t3⟩ := long_cover (rays := kept) (by omega) n0 d0 le ((mem q).mpr hq)
    exact ⟨t, (hm t).mpr ⟨t1, t2⟩, t3⟩

end
end Fb

set_option Elab.async false
set_option linter.all false
set_option maxRecDepth 100000
set_option maxHeartbeats 4000000
namespace Fb
open PySem PySem.Spec L2
open PyProof.Rows hiding St
open C8 (Cal Met Mak Def cal0 met0 mak0 pe_c pe_mk pe_mt pe_mt0 fnScope fnBody fnArgs pss_cut tCut)
local macro_rules | `(tactic| walk_at "hp") => `(tactic| first | exact upd_same | assumption | (refine grow (by assumption) _ _ ?_; walk_at "hp") | (refine (show Same _ _ by assumption) _ _ ?_; walk_at "hp"))
local macro_rules | `(tactic| walk_at "sm") => `(tactic| first | exact Same.refl _ | assumption | (refine Same.trans ?_ (grow (by assumption)); walk_at "sm") | (refine Same.trans ?_ (show Same _ _ by assumption); walk_at "sm"))
section
variable {P : Program} {w : World} {K : PySem.W.Frag} {mg : Str → Option Value} {base : Heap}
variable {CH : Addr}
/-! ### _law_settings -/
def spSettings (K : PySem.W.Frag) : Sp := sp2 fun a b H Q => ∃ (R : Addr) (xs : List V) (rays : List Ln) (roof : Int), a = .ref R ∧ SqL K H R xs ∧ RowsV K H xs (rays.map tol) ∧ (∀ r ∈ rays, BdR r) ∧ rays.length ≤ 100 ∧ b = .int roof ∧ 1 ≤ roof ∧ roof ≤ 1000000 ∧
  ∀ (H' : Hp) (D E B : Addr) (es bs : List V) (F : Int) (ps : List Int), Same H H' → H' D = some (.lst [.ref E, .ref B]) → H' E = some (.lst es) → H' B = some (.lst bs) → Places rays roof F ps → RowsV K H' es (ps.map fun p => [p, F]) →
    RowsV K H' bs ((List.range (ps.length - 1)).map fun k => [ps.getD k 0 + ps.getD (k + 1) 0, F * 2]) → ps.length ≤ 20000 → Q (.ref D) H'
theorem c__law_settings (T : Top K mg CH) : Cal P w K mg base 1 "_law_settings" (spSettings K) [] := by
  obtain ⟨f, fd, F, df⟩ := T.d__law_settings
  refine cal_of F df (fn2 F sc__law_settings fun cdv A outer s H a b Q E hr h => ?_) fun _ _ _ _ _ _ us hl => match us, hl with | [_, _], _ => rfl
  have nd := sc__law_settings.nd
  obtain ⟨R, xs, rays, roof, rfl, hs, hx, bd, hl, rfl, r0, r1, k⟩ := h
  have lx := hx.len
  rw [List.length_map] at lx
  have bound : ∀ i j, i ≤ rays.length → j ≤ rays.length → i * rays.length + j ≤ 10100 := fun i j h1 h2 => by
    have := Nat.mul_le_mul (Nat.le_trans h1 hl) hl
    omega
  refine ⟨_, (pss_cons 
      (ps_set (i := 2) nd rfl (Or.inl rfl) (pe_lst (pa_cons (pe_tup (pa_cons pe_int (pa_cons pe_int pa_nil))) (pa_cons (pe_tup (pa_cons (pv 1) (pa_cons pe_int pa_nil))) pa_nil)))) (pss_cons 
      (ps_for PassesOwn.never rfl (pi_K (K := K) rfl (pv 0)) (tup_K (K := K) (n := 2) rfl rfl (pgs_cons (pg_name (i := 6) nd rfl (Or.inr rfl)) (pgs_cons (pg_name (i := 7) nd rfl (Or.inr rfl)) pgs_nil))) (pss_one 
      (ps_for PassesOwn.never rfl (pi_K (K := K) rfl (pv 0)) (tup_K (K := K) (n := 2) rfl rfl (pgs_cons (pg_name (i := 10) nd rfl (Or.inr rfl)) (pgs_cons (pg_name (i := 11) nd rfl (Or.inr rfl)) pgs_nil))) (pss_one 
      (ps_if (PW.pt (pw_and (pt_cmpR op_gtU (pv 7) (pv 11) (nomark _)) (pw_and (pt_cmpR op_gtU (pv 10) (pv 6) (nomark _)) (pw_and1 (pt_cmpR (lt_K (K := K) rfl hr) (pe_op op_sub (pv 10) (pv 6)) (pe_op op_mul (pv 1) (pe_op op_sub (pv 7) (pv 11))) (nomark _)))))) (pss_one 
      (ps_if (pt_not (pt_val (pe_callB (any_K (K := K) rfl rfl) (by rfl) T.any (by decide +kernel) (pa_cons (pe_lc (own := [("p", 8), ("q", 9)]) rfl nd (pi_K (K := K) rfl (pv 2)) (blkOk_by (N := ["rays", "roof", "found", "flat", "places", "between", "a", "b", "p", "q", "c", "d", "k"]) (sc := fnScope s__law_settings) (by decide +kernel)) (fun _ _ _ _ _ => (tup_K (K := K) (n := 2) rfl rfl (pgs_cons (pg_name (i := 8) nd rfl (Or.inl rfl)) (pgs_cons (pg_name (i := 9) nd rfl (Or.inl rfl)) pgs_nil)))) (fun _ _ _ _ _ => pts_nil) (fun _ _ _ _ _ => (pe_cmpR (eq_K (K := K) rfl hr) (pe_op op_mul (pv 8) (pe_op op_sub (pv 7) (pv 11))) (pe_op op_mul (pe_op op_sub (pv 10) (pv 6)) (pv 9)) (nomark _)))) pa_nil)))) (pss_one 
      (ps_expr (pe_bm PySem.F.plainAttrs_list PySem.F.slot_list_append PySem.F.type_list_append mt_append (pv 2) (pa_cons (pe_tup (pa_cons (pe_op op_sub (pv 10) (pv 6)) (pa_cons (pe_op op_sub (pv 7) (pv 11)) pa_nil))) pa_nil)))) pss_nil)) pss_nil))))) (pss_cons 
      (ps_set (i := 3) nd rfl (Or.inr rfl) pe_int) (pss_cons 
      (ps_for PassesOwn.never rfl (pi_K (K := K) rfl (pv 2)) (tup_K (K := K) (n := 2) rfl rfl (pgs_cons (pg_name (i := 8) nd rfl (Or.inl rfl)) (pgs_cons (pg_name (i := 9) nd rfl (Or.inl rfl)) pgs_nil))) (pss_one 
      (ps_set (i := 3) nd rfl (Or.inr rfl) (pe_ifExp (pt_cmpR (ne_K (K := K) rfl hr) (pe_op op_mod (pe_callTy call_int1 (by rfl) T.int (by decide +kernel) (pa_cons (pv 3) pa_nil)) (pv 9)) pe_int (nomark _)) (pe_op op_mul (pv 3) (pv 9)) (pv 3))))) (pss_cons 
      (ps_set (i := 4) nd rfl (Or.inr rfl) (pe_callB cr_sortedI (by rfl) T.sorted (by decide +kernel) (pa_cons (pe_lc (own := [("p", 8), ("q", 9)]) rfl nd (pi_K (K := K) rfl (pv 2)) (blkOk_by (N := ["rays", "roof", "found", "flat", "places", "between", "a", "b", "p", "q", "c", "d", "k"]) (sc := fnScope s__law_settings) (by decide +kernel)) (fun _ _ _ _ _ => (tup_K (K := K) (n := 2) rfl rfl (pgs_cons (pg_name (i := 8) nd rfl (Or.inl rfl)) (pgs_cons (pg_name (i := 9) nd rfl (Or.inl rfl)) pgs_nil)))) (fun _ _ _ _ _ => pts_nil) (fun _ _ _ _ _ => (pe_op op_mul (pv 8) (pe_op op_fdivW (pv 3) (pv 9))))) pa_nil))) (pss_cons 
      (ps_setLc (i := 5) (own := [("k", 12)]) rfl nd rfl rfl (sw_true rfl rfl rfl (by decide +kernel)) (pi_range1 (by rfl) T.range (pa_cons (pe_op op_sub (pe_callB (len_K (K := K) rfl) (by rfl) T.len (by decide +kernel) (pa_cons (pv 4) pa_nil)) pe_int) pa_nil)) (blkOk_by (N := ["rays", "roof", "found", "flat", "places", "between", "a", "b", "p", "q", "c", "d", "k"]) (sc := fnScope s__law_settings) (by decide +kernel)) (fun _ _ _ _ _ => (pg_name (i := 12) nd rfl (Or.inl rfl))) (fun _ _ _ _ _ => pts_nil) (fun _ _ _ _ _ => (pe_tup (pa_cons (pe_op op_addU (pe_ix (ix_K (K := K) rfl) (pv 4) (pv 12) (fun _ _ => rfl)) (pe_ix (ix_K (K := K) rfl) (pv 4) (pe_op op_addU (pv 12) pe_int) (fun _ _ => rfl))) (pa_cons (pe_op op_mul (pv 3) pe_int) pa_nil))))) (pss_one 
      (ps_ret (pe_lst (pa_cons (pe_lc (own := [("p", 8)]) rfl nd (pi_K (K := K) rfl (pv 4)) (blkOk_by (N := ["rays", "roof", "found", "flat", "places", "between", "a", "b", "p", "q", "c", "d", "k"]) (sc := fnScope s__law_settings) (by decide +kernel)) (fun _ _ _ _ _ => (pg_name (i := 8) nd rfl (Or.inl rfl))) (fun _ _ _ _ _ => pts_nil) (fun _ _ _ _ _ => (pe_tup (pa_cons (pv 8) (pa_cons (pv 3) pa_nil))))) (pa_cons (pv 5) pa_nil))))))))))), ?_⟩
  refine ⟨Nat.le_of_ble_eq_true rfl, fun t1 n1 => ⟨_, rfl, Nat.le_of_ble_eq_true rfl, fun t2 n2 => ⟨Nat.le_of_ble_eq_true rfl, fun Fd nF => ?_⟩⟩⟩
  have e0 := (grow (o := .tup [.int 0, .int 1]) n1).trans (grow (o := .tup [.int roof, .int 1]) n2)
  have hT1 := (grow (o := .tup [.int roof, .int 1]) n2) _ _ (upd_same (H := H) (a := t1) (o := .tup [.int 0, .int 1]))
  have hT2 := upd_same (H := upd H t1 (.tup [.int 0, .int 1])) (a := t2) (o := .tup [.int roof, .int 1])
  generalize upd (upd H t1 (.tup [.int 0, .int 1])) t2 _ = H0 at e0 hT1 hT2 nF
  have f0 : RowsV K (upd H0 Fd (.lst [.ref t1, .ref t2])) [.ref t1, .ref t2] (([(0, 1), (roof, 1)] : List Ln).map tol) :=
    .cons (TupI.dp (f := [0, 1]) ⟨t1, rfl, SqT.of ((grow nF) _ _ hT1)⟩) (.cons (TupI.dp (f := [roof, 1]) ⟨t2, rfl, SqT.of ((grow nF) _ _ hT2)⟩) .nil)
  -- the crossings
  refine ⟨_, rfl, .inl ⟨R, rfl, ⟨_, (e0.trans (grow nF)).seq hs⟩, ?_⟩⟩
  refine for_it (walk_list (xs := xs)) (fun i σ H' => Same H0 H' ∧ (∃ us f, f = (rays.take i).foldl (fun f l => rays.foldl (fun f u => meetS roof l u f) f) [(0, 1), (roof, 1)] ∧ H' Fd = some (.lst us) ∧ RowsV K H' us (f.map tol) ∧ us.length ≤ 2 + i * rays.length) ∧ ∃ y3 y4 y5 y6 y7 y8 y9 y10 y11 y12, σ = [some (.ref R), some (.int roof), some (.ref Fd), y3, y4, y5, y6, y7, y8, y9, y10, y11, y12])
    ⟨grow nF, ⟨_, _, rfl, upd_same, f0, by show 2 ≤ 2 + 0 * _; omega⟩, _, _, _, _, _, _, _, _, _, _, rfl⟩ (fun i σ H' _ ⟨e, _⟩ => (e0.trans e).seq hs) ?_ ?_
  · rintro i x σ H1 H2 hi ⟨e, ⟨us, fi, ei, hq, hu, lu⟩, y3, y4, y5, y6, y7, y8, y9, y10, y11, y12, rfl⟩ ⟨rfl, g⟩
    obtain ⟨l, gl, ⟨U, rfl, sU⟩⟩ := line_get (hx.mono (e0.trans e)) g
    obtain ⟨a1, a2, a3, a4⟩ := bd l (List.mem_of_getElem? gl)
    refine ⟨U, _, rfl, sU, rfl, _, _, rfl, _, _, rfl, rfl, ?_⟩
    refine ⟨_, rfl, .inl ⟨R, rfl, ⟨_, (e0.trans e).seq hs⟩, ?_⟩⟩
    refine for_it (walk_list (xs := xs)) (fun j σ H' => Same H0 H' ∧ (∃ us f, f = (rays.take j).foldl (fun f u => meetS roof l u f) fi ∧ H' Fd = some (.lst us) ∧ RowsV K H' us (f.map tol) ∧ us.length ≤ 2 + i * rays.length + j) ∧ ∃ y3 y4 y5 y8 y9 y10 y11 y12, σ = [some (.ref R), some (.int roof), some (.ref Fd), y3, y4, y5, some (.int l.1), some (.int l.2), y8, y9, y10, y11, y12])
      ⟨e, ⟨us, fi, rfl, hq, hu, lu⟩, _, _, _, _, _, _, _, _, rfl⟩ (fun i σ H' _ ⟨e, _⟩ => (e0.trans e).seq hs) ?_ ?_
    · rintro j y σ H3 H4 hj ⟨e, ⟨us, f, ef, hq, hu, lu⟩, y3, y4, y5, y8, y9, y10, y11, y12, rfl⟩ ⟨rfl, g2⟩
      obtain ⟨u, gu, ⟨U2, rfl, sU2⟩⟩ := line_get (hx.mono (e0.trans e)) g2
      obtain ⟨c1, c2, c3, c4⟩ := bd u (List.mem_of_getElem? gu)
      have step : (rays.take (j + 1)).foldl (fun f u => meetS roof l u f) fi = meetS roof l u f := by
        rw [take_fold (fun f u => meetS roof l u f) _ _ j u gu, ef]
      have no : ¬ (u.2 < l.2 ∧ l.1 < u.1 ∧ u.1 - l.1 < roof * (l.2 - u.2)) → meetS roof l u f = f := fun h => if_neg h
      refine ⟨U2, _, rfl, sU2, rfl, _, _, rfl, _, _, rfl, rfl, ?_⟩
      refine ⟨_, rfl, _, rfl, _, _, rfl, rfl, _, rfl, ite2 (fun d1 => ?_) (fun d1 => ?_)⟩
      rotate_left
      · have d1 : ¬ u.2 < l.2 := fun z => d1 (decide_eq_true z)
        exact ⟨e, ⟨us, f, by rw [step, no (fun z => d1 z.1)], hq, hu, by omega⟩, _, _, _, _, _, _, _, _, rfl⟩
      refine ⟨_, rfl, _, rfl, _, _, rfl, rfl, _, rfl, ite2 (fun d2 => ?_) (fun d2 => ?_)⟩
      rotate_left
      · have d2 : ¬ l.1 < u.1 := fun z => d2 (decide_eq_true z)
        exact ⟨e, ⟨us, f, by rw [step, no (fun z => d2 z.2.1)], hq, hu, by omega⟩, _, _, _, _, _, _, _, _, rfl⟩
      refine ⟨_, rfl, _, rfl, _, _, rfl, rfl, _, rfl, _, rfl, _, rfl, _, _, rfl, rfl, _, _, rfl, rfl, .inl ⟨by omega, by omega⟩, .inl ⟨_, _, rfl, rfl, _, rfl, ite2 (fun d3 => ?_) (fun d3 => ?_)⟩⟩
      rotate_left
      · have d3 : ¬ u.1 - l.1 < roof * (l.2 - u.2) := fun z => d3 (decide_eq_true z)
        exact ⟨e, ⟨us, f, by rw [step, no (fun z => d3 z.2.2)], hq, hu, by omega⟩, _, _, _, _, _, _, _, _, rfl⟩
      have d1 := of_decide_eq_true d1
      have d2 := of_decide_eq_true d2
      have d3 := of_decide_eq_true d3
      have lf := hu.len
      rw [List.length_map] at lf
      have lb := bound i j (by omega) (by omega)
      refine ⟨_, rfl, .inl ⟨Fd, rfl, ⟨_, SqL.of hq⟩, fun D hD => ?_⟩⟩
      refine lc_map (walk_list (xs := us)) (fun m => .bl (decide ((f.getD m (0, 0)).1 * (l.2 - u.2) = (u.1 - l.1) * (f.getD m (0, 0)).2))) grow_at (by omega) hD (fun H1 e => SqL.of (e _ _ hq)) ?_ ?_
      · rintro m z G1 G2 hm e2 ⟨rfl, g3⟩ W kk
        obtain ⟨r, gr, ⟨U3, rfl, sU3⟩⟩ := line_get (hu.mono e2) g3
        have kk := kk _ (Same.refl _)
        rw [getD_of gr, ← dec_int2] at kk
        refine ⟨U3, _, rfl, sU3, rfl, _, _, rfl, _, _, rfl, rfl, rfl, ?_⟩
        exact ⟨_, rfl, _, rfl, _, rfl, _, _, rfl, rfl, _, _, rfl, rfl, .inr ⟨by omega, by omega⟩, _, rfl, _, rfl, _, _, rfl, rfl, _, rfl, _, _, rfl, rfl, .inl ⟨by omega, by omega⟩, .inl ⟨rfl, kk⟩⟩
      · intro G1 e2 hDG
        have eA : ((List.range us.length).map fun m => decide ((f.getD m (0, 0)).1 * (l.2 - u.2) = (u.1 - l.1) * (f.getD m (0, 0)).2)).any id = f.any fun p => decide (p.1 * (l.2 - u.2) = (u.1 - l.1) * p.2) := by
          rw [lf, map_range_get (0, 0) (fun p : Ln => decide (p.1 * (l.2 - u.2) = (u.1 - l.1) * p.2)) f, List.any_map]
          rfl
        refine ⟨D, (List.range us.length).map fun m => decide ((f.getD m (0, 0)).1 * (l.2 - u.2) = (u.1 - l.1) * (f.getD m (0, 0)).2), rfl, SqL.of (by rw [hDG, List.map_map]; rfl), ?_⟩
        rw [eA]
        have hq3 := e2 _ _ hq
        cases av : f.any fun p => decide (p.1 * (l.2 - u.2) = (u.1 - l.1) * p.2) with
        | true =>
          refine ⟨_, rfl, iteF ⟨e.trans e2, ⟨us, f, ?_, hq3, hu.mono e2, by omega⟩, _, _, _, _, _, _, _, _, rfl⟩⟩
          rw [step]
          unfold meetS
          rw [if_pos ⟨d1, d2, d3⟩, if_pos av]
        | false =>
          refine ⟨_, rfl, iteT ⟨_, rfl, .inl ⟨rfl, _, SqL.of hq3⟩, _, rfl, _, rfl, _, _, rfl, rfl, _, rfl, _, rfl, _, _, rfl, rfl, Nat.le_of_ble_eq_true rfl, fun t nt => ?_⟩⟩
          have hq4 := (grow (o := .tup [.int (u.1 - l.1), .int (l.2 - u.2)]) nt) _ _ hq3
          refine ⟨Fd, us, _, rfl, rfl, hq4, size5 (by omega), ?_⟩
          refine ⟨same_mut (e.trans (e2.trans (grow nt))) nF, ⟨us ++ [.ref t], f ++ [(u.1 - l.1, l.2 - u.2)], ?_, upd_same, ?_, by rw [List.length_append]; exact Nat.succ_le_succ lu⟩, _, _, _, _, _, _, _, _, rfl⟩
          · rw [step]
            unfold meetS
            rw [if_pos ⟨d1, d2, d3⟩, if_neg (by rw [av]; exact Bool.false_ne_true)]
          · rw [List.map_append]
            exact (((hu.mono e2).mono (grow nt)).upd hq4).snoc (tupI_upd hq4 ⟨t, rfl, SqT.of upd_same⟩)
    · rintro σ H3 ⟨e, ⟨us, f, ef, hq, hu, lu⟩, y3, y4, y5, y8, y9, y10, y11, y12, rfl⟩
      refine ⟨e, ⟨us, f, ?_, hq, hu, ?_⟩, _, _, _, _, _, _, _, _, _, _, rfl⟩
      · rw [take_fold (fun f l => rays.foldl (fun f u => meetS roof l u f) f) _ _ i l gl, ef, lx, List.take_length, ei]
      · rw [Nat.succ_mul]
        omega
  rintro σ H1 ⟨e, ⟨us, f, ef, hq, hu, lu⟩, y3, y4, y5, y6, y7, y8, y9, y10, y11, y12, rfl⟩
  have ef : f = meetM rays roof := by
    rw [ef, lx, List.take_length]
    rfl
  subst ef
  obtain ⟨MO, _⟩ := meet_ok (rays := rays) (show 0 < roof by omega)
  have mb := meet_bd (roof := roof) bd
  have lf := hu.len
  rw [List.length_map] at lf
  have lb := bound rays.length 0 (Nat.le_refl _) (Nat.zero_le _)
  have lu2 : us.length ≤ 10102 := by
    rw [lx] at lu
    omega
  -- flat
  refine ⟨_, rfl, .inl ⟨Fd, rfl, ⟨_, SqL.of hq⟩, ?_⟩⟩
  refine for_it (walk_list (xs := us)) (fun i σ H' => H' = H1 ∧ ∃ F : Int, F = ((meetM rays roof).take i).foldl (fun F p => if F % p.2 ≠ 0 then F * p.2 else F) 1 ∧ ∃ y4 y5 y6 y7 y8 y9 y10 y11 y12, σ = [some (.ref R), some (.int roof), some (.ref Fd), some (.int F), y4, y5, y6, y7, y8, y9, y10, y11, y12]) ⟨rfl, 1, rfl, _, _, _, _, _, _, _, _, _, rfl⟩ (fun i σ H' _ ⟨e, _⟩ => by rw [e]; exact SqL.of hq) ?_ ?_
  · rintro i x σ H2 H3 hi ⟨eH, F, eF, y4, y5, y6, y7, y8, y9, y10, y11, y12, rfl⟩ ⟨rfl, g⟩
    subst eH
    obtain ⟨r, gr, ⟨U, rfl, sU⟩⟩ := line_get hu g
    obtain ⟨q0, p0, p1⟩ := MO.inn r (List.mem_of_getElem? gr)
    have q1 := mb r (List.mem_of_getElem? gr)
    have step := take_fold (fun (F : Int) (p : Ln) => if F % p.2 ≠ 0 then F * p.2 else F) 1 (meetM rays roof) i r gr
    rw [← eF] at step
    refine ⟨U, _, rfl, sU, rfl, _, _, rfl, _, _, rfl, rfl, ?_⟩
    refine ⟨_, rfl, .inl ⟨_, rfl, _, rfl, _, _, rfl, rfl, q0, .inl ⟨rfl, _, rfl, ?_⟩⟩⟩
    rw [dec_int2]
    by_cases z : F % r.2 = 0
    · rw [decide_eq_true z]
      refine iteF ⟨_, rfl, rfl, F, ?_, _, _, _, _, _, _, _, _, _, rfl⟩
      rw [step]
      exact (if_neg (fun h => h z)).symm
    · rw [decide_eq_false z]
      refine iteT ⟨_, rfl, _, rfl, _, _, rfl, rfl, .inr ⟨by omega, by omega⟩, rfl, F * r.2, ?_, _, _, _, _, _, _, _, _, _, rfl⟩
      rw [step]
      exact (if_pos z).symm
  rintro σ H2 ⟨eH, F, eF, y4, y5, y6, y7, y8, y9, y10, y11, y12, rfl⟩
  subst eH
  have eF : F = flatM (meetM rays roof) := by
    rw [eF, lf, List.take_length]
    rfl
  subst eF
  -- places
  refine ⟨_, rfl, .inl ⟨Fd, rfl, ⟨_, SqL.of hq⟩, fun D hD => ?_⟩⟩
  refine lc_map (walk_list (xs := us)) (fun m => .int (((meetM rays roof).getD m (0, 0)).1 * (flatM (meetM rays roof) / ((meetM rays roof).getD m (0, 0)).2))) grow_at (by omega) hD (fun H1 e => SqL.of (e _ _ hq)) ?_ ?_
  · rintro m z G1 G2 hm e2 ⟨rfl, g3⟩ W kk
    obtain ⟨r, gr, ⟨U3, rfl, sU3⟩⟩ := line_get (hu.mono e2) g3
    obtain ⟨q0, p0, p1⟩ := MO.inn r (List.mem_of_getElem? gr)
    have q1 := mb r (List.mem_of_getElem? gr)
    have p2 := Int.mul_le_mul r1 q1 (by omega) (by omega)
    have kk := kk _ (Same.refl _)
    rw [getD_of gr] at kk
    exact ⟨U3, _, rfl, sU3, rfl, _, _, rfl, _, _, rfl, rfl, rfl, _, rfl, _, rfl, _, rfl, _, _, rfl, rfl, ⟨q0, small_log (by omega) (by omega)⟩, _, _, rfl, rfl, .inl ⟨by omega, by omega⟩, kk⟩
  intro G e2 hDG
  refine ⟨D, (meetM rays roof).map fun p => p.1 * (flatM (meetM rays roof) / p.2), rfl, SqL.of ?_, fun ps P perm srt nP => ?_⟩
  · rw [hDG, lf, List.map_map]
    exact congrArg (fun z => some (HO.lst z)) (map_range_get (0, 0) (fun p : Ln => V.int (p.1 * (flatM (meetM rays roof) / p.2))) (meetM rays roof))
  have PL := places_ok (show 0 < roof by omega) perm srt
  have lps : ps.length = us.length := by
    rw [perm.length_eq, List.length_map, lf]
  have e3 := e2.trans (grow (o := .lst (ps.map V.int)) nP)
  have hP := upd_same (H := G) (a := P) (o := .lst (ps.map V.int))
  generalize upd G P _ = G0 at e3 hP
  generalize flatM (meetM rays roof) = F at *
  have lpm : (ps.map V.int).length = ps.length := List.length_map ..
  have l1 : 1 ≤ ps.length := List.length_pos_of_mem PL.m0
  -- between
  refine ⟨_, rfl, .inl ⟨P, _, rfl, .inl (SqL.of hP), _, _, rfl, rfl, _, rfl, by omega, by omega, fun B hB => ?_⟩⟩
  rw [show (((ps.map V.int).length : Int) - 1).toNat = ps.length - 1 by rw [lpm]; omega]
  refine lc_some (walk_range (n := ps.length - 1)) (fun i v H => TupI K H v [ps.getD i 0 + ps.getD (i + 1) 0, F * 2]) grow_fn (by omega) hB (fun _ _ _ _ e h => h.mono e) (fun H e => trivial) ?_ ?_
  · rintro i x G1 G2 hi e4 ⟨xs0, hx0⟩ ⟨rfl, hx1⟩ W kk
    have hx1 : x = V.int (i : Nat) := hx1.trans (congrArg V.int (Int.zero_add _))
    subst hx1
    have hP2 := e4 _ _ hP
    refine ⟨rfl, _, rfl, _, rfl, .inl ⟨P, _, _, _, rfl, rfl, SqL.of hP2, tup_at (by omega) (by omega), ?_⟩⟩
    refine ⟨_, rfl, _, rfl, .inl ⟨_, _, rfl, rfl, .inl ⟨P, _, _, _, rfl, rfl, SqL.of hP2, tup_at (by omega) (by omega), .inl ⟨_, _, rfl, rfl, ?_⟩⟩⟩⟩
    refine ⟨_, rfl, _, _, rfl, rfl, .inr ⟨by decide, by decide⟩, Nat.le_of_ble_eq_true rfl, fun t nt => kk _ _ (grow nt) fun o => ?_⟩
    exact tupI_upd ((grow nt) _ _ hx0) ⟨t, rfl, SqT.of upd_same⟩
  intro bs G1 e4 hB1 lbs pbs
  -- [[(p, flat) for p in places], between]
  have hP2 := e4 _ _ hP
  refine ⟨_, rfl, .inl ⟨P, rfl, ⟨_, SqL.of hP2⟩, fun E1 hE => ?_⟩⟩
  refine lc_some (walk_list (xs := ps.map V.int)) (fun i v H => TupI K H v [ps.getD i 0, F]) grow_at (by omega) hE (fun _ _ _ _ e h => h.mono e) (fun H e => SqL.of (e _ _ hP2)) ?_ ?_
  · rintro i x G2 G3 hi e5 ⟨xs0, hx0⟩ ⟨rfl, g⟩ W kk
    obtain ⟨z, gz, rfl⟩ := int_get g
    refine ⟨rfl, _, rfl, _, rfl, Nat.le_of_ble_eq_true rfl, fun t nt => kk _ _ (grow nt) fun o => ?_⟩
    rw [getD_of gz]
    exact tupI_upd ((grow nt) _ _ hx0) ⟨t, rfl, SqT.of upd_same⟩
  intro es G2 e5 hE1 les pes
  refine ⟨_, rfl, Nat.le_of_ble_eq_true rfl, fun Dd nDd => ?_⟩
  have e6 := grow (o := .lst [.ref E1, .ref B]) nDd
  have re := rows_from _ pes
  have rb := rows_from _ pbs
  rw [les, lpm, map_range_get 0 (fun p => [p, F]) ps] at re
  rw [lbs] at rb
  refine k _ Dd E1 B es bs F ps (e0.trans (e.trans (e3.trans (e4.trans (e5.trans e6))))) upd_same (e6 _ _ hE1) (e6 _ _ (e5 _ _ hB1)) PL (re.mono e6) (rb.mono (e5.trans e6)) (by omega)

end
end Fb

set_option Elab.async false
set_option linter.all false
set_option maxRecDepth 100000
set_option maxHeartbeats 4000000
namespace Fb
open PySem PySem.Spec L2
open PyProof.Rows hiding St
open C8 (Cal Met Mak Def cal0 met0 mak0 pe_c pe_mk pe_mt pe_mt0 fnScope fnBody fnArgs pss_cut tCut)
local macro_rules | `(tactic| walk_at "hp") => `(tactic| first | exact upd_same | assumption | (refine grow (by assumption) _ _ ?_; walk_at "hp") | (refine (show Same _ _ by assumption) _ _ ?_; walk_at "hp"))
local macro_rules | `(tactic| walk_at "sm") => `(tactic| first | exact Same.refl _ | assumption | (refine Same.trans ?_ (grow (by assumption)); walk_at "sm") | (refine Same.trans ?_ (show Same _ _ by assumption); walk_at "sm"))
section
variable {P : Program} {w : World} {K : PySem.W.Frag} {mg : Str → Option Value} {base : Heap}
variable {CH : Addr}
/-! ### _law_read_at -/
def spReadAt (K : PySem.W.Frag) : Sp := sp2 fun a b H Q => ∃ (r : Ln) (n d : Int), TupI K H a (tol r) ∧ TupI K H b [n, d] ∧ BdR r ∧ Q (.int (vA r n d)) H
theorem c__law_read_at (T : Top K mg CH) : Cal P w K mg base 1 "_law_read_at" (spReadAt K) [] := by
  obtain ⟨f, fd, F, df⟩ := T.d__law_read_at
  refine cal_of F df (fn2 F sc__law_read_at fun cdv A outer s H a b Q E hr h => ?_) fun _ _ _ _ _ _ us hl => match us, hl with | [_, _], _ => rfl
  have nd := sc__law_read_at.nd
  obtain ⟨r, n, d, ⟨A1, rfl, h1⟩, ⟨A2, rfl, h2⟩, ⟨b1, b2, b3, b4⟩, q⟩ := h
  refine ⟨_, (pss_one 
      (ps_ret (pe_op op_addU (pe_op op_mul (pe_ix (ix_K (K := K) rfl) (pv 0) pe_int (fun _ _ => rfl)) (pe_ix (ix_K (K := K) rfl) (pv 1) pe_int (fun _ _ => rfl))) (pe_op op_mul (pe_ix (ix_K (K := K) rfl) (pv 0) pe_int (fun _ _ => rfl)) (pe_ix (ix_K (K := K) rfl) (pv 1) pe_int (fun _ _ => rfl)))))), ?_⟩
  refine ⟨_, rfl, .inr (.inl ⟨A1, _, _, _, rfl, rfl, h1, at0, _, rfl, .inr (.inl ⟨A2, _, _, _, rfl, rfl, h2, at1, _, _, rfl, rfl, .inl ⟨by omega, by omega⟩, ?_⟩)⟩)⟩
  exact ⟨_, rfl, .inr (.inl ⟨A1, _, _, _, rfl, rfl, h1, at1, _, rfl, .inr (.inl ⟨A2, _, _, _, rfl, rfl, h2, at0, _, _, rfl, rfl, .inl ⟨by omega, by omega⟩, .inl ⟨_, _, rfl, rfl, q⟩⟩)⟩)⟩

end
end Fb

set_option Elab.async false
set_option linter.all false
set_option maxRecDepth 100000
set_option maxHeartbeats 4000000
namespace Fb
open PySem PySem.Spec L2
open PyProof.Rows hiding St
open C8 (Cal Met Mak Def cal0 met0 mak0 pe_c pe_mk pe_mt pe_mt0 fnScope fnBody fnArgs pss_cut tCut)
local macro_rules | `(tactic| walk_at "hp") => `(tactic| first | exact upd_same | assumption | (refine grow (by assumption) _ _ ?_; walk_at "hp") | (refine (show Same _ _ by assumption) _ _ ?_; walk_at "hp"))
local macro_rules | `(tactic| walk_at "sm") => `(tactic| first | exact Same.refl _ | assumption | (refine Same.trans ?_ (grow (by assumption)); walk_at "sm") | (refine Same.trans ?_ (show Same _ _ by assumption); walk_at "sm"))
section
variable {P : Program} {w : World} {K : PySem.W.Frag} {mg : Str → Option Value} {base : Heap}
variable {CH : Addr}
/-! ### _law_tuple_of -/
def spTupleOf (K : PySem.W.Frag) : Sp := sp2 fun a b H Q => ∃ (A : Addr) (xs : List V) (n : Nat), a = .ref A ∧ SqT K H A xs ∧ b = .int n ∧ xs.length = n ∧ Q (.bl true) H
theorem c__law_tuple_of (T : Top K mg CH) : Cal P w K mg base 1 "_law_tuple_of" (spTupleOf K) [] := by
  obtain ⟨f, fd, F, df⟩ := T.d__law_tuple_of
  refine cal_of F df (fn2 F sc__law_tuple_of fun cdv A outer s H a b Q E hr h => ?_) fun _ _ _ _ _ _ us hl => match us, hl with | [_, _], _ => rfl
  have nd := sc__law_tuple_of.nd
  obtain ⟨A1, xs, n, rfl, hs, rfl, rfl, q⟩ := h
  refine ⟨_, (pss_one 
      (ps_ret (pe_and (pe_callB (isi_K (K := K) rfl) (by rfl) T.isinstance (by decide +kernel) (pa_cons (pv 0) (pa_cons (pe_bltn (v := .ty "tuple") (by rfl) T.tuple (by decide +kernel) rfl) pa_nil))) (pe_one (pe_cmpR (eq_K (K := K) rfl hr) (pe_callB (len_K (K := K) rfl) (by rfl) T.len (by decide +kernel) (pa_cons (pv 0) pa_nil)) (pv 1) (nomark _)))))), ?_⟩
  refine ⟨_, rfl, .inl ⟨_, _, _, true, rfl, sqt_ty hs, by decide +kernel, _, rfl, iteT ?_⟩⟩
  refine ⟨_, rfl, .inl ⟨A1, _, rfl, .inr hs, _, rfl, .inl ⟨rfl, ?_⟩⟩⟩
  rw [decide_eq_true (rfl : V.int (xs.length : Int) = V.int xs.length)]
  exact q

end
end Fb

set_option Elab.async false
set_option linter.all false
set_option maxRecDepth 100000
set_option maxHeartbeats 4000000
namespace Fb
open PySem PySem.Spec L2
open PyProof.Rows hiding St
open C8 (Cal Met Mak Def cal0 met0 mak0 pe_c pe_mk pe_mt pe_mt0 fnScope fnBody fnArgs pss_cut tCut)
local macro_rules | `(tactic| walk_at "hp") => `(tactic| first | exact upd_same | assumption | (refine grow (by assumption) _ _ ?_; walk_at "hp") | (refine (show Same _ _ by assumption) _ _ ?_; walk_at "hp"))
local macro_rules | `(tactic| walk_at "sm") => `(tactic| first | exact Same.refl _ | assumption | (refine Same.trans ?_ (grow (by assumption)); walk_at "sm") | (refine Same.trans ?_ (show Same _ _ by assumption); walk_at "sm"))
section
variable {P : Program} {w : World} {K : PySem.W.Frag} {mg : Str → Option Value} {base : Heap}
variable {CH : Addr}
/-! ### _law_is_number -/
def spLIsNumber (K : PySem.W.Frag) : Sp := sp2 fun a b H Q => ∃ l, AnyV K H a ∧ b = .int l ∧ Q (.bl (numB a l none)) H
theorem c__law_is_number (T : Top K mg CH) : Cal P w K mg base 1 "_law_is_number" (spLIsNumber K) [] := by
  obtain ⟨f, fd, F, df⟩ := T.d__law_is_number
  refine cal_of F df (fn2 F sc__law_is_number fun cdv A outer s H a b Q E hr h => ?_) fun _ _ _ _ _ _ us hl => match us, hl with | [_, _], _ => rfl
  have nd := sc__law_is_number.nd
  obtain ⟨l, ha, rfl, q⟩ := h
  refine ⟨_, (pss_one 
      (ps_ret (pe_and (pe_callB (isi_K (K := K) rfl) (by rfl) T.isinstance (by decide +kernel) (pa_cons (pv 0) (pa_cons (pe_bltn (v := .ty "int") (by rfl) T.int (by decide +kernel) rfl) pa_nil))) (pe_and (pe_not (pe_callB (isi_K (K := K) rfl) (by rfl) T.isinstance (by decide +kernel) (pa_cons (pv 0) (pa_cons (pe_bltn (v := .ty "bool") (by rfl) T.bool (by decide +kernel) rfl) pa_nil)))) (pe_one (pe_cmpR op_geU (pv 0) (pv 1) (nomark _))))))), ?_⟩
  rcases ha.intOr with ⟨i, rfl⟩ | ⟨b, rfl⟩ | ⟨no, t, ty, kb⟩
  · refine ⟨_, rfl, .inl ⟨_, _, _, true, rfl, .base (.int i), by decide +kernel, _, rfl, iteT ?_⟩⟩
    refine ⟨_, rfl, .inl ⟨_, _, _, false, rfl, .base (.int i), by decide +kernel, _, rfl, _, rfl, iteT ?_⟩⟩
    refine ⟨_, rfl, _, rfl, _, _, rfl, rfl, ?_⟩
    rw [show numB (.int i) l none = decide (l ≤ i) from Bool.and_true _] at q
    exact q
  · refine ⟨_, rfl, .inl ⟨_, _, _, true, rfl, .base (.bl b), by decide +kernel, _, rfl, iteT ?_⟩⟩
    exact ⟨_, rfl, .inl ⟨_, _, _, true, rfl, .base (.bl b), by decide +kernel, _, rfl, _, rfl, iteF q⟩⟩
  · rw [numB_no no] at q
    exact ⟨_, rfl, .inl ⟨_, _, _, false, rfl, ty, kb, _, rfl, iteF q⟩⟩

end
end Fb

set_option Elab.async false
set_option linter.all false
set_option maxRecDepth 100000
set_option maxHeartbeats 4000000
namespace Fb
open PySem PySem.Spec L2
open PyProof.Rows hiding St
open C8 (Cal Met Mak Def cal0 met0 mak0 pe_c pe_mk pe_mt pe_mt0 fnScope fnBody fnArgs pss_cut tCut)
local macro_rules | `(tactic| walk_at "hp") => `(tactic| first | exact upd_same | assumption | (refine grow (by assumption) _ _ ?_; walk_at "hp") | (refine (show Same _ _ by assumption) _ _ ?_; walk_at "hp"))
local macro_rules | `(tactic| walk_at "sm") => `(tactic| first | exact Same.refl _ | assumption | (refine Same.trans ?_ (grow (by assumption)); walk_at "sm") | (refine Same.trans ?_ (show Same _ _ by assumption); walk_at "sm"))
section
variable {P : Program} {w : World} {K : PySem.W.Frag} {mg : Str → Option Value} {base : Heap}
variable {CH : Addr}
/-! ### _law_rays_so -/
def spRaysSo (K : PySem.W.Frag) : Sp := sp3 fun a b c H Q => ∃ (A : Addr) (xs : List V) (T : List Ln) (R : Addr) (ys : List V) (rays : List Ln) (roof : Int), a = .ref A ∧ SqT K H A xs ∧ RowsV K H xs (T.map tol) ∧ b = .ref R ∧ SqL K H R ys ∧ RowsV K H ys (rays.map tol) ∧
  (∀ r ∈ rays, BdR r) ∧ rays.length ≤ 100 ∧ T.length ≤ 1000 ∧ c = .int roof ∧ 1 ≤ roof ∧ roof ≤ 1000000 ∧ T ≠ [] ∧ (∀ t ∈ T, t ∈ rays) ∧ Good roof T.reverse ∧ (∀ n d, 0 ≤ n → 0 < d → n ≤ roof * d → ∀ q ∈ rays, ∃ t ∈ T, vA t n d ≤ vA q n d) ∧ Then H Q (.bl true)
/-- a setting, as a row -/
def SetAt (roof : Int) (l : List Int) : Prop := ∃ n d : Int, l = [n, d] ∧ 0 ≤ n ∧ 0 < d ∧ n ≤ roof * d
theorem c__law_rays_so (T : Top K mg CH) : Cal P w K mg base 2 "_law_rays_so" (spRaysSo K) [] := by
  obtain ⟨f, fd, F, df⟩ := T.d__law_rays_so
  refine cal_of F df (fn3 F sc__law_rays_so fun cdv A outer s H a b c Q E hr h => ?_) fun _ _ _ _ _ _ us hl => match us, hl with | [_, _, _], _ => rfl
  have nd := sc__law_rays_so.nd
  obtain ⟨A1, xs, L, R, ys, rays, roof, rfl, sA, hx, rfl, sR, hy, bd, hl, hL, rfl, r0, r1, ne, sub, good, cov, k⟩ := h
  have lx := hx.len
  rw [List.length_map] at lx
  have ly := hy.len
  rw [List.length_map] at ly
  have bdL : ∀ t ∈ L, BdR t := fun t ht => bd t (sub t ht)
  have lpos : 0 < L.length := List.length_pos_iff.mpr ne
  have rpos : 0 < rays.length := by
    cases L with
    | nil => exact absurd rfl ne
    | cons t r => exact List.length_pos_of_mem (sub t (List.mem_cons_self ..))
  refine ⟨_, (pss_cons 
      (ps_if (PW.pt (pw_or (pt_not (pt_val (pe_callB (isi_K (K := K) rfl) (by rfl) T.isinstance (by decide +kernel) (pa_cons (pv 0) (pa_cons (pe_bltn (v := .ty "tuple") (by rfl) T.tuple (by decide +kernel) rfl) pa_nil))))) (pw_or1 (pt_not (pt_val (pe_callB (all_K (K := K) rfl rfl) (by rfl) T.all (by decide +kernel) (pa_cons (pe_lc (own := [("x", 3)]) rfl nd (pi_K (K := K) rfl (pv 0)) (blkOk_by (N := ["told", "rays", "roof", "x", "y", "edges", "between", "least_at", "k", "z"]) (sc := fnScope s__law_rays_so) (by decide +kernel)) (fun _ _ _ _ _ => (pg_name (i := 3) nd rfl (Or.inl rfl))) (fun _ _ _ _ _ => pts_nil) (fun _ _ _ _ _ => (pe_cmpR (in_D (K := K) rfl (room65 hr)) (pv 3) (pv 1) (by with_unfolding_all rfl)))) pa_nil))))))) (pss_one 
      (ps_ret pe_bl)) pss_nil) (pss_cons 
      (ps_if (pt_not (pt_val (pe_callB (all_K (K := K) rfl rfl) (by rfl) T.all (by decide +kernel) (pa_cons (pe_lc (own := [("x", 3)]) rfl nd (pi_K (K := K) rfl (pv 0)) (blkOk_by (N := ["told", "rays", "roof", "x", "y", "edges", "between", "least_at", "k", "z"]) (sc := fnScope s__law_rays_so) (by decide +kernel)) (fun _ _ _ _ _ => (pg_name (i := 3) nd rfl (Or.inl rfl))) (fun _ _ _ _ _ => pts_nil) (fun _ _ _ _ _ => (pe_and (pe_c (c__law_tuple_of T) hr (by decide) (by rfl) (pa_cons (pv 3) (pa_cons pe_int pa_nil))) (pe_and (pe_c (c__law_is_number T) hr (by decide) (by rfl) (pa_cons (pe_ix (ix_K (K := K) rfl) (pv 3) pe_int (fun _ _ => rfl)) (pa_cons pe_int pa_nil))) (pe_one (pe_c (c__law_is_number T) hr (by decide) (by rfl) (pa_cons (pe_ix (ix_K (K := K) rfl) (pv 3) pe_int (fun _ _ => rfl)) (pa_cons pe_int pa_nil)))))))) pa_nil)))) (pss_one 
      (ps_ret pe_bl)) pss_nil) (pss_cons 
      (ps_if (pt_not (pt_val (pe_callB (all_K (K := K) rfl rfl) (by rfl) T.all (by decide +kernel) (pa_cons (pe_lc (own := [("k", 8)]) rfl nd (pi_range1 (by rfl) T.range (pa_cons (pe_op op_sub (pe_callB (len_K (K := K) rfl) (by rfl) T.len (by decide +kernel) (pa_cons (pv 0) pa_nil)) pe_int) pa_nil)) (blkOk_by (N := ["told", "rays", "roof", "x", "y", "edges", "between", "least_at", "k", "z"]) (sc := fnScope s__law_rays_so) (by decide +kernel)) (fun _ _ _ _ _ => (pg_name (i := 8) nd rfl (Or.inl rfl))) (fun _ _ _ _ _ => pts_nil) (fun _ _ _ _ _ => (pe_cmpR op_gtU (pe_ix (ix_K (K := K) rfl) (pe_ix (ix_K (K := K) rfl) (pv 0) (pv 8) (fun _ _ => rfl)) pe_int (fun _ _ => rfl)) (pe_ix (ix_K (K := K) rfl) (pe_ix (ix_K (K := K) rfl) (pv 0) (pe_op op_addU (pv 8) pe_int) (fun _ _ => rfl)) pe_int (fun _ _ => rfl)) (nomark _)))) pa_nil)))) (pss_one 
      (ps_ret pe_bl)) pss_nil) (pss_cons 
      (ps_asg (pe_c (c__law_settings T) hr (by decide) (by rfl) (pa_cons (pv 1) (pa_cons (pv 2) pa_nil))) (pg_lst (n := 2) rfl (pgs_cons (pg_name (i := 5) nd rfl (Or.inl rfl)) (pgs_cons (pg_name (i := 6) nd rfl (Or.inl rfl)) pgs_nil)))) (pss_cons 
      (ps_for PassesOwn.never rfl (pi_K (K := K) rfl (pe_op op_addU (pv 5) (pv 6))) (pg_name (i := 3) nd rfl (Or.inr rfl)) (pss_one 
      (ps_if (PW.pt (pw_or (pt_cmpR (eq_K (K := K) rfl hr) (pv 0) (pe_tup pa_nil) (nomark _)) (pw_or1 (pt_cmpR (ne_K (K := K) rfl hr) (pe_callB (cr_min rfl) (by rfl) T.min (by decide +kernel) (pa_cons (pe_lc (own := [("y", 4)]) rfl nd (pi_K (K := K) rfl (pv 0)) (blkOk_by (N := ["told", "rays", "roof", "x", "y", "edges", "between", "least_at", "k", "z"]) (sc := fnScope s__law_rays_so) (by decide +kernel)) (fun _ _ _ _ _ => (pg_name (i := 4) nd rfl (Or.inl rfl))) (fun _ _ _ _ _ => pts_nil) (fun _ _ _ _ _ => (pe_c (c__law_read_at T) hr (by decide) (by rfl) (pa_cons (pv 4) (pa_cons (pv 3) pa_nil))))) pa_nil)) (pe_callB (cr_min rfl) (by rfl) T.min (by decide +kernel) (pa_cons (pe_lc (own := [("y", 4)]) rfl nd (pi_K (K := K) rfl (pv 1)) (blkOk_by (N := ["told", "rays", "roof", "x", "y", "edges", "between", "least_at", "k", "z"]) (sc := fnScope s__law_rays_so) (by decide +kernel)) (fun _ _ _ _ _ => (pg_name (i := 4) nd rfl (Or.inl rfl))) (fun _ _ _ _ _ => pts_nil) (fun _ _ _ _ _ => (pe_c (c__law_read_at T) hr (by decide) (by rfl) (pa_cons (pv 4) (pa_cons (pv 3) pa_nil))))) pa_nil)) (nomark _))))) (pss_one 
      (ps_ret pe_bl)) pss_nil))) (pss_cons 
      (ps_for PassesOwn.never rfl (pi_K (K := K) rfl (pv 0)) (pg_name (i := 4) nd rfl (Or.inr rfl)) (pss_cons 
      (ps_set (i := 7) nd rfl (Or.inl rfl) (pe_lst pa_nil)) (pss_cons 
      (ps_for PassesOwn.never rfl (pi_K (K := K) rfl (pv 6)) (pg_name (i := 3) nd rfl (Or.inr rfl)) (pss_one 
      (ps_if (pt_cmpR op_gtU (pe_callB (cr_min rfl) (by rfl) T.min (by decide +kernel) (pa_cons (pe_op op_addU (pe_lc (own := [("z", 9)]) rfl nd (pi_K (K := K) rfl (pv 1)) (blkOk_by (N := ["told", "rays", "roof", "x", "y", "edges", "between", "least_at", "k", "z"]) (sc := fnScope s__law_rays_so) (by decide +kernel)) (fun _ _ _ _ _ => (pg_name (i := 9) nd rfl (Or.inl rfl))) (fun _ _ _ _ _ => (pts_one (pt_cmpR (ne_K (K := K) rfl hr) (pv 9) (pv 4) (nomark _)))) (fun _ _ _ _ _ => (pe_c (c__law_read_at T) hr (by decide) (by rfl) (pa_cons (pv 9) (pa_cons (pv 3) pa_nil))))) (pe_lst (pa_cons (pe_op op_addU (pe_c (c__law_read_at T) hr (by decide) (by rfl) (pa_cons (pv 4) (pa_cons (pv 3) pa_nil))) pe_int) pa_nil))) pa_nil)) (pe_c (c__law_read_at T) hr (by decide) (by rfl) (pa_cons (pv 4) (pa_cons (pv 3) pa_nil))) (nomark _)) (pss_one 
      (ps_expr (pe_bm PySem.F.plainAttrs_list PySem.F.slot_list_append PySem.F.type_list_append mt_append (pv 7) (pa_cons (pv 3) pa_nil)))) pss_nil))) (pss_one 
      (ps_if (pt_cmpR (eq_K (K := K) rfl hr) (pv 7) (pe_lst pa_nil) (nomark _)) (pss_one 
      (ps_ret pe_bl)) pss_nil))))) (pss_one 
      (ps_ret pe_bl)))))))), ?_⟩
  -- isinstance(told, tuple), all of them in rays
  refine ⟨_, rfl, .inl ⟨_, _, _, true, rfl, sqt_ty sA, by decide +kernel, _, rfl, iteF ?_⟩⟩
  refine ⟨_, rfl, .inr (.inl ⟨A1, rfl, ⟨_, sA⟩, fun D hD => ?_⟩)⟩
  refine lc_map (walk_tup (xs := xs)) (fun _ => .bl true) grow_at (by omega) hD (fun H1 e => same_tup e sA) ?_ ?_
  · rintro i y G1 G2 hi e ⟨rfl, g⟩ W kk
    obtain ⟨t, gt, tV⟩ := line_get (hx.mono e) g
    refine ⟨rfl, _, rfl, _, rfl, rowD (tol t), rays.map (fun r => rowD (tol r)), tV.dp, .lst (e.seq sR) ?_, shaped_ln t, shaped_lns rays, ?_⟩
    · have := hy.mono e
      unfold RowsV at this
      rw [List.map_map] at this
      exact this
    · rw [any_eqv, show (rays.any fun r => decide (r = t)) = true from List.any_eq_true.mpr ⟨t, sub t (List.mem_of_getElem? gt), decide_eq_true rfl⟩]
      exact kk _ (Same.refl _)
  intro H1 e1 hD1
  refine ⟨D, (List.range xs.length).map fun _ => true, rfl, SqL.of (by rw [hD1, List.map_map]; rfl), ?_⟩
  rw [all_true]
  refine ⟨_, rfl, iteF ?_⟩
  clear hD1 hD
  -- pairs of numbers
  refine ⟨_, rfl, .inr (.inl ⟨A1, rfl, ⟨_, same_tup e1 sA⟩, fun D hD => ?_⟩)⟩
  refine lc_map (walk_tup (xs := xs)) (fun _ => .bl true) grow_at (by omega) hD (fun H1 e => same_tup (e1.trans e) sA) ?_ ?_
  · rintro i y G1 G2 hi e ⟨rfl, g⟩ W kk
    obtain ⟨t, gt, ⟨U, rfl, sU⟩⟩ := line_get (hx.mono (e1.trans e)) g
    obtain ⟨b1, b2, b3, b4⟩ := bdL t (List.mem_of_getElem? gt)
    refine ⟨rfl, _, rfl, _, _, rfl, U, _, 2, rfl, sU, rfl, rfl, _, rfl, iteT ?_⟩
    refine ⟨_, rfl, .inr (.inl ⟨U, _, _, _, rfl, rfl, sU, at0, _, _, rfl, 0, any_int _, rfl, ?_⟩)⟩
    rw [show numB (.int t.1) 0 none = true by show (decide _ && true) = true; rw [decide_eq_true b1]; rfl]
    refine ⟨_, rfl, iteT ⟨_, rfl, .inr (.inl ⟨U, _, _, _, rfl, rfl, sU, at1, _, _, rfl, 0, any_int _, rfl, ?_⟩)⟩⟩
    rw [show numB (.int t.2) 0 none = true by show (decide _ && true) = true; rw [decide_eq_true b3]; rfl]
    exact kk _ (Same.refl _)
  intro H2 e2 hD2
  refine ⟨D, (List.range xs.length).map fun _ => true, rfl, SqL.of (by rw [hD2, List.map_map]; rfl), ?_⟩
  rw [all_true]
  refine ⟨_, rfl, iteF ?_⟩
  clear hD2 hD
  have e2 := e1.trans e2
  -- falling
  have fall : L.Pairwise Bf := by
    have := good_rows good
    rw [List.pairwise_reverse] at this
    exact this
  refine ⟨_, rfl, .inl ⟨A1, _, rfl, .inr (same_tup e2 sA), _, _, rfl, rfl, _, rfl, by omega, by omega, fun D hD => ?_⟩⟩
  rw [show ((xs.length : Int) - 1).toNat = xs.length - 1 by omega]
  refine lc_map (walk_range (n := xs.length - 1)) (fun _ => .bl true) grow_fn (by omega) hD (fun H e => trivial) ?_ ?_
  · rintro i y G1 G2 hi e ⟨rfl, hx1⟩ W kk
    have hx1 : y = V.int (i : Nat) := hx1.trans (congrArg V.int (Int.zero_add _))
    subst hx1
    have g1 : xs[i]? = some xs[i] := List.getElem?_eq_getElem (by omega)
    have g2 : xs[i + 1]? = some xs[i + 1] := List.getElem?_eq_getElem (by omega)
    obtain ⟨t, gt, ⟨U, eU, sU⟩⟩ := line_get (hx.mono (e2.trans e)) g1
    obtain ⟨u, gu, ⟨U2, eU2, sU2⟩⟩ := line_get (hx.mono (e2.trans e)) g2
    rw [eU] at g1
    rw [eU2] at g2
    have bf : Bf t u := by
      obtain ⟨h1, rfl⟩ := List.getElem?_eq_some_iff.mp gt
      obtain ⟨h2, rfl⟩ := List.getElem?_eq_some_iff.mp gu
      exact List.pairwise_iff_getElem.mp fall i (i + 1) h1 h2 (Nat.lt_succ_self i)
    refine ⟨rfl, _, rfl, _, rfl, .inr (.inl ⟨A1, _, _, _, rfl, rfl, same_tup (e2.trans e) sA, atI_nat g1, .inr (.inl ⟨U, _, _, _, rfl, rfl, sU, at1, ?_⟩)⟩)⟩
    refine ⟨_, rfl, _, rfl, .inl ⟨_, _, rfl, rfl, .inr (.inl ⟨A1, _, _, _, rfl, rfl, same_tup (e2.trans e) sA, (show atI xs ((i : Int) + 1) = some (.ref U2) from atI_nat (j := i + 1) g2), .inr (.inl ⟨U2, _, _, _, rfl, rfl, sU2, at1, _, _, rfl, rfl, ?_⟩)⟩)⟩⟩
    show W (.bl (decide (u.2 < t.2))) _
    rw [decide_eq_true bf.2]
    exact kk _ (Same.refl _)
  intro H3 e3 hD3
  refine ⟨D, (List.range (xs.length - 1)).map fun _ => true, rfl, SqL.of (by rw [hD3, List.map_map]; rfl), ?_⟩
  rw [all_true]
  refine ⟨_, rfl, iteF ?_⟩
  clear hD3 hD
  have e3 := e2.trans e3
  -- the settings
  refine ⟨_, rfl, _, rfl, _, _, rfl, R, ys, rays, roof, rfl, e3.seq sR, hy.mono e3, bd, hl, rfl, r0, r1, fun H4 D E B es bs F ps e4 hDl hE hB PL re rb lp => ?_⟩
  refine ⟨D, _, rfl, SqL.of hDl, rfl, _, _, rfl, _, _, rfl, rfl, ?_⟩
  have e4 := e3.trans e4
  have F0 := PL.fp
  have les := re.len
  have lbs := rb.len
  rw [List.length_map] at les
  rw [List.length_map, List.length_range] at lbs
  have inE : ∀ l ∈ ps.map (fun p => [p, F]), SetAt roof l := fun l h => by
    obtain ⟨p, hp, rfl⟩ := List.mem_map.mp h
    obtain ⟨p0, p1⟩ := PL.inn p hp
    exact ⟨p, F, rfl, p0, F0, p1⟩
  have inB : ∀ l ∈ (List.range (ps.length - 1)).map (fun k => [ps.getD k 0 + ps.getD (k + 1) 0, F * 2]), SetAt roof l := fun l h => by
    obtain ⟨k, hk, rfl⟩ := List.mem_map.mp h
    have hk := List.mem_range.mp hk
    have m1 : ps.getD k 0 ∈ ps := by
      rw [List.getD_eq_getElem?_getD, List.getElem?_eq_getElem (by omega)]
      exact List.getElem_mem _
    have m2 : ps.getD (k + 1) 0 ∈ ps := by
      rw [List.getD_eq_getElem?_getD, List.getElem?_eq_getElem (by omega)]
      exact List.getElem_mem _
    obtain ⟨a0, a1⟩ := PL.inn _ m1
    obtain ⟨b0, b1⟩ := PL.inn _ m2
    refine ⟨_, _, rfl, by omega, by omega, ?_⟩
    rw [← Int.mul_assoc]
    omega
  -- for x in edges + between
  refine ⟨_, rfl, _, rfl, .inr (.inr ⟨E, B, es, bs, rfl, rfl, hE, hB, size5' (by omega), fun Z hZ => .inl ⟨Z, rfl, ⟨_, SqL.of upd_same⟩, ?_⟩⟩)⟩
  have e5 := e4.trans (grow (o := .lst (es ++ bs)) hZ)
  have hZ1 := upd_same (H := H4) (a := Z) (o := .lst (es ++ bs))
  have rows := (re.mono (grow (o := .lst (es ++ bs)) hZ)).app (rb.mono (grow (o := .lst (es ++ bs)) hZ))
  have hB5 := (grow (o := .lst (es ++ bs)) hZ) _ _ hB
  have rb5 := rb.mono (grow (o := .lst (es ++ bs)) hZ)
  generalize upd H4 Z _ = H5 at e5 hZ1 rows hB5 rb5
  refine for_it (walk_list (xs := es ++ bs)) (fun i σ H' => Same H5 H' ∧ ∃ y3 y4 y7 y8 y9, σ = [some (.ref A1), some (.ref R), some (.int roof), y3, y4, some (.ref E), some (.ref B), y7, y8, y9])
    ⟨Same.refl _, _, _, _, _, _, rfl⟩ (fun i σ H' _ ⟨e, _⟩ => SqL.of (e _ _ hZ1)) ?_ ?_
  · rintro i x σ G0 G1 hi ⟨e, y3, y4, y7, y8, y9, rfl⟩ ⟨rfl, g⟩
    obtain ⟨l, gl, xV⟩ := (rows.mono e).get g
    obtain ⟨n, d, rfl, n0, d0, nd1⟩ : SetAt roof l := by
      rcases List.mem_append.mp (List.mem_of_getElem? gl) with h | h
      · exact inE l h
      · exact inB l h
    have eg := e5.trans e
    refine ⟨_, rfl, Nat.zero_le _, fun t0 nt0 => .inr ⟨.tuple (L.map fun t => rowD (tol t)), .tuple [], .tup (same_tup (eg.trans (grow nt0)) sA) ?_, .tup (SqT.of upd_same) .nil, ?_, _, rfl, ?_⟩⟩
    · have := hx.mono (eg.trans (grow (o := .tup []) nt0))
      unfold RowsV at this
      rw [List.map_map] at this
      exact this
    · have := depthAll_ln L
      simp only [PyData.depth, PyData.depthAll]
      omega
    rw [show PyData.eqv (.tuple (L.map fun t => rowD (tol t))) (.tuple []) = false by
      cases L with
      | nil => exact absurd rfl ne
      | cons t r => rfl]
    refine iteF ?_
    have eg := eg.trans (grow (o := .tup []) nt0)
    have xV := xV.mono (grow (o := .tup []) nt0)
    have e := e.trans (grow (o := .tup []) nt0)
    generalize upd G1 t0 _ = G2 at eg xV e
    -- the least of told
    refine ⟨_, rfl, .inr (.inl ⟨A1, rfl, ⟨_, same_tup eg sA⟩, fun D hD => ?_⟩)⟩
    refine lc_map (walk_tup (xs := xs)) (fun m => .int (vA (L.getD m (0, 0)) n d)) grow_at (by omega) hD (fun H1 e => same_tup (eg.trans e) sA) ?_ ?_
    · rintro m z A2 A3 hm e2 ⟨rfl, g3⟩ W kk
      obtain ⟨t, gt, tV⟩ := line_get (hx.mono (eg.trans e2)) g3
      have kk := kk _ (Same.refl _)
      rw [getD_of gt] at kk
      exact ⟨rfl, _, rfl, _, rfl, _, _, rfl, t, n, d, tV, xV.mono e2, bdL t (List.mem_of_getElem? gt), kk⟩
    intro G3 e6 hDG
    rw [lx, map_range_get (0, 0) (fun t => V.int (vA t n d)) L] at hDG
    refine ⟨D, L.map fun t => vA t n d, rfl, SqL.of (by rw [hDG, List.map_map]; rfl), by rw [List.length_map]; exact lpos, fun m1 i1 l1 => ?_⟩
    -- the least of rays
    have eg := eg.trans e6
    have e := e.trans e6
    have xV := xV.mono e6
    refine ⟨_, rfl, .inl ⟨R, rfl, ⟨_, eg.seq sR⟩, fun D2 hD2 => ?_⟩⟩
    refine lc_map (walk_list (xs := ys)) (fun m => .int (vA (rays.getD m (0, 0)) n d)) grow_at (by omega) hD2 (fun H1 e => (eg.trans e).seq sR) ?_ ?_
    · rintro m z A2 A3 hm e2 ⟨rfl, g3⟩ W kk
      obtain ⟨t, gt, tV⟩ := line_get (hy.mono (eg.trans e2)) g3
      have kk := kk _ (Same.refl _)
      rw [getD_of gt] at kk
      exact ⟨rfl, _, rfl, _, rfl, _, _, rfl, t, n, d, tV, xV.mono e2, bd t (List.mem_of_getElem? gt), kk⟩
    intro G4 e7 hDG2
    rw [ly, map_range_get (0, 0) (fun t => V.int (vA t n d)) rays] at hDG2
    refine ⟨D2, rays.map fun t => vA t n d, rfl, SqL.of (by rw [hDG2, List.map_map]; rfl), by rw [List.length_map]; exact rpos, fun m2 i2 l2 => ?_⟩
    refine .inl ⟨rfl, _, rfl, ?_⟩
    rw [least_same (f := fun t => vA t n d) sub (fun q hq => cov n d n0 d0 nd1 q hq) i1 l1 i2 l2]
    rw [decide_eq_true rfl]
    exact iteF ⟨e.trans e7, _, _, _, _, _, rfl⟩
  rintro σ H6 ⟨e6, y3, y4, y7, y8, y9, rfl⟩
  have e6' := e5.trans e6
  -- for y in told
  refine ⟨_, rfl, .inr (.inl ⟨A1, rfl, ⟨_, same_tup e6' sA⟩, ?_⟩)⟩
  refine for_it (walk_tup (xs := xs)) (fun i σ H' => Same H6 H' ∧ ∃ y3 y4 y7 y8 y9, σ = [some (.ref A1), some (.ref R), some (.int roof), y3, y4, some (.ref E), some (.ref B), y7, y8, y9])
    ⟨Same.refl _, _, _, _, _, _, rfl⟩ (fun i σ H' _ ⟨e, _⟩ => same_tup (e6'.trans e) sA) ?_ ?_
  · rintro i y σ G0 G1 hi ⟨e, y3, y4, y7, y8, y9, rfl⟩ ⟨rfl, g⟩
    have eg := e6'.trans e
    obtain ⟨t, gt, tV⟩ := line_get (hx.mono eg) g
    have tL := List.mem_of_getElem? gt
    have tb := bdL t tL
    obtain ⟨kk0, hk1, hk2⟩ := alone PL (show 0 < roof by omega) good (fun u hu => sub u (List.mem_reverse.mp hu)) (fun n d n0 d0 le q hq => by
      obtain ⟨u, hu, le2⟩ := cov n d n0 d0 le q hq
      exact ⟨u, List.mem_reverse.mpr hu, le2⟩) (t := t) (List.mem_reverse.mpr tL)
    refine ⟨Nat.zero_le _, fun q nq => ?_⟩
    have nqE := nq
    refine ⟨_, rfl, .inl ⟨B, rfl, ⟨_, SqL.of (((e6.trans e).trans (grow nq)) _ _ hB5)⟩, ?_⟩⟩
    have eB : Same H5 G1 := e6.trans e
    refine for_it (walk_list (xs := bs)) (fun j σ H' => Same G1 H' ∧ (∃ us ls, H' q = some (.lst us) ∧ RowsV K H' us ls ∧ us.length ≤ j ∧ (kk0 < j → us ≠ [])) ∧ ∃ y3 y8 y9, σ = [some (.ref A1), some (.ref R), some (.int roof), y3, some y, some (.ref E), some (.ref B), some (.ref q), y8, y9])
      ⟨grow nq, ⟨[], [], upd_same, .nil, Nat.le_refl _, fun h => absurd h (Nat.not_lt_zero _)⟩, _, _, _, rfl⟩ (fun j σ H' _ ⟨e, _⟩ => SqL.of ((eB.trans e) _ _ hB5)) ?_ ?_
    · rintro j x σ A2 A3 hj ⟨e7, ⟨us, ls, hq, hu, lu, nu⟩, y3, y8, y9, rfl⟩ ⟨rfl, g2⟩
      obtain ⟨l, gl, xV⟩ := (rb5.mono (eB.trans e7)).get g2
      obtain ⟨n, d, el, n0, d0, nd1⟩ : SetAt roof l := inB l (List.mem_of_getElem? gl)
      have el2 : l = [ps.getD j 0 + ps.getD (j + 1) 0, F * 2] := by
        rw [List.getElem?_map, List.getElem?_range (by omega)] at gl
        exact (Option.some.inj gl).symm
      subst el
      have eg2 := eg.trans e7
      have tV2 := tV.mono e7
      -- [.. for z in rays if z != y]
      refine ⟨_, rfl, .inl ⟨R, rfl, ⟨_, eg2.seq sR⟩, fun D hD => ?_⟩⟩
      refine lc_filt (walk_list (xs := ys)) (fun m => !decide (rays.getD m (0, 0) = t)) (fun m => .int (vA (rays.getD m (0, 0)) n d)) grow_at (by omega) hD (fun H1 e => (eg2.trans e).seq sR) ?_ ?_
      · rintro m z B1 B2 hm e2 ⟨rfl, g3⟩ Fk W kk kf
        obtain ⟨r, gr, rV⟩ := line_get (hy.mono (eg2.trans e2)) g3
        have kk := kk _ (Same.refl _)
        have kf := kf _ (Same.refl _)
        rw [getD_of gr] at kk kf
        refine ⟨rfl, _, rfl, _, rfl, .inr ⟨rowD (tol r), rowD (tol t), rV.dp, (tV2.mono e2).dp, by rw [depth_ln, depth_ln]; decide, _, rfl, ?_⟩⟩
        rw [eqv_ln]
        by_cases c : r = t
        · rw [decide_eq_true c]
          refine iteF ?_
          exact kf (by rw [decide_eq_true c]; rfl)
        · rw [decide_eq_false c]
          refine iteT ?_
          exact ⟨_, rfl, _, rfl, _, _, rfl, r, n, d, rV, xV.mono e2, bd r (List.mem_of_getElem? gr), kk (by rw [decide_eq_false c]; rfl)⟩
      intro B1 e8 hDG
      refine ⟨_, rfl, _, rfl, _, _, rfl, t, n, d, tV2.mono e8, xV.mono e8, tb, .inl ⟨_, _, rfl, rfl, Nat.le_of_ble_eq_true rfl, fun L1 nL1 => ?_⟩⟩
      have len1 : (((List.range ys.length).filter fun m => !decide (rays.getD m (0, 0) = t)).map fun m => V.int (vA (rays.getD m (0, 0)) n d)).length ≤ 100 := by
        rw [List.length_map]
        refine Nat.le_trans (List.length_filter_le _ _) ?_
        rw [List.length_range]
        omega
      refine .inr (.inr ⟨D, L1, _, _, rfl, rfl, (grow nL1) _ _ hDG, upd_same, size5' (Nat.le_trans (Nat.add_le_add_right len1 1) (by decide)), fun Z nZ => ?_⟩)
      have e9 := e8.trans ((grow (o := .lst [.int (vA t n d + 1)]) nL1).trans (grow (o := .lst ((((List.range ys.length).filter fun m => !decide (rays.getD m (0, 0) = t)).map fun m => V.int (vA (rays.getD m (0, 0)) n d)) ++ [.int (vA t n d + 1)])) nZ))
      refine ⟨Z, ((List.range ys.length).filter fun m => !decide (rays.getD m (0, 0) = t)).map (fun m => vA (rays.getD m (0, 0)) n d) ++ [vA t n d + 1], rfl, SqL.of (by rw [upd_same, List.map_append, List.map_map]; rfl), by rw [List.length_append]; exact Nat.succ_pos _, fun m hm _ => ?_⟩
      refine ⟨_, rfl, _, rfl, _, _, rfl, t, n, d, tV2.mono e9, xV.mono e9, tb, _, _, rfl, rfl, _, rfl, ite2 (fun c => ?_) (fun c => ?_)⟩
      · have hq2 := e9 _ _ hq
        refine ⟨_, rfl, .inl ⟨rfl, _, SqL.of hq2⟩, _, rfl, q, us, _, rfl, rfl, hq2, size5 (by omega), ?_⟩
        refine ⟨same_mut (e7.trans e9) nq, ⟨us ++ [x], ls ++ [[n, d]], upd_same, ((hu.mono e9).upd hq2).snoc (tupI_upd hq2 (xV.mono e9)), ?_, fun _ h => ?_⟩, _, _, _, rfl⟩
        · rw [List.length_append]
          exact Nat.succ_le_succ lu
        · have := congrArg List.length h
          rw [List.length_append] at this
          exact absurd this (Nat.succ_ne_zero _)
      · refine ⟨e7.trans e9, ⟨us, ls, e9 _ _ hq, hu.mono e9, by omega, fun h => ?_⟩, _, _, _, rfl⟩
        rcases Nat.lt_or_ge kk0 j with h2 | h2
        · exact nu h2
        · have ej : j = kk0 := by omega
          subst ej
          exfalso
          refine c (decide_eq_true ?_)
          have en : n = ps.getD j 0 + ps.getD (j + 1) 0 := (List.cons.inj el2).1
          have ed : d = F * 2 := (List.cons.inj (List.cons.inj el2).2).1
          rcases List.mem_append.mp hm with hm | hm
          · obtain ⟨m', hm', rfl⟩ := List.mem_map.mp hm
            obtain ⟨hr1, hr2⟩ := List.mem_filter.mp hm'
            have hr1 := List.mem_range.mp hr1
            have mem : rays.getD m' (0, 0) ∈ rays := by
              rw [List.getD_eq_getElem?_getD, List.getElem?_eq_getElem (by omega)]
              exact List.getElem_mem _
            have ne2 : rays.getD m' (0, 0) ≠ t := fun z => by
              rw [decide_eq_true z] at hr2
              cases hr2
            rw [en, ed]
            exact hk2 _ mem ne2
          · rw [List.mem_singleton.mp hm]
            omega
    · rintro σ A2 ⟨e7, ⟨us, ls, hq, hu, lu, nu⟩, y3, y8, y9, rfl⟩
      have nu := nu (by omega)
      refine ⟨_, rfl, Nat.zero_le _, fun L1 nL1 => .inr ⟨.list (ls.map rowD), .list [], .lst (SqL.of ((grow nL1) _ _ hq)) (hu.mono (grow nL1)), .lst (SqL.of upd_same) .nil, ?_, _, rfl, ?_⟩⟩
      · have : ∀ l : List (List Int), PyData.depthAll (l.map rowD) ≤ 1 := by
          intro l
          induction l with
          | nil => simp [PyData.depthAll]
          | cons r l ih =>
            simp only [List.map_cons, PyData.depthAll]
            refine Nat.max_le.mpr ⟨?_, ih⟩
            unfold rowD
            simp only [PyData.depth]
            have : ∀ z : List Int, PyData.depthAll (z.map .int) = 0 := by
              intro z
              induction z with
              | nil => rfl
              | cons a z ih => simp [PyData.depthAll, PyData.depth, ih]
            rw [this]
            exact Nat.le_refl _
        have := this ls
        simp only [PyData.depth, PyData.depthAll]
        omega
      · rw [show PyData.eqv (.list (ls.map rowD)) (.list []) = false by
          cases ls with
          | nil => exact absurd (List.eq_nil_of_length_eq_zero hu.len) nu
          | cons r l => rfl]
        exact iteF ⟨(e.trans e7).trans (grow nL1), _, _, _, _, _, rfl⟩
  rintro σ H7 ⟨e7, y3, y4, y7, y8, y9, rfl⟩
  exact k _ (e6'.trans e7)

end
end Fb

set_option Elab.async false
set_option linter.all false
set_option maxRecDepth 100000
set_option maxHeartbeats 4000000
namespace Fb
open PySem PySem.Spec L2
open PyProof.Rows hiding St
open C8 (Cal Met Mak Def cal0 met0 mak0 pe_c pe_mk pe_mt pe_mt0 fnScope fnBody fnArgs pss_cut tCut)
local macro_rules | `(tactic| walk_at "hp") => `(tactic| first | exact upd_same | assumption | (refine grow (by assumption) _ _ ?_; walk_at "hp") | (refine (show Same _ _ by assumption) _ _ ?_; walk_at "hp"))
local macro_rules | `(tactic| walk_at "sm") => `(tactic| first | exact Same.refl _ | assumption | (refine Same.trans ?_ (grow (by assumption)); walk_at "sm") | (refine Same.trans ?_ (show Same _ _ by assumption); walk_at "sm"))
section
variable {P : Program} {w : World} {K : PySem.W.Frag} {mg : Str → Option Value} {base : Heap}
variable {CH : Addr}
/-! ### Dial.best -/
def spDBest (K : PySem.W.Frag) (CH : Addr) : Sp := sp3 fun a b c H Q => ∃ (p : Addr) (top : Int) (one two : List Ln), a = .ref p ∧ DialAt CH H p top ∧ Dp K H b (lnD (some one)) ∧ Dp K H c (lnD (some two)) ∧ (∀ r ∈ one ++ two, BdL r) ∧ (one ++ two).length ≤ 1000 ∧ one ≠ [] ∧
  ∀ H' v, Same H H' → Dp K H' v (lnD (lowestM top (one ++ two))) → Q v H'
theorem c_Dial_best (T : Top K mg CH) : Met P w K mg base 5 CH "best" (spDBest K CH) [] := by
  obtain ⟨f, fd, me, F, df⟩ := T.d_Dial_best
  refine ⟨f, fd, ["self", "one", "other"], [], T.cl_Dial, me, ?_, F.binds df fun _ _ _ _ _ _ us hl => match us, hl with | [_, _, _], _ => rfl, .nil⟩
  refine fm3 F sc_Dial_best fun cdv A outer s H a b c Q E hr h => ?_
  have nd := sc_Dial_best.nd
  obtain ⟨p, top, one, two, rfl, ⟨dx, st, hp⟩, h1, h2, bd, hl, hne, k⟩ := h
  obtain ⟨A1, xs, rfl, s1, r1⟩ := ln_tup h1
  obtain ⟨A2, ys, rfl, s2, r2⟩ := ln_tup h2
  refine ⟨_, (pss_cons 
      (ps_if (pt_cmpR op_isN (pv 1) pe_non (nomark _)) (pss_one 
      (ps_ret (pv 2))) pss_nil) (pss_cons 
      (ps_if (pt_cmpR op_isN (pv 2) pe_non (nomark _)) (pss_one 
      (ps_ret (pv 1))) pss_nil) (pss_one 
      (ps_ret (pe_c (c_lowest_lines T) hr (by decide) (by rfl) (pa_cons (pe_op (op_catT_K (K := K) rfl) (pv 1) (pv 2)) (pa_cons (pe_fld (pv 0) rfl) pa_nil))))))), ?_⟩
  refine ⟨_, rfl, rfl, _, rfl, iteF ⟨_, rfl, rfl, _, rfl, iteF ?_⟩⟩
  refine ⟨_, rfl, _, rfl, A1, A2, xs, ys, rfl, rfl, s1, s2, ?_, ?_, ?_, ?_⟩
  · intro e
    have := r1.len
    rw [e, List.length_map] at this
    exact hne (List.eq_nil_of_length_eq_zero this.symm)
  · have l1 := r1.len
    have l2 := r2.len
    rw [List.length_map] at l1 l2
    rw [List.length_append] at hl
    exact size5' (by omega)
  · intro e
    subst e
    have l2 := r2.len
    rw [List.length_map] at l2
    have : two = [] := List.eq_nil_of_length_eq_zero l2.symm
    subst this
    rw [List.append_nil] at bd hl k
    exact ⟨_, rfl, p, CH, dx, _, _, rfl, hp, T.cl_Dial, T.na_top, dfl_top _ _, _, _, rfl, A1, xs, one, top, rfl, .inr s1, r1, bd, hl, rfl, k⟩
  · intro _ c nc
    have e := grow (o := .tup (xs ++ ys)) nc
    refine ⟨_, rfl, p, CH, dx, _, _, rfl, e _ _ hp, T.cl_Dial, T.na_top, dfl_top _ _, _, _, rfl, c, xs ++ ys, one ++ two, top, rfl, .inr (SqT.of upd_same), ?_, bd, hl, rfl, fun H' v e2 hv => k H' v (e.trans e2) hv⟩
    rw [List.map_append]
    exact (r1.mono e).app (r2.mono e)

end
end Fb

set_option Elab.async false
set_option linter.all false
set_option maxRecDepth 100000
set_option maxHeartbeats 4000000
namespace Fb
open PySem PySem.Spec L2
open PyProof.Rows hiding St
open C8 (Cal Met Mak Def cal0 met0 mak0 pe_c pe_mk pe_mt pe_mt0 fnScope fnBody fnArgs pss_cut tCut)
local macro_rules | `(tactic| walk_at "hp") => `(tactic| first | exact upd_same | assumption | (refine grow (by assumption) _ _ ?_; walk_at "hp") | (refine (show Same _ _ by assumption) _ _ ?_; walk_at "hp"))
local macro_rules | `(tactic| walk_at "sm") => `(tactic| first | exact Same.refl _ | assumption | (refine Same.trans ?_ (grow (by assumption)); walk_at "sm") | (refine Same.trans ?_ (show Same _ _ by assumption); walk_at "sm"))
section
variable {P : Program} {w : World} {K : PySem.W.Frag} {mg : Str → Option Value} {base : Heap}
variable {CH : Addr}
/-! ### _law_pairs -/
def spPairs (K : PySem.W.Frag) : Sp := sp2 fun a b H Q => ∃ (A B : Addr) (xs ys : List V), a = .ref A ∧ SqT K H A xs ∧ b = .ref B ∧ SqT K H B ys ∧ xs.length ≤ 100 ∧ ys.length ≤ 100 ∧
  ∀ (H' : Hp) (D : Addr) (us : List V), Same H H' → H' D = some (.lst us) → PairsV H' us (prodV xs ys) → Q (.ref D) H'
theorem prod_len (xs ys : List V) : (prodV xs ys).length = xs.length * ys.length := by
  unfold prodV
  rw [List.length_flatMap]
  simp [List.map_const', List.sum_replicate_nat]
theorem c__law_pairs (T : Top K mg CH) : Cal P w K mg base 1 "_law_pairs" (spPairs K) [] := by
  obtain ⟨f, fd, F, df⟩ := T.d__law_pairs
  refine cal_of F df (fn2 F sc__law_pairs fun cdv A outer s H a b Q E hr h => ?_) fun _ _ _ _ _ _ us hl => match us, hl with | [_, _], _ => rfl
  have nd := sc__law_pairs.nd
  obtain ⟨A1, B1, xs, ys, rfl, ha, rfl, hb, la, lb, k⟩ := h
  refine ⟨_, (pss_cons 
      (ps_set (i := 2) nd rfl (Or.inl rfl) (pe_lst pa_nil)) (pss_cons 
      (ps_for PassesOwn.never rfl (pi_K (K := K) rfl (pv 0)) (pg_name (i := 3) nd rfl (Or.inl rfl)) (pss_one 
      (ps_for PassesOwn.never rfl (pi_K (K := K) rfl (pv 1)) (pg_name (i := 4) nd rfl (Or.inl rfl)) (pss_one 
      (ps_expr (pe_bm PySem.F.plainAttrs_list PySem.F.slot_list_append PySem.F.type_list_append mt_append (pv 2) (pa_cons (pe_tup (pa_cons (pv 3) (pa_cons (pv 4) pa_nil))) pa_nil))))))) (pss_one 
      (ps_ret (pv 2))))), ?_⟩
  refine ⟨Nat.le_of_ble_eq_true rfl, fun q nq => ?_⟩
  have e0 := grow (o := .lst []) nq
  have bound : ∀ i j, i ≤ xs.length → j ≤ ys.length → i * ys.length + j ≤ 20000 := fun i j h1 h2 => by
    have := Nat.mul_le_mul (Nat.le_trans h1 la) lb
    omega
  refine ⟨_, rfl, .inr (.inl ⟨A1, rfl, ⟨_, same_tup e0 ha⟩, ?_⟩)⟩
  refine for_it (walk_tup (xs := xs)) (fun i σ H' => Same H H' ∧ (∃ us, H' q = some (.lst us) ∧ PairsV H' us (prodV (xs.take i) ys)) ∧ ∃ y3 y4, σ = [some (.ref A1), some (.ref B1), some (.ref q), y3, y4])
    ⟨e0, ⟨[], upd_same, ⟨rfl, fun i u h => by cases h⟩⟩, _, _, rfl⟩ (fun i σ H' _ ⟨e, _⟩ => same_tup e ha) ?_ ?_
  · rintro i x σ H1 H2 hi ⟨e, ⟨us, hq, pu⟩, y3, y4, rfl⟩ ⟨rfl, g⟩
    refine ⟨_, rfl, .inr (.inl ⟨B1, rfl, ⟨_, same_tup e hb⟩, ?_⟩)⟩
    refine for_it (walk_tup (xs := ys)) (fun j σ H' => Same H H' ∧ (∃ us, H' q = some (.lst us) ∧ PairsV H' us (prodV (xs.take i) ys ++ (ys.take j).map fun y => (x, y))) ∧ ∃ y4, σ = [some (.ref A1), some (.ref B1), some (.ref q), some x, y4])
      ⟨e, ⟨us, hq, by rw [List.take_zero, List.map_nil, List.append_nil]; exact pu⟩, _, rfl⟩ (fun i σ H' _ ⟨e, _⟩ => same_tup e hb) ?_ ?_
    · rintro j y σ H3 H4 hj ⟨e, ⟨us, hq, pu⟩, y4, rfl⟩ ⟨rfl, g2⟩
      refine ⟨_, rfl, .inl ⟨rfl, _, SqL.of hq⟩, _, rfl, _, rfl, Nat.le_of_ble_eq_true rfl, fun t nt => ?_⟩
      have hq3 := (grow (o := .tup [x, y]) nt) _ _ hq
      have lu : us.length ≤ 20000 := by
        rw [pu.1, List.length_append, prod_len, List.length_map, List.length_take, List.length_take]
        exact Nat.le_trans (Nat.add_le_add (Nat.mul_le_mul_right _ (Nat.min_le_right _ _)) (Nat.min_le_right _ _)) (bound _ _ (Nat.le_refl _) (Nat.le_refl _))
      refine ⟨q, us, _, rfl, rfl, hq3, size5 (by omega), ?_⟩
      have ntq : t ≠ q := fun z => by
        rw [z, hq] at nt
        cases nt
      refine ⟨same_mut (e.trans (grow nt)) nq, ⟨us ++ [.ref t], upd_same, ?_⟩, _, rfl⟩
      rw [map_take g2, ← List.append_assoc]
      exact ((pu.mono (grow nt)).upd hq3).snoc (by rw [upd_ne ntq, upd_same])
    · rintro σ H3 ⟨e, ⟨us, hq, pu⟩, y4, rfl⟩
      refine ⟨e, ⟨us, hq, ?_⟩, _, _, rfl⟩
      rw [prod_take g]
      rw [List.take_length] at pu
      exact pu
  · rintro σ H1 ⟨e, ⟨us, hq, pu⟩, y3, y4, rfl⟩
    rw [List.take_length] at pu
    exact ⟨_, rfl, k H1 q us e hq pu⟩

end
end Fb

set_option Elab.async false
set_option linter.all false
set_option maxRecDepth 100000
set_option maxHeartbeats 4000000
namespace Fb
open PySem PySem.Spec L2
open PyProof.Rows hiding St
open C8 (Cal Met Mak Def cal0 met0 mak0 pe_c pe_mk pe_mt pe_mt0 fnScope fnBody fnArgs pss_cut tCut)
local macro_rules | `(tactic| walk_at "hp") => `(tactic| first | exact upd_same | assumption | (refine grow (by assumption) _ _ ?_; walk_at "hp") | (refine (show Same _ _ by assumption) _ _ ?_; walk_at "hp"))
local macro_rules | `(tactic| walk_at "sm") => `(tactic| first | exact Same.refl _ | assumption | (refine Same.trans ?_ (grow (by assumption)); walk_at "sm") | (refine Same.trans ?_ (show Same _ _ by assumption); walk_at "sm"))
section
variable {P : Program} {w : World} {K : PySem.W.Frag} {mg : Str → Option Value} {base : Heap}
variable {CH : Addr}
/-! ### Dial.then -/
def spDThen (K : PySem.W.Frag) (CH : Addr) : Sp := sp3 fun a b c H Q => ∃ (p : Addr) (top : Int) (one two : List Ln), a = .ref p ∧ DialAt CH H p top ∧ Dp K H b (lnD (some one)) ∧ Dp K H c (lnD (some two)) ∧ (∀ r ∈ sumsM one two, BdL r) ∧ one.length ≤ 30 ∧ two.length ≤ 30 ∧
  ∀ H' v, Same H H' → Dp K H' v (lnD (lowestM top (sumsM one two))) → Q v H'
theorem c_Dial_then (T : Top K mg CH) : Met P w K mg base 5 CH "then" (spDThen K CH) [] := by
  obtain ⟨f, fd, me, F, df⟩ := T.d_Dial_then
  refine ⟨f, fd, ["self", "one", "other"], [], T.cl_Dial, me, ?_, F.binds df fun _ _ _ _ _ _ us hl => match us, hl with | [_, _, _], _ => rfl, .nil⟩
  refine fm3 F sc_Dial_then fun cdv A outer s H a b c Q E hr h => ?_
  have nd := sc_Dial_then.nd
  obtain ⟨p, top, one, two, rfl, ⟨dx, st, hp⟩, h1, h2, bd, hl1, hl2, k⟩ := h
  obtain ⟨A1, xs, rfl, s1, r1⟩ := ln_tup h1
  obtain ⟨A2, ys, rfl, s2, r2⟩ := ln_tup h2
  have l1 := r1.len
  have l2 := r2.len
  rw [List.length_map] at l1 l2
  have bound : ∀ i j, i ≤ one.length → j ≤ two.length → i * two.length + j ≤ 1000 := fun i j h1 h2 => by
    have := Nat.mul_le_mul (Nat.le_trans h1 hl1) hl2
    omega
  refine ⟨_, (pss_cons 
      (ps_if (PW.pt (pw_or (pt_cmpR op_isN (pv 1) pe_non (nomark _)) (pw_or1 (pt_cmpR op_isN (pv 2) pe_non (nomark _))))) (pss_one 
      (ps_ret pe_non)) pss_nil) (pss_one 
      (ps_ret (pe_c (c_lowest_lines T) hr (by decide) (by rfl) (pa_cons (pe_lc2 (own := [("a", 3), ("b", 4), ("more", 5), ("steeper", 6)]) (vs1 := [5, 6]) rfl nd (pi_K (K := K) rfl (pv 1)) (blkOk_by (N := ["self", "one", "other", "a", "b", "more", "steeper"]) (sc := fnScope s_Dial_then) (by decide +kernel)) (by decide) (fun _ _ _ _ _ => (tup_K (K := K) (n := 2) rfl rfl (pgs_cons (pg_name (i := 3) nd rfl (Or.inl rfl)) (pgs_cons (pg_name (i := 4) nd rfl (Or.inl rfl)) pgs_nil)))) (fun _ _ _ _ _ => pts_nil) (fun _ _ _ _ _ => (pi_K (K := K) rfl (pv 2))) (fun _ _ _ _ _ => (tup_K (K := K) (n := 2) rfl rfl (pgs_cons (pg_name (i := 5) nd rfl (Or.inl rfl)) (pgs_cons (pg_name (i := 6) nd rfl (Or.inl rfl)) pgs_nil)))) (fun _ _ _ _ _ => pts_nil) (fun _ _ _ _ _ => (pe_tup (pa_cons (pe_op op_addU (pv 3) (pv 5)) (pa_cons (pe_op op_addU (pv 4) (pv 6)) pa_nil))))) (pa_cons (pe_fld (pv 0) rfl) pa_nil)))))), ?_⟩
  refine ⟨_, rfl, rfl, _, rfl, iteF ⟨_, rfl, rfl, _, rfl, iteF ?_⟩⟩
  refine ⟨_, rfl, .inr (.inl ⟨A1, rfl, ⟨_, s1⟩, fun D hD => ?_⟩)⟩
  refine lc_in (walk_tup (xs := xs)) (fun i H' => Same H H' ∧ ∃ us, H' D = some (.lst us) ∧ RowsV K H' us ((sumsM (one.take i) two).map tol)) ⟨grow hD, [], upd_same, .nil⟩ (fun i H' _ ⟨e, _⟩ => same_tup e s1) ?_ ?_
  · rintro i x H1 H2 hi ⟨e, us, hq, hu⟩ ⟨rfl, g⟩
    obtain ⟨q, gq, ⟨U, rfl, sU⟩⟩ := line_get (r1.mono e) g
    refine ⟨U, _, rfl, sU, rfl, _, _, rfl, _, _, rfl, rfl, rfl, ?_⟩
    refine ⟨_, rfl, .inr (.inl ⟨A2, rfl, ⟨_, same_tup e s2⟩, ?_⟩)⟩
    refine lc_in (walk_tup (xs := ys)) (fun j H' => Same H H' ∧ ∃ us, H' D = some (.lst us) ∧ RowsV K H' us ((sumsM (one.take i) two ++ (two.take j).map fun r => (q.1 + r.1, q.2 + r.2)).map tol)) ⟨e, us, hq, by rw [List.take_zero, List.map_nil, List.append_nil]; exact hu⟩ (fun i H' _ ⟨e, _⟩ => same_tup e s2) ?_ ?_
    · rintro j y H3 H4 hj ⟨e, us, hq, hu⟩ ⟨rfl, g2⟩
      obtain ⟨r, gr, ⟨U2, rfl, sU2⟩⟩ := line_get (r2.mono e) g2
      refine ⟨U2, _, rfl, sU2, rfl, _, _, rfl, _, _, rfl, rfl, rfl, ?_⟩
      refine ⟨_, rfl, _, rfl, .inl ⟨_, _, rfl, rfl, _, rfl, _, rfl, .inl ⟨_, _, rfl, rfl, Nat.le_of_ble_eq_true rfl, fun t nt => ?_⟩⟩⟩
      have hq3 := (grow (o := .tup [.int (q.1 + r.1), .int (q.2 + r.2)]) nt) _ _ hq
      have lu := hu.len
      rw [List.length_map, List.length_append, sums_len, List.length_map, List.length_take, List.length_take] at lu
      have lb := bound (min i one.length) (min j two.length) (Nat.min_le_right _ _) (Nat.min_le_right _ _)
      refine ⟨us, hq3, size5 (by omega), same_mut (e.trans (grow nt)) hD, us ++ [.ref t], upd_same, ?_⟩
      have ntD : t ≠ D := fun z => by
        rw [z, hq] at nt
        cases nt
      rw [take_map_add _ gr, ← List.append_assoc, List.map_append]
      exact ((hu.mono (grow nt)).upd hq3).snoc ⟨t, rfl, SqT.of (by rw [upd_ne ntD, upd_same]; rfl)⟩
    · rintro H3 ⟨e, us, hq, hu⟩
      refine ⟨e, us, hq, ?_⟩
      rw [sums_take gq]
      rw [l2, List.take_length] at hu
      exact hu
  · rintro H1 ⟨e, us, hq, hu⟩
    rw [l1, List.take_length] at hu
    refine ⟨_, rfl, p, CH, dx, _, _, rfl, e _ _ hp, T.cl_Dial, T.na_top, dfl_top _ _, _, _, rfl, D, us, sumsM one two, top, rfl, .inl (SqL.of hq), hu, bd, ?_, rfl, fun H' v e2 hv => k H' v (e.trans e2) hv⟩
    rw [sums_len]
    have := bound one.length 0 (Nat.le_refl _) (Nat.zero_le _)
    omega

end
end Fb

set_option Elab.async false
set_option linter.all false
set_option maxRecDepth 100000
set_option maxHeartbeats 4000000
namespace Fb
open PySem PySem.Spec L2
open PyProof.Rows hiding St
open C8 (Cal Met Mak Def cal0 met0 mak0 pe_c pe_mk pe_mt pe_mt0 fnScope fnBody fnArgs pss_cut tCut)
local macro_rules | `(tactic| walk_at "hp") => `(tactic| first | exact upd_same | assumption | (refine grow (by assumption) _ _ ?_; walk_at "hp") | (refine (show Same _ _ by assumption) _ _ ?_; walk_at "hp"))
local macro_rules | `(tactic| walk_at "sm") => `(tactic| first | exact Same.refl _ | assumption | (refine Same.trans ?_ (grow (by assumption)); walk_at "sm") | (refine Same.trans ?_ (show Same _ _ by assumption); walk_at "sm"))
section
variable {P : Program} {w : World} {K : PySem.W.Frag} {mg : Str → Option Value} {base : Heap}
variable {CH : Addr}
/-! ### law -/
def spLaw7 (K : PySem.W.Frag) (PL : Addr) : Sp := sp1 fun a H Q => ∃ (l : Addr) (ns : List Int), a = .ref l ∧ SqL K H l (ns.map V.int) ∧ LamX.Tabs [(PL, qL)] H ∧ ∀ H', Q (.bl true) H'
theorem mul20 (a b : Nat) (h : a + b ≤ 20) : a * b ≤ 100 := by
  have key : ∀ a b : Fin 21, a.1 + b.1 ≤ 20 → a.1 * b.1 ≤ 100 := by decide
  exact key ⟨a, by omega⟩ ⟨b, by omega⟩ h
theorem roof_in {z : V} (h : z ∈ ([.int 1, .int 2, .int 3, .int 4, .int 5, .int 7, .int 100, .int 1000000] : List V)) : ∃ n : Int, z = .int n ∧ 1 ≤ n ∧ n ≤ 1000000 := by
  simp only [List.mem_cons, List.not_mem_nil, or_false] at h
  rcases h with rfl | rfl | rfl | rfl | rfl | rfl | rfl | rfl
  all_goals exact ⟨_, rfl, by decide, by decide⟩
theorem ok_law {cL PL : Addr} (T : Top K mg CH) (L : TopL K mg base cL PL) {f : Addr} {fd : FuncData} (F : Def K mg "law" s_law f fd) : FnOk P w K mg base C8.CX0 9 f fd ["script"] (spLaw7 K PL) := by
  refine fn1 F sc_law fun cdv A outer s H a Q E hr h => ?_
  have nd := sc_law.nd
  obtain ⟨l, ns, rfl, hs, tabs0, k⟩ := h
  refine ⟨_, (pss_cons 
      (ps_set (i := 1) nd rfl (Or.inl rfl) (pe_c (c__law_bag T) hr (by decide) (by rfl) (pa_cons (pv 0) pa_nil))) (pss_cons 
      (ps_for PassesOwn.never rfl (pi_range1 (by rfl) T.range (pa_cons pe_int pa_nil)) (pg_name (i := 2) nd rfl (Or.inl rfl)) (pss_cons 
      (ps_set (i := 3) nd rfl (Or.inl rfl) (pe_c (c__law_of T) hr (by decide) (by rfl) (pa_cons (pv 1) (pa_cons (pe_lst (pa_cons pe_int (pa_cons pe_int (pa_cons pe_int (pa_cons pe_int (pa_cons pe_int (pa_cons pe_int (pa_cons pe_int (pa_cons pe_int pa_nil))))))))) pa_nil)))) (pss_cons 
      (ps_set (i := 4) nd rfl (Or.inl rfl) (pe_c (c__law_rays T) hr (by decide) (by rfl) (pa_cons (pv 1) (pa_cons (pv 3) pa_nil)))) (pss_cons 
      (ps_set (i := 5) nd rfl (Or.inl rfl) (pe_callTy (listOf_K (K := K) rfl) (by rfl) T.list (by decide +kernel) (pa_cons (pv 4) pa_nil))) (pss_cons 
      (ps_set (i := 6) nd rfl (Or.inl rfl) (pe_c (c_lowest_lines T) hr (by decide) (by rfl) (pa_cons (pv 4) (pa_cons (pv 3) pa_nil)))) (pss_cons 
      (ps_if (pt_not (pt_val (pe_c (c__law_like T) hr (by decide) (by rfl) (pa_cons (pe_lst (pa_cons (pe_kw0 (k_lowest_lines_0_top_lines T) hr (by decide) (by rfl) (pk_cons (pv 3) (pk_cons (pe_callTy (tupleOf_K (K := K) rfl) (by rfl) T.tuple (by decide +kernel) (pa_cons (pv 4) pa_nil)) pk_nil))) (pa_cons (pe_c (c_lowest_lines T) hr (by decide) (by rfl) (pa_cons (pv 4) (pa_cons (pv 3) pa_nil))) pa_nil))) (pa_cons (pe_lst (pa_cons (pv 6) (pa_cons (pv 6) pa_nil))) pa_nil))))) (pss_one 
      (ps_ret pe_bl)) pss_nil) (pss_cut 
      (ps_if (pt_cmpR (eq_K (K := K) rfl hr) (pv 4) (pe_lst pa_nil) (nomark _)) (pss_one 
      (ps_if (pt_cmpR op_notN (pv 6) pe_non (nomark _)) (pss_one 
      (ps_ret pe_bl)) pss_nil)) (pss_one 
      (ps_if (PW.pt (pw_or (pt_not (pt_val (pe_c (c__law_rays_so T) hr (by decide) (by rfl) (pa_cons (pv 6) (pa_cons (pv 4) (pa_cons (pv 3) pa_nil)))))) (pw_or1 (pt_not (pt_val (pe_c (c__law_like T) hr (by decide) (by rfl) (pa_cons (pe_c (c_lowest_lines T) hr (by decide) (by rfl) (pa_cons (pv 6) (pa_cons (pv 3) pa_nil))) (pa_cons (pv 6) pa_nil)))))))) (pss_one 
      (ps_ret pe_bl)) pss_nil))) (pss_cons 
      (ps_if (pt_not (pt_val (pe_c (c__law_like T) hr (by decide) (by rfl) (pa_cons (pv 4) (pa_cons (pv 5) pa_nil))))) (pss_one 
      (ps_ret pe_bl)) pss_nil) (pss_one 
      (ps_if (pt_cmpR op_gtU (pe_callB (len_K (K := K) rfl) (by rfl) T.len (by decide +kernel) (pa_cons (pv 4) pa_nil)) pe_int (nomark _)) (pss_cons 
      (ps_set (i := 7) nd rfl (Or.inl rfl) (pe_op op_addU pe_int (pe_c (c__law_draw T) hr (by decide) (by rfl) (pa_cons (pv 1) (pa_cons (pe_op op_sub (pe_callB (len_K (K := K) rfl) (by rfl) T.len (by decide +kernel) (pa_cons (pv 4) pa_nil)) pe_int) pa_nil))))) (pss_cons 
      (ps_set (i := 8) nd rfl (Or.inl rfl) (pe_mk (c_Dial___init__ T) hr (by decide) (by rfl) (pa_cons pe_str (pa_cons pe_str (pa_cons (pv 3) pa_nil))))) (pss_cons 
      (ps_set (i := 9) nd rfl (Or.inl rfl) (pe_lst (pa_cons (pe_c (c__law_lines T L) hr (by decide) (by rfl) (pa_cons (pe_slice (sl_K (K := K) rfl) (pv 4) po_none (po_some (pv 7))) (pa_cons (pv 3) pa_nil))) (pa_cons (pe_c (c__law_lines T L) hr (by decide) (by rfl) (pa_cons (pe_slice (sl_K (K := K) rfl) (pv 4) (po_some (pv 7)) po_none) (pa_cons (pv 3) pa_nil))) pa_nil)))) (pss_cons 
      (ps_if (pt_not (pt_val (pe_c (c__law_rays_so T) hr (by decide) (by rfl) (pa_cons (pe_mt (c_Dial_best T) hr (by decide) (pv 8) (pa_cons (pe_ix (ix_K (K := K) rfl) (pv 9) pe_int (fun _ _ => rfl)) (pa_cons (pe_ix (ix_K (K := K) rfl) (pv 9) pe_int (fun _ _ => rfl)) pa_nil))) (pa_cons (pv 4) (pa_cons (pv 3) pa_nil)))))) (pss_one 
      (ps_ret pe_bl)) pss_nil) (pss_cons 
      (ps_setLc (i := 10) (own := [("x", 11), ("y", 12)]) rfl nd rfl rfl (sw_true rfl rfl rfl (by decide +kernel)) (pi_K (K := K) rfl (pe_c (c__law_pairs T) hr (by decide) (by rfl) (pa_cons (pe_ix (ix_K (K := K) rfl) (pv 9) pe_int (fun _ _ => rfl)) (pa_cons (pe_ix (ix_K (K := K) rfl) (pv 9) pe_int (fun _ _ => rfl)) pa_nil)))) (blkOk_by (N := ["script", "bag", "turn", "roof", "rays", "held", "told", "cut", "made", "parts", "sums", "x", "y"]) (sc := fnScope s_law) (by decide +kernel)) (fun _ _ _ _ _ => (tup_K (K := K) (n := 2) rfl rfl (pgs_cons (pg_name (i := 11) nd rfl (Or.inl rfl)) (pgs_cons (pg_name (i := 12) nd rfl (Or.inl rfl)) pgs_nil)))) (fun _ _ _ _ _ => pts_nil) (fun _ _ _ _ _ => (pe_tup (pa_cons (pe_op op_addU (pe_ix (ix_K (K := K) rfl) (pv 11) pe_int (fun _ _ => rfl)) (pe_ix (ix_K (K := K) rfl) (pv 12) pe_int (fun _ _ => rfl))) (pa_cons (pe_op op_addU (pe_ix (ix_K (K := K) rfl) (pv 11) pe_int (fun _ _ => rfl)) (pe_ix (ix_K (K := K) rfl) (pv 12) pe_int (fun _ _ => rfl))) pa_nil))))) (pss_one 
      (ps_if (pt_not (pt_val (pe_c (c__law_rays_so T) hr (by decide) (by rfl) (pa_cons (pe_mt (c_Dial_then T) hr (by decide) (pv 8) (pa_cons (pe_ix (ix_K (K := K) rfl) (pv 9) pe_int (fun _ _ => rfl)) (pa_cons (pe_ix (ix_K (K := K) rfl) (pv 9) pe_int (fun _ _ => rfl)) pa_nil))) (pa_cons (pv 10) (pa_cons (pv 3) pa_nil)))))) (pss_one 
      (ps_ret pe_bl)) pss_nil))))))) pss_nil)))))))))) (pss_one 
      (ps_ret pe_bl)))), ?_⟩
  refine ⟨_, rfl, _, rfl, l, ns, rfl, hs, fun p H1 e1 hb => ?_⟩
  have tabs1 := tabs_same tabs0 e1
  refine ⟨6, rfl, by decide, by decide, for_it walk_range (fun i σ H' => (BagAt H' p ∧ LamX.Tabs [(PL, qL)] H') ∧ ∃ y2 y3 y4 y5 y6 y7 y8 y9 y10 y11 y12, σ = [some (.ref l), some (.ref p), y2, y3, y4, y5, y6, y7, y8, y9, y10, y11, y12]) ⟨⟨hb, tabs1⟩, _, _, _, _, _, _, _, _, _, _, _, rfl⟩ (fun _ _ _ _ _ => trivial) ?_ ?_⟩
  rotate_left
  · rintro σ H3 ⟨_, y2, y3, y4, y5, y6, y7, y8, y9, y10, y11, y12, rfl⟩
    exact k H3
  rintro ti tx σ H2 H3 hti ⟨⟨hb, tabs⟩, y2, y3, y4, y5, y6, y7, y8, y9, y10, y11, y12, rfl⟩ ⟨rfl, rfl⟩
  clear tabs1 e1 tabs0
  -- roof
  refine ⟨_, rfl, Nat.le_of_ble_eq_true rfl, fun c nc => ?_⟩
  refine ⟨_, _, rfl, p, rfl, hb.mono (grow nc), .inl ⟨c, _, rfl, .inl (SqL.of upd_same), Nat.le_of_ble_eq_true rfl, Nat.le_of_ble_eq_true rfl, fun z hz => ?_⟩⟩
  obtain ⟨roof, rfl, r0, r1⟩ := roof_in hz
  have hb4 := hb.mono (grow (o := .lst [.int 1, .int 2, .int 3, .int 4, .int 5, .int 7, .int 100, .int 1000000]) nc)
  have tb4 := tabs_same tabs (grow (o := .lst [.int 1, .int 2, .int 3, .int 4, .int 5, .int 7, .int 100, .int 1000000]) nc)
  generalize upd H3 c _ = H4 at hb4 tb4
  -- rays
  refine ⟨_, rfl, _, rfl, _, _, rfl, p, roof, rfl, hb4, rfl, r0, r1, fun H5 D us e5 hD rv lus => ?_⟩
  obtain ⟨rays, hx, bdh⟩ := rays_of rv
  have lx := hx.len
  rw [List.length_map] at lx
  have bdr : ∀ r ∈ rays, BdR r := fun r h => (bdh r h).r
  have bdl : ∀ r ∈ rays, BdL r := fun r h => (bdr r h).l
  have hb5 := hb4.mono e5
  have tb5 := tabs_same tb4 e5
  clear hb4 tb4 hb tabs nc e5 hz
  -- held
  refine ⟨_, rfl, D, us, rfl, .inl (SqL.of hD), fun hd nhd => ?_⟩
  have e6 := grow (o := .lst us) nhd
  have hhd := upd_same (H := H5) (a := hd) (o := .lst us)
  generalize upd H5 hd _ = H6 at e6 hhd
  -- told
  refine ⟨_, rfl, _, rfl, _, _, rfl, D, us, rays, roof, rfl, .inl (SqL.of (e6 _ _ hD)), hx.mono e6, bdl, by omega, rfl, fun H7 v e7 hv => ?_⟩
  have g7 := e6.trans e7
  -- _law_like([..], [told, told])
  refine ⟨_, rfl, _, rfl, D, us, rfl, .inl ⟨SqL.of (g7 _ _ hD), fun tp ntp => ⟨rfl, rfl, _, _, rfl, tp, us, rays, roof, rfl, .inr (SqT.of upd_same), hx.mono (g7.trans (grow ntp)), bdl, by omega, rfl, fun H8 v1 e8 hv1 => ?_⟩⟩⟩
  have g8 := g7.trans ((grow ntp).trans e8)
  refine ⟨_, rfl, _, rfl, _, _, rfl, D, us, rays, roof, rfl, .inl (SqL.of (g8 _ _ hD)), hx.mono g8, bdl, by omega, rfl, fun H9 v2 e9 hv2 => ⟨Nat.le_of_ble_eq_true rfl, fun L1 nL1 => ?_⟩⟩
  refine ⟨_, rfl, _, rfl, Nat.le_of_ble_eq_true rfl, fun L2 nL2 => ?_⟩
  have g9 := (grow (o := .lst [v1, v2]) nL1).trans (grow (o := .lst [v, v]) nL2)
  have hvv := dp_mono (((grow (o := .tup us) ntp).trans e8).trans (e9.trans g9)) _ hv
  have lkv : Lk 6 (lnD (lowestM roof rays)) := by
    cases hM : lowestM roof rays with
    | none => exact trivial
    | some L => exact lk_ln (n := 3) (by have := low_len hM; omega)
  refine ⟨_, _, rfl, .list [lnD (lowestM roof rays), lnD (lowestM roof rays)], ⟨Nat.le_of_ble_eq_true rfl, fun d hd => ?_⟩, .lst (SqL.of ((grow nL2) _ _ upd_same)) (.cons (dp_mono (e9.trans g9) _ hv1) (.cons (dp_mono g9 _ hv2) .nil)), .lst (SqL.of upd_same) (.cons hvv (.cons hvv .nil)), fun H10 e10 => ⟨_, rfl, iteF ?_⟩⟩
  · simp only [List.mem_cons, List.not_mem_nil, or_false] at hd
    rcases hd with rfl | rfl <;> exact lkv
  have g10 := (g8.trans e9).trans (g9.trans e10)
  have hv10 := dp_mono e10 _ hvv
  have hD10 := g10 _ _ hD
  have hx10 := hx.mono g10
  have hhd10 := ((e7.trans ((grow (o := .tup us) ntp).trans e8)).trans (e9.trans (g9.trans e10))) _ _ hhd
  have hb10 := hb5.mono g10
  have tb10 := tabs_same tb5 g10
  clear hvv hv hv1 hv2 g9 nL1 nL2 e8 e9 ntp g7 g8 e7 e6 nhd hhd g10 e10 hb5 tb5 hx rv hD
  -- if rays == []
  refine ⟨fun σ H' => Same H10 H' ∧ ∃ y2 y7 y8 y9 y10 y11 y12, σ = [some (.ref l), some (.ref p), y2, some (.int roof), some (.ref D), some (.ref hd), some v, y7, y8, y9, y10, y11, y12], ?_, ?_⟩
  · refine ⟨_, rfl, Nat.zero_le _, fun L1 nL1 => .inr ⟨.list (rays.map fun t => rowD (tol t)), .list [], .lst (SqL.of ((grow nL1) _ _ hD10)) (rows_all (hx10.mono (grow nL1))), .lst (SqL.of upd_same) .nil, ?_, _, rfl, ?_⟩⟩
    · have := depthAll_ln rays
      simp only [PyData.depth, PyData.depthAll]
      omega
    have e11 := grow (o := .lst []) nL1
    have hv11 := dp_mono e11 _ hv10
    have hx11 := hx10.mono e11
    have hD11 := e11 _ _ hD10
    generalize upd H10 L1 _ = H11 at e11 hv11 hx11 hD11
    by_cases e0 : rays = []
    · subst e0
      cases hv11
      exact iteT ⟨_, rfl, rfl, _, rfl, iteF ⟨e11, _, _, _, _, _, _, _, rfl⟩⟩
    · have hM : lowestM roof rays = some (lowM roof (thinP rays)) := if_neg e0
      rw [hM] at hv11
      have len := low_len hM
      obtain ⟨ne, sub, good, cov⟩ := lowest_ok hM
      have again := low_again ne good
      generalize lowM roof (thinP rays) = low at hv11 hM len ne sub good cov again
      rw [show PyData.eqv (.list (rays.map fun t => rowD (tol t))) (.list []) = false by
        cases rays with
        | nil => exact absurd rfl e0
        | cons t r => rfl]
      refine iteF ?_
      obtain ⟨A1, xs, rfl, sA, rA⟩ := ln_tup hv11
      refine ⟨_, rfl, _, rfl, _, rfl, _, _, _, rfl, A1, xs, low, D, us, rays, roof, rfl, sA, rA, rfl, SqL.of hD11, hx11, bdr, by omega, by omega, rfl, r0, r1, ne, sub, good, cov, fun H12 e12 => ⟨_, rfl, iteF ?_⟩⟩
      have e13 := e11.trans e12
      refine ⟨_, rfl, _, rfl, _, _, rfl, A1, xs, low, roof, rfl, .inr (same_tup e12 sA), rA.mono e12, fun r hr2 => bdl r (sub r hr2), by omega, rfl, fun H13 v3 e14 hv3 => ?_⟩
      rw [again] at hv3
      refine ⟨_, rfl, _, _, rfl, lnD (some low), lk_ln (n := 4) (by omega), hv3, ln_dp (same_tup (e12.trans e14) sA) (rA.mono (e12.trans e14)), fun H14 e15 => ⟨_, rfl, iteF ?_⟩⟩
      exact ⟨e13.trans (e14.trans e15), _, _, _, _, _, _, _, rfl⟩
  rintro σ H11 ⟨e11, y2, y7, y8, y9, y10, y11, y12, rfl⟩
  -- like(rays, held)
  have hx11 := hx10.mono e11
  refine ⟨_, rfl, _, rfl, _, _, rfl, .list (rays.map fun t => rowD (tol t)), lk_lns (n := 4) (by omega), .lst (SqL.of (e11 _ _ hD10)) (rows_all hx11), .lst (SqL.of (e11 _ _ hhd10)) (rows_all hx11), fun H12 e12 => ⟨_, rfl, iteF ?_⟩⟩
  have g12 := e11.trans e12
  have hb12 := hb10.mono g12
  have tb12 := tabs_same tb10 g12
  have hD12 := g12 _ _ hD10
  have hx12 := hx10.mono g12
  clear hv10 hhd10 hx11 e11 e12 g12 hb10 tb10 hD10 hx10
  -- if len(rays) > 1
  refine ⟨_, rfl, .inl ⟨D, us, rfl, .inl (SqL.of hD12), _, _, rfl, rfl, _, rfl, ite2 (fun c1 => ?_) (fun c1 => ?_)⟩⟩
  rotate_left
  · exact ⟨⟨hb12, tb12⟩, _, _, _, _, _, _, _, _, _, _, _, rfl⟩
  have c1 := of_decide_eq_true c1
  -- cut
  refine ⟨_, rfl, _, rfl, .inl ⟨D, us, rfl, .inl (SqL.of hD12), _, _, rfl, rfl, _, _, rfl, p, _, rfl, rfl, hb12, by omega, small_log (by omega) (by omega), fun ct ct0 ct1 => .inl ⟨_, _, rfl, rfl, ?_⟩⟩⟩
  -- made
  refine ⟨_, rfl, fun x dx nx ndx nex => ?_⟩
  refine ⟨_, _, _, _, rfl, x, dx, roof, rfl, upd_same, rfl, rfl, rfl, r0, r1, fun H13 kp ho => ⟨rfl, ?_⟩⟩
  have e13 : Same H12 H13 := fun b o e => kp b o (by
    rw [upd_ne (ne_of_none e nx), upd_ne (ne_of_none e ndx)]
    exact e) (ne_of_none e nx)
  have hb13 := hb12.mono e13
  have tb13 := tabs_same tb12 e13
  have hD13 := e13 _ _ hD12
  have hx13 := hx12.mono e13
  clear kp nx ndx nex e13 hb12 tb12 hD12 hx12
  obtain ⟨ca, cb⟩ := cut_take (xs := us) (c := 1 + ct) (by omega) (by omega)
  obtain ⟨ra, rb⟩ := rows_take hx13 (1 + ct).toNat
  have la : (rays.take (1 + ct).toNat).length + (rays.drop (1 + ct).toNat).length = rays.length := by
    rw [← List.length_append, List.take_append_drop]
  have ma : ∀ q, q ∈ rays ↔ q ∈ rays.take (1 + ct).toNat ∨ q ∈ rays.drop (1 + ct).toNat := fun q => by
    rw [← List.mem_append, List.take_append_drop]
  have lr1 : 0 < (rays.take (1 + ct).toNat).length := by
    rw [List.length_take]
    omega
  have lr2 : 0 < (rays.drop (1 + ct).toNat).length := by
    rw [List.length_drop]
    omega
  generalize rays.take (1 + ct).toNat = ry1 at ra la ma lr1
  generalize rays.drop (1 + ct).toNat = ry2 at rb la ma lr2
  -- parts
  refine ⟨_, rfl, _, rfl, _, rfl, .inl ⟨D, us, rfl, SqL.of hD13, fun S1 nS1 => ?_⟩⟩
  rw [ca]
  refine ⟨_, rfl, _, _, rfl, S1, _, ry1, roof, rfl, SqL.of upd_same, ra.mono (grow nS1), fun r h => bdh r ((ma r).mpr (.inl h)), by omega, rfl, r0, r1, tabs_same tb13 (grow nS1), fun H14 A1 ys1 p1 e14 tb14 hA1 rp1 sub1 cov1 len1 => ?_⟩
  have e14 : Same (noT H13) H14 := (noT_mono (grow (o := .lst (us.take (1 + ct).toNat)) nS1)).trans e14
  refine ⟨_, rfl, _, rfl, _, rfl, .inl ⟨D, us, rfl, SqL.of (e14 _ _ (noT_at hD13 fun _ e => nomatch e)), fun S2 nS2 => ?_⟩⟩
  rw [cb]
  refine ⟨_, rfl, _, _, rfl, S2, _, ry2, roof, rfl, SqL.of upd_same, (noT_rows rb).mono (e14.trans (grow nS2)), fun r h => bdh r ((ma r).mpr (.inr h)), by omega, rfl, r0, r1, tabs_same tb14 (grow nS2), fun H15 A2 ys2 p2 e15 tb15 hA2 rp2 sub2 cov2 len2 => ?_⟩
  have e15 : Same (noT H14) H15 := (noT_mono (grow (o := .lst (us.drop (1 + ct).toNat)) nS2)).trans e15
  have e14b : Same (noT H13) (noT H14) := fun b o e => noT_at (e14 b o e) (noT_of e).2
  have e16 := e14b.trans e15
  refine ⟨Nat.le_of_ble_eq_true rfl, fun PP nPP => ?_⟩
  have g16 := grow (o := .lst [.ref A1, .ref A2]) nPP
  have hb16 := ((noT_bag hb13).mono e16).mono g16
  have tb16 := tabs_same tb15 g16
  have hD16 := g16 _ _ (e16 _ _ (noT_at hD13 fun _ e => nomatch e))
  have hx16 := ((noT_rows hx13).mono e16).mono g16
  have ho16 := ((noT_dial ho).mono e16).mono g16
  have hA1 := g16 _ _ (e15 _ _ (noT_at hA1 fun _ e => nomatch e))
  have rp1 := ((noT_rows rp1).mono e15).mono g16
  have hA2 := g16 _ _ hA2
  have rp2 := rp2.mono g16
  have hPP := upd_same (H := H15) (a := PP) (o := .lst [.ref A1, .ref A2])
  clear hb13 tb13 hD13 hx13 ho ra rb ca cb nS1 nS2 e14 e15 e14b e16 tb14 tb15
  generalize upd H15 PP _ = H16 at hb16 tb16 hD16 hx16 ho16 hA1 rp1 hA2 rp2 hPP
  have ls1 := rp1.len
  have ls2 := rp2.len
  rw [List.length_map] at ls1 ls2
  have bd1 : ∀ r ∈ p1, BdH r := fun r h => bdh r ((ma r).mpr (.inl (sub1 r h)))
  have bd2 : ∀ r ∈ p2, BdH r := fun r h => bdh r ((ma r).mpr (.inr (sub2 r h)))
  have ne0 : ∀ {q rs : List Ln}, (∀ n d, 0 ≤ n → 0 < d → n ≤ roof * d → ∀ x ∈ rs, ∃ t ∈ q, vA t n d ≤ vA x n d) → 0 < rs.length → q ≠ [] := fun {q rs} cov h e => by
    cases rs with
    | nil => exact absurd h (Nat.lt_irrefl _)
    | cons a r =>
      obtain ⟨t, ht, _⟩ := cov 0 1 (by decide) (by decide) (by omega) a (List.mem_cons_self ..)
      rw [e] at ht
      cases ht
  have ne1 := ne0 cov1 lr1
  have ne2 := ne0 cov2 lr2
  have lp : p1.length * p2.length ≤ 100 := by
    refine Nat.le_trans (Nat.mul_le_mul len1 len2) (mul20 _ _ (by omega))
  -- best
  obtain ⟨dx2, st2, hx2⟩ := id ho16
  refine ⟨_, rfl, x, dx2, _, rfl, hx2, dfl_no _ _ (by decide +kernel) (by decide +kernel) (by decide +kernel) (by decide +kernel), _, rfl, .inl ⟨PP, _, _, _, rfl, rfl, SqL.of hPP, at0, ?_⟩⟩
  refine ⟨_, rfl, .inl ⟨PP, _, _, _, rfl, rfl, SqL.of hPP, at1, _, _, _, rfl, x, roof, p1, p2, rfl, ho16, ln_dp (SqT.of hA1) rp1, ln_dp (SqT.of hA2) rp2, fun r h => ?_, by rw [List.length_append]; omega, ne1, fun H17 v5 e17 hv5 => ?_⟩⟩
  · rcases List.mem_append.mp h with h | h
    · exact ((bd1 r h).r).l
    · exact ((bd2 r h).r).l
  have hMb : lowestM roof (p1 ++ p2) = some (lowM roof (thinP (p1 ++ p2))) := if_neg fun e => ne1 (List.append_eq_nil_iff.mp e).1
  rw [hMb] at hv5
  have lenb := low_len hMb
  rw [List.length_append] at lenb
  obtain ⟨neb, subb, goodb, covb⟩ := lowest_ok hMb
  generalize lowM roof (thinP (p1 ++ p2)) = lowb at hv5 hMb lenb neb subb goodb covb
  obtain ⟨A3, xs3, rfl, sA3, rA3⟩ := ln_tup hv5
  refine ⟨_, rfl, _, rfl, _, _, _, rfl, A3, xs3, lowb, D, us, rays, roof, rfl, sA3, rA3, rfl, SqL.of (e17 _ _ hD16), hx16.mono e17, bdr, by omega, by omega, rfl, r0, r1, neb, fun t ht => ?_, goodb, fun n d n0 d0 le q hq => ?_, fun H18 e18 => ⟨_, rfl, iteF ?_⟩⟩
  · rcases List.mem_append.mp (subb t ht) with h | h
    · exact (ma t).mpr (.inl (sub1 t h))
    · exact (ma t).mpr (.inr (sub2 t h))
  · rcases (ma q).mp hq with h | h
    · obtain ⟨u, hu, l1⟩ := cov1 n d n0 d0 le q h
      obtain ⟨t, ht, l2⟩ := covb n d n0 d0 le u (List.mem_append_left _ hu)
      exact ⟨t, ht, Int.le_trans l2 l1⟩
    · obtain ⟨u, hu, l1⟩ := cov2 n d n0 d0 le q h
      obtain ⟨t, ht, l2⟩ := covb n d n0 d0 le u (List.mem_append_right _ hu)
      exact ⟨t, ht, Int.le_trans l2 l1⟩
  have g18 := e17.trans e18
  -- sums
  refine ⟨_, rfl, .inl ⟨PP, _, _, _, rfl, rfl, SqL.of (g18 _ _ hPP), at0, _, rfl, .inl ⟨PP, _, _, _, rfl, rfl, SqL.of (g18 _ _ hPP), at1, _, _, rfl, A1, A2, ys1, ys2, rfl, SqT.of (g18 _ _ hA1), rfl, SqT.of (g18 _ _ hA2), by omega, by omega, fun H19 D2 zs e19 hD2 pz => .inl ⟨D2, rfl, ⟨_, SqL.of hD2⟩, fun FF hFF => ?_⟩⟩⟩⟩
  have g19 := g18.trans e19
  have lzs : zs.length = p1.length * p2.length := by
    rw [pz.1, prodV_len, ls1, ls2]
  refine lc_some (walk_list (xs := zs)) (fun i v H => TupI K H v (tol ((sumsM p1 p2).getD i (0, 0)))) grow_at (by omega) hFF (fun _ _ _ _ e h => h.mono e) (fun H e => SqL.of (e _ _ hD2)) ?_ ?_
  · rintro i z G1 G2 hi e ⟨xs0, hx0⟩ ⟨rfl, g⟩ W kk
    obtain ⟨zz, U, gz, rfl, hU⟩ := pz.2 i z g
    obtain ⟨a, b, ⟨X1, ex, sX⟩, ⟨Y1, ey, sY⟩, pa, pb, gs⟩ := prod_rows ((rp2.mono g19).mono e) ((rp1.mono g19).mono e) gz
    refine ⟨U, _, rfl, SqT.of (e _ _ hU), rfl, _, _, rfl, _, _, rfl, rfl, rfl, ?_⟩
    refine ⟨_, rfl, .inr (.inl ⟨X1, _, _, _, ex, rfl, sX, at0, _, rfl, .inr (.inl ⟨Y1, _, _, _, ey, rfl, sY, at0, .inl ⟨_, _, rfl, rfl, ?_⟩⟩)⟩)⟩
    refine ⟨_, rfl, .inr (.inl ⟨X1, _, _, _, ex, rfl, sX, at1, _, rfl, .inr (.inl ⟨Y1, _, _, _, ey, rfl, sY, at1, .inl ⟨_, _, rfl, rfl, Nat.le_of_ble_eq_true rfl, fun t nt => kk _ _ (grow nt) fun o => ?_⟩⟩)⟩)⟩
    rw [getD_of gs]
    exact tupI_upd ((grow nt) _ _ hx0) ⟨t, rfl, SqT.of upd_same⟩
  intro sm H20 e20 hFF20 lsm psm
  have g20 := g19.trans e20
  have rsm := rows_from _ psm
  rw [lsm, lzs, ← sums_len, map_range_get (0, 0) tol (sumsM p1 p2)] at rsm
  -- then
  refine ⟨_, rfl, x, dx2, _, rfl, g20 _ _ hx2, dfl_no _ _ (by decide +kernel) (by decide +kernel) (by decide +kernel) (by decide +kernel), _, rfl, .inl ⟨PP, _, _, _, rfl, rfl, SqL.of (g20 _ _ hPP), at0, ?_⟩⟩
  refine ⟨_, rfl, .inl ⟨PP, _, _, _, rfl, rfl, SqL.of (g20 _ _ hPP), at1, _, _, _, rfl, x, roof, p1, p2, rfl, ho16.mono g20, ln_dp (SqT.of (g20 _ _ hA1)) (rp1.mono g20), ln_dp (SqT.of (g20 _ _ hA2)) (rp2.mono g20), fun r h => (bd_sums bd1 bd2 r h).l, by omega, by omega, fun H21 v6 e21 hv6 => ?_⟩⟩
  have hMt : lowestM roof (sumsM p1 p2) = some (lowM roof (thinP (sumsM p1 p2))) := if_neg fun e => by
    have := sums_len p1 p2
    rw [e] at this
    have h1 := List.length_pos_iff.mpr ne1
    have h2 := List.length_pos_iff.mpr ne2
    have h3 := Nat.mul_pos h1 h2
    rw [← this] at h3
    exact Nat.lt_irrefl _ h3
  rw [hMt] at hv6
  have lent := low_len hMt
  have lsums := sums_len p1 p2
  obtain ⟨net, subt, goodt, covt⟩ := lowest_ok hMt
  generalize lowM roof (thinP (sumsM p1 p2)) = lowt at hv6 hMt lent net subt goodt covt
  obtain ⟨A4, xs4, rfl, sA4, rA4⟩ := ln_tup hv6
  refine ⟨_, rfl, _, rfl, _, _, _, rfl, A4, xs4, lowt, FF, sm, sumsM p1 p2, roof, rfl, sA4, rA4, rfl, SqL.of (e21 _ _ hFF20), rsm.mono e21, bd_sums bd1 bd2, by omega, by omega, rfl, r0, r1, net, subt, goodt, covt, fun H22 e22 => ⟨_, rfl, iteF ?_⟩⟩
  have g22 := g20.trans (e21.trans e22)
  exact ⟨⟨hb16.mono g22, tabs_same tb16 g22⟩, _, _, _, _, _, _, _, _, _, _, _, rfl⟩

end
end Fb

set_option Elab.async false
set_option linter.all false
set_option maxRecDepth 100000
set_option maxHeartbeats 4000000
namespace Fb
open PySem PySem.Spec L2
open PyProof.Rows hiding St
open C8 (Cal Met Mak Def cal0 met0 mak0 pe_c pe_mk pe_mt pe_mt0 fnScope fnBody fnArgs pss_cut tCut)
/-! ### what the top has written, each a fact that k_is finds -/
theorem all_mk {l : PySem.W.OpenLaw} {w : World} {K : PySem.W.Frag} {h : Heap} {mg : Str → Option Value} {fa CH f1 f2 t2 f3 f4 f5 f6 f7 f8 f9 f10 f11 f12 f13 f14 f15 f16 f17 f18 f19 f20 f21 f22 f23 f24 f25 f26 f27 f28 f29 cL PL : Addr} {od1 an1 : Option Addr} {sl1 : Array (Option Value)} {oc1 kV1 dc1 pm1 cd1 ct1 : Value}
    {od2 an2 : Option Addr} {sl2 : Array (Option Value)} {oc2 kV2 dc2 pm2 cd2 ct2 : Value}
    {dt2_0 : Tok}
    {to2 : Value} {td2 : Option Addr} {tn2 : Nat} {ts2 : Array (Option Value)}
    {od3 an3 : Option Addr} {sl3 : Array (Option Value)} {oc3 kV3 dc3 pm3 cd3 ct3 : Value}
    {od4 an4 : Option Addr} {sl4 : Array (Option Value)} {oc4 kV4 dc4 pm4 cd4 ct4 : Value}
    {od5 an5 : Option Addr} {sl5 : Array (Option Value)} {oc5 kV5 dc5 pm5 cd5 ct5 : Value}
    {od6 an6 : Option Addr} {sl6 : Array (Option Value)} {oc6 kV6 dc6 pm6 cd6 ct6 : Value}
    {od7 an7 : Option Addr} {sl7 : Array (Option Value)} {oc7 kV7 dc7 pm7 cd7 ct7 : Value}
    {od8 an8 : Option Addr} {sl8 : Array (Option Value)} {oc8 kV8 dc8 pm8 cd8 ct8 : Value}
    {od9 an9 : Option Addr} {sl9 : Array (Option Value)} {oc9 kV9 dc9 pm9 cd9 ct9 : Value}
    {od10 an10 : Option Addr} {sl10 : Array (Option Value)} {oc10 kV10 dc10 pm10 cd10 ct10 : Value}
    {od11 an11 : Option Addr} {sl11 : Array (Option Value)} {oc11 kV11 dc11 pm11 cd11 ct11 : Value}
    {od12 an12 : Option Addr} {sl12 : Array (Option Value)} {oc12 kV12 dc12 pm12 cd12 ct12 : Value}
    {od13 an13 : Option Addr} {sl13 : Array (Option Value)} {oc13 kV13 dc13 pm13 cd13 ct13 : Value}
    {od14 an14 : Option Addr} {sl14 : Array (Option Value)} {oc14 kV14 dc14 pm14 cd14 ct14 : Value}
    {od15 an15 : Option Addr} {sl15 : Array (Option Value)} {oc15 kV15 dc15 pm15 cd15 ct15 : Value}
    {od16 an16 : Option Addr} {sl16 : Array (Option Value)} {oc16 kV16 dc16 pm16 ct16 : Value}
    {od17 an17 : Option Addr} {sl17 : Array (Option Value)} {oc17 kV17 dc17 pm17 cd17 ct17 : Value}
    {od18 an18 : Option Addr} {sl18 : Array (Option Value)} {oc18 kV18 dc18 pm18 cd18 ct18 : Value}
    {od19 an19 : Option Addr} {sl19 : Array (Option Value)} {oc19 kV19 dc19 pm19 cd19 ct19 : Value}
    {od20 an20 : Option Addr} {sl20 : Array (Option Value)} {oc20 kV20 dc20 pm20 cd20 ct20 : Value}
    {od21 an21 : Option Addr} {sl21 : Array (Option Value)} {oc21 kV21 dc21 pm21 cd21 ct21 : Value}
    {od22 an22 : Option Addr} {sl22 : Array (Option Value)} {oc22 kV22 dc22 pm22 cd22 ct22 : Value}
    {od23 an23 : Option Addr} {sl23 : Array (Option Value)} {oc23 kV23 dc23 pm23 cd23 ct23 : Value}
    {od24 an24 : Option Addr} {sl24 : Array (Option Value)} {oc24 kV24 dc24 pm24 cd24 ct24 : Value}
    {od25 an25 : Option Addr} {sl25 : Array (Option Value)} {oc25 kV25 dc25 pm25 cd25 ct25 : Value}
    {od26 an26 : Option Addr} {sl26 : Array (Option Value)} {oc26 kV26 dc26 pm26 cd26 ct26 : Value}
    {od27 an27 : Option Addr} {sl27 : Array (Option Value)} {oc27 kV27 dc27 pm27 cd27 ct27 : Value}
    {od28 an28 : Option Addr} {sl28 : Array (Option Value)} {oc28 kV28 dc28 pm28 cd28 ct28 : Value}
    {od29 an29 : Option Addr} {sl29 : Array (Option Value)} {oc29 kV29 dc29 pm29 cd29 ct29 : Value}
    {g0 : Tok}
    {g1 : Tok}
    {occ : Value} {odc : Option Addr} {vsc : Array Value} {slc : Array (Option Value)}
    (X : K.In h) (G : h.Ns mainGlobals mg) (hfa : mg "law" = some (.ref fa))
    (aC : PySem.W.nsIn K mainGlobals "Dial" = some (some (.ref CH)))
    (pg : PySem.W.plainGet K CH Str.empty = true)
    (hd : PySem.W.hasDictIn K CH = true)
    (po : PySem.W.plainOver K CH = true)
    (sa : PySem.W.findIn K (.ref CH) "__setattr__" = some (some (.builtin "object.__setattr__")))
    (mk : PySem.W.makesIn K CH = true)
    (kC : PySem.W.keepIn K (.ref CH) = true)
    (nwish : PySem.W.findIn K (.ref CH) "wish" = some none)
    (nslope : PySem.W.findIn K (.ref CH) "slope" = some none)
    (ntop : PySem.W.findIn K (.ref CH) "top" = some none)
    (nstay : PySem.W.findIn K (.ref CH) "stay" = some none)
    (a1 : PySem.W.nsIn K mainGlobals "is_name" = some (some (.ref f1)))
    (l1 : K.lookup f1 = some ⟨oc1, od1, .func (PySem.W.fnOf "is_name" "is_name" (fnArgs s_is_name) (fnBody s_is_name) (fnScope s_is_name) .none kV1 dc1 pm1 an1 cd1 ct1), sl1⟩)
    (c1 : PySem.W.codeIn K cd1 "is_name" = true)
    (k1 : PySem.W.keepIn K (.ref f1) = true)
    (a2 : PySem.W.nsIn K mainGlobals "is_number" = some (some (.ref f2)))
    (l2 : K.lookup f2 = some ⟨oc2, od2, .func (PySem.W.fnOf "is_number" "is_number" (fnArgs s_is_number) (fnBody s_is_number) (fnScope s_is_number) (.ref t2) kV2 dc2 pm2 an2 cd2 ct2), sl2⟩)
    (c2 : PySem.W.codeIn K cd2 "is_number" = true)
    (k2 : PySem.W.keepIn K (.ref f2) = true)
    (d2 : K.lookup t2 = some ⟨to2, td2, .seq #[.int 0 dt2_0, .none] tn2, ts2⟩)
    (a3 : PySem.W.nsIn K mainGlobals "is_at_most" = some (some (.ref f3)))
    (l3 : K.lookup f3 = some ⟨oc3, od3, .func (PySem.W.fnOf "is_at_most" "is_at_most" (fnArgs s_is_at_most) (fnBody s_is_at_most) (fnScope s_is_at_most) .none kV3 dc3 pm3 an3 cd3 ct3), sl3⟩)
    (c3 : PySem.W.codeIn K cd3 "is_at_most" = true)
    (k3 : PySem.W.keepIn K (.ref f3) = true)
    (a4 : PySem.W.nsIn K mainGlobals "thin_rows" = some (some (.ref f4)))
    (l4 : K.lookup f4 = some ⟨oc4, od4, .func (PySem.W.fnOf "thin_rows" "thin_rows" (fnArgs s_thin_rows) (fnBody s_thin_rows) (fnScope s_thin_rows) .none kV4 dc4 pm4 an4 cd4 ct4), sl4⟩)
    (c4 : PySem.W.codeIn K cd4 "thin_rows" = true)
    (k4 : PySem.W.keepIn K (.ref f4) = true)
    (a5 : PySem.W.nsIn K mainGlobals "any_at_most" = some (some (.ref f5)))
    (l5 : K.lookup f5 = some ⟨oc5, od5, .func (PySem.W.fnOf "any_at_most" "any_at_most" (fnArgs s_any_at_most) (fnBody s_any_at_most) (fnScope s_any_at_most) .none kV5 dc5 pm5 an5 cd5 ct5), sl5⟩)
    (c5 : PySem.W.codeIn K cd5 "any_at_most" = true)
    (k5 : PySem.W.keepIn K (.ref f5) = true)
    (a6 : PySem.W.nsIn K mainGlobals "never_alone" = some (some (.ref f6)))
    (l6 : K.lookup f6 = some ⟨oc6, od6, .func (PySem.W.fnOf "never_alone" "never_alone" (fnArgs s_never_alone) (fnBody s_never_alone) (fnScope s_never_alone) .none kV6 dc6 pm6 an6 cd6 ct6), sl6⟩)
    (c6 : PySem.W.codeIn K cd6 "never_alone" = true)
    (k6 : PySem.W.keepIn K (.ref f6) = true)
    (a7 : PySem.W.nsIn K mainGlobals "is_below_at" = some (some (.ref f7)))
    (l7 : K.lookup f7 = some ⟨oc7, od7, .func (PySem.W.fnOf "is_below_at" "is_below_at" (fnArgs s_is_below_at) (fnBody s_is_below_at) (fnScope s_is_below_at) .none kV7 dc7 pm7 an7 cd7 ct7), sl7⟩)
    (c7 : PySem.W.codeIn K cd7 "is_below_at" = true)
    (k7 : PySem.W.keepIn K (.ref f7) = true)
    (a8 : PySem.W.nsIn K mainGlobals "lowest_lines" = some (some (.ref f8)))
    (l8 : K.lookup f8 = some ⟨oc8, od8, .func (PySem.W.fnOf "lowest_lines" "lowest_lines" (fnArgs s_lowest_lines) (fnBody s_lowest_lines) (fnScope s_lowest_lines) .none kV8 dc8 pm8 an8 cd8 ct8), sl8⟩)
    (c8 : PySem.W.codeIn K cd8 "lowest_lines" = true)
    (k8 : PySem.W.keepIn K (.ref f8) = true)
    (a9 : PySem.W.nsIn K mainGlobals "_law_bag" = some (some (.ref f9)))
    (l9 : K.lookup f9 = some ⟨oc9, od9, .func (PySem.W.fnOf "_law_bag" "_law_bag" (fnArgs s__law_bag) (fnBody s__law_bag) (fnScope s__law_bag) .none kV9 dc9 pm9 an9 cd9 ct9), sl9⟩)
    (c9 : PySem.W.codeIn K cd9 "_law_bag" = true)
    (k9 : PySem.W.keepIn K (.ref f9) = true)
    (a10 : PySem.W.nsIn K mainGlobals "_law_draw" = some (some (.ref f10)))
    (l10 : K.lookup f10 = some ⟨oc10, od10, .func (PySem.W.fnOf "_law_draw" "_law_draw" (fnArgs s__law_draw) (fnBody s__law_draw) (fnScope s__law_draw) .none kV10 dc10 pm10 an10 cd10 ct10), sl10⟩)
    (c10 : PySem.W.codeIn K cd10 "_law_draw" = true)
    (k10 : PySem.W.keepIn K (.ref f10) = true)
    (a11 : PySem.W.nsIn K mainGlobals "_law_of" = some (some (.ref f11)))
    (l11 : K.lookup f11 = some ⟨oc11, od11, .func (PySem.W.fnOf "_law_of" "_law_of" (fnArgs s__law_of) (fnBody s__law_of) (fnScope s__law_of) .none kV11 dc11 pm11 an11 cd11 ct11), sl11⟩)
    (c11 : PySem.W.codeIn K cd11 "_law_of" = true)
    (k11 : PySem.W.keepIn K (.ref f11) = true)
    (a12 : PySem.W.nsIn K mainGlobals "_law_turned" = some (some (.ref f12)))
    (l12 : K.lookup f12 = some ⟨oc12, od12, .func (PySem.W.fnOf "_law_turned" "_law_turned" (fnArgs s__law_turned) (fnBody s__law_turned) (fnScope s__law_turned) .none kV12 dc12 pm12 an12 cd12 ct12), sl12⟩)
    (c12 : PySem.W.codeIn K cd12 "_law_turned" = true)
    (k12 : PySem.W.keepIn K (.ref f12) = true)
    (a13 : PySem.W.nsIn K mainGlobals "_law_like" = some (some (.ref f13)))
    (l13 : K.lookup f13 = some ⟨oc13, od13, .func (PySem.W.fnOf "_law_like" "_law_like" (fnArgs s__law_like) (fnBody s__law_like) (fnScope s__law_like) .none kV13 dc13 pm13 an13 cd13 ct13), sl13⟩)
    (c13 : PySem.W.codeIn K cd13 "_law_like" = true)
    (k13 : PySem.W.keepIn K (.ref f13) = true)
    (a14 : PySem.W.nsIn K mainGlobals "_law_is_number" = some (some (.ref f14)))
    (l14 : K.lookup f14 = some ⟨oc14, od14, .func (PySem.W.fnOf "_law_is_number" "_law_is_number" (fnArgs s__law_is_number) (fnBody s__law_is_number) (fnScope s__law_is_number) .none kV14 dc14 pm14 an14 cd14 ct14), sl14⟩)
    (c14 : PySem.W.codeIn K cd14 "_law_is_number" = true)
    (k14 : PySem.W.keepIn K (.ref f14) = true)
    (a15 : PySem.W.nsIn K mainGlobals "_law_span" = some (some (.ref f15)))
    (l15 : K.lookup f15 = some ⟨oc15, od15, .func (PySem.W.fnOf "_law_span" "_law_span" (fnArgs s__law_span) (fnBody s__law_span) (fnScope s__law_span) .none kV15 dc15 pm15 an15 cd15 ct15), sl15⟩)
    (c15 : PySem.W.codeIn K cd15 "_law_span" = true)
    (k15 : PySem.W.keepIn K (.ref f15) = true)
    (a16 : PySem.W.nsIn K mainGlobals "_law_lines" = some (some (.ref f16)))
    (l16 : K.lookup f16 = some ⟨oc16, od16, .func (PySem.W.fnOf "_law_lines" "_law_lines" (fnArgs s__law_lines) (fnBody s__law_lines) (fnScope s__law_lines) .none kV16 dc16 pm16 an16 (.ref cL) ct16), sl16⟩)
    (c16 : PySem.W.codeIn K (.ref cL) "_law_lines" = true)
    (k16 : PySem.W.keepIn K (.ref f16) = true)
    (a17 : PySem.W.nsIn K mainGlobals "_law_pairs" = some (some (.ref f17)))
    (l17 : K.lookup f17 = some ⟨oc17, od17, .func (PySem.W.fnOf "_law_pairs" "_law_pairs" (fnArgs s__law_pairs) (fnBody s__law_pairs) (fnScope s__law_pairs) .none kV17 dc17 pm17 an17 cd17 ct17), sl17⟩)
    (c17 : PySem.W.codeIn K cd17 "_law_pairs" = true)
    (k17 : PySem.W.keepIn K (.ref f17) = true)
    (a18 : PySem.W.nsIn K mainGlobals "_law_tuple_of" = some (some (.ref f18)))
    (l18 : K.lookup f18 = some ⟨oc18, od18, .func (PySem.W.fnOf "_law_tuple_of" "_law_tuple_of" (fnArgs s__law_tuple_of) (fnBody s__law_tuple_of) (fnScope s__law_tuple_of) .none kV18 dc18 pm18 an18 cd18 ct18), sl18⟩)
    (c18 : PySem.W.codeIn K cd18 "_law_tuple_of" = true)
    (k18 : PySem.W.keepIn K (.ref f18) = true)
    (a19 : PySem.W.nsIn K mainGlobals "_law_through" = some (some (.ref f19)))
    (l19 : K.lookup f19 = some ⟨oc19, od19, .func (PySem.W.fnOf "_law_through" "_law_through" (fnArgs s__law_through) (fnBody s__law_through) (fnScope s__law_through) .none kV19 dc19 pm19 an19 cd19 ct19), sl19⟩)
    (c19 : PySem.W.codeIn K cd19 "_law_through" = true)
    (k19 : PySem.W.keepIn K (.ref f19) = true)
    (a20 : PySem.W.nsIn K mainGlobals "_law_star" = some (some (.ref f20)))
    (l20 : K.lookup f20 = some ⟨oc20, od20, .func (PySem.W.fnOf "_law_star" "_law_star" (fnArgs s__law_star) (fnBody s__law_star) (fnScope s__law_star) .none kV20 dc20 pm20 an20 cd20 ct20), sl20⟩)
    (c20 : PySem.W.codeIn K cd20 "_law_star" = true)
    (k20 : PySem.W.keepIn K (.ref f20) = true)
    (a21 : PySem.W.nsIn K mainGlobals "_law_bow" = some (some (.ref f21)))
    (l21 : K.lookup f21 = some ⟨oc21, od21, .func (PySem.W.fnOf "_law_bow" "_law_bow" (fnArgs s__law_bow) (fnBody s__law_bow) (fnScope s__law_bow) .none kV21 dc21 pm21 an21 cd21 ct21), sl21⟩)
    (c21 : PySem.W.codeIn K cd21 "_law_bow" = true)
    (k21 : PySem.W.keepIn K (.ref f21) = true)
    (a22 : PySem.W.nsIn K mainGlobals "_law_rays" = some (some (.ref f22)))
    (l22 : K.lookup f22 = some ⟨oc22, od22, .func (PySem.W.fnOf "_law_rays" "_law_rays" (fnArgs s__law_rays) (fnBody s__law_rays) (fnScope s__law_rays) .none kV22 dc22 pm22 an22 cd22 ct22), sl22⟩)
    (c22 : PySem.W.codeIn K cd22 "_law_rays" = true)
    (k22 : PySem.W.keepIn K (.ref f22) = true)
    (a23 : PySem.W.nsIn K mainGlobals "_law_settings" = some (some (.ref f23)))
    (l23 : K.lookup f23 = some ⟨oc23, od23, .func (PySem.W.fnOf "_law_settings" "_law_settings" (fnArgs s__law_settings) (fnBody s__law_settings) (fnScope s__law_settings) .none kV23 dc23 pm23 an23 cd23 ct23), sl23⟩)
    (c23 : PySem.W.codeIn K cd23 "_law_settings" = true)
    (k23 : PySem.W.keepIn K (.ref f23) = true)
    (a24 : PySem.W.nsIn K mainGlobals "_law_read_at" = some (some (.ref f24)))
    (l24 : K.lookup f24 = some ⟨oc24, od24, .func (PySem.W.fnOf "_law_read_at" "_law_read_at" (fnArgs s__law_read_at) (fnBody s__law_read_at) (fnScope s__law_read_at) .none kV24 dc24 pm24 an24 cd24 ct24), sl24⟩)
    (c24 : PySem.W.codeIn K cd24 "_law_read_at" = true)
    (k24 : PySem.W.keepIn K (.ref f24) = true)
    (a25 : PySem.W.nsIn K mainGlobals "_law_rays_so" = some (some (.ref f25)))
    (l25 : K.lookup f25 = some ⟨oc25, od25, .func (PySem.W.fnOf "_law_rays_so" "_law_rays_so" (fnArgs s__law_rays_so) (fnBody s__law_rays_so) (fnScope s__law_rays_so) .none kV25 dc25 pm25 an25 cd25 ct25), sl25⟩)
    (c25 : PySem.W.codeIn K cd25 "_law_rays_so" = true)
    (k25 : PySem.W.keepIn K (.ref f25) = true)
    (a26 : PySem.W.findIn K (.ref CH) "__init__" = some (some (.ref f26)))
    (i26 : PySem.W.isFn K (.ref f26) = true)
    (l26 : K.lookup f26 = some ⟨oc26, od26, .func (PySem.W.fnOf "__init__" "Dial.__init__" (fnArgs s_Dial___init__) (fnBody s_Dial___init__) (fnScope s_Dial___init__) .none kV26 dc26 pm26 an26 cd26 ct26), sl26⟩)
    (c26 : PySem.W.codeIn K cd26 "Dial.__init__" = true)
    (k26 : PySem.W.keepIn K (.ref f26) = true)
    (a27 : PySem.W.findIn K (.ref CH) "best" = some (some (.ref f27)))
    (i27 : PySem.W.isFn K (.ref f27) = true)
    (l27 : K.lookup f27 = some ⟨oc27, od27, .func (PySem.W.fnOf "best" "Dial.best" (fnArgs s_Dial_best) (fnBody s_Dial_best) (fnScope s_Dial_best) .none kV27 dc27 pm27 an27 cd27 ct27), sl27⟩)
    (c27 : PySem.W.codeIn K cd27 "Dial.best" = true)
    (k27 : PySem.W.keepIn K (.ref f27) = true)
    (a28 : PySem.W.findIn K (.ref CH) "then" = some (some (.ref f28)))
    (i28 : PySem.W.isFn K (.ref f28) = true)
    (l28 : K.lookup f28 = some ⟨oc28, od28, .func (PySem.W.fnOf "then" "Dial.then" (fnArgs s_Dial_then) (fnBody s_Dial_then) (fnScope s_Dial_then) .none kV28 dc28 pm28 an28 cd28 ct28), sl28⟩)
    (c28 : PySem.W.codeIn K cd28 "Dial.then" = true)
    (k28 : PySem.W.keepIn K (.ref f28) = true)
    (a29 : PySem.W.nsIn K mainGlobals "law" = some (some (.ref f29)))
    (l29 : K.lookup f29 = some ⟨oc29, od29, .func (PySem.W.fnOf "law" "law" (fnArgs s_law) (fnBody s_law) (fnScope s_law) .none kV29 dc29 pm29 an29 cd29 ct29), sl29⟩)
    (c29 : PySem.W.codeIn K cd29 "law" = true)
    (k29 : PySem.W.keepIn K (.ref f29) = true)
    (z0 : PySem.W.nsIn K mainGlobals "all" = some none)
    (z1 : PySem.W.nsIn K mainGlobals "any" = some none)
    (z2 : PySem.W.nsIn K mainGlobals "bool" = some none)
    (z3 : PySem.W.nsIn K mainGlobals "dict" = some none)
    (z4 : PySem.W.nsIn K mainGlobals "int" = some none)
    (z5 : PySem.W.nsIn K mainGlobals "isinstance" = some none)
    (z6 : PySem.W.nsIn K mainGlobals "len" = some none)
    (z7 : PySem.W.nsIn K mainGlobals "list" = some none)
    (z8 : PySem.W.nsIn K mainGlobals "min" = some none)
    (z9 : PySem.W.nsIn K mainGlobals "range" = some none)
    (z10 : PySem.W.nsIn K mainGlobals "reversed" = some none)
    (z11 : PySem.W.nsIn K mainGlobals "set" = some none)
    (z12 : PySem.W.nsIn K mainGlobals "sorted" = some none)
    (z13 : PySem.W.nsIn K mainGlobals "str" = some none)
    (z14 : PySem.W.nsIn K mainGlobals "tuple" = some none)
    (z15 : PySem.W.nsIn K mainGlobals "zip" = some none)
    (m0 : PySem.W.nsIn K mainGlobals "MOST" = some (some (.int 1000000 g0)))
    (m1 : PySem.W.nsIn K mainGlobals "LETTERS" = some (some (.int 8 g1)))
    (cc : K.lookup cL = some ⟨occ, odc, .fields vsc, slc⟩)
    (pp : vsc[11]? = some (.ref PL)) :
    PySem.W.tabIn K "_law_lines" = some (cL, PL) ∧ ∃ fd : FuncData, (∀ (s : Shared) (v : Value), BindsTo s fd ⟨[v], []⟩ [("script", v)]) ∧ ∀ base : Heap, K.In base → base.Ns mainGlobals mg → LamX.TabB base mg cL PL → FnOk l.prog w K mg base C8.CX0 9 fa fd ["script"] (spLaw7 K PL) := by
  have T : Top K mg CH :=
    { cl_Dial := ⟨pg, hd, po, sa⟩
      g_Dial := PySem.W.mg_of X G aC
      na_wish := nwish
      na_slope := nslope
      na_top := ntop
      na_stay := nstay
      d_is_name := ⟨f1, _, ⟨⟨_, _, _, _, _, _, _, _, _, _, rfl, l1, c1⟩, PySem.W.mg_of X G a1, k1⟩, rfl⟩
      d_is_number := ⟨f2, _, ⟨⟨_, _, _, _, _, _, _, _, _, _, rfl, l2, c2⟩, PySem.W.mg_of X G a2, k2⟩, .inr ⟨(by intro h; cases h), t2, _, [.int 0 dt2_0, .none], tn2, rfl, d2, rfl, (.cons ⟨_, rfl⟩ (.cons rfl .nil))⟩⟩
      d_is_at_most := ⟨f3, _, ⟨⟨_, _, _, _, _, _, _, _, _, _, rfl, l3, c3⟩, PySem.W.mg_of X G a3, k3⟩, rfl⟩
      d_thin_rows := ⟨f4, _, ⟨⟨_, _, _, _, _, _, _, _, _, _, rfl, l4, c4⟩, PySem.W.mg_of X G a4, k4⟩, rfl⟩
      d_any_at_most := ⟨f5, _, ⟨⟨_, _, _, _, _, _, _, _, _, _, rfl, l5, c5⟩, PySem.W.mg_of X G a5, k5⟩, rfl⟩
      d_never_alone := ⟨f6, _, ⟨⟨_, _, _, _, _, _, _, _, _, _, rfl, l6, c6⟩, PySem.W.mg_of X G a6, k6⟩, rfl⟩
      d_is_below_at := ⟨f7, _, ⟨⟨_, _, _, _, _, _, _, _, _, _, rfl, l7, c7⟩, PySem.W.mg_of X G a7, k7⟩, rfl⟩
      d_lowest_lines := ⟨f8, _, ⟨⟨_, _, _, _, _, _, _, _, _, _, rfl, l8, c8⟩, PySem.W.mg_of X G a8, k8⟩, rfl⟩
      d__law_bag := ⟨f9, _, ⟨⟨_, _, _, _, _, _, _, _, _, _, rfl, l9, c9⟩, PySem.W.mg_of X G a9, k9⟩, rfl⟩
      d__law_draw := ⟨f10, _, ⟨⟨_, _, _, _, _, _, _, _, _, _, rfl, l10, c10⟩, PySem.W.mg_of X G a10, k10⟩, rfl⟩
      d__law_of := ⟨f11, _, ⟨⟨_, _, _, _, _, _, _, _, _, _, rfl, l11, c11⟩, PySem.W.mg_of X G a11, k11⟩, rfl⟩
      d__law_turned := ⟨f12, _, ⟨⟨_, _, _, _, _, _, _, _, _, _, rfl, l12, c12⟩, PySem.W.mg_of X G a12, k12⟩, rfl⟩
      d__law_like := ⟨f13, _, ⟨⟨_, _, _, _, _, _, _, _, _, _, rfl, l13, c13⟩, PySem.W.mg_of X G a13, k13⟩, rfl⟩
      d__law_is_number := ⟨f14, _, ⟨⟨_, _, _, _, _, _, _, _, _, _, rfl, l14, c14⟩, PySem.W.mg_of X G a14, k14⟩, rfl⟩
      d__law_span := ⟨f15, _, ⟨⟨_, _, _, _, _, _, _, _, _, _, rfl, l15, c15⟩, PySem.W.mg_of X G a15, k15⟩, rfl⟩
      d__law_lines := ⟨f16, _, ⟨⟨_, _, _, _, _, _, _, _, _, _, rfl, l16, c16⟩, PySem.W.mg_of X G a16, k16⟩, rfl⟩
      d__law_pairs := ⟨f17, _, ⟨⟨_, _, _, _, _, _, _, _, _, _, rfl, l17, c17⟩, PySem.W.mg_of X G a17, k17⟩, rfl⟩
      d__law_tuple_of := ⟨f18, _, ⟨⟨_, _, _, _, _, _, _, _, _, _, rfl, l18, c18⟩, PySem.W.mg_of X G a18, k18⟩, rfl⟩
      d__law_through := ⟨f19, _, ⟨⟨_, _, _, _, _, _, _, _, _, _, rfl, l19, c19⟩, PySem.W.mg_of X G a19, k19⟩, rfl⟩
      d__law_star := ⟨f20, _, ⟨⟨_, _, _, _, _, _, _, _, _, _, rfl, l20, c20⟩, PySem.W.mg_of X G a20, k20⟩, rfl⟩
      d__law_bow := ⟨f21, _, ⟨⟨_, _, _, _, _, _, _, _, _, _, rfl, l21, c21⟩, PySem.W.mg_of X G a21, k21⟩, rfl⟩
      d__law_rays := ⟨f22, _, ⟨⟨_, _, _, _, _, _, _, _, _, _, rfl, l22, c22⟩, PySem.W.mg_of X G a22, k22⟩, rfl⟩
      d__law_settings := ⟨f23, _, ⟨⟨_, _, _, _, _, _, _, _, _, _, rfl, l23, c23⟩, PySem.W.mg_of X G a23, k23⟩, rfl⟩
      d__law_read_at := ⟨f24, _, ⟨⟨_, _, _, _, _, _, _, _, _, _, rfl, l24, c24⟩, PySem.W.mg_of X G a24, k24⟩, rfl⟩
      d__law_rays_so := ⟨f25, _, ⟨⟨_, _, _, _, _, _, _, _, _, _, rfl, l25, c25⟩, PySem.W.mg_of X G a25, k25⟩, rfl⟩
      d_Dial___init__ := ⟨f26, _, ⟨mk, a26, i26, kC⟩, ⟨_, _, _, _, _, _, _, _, _, _, rfl, l26, c26⟩, rfl⟩
      d_Dial_best := ⟨f27, _, ⟨a27, i27, k27⟩, ⟨_, _, _, _, _, _, _, _, _, _, rfl, l27, c27⟩, rfl⟩
      d_Dial_then := ⟨f28, _, ⟨a28, i28, k28⟩, ⟨_, _, _, _, _, _, _, _, _, _, rfl, l28, c28⟩, rfl⟩
      d_law := ⟨f29, _, ⟨⟨_, _, _, _, _, _, _, _, _, _, rfl, l29, c29⟩, PySem.W.mg_of X G a29, k29⟩, rfl⟩
      all := PySem.W.mg_none_of X G z0
      any := PySem.W.mg_none_of X G z1
      bool := PySem.W.mg_none_of X G z2
      dict := PySem.W.mg_none_of X G z3
      int := PySem.W.mg_none_of X G z4
      isinstance := PySem.W.mg_none_of X G z5
      len := PySem.W.mg_none_of X G z6
      list := PySem.W.mg_none_of X G z7
      min := PySem.W.mg_none_of X G z8
      range := PySem.W.mg_none_of X G z9
      reversed := PySem.W.mg_none_of X G z10
      set := PySem.W.mg_none_of X G z11
      sorted := PySem.W.mg_none_of X G z12
      str := PySem.W.mg_none_of X G z13
      tuple := PySem.W.mg_none_of X G z14
      zip := PySem.W.mg_none_of X G z15
      m_MOST := ⟨_, PySem.W.mg_of X G m0, _, rfl⟩
      m_LETTERS := ⟨_, PySem.W.mg_of X G m1, _, rfl⟩ }
  refine ⟨?_, ?_⟩
  · unfold PySem.W.tabIn
    simp only [a16, l16, cc, pp]
  have ea := hfa.symm.trans (PySem.W.mg_of X G a29)
  cases ea
  exact ⟨_, fun s v => .of_eq rfl, fun base _ _ tb => ok_law T ⟨⟨f16, _, ⟨⟨_, _, _, _, _, _, _, _, _, _, rfl, l16, c16⟩, PySem.W.mg_of X G a16, k16⟩, rfl, rfl⟩, tb⟩ ⟨⟨_, _, _, _, _, _, _, _, _, _, rfl, l29, c29⟩, PySem.W.mg_of X G a29, k29⟩⟩
theorem law_at {l : PySem.W.OpenLaw} {w : World} {K : PySem.W.Frag} {mg mb : Str → Option Value} {fa cL PL : Addr} {h : Heap} {q : Program} {loose : List Str} {mean : ExcName → Option Value} {d : DefRec} {k : Nat} (T : PyProof.Rows.Top q loose mean mg mb h) (KX : K.In h) (hr : (PyProof.Rows.recsOf q).find? (fun e => e.name == ("_law_lines" : Str)) = some d)
    (nP : PySem.W.noTabs K = true) (all : PySem.W.tabIn K "_law_lines" = some (cL, PL) ∧ ∃ fd : FuncData, (∀ (s : Shared) (v : Value), BindsTo s fd ⟨[v], []⟩ [("script", v)]) ∧ ∀ base : Heap, K.In base → base.Ns mainGlobals mg → LamX.TabB base mg cL PL → FnOk l.prog w K mg base C8.CX0 k fa fd ["script"] (spLaw7 K PL)) :
    LamX.LawAtS l w K C8.CX0 k 63 "script" mg fa h := by
  obtain ⟨ht, fd, hb, hF⟩ := all
  obtain ⟨C, hP⟩ := PySem.W.tab_of T KX hr ht
  refine ⟨fd, [(cL, PL)], spLaw7 K PL, fun p hp => ?_, fun p hp => ?_, fun p hp => ?_, hb, fun H a ns _ _ hH hS => ⟨_, rfl, a, ns, rfl, hS, fun p hp => ?_, fun _ => rfl⟩, fun base kb gb tb => hF base kb gb (tb (cL, PL) (List.mem_cons_self ..))⟩
  · rw [List.mem_singleton.mp hp]
    exact hP
  · rw [List.mem_singleton.mp hp]
    cases e : K.lookup PL with
    | none => rfl
    | some o =>
      have e2 := KX _ _ e
      rw [hP] at e2
      cases e2
      have h2 := List.all_eq_true.mp nP (PL, _) (PySem.W.mem_of_lookupK e)
      cases h2
  · rw [List.mem_singleton.mp hp]
    exact C
  · rw [List.mem_singleton.mp hp]
    exact LamX.TabS.nil (hH (cL, PL) (List.mem_cons_self ..))
theorem walk_tabs {l : PySem.W.OpenLaw} {k : Nat} {q : Program} {loose : List Str} {XP : (Str → Option Value) → Heap → Prop} {YP : World → Heap → Prop} {d : DefRec} {K : Params → PySem.W.Frag}
    (hn : l.most = some 63) (hdf : d.params.defaults = []) (hr : Room k callerA) (hY : ∀ (w : World) (h : Heap), YP w h → (K w.params).In h)
    (F : ∀ (w : World) (mg mb : Str → Option Value) (fa : Addr) (h : Heap) (mean : ExcName → Option Value) (free : List Str), PyProof.Rows.Top q free mean mg mb h → (K w.params).In h → mg d.name = some (.ref fa) → LamX.LawAtS l w (K w.params) C8.CX0 k 63 "script" mg fa h) :
    PySem.W.WalkO q loose XP YP l.row.toRowW d [] (fun f vs => PySem.call f vs) := by
  refine Att.attach_callB hn hdf fun w s₀ s₁ mg mb fa o pm cd doc a vs ns G Y ho hd hcd hmg hobj hints hlen hbits hg => ?_
  have KX := hY w _ Y
  obtain ⟨fd, cs, sp, hT, nT, C, hb, hsp, hF⟩ := F w mg mb fa _ _ _ G.T KX hmg
  exact LamX.law_callTs KX G.T.g G.T.b G.T.builtins G.T.nolimit hg hT nT C G.T.bmain hobj hints (Nat.le_trans hlen (by decide)) hr hF hb (fun H hH hS => hsp H a ns hlen hbits hH hS) fun H e s' z => z
end Fb
open PySem PySem.W PyProof.Rows
set_option maxRecDepth 100000 in
set_option maxHeartbeats 0 in
theorem PySem.Challenge.cw_feeblind_k07_lines_alone_least_holds : PySem.Challenge.rw_feeblind_k07_lines_alone_least.Holds := by
  w_on; o_law; k_head; (case hw => w_witness2)
  k_fill
  refine Fb.walk_tabs (l := PySem.Challenge.rw_feeblind_k07_lines_alone_least) (k := 9) rfl rfl ⟨rfl, by decide, by decide⟩ (fun w h Y => PySem.W.km_in_of Y) ?F
  case F =>
    intro w mg mb fa h mean free T KX hmg
    refine' Fb.law_at (cL := ?cL) (PL := ?PL) T KX rfl (by kernel_rfl) ?all
    case all =>
    have G := T.g
    refine' Fb.all_mk KX G hmg ?aC ?pg ?hd ?po ?sa ?mk ?kC ?nwish ?nslope ?ntop ?nstay ?a1 ?l1 ?c1 ?k1 ?a2 ?l2 ?c2 ?k2 ?d2 ?a3 ?l3 ?c3 ?k3 ?a4 ?l4 ?c4 ?k4 ?a5 ?l5 ?c5 ?k5 ?a6 ?l6 ?c6 ?k6 ?a7 ?l7 ?c7 ?k7 ?a8 ?l8 ?c8 ?k8 ?a9 ?l9 ?c9 ?k9 ?a10 ?l10 ?c10 ?k10 ?a11 ?l11 ?c11 ?k11 ?a12 ?l12 ?c12 ?k12 ?a13 ?l13 ?c13 ?k13 ?a14 ?l14 ?c14 ?k14 ?a15 ?l15 ?c15 ?k15 ?a16 ?l16 ?c16 ?k16 ?a17 ?l17 ?c17 ?k17 ?a18 ?l18 ?c18 ?k18 ?a19 ?l19 ?c19 ?k19 ?a20 ?l20 ?c20 ?k20 ?a21 ?l21 ?c21 ?k21 ?a22 ?l22 ?c22 ?k22 ?a23 ?l23 ?c23 ?k23 ?a24 ?l24 ?c24 ?k24 ?a25 ?l25 ?c25 ?k25 ?a26 ?i26 ?l26 ?c26 ?k26 ?a27 ?i27 ?l27 ?c27 ?k27 ?a28 ?i28 ?l28 ?c28 ?k28 ?a29 ?l29 ?c29 ?k29 ?z0 ?z1 ?z2 ?z3 ?z4 ?z5 ?z6 ?z7 ?z8 ?z9 ?z10 ?z11 ?z12 ?z13 ?z14 ?z15 ?m0 ?m1 ?cc ?pp
    (case aC => k_is)
    (case pg => k_is)
    (case hd => k_is)
    (case po => k_is)
    (case sa => k_is)
    (case mk => k_is)
    (case kC => k_is)
    (case nwish => k_is)
    (case nslope => k_is)
    (case ntop => k_is)
    (case nstay => k_is)
    (case a1 => k_is)
    (case l1 => k_is)
    (case c1 => k_is)
    (case k1 => k_is)
    (case a2 => k_is)
    (case l2 => k_is)
    (case c2 => k_is)
    (case k2 => k_is)
    (case d2 => k_is)
    (case a3 => k_is)
    (case l3 => k_is)
    (case c3 => k_is)
    (case k3 => k_is)
    (case a4 => k_is)
    (case l4 => k_is)
    (case c4 => k_is)
    (case k4 => k_is)
    (case a5 => k_is)
    (case l5 => k_is)
    (case c5 => k_is)
    (case k5 => k_is)
    (case a6 => k_is)
    (case l6 => k_is)
    (case c6 => k_is)
    (case k6 => k_is)
    (case a7 => k_is)
    (case l7 => k_is)
    (case c7 => k_is)
    (case k7 => k_is)
    (case a8 => k_is)
    (case l8 => k_is)
    (case c8 => k_is)
    (case k8 => k_is)
    (case a9 => k_is)
    (case l9 => k_is)
    (case c9 => k_is)
    (case k9 => k_is)
    (case a10 => k_is)
    (case l10 => k_is)
    (case c10 => k_is)
    (case k10 => k_is)
    (case a11 => k_is)
    (case l11 => k_is)
    (case c11 => k_is)
    (case k11 => k_is)
    (case a12 => k_is)
    (case l12 => k_is)
    (case c12 => k_is)
    (case k12 => k_is)
    (case a13 => k_is)
    (case l13 => k_is)
    (case c13 => k_is)
    (case k13 => k_is)
    (case a14 => k_is)
    (case l14 => k_is)
    (case c14 => k_is)
    (case k14 => k_is)
    (case a15 => k_is)
    (case l15 => k_is)
    (case c15 => k_is)
    (case k15 => k_is)
    (case a16 => k_is)
    (case l16 => k_is)
    (case c16 => k_is)
    (case k16 => k_is)
    (case a17 => k_is)
    (case l17 => k_is)
    (case c17 => k_is)
    (case k17 => k_is)
    (case a18 => k_is)
    (case l18 => k_is)
    (case c18 => k_is)
    (case k18 => k_is)
    (case a19 => k_is)
    (case l19 => k_is)
    (case c19 => k_is)
    (case k19 => k_is)
    (case a20 => k_is)
    (case l20 => k_is)
    (case c20 => k_is)
    (case k20 => k_is)
    (case a21 => k_is)
    (case l21 => k_is)
    (case c21 => k_is)
    (case k21 => k_is)
    (case a22 => k_is)
    (case l22 => k_is)
    (case c22 => k_is)
    (case k22 => k_is)
    (case a23 => k_is)
    (case l23 => k_is)
    (case c23 => k_is)
    (case k23 => k_is)
    (case a24 => k_is)
    (case l24 => k_is)
    (case c24 => k_is)
    (case k24 => k_is)
    (case a25 => k_is)
    (case l25 => k_is)
    (case c25 => k_is)
    (case k25 => k_is)
    (case a26 => k_is)
    (case i26 => k_is)
    (case l26 => k_is)
    (case c26 => k_is)
    (case k26 => k_is)
    (case a27 => k_is)
    (case i27 => k_is)
    (case l27 => k_is)
    (case c27 => k_is)
    (case k27 => k_is)
    (case a28 => k_is)
    (case i28 => k_is)
    (case l28 => k_is)
    (case c28 => k_is)
    (case k28 => k_is)
    (case a29 => k_is)
    (case l29 => k_is)
    (case c29 => k_is)
    (case k29 => k_is)
    (case z0 => k_is)
    (case z1 => k_is)
    (case z2 => k_is)
    (case z3 => k_is)
    (case z4 => k_is)
    (case z5 => k_is)
    (case z6 => k_is)
    (case z7 => k_is)
    (case z8 => k_is)
    (case z9 => k_is)
    (case z10 => k_is)
    (case z11 => k_is)
    (case z12 => k_is)
    (case z13 => k_is)
    (case z14 => k_is)
    (case z15 => k_is)
    (case m0 => k_is)
    (case m1 => k_is)
    (case cc => k_is)
    (case pp => exact rfl)

