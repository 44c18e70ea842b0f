import PyProof.Rows.All
import Wide.All
import OpenK.AllK
import Wide.FinOn
import HandS.Base
import HandS.Call
import HandS.List
import HandS.Comp
import HandS.Iter
import HandS.Dict
import HandS.Text
import HandS.Ends
import HandS.Words
import HandS.WordsList
import HandS.Wide
import HandS.Defaults
import HandS.Zip
import KE.DataEq
import HandS.Walk
import HandS.IsInst
import HandS.Codes
import HandS.Rev
import HandS.RevRange
import KE.GoesEnum
import KE.SortData
import HandS.Style
import HandS.SortInts
import HandS.TupSets
import KE.SortKeyHeap
import KE.KSortKey
import HandS.Lambda
import HandS.SortKw
import HandS.Deep
import HandS.TryOnly
import HandS.EndTab
import KE.KeyNested
import KE.DataFind
import HandS.Star
import HandS.TupMul
import HandS.TupAny
import PySem.Challenge.RW_feeblind_k72_whole_dial_reads_trade
set_option Elab.async false
set_option linter.all false
set_option maxRecDepth 100000
set_option maxHeartbeats 4000000
/-! Rules that serve several kinds at once, and the bag of draws. -/
namespace Fb
open PySem PySem.Spec L2
open PyProof.Rows hiding St

/-! ### heaps that only grow -/
theorem grow {H : Hp} {p : Addr} {o : HO} (h : H p = none) : Same H (upd H p o) := by
  intro b u e
  rw [upd_ne (ne_of_none e h)]
  exact e
theorem upd_self {H : Hp} {p : Addr} {o : HO} (h : H p = some o) : upd H p o = H := by
  funext b
  unfold upd
  by_cases e : b = p
  · rw [if_pos e, e, h]
  · rw [if_neg e]
theorem same_tup {K : PySem.W.Frag} {H H' : Hp} {a : Addr} {xs : List V} (e : Same H H') (h : SqT K H a xs) : SqT K H' a xs := by
  rcases h with (h | ⟨o, h⟩) | h
  · exact Or.inl (Or.inl (e _ _ h))
  · exact Or.inl (Or.inr ⟨o, e _ _ h⟩)
  · exact Or.inr h

/-! ### == of data of any depth below sixty, whatever signs its texts have -/
mutual
theorem dp_plain {K : PySem.W.Frag} {H : Hp} : ∀ (d : PyData) {v : V}, Dp K H v d → d.plain = true
  | .none, _, _ => rfl
  | .bool _, _, _ => rfl
  | .int _, _, _ => rfl
  | .str _, _, _ => rfl
  | .list ds, _, h => by
    cases h with
    | lst _ a => exact dpAll_plain ds a
  | .tuple ds, _, h => by
    cases h with
    | tup _ a => exact dpAll_plain ds a
  | .dict _, _, h => by cases h
theorem dpAll_plain {K : PySem.W.Frag} {H : Hp} : ∀ (ds : List PyData) {vs : List V}, DpAll K H vs ds → PyData.plainAll ds = true
  | [], _, _ => rfl
  | d :: ds, _, h => by
    cases h with
    | cons a b =>
      have h1 := dp_plain d a
      have h2 := dpAll_plain ds b
      simp only [PyData.plainAll, h1, h2, Bool.and_self]
end
def rEqP (K : PySem.W.Frag) : R2 := fun x y H Q => ∃ d e, Dp K H x d ∧ Dp K H y e ∧ min d.depth e.depth ≤ 60 ∧ Q (.bl (PyData.eqv d e)) H
def rNeP (K : PySem.W.Frag) : R2 := fun x y H Q => ∃ d e, Dp K H x d ∧ Dp K H y e ∧ min d.depth e.depth ≤ 60 ∧ Q (.bl (!PyData.eqv d e)) H
section
variable {X : Cx} {k : Nat}
theorem op_eqP (hr : Room k X.A) : OpR X (compareOp .Eq) (rEqP X.K) := by
  rintro pins s σ H x y v u Q I rx ry ⟨d, e, hd, he, hl, q⟩
  obtain ⟨as, r1⟩ := Dp.reads I d x v hd rx
  obtain ⟨bs, r2⟩ := Dp.reads I e y u he ry
  have hu := hr.units
  exact SeqAt.eq_plain r1 r2 (dp_plain d hd) (dp_plain e he) (by omega) ⟨.bl _, H, I, rfl, q⟩
theorem op_neP (hr : Room k X.A) : OpR X (compareOp .NotEq) (rNeP X.K) := by
  rintro pins s σ H x y v u Q I rx ry ⟨d, e, hd, he, hl, q⟩
  obtain ⟨as, r1⟩ := Dp.reads I d x v hd rx
  obtain ⟨bs, r2⟩ := Dp.reads I e y u he ry
  have hu := hr.units
  exact SeqAt.ne_plain r1 r2 (dp_plain d hd) (dp_plain e he) (by omega) ⟨.bl _, H, I, rfl, q⟩
end

/-! ### rules for several kinds -/
def rAddStr : R2 := fun x y H Q => ∃ i j, x = .str i ∧ y = .str j ∧ i.length + j.length ≤ sizeLine ∧ Q (.str (i ++ j)) H
def rAddU : R2 := fun x y H Q => rI0 (fun i j => .int (i + j)) x y H Q ∨ rAddStr x y H Q ∨ rCat x y H Q
def rLeStr : R2 := fun x y H Q => ∃ i j, x = .str i ∧ y = .str j ∧ Q (.bl (!decide (j.cps.toList < i.cps.toList))) H
def rLeU : R2 := fun x y H Q => rI0 (fun i j => .bl (decide (i ≤ j))) x y H Q ∨ rLeStr x y H Q
def rLtStr : R2 := fun x y H Q => ∃ i j, x = .str i ∧ y = .str j ∧ Q (.bl (decide (i.cps.toList < j.cps.toList))) H
def rLtU (K : PySem.W.Frag) : R2 := fun x y H Q => rI0 (fun i j => .bl (decide (i < j))) x y H Q ∨ rLtStr x y H Q ∨ rLtT K x y H Q
def rEqU (K : PySem.W.Frag) : R2 := fun x y H Q => rEq x y H Q ∨ rEqP K x y H Q
def rNeU (K : PySem.W.Frag) : R2 := fun x y H Q => rNe x y H Q ∨ rNeP K x y H Q
def rLenSeq (K : PySem.W.Frag) : List V → Hp → VK → Prop := fun xs H Q => ∃ p ys, xs = [.ref p] ∧ (SqL K H p ys ∨ SqT K H p ys) ∧ Q (.int ys.length) H
def rLenStr : List V → Hp → VK → Prop := fun xs H Q => ∃ z, xs = [.str z] ∧ z.length ≤ sizeLine ∧ Q (.int z.length) H
def rLenDic : List V → Hp → VK → Prop := fun xs H Q => ∃ a kvs, xs = [V.ref a] ∧ H a = some (.dK kvs) ∧ Q (.int kvs.length) H
def rLenU (K : PySem.W.Frag) : List V → Hp → VK → Prop := fun xs H Q => rLenSeq K xs H Q ∨ rLenStr xs H Q
def rSlU (K : PySem.W.Frag) : V → Option Int → Option Int → Hp → VK → Prop := fun x lo hi H Q => rSlL K x lo hi H Q ∨ rSlS x lo hi H Q
section
variable {X : Cx} {k : Nat}
theorem op_addU : OpR X (binaryOp .Add) rAddU := op_add.or (op_add_str.or op_cat)
theorem op_leU : OpR X (compareOp .LtE) rLeU := op_le.or op_le_str
theorem op_geU : OpR X (compareOp .GtE) (rI0 fun i j => .bl (decide (j ≤ i))) := op_ge
theorem op_gtU : OpR X (compareOp .Gt) (rI0 fun i j => .bl (decide (j < i))) := op_gt
theorem op_ltU (hr : Room k X.A) : OpR X (compareOp .Lt) (rLtU X.K) := op_lt.or (op_lt_str.or (op_ltT hr.units0))
theorem op_eqU (hr : Room k X.A) : OpR X (compareOp .Eq) (rEqU X.K) := op_eq.or (op_eqP hr)
theorem op_neU (hr : Room k X.A) : OpR X (compareOp .NotEq) (rNeU X.K) := op_ne.or (op_neP hr)
theorem call_lenU : CallR X (.builtin "len") (rLenU X.K) := call_len_seq.or call_len_str
theorem sl_U : SlR X (rSlU X.K) := sl_list.or sl_str
end

/-! ### what a for walks, whatever it is: a list, a tuple, a text -/
def iAny (K : PySem.W.Frag) (tl : TE) : TI := fun σ H R => tl σ H fun x H1 =>
  (∃ a, x = .ref a ∧ (∃ xs, SqL K H1 a xs) ∧ R (Itl K a) H1) ∨ (∃ a, x = .ref a ∧ (∃ xs, SqT K H1 a xs) ∧ R (Itt K a) H1) ∨ (∃ z, x = .str z ∧ R (Its z) H1)
theorem pi_any {X : Cx} {tg l : Expr} {tl : TE} (hl : PE X l tl) : PI X tg l (iAny X.K tl) := by
  constructor
  intro pins s σ H R I h
  refine thn (hl.run pins s σ H _ I h) ?_
  rintro v s1 ⟨x, H1, I1, r1, q1⟩
  rcases q1 with ⟨a, e, ⟨xs, hq⟩, q⟩ | ⟨a, e, ⟨xs, hq⟩, q⟩ | ⟨z, e, q⟩
  all_goals subst e
  · cases r1
    obtain ⟨its, rv, p, hz⟩ := I1.list hq
    exact wpAny_pyIter_list p.isList (pi_one (tk := s1.toks) I1 _ (turn_list a _) ⟨_, Heap.get?_push_size _ rfl, rfl, rfl⟩ q)
  · cases r1
    obtain ⟨its, rv, p, hz⟩ := I1.tuple hq
    exact wpAny_pyIter_tuple (show s1.heap.IsTuple a its.toArray from p) (pi_one (tk := s1.toks) I1 _ (turn_tuple a _) ⟨_, Heap.get?_push_size _ rfl, rfl, rfl⟩ q)
  · obtain ⟨t, rfl⟩ := r1
    cases ha : z.cps.all (· < 128) with
    | false => exact wpAny_pyIter_wide ha (pi_one (tk := s1.toks) I1 _ (turn_str _ z t "str_iterator" (.inr rfl)) ⟨_, Heap.get?_push_size _ rfl, rfl, rfl⟩ q)
    | true => exact wpAny_pyIter_ascii ha (pi_one (tk := s1.toks) I1 _ (turn_str _ z t "str_ascii_iterator" (.inl rfl)) ⟨_, Heap.get?_push_size _ rfl, rfl, rfl⟩ q)

/-! ### an object tracked otherwise than before -/
theorem retrack {X : Cx} {pins : List (Addr × Obj)} {σ : St} {H : Hp} {s : Shared} {p : Addr} {o : HO} (I : Inv X pins σ H s) (mu : Mut (H p)) (there : ∃ u, s.heap.get? p = some u) (new : ObjOk X.prog X.w (upd H p o) s.heap p o) : Inv X pins σ (upd H p o) s :=
  I.write (h' := s.heap) (t' := s.toks) mu (.inl rfl) (fun _ _ _ e => e) there new

/-! ### the bag of draws: a list [the script's ints, how many are used, what is left of one, a stir, a count] -/
def bagL (q : Addr) (i c st t : Int) : List V := [.ref q, .int i, .int c, .int st, .int t]
def BagOk (i st : Int) : Prop := 0 ≤ i ∧ 0 ≤ st ∧ st < 2147483629
def bagO (q p : Addr) : HO := .ext fun h => ∃ (i c st t : Int) (its : List Value) (n : Nat), BagOk i st ∧ Vals (bagL q i c st t) its ∧ h.get? p = some { cls := .type "list", data := .seq its.toArray n }
theorem bag_shut {P : Program} {w : World} {H : Hp} {h : Heap} {q p : Addr} {i c st t : Int} (b : BagOk i st) (x : ObjOk P w H h p (.lst (bagL q i c st t))) : ObjOk P w H h p (bagO q p) := by
  obtain ⟨_, its, n, v, e⟩ := x
  refine ⟨⟨i, c, st, t, its, n, b, v, e⟩, ⟨_, e⟩, ?_⟩
  rintro h1 h2 ⟨i, c, st, t, its, n, b, v, e⟩ k
  exact ⟨i, c, st, t, its, n, b, v, k _ e⟩
theorem bag_opened {P : Program} {w : World} {H : Hp} {h : Heap} {q p : Addr} (x : ObjOk P w H h p (bagO q p)) : ∃ i c st t, BagOk i st ∧ ∀ H' : Hp, ObjOk P w H' h p (.lst (bagL q i c st t)) := by
  obtain ⟨⟨i, c, st, t, its, n, b, v, e⟩, _⟩ := x
  exact ⟨i, c, st, t, b, fun _ => ⟨by show 5 ≤ sizeLine; decide, its, n, v, e⟩⟩
/-- the bag at p stands as a list meanwhile -/
def shutAt (q p : Addr) (F : Hp → Prop) (H : Hp) : Prop := ∃ i c st t, BagOk i st ∧ H p = some (.lst (bagL q i c st t)) ∧ F (upd H p (bagO q p))
def tBag (t : TS) : TS := fun D σ H => ∃ p q, H p = some (bagO q p) ∧ ∀ i c st tt, BagOk i st →
  t ⟨fun σ' => shutAt q p (D.nx σ'), fun v => shutAt q p (D.rt v), fun σ' => shutAt q p (D.bk σ'), fun σ' => shutAt q p (D.ct σ')⟩ σ (upd H p (.lst (bagL q i c st tt)))
theorem shut {X : Cx} {pins : List (Addr × Obj)} {σ : St} {H : Hp} {s : Shared} {q p : Addr} {F : Hp → Prop} (I : Inv X pins σ H s) (h : shutAt q p F H) : ∃ H', Inv X pins σ H' s ∧ F H' := by
  obtain ⟨i, c, st, t, b, e, f⟩ := h
  have old := I.hok _ _ e
  obtain ⟨l, its, n, v, g⟩ := old
  exact ⟨_, retrack I (by rw [e]; trivial) ⟨_, g⟩ (bag_shut (H := upd H p (bagO q p)) b ⟨l, its, n, v, g⟩), f⟩
theorem pss_bag {X : Cx} {sts : List Stmt} {t : TS} (h : PSs X sts t) : PSs X sts (tBag t) := by
  constructor
  intro pins s σ H D I hw
  obtain ⟨p, q, hp, hw⟩ := hw
  obtain ⟨i, c, st, tt, b, ok⟩ := bag_opened (I.hok _ _ hp)
  have I1 := retrack (p := p) I (by rw [hp]; trivial) (I.hok _ _ hp).2.1 (ok _)
  refine thn (h.run pins s σ _ _ I1 (hw i c st tt b)) ?_
  intro f s1 r
  cases f with
  | next => obtain ⟨σ', H', I2, e⟩ := r; obtain ⟨H2, I3, f⟩ := shut I2 e; exact ⟨σ', H2, I3, f⟩
  | brk => obtain ⟨σ', H', I2, e⟩ := r; obtain ⟨H2, I3, f⟩ := shut I2 e; exact ⟨σ', H2, I3, f⟩
  | cont => obtain ⟨σ', H', I2, e⟩ := r; obtain ⟨H2, I3, f⟩ := shut I2 e; exact ⟨σ', H2, I3, f⟩
  | ret v => obtain ⟨x, σ', H', I2, rv, e⟩ := r; obtain ⟨H2, I3, f⟩ := shut I2 e; exact ⟨x, σ', H2, I3, rv, f⟩
/-- a list that is handed back becomes a bag -/
def tBagNew (t : TS) : TS := fun D σ H => t { D with rt := fun v H' => ∃ p q, v = .ref p ∧ shutAt q p (D.rt v) H' } σ H
theorem pss_bagNew {X : Cx} {sts : List Stmt} {t : TS} (h : PSs X sts t) : PSs X sts (tBagNew t) := by
  constructor
  intro pins s σ H D I hw
  refine thn (h.run pins s σ _ _ I hw) ?_
  intro f s1 r
  cases f with
  | next => exact r
  | brk => exact r
  | cont => exact r
  | ret v =>
    obtain ⟨x, σ', H', I2, rv, p, q, e, r⟩ := r
    obtain ⟨H2, I3, f⟩ := shut I2 r
    exact ⟨x, σ', H2, I3, rv, f⟩
end Fb

set_option Elab.async false
set_option linter.all false
set_option maxRecDepth 100000
set_option maxHeartbeats 4000000
namespace Fb
open PySem PySem.Spec L2
open PyProof.Rows hiding St
open C8 (Cal Met Mak Def cal0 met0 mak0 pe_c pe_mk pe_mt pe_mt0 fnScope fnBody fnArgs)

/-! ### isinstance of a built-in class, of a tuple of them -/
def anyB (a : String) : List String → Option Bool
  | [] => some false
  | b :: r => match kitB a b with
    | some true => some true
    | some false => anyB a r
    | none => none
theorem kit_any {K : PySem.W.Frag} {a : String} : ∀ {ns : List String} {b : Bool}, anyB a ns = some b → PySem.W.kitAny K (.type a) (ns.map Value.type) = some b
  | [], b, h => h
  | n :: r, b, h => by
    have ih := @kit_any K a r b
    unfold anyB at h
    rw [List.map_cons]
    unfold PySem.W.kitAny
    cases e : kitB a n with
    | none =>
      rw [e] at h
      cases h
    | some c =>
      rw [e] at h
      rw [kit_ty (K := K) e]
      cases c with
      | true => exact h
      | false => exact ih h
theorem clsAll : ∀ ns : List String, Paired ClsV (ns.map V.ty) (ns.map Value.type)
  | [] => .nil
  | n :: r => .cons (.ty n) (clsAll r)
def rIs1 (K : PySem.W.Frag) : List V → Hp → VK → Prop := fun xs H Q => ∃ (x : V) (n t : String) (b : Bool), xs = [x, .ty n] ∧ TyX K H x (.type t) ∧ kitB t n = some b ∧ Q (.bl b) H
def rIsN (K : PySem.W.Frag) : List V → Hp → VK → Prop := fun xs H Q => ∃ (x : V) (tp : Addr) (ns : List String) (t : String) (b : Bool), xs = [x, .ref tp] ∧ H tp = some (.tup (ns.map V.ty)) ∧ TyX K H x (.type t) ∧ anyB t ns = some b ∧ Q (.bl b) H
def rIsiU (K : PySem.W.Frag) : List V → Hp → VK → Prop := fun xs H Q => rIs1 K xs H Q ∨ rIsN K xs H Q
theorem CallR.imp {X : Cx} {f : Value} {r r' : List V → Hp → VK → Prop} (h : CallR X f r) (i : ∀ xs H Q, r' xs H Q → r xs H Q) : CallR X f r' :=
  fun pins s σ H xs us Q I rv q => h pins s σ H xs us Q I rv (i _ _ _ q)
theorem call_isiU {X : Cx} : CallR X (.builtin "isinstance") (rIsiU X.K) := by
  refine CallR.imp (call_isi.or call_isiT) fun xs H Q h => ?_
  rcases h with ⟨x, n, t, b, e, ty, kb, q⟩ | ⟨x, tp, ns, t, b, e, ht, ty, kb, q⟩
  · exact .inl ⟨x, _, _, _, b, e, .ty n, ty, kit_ty kb, q⟩
  · exact .inr ⟨x, tp, _, _, _, b, e, ht, clsAll ns, ty, kit_any kb, q⟩

/-! ### in, not in: a sign in a text, a flat value in a list or tuple -/
def rInSign (f : Bool → Bool) : R2 := fun x y H Q => ∃ (c : Nat) (z : Str), x = .str ⟨#[c]⟩ ∧ y = .str z ∧ Q (.bl (f (decide (c ∈ z.cps.toList)))) H
def rInU (K : PySem.W.Frag) : R2 := fun x y H Q => rInSign (fun b => b) x y H Q ∨ rIn K false x y H Q
def rNotInU (K : PySem.W.Frag) : R2 := fun x y H Q => rInSign (fun b => !b) x y H Q ∨ rIn K true x y H Q

/-! ### the same rules with the written part named (within a comprehension it must not lean on the block) -/
def rListOf (K : PySem.W.Frag) : List V → Hp → VK → Prop := fun xs H Q => ∃ p ys, xs = [.ref p] ∧ (SqL K H p ys ∨ SqT K H p ys) ∧ ∀ l, H l = none → Q (.ref l) (upd H l (.lst ys))
def rTupleOf (K : PySem.W.Frag) : List V → Hp → VK → Prop := fun xs H Q => ∃ p ys, xs = [.ref p] ∧ ((SqL K H p ys ∧ ∀ l, H l = none → Q (.ref l) (upd H l (.tup ys))) ∨ (SqT K H p ys ∧ Q (.ref p) H))
section
variable {X : Cx} {K : PySem.W.Frag} {k : Nat} (e : X.K = K)
include e
theorem ix_K : IxR X (rIx K) := e ▸ ix_seq
theorem eq_K (hr : Room k X.A) : OpR X (compareOp .Eq) (rEqU K) := e ▸ op_eqU hr
theorem ne_K (hr : Room k X.A) : OpR X (compareOp .NotEq) (rNeU K) := e ▸ op_neU hr
theorem lt_K (hr : Room k X.A) : OpR X (compareOp .Lt) (rLtU K) := e ▸ op_ltU hr
theorem in_K : OpR X (compareOp .In) (rInU K) := e ▸ op_in_sign.or op_in_seq
theorem notIn_K : OpR X (compareOp .NotIn) (rNotInU K) := e ▸ op_notIn_sign.or op_notIn_seq
theorem len_K : CallR X (.builtin "len") (rLenU K) := e ▸ call_lenU
theorem all_K (hc : X.calm = true) : CallR X (.builtin "all") (rAll K) := e ▸ cr_all hc
theorem any_K (hc : X.calm = true) : CallR X (.builtin "any") (rAny K) := e ▸ cr_any hc
theorem sl_K : SlR X (rSlU K) := e ▸ sl_U
theorem listOf_K : CallR X (.type "list") (rListOf K) := e ▸ call_list_of
theorem tupleOf_K : CallR X (.type "tuple") (rTupleOf K) := e ▸ call_tuple_of
theorem tup_K {es : List Expr} {kk n : Nat} {t : TGs} {pos : Pos} (hc : X.calm = true) (h : PGs X es t)
    (hn : (assignEach es X.env).length = n := by rfl) (hst : (assignEach es X.env).findIdx? (·.1) = none := by rfl) :
    PG X (.Tuple es kk pos) (gTup K n t) := e ▸ pg_tup hc h hn hst
theorem pi_K {tg l : Expr} {tl : TE} (hl : PE X l tl) : PI X tg l (iAny K tl) := e ▸ pi_any hl
theorem zip_K {e1 e2 : Expr} {ta : TA} {p pos tpos : Pos} {elts : List Expr} {kk : Nat} (hg : Gl X "zip") (hm : X.mg "zip" = none) (ha : PA X [e1, e2] ta)
    (hs : starEach [e1, e2] X.env = (false, eval e1 X.env) :: starEach [e2] X.env := by rfl) (hpl : (backTo pos (starEach [e2] X.env)).any (·.1) = false := by rfl) :
    PI X (.Tuple elts kk tpos) (.Call (.Name "zip" p) [e1, e2] [] pos) (RZ.iZipA K ta) := e ▸ RZ.pi_zipA hg hm ha hs hpl
end

/-! ### a value of any kind: what is known of it -/
def AnyV (K : PySem.W.Frag) (H : Hp) (v : V) : Prop :=
  v = .non ∨ (∃ b, v = .bl b) ∨ (∃ i, v = .int i) ∨ (∃ z : Str, v = .str z ∧ z.length ≤ 100000) ∨ (∃ a xs, v = .ref a ∧ H a = some (.lst xs)) ∨ (∃ a xs, v = .ref a ∧ H a = some (.tup xs)) ∨ ∃ a kvs, v = .ref a ∧ H a = some (.dK kvs)
theorem AnyV.mono {K : PySem.W.Frag} {H H' : Hp} {v : V} (h : AnyV K H v) (e : Same H H') : AnyV K H' v := by
  rcases h with h | h | h | h | ⟨a, xs, h, g⟩ | ⟨a, xs, h, g⟩ | ⟨a, xs, h, g⟩
  · exact .inl h
  · exact .inr (.inl h)
  · exact .inr (.inr (.inl h))
  · exact .inr (.inr (.inr (.inl h)))
  · exact .inr (.inr (.inr (.inr (.inl ⟨a, xs, h, e _ _ g⟩))))
  · exact .inr (.inr (.inr (.inr (.inr (.inl ⟨a, xs, h, e _ _ g⟩)))))
  · exact .inr (.inr (.inr (.inr (.inr (.inr ⟨a, xs, h, e _ _ g⟩)))))
theorem any_non {K : PySem.W.Frag} {H : Hp} : AnyV K H .non := .inl rfl
theorem any_bl {K : PySem.W.Frag} {H : Hp} (b : Bool) : AnyV K H (.bl b) := .inr (.inl ⟨b, rfl⟩)
theorem any_int {K : PySem.W.Frag} {H : Hp} (i : Int) : AnyV K H (.int i) := .inr (.inr (.inl ⟨i, rfl⟩))
theorem any_str {K : PySem.W.Frag} {H : Hp} {z : Str} (h : z.length ≤ 100000) : AnyV K H (.str z) := .inr (.inr (.inr (.inl ⟨z, rfl, h⟩)))
theorem any_lst {K : PySem.W.Frag} {H : Hp} {a : Addr} {xs : List V} (h : H a = some (.lst xs)) : AnyV K H (.ref a) := .inr (.inr (.inr (.inr (.inl ⟨a, xs, rfl, h⟩))))
theorem any_tup {K : PySem.W.Frag} {H : Hp} {a : Addr} {xs : List V} (h : H a = some (.tup xs)) : AnyV K H (.ref a) := .inr (.inr (.inr (.inr (.inr (.inl ⟨a, xs, rfl, h⟩)))))
theorem any_dic {K : PySem.W.Frag} {H : Hp} {a : Addr} {xs : List (Key × V)} (h : H a = some (.dK xs)) : AnyV K H (.ref a) := .inr (.inr (.inr (.inr (.inr (.inr ⟨a, xs, rfl, h⟩)))))
/-- its type's name -/
def tyName (H : Hp) : V → String
  | .non => "NoneType"
  | .bl _ => "bool"
  | .int _ => "int"
  | .str _ => "str"
  | .ref a => match H a with
    | some (.lst _) => "list"
    | some (.tup _) => "tuple"
    | _ => "dict"
  | _ => "dict"
theorem AnyV.ty {K : PySem.W.Frag} {H : Hp} {v : V} (h : AnyV K H v) : TyX K H v (.type (tyName H v)) := by
  rcases h with h | ⟨b, h⟩ | ⟨i, h⟩ | ⟨z, h, _⟩ | ⟨a, xs, h, g⟩ | ⟨a, xs, h, g⟩ | ⟨a, xs, h, g⟩
  all_goals subst h
  · exact .base .non
  · exact .base (.bl b)
  · exact .base (.int i)
  · exact .base (.str z)
  · simp only [tyName, g]; exact .base (.lst g)
  · simp only [tyName, g]; exact .base (.tup g)
  · simp only [tyName, g]; exact .base (.dK g)

theorem isi_K {X : Cx} {K : PySem.W.Frag} (e : X.K = K) : CallR X (.builtin "isinstance") (rIsiU K) := e ▸ call_isiU

/-! ### calls with keywords, of defs with defaults -/
section
variable {X : Cx} {CX : CXT} {k n : Nat} {f : Addr} {fd : FuncData} {ps ks : List Str} {sp : Sp} {E : XK} {x : Str} {p pos : Pos} {kws : List Keyword} {tk : TA} {g : List Value → List Value → List Value} {gV : List V → List V → List V}
theorem pe_callN0 (F : FnOk X.prog X.w X.K X.mg X.base CX k f fd ps sp) (hr : Room k X.A) (hg : Gl X x) (hm : X.mg x = some (.ref f)) (hk : PySem.W.keepIn X.K (.ref f) = true) (hb : KBn X.K fd ps 0 ks g gV) (hx : Passes CX X E)
    (hkw : PK X kws tk) (hall : (backToKw pos (keywordEach kws X.env)).all (·.1.isSome) = true := by rfl) (hks : (backToKw pos (keywordEach kws X.env)).filterMap (·.1) = ks := by rfl)
    (hdb : (x == ("__debug__" : Str)) = false := by decide)
    (hpl : ((backTo pos (starEach [] X.env)).any (·.1) || (backToKw pos (keywordEach kws X.env)).any (·.1.isNone)) = false := by rfl) :
    PE X (.Call (.Name x p) [] kws pos) (tCallN 0 ks.length sp gV E tNil tk) := by
  constructor
  intro pins s σ H Q I h
  refine wpAny_Call_Name_kw (ld_glob I hg hm ?_ hdb)
  refine PySem.W.callWith_KW0 (h₀ := X.base) I.ok.mod.kin hk hall (thn (hkw.run pos pins s σ H _ I h) ?_) hpl
  rintro ws s2 ⟨zs, H2, I2, rz, l1, l2, q2⟩
  refine ⟨I2.kIn, ?_⟩
  rw [hks]
  exact run_fnN F hr hb hx I2 .nil rz rfl l2 q2
end
/-- a def that may be called with these keywords -/
structure CalK (P : Program) (w : World) (K : PySem.W.Frag) (mg : Str → Option Value) (base : Heap) (k : Nat) (x : Str) (sp : Sp) (n : Nat) (ks : List Str) (gV : List V → List V → List V) : Prop where
  ex : ∃ (f : Addr) (fd : FuncData) (ps : List Str) (g : List Value → List Value → List Value), FnOk P w K mg base C8.CX0 k f fd ps sp ∧
    mg x = some (.ref f) ∧ PySem.W.keepIn K (.ref f) = true ∧ KBn K fd ps n ks g gV
section
variable {X : Cx} {k j n : Nat} {x : Str} {sp : Sp} {ks : List Str} {gV : List V → List V → List V} {p pos : Pos} {e : Expr} {es : List Expr} {kws : List Keyword} {t tk : TA}
theorem pe_kw (c : CalK X.prog X.w X.K X.mg X.base k x sp n ks gV) (hr : Room j X.A) (hk : k ≤ j) (hg : Gl X x) (ha : PA X (e :: es) t) (hkw : PK X kws tk)
    (hall : (backToKw pos (keywordEach kws X.env)).all (·.1.isSome) = true := by rfl) (hks : (backToKw pos (keywordEach kws X.env)).filterMap (·.1) = ks := by rfl)
    (hdb : (x == ("__debug__" : Str)) = false := by decide) (he : starEach (e :: es) X.env = (false, eval e X.env) :: starEach es X.env := by rfl)
    (hpl : ((backTo pos (starEach (e :: es) X.env)).any (·.1) || (backToKw pos (keywordEach kws X.env)).any (·.1.isNone)) = false := by rfl) :
    PE X (.Call (.Name x p) (e :: es) kws pos) (tCallN n ks.length sp gV C8.E0 t tk) := by
  obtain ⟨f, fd, ps, g, F, hm, kp, b⟩ := c.ex
  exact pe_callN F (hr.mono hk) hg hm kp b C8.pass0 ha hkw hall hks hdb he hpl
theorem pe_kw0 (c : CalK X.prog X.w X.K X.mg X.base k x sp 0 ks gV) (hr : Room j X.A) (hk : k ≤ j) (hg : Gl X x) (hkw : PK X kws tk)
    (hall : (backToKw pos (keywordEach kws X.env)).all (·.1.isSome) = true := by rfl) (hks : (backToKw pos (keywordEach kws X.env)).filterMap (·.1) = ks := by rfl)
    (hdb : (x == ("__debug__" : Str)) = false := by decide)
    (hpl : ((backTo pos (starEach [] X.env)).any (·.1) || (backToKw pos (keywordEach kws X.env)).any (·.1.isNone)) = false := by rfl) :
    PE X (.Call (.Name x p) [] kws pos) (tCallN 0 ks.length sp gV C8.E0 tNil tk) := by
  obtain ⟨f, fd, ps, g, F, hm, kp, b⟩ := c.ex
  exact pe_callN0 F (hr.mono hk) hg hm kp b C8.pass0 hkw hall hks hdb hpl
end

/-! ### promises by the number of parameters -/
def sp1 (f : V → Hp → VK → Prop) : Sp := fun vs H Q _ => ∃ a, vs = [a] ∧ f a H Q
def sp2 (f : V → V → Hp → VK → Prop) : Sp := fun vs H Q _ => ∃ a b, vs = [a, b] ∧ f a b H Q
def sp3 (f : V → V → V → Hp → VK → Prop) : Sp := fun vs H Q _ => ∃ a b c, vs = [a, b, c] ∧ f a b c H Q
def sp4 (f : V → V → V → V → Hp → VK → Prop) : Sp := fun vs H Q _ => ∃ a b c d, vs = [a, b, c, d] ∧ f a b c d H Q
/-- whatever heap comes that keeps this one -/
def Then (H : Hp) (Q : VK) (v : V) : Prop := ∀ H', Same H H' → Q v H'
theorem Then.here {H : Hp} {Q : VK} {v : V} (h : Then H Q v) : Q v H := h H (Same.refl H)
theorem Then.mono {H H' : Hp} {Q : VK} {v : V} (h : Then H Q v) (e : Same H H') : Then H' Q v := fun H2 e2 => h H2 (e.trans e2)
section
variable {P : Program} {w : World} {K : PySem.W.Frag} {mg : Str → Option Value} {base : Heap} {x : Str} {st : Stmt} {f : Addr} {fd : FuncData} {N : List Str} {k : Nat} {p1 p2 p3 p4 : Str}
theorem fn1 {g : V → Hp → VK → Prop} (F : Def K mg x st f fd) (S : FnScope N [p1] (fnScope st))
    (body : ∀ (cdv : Value) (A : Around) (outer : List Env) (s : Shared) (H : Hp) (a : V) (Q : VK) (E : XK), Room k (A.deeper (envOfC x (fnScope st) s.heap.objs.size f cdv)) → g a H Q →
      ∃ t, PSs (cxOf C8.CX0 P w K mg base N x (fnScope st) f cdv A outer s H E).nox (fnBody st) t ∧ t { nx := fun _ H' => Q .non H', rt := Q } (start N [a]) H) : FnOk P w K mg base C8.CX0 (k + 1) f fd [p1] (sp1 g) := by
  refine C8.fn0 F.fn S ?_ ?_
  · rintro vs H Q E ⟨a, rfl, _⟩
    rfl
  · rintro cdv A outer s H vs Q E hr ⟨a, rfl, h⟩
    exact body cdv A outer s H a Q E hr h
theorem fn2 {g : V → V → Hp → VK → Prop} (F : Def K mg x st f fd) (S : FnScope N [p1, p2] (fnScope st))
    (body : ∀ (cdv : Value) (A : Around) (outer : List Env) (s : Shared) (H : Hp) (a b : V) (Q : VK) (E : XK), Room k (A.deeper (envOfC x (fnScope st) s.heap.objs.size f cdv)) → g a b H Q →
      ∃ t, PSs (cxOf C8.CX0 P w K mg base N x (fnScope st) f cdv A outer s H E).nox (fnBody st) t ∧ t { nx := fun _ H' => Q .non H', rt := Q } (start N [a, b]) H) : FnOk P w K mg base C8.CX0 (k + 1) f fd [p1, p2] (sp2 g) := by
  refine C8.fn0 F.fn S ?_ ?_
  · rintro vs H Q E ⟨a, b, rfl, _⟩
    rfl
  · rintro cdv A outer s H vs Q E hr ⟨a, b, rfl, h⟩
    exact body cdv A outer s H a b Q E hr h
theorem fn3 {g : V → V → V → Hp → VK → Prop} (F : Def K mg x st f fd) (S : FnScope N [p1, p2, p3] (fnScope st))
    (body : ∀ (cdv : Value) (A : Around) (outer : List Env) (s : Shared) (H : Hp) (a b c : V) (Q : VK) (E : XK), Room k (A.deeper (envOfC x (fnScope st) s.heap.objs.size f cdv)) → g a b c H Q →
      ∃ t, PSs (cxOf C8.CX0 P w K mg base N x (fnScope st) f cdv A outer s H E).nox (fnBody st) t ∧ t { nx := fun _ H' => Q .non H', rt := Q } (start N [a, b, c]) H) : FnOk P w K mg base C8.CX0 (k + 1) f fd [p1, p2, p3] (sp3 g) := by
  refine C8.fn0 F.fn S ?_ ?_
  · rintro vs H Q E ⟨a, b, c, rfl, _⟩
    rfl
  · rintro cdv A outer s H vs Q E hr ⟨a, b, c, rfl, h⟩
    exact body cdv A outer s H a b c Q E hr h
theorem cal_of {ps : List Str} {sp : Sp} (F : Def K mg x st f fd) (df : fd.defaults = .none) (ok : FnOk P w K mg base C8.CX0 k f fd ps sp)
    (h : ∀ (kV doc pm : Value) (an : Option Addr) (cdv ct : Value) (us : List Value), us.length = ps.length → bindArgs (PySem.W.fnOf x x (fnArgs st) (fnBody st) (fnScope st) .none kV doc pm an cdv ct) ⟨us, []⟩ = pure (ps.zip us)) : Cal P w K mg base k x sp [] :=
  ⟨f, fd, ps, [], ok, F.mgf, F.kp, F.fn.binds df h, .nil⟩
end

/-! ### defaults and keywords: which value goes where -/
def pick {α : Type} (us its ws : List α) : List (Nat × Nat) → List α
  | [] => []
  | (0, i) :: r => (us[i]?).toList ++ pick us its ws r
  | (1, i) :: r => (its[i]?).toList ++ pick us its ws r
  | (_, i) :: r => (ws[i]?).toList ++ pick us its ws r
theorem vals_at {vs : List V} {us : List Value} (r : Vals vs us) (i : Nat) : Vals (vs[i]?).toList (us[i]?).toList := by
  cases e : vs[i]? with
  | none =>
    rw [r.none_of e]
    exact .nil
  | some v =>
    obtain ⟨u, h, rv⟩ := r.get e
    rw [h]
    exact .cons rv .nil
theorem pick_rel {vs ds zs : List V} {us its ws : List Value} (r1 : Vals vs us) (r2 : Vals ds its) (r3 : Vals zs ws) : ∀ l : List (Nat × Nat), Vals (pick vs ds zs l) (pick us its ws l)
  | [] => .nil
  | (0, i) :: r => (vals_at r1 i).append (pick_rel r1 r2 r3 r)
  | (1, i) :: r => (vals_at r2 i).append (pick_rel r1 r2 r3 r)
  | (_ + 2, i) :: r => (vals_at r3 i).append (pick_rel r1 r2 r3 r)
section
variable {K : PySem.W.Frag} {mg : Str → Option Value} {x : Str} {st : Stmt} {f : Addr} {fd : FuncData} {ps ks : List Str} {dvs : List V}
theorem dfl_binds (F : Def K mg x st f fd) (D : DflV K fd.defaults dvs) (hd : dvs ≠ []) (n j : Nat) (hn : n + (dvs.length - j) = ps.length)
    (h : ∀ (T : Addr) (kV doc pm : Value) (an : Option Addr) (cdv ct : Value) (us its : List Value), us.length = n → its.length = dvs.length →
      ∃ k, bindArgs (PySem.W.fnOf x x (fnArgs st) (fnBody st) (fnScope st) (.ref T) kV doc pm an cdv ct) ⟨us, []⟩ = seqItems? (.ref T) >>= k ∧ k (some its.toArray) = pure (ps.zip (us ++ its.drop j))) :
    ∃ ds, Vals (dvs.drop j) ds ∧ Binds K fd ps ds := by
  obtain ⟨oc, od, dV, kV, doc, pm, an, cdv, ct, osl, rfl, lk, hcd⟩ := F.fn.ex
  rcases D with ⟨e, _⟩ | ⟨_, T, o, its, m, e, lT, oT, rT⟩
  · exact absurd e hd
  · have e : dV = .ref T := e
    subst e
    refine ⟨its.drop j, rT.drop j, ?_⟩
    intro s us X hlen
    have l1 : its.length = dvs.length := rT.length.symm
    have l2 : us.length = n := by
      rw [List.length_append, List.length_drop, l1] at hlen
      omega
    obtain ⟨k, e1, e2⟩ := h T kV doc pm an cdv ct us its l2 l1
    refine BindsTo.of_looks fun M => ?_
    rw [e1]
    exact looks_items X lT oT (.of_pure e2)
theorem dfl_kbn (F : Def K mg x st f fd) (D : DflV K fd.defaults dvs) (hd : dvs ≠ []) (n : Nat) (sel : List (Nat × Nat))
    (h : ∀ (T : Addr) (kV doc pm : Value) (an : Option Addr) (cdv ct : Value) (us its ws : List Value), us.length = n → its.length = dvs.length → ws.length = ks.length →
      ∃ k, bindArgs (PySem.W.fnOf x x (fnArgs st) (fnBody st) (fnScope st) (.ref T) kV doc pm an cdv ct) ⟨us, ks.zip ws⟩ = seqItems? (.ref T) >>= k ∧ k (some its.toArray) = pure (ps.zip (pick us its ws sel))) :
    ∃ its, KBn K fd ps n ks (fun us ws => pick us its ws sel) (fun vs zs => pick vs dvs zs sel) := by
  obtain ⟨oc, od, dV, kV, doc, pm, an, cdv, ct, osl, rfl, lk, hcd⟩ := F.fn.ex
  rcases D with ⟨e, _⟩ | ⟨_, T, o, its, m, e, lT, oT, rT⟩
  · exact absurd e hd
  · have e : dV = .ref T := e
    subst e
    refine ⟨its, ?_, fun r1 r2 => pick_rel r1 rT r2 sel⟩
    intro s us ws X l1 l2
    obtain ⟨k, e1, e2⟩ := h T kV doc pm an cdv ct us its ws l1 rT.length.symm l2
    refine BindsTo.of_looks fun M => ?_
    rw [e1]
    exact looks_items X lT oT (.of_pure e2)
theorem nod_kbn (F : Def K mg x st f fd) (df : fd.defaults = .none) (n : Nat) (sel : List (Nat × Nat))
    (h : ∀ (kV doc pm : Value) (an : Option Addr) (cdv ct : Value) (us ws : List Value), us.length = n → ws.length = ks.length →
      bindArgs (PySem.W.fnOf x x (fnArgs st) (fnBody st) (fnScope st) .none kV doc pm an cdv ct) ⟨us, ks.zip ws⟩ = pure (ps.zip (pick us [] ws sel))) :
    KBn K fd ps n ks (fun us ws => pick us [] ws sel) (fun vs zs => pick vs [] zs sel) := by
  obtain ⟨oc, od, dV, kV, doc, pm, an, cdv, ct, osl, rfl, lk, hcd⟩ := F.fn.ex
  have e : dV = .none := df
  subst e
  exact ⟨fun s us ws _ l1 l2 => .of_eq (h kV doc pm an cdv ct us ws l1 l2), fun r1 r2 => pick_rel r1 .nil r2 sel⟩
end

/-! ### the bag, from a caller's side -/
def BagAt (H : Hp) (p : Addr) : Prop := ∃ (q : Addr) (ns : List Int), H p = some (bagO q p) ∧ H q = some (.lst (ns.map V.int))
theorem BagAt.mono {H H' : Hp} {p : Addr} (h : BagAt H p) (e : Same H H') : BagAt H' p := by
  obtain ⟨q, ns, a, b⟩ := h
  exact ⟨q, ns, e _ _ a, e _ _ b⟩
theorem rd_bag {K : PySem.W.Frag} {H : Hp} {p : Addr} {xs : List V} {j : Int} {v : V} {Q : VK} (e : atI xs j = some v) (k : Q v (upd H p (.lst xs))) : rIx K (.ref p) (.int j) (upd H p (.lst xs)) Q :=
  .inl ⟨p, xs, j, v, rfl, rfl, SqL.of upd_same, e, k⟩
theorem set_bag {H : Hp} {p : Addr} {xs : List V} {k : Int} {j : Nat} {v : V} {Q : Hp → Prop} (e : ixN xs.length k = some j) (q : Q (upd H p (.lst (xs.set j v)))) : rSetL (.ref p) (.int k) v (upd H p (.lst xs)) Q :=
  ⟨p, xs, k, j, rfl, rfl, upd_same, e, by rw [upd_upd]; exact q⟩
theorem shut_bag {H : Hp} {p q : Addr} {F : Hp → Prop} {i c st t : Int} (hp : H p = some (bagO q p)) (b : BagOk i st) (f : F H) : shutAt q p F (upd H p (.lst (bagL q i c st t))) :=
  ⟨i, c, st, t, b, upd_same, by rw [upd_upd, upd_self hp]; exact f⟩
end Fb

set_option Elab.async false
set_option linter.all false
set_option maxRecDepth 100000
set_option maxHeartbeats 4000000
namespace Fb
open PySem PySem.Spec L2
open PyProof.Rows hiding St
open C8 (Cal Met Mak Def cal0 met0 mak0 pe_c pe_mk pe_mt pe_mt0 fnScope fnBody fnArgs)

/-! ### comprehensions by what each element is -/
theorem same_mut {H H' : Hp} {p : Addr} {o : HO} (e : Same H H') (h : H p = none) : Same H (upd H' p o) := by
  intro a u ha
  rw [upd_ne (ne_of_none ha h)]
  exact e a u ha
theorem size5 {n : Nat} (h : n ≤ 100000) : n < sizeLine := Nat.lt_of_le_of_lt h (by decide)
theorem size5' {n : Nat} (h : n ≤ 100000) : n ≤ sizeLine := Nat.le_of_lt (size5 h)
section
variable {J : It} {n : Nat} {G : Hp → Prop} {Y : Nat → Hp → V → Hp → Prop} {g : TG} {tt : TT} {te : TE} {vs : List Nat} {σ : L2.St} {H1 : Hp} {D : Addr} {Qd : Hp → Prop}
/-- what a turn gives only makes the heap grow -/
def YGrow (Y : Nat → Hp → V → Hp → Prop) : Prop := ∀ i H x H', Y i H x H' → Same H H'
theorem grow_at {xs : List V} : YGrow (YAt xs) := by
  rintro i H x H' ⟨rfl, _⟩
  exact Same.refl _
theorem grow_fn {f : Nat → V} : YGrow (YFn f) := by
  rintro i H x H' ⟨rfl, _⟩
  exact Same.refl _
theorem grow_pair {xs ys : Nat → Option V} : YGrow (YPair xs ys) := by
  rintro i H x H' ⟨T, a, b, _, h, rfl, _⟩
  exact grow h

theorem upd_same_of {H H' : Hp} {p : Addr} {o : HO} (e : Same H H') : Same (upd H p o) (upd H' p o) := by
  intro b u h
  by_cases q : b = p
  · subst q
    rw [upd_same] at h
    rw [upd_same]
    exact h
  · rw [upd_ne q] at h
    rw [upd_ne q]
    exact e b u h
/-- each element of its kind, told by P, which does not lean on the new list -/
theorem lc_some (w : Walk J n G Y) (P : Nat → V → Hp → Prop) (hy : YGrow Y) (hn : n ≤ 100000) (hD : H1 D = none) (st : ∀ i v H H', Same H H' → P i v H → P i v H') (hG : ∀ H, Same H1 H → G H)
    (hs : ∀ i x H H', i < n → Same H1 H → (∃ xs, H D = some (.lst xs)) → Y i H x H' → ∀ R : V → Hp → Prop, (∀ v H2, Same H' H2 → (∀ o, P i v (upd H2 D o)) → R v H2) → g x (wipe σ vs) H' fun σ2 H2 => wipe σ2 vs = wipe σ vs ∧ te σ2 H2 R)
    (hd : ∀ xs H, Same H1 H → H D = some (.lst xs) → xs.length = n → (∀ i v, xs[i]? = some v → P i v H) → Qd H) :
    ∃ W : Nat → Nat → Hp → Prop, (∃ m, W 0 m (upd H1 D (.lst []))) ∧ ∀ i m H, W i m H →
      (J.stop i H ∧ Qd H) ∨ (J.go i H ∧ ∃ Nx : Hp → Prop, (∀ H', Nx H' → ∃ m', m' < m ∧ W (i + 1) m' H') ∧ ∀ x H', J.yld i H x H' → g x (wipe σ vs) H' fun σ2 H2 => wipe σ2 vs = wipe σ vs ∧ tYes σ2 H2 fun b H3 =>
        if b = true then te σ2 H3 fun y H4 => ∃ acc, H4 D = some (.lst acc) ∧ acc.length < sizeLine ∧ Nx (upd H4 D (.lst (acc ++ [y]))) else Nx H3) := by
  refine lc_it w (fun i H => Same H1 H ∧ ∃ xs : List V, H D = some (.lst xs) ∧ xs.length = i ∧ ∀ j v, xs[j]? = some v → ∀ o, P j v (upd H D o)) ?_ ?_ ?_ ?_
  · refine ⟨grow hD, [], upd_same, rfl, ?_⟩
    intro j v h
    cases h
  · rintro i H _ ⟨e, _⟩
    exact hG H e
  · rintro i x H H' hi ⟨e, xs, hx, hl, hp⟩ y
    have e2 := hy _ _ _ _ y
    refine hs i x H H' hi e ⟨xs, hx⟩ y _ ?_
    intro v H4 e4 p
    have e3 := e2.trans e4
    refine ⟨xs, e3 _ _ hx, size5 (by omega), same_mut (e.trans e3) hD, xs ++ [v], upd_same, by rw [List.length_append, hl]; rfl, ?_⟩
    intro j u hj o
    rw [upd_upd]
    by_cases q : j < xs.length
    · rw [List.getElem?_append_left q] at hj
      exact st _ _ _ _ (upd_same_of e3) (hp j u hj o)
    · rw [List.getElem?_append_right (by omega)] at hj
      have ej : j - xs.length = 0 := by
        cases h0 : j - xs.length with
        | zero => rfl
        | succ m =>
          rw [h0] at hj
          cases hj
      rw [ej] at hj
      cases hj
      rw [show j = i by omega]
      exact p o
  · rintro H ⟨e, xs, hx, hl, hp⟩
    refine hd xs H e hx hl ?_
    intro i v hv
    have := hp i v hv (.lst xs)
    rw [upd_self hx] at this
    exact this
/-- each element a value that is known -/
theorem lc_map (w : Walk J n G Y) (f : Nat → V) (hy : YGrow Y) (hn : n ≤ 100000) (hD : H1 D = none) (hG : ∀ H, Same H1 H → G H)
    (hs : ∀ i x H H', i < n → Same H1 H → Y i H x H' → ∀ R : V → Hp → Prop, (∀ H2, Same H' H2 → R (f i) H2) → g x (wipe σ vs) H' fun σ2 H2 => wipe σ2 vs = wipe σ vs ∧ te σ2 H2 R)
    (hd : ∀ H, Same H1 H → H D = some (.lst ((List.range n).map f)) → Qd H) :
    ∃ W : Nat → Nat → Hp → Prop, (∃ m, W 0 m (upd H1 D (.lst []))) ∧ ∀ i m H, W i m H →
      (J.stop i H ∧ Qd H) ∨ (J.go i H ∧ ∃ Nx : Hp → Prop, (∀ H', Nx H' → ∃ m', m' < m ∧ W (i + 1) m' H') ∧ ∀ x H', J.yld i H x H' → g x (wipe σ vs) H' fun σ2 H2 => wipe σ2 vs = wipe σ vs ∧ tYes σ2 H2 fun b H3 =>
        if b = true then te σ2 H3 fun y H4 => ∃ acc, H4 D = some (.lst acc) ∧ acc.length < sizeLine ∧ Nx (upd H4 D (.lst (acc ++ [y]))) else Nx H3) := by
  refine lc_some w (fun i v _ => v = f i) hy hn hD (fun _ _ _ _ _ h => h) hG ?_ ?_
  · intro i x H H' hi e _ y R h
    exact hs i x H H' hi e y R fun H2 e2 => h _ H2 e2 fun _ => rfl
  · intro xs H e hx hl hp
    have ex : xs = (List.range n).map f := by
      refine List.ext_getElem? fun i => ?_
      by_cases q : i < n
      · rw [List.getElem?_map, List.getElem?_range q, List.getElem?_eq_getElem (by omega)]
        exact congrArg some (hp i _ (List.getElem?_eq_getElem (by omega)))
      · rw [List.getElem?_eq_none (by omega), List.getElem?_eq_none (by simp; omega)]
    rw [ex] at hx
    exact hd H e hx
/-- the same with a test -/
theorem lc_filt (w : Walk J n G Y) (b : Nat → Bool) (f : Nat → V) (hy : YGrow Y) (hn : n ≤ 100000) (hD : H1 D = none) (hG : ∀ H, Same H1 H → G H)
    (hs : ∀ i x H H', i < n → Same H1 H → Y i H x H' → ∀ (F : Hp → Prop) (R : V → Hp → Prop), (∀ H2, Same H' H2 → b i = true → R (f i) H2) → (∀ H2, Same H' H2 → b i = false → F H2) →
      g x (wipe σ vs) H' fun σ2 H2 => wipe σ2 vs = wipe σ vs ∧ tt σ2 H2 fun c H3 => if c = true then te σ2 H3 R else F H3)
    (hd : ∀ H, Same H1 H → H D = some (.lst (((List.range n).filter b).map f)) → Qd H) :
    ∃ W : Nat → Nat → Hp → Prop, (∃ m, W 0 m (upd H1 D (.lst []))) ∧ ∀ i m H, W i m H →
      (J.stop i H ∧ Qd H) ∨ (J.go i H ∧ ∃ Nx : Hp → Prop, (∀ H', Nx H' → ∃ m', m' < m ∧ W (i + 1) m' H') ∧ ∀ x H', J.yld i H x H' → g x (wipe σ vs) H' fun σ2 H2 => wipe σ2 vs = wipe σ vs ∧ tt σ2 H2 fun b H3 =>
        if b = true then te σ2 H3 fun y H4 => ∃ acc, H4 D = some (.lst acc) ∧ acc.length < sizeLine ∧ Nx (upd H4 D (.lst (acc ++ [y]))) else Nx H3) := by
  refine lc_it w (fun i H => Same H1 H ∧ H D = some (.lst (((List.range i).filter b).map f))) ?_ ?_ ?_ ?_
  · exact ⟨grow hD, upd_same⟩
  · rintro i H _ ⟨e, _⟩
    exact hG H e
  · rintro i x H H' hi ⟨e, hx⟩ y
    have e2 := hy _ _ _ _ y
    have len : (((List.range i).filter b).map f).length ≤ 100000 := by
      rw [List.length_map]
      refine Nat.le_trans (List.length_filter_le _ _) ?_
      rw [List.length_range]
      omega
    refine hs i x H H' hi e y (fun H3 => Same H1 H3 ∧ H3 D = some (.lst (((List.range (i + 1)).filter b).map f))) _ ?_ ?_
    · intro H4 e4 hb
      refine ⟨_, (e2.trans e4) _ _ hx, size5 len, same_mut (e.trans (e2.trans e4)) hD, ?_⟩
      rw [upd_same, List.range_succ, List.filter_append, List.map_append, List.filter_cons_of_pos hb]
      rfl
    · intro H4 e4 hb
      refine ⟨e.trans (e2.trans e4), ?_⟩
      rw [(e2.trans e4) _ _ hx, List.range_succ, List.filter_append, List.map_append, List.filter_cons_of_neg (by rw [hb]; exact Bool.false_ne_true)]
      rw [List.filter_nil, List.map_nil, List.append_nil]
  · rintro H ⟨e, hx⟩
    exact hd H e hx
end

theorem small_log {n : Int} (h0 : 0 ≤ n) (h : n ≤ 1000000000000) : n.natAbs.log2 < 9000 :=
  Nat.lt_of_lt_of_le (PySem.Flt.log2_lt_of (show 0 < 50 by decide) (by omega)) (by decide)

/-- a value of any kind: a text, or none -/
theorem AnyV.strOr {K : PySem.W.Frag} {H : Hp} {v : V} (h : AnyV K H v) : (∃ z : Str, v = .str z ∧ z.length ≤ 100000) ∨ ((∀ z, v ≠ .str z) ∧ ∃ t, TyX K H v (.type t) ∧ kitB t "str" = some false) := by
  rcases h with h | ⟨b, h⟩ | ⟨i, h⟩ | ⟨z, h, l⟩ | ⟨a, xs, h, g⟩ | ⟨a, xs, h, g⟩ | ⟨a, xs, h, g⟩
  all_goals subst h
  · exact .inr ⟨(fun _ e => nomatch e), _, .base .non, by decide +kernel⟩
  · exact .inr ⟨(fun _ e => nomatch e), _, .base (.bl b), by decide +kernel⟩
  · exact .inr ⟨(fun _ e => nomatch e), _, .base (.int i), by decide +kernel⟩
  · exact .inl ⟨z, rfl, l⟩
  · exact .inr ⟨(fun _ e => nomatch e), _, .base (.lst g), by decide +kernel⟩
  · exact .inr ⟨(fun _ e => nomatch e), _, .base (.tup g), by decide +kernel⟩
  · exact .inr ⟨(fun _ e => nomatch e), _, .base (.dK g), by decide +kernel⟩
theorem AnyV.intOr {K : PySem.W.Frag} {H : Hp} {v : V} (h : AnyV K H v) : (∃ i, v = .int i) ∨ (∃ b, v = .bl b) ∨ ((∀ z, v ≠ .int z) ∧ ∃ t, TyX K H v (.type t) ∧ kitB t "int" = some false) := by
  rcases h with h | ⟨b, h⟩ | ⟨i, h⟩ | ⟨z, h, l⟩ | ⟨a, xs, h, g⟩ | ⟨a, xs, h, g⟩ | ⟨a, xs, h, g⟩
  all_goals subst h
  · exact .inr (.inr ⟨(fun _ e => nomatch e), _, .base .non, by decide +kernel⟩)
  · exact .inr (.inl ⟨b, rfl⟩)
  · exact .inl ⟨i, rfl⟩
  · exact .inr (.inr ⟨(fun _ e => nomatch e), _, .base (.str z), by decide +kernel⟩)
  · exact .inr (.inr ⟨(fun _ e => nomatch e), _, .base (.lst g), by decide +kernel⟩)
  · exact .inr (.inr ⟨(fun _ e => nomatch e), _, .base (.tup g), by decide +kernel⟩)
  · exact .inr (.inr ⟨(fun _ e => nomatch e), _, .base (.dK g), by decide +kernel⟩)

theorem map_range_get {α β : Type} (d : α) (f : α → β) : ∀ l : List α, (List.range l.length).map (fun i => f (l.getD i d)) = l.map f
  | [] => rfl
  | a :: r => by
    rw [List.length_cons, List.range_succ_eq_map, List.map_cons, List.map_map, List.map_cons]
    exact congrArg (f a :: ·) (map_range_get d f r)
theorem str_len (z : Str) : z.cps.size = z.cps.toList.length := (Array.length_toList).symm

/-! ### data on the heap -/
mutual
theorem dp_mono {K : PySem.W.Frag} {H H' : Hp} (e : Same H H') : ∀ (d : PyData) {v : V}, Dp K H v d → Dp K H' v d
  | .none, _, h => by cases h; exact .non
  | .bool _, _, h => by cases h; exact .bl _
  | .int _, _, h => by cases h; exact .int _
  | .str _, _, h => by cases h; exact .str _
  | .list ds, _, h => by
    cases h with
    | lst s a => exact .lst (e.seq s) (dpAll_mono e ds a)
  | .tuple ds, _, h => by
    cases h with
    | tup s a => exact .tup (same_tup e s) (dpAll_mono e ds a)
  | .dict _, _, h => by cases h
theorem dpAll_mono {K : PySem.W.Frag} {H H' : Hp} (e : Same H H') : ∀ (ds : List PyData) {vs : List V}, DpAll K H vs ds → DpAll K H' vs ds
  | [], _, h => by cases h; exact .nil
  | d :: ds, _, h => by
    cases h with
    | cons a b => exact .cons (dp_mono e d a) (dpAll_mono e ds b)
end
theorem dpAll_map {K : PySem.W.Frag} {H : Hp} {α : Type} {f : α → V} {g : α → PyData} : ∀ {l : List α}, (∀ x ∈ l, Dp K H (f x) (g x)) → DpAll K H (l.map f) (l.map g)
  | [], _ => .nil
  | x :: r, h => .cons (h x (List.mem_cons_self ..)) (dpAll_map fun y hy => h y (List.mem_cons_of_mem _ hy))
theorem dpAll_len {K : PySem.W.Frag} {H : Hp} : ∀ {vs : List V} {ds : List PyData}, DpAll K H vs ds → vs.length = ds.length
  | _, _, .nil => rfl
  | _, _, .cons _ b => congrArg Nat.succ (dpAll_len b)
theorem dpAll_get {K : PySem.W.Frag} {H : Hp} : ∀ {vs : List V} {ds : List PyData} {i : Nat} {v : V}, DpAll K H vs ds → vs[i]? = some v → ∃ d, ds[i]? = some d ∧ Dp K H v d
  | _, _, _, _, .nil, h => by cases h
  | _, _, 0, _, .cons (d := d) a _, h => by
    cases h
    exact ⟨d, rfl, a⟩
  | _, _, i + 1, v, .cons _ b, h => dpAll_get (i := i) b h
/-- the type's name -/
def dName : PyData → String
  | .none => "NoneType"
  | .bool _ => "bool"
  | .int _ => "int"
  | .str _ => "str"
  | .list _ => "list"
  | .tuple _ => "tuple"
  | .dict _ => "dict"
theorem sql_ty {K : PySem.W.Frag} {H : Hp} {a : Addr} {xs : List V} (h : SqL K H a xs) : TyX K H (.ref a) (.type "list") := by
  rcases h with (h | ⟨o, h⟩) | ⟨o, its, n, h, c, _⟩
  · exact .base (.lst h)
  · exact .base (.frz h)
  · exact .kList h c
theorem sqt_ty {K : PySem.W.Frag} {H : Hp} {a : Addr} {xs : List V} (h : SqT K H a xs) : TyX K H (.ref a) (.type "tuple") := by
  rcases h with (h | ⟨o, h⟩) | ⟨o, its, n, h, c, _⟩
  · exact .base (.tup h)
  · exact .fTuple h
  · exact .kTuple h c
theorem dp_ty {K : PySem.W.Frag} {H : Hp} {v : V} {d : PyData} (h : Dp K H v d) : TyX K H v (.type (dName d)) := by
  cases h with
  | non => exact .base .non
  | bl b => exact .base (.bl b)
  | int i => exact .base (.int i)
  | str x => exact .base (.str x)
  | lst s _ => exact sql_ty s
  | tup s _ => exact sqt_ty s
theorem ty_mono {K : PySem.W.Frag} {H H' : Hp} {v : V} {d : PyData} (h : Dp K H v d) (e : Same H H') : TyX K H' v (.type (dName d)) := dp_ty (dp_mono e d h)
/-- data of less than n levels, no list longer than 100000 -/
def Lk : Nat → PyData → Prop
  | 0, _ => False
  | n + 1, .list ds => ds.length ≤ 100000 ∧ ∀ d ∈ ds, Lk n d
  | n + 1, .tuple ds => ds.length ≤ 100000 ∧ ∀ d ∈ ds, Lk n d
  | _ + 1, .dict _ => False
  | _ + 1, _ => True

theorem walk_zipT {K : PySem.W.Frag} {a b : Addr} {xs ys : List V} {n : Nat} (hn : n = min xs.length ys.length) :
    Walk (RZ.ItzT K a b) n (fun H => SqT K H a xs ∧ SqT K H b ys) (YPair (fun i => xs[i]?) (fun i => ys[i]?)) := by
  subst hn
  constructor
  · rintro i H hi ⟨p, q⟩
    have h1 : i < xs.length := by omega
    have h2 : i < ys.length := by omega
    exact ⟨xs, ys, xs[i], ys[i], p, q, List.getElem?_eq_getElem h1, List.getElem?_eq_getElem h2⟩
  · rintro H ⟨p, q⟩
    exact ⟨xs, ys, p, q, by omega⟩
  · rintro i H v H' _ ⟨p, q⟩ ⟨T, x, z, h1, h2, h3, h4, h5⟩
    exact ⟨T, x, z, h1, h2, h3, h4 xs p, h5 ys q⟩
theorem lk_item {n : Nat} {ds : List PyData} {i : Nat} {d : PyData} (h : ∀ d ∈ ds, Lk n d) (e : ds[i]? = some d) : Lk n d := h d (List.mem_of_getElem? e)
theorem all_true (n : Nat) : ((List.range n).map fun _ => true).all id = true := by
  rw [List.all_eq_true]
  intro b h
  obtain ⟨_, _, rfl⟩ := List.mem_map.mp h
  rfl
end Fb

set_option Elab.async false
set_option linter.all false
set_option maxRecDepth 100000
set_option maxHeartbeats 4000000
namespace Fb
open PySem PySem.Spec L2
open PyProof.Rows hiding St
/-! ### names and numbers, without a heap -/
def letC (c : Nat) : Bool := decide (97 ≤ c) && decide (c ≤ 122)
def nameB : V → Bool
  | .str z => decide (1 ≤ z.length) && decide (z.length ≤ 8) && z.cps.toList.all letC
  | _ => false
theorem nameB_no {v : V} (h : ∀ z, v ≠ .str z) : nameB v = false := by
  cases v with
  | str z => exact absurd rfl (h z)
  | _ => rfl
theorem lt1 (a b : Nat) : decide ((#[a] : Array Nat).toList < (#[b] : Array Nat).toList) = decide (a < b) := by
  refine decide_eq_decide.mpr ?_
  show ([a] : List Nat) < [b] ↔ a < b
  rw [List.cons_lt_cons_iff]
  constructor
  · rintro (h | ⟨_, h⟩)
    · exact h
    · exact absurd h (List.not_lt_nil _)
  · exact fun h => .inl h
def numB (v : V) (l : Int) (h : Option Int) : Bool := match v with
  | .int i => decide (l ≤ i) && (match h with | none => true | some m => decide (i ≤ m))
  | _ => false
theorem numB_no {v : V} {l : Int} {h : Option Int} (no : ∀ z, v ≠ .int z) : numB v l h = false := by
  cases v with
  | int z => exact absurd rfl (no z)
  | _ => rfl
theorem numB_hi {a : V} {l : Int} {h : Option Int} (e : numB a l none = false) : numB a l h = false := by
  cases a with
  | int i =>
    have e : (decide (l ≤ i) && true) = false := e
    rw [Bool.and_true] at e
    show (decide (l ≤ i) && _) = false
    rw [e, Bool.false_and]
  | _ => rfl
theorem numB_int {a : V} {l : Int} (e : numB a l none = true) : ∃ i, a = .int i ∧ l ≤ i := by
  cases a with
  | int i =>
    have e : (decide (l ≤ i) && true) = true := e
    rw [Bool.and_true] at e
    exact ⟨i, rfl, of_decide_eq_true e⟩
  | _ => cases e
def az : Str := "abcdefghijklmnopqrstuvwxyz"
theorem az_in (c : Nat) : decide (c ∈ az.cps.toList) = letC c := by
  have e : az.cps.toList = (List.range 26).map (· + 97) := by decide +kernel
  rw [e]
  unfold letC
  rw [← Bool.decide_and]
  refine decide_eq_decide.mpr ?_
  rw [List.mem_map]
  constructor
  · rintro ⟨k, hk, rfl⟩
    have := List.mem_range.mp hk
    omega
  · intro h
    exact ⟨c - 97, List.mem_range.mpr (by omega), by omega⟩

theorem eqv_list_nil (ds : List PyData) : PyData.eqv (.list ds) (.list []) = ds.isEmpty := by
  cases ds <;> rfl

theorem filt_none (l : List Nat) : ((List.range l.length).filter fun i => !letC (l.getD i 0)).isEmpty = l.all letC := by
  induction l with
  | nil => rfl
  | cons a r ih =>
    rw [List.length_cons, List.range_succ_eq_map, List.filter_cons, List.all_cons, List.filter_map]
    show (if (!letC a) = true then _ else _ : List Nat).isEmpty = _
    cases h : letC a with
    | true =>
      rw [if_neg (by decide), List.isEmpty_map, Bool.true_and]
      exact ih
    | false =>
      rw [if_pos (by decide), Bool.false_and]
      rfl

/-- values that are all of one form are the images of what tells them -/
theorem all_of {α : Type} (f : α → V) : ∀ xs : List V, (∀ (i : Nat) v, xs[i]? = some v → ∃ c, v = f c) → ∃ cs : List α, xs = cs.map f
  | [], _ => ⟨[], rfl⟩
  | x :: r, h => by
    obtain ⟨c, hc⟩ := h 0 x rfl
    obtain ⟨cs, hcs⟩ := all_of f r fun i v e => h (i + 1) v e
    exact ⟨c :: cs, by rw [hc, hcs]; rfl⟩

theorem ones_sum : ∀ cs : List Nat, ((cs.map fun c => (⟨#[c]⟩ : Str)).map (·.length)).sum = cs.length
  | [] => rfl
  | c :: r => by
    rw [List.map_cons, List.map_cons, List.sum_cons, ones_sum r, List.length_cons]
    exact Nat.add_comm 1 _
theorem one_join (cs : List Nat) : (Txt.join "" (cs.map fun c => (⟨#[c]⟩ : Str))).length = cs.length := by
  have h := size_glued "" (cs.map fun c => (⟨#[c]⟩ : Str))
  rw [ones_sum] at h
  exact h

theorem num_text {i : Int} (h : i.natAbs < 10 ^ 20) : i.natAbs.log2 < 1920 ∧ (Str.ofString (toString i)).length ≤ 100000 := by
  have e := int_text_length_le10 (k := 20) (by decide) h
  refine ⟨Nat.lt_of_lt_of_le (PySem.Flt.log2_lt_of (k := 67) (by decide) (by omega)) (by decide), ?_⟩
  rw [PySem.ofString_length]
  omega

theorem str_cat (a b : Str) : (a ++ b).length = a.length + b.length := PySem.Str.length_append a b
end Fb

set_option Elab.async false
set_option linter.all false
set_option maxRecDepth 100000
set_option maxHeartbeats 4000000
/-! enumerate over a tuple -/
namespace PySem
open Sem (wp)
set_option maxHeartbeats 1000000 in
theorem fb_enum_new {v : Value} {o : Obj} {G : Heap → Prop} (B : Begins v o G) :
    Meets (Builtin.«enumerate.__new__» ⟨[.type "enumerate", v], []⟩) (fun _ R s => G s.heap ∧
      R (.ok (.ret (.ref (s.heap.push o).objs.size))) { s with heap := (s.heap.push o).push { cls := .type "enumerate", data := .fields #[.none, .bool false, .ref s.heap.objs.size, rawInt 0, .none, .none] } }) := by
  refine .of_wp fun prog w A R s h => ?_
  obtain ⟨h0, g, d, tk, os⟩ := s
  obtain ⟨h1, h⟩ := h
  have sb := sub_enumerate
  have go : ∀ {A' : Around} {E Q : Value → Shared → Prop}, Q (.ref h0.objs.size) ⟨h0.push o, g, d, tk, os⟩ → wpAny (model prog w) A' (pyIter v) Q E ⟨h0, g, d, tk, os⟩ := by
    intro A' E Q q
    exact B.iter prog w _ _ ⟨h0, g, d, tk, os⟩ _ h1 q
  wp_walk using go
  refine wpAny_stack_any fun stk => wpAny_pure ?_
  split
  · rename_i c _ _ _ _ _
    cases (c == Value.type "enumerate") <;> (wp_walk using go; exact ⟨_, rfl, h⟩)
  · wp_walk using go
    exact ⟨_, rfl, h⟩
theorem fb_enum {prog : Program} {w : World} {A : Around} {E Q : Value → Shared → Prop} {s : Shared} {v : Value} {o : Obj} {G : Heap → Prop} (B : Begins v o G) (h1 : G s.heap)
    (h : ∀ h', IsEnum h' (s.heap.objs.size + 1) s.heap.objs.size 0 .none → h'.get? s.heap.objs.size = some o → (∀ b u, s.heap.get? b = some u → h'.get? b = some u) → Q (.ref (s.heap.objs.size + 1)) { s with heap := h' }) :
    wpAny (model prog w) A (call (.type "enumerate") [v]) Q E s := by
  refine callType_new F.called_enumerate (by decide) (F.typeCall_enumerate_1 _) (F.newCall_enumerate_1 _) (fun _ => F.args_object_init_2 _ _) F.entry_enumerate_new (fb_enum_new B) ⟨h1, ?_⟩
  have z : (s.heap.push o).objs.size = s.heap.objs.size + 1 := Heap.size_push ..
  have he : IsEnum ((s.heap.push o).push { cls := .type "enumerate", data := .fields #[.none, .bool false, .ref s.heap.objs.size, rawInt 0, .none, .none] }) (s.heap.objs.size + 1) s.heap.objs.size 0 .none := by
    rw [← z]
    exact Heap.get?_push_size _ rfl
  show _ ∧ _
  rw [z]
  exact ⟨⟨_, he, rfl⟩, h _ he (Heap.get?_push_of_some _ (Heap.get?_push_size _ B.free)) fun b u e => Heap.get?_push_of_some _ (Heap.get?_push_of_some _ e)⟩
end PySem
namespace Fb
open PySem PySem.Spec L2
open PyProof.Rows hiding St
/-- the tuple at a, each item behind its place in a new pair -/
def IteT (K : PySem.W.Frag) (a : Addr) : It where
  go := fun i H => ∃ (xs : List V) (x : V), SqT K H a xs ∧ xs[i]? = some x
  yld := fun i H v H' => ∃ T x, v = .ref T ∧ H T = none ∧ H' = upd H T (.tup [.int (i : Nat), x]) ∧ ∀ xs, SqT K H a xs → xs[i]? = some x
  stop := fun i H => ∃ xs : List V, SqT K H a xs ∧ xs.length = i
theorem turn_enumT {P : Program} {w : World} {K : PySem.W.Frag} {elts : List Expr} {kk : Nat} {tpos : Pos} (a e it : Addr) :
    Turn P w K (.Tuple elts kk tpos) (IteT K a) [e, it] e (fun i h => (∃ old, IsEnum h e it ((i : Nat) : Int) old) ∧ h.IsTupleIter it a i ∧ e ≠ it) where
  mem := List.mem_cons_self ..
  obj := by
    rintro i h ⟨⟨old, h1⟩, ⟨o, h2, _, h3⟩, _⟩ b hb
    rcases List.mem_cons.mp hb with rfl | hb
    · exact ⟨_, h1, fun v q => nomatch q⟩
    · cases List.mem_singleton.mp hb
      exact ⟨o, h2, fun v q => by rw [h3] at q; cases q⟩
  keep := by
    rintro i h h' ⟨⟨old, h1⟩, h2, h3⟩ k
    exact ⟨⟨old, k e (List.mem_cons_self ..) _ h1⟩, h2.at fun o q => k it (List.mem_cons_of_mem _ (List.mem_singleton.mpr rfl)) o q, h3⟩
  item := by
    intro X hP hw hK hc i pins s σ H E I hf st hg
    subst hP hw hK
    obtain ⟨⟨old, h1⟩, h2, h3⟩ := st
    obtain ⟨xs, x, hq, hx⟩ := hg
    obtain ⟨its, rv, p, hz⟩ := I.tuple hq
    obtain ⟨u, hu, ru⟩ := rv.get hx
    have le : e < s.heap.objs.size := Heap.lt_size h1
    have li : it < s.heap.objs.size := by
      obtain ⟨_, q, _⟩ := h2
      exact Heap.lt_size q
    have ea : e ≠ a := by
      rintro rfl
      obtain ⟨o, q, c, _⟩ := p
      rw [h1] at q
      cases q
      exact absurd (Value.type.inj c) (by decide)
    have ia : a ≠ it := by
      rintro rfl
      obtain ⟨o, q, c, _⟩ := p
      obtain ⟨o2, q2, c2, _⟩ := h2
      rw [q] at q2
      cases q2
      rw [c] at c2
      exact absurd (Value.type.inj c2) (by decide)
    have lt : i < its.toArray.size := by
      rw [List.size_toArray]
      exact (List.getElem?_eq_some_iff.mp hu).1
    have nf : e ∉ ([it, a] : List Addr) := by
      intro q
      rcases List.mem_cons.mp q with q | q
      · exact h3 q
      · exact ea (List.mem_singleton.mp q)
    refine wpAny_pyNext_enum_itemD (Draws.tuple (prog := X.prog) (w := X.w) (A := X.A.in1) (I.ok.hd hc) it a ia its.toArray) h1 ⟨h2, p⟩ lt h3 nf fun y h' tk hy ho hs hT hsz hk => ?_
    have ey : y = u := by
      have hy : its.toArray[i]? = some y := hy
      rw [List.getElem?_toArray, hu] at hy
      exact (Option.some.inj hy).symm
    subst ey
    refine ⟨_, rfl, wpAny_letOwnedTupleGo_enum (s := { s with heap := h', toks := tk + 1 }) ho fun g he sb => ?_⟩
    have hT2 := (sb.2 _ (Nat.ne_of_gt le)).trans hT
    have hk2 : ∀ b ob, b ∉ [e, it] → s.heap.get? b = some ob → g.get? b = some ob := by
      intro b ob nb q
      have n1 : b ≠ e := fun z => nb (by rw [z]; exact List.mem_cons_self ..)
      have n2 : b ≠ it := fun z => nb (by rw [z]; exact List.mem_cons_of_mem _ (List.mem_singleton.mpr rfl))
      exact (sb.2 b n1).trans (hk b ob n1 n2 q)
    have new : ObjOk X.prog X.w (upd H s.heap.objs.size (.tup [.int (i : Nat), x])) g s.heap.objs.size (.tup [.int (i : Nat), x]) :=
      ⟨by show 2 ≤ sizeLine; decide, [.int i tk, y], .cons ⟨_, rfl⟩ (.cons ru .nil), ⟨_, hT2, rfl, _, rfl⟩⟩
    have I1 : Inv X pins σ (upd H s.heap.objs.size (.tup [.int (i : Nat), x])) { s with heap := g, toks := tk + 1 } := I.turnedNew (ch := [e, it]) hk2 hf (Nat.le_refl _) new
    refine ⟨.ref s.heap.objs.size, _, I1, rfl, ⟨_, x, rfl, I.hok.fresh (Nat.le_refl _), rfl, fun ys hys => by rw [I.tuple_inj hys hq]; exact hx⟩, ⟨⟨y, ?_⟩, hs.1.at fun o q => (sb.2 it (Ne.symm h3)).trans q, h3⟩, fun b hb => ?_⟩
    · rw [show ((i + 1 : Nat) : Int) = (i : Int) + 1 by omega]
      exact he
    · rw [upd_ne ?_]
      · exact (hf b hb).1
      · rcases List.mem_cons.mp hb with rfl | hb
        · exact Nat.ne_of_lt le
        · cases List.mem_singleton.mp hb
          exact Nat.ne_of_lt li
  done := by
    intro X hP hw hK hc i pins s σ H E I hf st hg
    subst hP hw hK
    obtain ⟨⟨old, h1⟩, h2, h3⟩ := st
    obtain ⟨xs, hq, hx⟩ := hg
    obtain ⟨its, rv, p, hz⟩ := I.tuple hq
    have ia : a ≠ it := by
      rintro rfl
      obtain ⟨o, q, c, _⟩ := p
      obtain ⟨o2, q2, c2, _⟩ := h2
      rw [q] at q2
      cases q2
      rw [c] at c2
      exact absurd (Value.type.inj c2) (by decide)
    have en : i = its.toArray.size := by
      rw [List.size_toArray, ← rv.length]
      exact hx.symm
    obtain ⟨f0, f1, f2, f3, f4, f5⟩ := hf it (List.mem_cons_of_mem _ (List.mem_singleton.mpr rfl))
    refine wpAny_pyNext_enum_endD (Draws.tuple (prog := X.prog) (w := X.w) (A := X.A.in1) (I.ok.hd hc) it a ia its.toArray) h1 ⟨en ▸ h2, p⟩ fun h' eb => ⟨rfl, ?_⟩
    exact I.turned (t' := s.toks) (fun b o hb q => eb b o hb q) f0 f1 f3 f4 f5
  self := by
    rintro A i s Q E ⟨⟨_, h1⟩, _⟩ h
    exact wpAny_pyIter_enum h1 h
def iEnumT (K : PySem.W.Frag) (ta : TA) : TI := fun σ H R => ta σ H fun vs H1 => ∃ a xs, vs = [.ref a] ∧ SqT K H1 a xs ∧ R (IteT K a) H1
theorem pi_enumT {X : Cx} {K : PySem.W.Frag} (eK : X.K = K) {e : Expr} {ta : TA} {p pos tpos : Pos} {elts : List Expr} {kk : Nat} (hg : Gl X "enumerate") (hm : X.mg "enumerate" = none) (ha : PA X [e] ta) (hs : starEach [e] X.env = [(false, eval e X.env)] := by rfl) :
    PI X (.Tuple elts kk tpos) (.Call (.Name "enumerate" p) [e] [] pos) (iEnumT K ta) := by
  subst eK
  constructor
  intro pins s σ H R I h
  refine Call_ (ld_blt I hg hm boot_enumerate (PyProof.Rows.callWith_type1 (thn (ha.run pos pins s σ H _ I h) ?_) hs rfl))
  rintro us s1 ⟨vs, H1, I1, r1, a, xs, rfl, hq, q⟩
  cases r1 with
  | cons r rr =>
    cases rr
    cases r
    obtain ⟨its, rv, p', hz⟩ := I1.tuple hq
    refine fb_enum (begins_tuple a its.toArray) p' fun h' he ho hk => wpAny_pyIter_enum he ?_
    have I2 : Inv X pins σ H1 { s1 with heap := h' } := I1.kept (t' := s1.toks) hk
    refine ⟨s1.heap.objs.size + 1, [s1.heap.objs.size + 1, s1.heap.objs.size], _, _, H1, rfl, I2, turn_enumT a _ _, ⟨⟨.none, he⟩, ⟨_, ho, rfl, rfl⟩, Nat.succ_ne_self _⟩, fun b hb => ?_, q⟩
    have le : s1.heap.objs.size ≤ b := by
      rcases List.mem_cons.mp hb with rfl | hb
      · exact Nat.le_succ _
      · cases List.mem_singleton.mp hb
        exact Nat.le_refl _
    exact I1.fpOk le (I1.hok.fresh le)
theorem walk_enumT {K : PySem.W.Frag} {a : Addr} {xs : List V} : Walk (IteT K a) xs.length (fun H => SqT K H a xs) (YPair (fun i => some (.int (i : Nat))) (fun i => xs[i]?)) := by
  constructor
  · intro i H hi q
    exact ⟨xs, xs[i], q, List.getElem?_eq_getElem hi⟩
  · intro H q
    exact ⟨xs, q, rfl⟩
  · rintro i H v H' _ q ⟨T, x, h1, h2, h3, h4⟩
    exact ⟨T, .int (i : Nat), x, h1, h2, h3, rfl, h4 xs q⟩
section
variable {X : Cx} {K : PySem.W.Frag} (e : X.K = K)
include e
theorem max_K (hc : X.calm = true) : CallR X (.builtin "max") (rMax K) := e ▸ cr_max hc
theorem slT_K : SlR X (rSlT K) := e ▸ sl_tup
end
theorem tup_inj {X : Cx} {pins : List (Addr × Obj)} {σ : L2.St} {H : Hp} {s : Shared} {a : Addr} {xs ys : List V} (I : Inv X pins σ H s) (h1 : SqT X.K H a xs) (h2 : SqT X.K H a ys) : xs = ys := I.tuple_inj h1 h2
end Fb

set_option Elab.async false
set_option linter.all false
set_option maxRecDepth 100000
set_option maxHeartbeats 4000000
namespace Fb
open PySem PySem.Spec L2
open PyProof.Rows hiding St
/-! ### methods by their body -/
section
variable {P : Program} {w : World} {K : PySem.W.Frag} {mg : Str → Option Value} {base : Heap} {m qual : Str} {st : Stmt} {f : Addr} {fd : FuncData} {N : List Str} {k : Nat} {p1 p2 p3 : Str}
theorem fm1 {g : V → Hp → VK → Prop} (F : C8.Fun K m qual st f fd) (S : FnScope N [p1] (C8.fnScope st))
    (body : ∀ (cdv : Value) (A : Around) (outer : List Env) (s : Shared) (H : Hp) (a : V) (Q : VK) (E : XK), Room k (A.deeper (envOfC qual (C8.fnScope st) s.heap.objs.size f cdv)) → g a H Q →
      ∃ t, PSs (cxOf C8.CX0 P w K mg base N qual (C8.fnScope st) f cdv A outer s H E).nox (C8.fnBody st) t ∧ t { nx := fun _ H' => Q .non H', rt := Q } (start N [a]) H) : FnOk P w K mg base C8.CX0 (k + 1) f fd [p1] (sp1 g) := by
  refine C8.fn0 F S ?_ ?_
  · rintro vs H Q E ⟨a, rfl, _⟩
    rfl
  · rintro cdv A outer s H vs Q E hr ⟨a, rfl, h⟩
    exact body cdv A outer s H a Q E hr h
theorem fm2 {g : V → V → Hp → VK → Prop} (F : C8.Fun K m qual st f fd) (S : FnScope N [p1, p2] (C8.fnScope st))
    (body : ∀ (cdv : Value) (A : Around) (outer : List Env) (s : Shared) (H : Hp) (a b : V) (Q : VK) (E : XK), Room k (A.deeper (envOfC qual (C8.fnScope st) s.heap.objs.size f cdv)) → g a b H Q →
      ∃ t, PSs (cxOf C8.CX0 P w K mg base N qual (C8.fnScope st) f cdv A outer s H E).nox (C8.fnBody st) t ∧ t { nx := fun _ H' => Q .non H', rt := Q } (start N [a, b]) H) : FnOk P w K mg base C8.CX0 (k + 1) f fd [p1, p2] (sp2 g) := by
  refine C8.fn0 F S ?_ ?_
  · rintro vs H Q E ⟨a, b, rfl, _⟩
    rfl
  · rintro cdv A outer s H vs Q E hr ⟨a, b, rfl, h⟩
    exact body cdv A outer s H a b Q E hr h
theorem fm3 {g : V → V → V → Hp → VK → Prop} (F : C8.Fun K m qual st f fd) (S : FnScope N [p1, p2, p3] (C8.fnScope st))
    (body : ∀ (cdv : Value) (A : Around) (outer : List Env) (s : Shared) (H : Hp) (a b c : V) (Q : VK) (E : XK), Room k (A.deeper (envOfC qual (C8.fnScope st) s.heap.objs.size f cdv)) → g a b c H Q →
      ∃ t, PSs (cxOf C8.CX0 P w K mg base N qual (C8.fnScope st) f cdv A outer s H E).nox (C8.fnBody st) t ∧ t { nx := fun _ H' => Q .non H', rt := Q } (start N [a, b, c]) H) : FnOk P w K mg base C8.CX0 (k + 1) f fd [p1, p2, p3] (sp3 g) := by
  refine C8.fn0 F S ?_ ?_
  · rintro vs H Q E ⟨a, b, c, rfl, _⟩
    rfl
  · rintro cdv A outer s H vs Q E hr ⟨a, b, c, rfl, h⟩
    exact body cdv A outer s H a b c Q E hr h
end
/-! ### hours of a day, without a heap -/
/-- can it be entered at t -/
def openM (ws : Option (List (Int × Int))) (t : Int) : Bool := match ws with
  | none => true
  | some l => l.any fun p => decide (p.1 ≤ t) && decide (t < p.2)
/-- what is read at any time -/
def readM (f : List Int) (t : Int) : Int := f.getD (t % (f.length : Int)).toNat 0 + t / (f.length : Int) * f.length
/-! ### windows on the heap -/
def dW (l : List (Int × Int)) : List PyData := l.map fun p => .tuple [.int p.1, .int p.2]
def WinV (K : PySem.W.Frag) (H : Hp) (v : V) (ws : Option (List (Int × Int))) : Prop :=
  (ws = none ∧ v = .non) ∨ ∃ l, ws = some l ∧ l.length ≤ 1000 ∧ (Dp K H v (.list (dW l)) ∨ Dp K H v (.tuple (dW l)))
theorem WinV.mono {K : PySem.W.Frag} {H H' : Hp} {v : V} {ws : Option (List (Int × Int))} (h : WinV K H v ws) (e : Same H H') : WinV K H' v ws := by
  rcases h with h | ⟨l, h1, h2, h | h⟩
  · exact .inl h
  · exact .inr ⟨l, h1, h2, .inl (dp_mono e _ h)⟩
  · exact .inr ⟨l, h1, h2, .inr (dp_mono e _ h)⟩
theorem dp_pair {K : PySem.W.Frag} {H : Hp} {v : V} {a b : Int} (h : Dp K H v (.tuple [.int a, .int b])) : ∃ T, v = .ref T ∧ SqT K H T [.int a, .int b] := by
  cases h with
  | tup s x =>
    cases x with
    | cons p q =>
      cases q with
      | cons r u =>
        cases u
        cases p
        cases r
        exact ⟨_, rfl, s⟩
theorem dW_get {K : PySem.W.Frag} {H : Hp} {xs : List V} {l : List (Int × Int)} {i : Nat} {x : V} (h : DpAll K H xs (dW l)) (e : xs[i]? = some x) : ∃ p T, l[i]? = some p ∧ x = .ref T ∧ SqT K H T [.int p.1, .int p.2] := by
  obtain ⟨d, hd, hx⟩ := dpAll_get h e
  unfold dW at hd
  rw [List.getElem?_map] at hd
  cases hl : l[i]? with
  | none =>
    rw [hl] at hd
    cases hd
  | some p =>
    rw [hl] at hd
    cases hd
    obtain ⟨T, e1, e2⟩ := dp_pair hx
    exact ⟨p, T, rfl, e1, e2⟩
/-- a tuple of ints -/
def TupI (K : PySem.W.Frag) (H : Hp) (v : V) (f : List Int) : Prop := ∃ a, v = .ref a ∧ SqT K H a (f.map V.int)
theorem TupI.mono {K : PySem.W.Frag} {H H' : Hp} {v : V} {f : List Int} (h : TupI K H v f) (e : Same H H') : TupI K H' v f := by
  obtain ⟨a, h1, h2⟩ := h
  exact ⟨a, h1, same_tup e h2⟩
/-- the i-th of what a comprehension over a list makes -/
theorem map_get {α β : Type} (d : α) (f : α → β) (l : List α) {n : Nat} (h : n = l.length) : (List.range n).map (fun i => f (l.getD i d)) = l.map f := by
  rw [h]
  exact map_range_get d f l
theorem getD_of {α : Type} {l : List α} {i : Nat} {x d : α} (h : l[i]? = some x) : l.getD i d = x := by
  rw [List.getD_eq_getElem?_getD, h]
  rfl
theorem int_get {f : List Int} {i : Nat} {x : V} (h : (f.map V.int)[i]? = some x) : ∃ z, f[i]? = some z ∧ x = .int z := by
  rw [List.getElem?_map] at h
  cases e : f[i]? with
  | none =>
    rw [e] at h
    cases h
  | some z =>
    rw [e] at h
    exact ⟨z, rfl, (Option.some.inj h).symm⟩
/-! ### the walk, time by time -/
def walkM (n : Int) (ws : Option (List (Int × Int))) : Int → Nat → Int
  | t, 0 => t
  | t, m + 1 => if openM ws (t % n) = true then t else walkM n ws (t + 1) m
def anyO (n : Nat) (ws : Option (List (Int × Int))) : Bool := (List.range n).any fun i => openM ws (i : Nat)
def hoursM (n : Nat) (ws : Option (List (Int × Int))) (k : Int) : Option (List Int) :=
  if anyO n ws = true then some ((List.range n).map fun i => walkM n ws (i : Nat) n + k) else none
/-- u is the next open time from t -/
structure PB (n : Nat) (ws : Option (List (Int × Int))) (t u : Int) : Prop where
  le : t ≤ u
  op : openM ws (u % n) = true
  no : ∀ s, t ≤ s → s < u → openM ws (s % n) = false
  hi : u ≤ t + n
theorem walk_pb {n : Nat} {ws : Option (List (Int × Int))} {u : Int} (hop : openM ws (u % n) = true) : ∀ (m : Nat) (t : Int), t ≤ u → (∀ s, t ≤ s → s < u → openM ws (s % n) = false) → u ≤ t + m → walkM n ws t m = u
  | 0, t, h1, _, h3 => by
    show t = u
    omega
  | m + 1, t, h1, h2, h3 => by
    show (if openM ws (t % n) = true then t else walkM n ws (t + 1) m) = u
    by_cases e : t = u
    · subst e
      rw [if_pos hop]
    · have h := h2 t (Int.le_refl _) (by omega)
      rw [if_neg (by rw [h]; exact Bool.false_ne_true)]
      exact walk_pb hop m (t + 1) (by omega) (fun s a b => h2 s (by omega) b) (by omega)
theorem PB.walk {n : Nat} {ws : Option (List (Int × Int))} {t u : Int} (p : PB n ws t u) : walkM n ws t n = u := walk_pb p.op n t p.le p.no p.hi
/-- from the day's end backward -/
def bM (n : Nat) (ws : Option (List (Int × Int))) (a : Nat) : Nat → Int
  | 0 => (a : Int) + n
  | j + 1 => if openM ws ((n : Int) - 1 - j) = true then (n : Int) - 1 - j else bM n ws a j
theorem bM_pb {n a : Nat} {ws : Option (List (Int × Int))} (ha : a < n) (hop : openM ws (a : Nat) = true) (hno : ∀ s : Nat, s < a → openM ws (s : Nat) = false) : ∀ j : Nat, j ≤ n → PB n ws ((n : Int) - j) (bM n ws a j)
  | 0, _ => by
    have e : ((a : Int) + n) % n = a := by
      rw [Int.add_emod_right]
      exact Int.emod_eq_of_lt (by omega) (by omega)
    refine ⟨by show (n : Int) - (0 : Nat) ≤ a + n; omega, by show openM ws (((a : Int) + n) % n) = true; rw [e]; exact hop, ?_, by show (a : Int) + n ≤ _; omega⟩
    intro s h1 h2
    have h2 : s < (a : Int) + n := h2
    obtain ⟨k, rfl⟩ : ∃ k : Nat, s = (k : Int) + n := ⟨(s - n).toNat, by omega⟩
    rw [Int.add_emod_right, Int.emod_eq_of_lt (by omega) (by omega)]
    exact hno k (by omega)
  | j + 1, h => by
    have p := bM_pb ha hop hno j (by omega)
    have e : ((n : Int) - 1 - j) % n = (n : Int) - 1 - j := Int.emod_eq_of_lt (by omega) (by omega)
    show PB n ws ((n : Int) - (j + 1 : Nat)) (if openM ws ((n : Int) - 1 - j) = true then (n : Int) - 1 - j else bM n ws a j)
    by_cases o : openM ws ((n : Int) - 1 - j) = true
    · rw [if_pos o]
      exact ⟨by omega, by rw [e]; exact o, fun s a b => by omega, by omega⟩
    · rw [if_neg o]
      have hle := p.le
      have hhi := p.hi
      have o : openM ws ((n : Int) - 1 - j) = false := by
        cases q : openM ws ((n : Int) - 1 - j) with
        | false => rfl
        | true => exact absurd q o
      refine ⟨by omega, p.op, ?_, ?_⟩
      · intro s h1 h2
        by_cases q : s = (n : Int) - 1 - j
        · rw [q, e]
          exact o
        · exact p.no s (by omega) h2
      · by_cases q : bM n ws a j = (n : Int) - j + n
        · exfalso
          have h1 := p.op
          rw [q, Int.add_emod_right] at h1
          have h2 := p.no ((n : Int) - j) (Int.le_refl _) (by omega)
          rw [h1] at h2
          cases h2
        · omega
theorem first_open {n a : Nat} {p : Nat → Bool} {r : List Nat} (h : (List.range n).filter p = a :: r) : a < n ∧ p a = true ∧ ∀ s, s < a → p s = false := by
  have e : (List.range n).find? p = some a := by
    rw [← List.head?_filter, h]
    rfl
  obtain ⟨h1, h2, h3⟩ := List.find?_range_eq_some.mp e
  refine ⟨List.mem_range.mp h2, h1, fun s hs => ?_⟩
  have := h3 s hs
  cases q : p s with
  | false => rfl
  | true =>
    rw [q] at this
    cases this
theorem none_open {n : Nat} {p : Nat → Bool} (h : (List.range n).filter p = []) : (List.range n).any p = false := by
  cases e : (List.range n).any p with
  | false => rfl
  | true =>
    obtain ⟨x, hx, px⟩ := List.any_eq_true.mp e
    have := List.mem_filter.mpr ⟨hx, px⟩
    rw [h] at this
    cases this
theorem some_open {n a : Nat} {p : Nat → Bool} {r : List Nat} (h : (List.range n).filter p = a :: r) : (List.range n).any p = true := by
  obtain ⟨h1, h2, _⟩ := first_open h
  exact List.any_eq_true.mpr ⟨a, List.mem_range.mpr h1, h2⟩
/-- what is told of a day with an open time -/
structure Day (n : Nat) (ws : Option (List (Int × Int))) (E : Nat → Int) : Prop where
  lo : ∀ i, i < n → (i : Int) ≤ E i
  hi : ∀ i, i < n → E i ≤ i + n
  up : ∀ i, i + 1 < n → E i ≤ E (i + 1)
  last : E (n - 1) ≤ E 0 + n
theorem day_of {n a : Nat} {ws : Option (List (Int × Int))} (ha : a < n) (hop : openM ws (a : Nat) = true) (hno : ∀ s : Nat, s < a → openM ws (s : Nat) = false) :
    (∀ i, i < n → walkM n ws (i : Nat) n = bM n ws a (n - i)) ∧ Day n ws (fun i => walkM n ws (i : Nat) n) := by
  have pb : ∀ i, i < n → PB n ws (i : Nat) (bM n ws a (n - i)) := fun i hi => by
    have p := bM_pb ha hop hno (n - i) (by omega)
    rw [show (n : Int) - (n - i : Nat) = (i : Nat) by omega] at p
    exact p
  have w : ∀ i, i < n → walkM n ws (i : Nat) n = bM n ws a (n - i) := fun i hi => (pb i hi).walk
  refine ⟨w, ⟨fun i hi => ?_, fun i hi => ?_, fun i hi => ?_, ?_⟩⟩
  · show (i : Int) ≤ walkM n ws (i : Nat) n
    rw [w i hi]
    exact (pb i hi).le
  · show walkM n ws (i : Nat) n ≤ _
    rw [w i hi]
    exact (pb i hi).hi
  · show walkM n ws (i : Nat) n ≤ walkM n ws (i + 1 : Nat) n
    rw [w i (by omega), w (i + 1) hi, show n - i = (n - (i + 1)) + 1 by omega]
    have p := (pb (i + 1) hi).le
    show (if openM ws ((n : Int) - 1 - (n - (i + 1) : Nat)) = true then (n : Int) - 1 - (n - (i + 1) : Nat) else bM n ws a (n - (i + 1))) ≤ bM n ws a (n - (i + 1))
    by_cases o : openM ws ((n : Int) - 1 - (n - (i + 1) : Nat)) = true
    · rw [if_pos o]
      omega
    · rw [if_neg o]
      exact Int.le_refl _
  · show walkM n ws (n - 1 : Nat) n ≤ walkM n ws (0 : Nat) n + n
    rw [w (n - 1) (by omega), w 0 (by omega), show n - (n - 1) = 0 + 1 by omega]
    have p0 := pb 0 (by omega)
    have q : (a : Int) ≤ bM n ws a (n - 0) := by
      by_cases h : (a : Int) ≤ bM n ws a (n - 0)
      · exact h
      · exfalso
        have h1 := p0.le
        have h2 := p0.op
        generalize bM n ws a (n - 0) = u at *
        rw [Int.emod_eq_of_lt (by omega) (by omega)] at h2
        have h3 := hno u.toNat (by omega)
        rw [show ((u.toNat : Nat) : Int) = u by omega, h2] at h3
        cases h3
    show (if openM ws ((n : Int) - 1 - (0 : Nat)) = true then (n : Int) - 1 - (0 : Nat) else (a : Int) + n) ≤ _
    by_cases o : openM ws ((n : Int) - 1 - (0 : Nat)) = true
    · rw [if_pos o]
      omega
    · rw [if_neg o]
      omega
/-! ### tuples of ints as data -/
def optD : Option (List Int) → PyData
  | none => .none
  | some f => .tuple (f.map .int)
theorem TupI.dp {K : PySem.W.Frag} {H : Hp} {v : V} {f : List Int} (h : TupI K H v f) : Dp K H v (.tuple (f.map .int)) := by
  obtain ⟨a, rfl, s⟩ := h
  exact .tup s (dpAll_map fun x _ => .int x)
theorem tup_at {f : List Int} {i : Int} (h0 : 0 ≤ i) (h1 : i < f.length) : atI (f.map V.int) i = some (.int (f.getD i.toNat 0)) := by
  obtain ⟨j, rfl⟩ := Int.eq_ofNat_of_zero_le h0
  have hj : j < f.length := by omega
  refine (atI_nat ?_).trans rfl
  rw [List.getElem?_map, List.getElem?_eq_getElem hj, Int.toNat_natCast, List.getD_eq_getElem?_getD, List.getElem?_eq_getElem hj]
  rfl
theorem mod_in {t n : Int} (h : 0 < n) : 0 ≤ t % n ∧ t % n < n := ⟨Int.emod_nonneg _ (by omega), Int.emod_lt_of_pos _ h⟩
/-- the greatest time at which one is through by e -/
theorem latest {f : List Int} {e m : Int} (h0 : 0 < f.length) (hm : ∃ i, i < f.length ∧ m = (i : Nat) + (e - f.getD i 0) / (f.length : Int) * f.length) (hx : ∀ i, i < f.length → (i : Nat) + (e - f.getD i 0) / (f.length : Int) * f.length ≤ m) :
    readM f m ≤ e ∧ e < readM f (m + 1) := by
  have hn : (0 : Int) < f.length := by omega
  have key : ∀ t : Int, readM f t ≤ e → t ≤ m := by
    intro t ht
    obtain ⟨h1, h2⟩ := mod_in (t := t) hn
    have h3 := hx (t % f.length).toNat (by omega)
    unfold readM at ht
    rw [Int.toNat_of_nonneg h1] at h3
    have h4 : t / (f.length : Int) ≤ (e - f.getD (t % f.length).toNat 0) / (f.length : Int) := by
      refine (Int.le_ediv_iff_mul_le hn).mpr ?_
      omega
    have h5 := Int.mul_le_mul_of_nonneg_right h4 (Int.le_of_lt hn)
    have h6 := Int.emod_add_mul_ediv t f.length
    rw [Int.mul_comm] at h6
    omega
  constructor
  · obtain ⟨i, hi, rfl⟩ := hm
    unfold readM
    rw [Int.add_mul_emod_self_right, Int.add_mul_ediv_right _ _ (by omega), Int.emod_eq_of_lt (by omega) (by omega), Int.ediv_eq_zero_of_lt (by omega) (by omega), Int.toNat_natCast, Int.zero_add]
    have := Int.ediv_mul_le (e - f.getD i 0) (show (f.length : Int) ≠ 0 by omega)
    omega
  · by_cases h : e < readM f (m + 1)
    · exact h
    · have := key (m + 1) (by omega)
      omega
theorem latest_bound {f : List Int} {e : Int} {i : Nat} (h0 : 0 < f.length) (hl : f.length ≤ 1000) (hi : i < f.length) (b0 : 0 ≤ f.getD i 0) (b1 : f.getD i 0 ≤ 100000) (e0 : -1000000 ≤ e) (e1 : e ≤ 1000000) :
    -2000000 ≤ (i : Nat) + (e - f.getD i 0) / (f.length : Int) * f.length ∧ (i : Nat) + (e - f.getD i 0) / (f.length : Int) * f.length ≤ 2000000 := by
  have hn : (0 : Int) < f.length := by omega
  have h1 := Int.emod_add_mul_ediv (e - f.getD i 0) f.length
  obtain ⟨h2, h3⟩ := mod_in (t := e - f.getD i 0) hn
  rw [Int.mul_comm] at h1
  omega
theorem read_mod (f : List Int) (t : Int) : t - t / (f.length : Int) * f.length = t % (f.length : Int) := by
  have h := Int.emod_add_mul_ediv t f.length
  rw [Int.mul_comm] at h
  omega
theorem bw_any (l : List (Int × Int)) (t : Int) : openM (some l) t = (l.map fun p => decide (p.1 ≤ t) && decide (t < p.2)).any id := by
  rw [List.any_map]
  rfl
/-- windows as what is walked: a list or a tuple of pairs -/
theorem WinV.some {K : PySem.W.Frag} {H : Hp} {v : V} {l : List (Int × Int)} (h : WinV K H v (some l)) : l.length ≤ 1000 ∧ ∃ W xs, v = .ref W ∧ (SqL K H W xs ∨ SqT K H W xs) ∧ DpAll K H xs (dW l) ∧ l.length = xs.length := by
  rcases h with ⟨h, _⟩ | ⟨l', h1, h2, h3⟩
  · cases h
  · cases h1
    have len : ∀ xs, DpAll K H xs (dW l) → l.length = xs.length := fun xs hx => by
      have := dpAll_len hx
      unfold dW at this
      rw [List.length_map] at this
      exact this.symm
    rcases h3 with h | h
    · cases h with
      | lst s x => exact ⟨h2, _, _, rfl, .inl s, x, len _ x⟩
    · cases h with
      | tup s x => exact ⟨h2, _, _, rfl, .inr s, x, len _ x⟩
theorem WinV.none {K : PySem.W.Frag} {H : Hp} {v : V} (h : WinV K H v none) : v = .non := by
  rcases h with ⟨_, h⟩ | ⟨l', h1, _⟩
  · exact h
  · cases h1
/-- an object of the class Hours -/
def hfl (d : Int) (t : Addr) : List (Str × V) := putF "stay" (.ref t) (putF "day" (.int d) [])
def HoursAt (CH : Addr) (H : Hp) (p : Addr) (d : Nat) : Prop := ∃ dx t, H p = some (.ins CH dx (hfl d t)) ∧ H t = some (.tup (rgV 0 d))
theorem HoursAt.mono {CH : Addr} {H H' : Hp} {p : Addr} {d : Nat} (h : HoursAt CH H p d) (e : Same H H') : HoursAt CH H' p d := by
  obtain ⟨dx, t, a, b⟩ := h
  exact ⟨dx, t, e _ _ a, e _ _ b⟩
theorem ne_ds : ¬ (("day" : Str) = "stay") := by decide +kernel
theorem hfl_day (d : Int) (t : Addr) : (hfl d t).lookup ("day" : Str) = some (.int d) := by
  unfold hfl
  rw [lookup_putF, if_neg ne_ds, lookup_putF, if_pos rfl]
theorem hfl_stay (d : Int) (t : Addr) : (hfl d t).lookup ("stay" : Str) = some (.ref t) := by
  unfold hfl
  rw [lookup_putF, if_pos rfl]
theorem hfl_no (d : Int) (t : Addr) {m : Str} (h1 : ¬ m = "stay") (h2 : ¬ m = "day") : (hfl d t).lookup m = none := by
  unfold hfl
  rw [lookup_putF, if_neg h1, lookup_putF, if_neg h2]
  rfl
theorem tup_last {f : List Int} (h : 0 < f.length) : atI (f.map V.int) (-1) = some (.int (f.getD (f.length - 1) 0)) := by
  have e : ixN (f.map V.int).length (-1) = some (f.length - 1) := by
    unfold ixN
    rw [List.length_map, if_neg (by decide), if_pos (by omega)]
    exact congrArg some (by omega)
  unfold atI
  rw [e]
  show (f.map V.int)[f.length - 1]? = _
  rw [List.getElem?_map, List.getD_eq_getElem?_getD, List.getElem?_eq_getElem (show f.length - 1 < f.length by omega)]
  rfl
theorem cut_tail {f : List Int} (h : 0 < f.length) : HT.sIx (f.map V.int).length 0 (some 1) = 1 ∧ cutV (f.map V.int) (some 1) none = (f.drop 1).map V.int := by
  have e : HT.sIx (f.map V.int).length 0 (some 1) = 1 := by
    rw [List.length_map]
    refine (HT.sIx_nat f.length 0 1).trans ?_
    exact Nat.min_eq_left (by omega)
  refine ⟨e, ?_⟩
  unfold cutV
  rw [e, HT.sIx_none, List.length_map, ← List.map_drop]
  exact List.take_of_length_le (by rw [List.length_map, List.length_drop]; exact Nat.le_refl _)
theorem rev_bM {n a : Nat} {ws : Option (List (Int × Int))} {k : Int} (w : ∀ i, i < n → walkM n ws (i : Nat) n = bM n ws a (n - i)) :
    ((List.range n).map fun i => V.int (bM n ws a (i + 1) + k)).reverse = ((List.range n).map fun i => walkM n ws (i : Nat) n + k).map V.int := by
  rw [List.map_map]
  refine List.ext_getElem (by simp) fun i h1 h2 => ?_
  have hi : i < n := by simpa using h2
  rw [List.getElem_reverse, List.getElem_map, List.getElem_map, List.getElem_range, List.getElem_range]
  show V.int _ = V.int (walkM n ws (i : Nat) n + k)
  rw [w i hi, List.length_map, List.length_range, show n - 1 - i + 1 = n - i by omega]
theorem at0 {x : V} {xs : List V} : atI (x :: xs) 0 = some x := (show atI (x :: xs) ((0 : Nat) : Int) = some x from atI_nat rfl)
theorem at1 {x y : V} {xs : List V} : atI (x :: y :: xs) 1 = some y := (show atI (x :: y :: xs) ((1 : Nat) : Int) = some y from atI_nat rfl)
theorem filt_open (l : List (Int × Int)) (t : Int) : (!((List.range l.length).filter fun i => decide ((l.getD i (0, 0)).1 ≤ t) && decide (t < (l.getD i (0, 0)).2)).isEmpty) = openM (some l) t := by
  show _ = l.any fun p => decide (p.1 ≤ t) && decide (t < p.2)
  generalize e : (fun p : Int × Int => decide (p.1 ≤ t) && decide (t < p.2)) = b
  have e2 : (fun i => decide ((l.getD i (0, 0)).1 ≤ t) && decide (t < (l.getD i (0, 0)).2)) = fun i => b (l.getD i (0, 0)) := by
    funext i
    rw [← e]
  rw [e2]
  clear e e2
  induction l with
  | nil => rfl
  | cons a r ih =>
    rw [List.length_cons, List.range_succ_eq_map, List.filter_cons, List.any_cons, List.filter_map]
    show (!(if b a = true then _ else _ : List Nat).isEmpty) = _
    cases h : b a with
    | true =>
      rw [if_pos rfl, Bool.true_or]
      rfl
    | false =>
      rw [if_neg Bool.false_ne_true, List.isEmpty_map, Bool.false_or]
      exact ih
/-- what the law's loop has found behind j turns: stood at an open time, or still going -/
def stepM (n : Nat) (ws : Option (List (Int × Int))) (t : Int) (j : Nat) : Prop := ∀ m, walkM n ws t (j + m) = walkM n ws (t + j) m
theorem stepM_zero {n : Nat} {ws : Option (List (Int × Int))} {t : Int} : stepM n ws t 0 := fun m => by
  rw [Nat.zero_add, show t + ((0 : Nat) : Int) = t by omega]
theorem stepM_succ {n : Nat} {ws : Option (List (Int × Int))} {t : Int} {j : Nat} (h : stepM n ws t j) (o : openM ws ((t + j) % n) = false) : stepM n ws t (j + 1) := fun m => by
  have h1 := h (m + 1)
  rw [show j + (m + 1) = j + 1 + m by omega] at h1
  rw [h1, show t + ((j + 1 : Nat) : Int) = t + j + 1 by omega]
  exact if_neg (by rw [o]; exact Bool.false_ne_true)
theorem stepM_end {n : Nat} {ws : Option (List (Int × Int))} {t : Int} (h : stepM n ws t n) : t + n = walkM n ws t n := (h 0).symm
theorem stepM_stop {n : Nat} {ws : Option (List (Int × Int))} {t : Int} {j : Nat} (h : stepM n ws t j) (hj : j < n) (o : openM ws ((t + j) % n) = true) : t + j = walkM n ws t n := by
  have h1 := h (n - j - 1 + 1)
  rw [show j + (n - j - 1 + 1) = n by omega] at h1
  rw [h1]
  exact (if_pos o).symm
theorem sqt_upd {K : PySem.W.Frag} {H : Hp} {q U : Addr} {xs ys : List V} {o : HO} (hq : H q = some (.lst ys)) (h : SqT K H U xs) : SqT K (upd H q o) U xs := by
  rcases h with (h | ⟨o2, h⟩) | h
  · refine .inl (.inl ?_)
    rw [upd_ne fun e => by rw [e, hq] at h; cases h]
    exact h
  · refine .inl (.inr ⟨o2, ?_⟩)
    rw [upd_ne fun e => by rw [e, hq] at h; cases h]
    exact h
  · exact .inr h
theorem dW_upd {K : PySem.W.Frag} {H : Hp} {q : Addr} {ys : List V} {o : HO} (hq : H q = some (.lst ys)) : ∀ {l : List (Int × Int)} {xs : List V}, DpAll K H xs (dW l) → DpAll K (upd H q o) xs (dW l)
  | [], _, h => by
    cases h
    exact .nil
  | p :: r, _, h => by
    have h : DpAll K H _ (.tuple [.int p.1, .int p.2] :: dW r) := h
    cases h with
    | cons a b =>
      obtain ⟨U, rfl, s⟩ := dp_pair a
      exact .cons (.tup (sqt_upd hq s) (.cons (.int _) (.cons (.int _) .nil))) (dW_upd hq b)
theorem dW_snoc (l : List (Int × Int)) (a b : Int) : dW (l ++ [(a, b)]) = dW l ++ [.tuple [.int a, .int b]] := List.map_append
theorem dpAll_snoc {K : PySem.W.Frag} {H : Hp} : ∀ {xs : List V} {ds : List PyData} {x : V} {d : PyData}, DpAll K H xs ds → Dp K H x d → DpAll K H (xs ++ [x]) (ds ++ [d])
  | _, _, _, _, .nil, h => .cons h .nil
  | _, _, _, _, .cons a b, h => .cons a (dpAll_snoc b h)
theorem cut_mem (cs : List Int) (lo hi : Option Int) : ∃ ms : List Int, cutV (cs.map V.int) lo hi = ms.map V.int ∧ (∀ z ∈ ms, z ∈ cs) ∧ ms.length ≤ cs.length := by
  unfold cutV
  rw [← List.map_drop, ← List.map_take]
  refine ⟨_, rfl, fun z hz => List.mem_of_mem_drop (List.mem_of_mem_take hz), ?_⟩
  rw [List.length_take, List.length_drop]
  omega
/-- what the law's own windows are: None or a new list of pairs -/
def WinL (K : PySem.W.Frag) (H : Hp) (v : V) (ws : Option (List (Int × Int))) : Prop :=
  (ws = none ∧ v = .non) ∨ ∃ l D xs, ws = some l ∧ l.length ≤ 1000 ∧ v = .ref D ∧ H D = some (.lst xs) ∧ DpAll K H xs (dW l)
theorem WinL.mono {K : PySem.W.Frag} {H H' : Hp} {v : V} {ws : Option (List (Int × Int))} (h : WinL K H v ws) (e : Same H H') : WinL K H' v ws := by
  rcases h with h | ⟨l, D, xs, h1, h2, h3, h4, h5⟩
  · exact .inl h
  · exact .inr ⟨l, D, xs, h1, h2, h3, e _ _ h4, dpAll_mono e _ h5⟩
theorem WinL.win {K : PySem.W.Frag} {H : Hp} {v : V} {ws : Option (List (Int × Int))} (h : WinL K H v ws) : WinV K H v ws := by
  rcases h with h | ⟨l, D, xs, h1, h2, rfl, h4, h5⟩
  · exact .inl h
  · exact .inr ⟨l, h1, h2, .inl (.lst (SqL.of h4) h5)⟩
def OkF (n : Nat) (f : List Int) : Prop := f.length = n ∧ ∀ i, i < n → 0 ≤ f.getD i 0 ∧ f.getD i 0 ≤ 2000
theorem okF_of {n : Nat} {f : List Int} (h : f.length = n) (p : ∀ x ∈ f, 0 ≤ x ∧ x ≤ 2000) : OkF n f := by
  refine ⟨h, fun i hi => ?_⟩
  rw [getD_of (List.getElem?_eq_getElem (show i < f.length by omega))]
  exact p _ (List.getElem_mem _)
theorem okF_stay {n : Nat} (h : n ≤ 96) : OkF n ((List.range n).map fun i => ((i : Nat) : Int)) := by
  refine okF_of (by rw [List.length_map, List.length_range]) fun x hx => ?_
  obtain ⟨i, hi, rfl⟩ := List.mem_map.mp hx
  have := List.mem_range.mp hi
  omega
theorem rg_nat (n : Nat) : rgV 0 (n : Int) = ((List.range n).map fun i => ((i : Nat) : Int)).map V.int := by
  unfold rgV
  rw [show ((n : Int) - 0).toNat = n by omega, List.map_map]
  refine List.map_congr_left fun i _ => ?_
  show V.int (0 + (i : Nat)) = V.int (i : Nat)
  rw [Int.zero_add]
def FoundAt (K : PySem.W.Frag) (H : Hp) (q : Addr) (n m : Nat) : Prop := ∃ us : List V, H q = some (.lst us) ∧ 0 < us.length ∧ us.length ≤ m ∧ ∀ u ∈ us, ∃ f, TupI K H u f ∧ OkF n f
theorem FoundAt.mono {K : PySem.W.Frag} {H H' : Hp} {q : Addr} {n m m' : Nat} (h : FoundAt K H q n m) (e : Same H H') (hm : m ≤ m') : FoundAt K H' q n m' := by
  obtain ⟨us, h1, h2, h3, h4⟩ := h
  refine ⟨us, e _ _ h1, h2, by omega, fun u hu => ?_⟩
  obtain ⟨f, t, o⟩ := h4 u hu
  exact ⟨f, t.mono e, o⟩
theorem tupI_upd {K : PySem.W.Frag} {H : Hp} {q : Addr} {ys : List V} {o : HO} {v : V} {f : List Int} (hq : H q = some (.lst ys)) (h : TupI K H v f) : TupI K (upd H q o) v f := by
  obtain ⟨a, h1, h2⟩ := h
  exact ⟨a, h1, sqt_upd hq h2⟩
theorem span_in {z : V} (h : z ∈ ([.int 1, .int 2, .int 3, .int 4, .int 5, .int 6, .int 7, .int 8, .int 8, .int 24, .int 96] : List V)) : ∃ n : Nat, z = .int n ∧ 1 ≤ n ∧ n ≤ 96 := by
  simp only [List.mem_cons, List.not_mem_nil, or_false] at h
  rcases h with rfl | rfl | rfl | rfl | rfl | rfl | rfl | rfl | rfl | rfl | rfl
  · exact ⟨1, rfl, by decide, by decide⟩
  · exact ⟨2, rfl, by decide, by decide⟩
  · exact ⟨3, rfl, by decide, by decide⟩
  · exact ⟨4, rfl, by decide, by decide⟩
  · exact ⟨5, rfl, by decide, by decide⟩
  · exact ⟨6, rfl, by decide, by decide⟩
  · exact ⟨7, rfl, by decide, by decide⟩
  · exact ⟨8, rfl, by decide, by decide⟩
  · exact ⟨8, rfl, by decide, by decide⟩
  · exact ⟨24, rfl, by decide, by decide⟩
  · exact ⟨96, rfl, by decide, by decide⟩
/-- what hours tell keeps what a value must keep -/
theorem hours_ok {n : Nat} {ws : Option (List (Int × Int))} {k : Int} {f : List Int} (h : hoursM n ws k = some f) (n0 : 1 ≤ n) (n1 : n ≤ 96) (k0 : 0 ≤ k) (k1 : k ≤ 961) :
    OkF n f ∧ (∀ i, i < f.length → (i : Int) ≤ f.getD i 0) ∧ (∀ i, i + 1 < f.length → f.getD i 0 ≤ f.getD (i + 1) 0) ∧ f.getD (f.length - 1) 0 ≤ f.getD 0 0 + f.length := by
  unfold hoursM at h
  cases hA : anyO n ws with
  | false =>
    rw [hA] at h
    cases h
  | true =>
    rw [hA, if_pos rfl] at h
    cases h
    cases hF : (List.range n).filter (fun i => openM ws (i : Nat)) with
    | nil =>
      have := none_open hF
      unfold anyO at hA
      rw [hA] at this
      cases this
    | cons a r =>
      obtain ⟨ha, hop, hno⟩ := first_open hF
      obtain ⟨_, D⟩ := day_of ha hop hno
      have ln : ((List.range n).map fun i => walkM n ws (i : Nat) n + k).length = n := by rw [List.length_map, List.length_range]
      have g : ∀ i, i < n → ((List.range n).map fun i => walkM n ws (i : Nat) n + k).getD i 0 = walkM n ws (i : Nat) n + k := fun i hi => by
        rw [List.getD_eq_getElem?_getD, List.getElem?_map, List.getElem?_range hi]
        rfl
      have lo := D.lo
      have hi := D.hi
      have up := D.up
      have la := D.last
      refine ⟨⟨ln, fun i hi' => ?_⟩, fun i hi' => ?_, fun i hi' => ?_, ?_⟩
      · rw [g i hi']
        have a1 := lo i hi'
        have a2 := hi i hi'
        constructor <;> omega
      · rw [ln] at hi'
        rw [g i hi']
        have a1 := lo i hi'
        omega
      · rw [ln] at hi'
        rw [g i (by omega), g (i + 1) hi']
        have a1 := up i hi'
        omega
      · rw [ln, g (n - 1) (by omega), g 0 (by omega)]
        have a1 := la
        omega
theorem dpAll_rep {K : PySem.W.Frag} {H : Hp} {d : PyData} : ∀ {us : List V}, (∀ u ∈ us, Dp K H u d) → DpAll K H us (List.replicate us.length d)
  | [], _ => .nil
  | u :: r, h => .cons (h u (List.mem_cons_self ..)) (dpAll_rep fun x hx => h x (List.mem_cons_of_mem _ hx))
theorem lk_optD {m : Nat} {o : Option (List Int)} (h : ∀ f, o = some f → f.length ≤ 100000) : Lk (m + 2) (optD o) := by
  cases o with
  | none => trivial
  | some f =>
    refine ⟨by rw [List.length_map]; exact h f rfl, fun d hd => ?_⟩
    obtain ⟨z, _, rfl⟩ := List.mem_map.mp hd
    trivial
theorem optD_upd {K : PySem.W.Frag} {H : Hp} {q : Addr} {ys : List V} {o : HO} {v : V} {r : Option (List Int)} (hq : H q = some (.lst ys)) (h : Dp K H v (optD r)) : Dp K (upd H q o) v (optD r) := by
  cases r with
  | none =>
    cases h
    exact .non
  | some f =>
    cases h with
    | tup s x => exact .tup (sqt_upd hq s) (ints_free x)
where ints_free {K : PySem.W.Frag} {H H' : Hp} : ∀ {f : List Int} {xs : List V}, DpAll K H xs (f.map .int) → DpAll K H' xs (f.map .int)
  | [], _, h => by
    cases h
    exact .nil
  | z :: r, _, h => by
    cases h with
    | cons a b =>
      cases a
      exact .cons (.int _) (ints_free b)
theorem optD_tup {K : PySem.W.Frag} {H : Hp} {v : V} {f : List Int} (h : Dp K H v (optD (some f))) : TupI K H v f := by
  cases h with
  | tup s x =>
    refine ⟨_, rfl, ?_⟩
    rw [← ints_are x]
    exact s
where ints_are {K : PySem.W.Frag} {H : Hp} : ∀ {f : List Int} {xs : List V}, DpAll K H xs (f.map .int) → xs = f.map V.int
  | [], _, h => by
    cases h
    rfl
  | z :: r, _, h => by
    cases h with
    | cons a b =>
      cases a
      rw [ints_are b]
      rfl
theorem dpAll_rep2 {K : PySem.W.Frag} {H : Hp} {d : PyData} {v : V} (h : Dp K H v d) : ∀ {m : Nat}, DpAll K H ((List.range m).map fun _ => v) (List.replicate m d) := fun {m} => by
  rw [List.map_const', List.length_range]
  induction m with
  | zero => exact .nil
  | succ m ih => exact .cons h ih
theorem lk_dW {l : List (Int × Int)} {m : Nat} (h : l.length ≤ 1000) : Lk (m + 3) (.list (dW l)) := by
  refine ⟨by unfold dW; rw [List.length_map]; omega, fun d hd => ?_⟩
  obtain ⟨z, _, rfl⟩ := List.mem_map.mp hd
  refine ⟨Nat.le_of_ble_eq_true rfl, fun d hd => ?_⟩
  simp only [List.mem_cons, List.not_mem_nil, or_false] at hd
  rcases hd with rfl | rfl
  · trivial
  · trivial
def BdM (f : List Int) : Prop := 0 < f.length ∧ f.length ≤ 96 ∧ ∀ i, i < f.length → 0 ≤ f.getD i 0 ∧ f.getD i 0 ≤ 10000
theorem bd_of {n : Nat} {f : List Int} (h : OkF n f) (n0 : 1 ≤ n) (n1 : n ≤ 96) : BdM f := by
  obtain ⟨rfl, p⟩ := h
  refine ⟨n0, n1, fun i hi => ?_⟩
  have := p i hi
  omega
theorem bd_joined {n : Nat} {f g : List Int} (h : OkF n f) (h2 : OkF n g) (n0 : 1 ≤ n) (n1 : n ≤ 96) : BdM (f.map (readM g)) := by
  obtain ⟨lf, p⟩ := h
  obtain ⟨lg, p2⟩ := h2
  refine ⟨by rw [List.length_map]; omega, by rw [List.length_map]; omega, fun i hi => ?_⟩
  rw [List.length_map] at hi
  have e : (f.map (readM g)).getD i 0 = readM g (f.getD i 0) := by
    rw [List.getD_eq_getElem?_getD, List.getD_eq_getElem?_getD, List.getElem?_map, List.getElem?_eq_getElem hi]
    rfl
  rw [e]
  have a := p i (by omega)
  generalize f.getD i 0 = t at a
  have hn : (0 : Int) < g.length := by omega
  obtain ⟨m0, m1⟩ := mod_in (t := t) hn
  have b := p2 (t % g.length).toNat (by omega)
  have c := Int.emod_add_mul_ediv t g.length
  rw [Int.mul_comm] at c
  have d : 0 ≤ t / (g.length : Int) * g.length := Int.mul_nonneg (Int.ediv_nonneg a.1 (by omega)) (by omega)
  unfold readM
  constructor <;> omega
theorem bd_lower {n : Nat} {f g : List Int} (h : OkF n f) (h2 : OkF n g) (n0 : 1 ≤ n) (n1 : n ≤ 96) : BdM ((List.range f.length).map fun i => if g.getD i 0 < f.getD i 0 then g.getD i 0 else f.getD i 0) := by
  obtain ⟨lf, p⟩ := h
  obtain ⟨lg, p2⟩ := h2
  refine ⟨by rw [List.length_map, List.length_range]; omega, by rw [List.length_map, List.length_range]; omega, fun i hi => ?_⟩
  rw [List.length_map, List.length_range] at hi
  have e : ((List.range f.length).map fun i => if g.getD i 0 < f.getD i 0 then g.getD i 0 else f.getD i 0).getD i 0 = if g.getD i 0 < f.getD i 0 then g.getD i 0 else f.getD i 0 := by
    rw [List.getD_eq_getElem?_getD, List.getElem?_map, List.getElem?_range hi]
    rfl
  rw [e]
  have a := p i (by omega)
  have b := p2 i (by omega)
  split <;> omega
end Fb

set_option Elab.async false
set_option linter.all false
set_option maxRecDepth 100000
set_option maxHeartbeats 4000000
/-! sorted of data, out of a list or a tuple -/
namespace PySem.W
open PySem PyProof.Rows
section
variable {prog : Program} {w : World} {A : Around} {E : Value → Shared → Prop} {s : Shared}
theorem fb_collect {T : String} (hT : T = "list" ∨ T = "tuple") {l : Addr} {o : Obj} {vs : List Value} {n : Nat} {Q : List Value → Shared → Prop} (g : s.heap.get? l = some o) (c : o.cls = .type T) (d : o.data = .seq vs.toArray n)
    (q : Q vs { s with heap := (s.heap.push (seqObj "list" #[] 0)).update s.heap.objs.size (Obj.mapSeq (· ++ vs.toArray)) }) (z : vs.length ≤ sizeLine) :
    wpAny (model prog w) A (collect (.ref l)) Q E s := by
  unfold collect
  refine wpAny_bind (wpAny_runValue (codeAny_builtin entry_proto_collect' ?_))
  show wpAny _ _ (newList [] >>= fun l1 => again (.builtin "list.__iadd__" ⟨[l1, .ref l], []⟩)) _ _ s
  refine wpAny_bind (wpAny_newList ?_)
  refine wpAny_pure ⟨Code.quiet_builtin _ (by decide +kernel), codeAny_builtin entry_list_iadd' ?_⟩
  show wpAny _ _ (Builtin.List.listExtendWith (.ref s.heap.objs.size) (.ref l) (.ref s.heap.objs.size)) _ _ { heap := s.heap.push (seqObj "list" #[] 0), gens := s.gens, drawn := s.drawn, toks := s.toks, os := s.os }
  unfold Builtin.List.listExtendWith
  have g' : (s.heap.push (seqObj "list" #[] 0)).get? l = some o := Heap.get?_push_of_some _ g
  refine wpAny_bind (wpAny_typeOf (T := T) ⟨o, g', c⟩ ?_)
  have ht : (Value.type T == Value.type "list" || Value.type T == Value.type "tuple") = true := by
    rcases hT with rfl | rfl <;> rfl
  rw [if_pos (by rcases hT with rfl | rfl <;> simp)]
  refine wpAny_bind (listItems_at g' d ?_)
  refine wpAny_bind (listItems_at (n := 0) (xs := #[]) (Heap.get?_push_size _ rfl) rfl ?_)
  rw [if_neg (show ¬ _ by simp)]
  have room : (#[] ++ vs.toArray).size ≤ sizeLine + 1 := by
    rw [Array.size_append, List.size_toArray]
    show 0 + vs.length ≤ _
    omega
  refine wpAny_bind (listUpdate_at (n := 0) (xs := #[]) (Heap.get?_push_size _ rfl) rfl ?_ (Nat.zero_le _) room)
  refine wpAny_pure ?_
  show wpAny (model prog w) A (load s.heap.objs.size >>= _) Q E { s with heap := (s.heap.push (seqObj "list" #[] 0)).update s.heap.objs.size (Obj.mapSeq (· ++ vs.toArray)) }
  refine wpAny_bind (wpAny_load (get?_update_seq (Heap.get?_push_size _ rfl) _) ?_)
  show wpAny _ _ (pure (#[] ++ vs.toArray : Array Value).toList) Q E _
  have e : (#[] ++ vs.toArray : Array Value).toList = vs := by simp
  rw [e]
  exact wpAny_pure q
theorem fb_sort {T : String} (hT : T = "list" ∨ T = "tuple") {l : Addr} {o : Obj} {vs : List Value} {n : Nat} {Q : Value → Shared → Prop} (g : s.heap.get? l = some o) (c : o.cls = .type T) (d : o.data = .seq vs.toArray n) (z : vs.length ≤ sizeLine)
    (body : ∀ E' : Value → Shared → Prop, wpAny (model prog w) A.in1.in1 (Builtin.«list.sort» ⟨[.ref (s.heap.objs.size + 1)], []⟩) (fun f s' => f = .done (.ret .none) ∧ Q (.ref (s.heap.objs.size + 1)) s') E' { s with heap := copyHeap s.heap vs }) :
    wpAny (model prog w) A (call (.builtin "sorted") [.ref l]) Q E s := by
  refine call_function_entry_kw kind_sorted plain_sorted entry_sorted (args_sorted1 _) ?_
  unfold Builtin.«sorted»
  refine wpAny_bind (m := checkCount "sorted" 1 1 _) (wpAny_pure ?_)
  refine wpAny_bind (fb_collect hT g c d ?_ z)
  refine wpAny_bind (wpAny_newList ?_ z)
  have sz : ((s.heap.push (seqObj "list" #[] 0)).update s.heap.objs.size (Obj.mapSeq (· ++ vs.toArray))).objs.size = s.heap.objs.size + 1 := (Heap.size_update ..).trans (size_push' ..)
  show wpAny _ _ _ _ _ { heap := copyHeap s.heap vs, gens := s.gens, drawn := s.drawn, toks := s.toks, os := s.os }
  rw [sz]
  refine wpAny_bind (wpAny_holding (wpAny_call_entry_kw slot_list_sort ⟨_, copyHeap_at s.heap vs, rfl⟩ entry_list_sort ?_ (args_list_sort _)))
  refine wpAny_mono (body _) ?_ fun _ _ e => e
  rintro f s' ⟨rfl, hq⟩
  exact ⟨_, rfl, wpAny_pure ⟨_, rfl, hq⟩⟩
theorem fb_sorted {β : Type} {R : Value → β → Prop} {enc : β → PyData} {bs : List β} {T : String} (hT : T = "list" ∨ T = "tuple") {l : Addr} {o : Obj} {vs : List Value} {n : Nat} {Q : Value → Shared → Prop} (g : s.heap.get? l = some o) (c : o.cls = .type T) (d : o.data = .seq vs.toArray n)
    (e : EachIs R vs bs) (er : EachIs (fun v b => ∃ as, Reads s.heap v (enc b) as) vs bs) (al : AllAlike (bs.map enc)) (so : Sortable (bs.map enc)) (z : bs.length ≤ sizeLine) (hu : ∀ b, b ∈ bs → A.units + 2 + (enc b).depth < cLine)
    (h : ∀ out, out.length = bs.length → EachIs R out (bs.mergeSort (dataLe false enc)) → Q (.ref (s.heap.objs.size + 1)) { s with heap := sortedAll s.heap vs (List.toArray out) }) :
    wpAny (model prog w) A (call (.builtin "sorted") [.ref l]) Q E s := by
  have er2 : EachIs (fun v b => ∃ as, Reads (sortingHeap (copyHeap s.heap vs) (s.heap.objs.size + 1) vs) v (enc b) as) vs bs := by
    refine er.mono ?_
    rintro v b ⟨as, r⟩
    exact ⟨as, PyProof.Rows.Reads.keeps (fun _ _ => sorting_copy_old) r⟩
  have zl : vs.length ≤ sizeLine := by
    rw [e.length]
    exact z
  refine fb_sort hT g c d zl fun E' => ?_
  refine list_sort_vals (s := { s with heap := copyHeap s.heap vs }) (copyHeap_at s.heap vs) (SortsAt.data (s := { s with heap := sortingHeap (copyHeap s.heap vs) (s.heap.objs.size + 1) vs }) (each_map (R := fun v d => ∃ as, Reads (sortingHeap (copyHeap s.heap vs) (s.heap.objs.size + 1) vs) v d as) enc er2) al so (bound_map hu)) zl ⟨rfl, ?_⟩
  refine h _ ?_ (sortVals_data false e er2 al)
  rw [sortVals_length false rfl]
  exact e.length
end
end PySem.W
namespace Fb
open PySem PySem.Spec L2
open PyProof.Rows hiding St
/-- values and what they read as, sorted -/
abbrev sortD (zs : List (V × PyData)) : List (V × PyData) := zs.mergeSort (PySem.W.dataLe false Prod.snd)
def rSortD (K : PySem.W.Frag) : List V → Hp → VK → Prop := fun vs H Q => ∃ (a : Addr) (zs : List (V × PyData)), vs = [.ref a] ∧ (SqL K H a (zs.map Prod.fst) ∨ SqT K H a (zs.map Prod.fst)) ∧ (∀ z ∈ zs, Dp K H z.1 z.2 ∧ z.2.depth ≤ 60) ∧
  PySem.W.AllAlike (zs.map Prod.snd) ∧ PySem.W.Sortable (zs.map Prod.snd) ∧ ∀ p, H p = none → Q (.ref p) (upd H p (.lst ((sortD zs).map Prod.fst)))
theorem each_vals : ∀ {zs : List (V × PyData)} {us : List Value}, Vals (zs.map Prod.fst) us → PySem.W.EachIs (fun u (z : V × PyData) => RelV z.1 u) us zs
  | [], _, h => by
    cases h
    exact .nil
  | z :: r, _, h => by
    cases h with
    | cons a b => exact .cons a (each_vals b)
theorem vals_each : ∀ {zs : List (V × PyData)} {us : List Value}, PySem.W.EachIs (fun u (z : V × PyData) => RelV z.1 u) us zs → Vals (zs.map Prod.fst) us
  | _, _, .nil => .nil
  | _, _, .cons a b => .cons a (vals_each b)
theorem each_reads {X : Cx} {pins : List (Addr × Obj)} {σ : L2.St} {H : Hp} {s : Shared} (I : Inv X pins σ H s) : ∀ {zs : List (V × PyData)} {us : List Value}, Vals (zs.map Prod.fst) us → (∀ z ∈ zs, Dp X.K H z.1 z.2) → PySem.W.EachIs (fun u (z : V × PyData) => ∃ as, Reads s.heap u z.2 as) us zs
  | [], _, h, _ => by
    cases h
    exact .nil
  | z :: r, _, h, hd => by
    cases h with
    | cons a b => exact .cons (Dp.reads I z.2 z.1 _ (hd z (List.mem_cons_self ..)) a) (each_reads I b fun x hx => hd x (List.mem_cons_of_mem _ hx))
theorem cr_sortD {X : Cx} {k : Nat} (hr : Room k X.A) : CallR X (.builtin "sorted") (rSortD X.K) := by
  rintro pins s σ H vs us Q I r ⟨a, zs, rfl, hs, hd, al, so, q⟩
  have hu := hr.units
  rw [Vals.ref1 r]
  have fin : ∀ {T : String} (hT : T = "list" ∨ T = "tuple") {o : Obj} {its : List Value} {n : Nat}, s.heap.get? a = some o → o.cls = .type T → o.data = .seq its.toArray n → Vals (zs.map Prod.fst) its → (zs.map Prod.fst).length ≤ sizeLine →
      wpAny (model X.prog X.w) X.A (call (.builtin "sorted") [.ref a]) (EP X pins σ Q) X.xe s := by
    intro T hT o its n g c d rv hz
    rw [List.length_map] at hz
    refine PySem.W.fb_sorted hT g c d (each_vals rv) (each_reads I rv fun z m => (hd z m).1) al so hz (fun z m => ?_) fun out lo eo => ?_
    · have := (hd z m).2
      omega
    · obtain ⟨ep, he⟩ := PyProof.Rows.sortedAll_at s.heap its out.toArray
      have len : ((sortD zs).map Prod.fst).length ≤ sizeLine := by
        rw [List.length_map, List.length_mergeSort]
        exact hz
      exact ⟨.ref _, upd H (s.heap.objs.size + 1) (.lst ((sortD zs).map Prod.fst)), I.laid (t' := s.toks) (fun _ _ => PyProof.Rows.sortedAll_old) (Nat.le_succ _) ⟨len, out, ep, vals_each eo, he⟩, rfl, q _ (I.hok.fresh (Nat.le_succ _))⟩
  rcases hs with hs | hs
  · obtain ⟨its, rv, hl, hz⟩ := I.list hs
    obtain ⟨o, g, c, n, d⟩ := hl.isList
    exact fin (.inl rfl) g c d rv hz
  · obtain ⟨its, rv, hl, hz⟩ := I.tuple hs
    obtain ⟨o, g, c, n, d⟩ := hl
    exact fin (.inr rfl) g c d rv hz
end Fb

set_option Elab.async false
set_option linter.all false
set_option maxRecDepth 100000
set_option maxHeartbeats 4000000
/-! lines: which of them alone are least on a stretch -/
namespace Fb
abbrev Ln := Int × Int
/-- read at the setting n / d, times d -/
def vA (l : Ln) (n d : Int) : Int := l.1 * d + l.2 * n
def nevM (x y z : Ln) : Bool := decide ((z.1 - y.1) * (x.2 - y.2) ≤ (y.1 - x.1) * (y.2 - z.2))
def blwM (l o : Ln) (s : Int) : Bool := decide (l.1 + l.2 * s < o.1 + o.2 * s)
/-- x stands before y: a rises, b falls -/
def Bf (x y : Ln) : Prop := x.1 < y.1 ∧ y.2 < x.2
theorem Bf.trans {x y z : Ln} (h : Bf x y) (k : Bf y z) : Bf x z := ⟨Int.lt_trans h.1 k.1, Int.lt_trans k.2 h.2⟩
def popM (l : Ln) : List Ln → List Ln
  | y :: x :: r => if nevM x y l = true then popM l (x :: r) else y :: x :: r
  | r => r
def addM (top : Int) (l : Ln) (R : List Ln) : List Ln := match popM l R with
  | [] => [l]
  | y :: r => if blwM l y top = true then l :: y :: r else y :: r
def lowM (top : Int) (rows : List Ln) : List Ln := (rows.foldl (fun R l => addM top l R) []).reverse
/-- what is kept, the last one first -/
def Good (top : Int) : List Ln → Prop
  | y :: x :: r => Bf x y ∧ blwM y x top = true ∧ (∀ w r', r = w :: r' → nevM w x y = false) ∧ Good top (x :: r)
  | _ => True
theorem Good.tail {top : Int} {y : Ln} : ∀ {r : List Ln}, Good top (y :: r) → Good top r
  | [], _ => trivial
  | _ :: _, h => h.2.2.2
theorem pop_sub {l : Ln} : ∀ {R : List Ln}, ∀ q ∈ popM l R, q ∈ R
  | [], q, h => h
  | [_], q, h => h
  | y :: x :: r, q, h => by
    unfold popM at h
    by_cases e : nevM x y l = true
    · rw [if_pos e] at h
      exact List.mem_cons_of_mem _ (pop_sub q h)
    · rw [if_neg e] at h
      exact h
theorem pop_good {top : Int} {l : Ln} : ∀ {R : List Ln}, Good top R → Good top (popM l R)
  | [], h => h
  | [_], h => h
  | y :: x :: r, h => by
    unfold popM
    by_cases e : nevM x y l = true
    · rw [if_pos e]
      exact pop_good h.tail
    · rw [if_neg e]
      exact h
theorem pop_top {l y x : Ln} {r : List Ln} : ∀ {R : List Ln}, popM l R = y :: x :: r → nevM x y l = false
  | [], h => by cases h
  | [_], h => by cases h
  | b :: a :: s, h => by
    unfold popM at h
    by_cases e : nevM a b l = true
    · rw [if_pos e] at h
      exact pop_top h
    · rw [if_neg e] at h
      cases h
      cases q : nevM x y l with
      | false => rfl
      | true => exact absurd q e
theorem pop_ne {l : Ln} : ∀ {R : List Ln}, R ≠ [] → popM l R ≠ []
  | [], h, _ => h rfl
  | [_], _, e => by cases e
  | y :: x :: r, _, e => by
    unfold popM at e
    by_cases q : nevM x y l = true
    · rw [if_pos q] at e
      exact pop_ne (List.cons_ne_nil _ _) e
    · rw [if_neg q] at e
      cases e
/-- a line that is nowhere alone least: one of its neighbours is no greater -/
theorem nev_cover {x y z : Ln} {n d : Int} (h : nevM x y z = true) (xy : Bf x y) (yz : Bf y z) (hd : 0 < d) : vA x n d ≤ vA y n d ∨ vA z n d ≤ vA y n d := by
  have h := of_decide_eq_true h
  obtain ⟨a1, b1⟩ := xy
  obtain ⟨a2, b2⟩ := yz
  by_cases c : vA x n d ≤ vA y n d
  · exact .inl c
  · refine .inr ?_
    by_cases e : vA z n d ≤ vA y n d
    · exact e
    · exfalso
      unfold vA at c e
      have c1 : 0 < (x.2 - y.2) * n - (y.1 - x.1) * d := by grind
      have e1 : 0 < (z.1 - y.1) * d - (y.2 - z.2) * n := by grind
      have m1 := Int.mul_pos c1 (show 0 < y.2 - z.2 by omega)
      have m2 := Int.mul_pos e1 (show 0 < x.2 - y.2 by omega)
      have m3 := Int.mul_le_mul_of_nonneg_right h (Int.le_of_lt hd)
      grind
theorem pop_cover {l : Ln} {n d : Int} (hd : 0 < d) {top : Int} : ∀ {R : List Ln}, Good top R → (∀ y ∈ R, Bf y l) → ∀ q ∈ R, ∃ t, (t = l ∨ t ∈ popM l R) ∧ vA t n d ≤ vA q n d
  | [], _, _, q, h => by cases h
  | [_], _, _, q, h => ⟨q, .inr h, Int.le_refl _⟩
  | y :: x :: r, g, hb, q, h => by
    unfold popM
    by_cases e : nevM x y l = true
    · rw [if_pos e]
      have ih := pop_cover (l := l) (n := n) hd g.tail (fun z hz => hb z (List.mem_cons_of_mem _ hz))
      rcases List.mem_cons.mp h with rfl | h
      · rcases nev_cover (n := n) e g.1 (hb _ (List.mem_cons_self ..)) hd with c | c
        · obtain ⟨t, ht, le⟩ := ih x (List.mem_cons_self ..)
          exact ⟨t, ht, Int.le_trans le c⟩
        · exact ⟨l, .inl rfl, c⟩
      · exact ih q h
    · rw [if_neg e]
      exact ⟨q, .inr h, Int.le_refl _⟩
theorem not_below {l y : Ln} {top n d : Int} (h : blwM l y top = false) (b : Bf y l) (hd : 0 < d) (h2 : n ≤ top * d) : vA y n d ≤ vA l n d := by
  have h : ¬ l.1 + l.2 * top < y.1 + y.2 * top := of_decide_eq_false h
  obtain ⟨a1, b1⟩ := b
  unfold vA
  have m1 := Int.mul_le_mul_of_nonneg_right (show y.1 + y.2 * top ≤ l.1 + l.2 * top by omega) (Int.le_of_lt hd)
  have m2 := Int.mul_le_mul_of_nonneg_left h2 (show 0 ≤ y.2 - l.2 by omega)
  grind
theorem add_sub {top : Int} {l : Ln} {R : List Ln} : ∀ q ∈ addM top l R, q = l ∨ q ∈ R := by
  intro q h
  unfold addM at h
  cases e : popM l R with
  | nil =>
    rw [e] at h
    exact .inl (List.mem_singleton.mp h)
  | cons y r =>
    rw [e] at h
    have s := fun x hx => pop_sub (l := l) (R := R) x (by rw [e]; exact hx)
    by_cases b : blwM l y top = true
    · have h : q ∈ (if blwM l y top = true then l :: y :: r else y :: r) := h
      rw [if_pos b] at h
      rcases List.mem_cons.mp h with h | h
      · exact .inl h
      · exact .inr (s q h)
    · have h : q ∈ (if blwM l y top = true then l :: y :: r else y :: r) := h
      rw [if_neg b] at h
      exact .inr (s q h)
theorem add_good {top : Int} {l : Ln} {R : List Ln} (g : Good top R) (hb : ∀ y ∈ R, Bf y l) : Good top (addM top l R) := by
  unfold addM
  have pg := pop_good (l := l) g
  cases e : popM l R with
  | nil => exact trivial
  | cons y r =>
    rw [e] at pg
    show Good top (if blwM l y top = true then l :: y :: r else y :: r)
    by_cases b : blwM l y top = true
    · rw [if_pos b]
      refine ⟨hb y (pop_sub y (by rw [e]; exact List.mem_cons_self ..)), b, ?_, pg⟩
      rintro w r' rfl
      exact pop_top e
    · rw [if_neg b]
      exact pg
theorem add_cover {top : Int} {l : Ln} {R : List Ln} {n d : Int} (g : Good top R) (hb : ∀ y ∈ R, Bf y l) (hd : 0 < d) (h2 : n ≤ top * d) : ∀ q, (q = l ∨ q ∈ R) → ∃ t ∈ addM top l R, vA t n d ≤ vA q n d := by
  have lc : ∃ t ∈ addM top l R, vA t n d ≤ vA l n d := by
    unfold addM
    cases e : popM l R with
    | nil => exact ⟨l, List.mem_singleton.mpr rfl, Int.le_refl _⟩
    | cons y r =>
      show ∃ t ∈ (if blwM l y top = true then l :: y :: r else y :: r), _
      cases b : blwM l y top with
      | true => exact ⟨l, List.mem_cons_self .., Int.le_refl _⟩
      | false => exact ⟨y, List.mem_cons_self .., not_below b (hb y (pop_sub y (by rw [e]; exact List.mem_cons_self ..))) hd h2⟩
  have pc : ∀ q ∈ popM l R, q ∈ addM top l R := by
    intro q h
    unfold addM
    cases e : popM l R with
    | nil =>
      rw [e] at h
      cases h
    | cons y r =>
      rw [e] at h
      show q ∈ (if blwM l y top = true then l :: y :: r else y :: r)
      cases b : blwM l y top with
      | true => exact List.mem_cons_of_mem _ h
      | false => exact h
  rintro q (rfl | h)
  · exact lc
  · obtain ⟨t, ht, le⟩ := pop_cover (l := l) (n := n) hd g hb q h
    rcases ht with rfl | ht
    · obtain ⟨u, hu, le2⟩ := lc
      exact ⟨u, hu, Int.le_trans le2 le⟩
    · exact ⟨t, pc t ht, le⟩
/-- rows in their order: a rises, b falls -/
def Rows (rows : List Ln) : Prop := rows.Pairwise Bf
theorem fold_ok {top : Int} : ∀ (rows R done : List Ln), Rows rows → (∀ y ∈ done, ∀ l ∈ rows, Bf y l) → (∀ y ∈ R, y ∈ done) → Good top R → (∀ n d, 0 < d → n ≤ top * d → ∀ q ∈ done, ∃ t ∈ R, vA t n d ≤ vA q n d) →
    (∀ y ∈ rows.foldl (fun R l => addM top l R) R, y ∈ done ∨ y ∈ rows) ∧ Good top (rows.foldl (fun R l => addM top l R) R) ∧
    ∀ n d, 0 < d → n ≤ top * d → ∀ q, (q ∈ done ∨ q ∈ rows) → ∃ t ∈ rows.foldl (fun R l => addM top l R) R, vA t n d ≤ vA q n d
  | [], R, done, _, _, sub, g, c => ⟨fun y hy => .inl (sub y hy), g, fun n d hd h2 q hq => by
      rcases hq with hq | hq
      · exact c n d hd h2 q hq
      · cases hq⟩
  | l :: rows, R, done, hr, hb, sub, g, c => by
    have hr := List.pairwise_cons.mp hr
    have hl : ∀ y ∈ R, Bf y l := fun y hy => hb y (sub y hy) l (List.mem_cons_self ..)
    obtain ⟨i1, i2, i3⟩ := fold_ok rows (addM top l R) (l :: done) hr.2
      (fun y hy m hm => by
        rcases List.mem_cons.mp hy with rfl | hy
        · exact hr.1 m hm
        · exact hb y hy m (List.mem_cons_of_mem _ hm))
      (fun y hy => by
        rcases add_sub y hy with rfl | hy
        · exact List.mem_cons_self ..
        · exact List.mem_cons_of_mem _ (sub y hy))
      (add_good g hl)
      (fun n d hd h2 q hq => by
        rcases List.mem_cons.mp hq with rfl | hq
        · exact add_cover g hl hd h2 q (.inl rfl)
        · obtain ⟨t, ht, le⟩ := c n d hd h2 q hq
          obtain ⟨u, hu, le2⟩ := add_cover (n := n) g hl hd h2 t (.inr ht)
          exact ⟨u, hu, Int.le_trans le2 le⟩)
    refine ⟨fun y hy => ?_, i2, fun n d hd h2 q hq => ?_⟩
    · rcases i1 y hy with h | h
      · rcases List.mem_cons.mp h with rfl | h
        · exact .inr (List.mem_cons_self ..)
        · exact .inl h
      · exact .inr (List.mem_cons_of_mem _ h)
    · rcases hq with hq | hq
      · exact i3 n d hd h2 q (.inl (List.mem_cons_of_mem _ hq))
      · rcases List.mem_cons.mp hq with rfl | hq
        · exact i3 n d hd h2 q (.inl (List.mem_cons_self ..))
        · exact i3 n d hd h2 q (.inr hq)
/-- the lowest lines: of the rows, in their chain, and nowhere above a row -/
theorem low_ok {top : Int} {rows : List Ln} (hr : Rows rows) : (∀ y ∈ lowM top rows, y ∈ rows) ∧ Good top (lowM top rows).reverse ∧ ∀ n d, 0 < d → n ≤ top * d → ∀ q ∈ rows, ∃ t ∈ lowM top rows, vA t n d ≤ vA q n d := by
  obtain ⟨h1, h2, h3⟩ := fold_ok (top := top) rows [] [] hr (fun y hy => by cases hy) (fun y hy => by cases hy) trivial (fun n d _ _ q hq => by cases hq)
  unfold lowM
  refine ⟨fun y hy => ?_, by rw [List.reverse_reverse]; exact h2, fun n d hd hn q hq => ?_⟩
  · rcases h1 y (List.mem_reverse.mp hy) with h | h
    · cases h
    · exact h
  · obtain ⟨t, ht, le⟩ := h3 n d hd hn q (.inr hq)
    exact ⟨t, List.mem_reverse.mpr ht, le⟩
theorem low_ne {top : Int} {l : Ln} {rows : List Ln} (hr : Rows (l :: rows)) : lowM top (l :: rows) ≠ [] := by
  intro e
  by_cases h : 0 ≤ top
  · obtain ⟨t, ht, _⟩ := (low_ok (top := top) hr).2.2 0 1 (by decide) (by omega) l (List.mem_cons_self ..)
    rw [e] at ht
    cases ht
  · obtain ⟨t, ht, _⟩ := (low_ok (top := top) hr).2.2 top 1 (by decide) (by omega) l (List.mem_cons_self ..)
    rw [e] at ht
    cases ht
/-! ### alone least -/
theorem nev_lt {s t u : Ln} (h : nevM s t u = false) : (t.1 - s.1) * (t.2 - u.2) < (u.1 - t.1) * (s.2 - t.2) := Int.not_le.mp (of_decide_eq_false h)
theorem blw_lt {l o : Ln} {s : Int} (h : blwM l o s = true) : l.1 + l.2 * s < o.1 + o.2 * s := of_decide_eq_true h
/-- behind the meeting with s, t loses to u later than it wins against s -/
theorem vA_up {s t u : Ln} {n d : Int} (st : Bf s t) (tu : Bf t u) (h : nevM s t u = false) (hd : 0 < d) (k : vA s n d < vA t n d) : vA t n d < vA u n d := by
  have h := nev_lt h
  obtain ⟨a1, b1⟩ := st
  obtain ⟨a2, b2⟩ := tu
  unfold vA at k ⊢
  have k1 : (s.2 - t.2) * n < (t.1 - s.1) * d := by grind
  have m1 := Int.mul_lt_mul_of_pos_left k1 (show 0 < t.2 - u.2 by omega)
  have m2 := Int.mul_lt_mul_of_pos_right h hd
  have m3 : (s.2 - t.2) * ((t.2 - u.2) * n) < (s.2 - t.2) * ((u.1 - t.1) * d) := by grind
  have m4 := Int.lt_of_mul_lt_mul_left m3 (show 0 ≤ s.2 - t.2 by omega)
  grind
theorem vA_down {s t u : Ln} {n d : Int} (st : Bf s t) (tu : Bf t u) (h : nevM s t u = false) (hd : 0 < d) (k : vA u n d < vA t n d) : vA t n d < vA s n d := by
  have h := nev_lt h
  obtain ⟨a1, b1⟩ := st
  obtain ⟨a2, b2⟩ := tu
  unfold vA at k ⊢
  have k1 : (u.1 - t.1) * d < (t.2 - u.2) * n := by grind
  have m1 := Int.mul_lt_mul_of_pos_left k1 (show 0 < s.2 - t.2 by omega)
  have m2 := Int.mul_lt_mul_of_pos_right h hd
  have m3 : (t.2 - u.2) * ((t.1 - s.1) * d) < (t.2 - u.2) * ((s.2 - t.2) * n) := by grind
  have m4 := Int.lt_of_mul_lt_mul_left m3 (show 0 ≤ t.2 - u.2 by omega)
  grind
theorem chain_down {top n d : Int} (hd : 0 < d) : ∀ {suf : List Ln} {t : Ln}, Good top (t :: suf) → (∀ s r, suf = s :: r → vA t n d < vA s n d) → ∀ z ∈ suf, vA t n d < vA z n d
  | [], _, _, _, z, h => by cases h
  | s :: r, t, g, k, z, h => by
    have h1 := k s r rfl
    rcases List.mem_cons.mp h with rfl | h
    · exact h1
    · have ih := chain_down hd (suf := r) (t := s) g.tail (fun w r' e => by
        subst e
        have g2 := g.tail
        exact vA_down g2.1 g.1 (g.2.2.1 w r' rfl) hd h1) z h
      exact Int.lt_trans h1 ih
theorem good_at {top : Int} : ∀ {pre : List Ln} {t : Ln} {suf : List Ln}, Good top (pre ++ t :: suf) → Good top (t :: suf)
  | [], _, _, g => g
  | _ :: pre, _, _, g => good_at (pre := pre) g.tail
theorem chain_up {top n d : Int} (hd : 0 < d) : ∀ {pre : List Ln} {t : Ln} {suf : List Ln}, Good top (pre ++ t :: suf) → (∀ u p, pre = p ++ [u] → vA t n d < vA u n d) →
    (∀ y p, pre = y :: p → ∀ x r, p ++ t :: suf = x :: r → vA x n d < vA y n d) ∧ ∀ z ∈ pre, vA t n d < vA z n d
  | [], _, _, _, _ => ⟨fun y p e => (by cases e), fun z h => by cases h⟩
  | [y], t, suf, g, k => by
    have h := k y [] rfl
    refine ⟨fun y' p e x r e2 => ?_, fun z hz => ?_⟩
    · cases e
      cases e2
      exact h
    · cases List.mem_singleton.mp hz
      exact h
  | y :: y2 :: p, t, suf, g, k => by
    obtain ⟨i1, i2⟩ := chain_up hd (pre := y2 :: p) (t := t) (suf := suf) g.tail (fun u q e => k u (y :: q) (by rw [e]; rfl))
    have key : vA y2 n d < vA y n d := by
      have g : Good top (y :: y2 :: (p ++ t :: suf)) := g
      cases e : p ++ t :: suf with
      | nil => cases p <;> cases e
      | cons x r =>
        rw [e] at g
        have h1 := i1 y2 p rfl x r e
        exact vA_up g.tail.1 g.1 (g.2.2.1 x r rfl) hd h1
    refine ⟨fun y' p' e x r e2 => ?_, fun z hz => ?_⟩
    · cases e
      cases e2
      exact key
    · rcases List.mem_cons.mp hz with rfl | hz
      · exact Int.lt_trans (i2 y2 (List.mem_cons_self ..)) key
      · exact i2 z hz
/-- the settings of the law, as whole places over F -/
structure Places (rays : List Ln) (roof F : Int) (ps : List Int) : Prop where
  fp : 0 < F
  up : ps.Pairwise (· < ·)
  m0 : 0 ∈ ps
  mr : roof * F ∈ ps
  inn : ∀ x ∈ ps, 0 ≤ x ∧ x ≤ roof * F
  cross : ∀ l ∈ rays, ∀ u ∈ rays, Bf l u → u.1 - l.1 < roof * (l.2 - u.2) → ∃ x ∈ ps, x * (l.2 - u.2) = (u.1 - l.1) * F
theorem next_at {a b : Int} : ∀ {ps : List Int}, ps.Pairwise (· < ·) → a ∈ ps → b ∈ ps → a < b → ∃ k, k + 1 < ps.length ∧ ps.getD k 0 = a ∧ ps.getD (k + 1) 0 ≤ b ∧ a < ps.getD (k + 1) 0 ∧ ∀ x ∈ ps, ¬ (a < x ∧ x < ps.getD (k + 1) 0)
  | [], _, h, _, _ => by cases h
  | c :: ps, hp, ha, hb, lt => by
    have hp := List.pairwise_cons.mp hp
    rcases List.mem_cons.mp ha with rfl | ha
    · rcases List.mem_cons.mp hb with rfl | hb
      · omega
      · cases ps with
        | nil => cases hb
        | cons e r =>
          have h2 := List.pairwise_cons.mp hp.2
          refine ⟨0, by show 1 < r.length + 1 + 1; omega, rfl, ?_, hp.1 e (List.mem_cons_self ..), fun x hx hh => ?_⟩
          · rcases List.mem_cons.mp hb with rfl | hb
            · exact Int.le_refl _
            · exact Int.le_of_lt (h2.1 b hb)
          · have hh2 : x < e := hh.2
            rcases List.mem_cons.mp hx with rfl | hx
            · omega
            · rcases List.mem_cons.mp hx with rfl | hx
              · omega
              · have := h2.1 x hx
                omega
    · have ca := hp.1 a ha
      have hb : b ∈ ps := by
        rcases List.mem_cons.mp hb with rfl | hb
        · omega
        · exact hb
      obtain ⟨k, h1, h2, h3, h4, h5⟩ := next_at hp.2 ha hb lt
      refine ⟨k + 1, by show k + 1 + 1 < ps.length + 1; omega, h2, h3, h4, fun x hx hh => ?_⟩
      rcases List.mem_cons.mp hx with rfl | hx
      · omega
      · exact h5 x hx hh
theorem alone {rays R : List Ln} {roof F : Int} {qs : List Int} (P : Places rays roof F qs) (hr : 0 < roof) (g : Good roof R) (sub : ∀ t ∈ R, t ∈ rays) (cov : ∀ n d, 0 ≤ n → 0 < d → n ≤ roof * d → ∀ q ∈ rays, ∃ t ∈ R, vA t n d ≤ vA q n d) {t : Ln} (ht : t ∈ R) :
    ∃ k, k + 1 < qs.length ∧ ∀ z ∈ rays, z ≠ t → vA t (qs.getD k 0 + qs.getD (k + 1) 0) (F * 2) < vA z (qs.getD k 0 + qs.getD (k + 1) 0) (F * 2) := by
  obtain ⟨pre, suf, rfl⟩ := List.append_of_mem ht
  have F0 := P.fp
  have gt := good_at g
  have tr := sub t ht
  -- where t wins
  obtain ⟨lo, hlo, l0, lz, l1⟩ : ∃ lo ∈ qs, 0 ≤ lo ∧ (suf = [] → lo = 0) ∧ ∀ s r, suf = s :: r → lo * (s.2 - t.2) = (t.1 - s.1) * F ∧ Bf s t := by
    cases suf with
    | nil => exact ⟨0, P.m0, Int.le_refl _, fun _ => rfl, fun s r e => by cases e⟩
    | cons s r =>
      have b := blw_lt gt.2.1
      have bs : Bf s t := gt.1
      obtain ⟨x, hx, ex⟩ := P.cross s (sub s (by simp)) t (sub t (by simp)) bs (by grind)
      refine ⟨x, hx, (P.inn x hx).1, (fun e => by cases e), fun s' r' e => ?_⟩
      cases e
      exact ⟨ex, bs⟩
  -- where t loses
  obtain ⟨hi, hhi, hz, h2⟩ : ∃ hi ∈ qs, (pre = [] → hi = roof * F) ∧ ∀ u p, pre = p ++ [u] → hi * (t.2 - u.2) = (u.1 - t.1) * F ∧ Bf t u ∧ (∀ s r, suf = s :: r → nevM s t u = false) := by
    rcases List.eq_nil_or_concat pre with rfl | ⟨p, u, rfl⟩
    · refine ⟨roof * F, P.mr, fun _ => rfl, fun u p e => ?_⟩
      have := congrArg List.length e
      simp at this
    · rw [List.concat_eq_append, List.append_assoc] at g
      have gu : Good roof (u :: t :: suf) := good_at g
      have b := blw_lt gu.2.1
      have bu : Bf t u := gu.1
      obtain ⟨x, hx, ex⟩ := P.cross t tr u (sub u (by simp)) bu (by grind)
      refine ⟨x, hx, fun e => ?_, fun u' p' e => ?_⟩
      · have := congrArg List.length e
        simp at this
      · rw [List.concat_eq_append] at e
        have e2 := (List.append_inj' e rfl).2
        cases e2
        exact ⟨ex, bu, gu.2.2.1⟩
  have lt : lo < hi := by
    rcases List.eq_nil_or_concat pre with e | ⟨p, u, e⟩
    · have eh := hz e
      have rF := Int.mul_pos hr F0
      cases suf with
      | nil =>
        rw [lz rfl, eh]
        exact rF
      | cons s r =>
        obtain ⟨e1, bs⟩ := l1 s r rfl
        have b := blw_lt gt.2.1
        obtain ⟨a1, b1⟩ := bs
        have q1 : t.1 - s.1 < roof * (s.2 - t.2) := by
          rw [Int.mul_sub, Int.mul_comm roof, Int.mul_comm roof]
          omega
        have m1 := Int.mul_lt_mul_of_pos_right q1 F0
        have m2 : lo * (s.2 - t.2) < hi * (s.2 - t.2) := by
          rw [e1, eh, Int.mul_right_comm]
          exact m1
        exact Int.lt_of_mul_lt_mul_right m2 (by omega)
    · rw [List.concat_eq_append] at e
      obtain ⟨e2, bu, nv⟩ := h2 u p e
      obtain ⟨a2, b2⟩ := bu
      cases suf with
      | nil =>
        rw [lz rfl]
        have m1 := Int.mul_pos (show 0 < u.1 - t.1 by omega) F0
        rw [← e2] at m1
        have m2 : 0 * (t.2 - u.2) < hi * (t.2 - u.2) := by
          rw [Int.zero_mul]
          exact m1
        exact Int.lt_of_mul_lt_mul_right m2 (by omega)
      | cons s r =>
        obtain ⟨e1, bs⟩ := l1 s r rfl
        have nv := nev_lt (nv s r rfl)
        obtain ⟨a1, b1⟩ := bs
        have m1 := Int.mul_lt_mul_of_pos_right nv F0
        have m2 : lo * ((s.2 - t.2) * (t.2 - u.2)) < hi * ((s.2 - t.2) * (t.2 - u.2)) := by
          have k1 : lo * ((s.2 - t.2) * (t.2 - u.2)) = (t.1 - s.1) * (t.2 - u.2) * F := by
            rw [← Int.mul_assoc, e1, Int.mul_right_comm]
          have k2 : hi * ((s.2 - t.2) * (t.2 - u.2)) = (u.1 - t.1) * (s.2 - t.2) * F := by
            rw [Int.mul_comm (s.2 - t.2), ← Int.mul_assoc, e2, Int.mul_right_comm]
          rw [k1, k2]
          exact m1
        exact Int.lt_of_mul_lt_mul_right m2 (Int.le_of_lt (Int.mul_pos (by omega) (by omega)))
  obtain ⟨k, k1, k2, k3, k4, k5⟩ := next_at P.up hlo hhi lt
  refine ⟨k, k1, ?_⟩
  rw [k2]
  generalize qs.getD (k + 1) 0 = nx at k3 k4 k5
  have hm : lo * 2 < lo + nx ∧ lo + nx < nx * 2 := by omega
  have hD : 0 < F * 2 := by omega
  have down := chain_down (n := lo + nx) hD gt (fun s r e => by
    obtain ⟨e1, a1, b1⟩ := l1 s r e
    have m1 := Int.mul_lt_mul_of_pos_right hm.1 (show 0 < s.2 - t.2 by omega)
    have m2 : lo * 2 * (s.2 - t.2) = (t.1 - s.1) * F * 2 := by rw [Int.mul_right_comm, e1]
    unfold vA
    rw [m2] at m1
    grind)
  have up := (chain_up (n := lo + nx) hD g (fun u p e => by
    obtain ⟨e2, ⟨a2, b2⟩, _⟩ := h2 u p e
    have m1 := Int.mul_lt_mul_of_pos_right (show lo + nx < hi * 2 by omega) (show 0 < t.2 - u.2 by omega)
    have m2 : hi * 2 * (t.2 - u.2) = (u.1 - t.1) * F * 2 := by rw [Int.mul_right_comm, e2]
    unfold vA
    rw [m2] at m1
    grind)).2
  have inT : ∀ z ∈ pre ++ t :: suf, z = t ∨ vA t (lo + nx) (F * 2) < vA z (lo + nx) (F * 2) := by
    intro z hz
    rcases List.mem_append.mp hz with h | h
    · exact .inr (up z h)
    · rcases List.mem_cons.mp h with h | h
      · exact .inl h
      · exact .inr (down z h)
  have hiF := (P.inn hi hhi).2
  have mroof : lo + nx ≤ roof * (F * 2) := by
    rw [← Int.mul_assoc]
    omega
  intro z hz ne
  obtain ⟨u, hu, le⟩ := cov (lo + nx) (F * 2) (by omega) hD mroof z hz
  rcases inT u hu with rfl | h
  · -- not equal: a crossing between two neighbouring places
    rcases Int.lt_or_le (vA u (lo + nx) (F * 2)) (vA z (lo + nx) (F * 2)) with h | h
    · exact h
    exfalso
    have eq := Int.le_antisymm le h
    unfold vA at eq
    have no : ∀ l ∈ rays, ∀ v ∈ rays, Bf l v → (l.2 - v.2) * (lo + nx) = (v.1 - l.1) * (F * 2) → False := by
      intro l hl v hv b e
      obtain ⟨a1, b1⟩ := b
      have lt2 : v.1 - l.1 < roof * (l.2 - v.2) := by
        have m1 := Int.mul_lt_mul_of_pos_left (show lo + nx < roof * (F * 2) by rw [← Int.mul_assoc]; omega) (show 0 < l.2 - v.2 by omega)
        rw [e, show (l.2 - v.2) * (roof * (F * 2)) = roof * (l.2 - v.2) * (F * 2) by rw [← Int.mul_assoc, Int.mul_comm (l.2 - v.2)]] at m1
        exact Int.lt_of_mul_lt_mul_right m1 (Int.le_of_lt hD)
      obtain ⟨x, hx, ex⟩ := P.cross l hl v hv ⟨a1, b1⟩ lt2
      have x2 : x * 2 = lo + nx := by
        have m1 : (l.2 - v.2) * (x * 2) = (l.2 - v.2) * (lo + nx) := by
          rw [e, ← Int.mul_assoc, ← Int.mul_assoc, Int.mul_comm (l.2 - v.2), ex]
        exact Int.eq_of_mul_eq_mul_left (by omega) m1
      exact k5 x hx ⟨by omega, by omega⟩
    have mpos : 0 < lo + nx := by omega
    rcases Int.lt_trichotomy z.2 u.2 with hb | hb | hb
    · refine no u tr z hz ⟨?_, hb⟩ (by grind)
      have m1 := Int.mul_pos (show 0 < u.2 - z.2 by omega) mpos
      have m2 : 0 * (F * 2) < (z.1 - u.1) * (F * 2) := by grind
      have := Int.lt_of_mul_lt_mul_right m2 (Int.le_of_lt hD)
      omega
    · rw [hb] at eq
      have m2 : u.1 * (F * 2) = z.1 * (F * 2) := by omega
      have := Int.eq_of_mul_eq_mul_right (by omega) m2
      exact ne (Prod.ext this.symm hb)
    · refine no z hz u tr ⟨?_, hb⟩ (by grind)
      have m1 := Int.mul_pos (show 0 < z.2 - u.2 by omega) mpos
      have m2 : 0 * (F * 2) < (u.1 - z.1) * (F * 2) := by grind
      have := Int.lt_of_mul_lt_mul_right m2 (Int.le_of_lt hD)
      omega
  · exact Int.lt_of_lt_of_le h le
end Fb

set_option Elab.async false
set_option linter.all false
set_option maxRecDepth 100000
set_option maxHeartbeats 4000000
/-! rows of ints on the heap -/
namespace Fb
open PySem PySem.Spec L2
open PyProof.Rows hiding St
def rowD (l : List Int) : PyData := .tuple (l.map .int)
def RowsV (K : PySem.W.Frag) (H : Hp) (xs : List V) (ls : List (List Int)) : Prop := DpAll K H xs (ls.map rowD)
theorem RowsV.mono {K : PySem.W.Frag} {H H' : Hp} {xs : List V} {ls : List (List Int)} (h : RowsV K H xs ls) (e : Same H H') : RowsV K H' xs ls := dpAll_mono e _ h
theorem RowsV.len {K : PySem.W.Frag} {H : Hp} {xs : List V} {ls : List (List Int)} (h : RowsV K H xs ls) : xs.length = ls.length := by
  have := dpAll_len h
  rw [List.length_map] at this
  exact this
theorem RowsV.get {K : PySem.W.Frag} {H : Hp} {xs : List V} {ls : List (List Int)} (h : RowsV K H xs ls) {i : Nat} {x : V} (e : xs[i]? = some x) : ∃ l, ls[i]? = some l ∧ TupI K H x l := by
  obtain ⟨d, g1, g2⟩ := dpAll_get h e
  rw [List.getElem?_map] at g1
  cases hl : ls[i]? with
  | none =>
    rw [hl] at g1
    cases g1
  | some l =>
    rw [hl] at g1
    cases g1
    exact ⟨l, rfl, optD_tup g2⟩
theorem RowsV.upd {K : PySem.W.Frag} {H : Hp} {q : Addr} {ys : List V} {o : HO} (hq : H q = some (.lst ys)) : ∀ {ls : List (List Int)} {xs : List V}, RowsV K H xs ls → RowsV K (upd H q o) xs ls
  | [], _, h => by
    cases h
    exact .nil
  | l :: r, _, h => by
    have h : DpAll K H _ (rowD l :: r.map rowD) := h
    cases h with
    | cons a b => exact .cons (optD_upd (r := some l) hq a) (RowsV.upd hq b)
theorem RowsV.snoc {K : PySem.W.Frag} {H : Hp} {xs : List V} {ls : List (List Int)} {x : V} {l : List Int} (h : RowsV K H xs ls) (t : TupI K H x l) : RowsV K H (xs ++ [x]) (ls ++ [l]) := by
  unfold RowsV
  rw [List.map_append]
  exact dpAll_snoc h t.dp
/-- one row at most another, place by place -/
def leM (f g : List Int) : Bool := (List.range f.length).all fun i => decide (f.getD i 0 ≤ g.getD i 0)
def rowLe : List Int → List Int → Bool := PySem.W.dataLe false rowD
def thinS (k : List (List Int)) (r : List Int) : List (List Int) := if (k.any fun o => leM o r) = true then k else k ++ [r]
def thinM (ls : List (List Int)) : List (List Int) := (ls.mergeSort rowLe).foldl thinS []
theorem thinS_t {k : List (List Int)} {r : List Int} (h : (k.any fun o => leM o r) = true) : thinS k r = k := if_pos h
theorem thinS_f {k : List (List Int)} {r : List Int} (h : (k.any fun o => leM o r) = false) : thinS k r = k ++ [r] := if_neg (by rw [h]; exact Bool.false_ne_true)
theorem sortD_snd {zs : List (V × PyData)} {ls : List (List Int)} (h : zs.map Prod.snd = ls.map rowD) : (sortD zs).map Prod.snd = (ls.mergeSort rowLe).map rowD := by
  have h1 : (sortD zs).map Prod.snd = (zs.map Prod.snd).mergeSort (PySem.W.dataLe false id) := List.map_mergeSort fun a _ b _ => rfl
  have h2 : (ls.mergeSort rowLe).map rowD = (ls.map rowD).mergeSort (PySem.W.dataLe false id) := List.map_mergeSort fun a _ b _ => rfl
  rw [h1, h2, h]
theorem rows_sorted {K : PySem.W.Frag} {H : Hp} {zs : List (V × PyData)} {ls : List (List Int)} (hd : ∀ z ∈ zs, Dp K H z.1 z.2) (h : zs.map Prod.snd = ls.map rowD) : RowsV K H ((sortD zs).map Prod.fst) (ls.mergeSort rowLe) := by
  unfold RowsV
  rw [← sortD_snd h]
  exact dpAll_map fun z hz => hd z (List.mem_mergeSort.mp hz)
theorem zip_rows {K : PySem.W.Frag} {H : Hp} {xs : List V} {ls : List (List Int)} (h : RowsV K H xs ls) (hw : ∀ l ∈ ls, l ≠ []) :
    ∃ zs : List (V × PyData), zs.map Prod.fst = xs ∧ zs.map Prod.snd = ls.map rowD ∧ (∀ z ∈ zs, Dp K H z.1 z.2 ∧ z.2.depth ≤ 60) ∧ PySem.W.AllAlike (zs.map Prod.snd) ∧ PySem.W.Sortable (zs.map Prod.snd) := by
  have len : xs.length = (ls.map rowD).length := by rw [h.len, List.length_map]
  have e1 : (xs.zip (ls.map rowD)).map Prod.fst = xs := List.map_fst_zip (by omega)
  have e2 : (xs.zip (ls.map rowD)).map Prod.snd = ls.map rowD := List.map_snd_zip (by omega)
  refine ⟨xs.zip (ls.map rowD), e1, e2, fun z hz => ?_, ?_, ?_⟩
  · obtain ⟨i, hi⟩ := List.getElem?_of_mem hz
    obtain ⟨g1, g2⟩ := List.getElem?_zip_eq_some.mp hi
    obtain ⟨d, k1, k2⟩ := dpAll_get h g1
    rw [g2] at k1
    cases k1
    refine ⟨k2, ?_⟩
    rw [List.getElem?_map] at g2
    cases hl : ls[i]? with
    | none =>
      rw [hl] at g2
      cases g2
    | some l =>
      rw [hl] at g2
      rw [← Option.some.inj g2]
      show PyData.depth (.tuple (l.map .int)) ≤ 60
      simp only [PyData.depth, PySem.W.depth_ints]
      omega
  · rw [e2]
    exact PySem.W.AllAlike.of fun a b => PySem.W.alike_ints a b
  · rw [e2]
    refine .inl fun d hd => ?_
    obtain ⟨l, hl, rfl⟩ := List.mem_map.mp hd
    cases l with
    | nil => exact absurd rfl (hw _ hl)
    | cons a r => exact ⟨.int a, r.map .int, rfl⟩
theorem take_fold {α β : Type} (f : β → α → β) (b : β) (l : List α) (i : Nat) (x : α) (h : l[i]? = some x) : (l.take (i + 1)).foldl f b = f ((l.take i).foldl f b) x := by
  rw [List.take_add_one, h, List.foldl_append]
  rfl
theorem thin_sub : ∀ (ls k : List (List Int)), ∀ r ∈ ls.foldl thinS k, r ∈ k ∨ r ∈ ls
  | [], k, r, h => .inl h
  | l :: ls, k, r, h => by
    rcases thin_sub ls (thinS k l) r h with h | h
    · unfold thinS at h
      split at h
      · exact .inl h
      · rcases List.mem_append.mp h with h | h
        · exact .inl h
        · exact .inr (List.mem_cons.mpr (.inl (List.mem_singleton.mp h)))
    · exact .inr (List.mem_cons_of_mem _ h)
section
variable {P : Program} {w : World} {K : PySem.W.Frag} {mg : Str → Option Value} {base : Heap} {m qual : Str} {st : Stmt} {f : Addr} {fd : FuncData} {N : List Str} {k : Nat} {p1 p2 p3 p4 : Str}
theorem fm4 {g : V → V → V → V → Hp → VK → Prop} (F : C8.Fun K m qual st f fd) (S : FnScope N [p1, p2, p3, p4] (C8.fnScope st))
    (body : ∀ (cdv : Value) (A : Around) (outer : List Env) (s : Shared) (H : Hp) (a b c d : V) (Q : VK) (E : XK), Room k (A.deeper (envOfC qual (C8.fnScope st) s.heap.objs.size f cdv)) → g a b c d H Q →
      ∃ t, PSs (cxOf C8.CX0 P w K mg base N qual (C8.fnScope st) f cdv A outer s H E).nox (C8.fnBody st) t ∧ t { nx := fun _ H' => Q .non H', rt := Q } (start N [a, b, c, d]) H) : FnOk P w K mg base C8.CX0 (k + 1) f fd [p1, p2, p3, p4] (sp4 g) := by
  refine C8.fn0 F S ?_ ?_
  · rintro vs H Q E ⟨a, b, c, d, rfl, _⟩
    rfl
  · rintro cdv A outer s H vs Q E hr ⟨a, b, c, d, rfl, h⟩
    exact body cdv A outer s H a b c d Q E hr h
theorem fn4 {g : V → V → V → V → Hp → VK → Prop} (F : C8.Def K mg m st f fd) (S : FnScope N [p1, p2, p3, p4] (C8.fnScope st))
    (body : ∀ (cdv : Value) (A : Around) (outer : List Env) (s : Shared) (H : Hp) (a b c d : V) (Q : VK) (E : XK), Room k (A.deeper (envOfC m (C8.fnScope st) s.heap.objs.size f cdv)) → g a b c d H Q →
      ∃ t, PSs (cxOf C8.CX0 P w K mg base N m (C8.fnScope st) f cdv A outer s H E).nox (C8.fnBody st) t ∧ t { nx := fun _ H' => Q .non H', rt := Q } (start N [a, b, c, d]) H) : FnOk P w K mg base C8.CX0 (k + 1) f fd [p1, p2, p3, p4] (sp4 g) := fm4 F.fn S body
end
/-! ### lines as pairs -/
def tol (p : Ln) : List Int := [p.1, p.2]
def pairLe (p q : Ln) : Bool := decide (p.1 < q.1 ∨ (p.1 = q.1 ∧ p.2 ≤ q.2))
def leP (o r : Ln) : Bool := decide (o.1 ≤ r.1) && decide (o.2 ≤ r.2)
def thinPS (k : List Ln) (r : Ln) : List Ln := if (k.any fun o => leP o r) = true then k else k ++ [r]
def thinP (rays : List Ln) : List Ln := (rays.mergeSort pairLe).foldl thinPS []
theorem leM_tol (o r : Ln) : leM (tol o) (tol r) = leP o r := by
  show ([0, 1] : List Nat).all _ = _
  simp only [List.all_cons, List.all_nil, Bool.and_true]
  rfl
theorem fold_tol : ∀ (l k : List Ln), (l.map tol).foldl thinS (k.map tol) = (l.foldl thinPS k).map tol
  | [], k => rfl
  | r :: l, k => by
    show (l.map tol).foldl thinS (thinS (k.map tol) (tol r)) = (l.foldl thinPS (thinPS k r)).map tol
    rw [← fold_tol l (thinPS k r)]
    congr 1
    unfold thinS thinPS
    rw [List.any_map]
    have e : ((fun o => leM o (tol r)) ∘ tol) = fun o => leP o r := by
      funext o
      exact leM_tol o r
    rw [e]
    split
    · rfl
    · rw [List.map_append]
      rfl
theorem thin_tol (rays : List Ln) : thinM (rays.map tol) = (thinP rays).map tol := by
  unfold thinM thinP
  have e : (rays.mergeSort pairLe).map tol = (rays.map tol).mergeSort rowLe := by
    refine List.map_mergeSort fun a _ b _ => ?_
    exact (congrFun (congrFun (PySem.W.dataLe_ii (β := Ln) Prod.fst Prod.snd) a) b).symm
  rw [← e]
  exact fold_tol _ []
theorem thinP_sub : ∀ (l k : List Ln), ∀ r ∈ l.foldl thinPS k, r ∈ k ∨ r ∈ l
  | [], k, r, h => .inl h
  | a :: l, k, r, h => by
    rcases thinP_sub l (thinPS k a) r h with h | h
    · unfold thinPS at h
      split at h
      · exact .inl h
      · rcases List.mem_append.mp h with h | h
        · exact .inl h
        · exact .inr (List.mem_cons.mpr (.inl (List.mem_singleton.mp h)))
    · exact .inr (List.mem_cons_of_mem _ h)
theorem thinP_cover : ∀ (l k : List Ln), (∀ o ∈ k, o ∈ l.foldl thinPS k) ∧ ∀ q ∈ l, ∃ r ∈ l.foldl thinPS k, leP r q = true
  | [], k => ⟨fun o h => h, fun q h => by cases h⟩
  | a :: l, k => by
    obtain ⟨i1, i2⟩ := thinP_cover l (thinPS k a)
    have kk : ∀ o ∈ k, o ∈ thinPS k a := fun o h => by
      unfold thinPS
      split
      · exact h
      · exact List.mem_append_left _ h
    refine ⟨fun o h => i1 o (kk o h), fun q h => ?_⟩
    rcases List.mem_cons.mp h with rfl | h
    · by_cases c : (k.any fun o => leP o q) = true
      · obtain ⟨o, ho, le⟩ := List.any_eq_true.mp c
        exact ⟨o, i1 o (kk o ho), le⟩
      · refine ⟨q, i1 q ?_, by unfold leP; simp⟩
        unfold thinPS
        rw [if_neg c]
        exact List.mem_append_right _ (List.mem_singleton.mpr rfl)
    · exact i2 q h
theorem pair_rows {p q : Ln} (h : pairLe p q = true) (n : leP p q = false) : Bf p q := by
  have h := of_decide_eq_true h
  unfold leP at n
  rw [← Bool.decide_and] at n
  have n := of_decide_eq_false n
  constructor <;> omega
theorem thinP_rows : ∀ (l k : List Ln), Rows k → (∀ o ∈ k, ∀ q ∈ l, pairLe o q = true) → l.Pairwise (fun a b => pairLe a b = true) → Rows (l.foldl thinPS k)
  | [], k, h, _, _ => h
  | a :: l, k, h, h2, h3 => by
    have h3 := List.pairwise_cons.mp h3
    refine thinP_rows l (thinPS k a) ?_ ?_ h3.2
    · unfold thinPS
      split
      · exact h
      · rename_i c
        refine List.pairwise_append.mpr ⟨h, List.pairwise_singleton _ _, fun o ho b hb => ?_⟩
        cases List.mem_singleton.mp hb
        refine pair_rows (h2 o ho a (List.mem_cons_self ..)) ?_
        cases e : leP o a with
        | false => rfl
        | true => exact absurd (List.any_eq_true.mpr ⟨o, ho, e⟩) c
    · intro o ho q hq
      unfold thinPS at ho
      split at ho
      · exact h2 o ho q (List.mem_cons_of_mem _ hq)
      · rcases List.mem_append.mp ho with ho | ho
        · exact h2 o ho q (List.mem_cons_of_mem _ hq)
        · cases List.mem_singleton.mp ho
          exact h3.1 q hq
theorem thinP_ok (rays : List Ln) : (∀ r ∈ thinP rays, r ∈ rays) ∧ Rows (thinP rays) ∧ ∀ q ∈ rays, ∃ r ∈ thinP rays, r.1 ≤ q.1 ∧ r.2 ≤ q.2 := by
  have tr : ∀ a b c : Ln, pairLe a b = true → pairLe b c = true → pairLe a c = true := fun a b c h k => by
    have h := of_decide_eq_true h
    have k := of_decide_eq_true k
    exact decide_eq_true (by omega)
  have to : ∀ a b : Ln, (pairLe a b || pairLe b a) = true := fun a b => by
    unfold pairLe
    rw [← Bool.decide_or]
    exact decide_eq_true (by omega)
  refine ⟨fun r h => ?_, ?_, fun q hq => ?_⟩
  · rcases thinP_sub _ _ r h with h | h
    · cases h
    · exact List.mem_mergeSort.mp h
  · exact thinP_rows _ [] List.Pairwise.nil (fun o h => by cases h) (List.pairwise_mergeSort tr to rays)
  · obtain ⟨r, h1, h2⟩ := (thinP_cover (rays.mergeSort pairLe) []).2 q (List.mem_mergeSort.mpr hq)
    unfold leP at h2
    rw [Bool.and_eq_true] at h2
    exact ⟨r, h1, of_decide_eq_true h2.1, of_decide_eq_true h2.2⟩
/-- the value of a dial that is left of lines -/
def lowestM (top : Int) (rays : List Ln) : Option (List Ln) := if rays = [] then none else some (lowM top (thinP rays))
def lnD : Option (List Ln) → PyData
  | none => .none
  | some T => .tuple (T.map fun t => rowD (tol t))
theorem lowest_ok {top : Int} {rays T : List Ln} (h : lowestM top rays = some T) : T ≠ [] ∧ (∀ y ∈ T, y ∈ rays) ∧ Good top T.reverse ∧ ∀ n d, 0 ≤ n → 0 < d → n ≤ top * d → ∀ q ∈ rays, ∃ t ∈ T, vA t n d ≤ vA q n d := by
  unfold lowestM at h
  split at h
  · cases h
  · rename_i ne
    cases h
    obtain ⟨s, rw1, c⟩ := thinP_ok rays
    obtain ⟨l1, l2, l3⟩ := low_ok (top := top) rw1
    refine ⟨?_, fun y hy => s y (l1 y hy), l2, fun n d n0 hd h2 q hq => ?_⟩
    · cases rays with
      | nil => exact absurd rfl ne
      | cons q r =>
        obtain ⟨y, hy, _⟩ := c q (List.mem_cons_self ..)
        cases e : thinP (q :: r) with
        | nil =>
          rw [e] at hy
          cases hy
        | cons a b =>
          rw [e] at rw1
          exact low_ne rw1
    · obtain ⟨y, hy, a1, a2⟩ := c q hq
      obtain ⟨t, ht, le⟩ := l3 n d hd h2 y hy
      refine ⟨t, ht, Int.le_trans le ?_⟩
      unfold vA
      have m1 := Int.mul_le_mul_of_nonneg_right a1 (Int.le_of_lt hd)
      have m2 := Int.mul_le_mul_of_nonneg_right a2 n0
      omega
def BdL (l : Ln) : Prop := -10000000000000 ≤ l.1 ∧ l.1 ≤ 10000000000000 ∧ -10000000000000 ≤ l.2 ∧ l.2 ≤ 10000000000000
theorem dpAll_last {K : PySem.W.Frag} {H : Hp} {d : PyData} : ∀ {ds : List PyData} {xs : List V}, DpAll K H xs (ds ++ [d]) → ∃ ys y, xs = ys ++ [y] ∧ DpAll K H ys ds ∧ Dp K H y d
  | [], _, h => by
    cases h with
    | cons a b =>
      cases b
      exact ⟨[], _, rfl, .nil, a⟩
  | e :: ds, _, h => by
    have h : DpAll K H _ (e :: (ds ++ [d])) := h
    cases h with
    | cons a b =>
      obtain ⟨ys, y, rfl, h1, h2⟩ := dpAll_last b
      exact ⟨_ :: ys, y, rfl, .cons a h1, h2⟩
theorem rows_last {K : PySem.W.Frag} {H : Hp} {y : Ln} {R : List Ln} {us : List V} (h : RowsV K H us ((y :: R).reverse.map tol)) : ∃ vs u, us = vs ++ [u] ∧ RowsV K H vs (R.reverse.map tol) ∧ TupI K H u (tol y) := by
  unfold RowsV at h
  rw [List.reverse_cons, List.map_append, List.map_append] at h
  obtain ⟨vs, u, e, h1, h2⟩ := dpAll_last h
  exact ⟨vs, u, e, h1, optD_tup (f := tol y) h2⟩
theorem ix_end {n k : Nat} (h : k ≤ n) (h0 : 0 < k) : ixN n (-(k : Int)) = some (n - k) := by
  unfold ixN
  rw [if_neg (by omega), if_pos (by omega)]
  exact congrArg some (by omega)
theorem atI_last (us : List V) (u : V) : atI (us ++ [u]) (-1) = some u := by
  have e : ixN (us ++ [u]).length (-((1 : Nat) : Int)) = some us.length := by
    rw [ix_end (by rw [List.length_append]; exact Nat.le_add_left _ _) (by decide), List.length_append]
    rfl
  show (ixN (us ++ [u]).length (-((1 : Nat) : Int))).bind _ = _
  rw [e]
  show (us ++ [u])[us.length]? = some u
  rw [List.getElem?_append_right (Nat.le_refl _), Nat.sub_self]
  rfl
theorem atI_last2 (us : List V) (a u : V) : atI (us ++ [a] ++ [u]) (-2) = some a := by
  have e : ixN (us ++ [a] ++ [u]).length (-((2 : Nat) : Int)) = some us.length := by
    rw [ix_end (by rw [List.length_append, List.length_append]; exact Nat.le_add_left _ _) (by decide), List.length_append, List.length_append]
    rfl
  show (ixN (us ++ [a] ++ [u]).length (-((2 : Nat) : Int))).bind _ = _
  rw [e, List.append_assoc]
  show (us ++ ([a] ++ [u]))[us.length]? = some a
  rw [List.getElem?_append_right (Nat.le_refl _), Nat.sub_self]
  rfl
theorem pop_step {l y x : Ln} {r : List Ln} (h : nevM x y l = true) : popM l (y :: x :: r) = popM l (x :: r) := if_pos h
theorem pop_stop {l y x : Ln} {r : List Ln} (h : nevM x y l = false) : popM l (y :: x :: r) = y :: x :: r := if_neg (by rw [h]; exact Bool.false_ne_true)
theorem thinP_len0 : ∀ (l k : List Ln), (l.foldl thinPS k).length ≤ k.length + l.length
  | [], k => Nat.le_refl _
  | a :: l, k => by
    have h := thinP_len0 l (thinPS k a)
    have h2 : (thinPS k a).length ≤ k.length + 1 := by
      unfold thinPS
      split
      · exact Nat.le_succ _
      · rw [List.length_append]
        exact Nat.le_refl _
    show (l.foldl thinPS (thinPS k a)).length ≤ k.length + (l.length + 1)
    omega
theorem thinP_len (rays : List Ln) : (thinP rays).length ≤ rays.length := by
  have h := thinP_len0 (rays.mergeSort pairLe) []
  rw [List.length_mergeSort] at h
  exact Nat.le_trans h (by rw [List.length_nil, Nat.zero_add]; exact Nat.le_refl _)
def dfl (top : Int) (t : Addr) : List (Str × V) := putF "stay" (.ref t) (putF "top" (.int top) (putF "slope" (.str "b") (putF "wish" (.str "a") [])))
def DialAt (CH : Addr) (H : Hp) (p : Addr) (top : Int) : Prop := ∃ dx t, H p = some (.ins CH dx (dfl top t))
theorem DialAt.mono {CH : Addr} {H H' : Hp} {p : Addr} {top : Int} (h : DialAt CH H p top) (e : Same H H') : DialAt CH H' p top := by
  obtain ⟨dx, t, a⟩ := h
  exact ⟨dx, t, e _ _ a⟩
theorem dfl_top (top : Int) (t : Addr) : (dfl top t).lookup ("top" : Str) = some (.int top) := by
  unfold dfl
  rw [lookup_putF, if_neg (by decide +kernel), lookup_putF, if_pos rfl]
theorem dfl_no (top : Int) (t : Addr) {m : Str} (h1 : ¬ m = "stay") (h2 : ¬ m = "top") (h3 : ¬ m = "slope") (h4 : ¬ m = "wish") : (dfl top t).lookup m = none := by
  unfold dfl
  rw [lookup_putF, if_neg h1, lookup_putF, if_neg h2, lookup_putF, if_neg h3, lookup_putF, if_neg h4]
  rfl
theorem ln_tup {K : PySem.W.Frag} {H : Hp} {v : V} {T : List Ln} (h : Dp K H v (lnD (some T))) : ∃ A xs, v = .ref A ∧ SqT K H A xs ∧ RowsV K H xs (T.map tol) := by
  cases h with
  | tup s x =>
    refine ⟨_, _, rfl, s, ?_⟩
    unfold RowsV
    rw [List.map_map]
    exact x
theorem op_catT_K {X : Cx} {K : PySem.W.Frag} (e : X.K = K) : OpR X (binaryOp .Add) (rCatT K) := e ▸ op_catT
theorem dpAll_app {K : PySem.W.Frag} {H : Hp} : ∀ {xs ys : List V} {ds es : List PyData}, DpAll K H xs ds → DpAll K H ys es → DpAll K H (xs ++ ys) (ds ++ es)
  | _, _, _, _, .nil, h => h
  | _, _, _, _, .cons a b, h => .cons a (dpAll_app b h)
theorem RowsV.app {K : PySem.W.Frag} {H : Hp} {xs ys : List V} {ls ms : List (List Int)} (h : RowsV K H xs ls) (k : RowsV K H ys ms) : RowsV K H (xs ++ ys) (ls ++ ms) := by
  unfold RowsV
  rw [List.map_append]
  exact dpAll_app h k
/-! ### rays as values -/
def BdR (r : Ln) : Prop := 0 ≤ r.1 ∧ r.1 ≤ 100000000 ∧ 0 ≤ r.2 ∧ r.2 ≤ 1000
def RayV (K : PySem.W.Frag) (B : Ln → Prop) (H : Hp) (v : V) : Prop := ∃ r, TupI K H v (tol r) ∧ B r
theorem RayV.mono {K : PySem.W.Frag} {B : Ln → Prop} {H H' : Hp} {v : V} (h : RayV K B H v) (e : Same H H') : RayV K B H' v := by
  obtain ⟨r, a, b⟩ := h
  exact ⟨r, a.mono e, b⟩
theorem RayV.upd {K : PySem.W.Frag} {B : Ln → Prop} {H : Hp} {v : V} {q : Addr} {ys : List V} {o : HO} (hq : H q = some (.lst ys)) (h : RayV K B H v) : RayV K B (upd H q o) v := by
  obtain ⟨r, a, b⟩ := h
  exact ⟨r, tupI_upd hq a, b⟩
theorem RayV.imp {K : PySem.W.Frag} {B B' : Ln → Prop} {H : Hp} {v : V} (h : RayV K B H v) (k : ∀ r, B r → B' r) : RayV K B' H v := by
  obtain ⟨r, a, b⟩ := h
  exact ⟨r, a, k r b⟩
theorem rays_of {K : PySem.W.Frag} {B : Ln → Prop} {H : Hp} : ∀ {us : List V}, (∀ v ∈ us, RayV K B H v) → ∃ rays : List Ln, RowsV K H us (rays.map tol) ∧ ∀ r ∈ rays, B r
  | [], _ => ⟨[], .nil, fun r h => by cases h⟩
  | u :: us, h => by
    obtain ⟨r, a, b⟩ := h u (List.mem_cons_self ..)
    obtain ⟨rs, c, d⟩ := rays_of fun v hv => h v (List.mem_cons_of_mem _ hv)
    refine ⟨r :: rs, .cons a.dp c, fun x hx => ?_⟩
    rcases List.mem_cons.mp hx with rfl | hx
    · exact b
    · exact d x hx
theorem cut_memV (xs : List V) (lo hi : Option Int) : (∀ v ∈ cutV xs lo hi, v ∈ xs) ∧ (cutV xs lo hi).length ≤ xs.length := by
  unfold cutV
  refine ⟨fun v hv => List.mem_of_mem_drop (List.mem_of_mem_take hv), ?_⟩
  rw [List.length_take, List.length_drop]
  omega
theorem cut_len {xs : List V} {h : Int} (h0 : 0 ≤ h) (h1 : h ≤ xs.length) : ((cutV xs none (some h)).length : Int) = h := by
  obtain ⟨n, rfl⟩ := Int.eq_ofNat_of_zero_le h0
  unfold cutV
  rw [HT.sIx_none, HT.sIx_nat, List.length_take, List.length_drop]
  omega
theorem rays_mono {K : PySem.W.Frag} {B : Ln → Prop} {H H' : Hp} {us : List V} (h : ∀ v ∈ us, RayV K B H v) (e : Same H H') : ∀ v ∈ us, RayV K B H' v := fun v hv => (h v hv).mono e
/-- one more ray at the end of a list -/
theorem rays_snoc {K : PySem.W.Frag} {B B' : Ln → Prop} {H : Hp} {us : List V} {v : V} {q : Addr} {o : HO} (hq : H q = some (.lst us)) (h : ∀ v ∈ us, RayV K B H v) (i : ∀ r, B r → B' r) (hv : RayV K B' H v) : ∀ u ∈ us ++ [v], RayV K B' (upd H q o) u := by
  intro u hu
  rcases List.mem_append.mp hu with hu | hu
  · exact ((h u hu).imp i).upd hq
  · cases List.mem_singleton.mp hu
    exact hv.upd hq
/-! ### a list of new pairs -/
def PairsV (H : Hp) (us : List V) (zs : List (V × V)) : Prop := us.length = zs.length ∧ ∀ (i : Nat) u, us[i]? = some u → ∃ z U, zs[i]? = some z ∧ u = .ref U ∧ H U = some (.tup [z.1, z.2])
theorem PairsV.mono {H H' : Hp} {us : List V} {zs : List (V × V)} (h : PairsV H us zs) (e : Same H H') : PairsV H' us zs := by
  refine ⟨h.1, fun i u hu => ?_⟩
  obtain ⟨z, U, a, b, c⟩ := h.2 i u hu
  exact ⟨z, U, a, b, e _ _ c⟩
theorem PairsV.upd {H : Hp} {us ys : List V} {zs : List (V × V)} {q : Addr} {o : HO} (hq : H q = some (.lst ys)) (h : PairsV H us zs) : PairsV (upd H q o) us zs := by
  refine ⟨h.1, fun i u hu => ?_⟩
  obtain ⟨z, U, a, b, c⟩ := h.2 i u hu
  refine ⟨z, U, a, b, ?_⟩
  rw [upd_ne fun e => by rw [e, hq] at c; cases c]
  exact c
theorem PairsV.snoc {H : Hp} {us : List V} {zs : List (V × V)} {z : V × V} {U : Addr} (h : PairsV H us zs) (k : H U = some (.tup [z.1, z.2])) : PairsV H (us ++ [.ref U]) (zs ++ [z]) := by
  refine ⟨by rw [List.length_append, List.length_append, h.1]; rfl, fun i u hu => ?_⟩
  by_cases q : i < us.length
  · rw [List.getElem?_append_left q] at hu
    obtain ⟨z', U', a, b, c⟩ := h.2 i u hu
    exact ⟨z', U', by rw [List.getElem?_append_left (by rw [← h.1]; exact q)]; exact a, b, c⟩
  · have hi : i = us.length := by
      have := (List.getElem?_eq_some_iff.mp hu).1
      rw [List.length_append] at this
      have this : i < us.length + 1 := this
      omega
    subst hi
    rw [List.getElem?_append_right (Nat.le_refl _), Nat.sub_self] at hu
    cases hu
    exact ⟨z, U, by rw [h.1, List.getElem?_append_right (Nat.le_refl _), Nat.sub_self]; rfl, rfl, k⟩
def prodV (xs ys : List V) : List (V × V) := xs.flatMap fun x => ys.map fun y => (x, y)
theorem prod_take {xs ys : List V} {i : Nat} {x : V} (h : xs[i]? = some x) : prodV (xs.take (i + 1)) ys = prodV (xs.take i) ys ++ ys.map fun y => (x, y) := by
  unfold prodV
  rw [List.take_add_one, h, List.flatMap_append]
  show _ ++ ([x].flatMap fun x => ys.map fun y => (x, y)) = _
  rw [List.flatMap_singleton]
theorem map_take {xs : List V} {i : Nat} {y x : V} (h : xs[i]? = some y) : ((xs.take (i + 1)).map fun y => (x, y)) = ((xs.take i).map fun y => (x, y)) ++ [(x, y)] := by
  rw [List.take_add_one, h, List.map_append]
  rfl
/-! ### a comprehension within a comprehension -/
theorem lc_in {J : It} {n : Nat} {G : Hp → Prop} {Y : Nat → Hp → V → Hp → Prop} (w : Walk J n G Y) {H4 : Hp} {Nx : Hp → Prop} {R : V → Hp → (Hp → Prop) → Prop} (Pv : Nat → Hp → Prop) (h0 : Pv 0 H4) (hG : ∀ i H, i ≤ n → Pv i H → G H)
    (hs : ∀ i x H H', i < n → Pv i H → Y i H x H' → R x H' (Pv (i + 1))) (hd : ∀ H, Pv n H → Nx H) :
    ∃ W1 : Nat → Nat → Hp → Prop, (∃ m, W1 0 m H4) ∧ ∀ j k H, W1 j k H →
      (J.stop j H ∧ Nx H) ∨ (J.go j H ∧ ∃ Nx1 : Hp → Prop, (∀ H', Nx1 H' → ∃ k', k' < k ∧ W1 (j + 1) k' H') ∧ ∀ x H', J.yld j H x H' → R x H' Nx1) := by
  refine ⟨fun i m H => m = n - i ∧ i ≤ n ∧ Pv i H, ⟨n, rfl, Nat.zero_le _, h0⟩, ?_⟩
  rintro i m H ⟨rfl, hi, pv⟩
  have g := hG i H hi pv
  rcases Nat.lt_or_ge i n with lt | ge
  · refine .inr ⟨w.goes i H lt g, Pv (i + 1), fun H' p' => ⟨n - (i + 1), by omega, rfl, lt, p'⟩, ?_⟩
    exact fun x H' y => hs i x H H' lt pv (w.yields i H x H' lt g y)
  · have e : i = n := Nat.le_antisymm hi ge
    subst e
    exact .inl ⟨w.stops H g, hd H pv⟩
def sumsM (one two : List Ln) : List Ln := one.flatMap fun p => two.map fun q => (p.1 + q.1, p.2 + q.2)
theorem sums_take {one two : List Ln} {i : Nat} {p : Ln} (h : one[i]? = some p) : sumsM (one.take (i + 1)) two = sumsM (one.take i) two ++ two.map fun q => (p.1 + q.1, p.2 + q.2) := by
  unfold sumsM
  rw [List.take_add_one, h, List.flatMap_append]
  show _ ++ ([p].flatMap fun p => two.map fun q => (p.1 + q.1, p.2 + q.2)) = _
  rw [List.flatMap_singleton]
theorem sums_len (one two : List Ln) : (sumsM one two).length = one.length * two.length := by
  unfold sumsM
  rw [List.length_flatMap]
  simp [List.map_const', List.sum_replicate_nat]
theorem line_get {K : PySem.W.Frag} {H : Hp} {xs : List V} {one : List Ln} {i : Nat} {x : V} (h : RowsV K H xs (one.map tol)) (g : xs[i]? = some x) : ∃ p, one[i]? = some p ∧ TupI K H x (tol p) := by
  obtain ⟨l, gl, tl⟩ := h.get g
  rw [List.getElem?_map] at gl
  cases e : one[i]? with
  | none =>
    rw [e] at gl
    cases gl
  | some p =>
    rw [e] at gl
    cases gl
    exact ⟨p, rfl, tl⟩
theorem take_map_add {α β : Type} (f : α → β) {l : List α} {i : Nat} {x : α} (h : l[i]? = some x) : (l.take (i + 1)).map f = (l.take i).map f ++ [f x] := by
  rw [List.take_add_one, h, List.map_append]
  rfl
theorem rows_from {K : PySem.W.Frag} {H : Hp} (g : Nat → List Int) {xs : List V} (h : ∀ i v, xs[i]? = some v → TupI K H v (g i)) : RowsV K H xs ((List.range xs.length).map g) := by
  induction xs generalizing g with
  | nil => exact .nil
  | cons x r ih =>
    have e : ((List.range (x :: r).length).map g).map rowD = rowD (g 0) :: ((List.range r.length).map (g ∘ Nat.succ)).map rowD := by
      rw [List.length_cons, List.range_succ_eq_map, List.map_cons, List.map_cons]
      congr 1
      rw [List.map_map, List.map_map, List.map_map]
      rfl
    unfold RowsV
    rw [e]
    exact .cons (h 0 x rfl).dp (ih (g ∘ Nat.succ) fun i v e => h (i + 1) v e)
theorem dec_int2 (i j : Int) : decide (V.int i = V.int j) = decide (i = j) := decide_eq_decide.mpr ⟨fun e => V.int.inj e, fun e => congrArg V.int e⟩
def BdH (r : Ln) : Prop := 0 ≤ r.1 ∧ r.1 ≤ 50000000 ∧ 0 ≤ r.2 ∧ r.2 ≤ 500
theorem BdH.r {r : Ln} (h : BdH r) : BdR r := by
  obtain ⟨a, b, c, d⟩ := h
  exact ⟨a, by omega, c, by omega⟩
theorem BdR.l {r : Ln} (h : BdR r) : BdL r := by
  obtain ⟨a, b, c, d⟩ := h
  exact ⟨by omega, by omega, by omega, by omega⟩
theorem bd_sums {one two : List Ln} (h1 : ∀ r ∈ one, BdH r) (h2 : ∀ r ∈ two, BdH r) : ∀ r ∈ sumsM one two, BdR r := by
  intro r hr
  unfold sumsM at hr
  obtain ⟨p, hp, hr⟩ := List.mem_flatMap.mp hr
  obtain ⟨q, hq, rfl⟩ := List.mem_map.mp hr
  obtain ⟨a1, a2, a3, a4⟩ := h1 p hp
  obtain ⟨b1, b2, b3, b4⟩ := h2 q hq
  exact ⟨by show 0 ≤ p.1 + q.1; omega, by show p.1 + q.1 ≤ _; omega, by show 0 ≤ p.2 + q.2; omega, by show p.2 + q.2 ≤ _; omega⟩
end Fb

set_option Elab.async false
set_option linter.all false
set_option maxRecDepth 100000
set_option maxHeartbeats 4000000
/-! the law's own look at each line: the stretch on which it is least -/
namespace Fb
def spanS (t : Ln) (s : Ln × Ln) (u : Ln) : Ln × Ln :=
  if t.2 < u.2 then (if s.1.1 * (u.2 - t.2) < (t.1 - u.1) * s.1.2 then ((t.1 - u.1, u.2 - t.2), s.2) else s)
  else if u.2 < t.2 then (if (u.1 - t.1) * s.2.2 < s.2.1 * (t.2 - u.2) then (s.1, (u.1 - t.1, t.2 - u.2)) else s)
  else if u.1 < t.1 then (s.1, (-1, 1)) else s
def spanM (t : Ln) (rays : List Ln) (roof : Int) : Ln × Ln := rays.foldl (spanS t) ((0, 1), (roof, 1))
/-- it is least on a stretch of some length -/
def longM (t : Ln) (rays : List Ln) (roof : Int) : Bool := decide ((spanM t rays roof).1.1 * (spanM t rays roof).2.2 < (spanM t rays roof).2.1 * (spanM t rays roof).1.2)
theorem span_fold {t : Ln} {A B : Ln → Prop} : ∀ (rays : List Ln) (s : Ln × Ln), A s.1 → B s.2 → (∀ u ∈ rays, (t.2 < u.2 → A (t.1 - u.1, u.2 - t.2)) ∧ (u.2 < t.2 → B (u.1 - t.1, t.2 - u.2)) ∧ (u.2 = t.2 → t.1 ≤ u.1)) →
    A (rays.foldl (spanS t) s).1 ∧ B (rays.foldl (spanS t) s).2
  | [], s, a, b, _ => ⟨a, b⟩
  | u :: rays, s, a, b, h => by
    obtain ⟨h1, h2, h3⟩ := h u (List.mem_cons_self ..)
    have st : A (spanS t s u).1 ∧ B (spanS t s u).2 := by
      unfold spanS
      by_cases c1 : t.2 < u.2
      · rw [if_pos c1]
        split
        · exact ⟨h1 c1, b⟩
        · exact ⟨a, b⟩
      · rw [if_neg c1]
        by_cases c2 : u.2 < t.2
        · rw [if_pos c2]
          split
          · exact ⟨a, h2 c2⟩
          · exact ⟨a, b⟩
        · rw [if_neg c2, if_neg (by have := h3 (by omega); omega)]
          exact ⟨a, b⟩
    exact span_fold rays _ st.1 st.2 fun v hv => h v (List.mem_cons_of_mem _ hv)
theorem least_of (f g : Ln → Int) : ∀ rays : List Ln, rays ≠ [] → ∃ t ∈ rays, ∀ u ∈ rays, f t < f u ∨ (f t = f u ∧ g t ≤ g u)
  | [], h => absurd rfl h
  | [t], _ => ⟨t, List.mem_cons_self .., fun u hu => by
      cases List.mem_singleton.mp hu
      exact .inr ⟨rfl, Int.le_refl _⟩⟩
  | a :: b :: r, _ => by
    obtain ⟨t, ht, h⟩ := least_of f g (b :: r) (List.cons_ne_nil _ _)
    by_cases c : f t < f a ∨ (f t = f a ∧ g t ≤ g a)
    · refine ⟨t, List.mem_cons_of_mem _ ht, fun u hu => ?_⟩
      rcases List.mem_cons.mp hu with rfl | hu
      · exact c
      · exact h u hu
    · refine ⟨a, List.mem_cons_self .., fun u hu => ?_⟩
      rcases List.mem_cons.mp hu with rfl | hu
      · exact .inr ⟨rfl, Int.le_refl _⟩
      · have := h u hu
        omega
/-- the lines that are least on some stretch are, together, nowhere above a line -/
theorem long_cover {rays : List Ln} {roof n d : Int} (hr : 0 < roof) (n0 : 0 ≤ n) (hd : 0 < d) (h2 : n ≤ roof * d) {q : Ln} (hq : q ∈ rays) : ∃ t ∈ rays, longM t rays roof = true ∧ vA t n d ≤ vA q n d := by
  have ne : rays ≠ [] := fun e => by
    rw [e] at hq
    cases hq
  have same : ∀ t u : Ln, vA t n d ≤ vA u n d → u.2 = t.2 → t.1 ≤ u.1 := fun t u h e => by
    unfold vA at h
    rw [e] at h
    have : t.1 * d ≤ u.1 * d := by omega
    exact Int.le_of_mul_le_mul_right this hd
  by_cases c : n < roof * d
  · obtain ⟨t, ht, h⟩ := least_of (fun l => vA l n d) (fun l => l.2) rays ne
    have le : ∀ u ∈ rays, vA t n d ≤ vA u n d := fun u hu => by
      have := h u hu
      omega
    refine ⟨t, ht, ?_, le q hq⟩
    obtain ⟨⟨a1, a2⟩, b1, b2⟩ := span_fold (t := t) (A := fun l => 0 < l.2 ∧ l.1 * d ≤ l.2 * n) (B := fun l => 0 < l.2 ∧ l.2 * n < l.1 * d) rays ((0, 1), (roof, 1)) ⟨by show (0 : Int) < 1; decide, by show 0 * d ≤ 1 * n; omega⟩ ⟨by show (0 : Int) < 1; decide, by show 1 * n < roof * d; omega⟩ (fun u hu => by
      refine ⟨fun e => ⟨by show 0 < u.2 - t.2; omega, ?_⟩, fun e => ⟨by show 0 < t.2 - u.2; omega, ?_⟩, same t u (le u hu)⟩
      · have := le u hu
        unfold vA at this
        show (t.1 - u.1) * d ≤ (u.2 - t.2) * n
        rw [Int.sub_mul, Int.sub_mul]
        omega
      · have : vA t n d < vA u n d := by
          rcases h u hu with h | ⟨_, h⟩
          · exact h
          · have h : t.2 ≤ u.2 := h
            omega
        unfold vA at this
        show (t.2 - u.2) * n < (u.1 - t.1) * d
        rw [Int.sub_mul, Int.sub_mul]
        omega)
    refine decide_eq_true ?_
    change 0 < (spanM t rays roof).1.2 at a1
    change (spanM t rays roof).1.1 * d ≤ (spanM t rays roof).1.2 * n at a2
    change 0 < (spanM t rays roof).2.2 at b1
    change (spanM t rays roof).2.2 * n < (spanM t rays roof).2.1 * d at b2
    generalize (spanM t rays roof).1 = lo at *
    generalize (spanM t rays roof).2 = hi at *
    have m1 := Int.mul_le_mul_of_nonneg_right a2 (Int.le_of_lt b1)
    have m2 := Int.mul_lt_mul_of_pos_right b2 a1
    have m3 : lo.1 * hi.2 * d < hi.1 * lo.2 * d := by grind
    exact Int.lt_of_mul_lt_mul_right m3 (Int.le_of_lt hd)
  · have eq : n = roof * d := by omega
    obtain ⟨t, ht, h⟩ := least_of (fun l => vA l n d) (fun l => -l.2) rays ne
    have le : ∀ u ∈ rays, vA t n d ≤ vA u n d := fun u hu => by
      have := h u hu
      omega
    refine ⟨t, ht, ?_, le q hq⟩
    have np : 0 < n := by
      rw [eq]
      exact Int.mul_pos hr hd
    obtain ⟨⟨a1, a2⟩, b1, b2⟩ := span_fold (t := t) (A := fun l => 0 < l.2 ∧ l.1 * d < l.2 * n) (B := fun l => 0 < l.2 ∧ l.2 * n ≤ l.1 * d) rays ((0, 1), (roof, 1)) ⟨by show (0 : Int) < 1; decide, by show 0 * d < 1 * n; omega⟩ ⟨by show (0 : Int) < 1; decide, by show 1 * n ≤ roof * d; omega⟩ (fun u hu => by
      refine ⟨fun e => ⟨by show 0 < u.2 - t.2; omega, ?_⟩, fun e => ⟨by show 0 < t.2 - u.2; omega, ?_⟩, same t u (le u hu)⟩
      · have : vA t n d < vA u n d := by
          rcases h u hu with h | ⟨_, h⟩
          · exact h
          · have h : -t.2 ≤ -u.2 := h
            omega
        unfold vA at this
        show (t.1 - u.1) * d < (u.2 - t.2) * n
        rw [Int.sub_mul, Int.sub_mul]
        omega
      · have := le u hu
        unfold vA at this
        show (t.2 - u.2) * n ≤ (u.1 - t.1) * d
        rw [Int.sub_mul, Int.sub_mul]
        omega)
    refine decide_eq_true ?_
    change 0 < (spanM t rays roof).1.2 at a1
    change (spanM t rays roof).1.1 * d < (spanM t rays roof).1.2 * n at a2
    change 0 < (spanM t rays roof).2.2 at b1
    change (spanM t rays roof).2.2 * n ≤ (spanM t rays roof).2.1 * d at b2
    generalize (spanM t rays roof).1 = lo at *
    generalize (spanM t rays roof).2 = hi at *
    have m1 := Int.mul_lt_mul_of_pos_right a2 b1
    have m2 := Int.mul_le_mul_of_nonneg_right b2 (Int.le_of_lt a1)
    have m3 : lo.1 * hi.2 * d < hi.1 * lo.2 * d := by grind
    exact Int.lt_of_mul_lt_mul_right m3 (Int.le_of_lt hd)
/-! ### the settings at which two lines meet -/
def meetS (roof : Int) (l u : Ln) (found : List (Int × Int)) : List (Int × Int) :=
  if u.2 < l.2 ∧ l.1 < u.1 ∧ u.1 - l.1 < roof * (l.2 - u.2) then
    (if (found.any fun p => decide (p.1 * (l.2 - u.2) = (u.1 - l.1) * p.2)) = true then found else found ++ [(u.1 - l.1, l.2 - u.2)]) else found
def meetM (rays : List Ln) (roof : Int) : List (Int × Int) := rays.foldl (fun f l => rays.foldl (fun f u => meetS roof l u f) f) [(0, 1), (roof, 1)]
/-- what stands in found -/
structure MeetOk (roof : Int) (f : List (Int × Int)) : Prop where
  m0 : ((0, 1) : Int × Int) ∈ f
  mr : (roof, (1 : Int)) ∈ f
  inn : ∀ p ∈ f, 0 < p.2 ∧ 0 ≤ p.1 ∧ p.1 ≤ roof * p.2
  ne : f.Pairwise fun p q => p.1 * q.2 ≠ q.1 * p.2
theorem meetS_ok {roof : Int} {l u : Ln} {f : List (Int × Int)} (h : MeetOk roof f) : MeetOk roof (meetS roof l u f) ∧ (∀ p ∈ f, p ∈ meetS roof l u f) ∧ (Bf l u → u.1 - l.1 < roof * (l.2 - u.2) → ∃ p ∈ meetS roof l u f, p.1 * (l.2 - u.2) = (u.1 - l.1) * p.2) := by
  unfold meetS
  by_cases c : u.2 < l.2 ∧ l.1 < u.1 ∧ u.1 - l.1 < roof * (l.2 - u.2)
  · rw [if_pos c]
    by_cases a : (f.any fun p => decide (p.1 * (l.2 - u.2) = (u.1 - l.1) * p.2)) = true
    · rw [if_pos a]
      refine ⟨h, fun p hp => hp, fun _ _ => ?_⟩
      obtain ⟨p, hp, e⟩ := List.any_eq_true.mp a
      exact ⟨p, hp, of_decide_eq_true e⟩
    · rw [if_neg a]
      refine ⟨⟨List.mem_append_left _ h.m0, List.mem_append_left _ h.mr, fun p hp => ?_, ?_⟩, fun p hp => List.mem_append_left _ hp, fun _ _ => ⟨_, List.mem_append_right _ (List.mem_singleton.mpr rfl), ?_⟩⟩
      · rcases List.mem_append.mp hp with hp | hp
        · exact h.inn p hp
        · cases List.mem_singleton.mp hp
          exact ⟨by show 0 < l.2 - u.2; omega, by show 0 ≤ u.1 - l.1; omega, by show u.1 - l.1 ≤ roof * (l.2 - u.2); omega⟩
      · refine List.pairwise_append.mpr ⟨h.ne, List.pairwise_singleton _ _, fun p hp q hq e => ?_⟩
        cases List.mem_singleton.mp hq
        exact a (List.any_eq_true.mpr ⟨p, hp, decide_eq_true e⟩)
      · exact Int.mul_comm _ _ ▸ rfl
  · rw [if_neg c]
    exact ⟨h, fun p hp => hp, fun b lt => absurd ⟨b.2, b.1, lt⟩ c⟩
theorem meet_in {roof : Int} {l : Ln} : ∀ (us : List Ln) (f : List (Int × Int)), MeetOk roof f → MeetOk roof (us.foldl (fun f u => meetS roof l u f) f) ∧ (∀ p ∈ f, p ∈ us.foldl (fun f u => meetS roof l u f) f) ∧
    ∀ u ∈ us, Bf l u → u.1 - l.1 < roof * (l.2 - u.2) → ∃ p ∈ us.foldl (fun f u => meetS roof l u f) f, p.1 * (l.2 - u.2) = (u.1 - l.1) * p.2
  | [], f, h => ⟨h, fun p hp => hp, fun u hu => by cases hu⟩
  | u :: us, f, h => by
    obtain ⟨a1, a2, a3⟩ := meetS_ok (l := l) (u := u) h
    obtain ⟨b1, b2, b3⟩ := meet_in us _ a1
    refine ⟨b1, fun p hp => b2 p (a2 p hp), fun v hv bf lt => ?_⟩
    rcases List.mem_cons.mp hv with rfl | hv
    · obtain ⟨p, hp, e⟩ := a3 bf lt
      exact ⟨p, b2 p hp, e⟩
    · exact b3 v hv bf lt
theorem meet_out {roof : Int} {rays : List Ln} : ∀ (ls : List Ln) (f : List (Int × Int)), MeetOk roof f → MeetOk roof (ls.foldl (fun f l => rays.foldl (fun f u => meetS roof l u f) f) f) ∧ (∀ p ∈ f, p ∈ ls.foldl (fun f l => rays.foldl (fun f u => meetS roof l u f) f) f) ∧
    ∀ l ∈ ls, ∀ u ∈ rays, Bf l u → u.1 - l.1 < roof * (l.2 - u.2) → ∃ p ∈ ls.foldl (fun f l => rays.foldl (fun f u => meetS roof l u f) f) f, p.1 * (l.2 - u.2) = (u.1 - l.1) * p.2
  | [], f, h => ⟨h, fun p hp => hp, fun u hu => by cases hu⟩
  | l :: ls, f, h => by
    obtain ⟨a1, a2, a3⟩ := meet_in (l := l) rays f h
    obtain ⟨b1, b2, b3⟩ := meet_out (rays := rays) ls _ a1
    refine ⟨b1, fun p hp => b2 p (a2 p hp), fun v hv u hu bf lt => ?_⟩
    rcases List.mem_cons.mp hv with rfl | hv
    · obtain ⟨p, hp, e⟩ := a3 u hu bf lt
      exact ⟨p, b2 p hp, e⟩
    · exact b3 v hv u hu bf lt
theorem meet_ok {rays : List Ln} {roof : Int} (hr : 0 < roof) : MeetOk roof (meetM rays roof) ∧ ∀ l ∈ rays, ∀ u ∈ rays, Bf l u → u.1 - l.1 < roof * (l.2 - u.2) → ∃ p ∈ meetM rays roof, p.1 * (l.2 - u.2) = (u.1 - l.1) * p.2 := by
  have h0 : MeetOk roof [(0, 1), (roof, 1)] := by
    refine ⟨by simp, by simp, fun p hp => ?_, ?_⟩
    · simp only [List.mem_cons, List.not_mem_nil, or_false] at hp
      rcases hp with rfl | rfl
      · exact ⟨by decide, by decide, by show (0 : Int) ≤ roof * 1; omega⟩
      · exact ⟨by show (0 : Int) < 1; decide, by show 0 ≤ roof; omega, by show roof ≤ roof * 1; omega⟩
    · refine List.pairwise_cons.mpr ⟨fun q hq => ?_, List.pairwise_singleton _ _⟩
      cases List.mem_singleton.mp hq
      show (0 : Int) * 1 ≠ roof * 1
      omega
  obtain ⟨a, _, c⟩ := meet_out (rays := rays) rays _ h0
  exact ⟨a, c⟩
/-- one denominator for all -/
def flatM (f : List (Int × Int)) : Int := f.foldl (fun F p => if F % p.2 ≠ 0 then F * p.2 else F) 1
theorem flat_ok : ∀ (f : List (Int × Int)) (F : Int), 0 < F → (∀ p ∈ f, 0 < p.2) → 0 < f.foldl (fun F p => if F % p.2 ≠ 0 then F * p.2 else F) F ∧ F ∣ f.foldl (fun F p => if F % p.2 ≠ 0 then F * p.2 else F) F ∧ ∀ p ∈ f, p.2 ∣ f.foldl (fun F p => if F % p.2 ≠ 0 then F * p.2 else F) F
  | [], F, h, _ => ⟨h, Int.dvd_refl _, fun p hp => by cases hp⟩
  | p :: f, F, h, hp => by
    have p0 := hp p (List.mem_cons_self ..)
    have st : 0 < (if F % p.2 ≠ 0 then F * p.2 else F) ∧ F ∣ (if F % p.2 ≠ 0 then F * p.2 else F) ∧ p.2 ∣ (if F % p.2 ≠ 0 then F * p.2 else F) := by
      by_cases c : F % p.2 ≠ 0
      · rw [if_pos c]
        exact ⟨Int.mul_pos h p0, Int.dvd_mul_right _ _, Int.dvd_mul_left _ _⟩
      · rw [if_neg c]
        exact ⟨h, Int.dvd_refl _, Int.dvd_of_emod_eq_zero (by omega)⟩
    obtain ⟨a, b, c⟩ := flat_ok f _ st.1 fun q hq => hp q (List.mem_cons_of_mem _ hq)
    refine ⟨a, Int.dvd_trans st.2.1 b, fun q hq => ?_⟩
    rcases List.mem_cons.mp hq with rfl | hq
    · exact Int.dvd_trans st.2.2 b
    · exact c q hq
/-- the places, put in order, are places -/
theorem places_ok {rays : List Ln} {roof : Int} (hr : 0 < roof) {ps : List Int} (hp : ps.Perm ((meetM rays roof).map fun p => p.1 * (flatM (meetM rays roof) / p.2))) (hs : ps.Pairwise (· ≤ ·)) : Places rays roof (flatM (meetM rays roof)) ps := by
  obtain ⟨M, cr⟩ := meet_ok (rays := rays) hr
  generalize meetM rays roof = f at *
  obtain ⟨F0, _, dv⟩ := flat_ok f 1 (by decide) fun p hp => (M.inn p hp).1
  change 0 < flatM f at F0
  change ∀ p ∈ f, p.2 ∣ flatM f at dv
  generalize flatM f = F at *
  have mem : ∀ x, x ∈ ps ↔ ∃ p ∈ f, p.1 * (F / p.2) = x := fun x => by
    rw [hp.mem_iff, List.mem_map]
  have quo : ∀ p ∈ f, p.2 * (F / p.2) = F := fun p hp => Int.mul_ediv_cancel' (dv p hp)
  refine ⟨F0, ?_, (mem 0).mpr ⟨(0, 1), M.m0, Int.zero_mul _⟩, (mem _).mpr ⟨(roof, 1), M.mr, by show roof * (F / 1) = roof * F; rw [Int.ediv_one]⟩, fun x hx => ?_, fun l hl u hu bf lt => ?_⟩
  · have nd : ps.Nodup := by
      refine hp.nodup_iff.mpr ?_
      refine List.pairwise_map.mpr (M.ne.imp_of_mem fun {p q} hp hq ne e => ne ?_)
      have e1 := quo p hp
      have e2 := quo q hq
      have m : p.1 * q.2 * F = q.1 * p.2 * F := by
        have : p.1 * (F / p.2) * (p.2 * q.2) = q.1 * (F / q.2) * (p.2 * q.2) := by rw [e]
        grind
      exact Int.eq_of_mul_eq_mul_right (by omega) m
    exact (hs.and nd).imp fun {a b} h => by
      have h1 := h.1
      have h2 := h.2
      omega
  · obtain ⟨p, hp, rfl⟩ := (mem x).mp hx
    obtain ⟨p0, p1, p2⟩ := M.inn p hp
    have e1 := quo p hp
    have q0 : 0 ≤ F / p.2 := Int.ediv_nonneg (Int.le_of_lt F0) (Int.le_of_lt p0)
    refine ⟨Int.mul_nonneg p1 q0, ?_⟩
    have m := Int.mul_le_mul_of_nonneg_right p2 q0
    rw [Int.mul_assoc, e1] at m
    exact m
  · obtain ⟨p, hp, e⟩ := cr l hl u hu bf lt
    refine ⟨_, (mem _).mpr ⟨p, hp, rfl⟩, ?_⟩
    have e1 := quo p hp
    grind
/-! ### the lowest lines of the lowest lines -/
theorem good_rows {top : Int} : ∀ {R : List Ln}, Good top R → R.Pairwise (fun y x => Bf x y)
  | [], _ => List.Pairwise.nil
  | [_], _ => List.pairwise_singleton _ _
  | y :: x :: r, g => by
    have ih := good_rows g.tail
    refine List.pairwise_cons.mpr ⟨fun z hz => ?_, ih⟩
    rcases List.mem_cons.mp hz with rfl | hz
    · exact g.1
    · exact ((List.pairwise_cons.mp ih).1 z hz).trans g.1
theorem thin_again : ∀ (l k : List Ln), Rows (k ++ l) → l.foldl thinPS k = k ++ l
  | [], k, _ => (List.append_nil k).symm
  | a :: l, k, h => by
    have e : thinPS k a = k ++ [a] := by
      unfold thinPS
      refine if_neg fun c => ?_
      obtain ⟨o, ho, le⟩ := List.any_eq_true.mp c
      have b := (List.pairwise_append.mp h).2.2 o ho a (List.mem_cons_self ..)
      unfold leP at le
      rw [Bool.and_eq_true] at le
      have := of_decide_eq_true le.2
      have := b.2
      omega
    show l.foldl thinPS (thinPS k a) = _
    rw [e, thin_again l (k ++ [a]) (by rw [List.append_assoc]; exact h), List.append_assoc]
    rfl
theorem add_again {top : Int} {a : Ln} : ∀ {R : List Ln}, Good top (a :: R) → addM top a R = a :: R
  | [], _ => rfl
  | [y], g => if_pos g.2.1
  | y :: x :: r, g => by
    unfold addM
    rw [pop_stop (g.2.2.1 x r rfl)]
    exact if_pos g.2.1
theorem low_fold {top : Int} : ∀ (l R : List Ln), Good top (l.reverse ++ R) → l.foldl (fun R l => addM top l R) R = l.reverse ++ R
  | [], R, _ => rfl
  | a :: l, R, g => by
    rw [List.reverse_cons, List.append_assoc] at g ⊢
    have g2 : Good top (a :: R) := good_at g
    show l.foldl (fun R l => addM top l R) (addM top a R) = _
    rw [add_again g2]
    exact low_fold l (a :: R) g
theorem low_again {top : Int} {T : List Ln} (ne : T ≠ []) (g : Good top T.reverse) : lowestM top T = some T := by
  have rw0 : Rows T := by
    have := good_rows g
    exact List.pairwise_reverse.mp this
  have sorted : T.mergeSort pairLe = T := List.mergeSort_of_pairwise (rw0.imp fun {a b} h => decide_eq_true (.inl h.1))
  have e1 : thinP T = T := by
    unfold thinP
    rw [sorted]
    exact thin_again T [] rw0
  unfold lowestM
  rw [if_neg ne, e1]
  unfold lowM
  rw [low_fold T [] (by rw [List.append_nil]; exact g), List.append_nil, List.reverse_reverse]
theorem fold_inv {α β : Type} (I : β → Prop) (g : β → α → β) : ∀ (l : List α) (b : β), I b → (∀ b x, x ∈ l → I b → I (g b x)) → I (l.foldl g b)
  | [], _, h, _ => h
  | x :: l, b, h, k => fold_inv I g l (g b x) (k b x (List.mem_cons_self ..) h) fun b y hy => k b y (List.mem_cons_of_mem _ hy)
theorem meet_bd {rays : List Ln} {roof : Int} (bd : ∀ r ∈ rays, BdR r) : ∀ p ∈ meetM rays roof, p.2 ≤ 1000 := by
  unfold meetM
  refine fold_inv (fun f : List (Int × Int) => ∀ p ∈ f, p.2 ≤ 1000) _ rays _ (fun p hp => ?_) fun f l hl hf => fold_inv (fun f : List (Int × Int) => ∀ p ∈ f, p.2 ≤ 1000) _ rays f hf fun f u hu hf p hp => ?_
  · simp only [List.mem_cons, List.not_mem_nil, or_false] at hp
    rcases hp with rfl | rfl
    · decide
    · show (1 : Int) ≤ 1000
      decide
  · obtain ⟨_, _, _, a⟩ := bd l hl
    obtain ⟨_, _, b, _⟩ := bd u hu
    unfold meetS at hp
    split at hp
    · split at hp
      · exact hf p hp
      · rcases List.mem_append.mp hp with hp | hp
        · exact hf p hp
        · cases List.mem_singleton.mp hp
          show l.2 - u.2 ≤ 1000
          omega
    · exact hf p hp
end Fb

set_option Elab.async false
set_option linter.all false
set_option maxRecDepth 100000
set_option maxHeartbeats 4000000
/-! sorted by a key that a lambda of one name tells -/
namespace Fb
open PySem PySem.Spec L2
open PyProof.Rows hiding St
open LamX (TabB Tabs TabS ExtN CodeO)

/-! ### the heap without the tables of code objects -/
/-- what is tracked but the tables -/
def noT (H : Hp) : Hp := fun b => match H b with
  | some (.tbl _) => none
  | o => o
theorem noT_at {H : Hp} {b : Addr} {o : HO} (h : H b = some o) (n : ∀ ps, o ≠ .tbl ps) : noT H b = some o := by
  unfold noT
  rw [h]
  cases o <;> first | rfl | exact absurd rfl (n _)
theorem noT_of {H : Hp} {b : Addr} {o : HO} (h : noT H b = some o) : H b = some o ∧ ∀ ps, o ≠ .tbl ps := by
  unfold noT at h
  split at h
  · cases h
  · rename_i o' hn
    refine ⟨h, fun ps e => ?_⟩
    subst e
    exact hn ps h
theorem noT_same (H : Hp) : Same (noT H) H := fun _ _ h => (noT_of h).1
theorem ext_same {H H' : Hp} (e : ExtN H H') : Same (noT H) H' := fun b o h => e b o (noT_of h).1 (noT_of h).2
theorem same_ext {H H' : Hp} (e : Same (noT H) H') : ExtN H H' := fun b o h n => e b o (noT_at h n)
theorem noT_mono {H H' : Hp} (e : Same H H') : Same (noT H) (noT H') := fun b o h => noT_at (e b o (noT_of h).1) (noT_of h).2
theorem noT_sqt {K : PySem.W.Frag} {H : Hp} {a : Addr} {xs : List V} (h : SqT K H a xs) : SqT K (noT H) a xs := by
  rcases h with (h | ⟨o, h⟩) | h
  · exact .inl (.inl (noT_at h fun _ e => nomatch e))
  · exact .inl (.inr ⟨o, noT_at h fun _ e => nomatch e⟩)
  · exact .inr h
theorem noT_sql {K : PySem.W.Frag} {H : Hp} {a : Addr} {xs : List V} (h : SqL K H a xs) : SqL K (noT H) a xs := by
  rcases h with (h | ⟨o, h⟩) | h
  · exact .inl (.inl (noT_at h fun _ e => nomatch e))
  · exact .inl (.inr ⟨o, noT_at h fun _ e => nomatch e⟩)
  · exact .inr h
mutual
theorem noT_dp {K : PySem.W.Frag} {H : Hp} : ∀ (d : PyData) {v : V}, Dp K H v d → Dp K (noT H) v d
  | .none, _, h => by cases h; exact .non
  | .bool _, _, h => by cases h; exact .bl _
  | .int _, _, h => by cases h; exact .int _
  | .str _, _, h => by cases h; exact .str _
  | .list ds, _, h => by
    cases h with
    | lst s a => exact .lst (noT_sql s) (noT_all ds a)
  | .tuple ds, _, h => by
    cases h with
    | tup s a => exact .tup (noT_sqt s) (noT_all ds a)
  | .dict _, _, h => by cases h
theorem noT_all {K : PySem.W.Frag} {H : Hp} : ∀ (ds : List PyData) {vs : List V}, DpAll K H vs ds → DpAll K (noT H) vs ds
  | [], _, h => by cases h; exact .nil
  | d :: ds, _, h => by
    cases h with
    | cons a b => exact .cons (noT_dp d a) (noT_all ds b)
end
theorem noT_bag {H : Hp} {p : Addr} (h : BagAt H p) : BagAt (noT H) p := by
  obtain ⟨q, ns, a, b⟩ := h
  exact ⟨q, ns, noT_at a (fun _ e => by unfold bagO at e; cases e), noT_at b fun _ e => nomatch e⟩
theorem tabs_same {T : List (Addr × Str)} {H H' : Hp} (t : Tabs T H) (e : Same H H') : Tabs T H' := t.ext e

/-! ### the lambda as a value -/
/-- the function at f, its code object at c' -/
def LamO (f c' : Addr) (q : Str) (params : Arguments) (body : Expr) (scope : Scope) : HO :=
  .ext fun h => ∃ pm ctv : Value, h.get? f = some (PySem.W.kla_obj "<lambda>" q params body scope [] pm c' ctv)
theorem lamO_ok {P : Program} {w : World} {H : Hp} {h : Heap} {f c' : Addr} {q : Str} {params : Arguments} {body : Expr} {scope : Scope} {pm ctv : Value} (e : h.get? f = some (PySem.W.kla_obj "<lambda>" q params body scope [] pm c' ctv)) :
    ObjOk P w H h f (LamO f c' q params body scope) :=
  ⟨⟨pm, ctv, e⟩, ⟨_, e⟩, fun h1 h2 ⟨pm, ctv, e⟩ k => ⟨pm, ctv, k _ e⟩⟩
section
variable {X : Cx} {pins : List (Addr × Obj)} {σ : L2.St} {H : Hp} {s : Shared}
theorem tabs_upd {T : List (Addr × Str)} {H : Hp} {f : Addr} {o : HO} (t : Tabs T H) (n : H f = none) : Tabs T (upd H f o) := t.ext (grow n)
theorem lam_new {T : List (Addr × Str)} {c P : Addr} {params : Arguments} {body : Expr} {scope : Scope} {pos : Pos} {q : Str} {E : Value → Shared → Prop} {Q : Value → Shared → Prop} (I : Inv X pins σ H s) (TB : TabB X.base X.mg c P) (hcode : X.env.code = .ref c)
    (eq : q = X.env.qual ++ "<lambda>") (hm : (P, q) ∈ T) (hu : ∀ p ∈ T, p.1 = P → p.2 = q) (hT : Tabs T H) (hdef : defaultsOf params X.env = ([], [])) (hfree : ∀ y ∈ scope.names, y.2 ≠ .free) (hclo : cloFrom X.env.cells scope.names [] = [])
    (k : ∀ (f c' : Addr) (H1 : Hp) (s' : Shared), Inv X pins σ H1 s' → ExtN H H1 → Tabs T H1 → H1 f = some (LamO f c' q params body scope) → H1 c' = some (CodeO c' q) → Q (.ref f) s') :
    wpAny (model X.prog X.w) X.A (eval (.Lambda params body scope pos) X.env) Q E s := by
  subst eq
  obtain ⟨ps, hP, ht, ha⟩ := hT _ hm
  have bP : s.heap.BuiltinsAt X.mg P := TB.bm.keeps I.bk
  have hP' : s.heap.get? P = some { cls := .none, data := .fields ps } := I.hok P _ hP
  have clo : closureFor scope X.env = pure [] := by
    have := closure_ok (env := X.env) (scope := scope) fun y hy e => absurd e (hfree y hy)
    rw [hclo] at this
    exact this
  -- the function is laid, once its code object is known
  have fin : ∀ (H2 : Hp) (h2 : Heap) (tk : Nat) (pm ctv : Value) (c' : Addr), Inv X pins σ H2 { s with heap := h2, toks := tk } → ExtN H H2 → Tabs T H2 → H2 c' = some (CodeO c' (X.env.qual ++ "<lambda>")) →
      Q (.ref h2.objs.size) { s with heap := h2.push (PySem.W.kla_obj "<lambda>" (X.env.qual ++ "<lambda>") params body scope [] pm c' ctv), toks := tk } := by
    intro H2 h2 tk pm ctv c' J e t hc
    have nF : H2 h2.objs.size = none := J.hok.fresh (Nat.le_refl _)
    refine k h2.objs.size c' (upd H2 h2.objs.size (LamO h2.objs.size c' (X.env.qual ++ "<lambda>") params body scope)) _ (J.laid (t' := tk) (fun b u z => Heap.get?_push_of_some _ z) (Nat.le_refl _) (lamO_ok (Heap.get?_push_size _ rfl)))
      (e.trans (ExtN.of (grow nF))) (tabs_upd t nF) upd_same ((grow nF) _ _ hc)
  refine PySem.W.kla_eval hdef ?_
  cases hc : codeAmong pos ps.toList with
  | none =>
    refine PySem.W.kla_makeFunction (mg := X.mg) (c := c) (P := P) (ps := ps) clo I.ok.glob (I.mod.glob.keeps I.bk) hcode (TB.code.keeps I.bk) hP' ht hc TB.gP bP fun c' ctv h' tk hx hge hlt hrec htb => ?_
    obtain ⟨c2, oc, vs, t, e2, hoc, hd, hv⟩ := hrec
    cases e2
    have nC : H c' = none := I.hok.fresh hge
    have J := LamX.inv_table (t' := tk) (q := X.env.qual ++ "<lambda>") (more := #[rawInt pos.line, rawInt pos.col, .ref c']) (h' := h') I hP (fun b o hb e => hx b o hb e) htb hge ⟨oc, vs, t, hoc, hd, hv⟩
    have hE : ExtN H (upd (upd H P (.tbl (ps ++ #[rawInt pos.line, rawInt pos.col, .ref c']))) c' (CodeO c' (X.env.qual ++ "<lambda>"))) := by
      intro b o e n
      rw [upd_ne (ne_of_none e nC), upd_ne]
      · exact e
      · intro z
        subst z
        exact n ps (Option.some.inj (e.symm.trans hP))
    have eL : (ps ++ #[rawInt pos.line, rawInt pos.col, Value.ref c']).toList = ps.toList ++ [rawInt pos.line, rawInt pos.col, .ref c'] := by simp
    refine fin _ h' tk _ ctv c' J hE (fun p hp => ?_) upd_same
    by_cases hb : p.1 = P
    · rw [hu p hp hb, hb]
      refine ⟨_, (upd_ne (ne_of_none hP nC)).trans upd_same, ?_, ?_⟩
      · rw [eL]
        exact PySem.TriplesOk_snoc _ _ _ _ ht
      · intro p' cv hcv
        rw [eL] at hcv
        rcases LamX.among_app _ ht hcv with z | z
        · obtain ⟨c0, e1, e2⟩ := ha p' cv z
          exact ⟨c0, e1, hE _ _ e2 LamX.codeO_ne⟩
        · exact ⟨c', z, upd_same⟩
    · obtain ⟨ps', a1, a2, a3⟩ := hT p hp
      refine ⟨ps', ?_, a2, ?_⟩
      · rw [upd_ne (ne_of_none a1 nC), upd_ne hb]
        exact a1
      · intro p' cv hcv
        obtain ⟨c0, e1, e2⟩ := a3 p' cv hcv
        exact ⟨c0, e1, hE _ _ e2 LamX.codeO_ne⟩
  | some cv =>
    obtain ⟨c', e, hco⟩ := ha pos cv hc
    subst e
    refine PySem.W.kla_makeFunctionHit (mg := X.mg) (c := c) (P := P) (ps := ps) clo I.ok.glob (I.mod.glob.keeps I.bk) hcode (TB.code.keeps I.bk) hP' ht hc bP fun ctv h' tk hx hsz => ?_
    exact fin H h' tk _ ctv c' (I.kept hx) (ExtN.refl H) hT hco
/-- a lambda, made -/
def tLamV (T : List (Addr × Str)) (q : Str) (params : Arguments) (body : Expr) (scope : Scope) : TE := fun σ H Q => Tabs T H ∧ ∀ f c' H1, ExtN H H1 → Tabs T H1 → H1 f = some (LamO f c' q params body scope) → H1 c' = some (CodeO c' q) → Q (.ref f) H1
theorem pe_lamV {T : List (Addr × Str)} {c P : Addr} {params : Arguments} {body : Expr} {scope : Scope} {pos : Pos} {q : Str} (TB : TabB X.base X.mg c P) (hcode : X.env.code = .ref c)
    (eq : q = X.env.qual ++ "<lambda>") (hm : (P, q) ∈ T) (hu : ∀ p ∈ T, p.1 = P → p.2 = q) (hdef : defaultsOf params X.env = ([], [])) (hfree : ∀ y ∈ scope.names, y.2 ≠ .free) (hclo : cloFrom X.env.cells scope.names [] = []) :
    PE X (.Lambda params body scope pos) (tLamV T q params body scope) := by
  refine ⟨fun pins s σ H Q I h => ?_⟩
  obtain ⟨hT, h⟩ := h
  exact lam_new I TB hcode eq hm hu hT hdef hfree hclo fun f c' H1 s' J e t h1 h2 => ⟨.ref f, H1, J, rfl, h f c' H1 e t h1 h2⟩
end

/-! ### a key: the negative of an item -/
/-- lambda x: -x[i] -/
structure NegKey (x : Str) (i : Int) (j : Nat) (params : Arguments) (body : Expr) (scope : Scope) : Prop where
  shape : ∃ p1 k p2 p3 p4, body = .UnaryOp .USub (.Subscript (.Name x p1) (.Constant (.int i) k p2) p3) p4
  kind : scope.kind = .function
  co : scope.isCoroutine = false
  gen : scope.isGenerator = false
  cell : ∀ y ∈ scope.names, y.2 ≠ .cell
  own : scope.names.lookup x = some .local
  bug : (x == ("__debug__" : Str)) = false
  bind : ∀ (q : Str) (pm cdv ctv v : Value), bindArgs (PySem.W.kla_fn "<lambda>" q params body scope [] pm cdv ctv) ⟨[v], []⟩ = pure [(x, v)]
  ix : i = j
  small : j < 1000
theorem neg_key {P : Program} {w : World} {A : Around} {s : Shared} {f c' t : Addr} {x q : Str} {i : Int} {j : Nat} {params : Arguments} {body : Expr} {scope : Scope} {pm ctv : Value} {items : Array Value} {z : Int} {tz : Tok} (N : NegKey x i j params body scope)
    (ho : s.heap.get? f = some (PySem.W.kla_obj "<lambda>" q params body scope [] pm c' ctv)) (hc : s.heap.CodeRec (.ref c') q) (lim : s.heap.NoLimit) (room : A.depth < recursionLimit) (ht : IsTup s.heap t items) (hx : items[j]? = some (.int z tz)) :
    wpAny (model P w) A (call (.ref f) [.ref t]) (PySem.W.KeyPure (.int (-z)) s) (fun _ _ => False) s := by
  obtain ⟨p1, k, p2, p3, p4, eb⟩ := N.shape
  have bind := N.bind q pm (.ref c') ctv (.ref t)
  refine wpAny_call (codeAny_mono (R := fun r s' => ∃ v, r = .ok (.ret v) ∧ PySem.W.KeyPure (.int (-z)) s v s') ?_ ?_)
  · refine PySem.W.kla_callFunE room ho rfl N.co N.gen rfl hc ?_
    rw [bind]
    refine wpAny_pure (wpAny_newFunctionEnv N.cell ?_ (fun h₁ hns hsb => ⟨lim.fresh _ hsb, ?_⟩) N.kind)
    · intro y hy
      rw [List.mem_singleton.mp hy]
      exact N.own
    · have kp : ∀ b o, s.heap.get? b = some o → h₁.get? b = some o := fun b o e => hsb.extBut b o (Nat.ne_of_lt (Heap.lt_size e)) (Heap.get?_push_of_some _ e)
      refine PySem.W.kla_codeExpr ?_
      rw [eb]
      refine UnaryOp_ (wpAny_Subscript_Constant_late (wpAny_Name (wpAny_loadName_local N.kind N.own hns (v := .ref t) ?_ ?_) N.bug))
      · show List.lookup x [(x, Value.ref t)] = some (.ref t)
        simp [List.lookup]
      · refine wpAny_Constant_int ?_
        have e := N.ix
        subst e
        have sm := N.small
        have lt : j < items.size := (Array.getElem?_eq_some_iff.mp hx).1
        refine ⟨"tuple", _, slot_tuple_getitem.lookup, (ht.keeps kp).typeIs, getItem_tuple (j := j) (ht.keeps kp) (by omega) (by omega) ?_ hx ?_⟩
        · unfold seqIndex?
          simp only [show ¬ ((j : Int) < 0) by omega, if_false]
          rw [if_pos]
          · simp
          · simp only [Bool.and_eq_true, decide_eq_true_eq]
            omega
        · exact neg_int ⟨_, rfl, h₁, _, rfl, kp, .int _ _⟩
  · rintro r s' ⟨v, rfl, h⟩
    exact h
/-- sorted(xs, key=lambda x: -x[i]): the items in some order -/
def rSortNeg (K : PySem.W.Frag) (j : Nat) (q : Str) (params : Arguments) (body : Expr) (scope : Scope) : List V → List V → Hp → VK → Prop := fun vs ws H Q => ∃ (a f c' : Addr) (zs : List (V × List Int)), vs = [V.ref a] ∧ ws = [V.ref f] ∧ SqL K H a (zs.map Prod.fst) ∧
  (∀ z ∈ zs, TupI K H z.1 z.2 ∧ j < z.2.length) ∧ H f = some (LamO f c' q params body scope) ∧ H c' = some (CodeO c' q) ∧ ∀ (p : Addr) (zs' : List (V × List Int)), zs'.Perm zs → H p = none → Q (.ref p) (upd H p (.lst (zs'.map Prod.fst)))
theorem negs_vals : ∀ {zs : List (V × List Int)} {us : List Value}, Vals (zs.map Prod.fst) us → PySem.W.EachIs (fun u (z : V × List Int) => RelV z.1 u) us zs
  | [], _, h => by
    cases h
    exact .nil
  | z :: r, _, h => by
    cases h with
    | cons a b => exact .cons a (negs_vals b)
theorem vals_negs : ∀ {zs : List (V × List Int)} {us : List Value}, PySem.W.EachIs (fun u (z : V × List Int) => RelV z.1 u) us zs → Vals (zs.map Prod.fst) us
  | _, _, .nil => .nil
  | _, _, .cons a b => .cons a (vals_negs b)
theorem cr_sortNeg {X : Cx} {k : Nat} {x q : Str} {i : Int} {j : Nat} {params : Arguments} {body : Expr} {scope : Scope} (hr : Room k X.A) (N : NegKey x i j params body scope) : CallRK X (.builtin "sorted") [Str.ofString "key"] (rSortNeg X.K j q params body scope) := by
  intro pins s σ H vs ws us us2 Q I r r2 h
  obtain ⟨a, f, c', zs, rfl, rfl, hs, hz, hf, hc, k⟩ := h
  rw [Vals.ref1 r, Vals.ref1 r2]
  obtain ⟨its, rv, hl, hz2⟩ := I.list hs
  obtain ⟨⟨pm, ctv, ef⟩, _, _⟩ := I.hok f _ hf
  obtain ⟨⟨oc, cvs, ct, ec, dc, vc⟩, _, _⟩ := I.hok c' _ hc
  have un := hr.un
  have dp := hr.dp
  rw [List.length_map] at hz2
  refine PySem.W.sorted_key_data (b := false) (bs := zs) (R := fun u (z : V × List Int) => RelV z.1 u) (fun z : V × List Int => .int (-(z.2.getD j 0))) hl.isList (negs_vals rv) (PySem.W.AllAlike.of fun _ _ => rfl)
    (PySem.W.Sortable.others fun b => ⟨(fun h => nomatch h), fun xs h => nomatch h⟩) hz2 (fun z _ => ?_) (PyProof.Rows.ksk_s1 _ _) (fun _ => PyProof.Rows.ksk_l1 _ _) (fun _ => PyProof.Rows.ksk_t1 _ _) (fun v z rz mz h tk kp => ?_) fun out c h' tk kp fr hD lo eo => ?_
  · show X.A.units + 2 + 0 < _
    omega
  · obtain ⟨⟨A1, e1, sA⟩, lt⟩ := hz z mz
    rw [e1] at rz
    cases rz
    obtain ⟨its2, rv2, hl2, _⟩ := I.tuple sA
    have g : (z.2.map V.int)[j]? = some (.int (z.2.getD j 0)) := by
      rw [List.getElem?_map, List.getElem?_eq_getElem lt, List.getD_eq_getElem?_getD, List.getElem?_eq_getElem lt]
      rfl
    obtain ⟨u, eu, ru⟩ := rv2.get g
    obtain ⟨tz, rfl⟩ := ru
    exact neg_key (s := { s with heap := h, toks := tk }) N (kp _ _ ef) ⟨c', oc, cvs, ct, rfl, kp _ _ ec, dc, vc⟩ (I.nolimit.keeps kp) (by show X.A.depth < _; omega) (hl2.keeps kp) (by simpa using eu)
  · have pm2 : (zs.mergeSort (PySem.W.dataLe false fun z : V × List Int => .int (-(z.2.getD j 0)))).Perm zs := List.mergeSort_perm _ _
    refine ⟨.ref _, upd H (s.heap.objs.size + 1) (.lst ((zs.mergeSort (PySem.W.dataLe false fun z : V × List Int => .int (-(z.2.getD j 0)))).map Prod.fst)), I.laid (t' := tk) kp (Nat.le_succ _) ⟨?_, out, c, vals_negs eo, hD⟩, rfl, k _ _ pm2 (I.hok.fresh (Nat.le_succ _))⟩
    rw [List.length_map, pm2.length_eq]
    exact hz2
theorem setOf_K {X : Cx} {K : PySem.W.Frag} {P : Program} {w : World} (eK : X.K = K) (eP : X.prog = P) (ew : X.w = w) (hc : X.calm = true) (hu : X.A.units + 64 < cLine) : CallR X (.type "set") (rSetOfT K P w) := by
  subst eK eP ew
  exact cr_setOfT hc hu
theorem sortedT_K {X : Cx} {K : PySem.W.Frag} {P : Program} {w : World} (eK : X.K = K) (eP : X.prog = P) (ew : X.w = w) (hc : X.calm = true) : CallR X (.builtin "sorted") (rSortedT K P w) := by
  subst eK eP ew
  exact cr_sortedT hc
theorem room_set {k : Nat} {A : Around} (hr : Room k A) : A.units + 64 < cLine := by
  have := hr.un
  omega
/-- sorted(e, key=lambda x: -x[i]) -/
theorem pe_sortNeg {X : Cx} {K : PySem.W.Frag} {k : Nat} {T : List (Addr × Str)} {c P : Addr} {x q : Str} {i : Int} {j : Nat} {params : Arguments} {body : Expr} {scope : Scope} {p lpos kpos pos : Pos} {e : Expr} {te : TE} (eK : X.K = K) (hr : Room k X.A) (hg : Gl X "sorted") (hm : X.mg "sorted" = none) (he0 : PE X e te)
    (TB : TabB X.base X.mg c P) (hcode : X.env.code = .ref c) (eq : q = X.env.qual ++ "<lambda>") (hT : (P, q) ∈ T) (hu : ∀ p ∈ T, p.1 = P → p.2 = q) (N : NegKey x i j params body scope) (hdef : defaultsOf params X.env = ([], []) := by rfl) (hfree : ∀ y ∈ scope.names, y.2 ≠ .free := by decide)
    (hclo : cloFrom X.env.cells scope.names [] = [] := by rfl) (hse : starEach [e] X.env = (false, eval e X.env) :: starEach [] X.env := by rfl) (he : backTo pos (starEach [e] X.env) = (false, eval e X.env) :: backTo pos (starEach [] X.env) := by rfl) (hpl : (backTo pos (starEach [e] X.env)).any (·.1) = false := by rfl) :
    PE X (.Call (.Name "sorted" p) [e] [⟨some "key", .Lambda params body scope lpos, kpos⟩] pos) (tCKw (rSortNeg K j q params body scope) (tCons te tNil) (tCons (tLamV T q params body scope) tNil)) := by
  subst eK
  exact pe_callBK (cr_sortNeg hr N) hg hm (by decide +kernel) (pa_cons he0 pa_nil (hs := hse)) (pk_cons (pe_lamV TB hcode eq hT hu hdef hfree hclo) pk_nil) (by decide) (by decide) he hpl rfl rfl rfl
end Fb

set_option Elab.async false
set_option linter.all false
set_option maxRecDepth 100000
set_option maxHeartbeats 4000000
/-! rows of ints compared, looked for in a list; what least things say -/
namespace Fb
open PySem PySem.Spec L2
open PyProof.Rows hiding St
theorem eqv_ln (p q : Ln) : PyData.eqv (rowD (tol p)) (rowD (tol q)) = decide (p = q) := by
  obtain ⟨a, b⟩ := p
  obtain ⟨c, d⟩ := q
  show PyData.eqv (.tuple [.int a, .int b]) (.tuple [.int c, .int d]) = _
  simp only [PyData.eqv, PyData.eqvAll, Bool.and_true]
  by_cases h1 : a = c
  · by_cases h2 : b = d
    · simp [h1, h2]
    · simp [h2]
  · simp [h1]
theorem any_eqv (t : Ln) (rays : List Ln) : ((rays.map fun r => rowD (tol r)).any fun z => PyData.eqv z (rowD (tol t))) = rays.any fun r => decide (r = t) := by
  induction rays with
  | nil => rfl
  | cons r l ih =>
    rw [List.map_cons, List.any_cons, List.any_cons, ih, eqv_ln]
theorem depth_ln (p : Ln) : (rowD (tol p)).depth = 1 := by
  simp [rowD, tol, PyData.depth, PyData.depthAll]
theorem depthAll_ln : ∀ rays : List Ln, PyData.depthAll (rays.map fun r => rowD (tol r)) ≤ 1
  | [] => by simp [PyData.depthAll]
  | r :: l => by
    have ih := depthAll_ln l
    simp only [List.map_cons, PyData.depthAll, depth_ln]
    exact Nat.max_le.mpr ⟨Nat.le_refl _, ih⟩
theorem lay_ln : ∀ rays : List Ln, PyData.canLayAll0 (rays.map fun r => rowD (tol r)) = true
  | [] => by simp [PyData.canLayAll0]
  | r :: l => by
    have ih := lay_ln l
    simp only [List.map_cons, PyData.canLayAll0, ih, Bool.and_true]
    simp [rowD, tol, PyData.canLay0, PyData.canLayAll0]
theorem shaped_ln (p : Ln) : SeqAt.shaped (rowD (tol p)) = true := by
  unfold SeqAt.shaped
  rw [depth_ln]
  simp [rowD, tol, PyData.canLay0, PyData.canLayAll0]
theorem shaped_lns (rays : List Ln) : SeqAt.shaped (.list (rays.map fun r => rowD (tol r))) = true := by
  unfold SeqAt.shaped
  have h := depthAll_ln rays
  have h2 : PyData.depth (.list (rays.map fun r => rowD (tol r))) ≤ 64 := by
    simp only [PyData.depth]
    omega
  rw [decide_eq_true h2]
  simp only [PyData.canLay0, lay_ln, Bool.true_and]
theorem in_D {X : Cx} {K : PySem.W.Frag} (e : X.K = K) (hu : X.A.units + 65 < cLine) : OpR X (compareOp .In) (rInD K) := e ▸ op_inD hu
theorem room65 {k : Nat} {A : Around} (hr : Room k A) : A.units + 65 < cLine := by
  have := hr.un
  omega
/-- the least of what is read of some is the least of what is read of all -/
theorem least_same {T rays : List Ln} {f : Ln → Int} {a b : Int} (sub : ∀ t ∈ T, t ∈ rays) (cov : ∀ q ∈ rays, ∃ t ∈ T, f t ≤ f q) (ha : a ∈ T.map f) (la : ∀ y ∈ T.map f, a ≤ y) (hb : b ∈ rays.map f) (lb : ∀ y ∈ rays.map f, b ≤ y) : a = b := by
  obtain ⟨t, ht, rfl⟩ := List.mem_map.mp ha
  obtain ⟨q, hq, rfl⟩ := List.mem_map.mp hb
  obtain ⟨u, hu, le⟩ := cov q hq
  have h1 := la _ (List.mem_map_of_mem hu)
  have h2 := lb _ (List.mem_map_of_mem (sub t ht))
  omega
theorem nodup_le {α : Type} [DecidableEq α] : ∀ {l m : List α}, l.Nodup → (∀ x ∈ l, x ∈ m) → l.length ≤ m.length
  | [], _, _, _ => Nat.zero_le _
  | x :: l, m, h, s => by
    have h := List.nodup_cons.mp h
    have hx := s x (List.mem_cons_self ..)
    have ih := nodup_le (l := l) (m := m.erase x) h.2 fun y hy => (List.mem_erase_of_ne (fun e => h.1 (by rw [← e]; exact hy))).mpr (s y (List.mem_cons_of_mem _ hy))
    rw [List.length_erase_of_mem hx] at ih
    have := List.length_pos_of_mem hx
    rw [List.length_cons]
    omega
end Fb
namespace Fb
open PySem PySem.Spec L2
open PyProof.Rows hiding St
theorem low_len {top : Int} {rays L : List Ln} (h : lowestM top rays = some L) : L.length ≤ rays.length := by
  obtain ⟨_, sub, good, _⟩ := lowest_ok h
  have fall := good_rows good
  rw [List.pairwise_reverse] at fall
  exact nodup_le (fall.imp fun {a b} hb e => by
    subst e
    exact Int.lt_irrefl _ hb.1) sub
theorem lk_ln {n : Nat} {L : List Ln} (h : L.length ≤ 100000) : Lk (n + 3) (lnD (some L)) := by
  refine ⟨by rw [List.length_map]; exact h, fun d hd => ?_⟩
  obtain ⟨t, _, rfl⟩ := List.mem_map.mp hd
  refine ⟨(show 2 ≤ 100000 by decide), fun d hd => ?_⟩
  obtain ⟨z, _, rfl⟩ := List.mem_map.mp hd
  exact trivial
theorem lk_lns {n : Nat} {L : List Ln} (h : L.length ≤ 100000) : Lk (n + 3) (.list (L.map fun t => rowD (tol t))) := by
  refine ⟨by rw [List.length_map]; exact h, fun d hd => ?_⟩
  obtain ⟨t, _, rfl⟩ := List.mem_map.mp hd
  refine ⟨(show 2 ≤ 100000 by decide), fun d hd => ?_⟩
  obtain ⟨z, _, rfl⟩ := List.mem_map.mp hd
  exact trivial
theorem rows_all {K : PySem.W.Frag} {H : Hp} {xs : List V} {L : List Ln} (h : RowsV K H xs (L.map tol)) : DpAll K H xs (L.map fun t => rowD (tol t)) := by
  unfold RowsV at h
  rw [List.map_map] at h
  exact h
theorem ln_dp {K : PySem.W.Frag} {H : Hp} {A : Addr} {xs : List V} {L : List Ln} (s : SqT K H A xs) (h : RowsV K H xs (L.map tol)) : Dp K H (.ref A) (lnD (some L)) := .tup s (rows_all h)
theorem noT_rows {K : PySem.W.Frag} {H : Hp} {xs : List V} {ls : List (List Int)} (h : RowsV K H xs ls) : RowsV K (noT H) xs ls := noT_all _ h
theorem noT_dial {CH : Addr} {H : Hp} {p : Addr} {top : Int} (h : DialAt CH H p top) : DialAt CH (noT H) p top := by
  obtain ⟨dx, t, h⟩ := h
  exact ⟨dx, t, noT_at h fun _ e => nomatch e⟩
theorem rows_take {K : PySem.W.Frag} {H : Hp} {xs : List V} {L : List Ln} (h : RowsV K H xs (L.map tol)) (c : Nat) : RowsV K H (xs.take c) ((L.take c).map tol) ∧ RowsV K H (xs.drop c) ((L.drop c).map tol) := by
  induction c generalizing xs L with
  | zero => exact ⟨.nil, h⟩
  | succ c ih =>
    cases L with
    | nil =>
      cases h
      exact ⟨.nil, .nil⟩
    | cons a L =>
      have h : DpAll K H xs (rowD (tol a) :: (L.map tol).map rowD) := h
      cases h with
      | cons h1 h2 =>
        obtain ⟨i1, i2⟩ := ih (L := L) h2
        exact ⟨.cons h1 i1, i2⟩
theorem cut_take {xs : List V} {c : Int} (h0 : 0 ≤ c) (h1 : c ≤ xs.length) : cutV xs none (some c) = xs.take c.toNat ∧ cutV xs (some c) none = xs.drop c.toNat := by
  obtain ⟨n, rfl⟩ := Int.eq_ofNat_of_zero_le h0
  have h1 : n ≤ xs.length := by omega
  unfold cutV
  refine ⟨?_, ?_⟩
  · rw [HT.sIx_nat, HT.sIx_none, List.drop_zero]
    show xs.take (min n xs.length - 0) = xs.take n
    rw [Nat.min_eq_left h1, Nat.sub_zero]
  · rw [HT.sIx_nat, HT.sIx_none]
    show (xs.drop (min n xs.length)).take (xs.length - min n xs.length) = xs.drop n
    rw [Nat.min_eq_left h1]
    exact List.take_of_length_le (by rw [List.length_drop]; exact Nat.le_refl _)
theorem prod_rows {K : PySem.W.Frag} {H : Hp} {xs2 : List V} {p2 : List Ln} (h2 : RowsV K H xs2 (p2.map tol)) : ∀ {p1 : List Ln} {xs1 : List V}, RowsV K H xs1 (p1.map tol) → ∀ {i : Nat} {z : V × V}, (prodV xs1 xs2)[i]? = some z →
    ∃ p q, TupI K H z.1 (tol p) ∧ TupI K H z.2 (tol q) ∧ p ∈ p1 ∧ q ∈ p2 ∧ (sumsM p1 p2)[i]? = some (p.1 + q.1, p.2 + q.2)
  | [], _, h, i, z, g => by
    cases h
    cases g
  | p :: r, _, h, i, z, g => by
    have h : DpAll K H _ (rowD (tol p) :: (r.map tol).map rowD) := h
    cases h with
    | cons a b =>
      rename_i x xs
      have len := h2.len
      rw [List.length_map] at len
      have g : (xs2.map (fun y => (x, y)) ++ prodV xs xs2)[i]? = some z := g
      show ∃ p' q, _ ∧ _ ∧ _ ∧ _ ∧ ((p2.map fun q => (p.1 + q.1, p.2 + q.2)) ++ sumsM r p2)[i]? = _
      by_cases c : i < xs2.length
      · rw [List.getElem?_append_left (by rw [List.length_map]; exact c), List.getElem?_map, List.getElem?_eq_getElem c] at g
        cases g
        obtain ⟨q, gq, qV⟩ := line_get h2 (List.getElem?_eq_getElem c)
        refine ⟨p, q, optD_tup a, qV, List.mem_cons_self .., List.mem_of_getElem? gq, ?_⟩
        rw [List.getElem?_append_left (by rw [List.length_map, ← len]; exact c), List.getElem?_map, gq]
        rfl
      · rw [List.getElem?_append_right (by rw [List.length_map]; omega), List.length_map] at g
        obtain ⟨p', q, h1, h3, h4, h5, h6⟩ := prod_rows h2 (p1 := r) b g
        refine ⟨p', q, h1, h3, List.mem_cons_of_mem _ h4, h5, ?_⟩
        rw [List.getElem?_append_right (by rw [List.length_map]; omega), List.length_map, ← len]
        exact h6
theorem prodV_len (xs ys : List V) : (prodV xs ys).length = xs.length * ys.length := by
  unfold prodV
  rw [List.length_flatMap]
  simp [List.map_const', List.sum_replicate_nat]
end Fb

set_option Elab.async false
set_option linter.all false
set_option maxRecDepth 100000
set_option maxHeartbeats 4000000
/-! sets of tuples that hold numbers, texts, None and such tuples -/
namespace Fb
open PySem PySem.Spec L2
open PyProof.Rows hiding St

section
variable {P : Program} {w : World} {A : Around} {E : Value → Shared → Prop} {s : Shared}
/-! ### what the model asks of a key -/
theorem key_mem {h : Heap} : ∀ {ks : List NestedKey} {vs : List Value}, NestedAll h ks vs → ∀ v ∈ vs, ∃ k, NestedIs h k v ∧ k.depth ≤ NestedKey.depthAll ks
  | [], _, .nil, v, m => nomatch m
  | k :: ks, _, .cons a b, v, m => by
    rw [NestedKey.depthAll]
    rcases List.mem_cons.mp m with rfl | m
    · exact ⟨k, a, Nat.le_max_left ..⟩
    · obtain ⟨k', x, d⟩ := key_mem b v m
      exact ⟨k', x, Nat.le_trans d (Nat.le_max_right ..)⟩
/-- no key is an object of a class statement -/
theorem key_class : ∀ (n : Nat) (k : NestedKey) (v : Value) {Q : Bool → Shared → Prop}, NestedIs s.heap k v → k.depth ≤ n → Q false s → wpAny (model P w) A (ofAClassStatement n v) Q E s
  | n, .none, _, Q, x, _, q => by
    cases x
    cases n <;> exact wpAny_pure q
  | n, .num i, _, Q, x, _, q => by
    cases x <;> cases n <;> exact wpAny_pure q
  | n, .text y, _, Q, x, _, q => by
    cases x
    cases n <;> exact wpAny_pure q
  | 0, .tup ks, _, Q, x, d, q => by
    rw [NestedKey.depth] at d
    omega
  | n + 1, .tup ks, _, Q, x, d, q => by
    rw [NestedKey.depth] at d
    cases x with
    | @tup b o vs m _ ho hc hd hk =>
      have mem := key_mem hk
      unfold ofAClassStatement
      refine wpAny_bind (wpAny_typeOf ⟨o, ho, hc⟩ ?_)
      dsimp only
      rw [if_pos (beq_self_eq_true _)]
      refine wpAny_bind (wpAny_pure ?_)
      simp only [Bool.not_true, Bool.false_eq_true, if_false]
      show wpAny _ _ (seqItems? (.ref b) >>= _) _ _ s
      refine wpAny_bind (wpAny_seqItems ho hd ?_)
      dsimp only
      refine wpAny_bind ?_
      show wpAny _ _ (forIn vs _ _) _ _ s
      rw [← Array.forIn_toList]
      refine wpAny_forIn_list _ (fun left r s1 => r.1 = none ∧ s = s1 ∧ ∀ v ∈ left, v ∈ vs.toList) _ ?_ ?_ _ _ ⟨rfl, rfl, fun _ m => m⟩
      · rintro v left r s1 ⟨e, rfl, al⟩
        obtain ⟨k, xk, dk⟩ := mem v (al v (List.mem_cons_self ..))
        refine wpAny_bind (key_class n k v xk (by omega) ?_)
        simp only [Bool.false_eq_true, if_false]
        exact wpAny_pure ⟨rfl, rfl, fun u m => al u (List.mem_cons_of_mem _ m)⟩
      · rintro ⟨r1, r2⟩ s1 ⟨e, rfl, _⟩
        cases e
        exact wpAny_pure q
/-- whether a key's hash is one by value: either -/
theorem key_byValue : ∀ (n : Nat) (k : NestedKey) (v : Value) {Q : Bool → Shared → Prop}, NestedIs s.heap k v → (∀ b, Q b s) → wpAny (model P w) A (hashByValue n v) Q E s
  | n, .none, _, Q, x, q => by
    cases x
    cases n <;> exact wpAny_pure (q _)
  | n, .num i, _, Q, x, q => by
    cases x <;> cases n <;> exact wpAny_pure (q _)
  | n, .text y, _, Q, x, q => by
    cases x
    cases n <;> exact wpAny_pure (q _)
  | 0, .tup ks, _, Q, x, q => by
    cases x
    exact wpAny_pure (q _)
  | n + 1, .tup ks, _, Q, x, q => by
    cases x with
    | @tup b o vs m _ ho hc hd hk =>
      have mem := key_mem hk
      unfold hashByValue
      refine wpAny_bind (wpAny_specialOf ⟨o, ho, hc⟩ F.slot_tuple_hash.lookup ?_)
      show wpAny _ _ (seqItems? (.ref b) >>= _) _ _ s
      refine wpAny_bind (wpAny_seqItems ho hd ?_)
      refine wpAny_bind ?_
      show wpAny _ _ (forIn vs _ _) _ _ s
      rw [← Array.forIn_toList]
      refine wpAny_forIn_list _ (fun left r s1 => r.1 = none ∧ s = s1 ∧ ∀ v ∈ left, v ∈ vs.toList) _ ?_ ?_ _ _ ⟨rfl, rfl, fun _ m => m⟩
      · rintro v left r s1 ⟨e, rfl, al⟩
        obtain ⟨k, xk, dk⟩ := mem v (al v (List.mem_cons_self ..))
        refine wpAny_bind (key_byValue n k v xk fun c => ?_)
        cases c
        · simp only [Bool.not_false, if_true]
          exact wpAny_pure (wpAny_pure (q _))
        · simp only [Bool.not_true, Bool.false_eq_true, if_false]
          exact wpAny_pure ⟨rfl, rfl, fun u m => al u (List.mem_cons_of_mem _ m)⟩
      · rintro ⟨r1, r2⟩ s1 ⟨e, rfl, _⟩
        cases e
        exact wpAny_pure (q _)

/-! ### entries -/
/-- an address and the key that stands there -/
abbrev Ent := Addr × NestedKey
def rowK (w : World) (p : Ent) : Int × Value := (p.2.hash w, .ref p.1)
def KeyE (h : Heap) (p : Ent) : Prop := NestedIs h p.2 (.ref p.1) ∧ p.2.depth ≤ 8
theorem KeyE.keep {h h' : Heap} {p : Ent} (x : KeyE h p) (k : ∀ b o, h.get? b = some o → h'.get? b = some o) : KeyE h' p := ⟨x.1.at (fun b o _ _ e _ => k b o e), x.2⟩
theorem KeyE.but {h h' : Heap} {p : Ent} {a : Addr} {o : Obj} {es : Array (Int × Value)} {ep : Nat} {t : SetTable} (x : KeyE h p) (ho : h.get? a = some o) (hd : o.data = .set es ep t) (sb : Heap.SameBut a h h') : KeyE h' p :=
  ⟨x.1.at (fun b u vs n e d => (sb.2 b (by
    rintro rfl
    rw [ho] at e
    cases e
    rw [hd] at d
    cases d)).trans e), x.2⟩
theorem KeyE.inj {h : Heap} {p q : Ent} (x : KeyE h p) (y : KeyE h q) (e : p.1 = q.1) : p = q := by
  obtain ⟨a, k⟩ := p
  obtain ⟨b, l⟩ := q
  cases (show a = b from e)
  rw [show k = l from NestedIs.inj _ _ _ x.1 y.1]
theorem KeyE.eq {x y : Ent} {Q : Bool → Shared → Prop} (hu : A.units + 8 < cLine) (hx : KeyE s.heap x) (hy : KeyE s.heap y) (q : Q (decide (x.2 = y.2)) s) : wpAny (model P w) A (eqBool (.ref x.1) (.ref y.1)) Q E s :=
  (nestedKind P w).eqBool hu hx hy q
theorem KeyE.quiet {x : Ent} {Q : Bool → Shared → Prop} (hx : KeyE s.heap x) (q : Q true s) : wpAny (model P w) A (eqIsQuiet 8 (.ref x.1)) Q E s := (nestedKind P w).quiet hx q
/-- a look among keys shows nothing -/
theorem key_unseen {x : Ent} {Q : Bool → Shared → Prop} (hx : KeyE s.heap x) {ys : List Value} (hy : ∀ y ∈ ys, ∃ p, y = Value.ref p.1 ∧ KeyE s.heap p) (q : Q false s) : wpAny (model P w) A (searchCouldBeSeen (.ref x.1) ys) Q E s := by
  unfold searchCouldBeSeen
  refine wpAny_bind ?_
  refine wpAny_forIn_list _ (fun left r s1 => r.1 = none ∧ s = s1 ∧ ∀ y ∈ left, y ∈ ys) _ ?_ ?_ _ _ ⟨rfl, rfl, fun _ m => m⟩
  · rintro y left r s1 ⟨e, rfl, al⟩
    obtain ⟨p, rfl, xp⟩ := hy y (al y (List.mem_cons_self ..))
    have al2 : ∀ z ∈ left, z ∈ ys := fun z m => al z (List.mem_cons_of_mem _ m)
    dsimp only
    by_cases very : (x.1 == p.1 || (carriedByValue (.ref x.1) && carriedByValue (.ref p.1))) = true
    · exact wp_if_pos very (wpAny_pure ⟨rfl, rfl, al2⟩)
    · refine wp_if_neg very ?_
      refine wpAny_bind (hx.quiet ?_)
      simp only [Bool.not_true, Bool.false_eq_true, if_false]
      refine wpAny_bind (xp.quiet ?_)
      simp only [Bool.not_true, Bool.false_eq_true, if_false]
      refine wpAny_bind (key_class 8 _ _ hx.1 hx.2 ?_)
      simp only [Bool.false_eq_true, if_false]
      refine wpAny_bind (key_class 8 _ _ xp.1 xp.2 ?_)
      simp only [Bool.false_eq_true, if_false]
      exact wpAny_pure ⟨rfl, rfl, al2⟩
  · rintro ⟨r1, r2⟩ s1 ⟨e, rfl, _⟩
    cases e
    exact wpAny_pure q

/-! ### the set -/
structure SetK (w : World) (h : Heap) (a : Addr) (L : List Ent) (es : Array (Int × Value)) (ep : Nat) (t : SetTable) : Prop where
  ob : ∃ o, h.get? a = some o ∧ o.ExactSet ∧ o.data = .set es ep t
  rows : es.toList = L.map (rowK w)
  tab : TabOk t (L.map fun p => p.2.hash w)
  nd : (L.map Prod.snd).Nodup
  led : w.params.followText "set-order" = true ∨ t.led = true
  room : L.length * 5 < t.mask * 3
  few : L.length < 64
variable {a : Addr} {L : List Ent} {es : Array (Int × Value)} {ep : Nat} {t : SetTable}
theorem rows_size (e : es.toList = L.map (rowK w)) : es.size = L.length := by
  rw [← Array.length_toList, e, List.length_map]
theorem tab_fits (e : es.toList = L.map (rowK w)) (T : t.place.size = L.length) (d : t.dummies = #[]) (m : L.length ≤ t.mask) : t.fits es.size = true := by
  have z := rows_size e
  unfold SetTable.fits SetTable.fill
  rw [d, Bool.and_eq_true]
  refine ⟨beq_iff_eq.mpr (T.trans z.symm), decide_eq_true ?_⟩
  show t.place.size + 0 ≤ t.mask
  omega
theorem SetK.places (R : SetK w s.heap a L es ep t) : t.place.size = L.length := by
  have := R.tab.sz
  rwa [List.length_map] at this
theorem SetK.fits (R : SetK w s.heap a L es ep t) : t.fits es.size = true :=
  tab_fits R.rows R.places R.tab.dm (by have := R.room; omega)
theorem SetK.whole (R : SetK w s.heap a L es ep t) : ¬ t.gaveWay = true := by
  rw [SetTable.gaveWay, mask_odd R.tab.mok]
  exact Bool.false_ne_true
theorem SetK.entry (R : SetK w s.heap a L es ep t) {i : Nat} {p : Ent} (e : L[i]? = some p) : es[i]? = some (rowK w p) := by
  rw [← Array.getElem?_toList, R.rows, List.getElem?_map, e]
  rfl
/-- the c-th step of a hash's way -/
abbrev stp (m : Nat) (h : Int) (c : Nat) : SetTable.Probe := nth m (runAt m (SetTable.bits h % (m + 1)) (SetTable.bits h)) c
theorem stp_add (m : Nat) (h : Int) (c q : Nat) : nth m (stp m h c) q = stp m h (c + q) := (nth_add m c _ q).symm
theorem stp_clean (m : Nat) (h : Int) : ∀ c, (stp m h c).dummy = none
  | 0 => rfl
  | c + 1 => by
    rw [stp, nth_succ]
    have := stp_clean m h c
    unfold adv
    split <;> exact this
/-- the search for a key that is to be added, from the c-th step of its way on -/
theorem seek (R : SetK w s.heap a L es ep t) (kk : ∀ p ∈ L, KeyE s.heap p) {x : Ent} (hx : KeyE s.heap x) (hu : A.units + 8 < cLine) {N : Nat} (nf : N < 10 * SetTable.turns t.mask)
    (free : (stp t.mask (x.2.hash w) N).j ∉ t.place.toList) (full : ∀ c, c < N → (stp t.mask (x.2.hash w) c).j ∈ t.place.toList) {Q : SetFound → Shared → Prop}
    (there : x.2 ∈ L.map Prod.snd → Q (.there none) s) (new : x.2 ∉ L.map Prod.snd → Q (.free (stp t.mask (x.2.hash w) N).j false) s) :
    ∀ (f c : Nat) (stand : Option SetTable.Probe), N < c + f → c ≤ N → stand.getD (t.probeStart (x.2.hash w)) = stp t.mask (x.2.hash w) c →
      (∀ (i : Nat) (p : Ent), L[i]? = some p → p.2 = x.2 → ∃ c', c ≤ c' ∧ c' < N ∧ t.place.toList[i]? = some (stp t.mask (x.2.hash w) c').j) →
      wpAny (model P w) A (setSearchFrom a (.ref x.1) (x.2.hash w) true f stand) Q E s := by
  intro f
  induction f with
  | zero =>
    intro c stand h1 h2
    omega
  | succ f ih =>
    intro c stand hf hc hst ahead
    obtain ⟨o, ho, ex, hd⟩ := R.ob
    generalize hh : x.2.hash w = h at *
    have at0 : ∀ (i : Nat) (p : Ent), L[i]? = some p → ((es[i]?).map (·.1)).getD 0 = p.2.hash w := fun i p e => by
      rw [R.entry e]
      rfl
    have step : ∀ q, (nth t.mask (stp t.mask h c) q).j = (stp t.mask h (c + q)).j := fun q => congrArg SetTable.Probe.j (stp_add ..)
    have sp := go_spec t R.tab.ris R.tab.dm (fun i => ((es[i]?).map (·.1)).getD 0) h (10 * SetTable.turns t.mask) (N - c) (stp t.mask h c) (stp_clean ..) (by omega)
      (fun q hq => by rw [step]; exact full _ (by omega)) (by rw [step, show c + (N - c) = N by omega]; exact free)
    rw [setSearchFrom_succ]
    refine wpAny_bind (wpAny_setState_of ho hd R.fits ?_)
    dsimp only
    refine wp_if_neg R.whole ?_
    rcases sp with ⟨q, i, hq, hi, hash, before, go⟩ | ⟨before, go⟩
    · have go' : t.probe (fun i => ((es[i]?).map (·.1)).getD 0) h (stand.getD (t.probeStart h)) = some (.candidate (stp t.mask h (c + q)).j i (stp t.mask h (c + (q + 1)))) := by
        rw [hst, ← stp_add, ← stp_add]
        exact go
      rw [step] at hi
      rw [go']
      dsimp only
      have il : i < L.length := by
        have h1 := (List.getElem?_eq_some_iff.mp hi).1
        rw [Array.length_toList, R.places] at h1
        exact h1
      obtain ⟨p, hp⟩ : ∃ p, L[i]? = some p := ⟨_, List.getElem?_eq_getElem il⟩
      have pm := List.mem_of_getElem? hp
      have on : wpAny (model P w) A (searchRest a (.ref x.1) h true f es t (stp t.mask h (c + q)).j i (stp t.mask h (c + (q + 1)))) Q E s := by
        unfold searchRest
        rw [R.entry hp]
        dsimp only [rowK]
        refine wpAny_bind (wpAny_holding ((kk p pm).eq hu hx ?_))
        refine wpAny_bind (wpAny_setState_of ho hd R.fits ?_)
        dsimp only
        by_cases same : p.2 = x.2
        · refine wp_if_pos (by simp [same]) (wpAny_pure (there ?_))
          exact same ▸ List.mem_map_of_mem pm
        · have lv : t.slot (stp t.mask h (c + q)).j = .live i := slot_live R.tab.ris hi
          refine wp_if_neg (by simp [same]) ?_
          rw [sameMem]
          dsimp only
          simp only [if_true, lv, R.entry hp]
          dsimp only [rowK]
          refine wpAny_bind (wpAny_isSame_ref_self (wpAny_bind (wpAny_pure ?_)))
          simp only [if_true]
          refine wp_if_neg (by simp [same]) ?_
          refine ih (c + (q + 1)) _ (by omega) (by omega) rfl fun i0 p0 e0 s0 => ?_
          obtain ⟨c', l1, l2, l3⟩ := ahead i0 p0 e0 s0
          refine ⟨c', ?_, l2, l3⟩
          rcases Nat.lt_trichotomy c' (c + q) with z | z | z
          · refine absurd ?_ (before (c' - c) i0 (by omega) (by rw [step, show c + (c' - c) = c' by omega]; exact l3))
            exact (at0 i0 p0 e0).trans ((congrArg (NestedKey.hash w) s0).trans hh)
          · subst z
            have lv2 := slot_live R.tab.ris l3
            rw [lv] at lv2
            cases lv2
            rw [hp] at e0
            cases e0
            exact absurd s0 same
          · omega
      by_cases led : t.led = true
      · exact wp_if_neg (by simp [led]) on
      · refine wp_if_pos (by simp [led]) ?_
        refine wpAny_bind (key_unseen hx (fun y hy => ?_) ?_)
        · obtain ⟨e, me, rfl⟩ := List.mem_map.mp hy
          have me2 : e ∈ es.toList := by
            have := (Array.mem_filter.mp (Array.mem_toList_iff.mp me)).1
            exact Array.mem_toList_iff.mpr this
          rw [R.rows] at me2
          obtain ⟨p2, m2, rfl⟩ := List.mem_map.mp me2
          exact ⟨p2, rfl, kk p2 m2⟩
        · exact wp_if_neg Bool.false_ne_true on
    · have go' : t.probe (fun i => ((es[i]?).map (·.1)).getD 0) h (stand.getD (t.probeStart h)) = some (.empty (stp t.mask h N).j none) := by
        have e := step (N - c)
        rw [show c + (N - c) = N by omega] at e
        rw [hst, ← e]
        exact go
      rw [go']
      dsimp only
      refine wpAny_pure (new fun m => ?_)
      obtain ⟨p0, m0, s0⟩ := List.mem_map.mp m
      obtain ⟨i0, e0⟩ := List.getElem?_of_mem m0
      obtain ⟨c', l1, l2, l3⟩ := ahead i0 p0 e0 s0
      refine absurd ?_ (before (c' - c) i0 (by omega) (by rw [step, show c + (c' - c) = c' by omega]; exact l3))
      exact (at0 i0 p0 e0).trans ((congrArg (NestedKey.hash w) s0).trans hh)
theorem seek_new (R : SetK w s.heap a L es ep t) (kk : ∀ p ∈ L, KeyE s.heap p) {x : Ent} (hx : KeyE s.heap x) (hu : A.units + 8 < cLine) {Q : SetFound → Shared → Prop} (there : x.2 ∈ L.map Prod.snd → Q (.there none) s)
    (new : ∀ N, x.2 ∉ L.map Prod.snd → (stp t.mask (x.2.hash w) N).j ∉ t.place.toList → (∀ c, c < N → (stp t.mask (x.2.hash w) c).j ∈ t.place.toList) → Q (.free (stp t.mask (x.2.hash w) N).j false) s) :
    wpAny (model P w) A (setSearch a (.ref x.1) (x.2.hash w) true) Q E s := by
  have room := R.room
  obtain ⟨N, nf, free, full⟩ := R.tab.first (by rw [List.length_map]; omega) (x.2.hash w)
  have small : 10 * SetTable.turns t.mask ≤ 1420 := by
    unfold SetTable.turns
    rcases R.tab.mok with e | e | e <;> omega
  unfold setSearch
  refine seek R kk hx hu nf free full there (fun n => new N n free full) 100000 0 none (by omega) (Nat.zero_le _) rfl fun i p hp hk => ?_
  have il : i < t.place.toList.length := by
    rw [Array.length_toList, R.places]
    exact (List.getElem?_eq_some_iff.mp hp).1
  obtain ⟨c, lt, e⟩ := R.tab.before (h := x.2.hash w) free (by rw [List.getElem?_map, hp, ← hk]; rfl) (List.getElem?_eq_getElem il)
  exact ⟨c, Nat.zero_le _, lt, by rw [List.getElem?_eq_getElem il, ← e]⟩

/-! ### the table laid anew, and adding -/
theorem range_pick {α : Type} : ∀ L : List α, (List.range L.length).filterMap (fun i => L[i]?) = L
  | [] => rfl
  | x :: L => by
    rw [List.length_cons, List.range_succ_eq_map, List.filterMap_cons_some (show (fun i => (x :: L)[i]?) 0 = some x from rfl), List.filterMap_map]
    exact congrArg (x :: ·) (range_pick L)
theorem pick_rows {α : Type} (f : α → Int × Value) (L : List α) (es : Array (Int × Value)) (order : Array Nat) (hr : es.toList = L.map f) (hp : order.toList.Perm (List.range L.length)) :
    ∃ M : List α, (order.filterMap fun i => es[i]?).toList = M.map f ∧ M.Perm L ∧ (M.map fun p => (f p).1) = order.toList.map fun i => (es.map (·.1)).getD i 0 := by
  have look : ∀ i, es[i]? = (L[i]?).map f := fun i => by rw [← Array.getElem?_toList, hr, List.getElem?_map]
  refine ⟨order.toList.filterMap fun i => L[i]?, ?_, ?_, ?_⟩
  · rw [Array.toList_filterMap, List.map_filterMap]
    exact congrArg (List.filterMap · _) (funext look)
  · have := hp.filterMap fun i => L[i]?
    rwa [range_pick] at this
  · have low : ∀ i ∈ order.toList, i < L.length := fun i m => List.mem_range.mp (hp.mem_iff.mp m)
    generalize order.toList = l at low
    induction l with
    | nil => rfl
    | cons i l ih =>
      have hi := low i (List.mem_cons_self ..)
      rw [List.filterMap_cons_some (List.getElem?_eq_getElem hi), List.map_cons, List.map_cons, ih fun j m => low j (List.mem_cons_of_mem _ m)]
      congr 1
      rw [Array.getD_eq_getD_getElem?, Array.getElem?_map, look, List.getElem?_eq_getElem hi]
      rfl
theorem relay_K {o : Obj} (ho : s.heap.get? a = some o) (ex : o.ExactSet) (hd : o.data = .set es ep t) (rows : es.toList = L.map (rowK w)) (pl : t.place.size = L.length) (dm : t.dummies = #[]) (le : L.length ≤ t.mask) (nd : (L.map Prod.snd).Nodup)
    (led : w.params.followText "set-order" = true ∨ t.led = true) (few : L.length < 64) {wanted M : Nat} (hw : SetTable.sizeAbove wanted - 1 = M) (hM : MaskOk M) (h128 : SetTable.sizeAbove wanted ≤ 128) (room : L.length * 5 < M * 3) {Q : Unit → Shared → Prop}
    (q : ∀ h' L' es' ep' t', Heap.SameBut a s.heap h' → SetK w h' a L' es' ep' t' → L'.Perm L → Q () { s with heap := h' }) : wpAny (model P w) A (setRelay a wanted) Q E s := by
  have z := rows_size rows
  obtain ⟨t2, order, et, hp, T2, em, el, _, _⟩ := relaid_ok t (hs := es.map (·.1)) (wanted := wanted) hw hM (by rw [Array.size_map, z]; omega)
  rw [Array.size_map, z] at hp
  obtain ⟨L2, r1, r2, r3⟩ := pick_rows (rowK w) L es order rows hp
  rw [← r3] at T2
  have z2 : (order.filterMap fun i => es[i]?).size = es.size := by rw [rows_size r1, r2.length_eq, z]
  rw [setRelay_eq]
  refine wpAny_bind (wpAny_setState_of ho hd (tab_fits rows pl dm le) ?_)
  dsimp only
  refine wp_if_neg (by rw [sizeLine_eq]; omega) ?_
  rw [et]
  dsimp only
  refine wpAny_bind ?_
  refine wp_if_neg (by rw [z2]; simp) ?_
  refine wpAny_pure ?_
  dsimp only
  refine wpAny_storeSet_of ho hd ?_ (by rw [z2, z, sizeLine_eq]; omega)
  refine q _ L2 (order.filterMap fun i => es[i]?) (ep + 1) t2 (Heap.SameBut.update ..) ?_ r2
  exact ⟨⟨_, store_at ho hd, ⟨ex.1, ex.2.1, ex.2.2⟩, rfl⟩, r1, T2, (r2.map Prod.snd).nodup_iff.mpr nd, by rw [el]; exact led, by rw [r2.length_eq, em]; exact room, by rw [r2.length_eq]; exact few⟩
theorem add_K (R : SetK w s.heap a L es ep t) (kk : ∀ p ∈ L, KeyE s.heap p) {x : Ent} (hx : KeyE s.heap x) (hu : A.units + 8 < cLine) (few : L.length + 1 < 64) {Q : Bool → Shared → Prop}
    (q : ∀ b h' L' es' ep' t', Heap.SameBut a s.heap h' → SetK w h' a L' es' ep' t' → (x.2 ∈ L.map Prod.snd → L' = L) → (x.2 ∉ L.map Prod.snd → L'.Perm (x :: L)) → Q b { s with heap := h' }) :
    wpAny (model P w) A (setAddHashed a (.ref x.1) (x.2.hash w)) Q E s := by
  obtain ⟨o, ho, ex, hd⟩ := R.ob
  have z := rows_size R.rows
  have room := R.room
  unfold setAddHashed
  refine wpAny_holding ?_
  rw [show (100000 : Nat) = 99999 + 1 from rfl, setAddHashedIn_succ]
  refine wpAny_bind (wpAny_setState_of ho hd R.fits ?_)
  dsimp only
  refine wp_if_neg (by simp [byScan, Value.scannable]) ?_
  refine wpAny_bind (seek_new R kk hx hu (fun m => ?_) fun N nm free full => ?_)
  · dsimp only
    exact wpAny_pure (q false s.heap L es ep t (Heap.SameBut.refl a s.heap) R (fun _ => rfl) fun n => absurd m n)
  · dsimp only
    refine wpAny_bind (wpAny_setState_of ho hd R.fits ?_)
    dsimp only
    obtain ⟨e2, le, T1, em, el, _, _, _, fill⟩ := R.tab.put (K := N) free full
    generalize ej : (stp t.mask (x.2.hash w) N).j = j at *
    rw [show way t.mask (x.2.hash w) N = j from ej] at e2 le T1 em el fill
    generalize ept : t.put j = pt at e2 T1 em el fill
    obtain ⟨t1, i⟩ := pt
    dsimp only at e2 T1 em el fill ⊢
    rw [← e2] at T1 le
    have z1 : i ≤ L.length := by
      rw [List.length_map] at le
      exact le
    have ins : (SetTable.insertAt es i (x.2.hash w, Value.ref x.1)).toList = (L.take i ++ x :: L.drop i).map (rowK w) := by
      rw [SetTable.toList_insertAt, R.rows, List.map_append, List.map_cons, List.map_take, List.map_drop]
      rfl
    have pm : (L.take i ++ x :: L.drop i).Perm (x :: L) := put_perm L i x
    have T1' : TabOk t1 ((L.take i ++ x :: L.drop i).map fun p => p.2.hash w) := by
      rw [List.map_append, List.map_cons, List.map_take, List.map_drop]
      exact T1
    generalize SetTable.insertAt es i (x.2.hash w, Value.ref x.1) = es1 at ins ⊢
    generalize L.take i ++ x :: L.drop i = L1 at ins pm T1'
    have len1 : L1.length = L.length + 1 := pm.length_eq
    have nd1 : (L1.map Prod.snd).Nodup := (pm.map Prod.snd).nodup_iff.mpr (List.nodup_cons.mpr ⟨nm, R.nd⟩)
    have ze : es1.size = L.length + 1 := (rows_size ins).trans len1
    -- either answer of hashByValue
    have on : ∀ t3 : SetTable, t3.place = t1.place → t3.dummies = t1.dummies → t3.mask = t1.mask → t3.led = t1.led → t3.tooFull = t1.tooFull → TabOk t3 (L1.map fun p => p.2.hash w) →
        wpAny (model P w) A (do
          storeSet a es1 t3
          if !false && t3.tooFull then setRelay a (SetTable.grown (es.size + 1))
          return true) Q E s := by
      intro t3 e1 e2 e3 e4 e5 T3
      refine wpAny_bind (wpAny_storeSet_of ho hd ?_ (by rw [ze, sizeLine_eq]; omega))
      have sb : Heap.SameBut a s.heap (s.heap.update a (Obj.putSet es1 t3)) := Heap.SameBut.update ..
      have ho1 := store_at (es' := es1) (t' := t3) ho hd
      generalize s.heap.update a (Obj.putSet es1 t3) = h1 at sb ho1 ⊢
      have led1 : w.params.followText "set-order" = true ∨ t3.led = true := by
        rw [e4, el]
        exact R.led
      by_cases tf : t3.tooFull = true
      · have tf2 : (L.length + 1) * 5 ≥ t.mask * 3 := by
          have h := tf
          rw [e5] at h
          unfold SetTable.tooFull at h
          rw [decide_eq_true_eq, fill, List.length_map, em] at h
          exact h
        have pl1 : t3.place.size = L1.length := by
          have := T3.sz
          rwa [List.length_map] at this
        have two : (t.mask = 7 ∧ L.length = 4) ∨ (t.mask = 31 ∧ L.length = 18) := by
          rcases R.tab.mok with e | e | e
          · exact .inl ⟨e, by rw [e] at tf2 room; omega⟩
          · exact .inr ⟨e, by rw [e] at tf2 room; omega⟩
          · rw [e] at tf2
            omega
        have go : ∀ M, SetTable.sizeAbove (SetTable.grown (L.length + 1)) - 1 = M → MaskOk M → SetTable.sizeAbove (SetTable.grown (L.length + 1)) ≤ 128 → (L.length + 1) * 5 < M * 3 →
            wpAny (model P w) A (setRelay a (SetTable.grown (L.length + 1))) (fun _ s' => wpAny (model P w) A (pure true) Q E s') E { s with heap := h1 } := fun M g1 g2 g3 g4 =>
          relay_K (s := { s with heap := h1 }) ho1 ⟨ex.1, ex.2.1, ex.2.2⟩ rfl ins pl1 T3.dm (by rw [len1, e3, em]; omega) nd1 led1 (by omega) g1 g2 g3 (by rw [len1]; exact g4)
            fun h2 L2 es2 ep2 t4 sb2 R2 pm2 => wpAny_pure (q true h2 L2 es2 ep2 t4 (sb.trans sb2) R2 (fun m => absurd m nm) fun _ => pm2.trans pm)
        rw [z]
        refine wp_if_pos (by simp [tf]) (wpAny_bind ?_)
        rcases two with ⟨_, e⟩ | ⟨_, e⟩
        · exact go 31 (by rw [e, size_20]) (.inr (.inl rfl)) (by rw [e, size_20]; decide) (by omega)
        · exact go 127 (by rw [e, size_76]) (.inr (.inr rfl)) (by rw [e, size_76]; decide) (by omega)
      · refine wp_if_neg (by simp [tf]) ?_
        refine wpAny_pure (q true h1 L1 es1 (ep + 1) t3 sb ⟨⟨_, ho1, ⟨ex.1, ex.2.1, ex.2.2⟩, rfl⟩, ins, T3, nd1, led1, ?_, by omega⟩ (fun m => absurd m nm) fun _ => pm)
        have h := tf
        rw [e5] at h
        unfold SetTable.tooFull at h
        rw [decide_eq_true_eq, fill, List.length_map] at h
        rw [len1, e3]
        omega
    have on1 := on t1 rfl rfl rfl rfl rfl T1'
    have on2 := on { t1 with plain := false } rfl rfl rfl rfl rfl ⟨T1'.ris, T1'.dm, T1'.sz, T1'.mok, T1'.bd, T1'.reach⟩
    by_cases pl : t1.plain = true
    · refine wp_if_pos pl (wpAny_bind (key_byValue 8 _ _ hx.1 fun b => ?_))
      cases b
      · exact on2
      · exact on1
    · refine wp_if_neg pl ?_
      exact on1

/-! ### filling a new set -/
/-- what the set has behind the first i items -/
def Took (ks : List Ent) (i : Nat) (L : List Ent) : Prop := (∀ p ∈ L, p ∈ ks.take i) ∧ (∀ p ∈ ks.take i, p.2 ∈ L.map Prod.snd) ∧ L.length ≤ i
theorem Took.next {ks L L' : List Ent} {i : Nat} {x : Ent} (g : Took ks i L) (e : ks[i]? = some x) (old : x.2 ∈ L.map Prod.snd → L' = L) (new : x.2 ∉ L.map Prod.snd → L'.Perm (x :: L)) : Took ks (i + 1) L' := by
  obtain ⟨g1, g2, g3⟩ := g
  rw [Took, take_next e]
  rcases Classical.em (x.2 ∈ L.map Prod.snd) with m | m
  · rw [old m]
    refine ⟨fun p hp => List.mem_append_left _ (g1 p hp), fun p hp => ?_, Nat.le_succ_of_le g3⟩
    rcases List.mem_append.mp hp with hp | hp
    · exact g2 p hp
    · cases List.mem_singleton.mp hp
      exact m
  · have pm := new m
    refine ⟨fun p hp => ?_, fun p hp => ?_, ?_⟩
    · rcases List.mem_cons.mp (pm.mem_iff.mp hp) with rfl | hp
      · exact List.mem_append_right _ (List.mem_singleton.mpr rfl)
      · exact List.mem_append_left _ (g1 p hp)
    · refine (pm.map Prod.snd).mem_iff.mpr ?_
      rcases List.mem_append.mp hp with hp | hp
      · exact List.mem_cons_of_mem _ (g2 p hp)
      · cases List.mem_singleton.mp hp
        exact List.mem_cons_self ..
    · rw [pm.length_eq]
      exact Nat.succ_le_succ g3
theorem SetK.move {h h' : Heap} (R : SetK w h a L es ep t) (k : ∀ o, h.get? a = some o → h'.get? a = some o) : SetK w h' a L es ep t := by
  obtain ⟨o, ho, r⟩ := R.ob
  exact ⟨⟨o, k o ho, r⟩, R.rows, R.tab, R.nd, R.led, R.room, R.few⟩
abbrev newSet (w : World) : Obj := { cls := .type "set", dict := none, data := .set #[] 0 (.fresh 0 0 (!w.params.followText "set-order")) }
theorem setK_new {h : Heap} (ho : h.get? a = some (newSet w)) : SetK w h a [] #[] 0 (.fresh 0 0 (!w.params.followText "set-order")) := by
  refine ⟨⟨_, ho, ⟨rfl, rfl, rfl⟩, rfl⟩, rfl, ⟨.nil, rfl, rfl, .inl rfl, fun _ m => (nomatch m), fun i h j e => ?_⟩, .nil, ?_, (by decide : 0 * 5 < 7 * 3), (by decide : 0 < 64)⟩
  · rw [List.map_nil] at e
    cases e
  · show _ ∨ (!w.params.followText "set-order") = true
    cases w.params.followText "set-order"
    · exact .inr rfl
    · exact .inl rfl
theorem fill_K {I : Addr} {fp wr : List Addr} {G : Array GenState → Array GenState → Prop} {n : Nat} {Pv : Nat → Value → Prop} {St : Nat → Shared → Prop} {R : Result → Shared → Prop} (W : WalksS P w A.in1 I fp wr G n Pv St) (S : Addr) (out : S ∉ fp)
    (ks : List Ent) (hn : n = ks.length) (few : ks.length < 64) (val : ∀ i v, Pv i v → ∃ p, ks[i]? = some p ∧ v = .ref p.1) (h0 : Heap) (hk : ∀ p ∈ ks, KeyE h0 p) (hS : h0.get? S = none) (hw : ∀ b ∈ wr, h0.get? b = none) (hu : A.in1.units + 8 < cLine) :
    ∀ (m i : Nat) (s : Shared), n - i = m → i ≤ n → St i s → (∀ b o, h0.get? b = some o → s.heap.get? b = some o) → (∃ L es ep t, SetK w s.heap S L es ep t ∧ Took ks i L) →
      (∀ s' L es ep t, Moved (S :: wr) G s s' → SetK w s'.heap S L es ep t → Took ks n L → (∀ b o, h0.get? b = some o → s'.heap.get? b = some o) → R (.ok (.ret .none)) s') →
      codeAny (model P w) A (.builtin "set.update.loop" ⟨[.ref S, .ref I], []⟩) R s := by
  have Sw : S ∉ wr := fun m => out (W.sub _ m)
  have up : ∀ b ∈ wr, b ∈ S :: wr := fun b m => List.mem_cons_of_mem _ m
  have on : ∀ {s s' : Shared}, Moved wr G s s' → (∀ b o, h0.get? b = some o → s.heap.get? b = some o) → ∀ b o, h0.get? b = some o → s'.heap.get? b = some o := fun mv k b o e =>
    mv.heap b o (fun m => by
      rw [hw b m] at e
      cases e) (k b o e)
  intro m
  induction m with
  | zero =>
    intro i s hm hi st k ⟨L, es, ep, t, hL, g⟩ q
    cases (show i = n by omega)
    refine codeAny_builtin F.entry_set_update_loop ?_
    rw [Around.under_plainId F.plain_set_update_loop _]
    show wpAny _ A.in1 (pyNext (.ref I) >>= _) _ _ s
    refine wpAny_bind (W.done s _ _ st fun s' mv => ?_)
    show wpAny _ A.in1 (ret Value.none) _ _ s'
    exact wpAny_pure (q s' L es ep t (mv.mono up) (hL.move fun o e => mv.heap S o Sw e) g (on mv k))
  | succ m ih =>
    intro i s hm hi st k ⟨L, es, ep, t, hL, g⟩ q
    have lt : i < n := by omega
    refine codeAny_builtin F.entry_set_update_loop ?_
    rw [Around.under_plainId F.plain_set_update_loop _]
    show wpAny _ A.in1 (pyNext (.ref I) >>= _) _ _ s
    refine wpAny_bind (W.item i s _ _ lt st fun v s' pv st' mv => ?_)
    obtain ⟨x, ex, rfl⟩ := val i v pv
    have k' := on mv k
    have kk : ∀ p ∈ ks, KeyE s'.heap p := fun p hp => (hk p hp).keep k'
    show wpAny _ A.in1 (holding [Value.ref x.1] (setAdd S (.ref x.1)) >>= _) _ _ s'
    refine wpAny_bind (wpAny_holding ?_)
    unfold setAdd
    refine wpAny_holding ?_
    refine wpAny_bind ((nestedKind P w).pyHash hu (kk x (List.mem_of_getElem? ex)) ?_)
    refine add_K (s := { s' with toks := s'.toks + x.2.draws }) (hL.move fun o e => mv.heap S o Sw e) (fun p hp => kk p (List.mem_of_mem_take (g.1 p hp))) (x := x) (kk x (List.mem_of_getElem? ex)) hu (by have := g.2.2; omega) fun b h' L' es' ep' t' sb R' old new => ?_
    have k2 : ∀ b o, h0.get? b = some o → h'.get? b = some o := fun b o e => (sb.2 b (by
      rintro rfl
      rw [hS] at e
      cases e)).trans (k' b o e)
    refine wpAny_pure ⟨plainId_quiet F.plain_set_update_loop _, ih (i + 1) _ (by omega) lt (W.frame _ s' _ _ st' (Nat.le_add_right ..) fun b mb o e => ?_) k2 ⟨L', es', ep', t', R', g.next ex old new⟩ fun s3 L3 es3 ep3 t3 mv3 R3 g3 k3 => ?_⟩
    · rw [sb.2 b fun z : b = S => out (z ▸ mb)]
      exact e
    · refine q s3 L3 es3 ep3 t3 (Moved.trans W.gtrans ((mv.mono up).then_heap (Nat.le_add_right ..) fun b o mb e => ?_) mv3) R3 g3 k3
      rw [sb.2 b fun z : b = S => mb (z ▸ List.mem_cons_self ..)]
      exact e
end
end Fb

set_option Elab.async false
set_option linter.all false
set_option maxRecDepth 100000
/-! set(xs) and sorted(set) of such tuples -/
namespace Fb
open PySem PySem.Spec L2
open PyProof.Rows hiding St
section
variable {P : Program} {w : World} {A : Around} {E : Value → Shared → Prop} {s : Shared}
set_option maxHeartbeats 3200000 in
/-- set(xs) of a list of keys -/
theorem call_set_K {l : Addr} {items : Array Value} (ks : List Ent) {Q : Value → Shared → Prop} (hh : A.handled = none) (hl : s.heap.IsList l items) (its : items.toList = ks.map fun p => Value.ref p.1) (hk : ∀ p ∈ ks, KeyE s.heap p) (few : ks.length < 64)
    (hu : A.units + 12 < cLine) (q : ∀ h' tk L es ep t, SetK w h' s.heap.objs.size L es ep t → Took ks ks.length L → (∀ b o, s.heap.get? b = some o → h'.get? b = some o) → Q (.ref s.heap.objs.size) { s with heap := h', toks := tk }) :
    wpAny (model P w) A (call (.type "set") [.ref l]) Q E s := by
  have zi : items.size = ks.length := by rw [← Array.length_toList, its, List.length_map]
  obtain ⟨c, tl, hmro⟩ := F.called_set.mro
  have hmade := F.called_set.made
  have hsub := F.called_set.sub
  refine wpAny_call (codeAny_of_tree ?_)
  show wpAny _ _ (callAny (.type "set") _) _ _ _
  refine wpAny_pure ⟨Code.quiet_builtin _ (by decide +kernel), codeAny_builtin F.entry_type_call ?_⟩
  rw [Around.under_plain (weight_type_call_type "set" [.ref l] []) rfl]
  have n1 := F.called_set.notType
  have n2 := F.called_set.canCreate
  have n3 := F.typeCall_set_1 (.ref l)
  repeat any_goals first | assumption | wp_step
  refine codeAny_mono (code_set_led1 (.ref l) (E := E) (Q₁ := fun v s1 => v = .ref s.heap.objs.size ∧ s1 = { s with heap := s.heap.push (newSet w) }) ⟨rfl, rfl⟩) fun r s1 hr => ?_
  have none_at : ∀ b, s.heap.objs.size ≤ b → s.heap.get? b = none := fun b hb => by
    cases e : s.heap.get? b with
    | none => rfl
    | some o =>
      exact absurd (Nat.lt_of_lt_of_le (Heap.lt_size e) hb) (Nat.lt_irrefl _)
  rcases r with r | fl
  · exact hr
  cases fl with
  | ret v =>
    obtain ⟨rfl, rfl⟩ := hr
    have at1 : (s.heap.push (newSet w)).get? s.heap.objs.size = some (newSet w) := Heap.get?_push_size _ rfl
    have hT : Shared.TypeIs { s with heap := s.heap.push (newSet w) } (.ref s.heap.objs.size) "set" := ⟨_, at1, rfl⟩
    have hli := F.called_set.init.lookup
    have hbi := F.called_set.init.bind (.ref s.heap.objs.size)
    repeat any_goals first | assumption | wp_step
    refine codeAny_mono (codeAny_call_builtin (R := wants (fun r s2 => r = .none ∧ ∃ h' tk L es ep t, s2 = { s with heap := h', toks := tk } ∧ SetK w h' s.heap.objs.size L es ep t ∧ Took ks ks.length L ∧ ∀ b o, s.heap.get? b = some o → h'.get? b = some o) E)
      F.called_set.init.plain F.entry_set_init (check_set_init_1 hT ?_)) fun r2 s2 hr2 => ?_
    · obtain ⟨ol, hol, hcl, nl, hdl⟩ := hl
      obtain ⟨ocls, odict, odata, oslots⟩ := ol
      dsimp only at hcl hdl
      subst hcl
      subst hdl
      have hol' := Heap.get?_push_of_some (newSet w) hol
      have f1 := F.sub_list_set
      have f2 := F.sub_list_frozenset
      have f3 : (Value.type "list" == Value.type "dict") = false := by decide
      have hl1 : (s.heap.push (newSet w)).IsList l items := ⟨_, hol', rfl, nl, rfl⟩
      unfold Builtin.«set.__init__» noKeywords Builtin.Frozenset.updateFrom
      generalize ePI : pyIter = PI
      wp_walk
      subst ePI
      refine wpAny_pyIter_list hl1 ?_
      refine wpAny_bind (wpAny_runValue ?_)
      have lt := Heap.lt_size hol
      have z1 : (s.heap.push (newSet w)).objs.size = s.heap.objs.size + 1 := Heap.size_push ..
      have hlI : l ≠ (s.heap.push (newSet w)).objs.size := by
        rw [z1]
        exact Nat.ne_of_lt (Nat.lt_succ_of_lt lt)
      have out : s.heap.objs.size ∉ [(s.heap.push (newSet w)).objs.size, l] := by
        rw [z1]
        simp only [List.mem_cons, List.not_mem_nil, or_false, not_or]
        exact ⟨Nat.ne_of_lt (Nat.lt_succ_self _), Nat.ne_of_gt lt⟩
      refine fill_K ((Walks.list (show A.in1.in1.in1.handled = none by simp [hh]) _ l hlI items).toS) s.heap.objs.size out ks zi few (fun i v e => ?_) s.heap hk (none_at _ (Nat.le_refl _)) (fun b mb => none_at b ?_) (by simpa using (by omega : A.units + 3 + 8 < cLine)) (items.size - 0) 0 _ (by omega) (Nat.zero_le _)
        ⟨⟨_, Heap.get?_push_size _ rfl, rfl, rfl⟩, hl1.push _⟩ (fun b o e => Heap.get?_push_of_some _ (Heap.get?_push_of_some _ e)) ⟨[], #[], 0, _, setK_new (Heap.get?_push_of_some _ at1), ⟨fun _ m => (nomatch m), fun p m => (by simp at m), Nat.le_refl _⟩⟩ ?_
      · have e' : items.toList[i]? = some v := by rw [Array.getElem?_toList]; exact e
        rw [its, List.getElem?_map] at e'
        cases ep : ks[i]? with
        | none =>
          rw [ep] at e'
          cases e'
        | some p =>
          rw [ep] at e'
          cases e'
          exact ⟨p, rfl, rfl⟩
      · cases List.mem_singleton.mp mb
        rw [z1]
        exact Nat.le_succ _
      · intro s3 L es ep t mv R g k
        obtain ⟨h3, g3, d3, t3, o3⟩ := s3
        cases (show g3 = s.gens from mv.gens)
        cases (show d3 = s.drawn from mv.drawn)
        cases (show o3 = s.os from mv.os)
        refine wpAny_pure ?_
        show wpAny _ _ (ret Value.none) _ _ _
        rw [zi] at g
        exact wpAny_pure ⟨rfl, h3, t3, L, es, ep, t, rfl, R, g, k⟩
    · rcases r2 with r2 | fl2
      · exact hr2
      cases fl2 with
      | ret v2 =>
        obtain ⟨rfl, h', tk, L, es, ep, t, rfl, R, g, k⟩ := hr2
        repeat any_goals first | assumption | wp_step
        exact q _ _ _ _ _ _ R g k
      | _ => exact hr2.elim
  | _ => exact hr.elim
end
end Fb

set_option Elab.async false
set_option linter.all false
set_option maxRecDepth 100000
set_option maxHeartbeats 4000000
/-! sorted(set) of keys, and both as rules -/
namespace Fb
open PySem PySem.Spec L2
open PyProof.Rows hiding St
section
variable {P : Program} {w : World} {A : Around} {E : Value → Shared → Prop} {s : Shared}
theorem perm_lift {α β : Type} {f : α → β} : ∀ {vs ws : List β}, vs.Perm ws → ∀ L : List α, ws = L.map f → ∃ M : List α, M.Perm L ∧ vs = M.map f := by
  intro vs ws h
  induction h with
  | nil =>
    intro L e
    cases L with
    | nil => exact ⟨[], .refl _, rfl⟩
    | cons => cases e
  | cons x _ ih =>
    intro L e
    cases L with
    | nil => cases e
    | cons y L =>
      rw [List.map_cons] at e
      injection e with e1 e2
      obtain ⟨M, p, rfl⟩ := ih L e2
      exact ⟨y :: M, p.cons y, by rw [e1]; rfl⟩
  | swap x y l =>
    intro L e
    rcases L with _ | ⟨u, _ | ⟨v, L⟩⟩
    · cases e
    · cases e
    · rw [List.map_cons, List.map_cons] at e
      injection e with e1 e2
      injection e2 with e2 e3
      exact ⟨v :: u :: L, .swap .., by rw [e1, e2, e3]; rfl⟩
  | trans _ _ i1 i2 =>
    intro L e
    obtain ⟨M, p, e2⟩ := i2 L e
    obtain ⟨N, q, e3⟩ := i1 M e2
    exact ⟨N, q.trans p, e3⟩
theorem alike_of {ds es : List PyData} (h : PySem.W.AllAlike ds) (m : ∀ d ∈ es, d ∈ ds) : PySem.W.AllAlike es := fun d hd e he => h d (m d hd) e (m e he)
theorem sortable_of {ds es : List PyData} (h : PySem.W.Sortable ds) (m : ∀ d ∈ es, d ∈ ds) : PySem.W.Sortable es := h.imp (fun h d hd => h d (m d hd)) fun h d hd => h d (m d hd)
theorem each_map2 {α β γ : Type} {R : α → γ → Prop} (f : β → α) (g : β → γ) : ∀ {l : List β}, (∀ x ∈ l, R (f x) (g x)) → PySem.W.EachIs R (l.map f) (l.map g)
  | [], _ => .nil
  | x :: l, h => .cons (h x (List.mem_cons_self ..)) (each_map2 f g fun y m => h y (List.mem_cons_of_mem _ m))
theorem each_self {α β : Type} {R : α → β → Prop} (f : β → α) : ∀ {l : List β}, (∀ x ∈ l, R (f x) x) → PySem.W.EachIs R (l.map f) l
  | [], _ => .nil
  | x :: l, h => .cons (h x (List.mem_cons_self ..)) (each_self f fun y m => h y (List.mem_cons_of_mem _ m))
theorem each_is_map {α β : Type} (f : β → α) : ∀ {as : List α} {l : List β}, PySem.W.EachIs (fun a b => a = f b) as l → as = l.map f
  | _, _, .nil => rfl
  | _, _, .cons h t => by rw [h, each_is_map f t]; rfl
variable {a : Addr} {L : List Ent} {es : Array (Int × Value)} {ep : Nat} {t : SetTable}
abbrev sortK (enc : Ent → PyData) (L : List Ent) : List Ent := L.mergeSort (PySem.W.dataLe false enc)
theorem sorted_K {enc : Ent → PyData} {Q : Value → Shared → Prop} (R : SetK w s.heap a L es ep t) (hh : A.handled = none) (rd : ∀ p ∈ L, ∃ as, Reads s.heap (.ref p.1) (enc p) as) (al : PySem.W.AllAlike (L.map enc)) (so : PySem.W.Sortable (L.map enc)) (hu : ∀ p ∈ L, A.units + 2 + (enc p).depth < cLine)
    (q : ∀ s' l (M : List Ent) (c : Nat), (∀ b o, s.heap.get? b = some o → s'.heap.get? b = some o) → s'.gens = s.gens → s'.os = s.os → s.heap.objs.size ≤ l → M.Perm L → s'.heap.get? l = some (seqObj "list" ((sortK enc M).map fun p => Value.ref p.1).toArray c) → Q (.ref l) s') :
    wpAny (model P w) A (call (.builtin "sorted") [.ref a]) Q E s := by
  obtain ⟨o, ho, ex, hd⟩ := R.ob
  have z := rows_size R.rows
  have few := R.few
  refine PyProof.Rows.call_function_entry_kw kind_sorted plain_sorted entry_sorted (args_sorted1 _) ?_
  unfold Builtin.«sorted»
  refine wpAny_bind (m := checkCount "sorted" 1 1 _) (wpAny_pure ?_)
  refine wpAny_bind (collect_set (A := A.in1) hh ⟨o, ho, ex.1, hd⟩ R.fits (by unfold scanBound; omega) R.tab.ris R.led fun s1 vs k1 z1 g1 o1 pm => ?_)
  have ev : es.toList.map (·.2) = L.map fun p => Value.ref p.1 := by
    rw [R.rows, List.map_map]
    rfl
  rw [ev] at pm
  obtain ⟨M, pM, rfl⟩ := perm_lift pm L rfl
  have mM : ∀ p ∈ M, p ∈ L := fun p m => pM.mem_iff.mp m
  have lM : M.length < 64 := by rw [pM.length_eq]; exact few
  have sz : (M.map fun p => Value.ref p.1).length ≤ sizeLine := by
    rw [List.length_map, sizeLine_eq]
    omega
  generalize ev2 : (M.map fun p => Value.ref p.1) = vs at *
  refine wpAny_bind (wpAny_newList ?_ sz)
  have at1 : (s1.heap.push (seqObj "list" vs.toArray 0)).get? s1.heap.objs.size = some (seqObj "list" vs.toArray 0) := Heap.get?_push_size _ rfl
  have keep : ∀ b u, s.heap.get? b = some u → (PySem.W.sortingHeap (s1.heap.push (seqObj "list" vs.toArray 0)) s1.heap.objs.size vs).get? b = some u := fun b u e => by
    have e1 := k1 b u e
    exact PySem.W.sortingHeap_old (Nat.ne_of_lt (Heap.lt_size e1)) (Heap.get?_push_of_some _ e1)
  have mm : ∀ d ∈ M.map enc, d ∈ L.map enc := fun d m => by
    obtain ⟨p, mp, rfl⟩ := List.mem_map.mp m
    exact List.mem_map_of_mem (mM p mp)
  have rds : ∀ p ∈ M, ∃ as, Reads (PySem.W.sortingHeap (s1.heap.push (seqObj "list" vs.toArray 0)) s1.heap.objs.size vs) (.ref p.1) (enc p) as := fun p m => by
    obtain ⟨as, r⟩ := rd p (mM p m)
    exact ⟨as, PyProof.Rows.Reads.keeps keep r⟩
  have alM := alike_of al mm
  have e1 : PySem.W.EachIs (fun v d => ∃ as, Reads (PySem.W.sortingHeap (s1.heap.push (seqObj "list" vs.toArray 0)) s1.heap.objs.size vs) v d as) vs (M.map enc) := by
    have e := each_map2 (R := fun v d => ∃ as, Reads (PySem.W.sortingHeap (s1.heap.push (seqObj "list" vs.toArray 0)) s1.heap.objs.size vs) v d as) (fun p : Ent => Value.ref p.1) enc rds
    rwa [ev2] at e
  have e2 : PySem.W.EachIs (fun v p => ∃ as, Reads (PySem.W.sortingHeap (s1.heap.push (seqObj "list" vs.toArray 0)) s1.heap.objs.size vs) v (enc p) as) vs M := by
    have e := each_self (R := fun v p => ∃ as, Reads (PySem.W.sortingHeap (s1.heap.push (seqObj "list" vs.toArray 0)) s1.heap.objs.size vs) v (enc p) as) (fun p : Ent => Value.ref p.1) rds
    rwa [ev2] at e
  have e3 : PySem.W.EachIs (fun v (p : Ent) => v = Value.ref p.1) vs M := by
    have e := each_self (R := fun v p => v = Value.ref p.1) (fun p : Ent => Value.ref p.1) (l := M) fun _ _ => rfl
    rwa [ev2] at e
  refine wpAny_bind (wpAny_holding (PyProof.Rows.wpAny_call_entry_kw slot_list_sort ⟨_, at1, rfl⟩ entry_list_sort ?_ (args_list_sort _)))
  refine PySem.W.list_sort_vals (s := { s1 with heap := s1.heap.push (seqObj "list" vs.toArray 0) }) at1 (PySem.W.SortsAt.data (s := { s1 with heap := PySem.W.sortingHeap (s1.heap.push (seqObj "list" vs.toArray 0)) s1.heap.objs.size vs }) e1 alM (sortable_of so mm) fun d m => ?_) sz ⟨_, rfl, ?_⟩
  · obtain ⟨p, mp, rfl⟩ := List.mem_map.mp m
    exact hu p (mM p mp)
  · have out := PySem.W.sortVals_data (R := fun v (p : Ent) => v = Value.ref p.1) false e3 e2 alM
    obtain ⟨c, hc⟩ := sortedHeap_at (vs := vs) (out := ((sortK enc M).map fun p => Value.ref p.1).toArray) at1
    rw [each_is_map _ out]
    refine wpAny_pure ⟨_, rfl, q _ s1.heap.objs.size M c (fun b u e => ?_) g1 o1 z1 pM hc⟩
    have e' := k1 b u e
    have lt := Heap.lt_size e'
    refine (sortedHeap_old (Nat.ne_of_lt lt) ?_).trans (Heap.get?_push_of_some _ e')
    rw [size_push']
    exact Nat.lt_succ_of_lt lt

/-! ### as rules -/
/-- the tuple at p.1 is the key p.2 -/
def KeyO (K : PySem.W.Frag) (H : Hp) (p : Ent) : Prop := Dp K H (.ref p.1) p.2.data ∧ p.2.depth ≤ 8
mutual
theorem key_depth : ∀ k : NestedKey, k.data.depth = k.depth
  | .none => rfl
  | .num _ => rfl
  | .text _ => rfl
  | .tup ks => congrArg (· + 1) (keys_depth ks)
theorem keys_depth : ∀ ks : List NestedKey, PyData.depthAll (NestedKey.datas ks) = NestedKey.depthAll ks
  | [] => rfl
  | k :: ks => by
    rw [NestedKey.datas, PyData.depthAll, NestedKey.depthAll, key_depth k, keys_depth ks]
end
mutual
theorem key_is {X : Cx} {pins : List (Addr × Obj)} {σ : L2.St} {H : Hp} (I : Inv X pins σ H s) : ∀ (k : NestedKey) (v : V) (u : Value), Dp X.K H v k.data → RelV v u → NestedIs s.heap k u
  | .none, _, _, h, r => by
    cases h
    cases r
    exact .none
  | .num i, _, _, h, r => by
    cases h
    obtain ⟨t, rfl⟩ := r
    exact .int i t
  | .text x, _, _, h, r => by
    cases h
    obtain ⟨t, rfl⟩ := r
    exact .text x t
  | .tup ks, _, _, h, r => by
    rw [NestedKey.data] at h
    cases h with
    | tup hs ha =>
      cases r
      obtain ⟨its, rv, ⟨o, ho, hc, n, hd⟩, _⟩ := I.tuple hs
      exact .tup ho hc hd (keys_are I ks _ its ha rv)
theorem keys_are {X : Cx} {pins : List (Addr × Obj)} {σ : L2.St} {H : Hp} (I : Inv X pins σ H s) : ∀ (ks : List NestedKey) (vs : List V) (us : List Value), DpAll X.K H vs (NestedKey.datas ks) → Vals vs us → NestedAll s.heap ks us
  | [], _, _, h, r => by
    cases h
    cases r
    exact .nil
  | k :: ks, _, _, h, r => by
    rw [NestedKey.datas] at h
    cases h with
    | cons h1 h2 =>
      cases r with
      | cons r1 r2 => exact .cons (key_is I k _ _ h1 r1) (keys_are I ks _ _ h2 r2)
end
theorem KeyO.at {X : Cx} {pins : List (Addr × Obj)} {σ : L2.St} {H : Hp} {p : Ent} (h : KeyO X.K H p) (I : Inv X pins σ H s) : KeyE s.heap p := ⟨key_is I _ _ _ h.1 rfl, h.2⟩
theorem KeyO.same {K : PySem.W.Frag} {H H' : Hp} {p : Ent} (h : KeyO K H p) (e : Same H H') : KeyO K H' p := ⟨dp_mono e _ h.1, h.2⟩
/-- a set of keys -/
def SetKO (w : World) (a : Addr) (L : List Ent) : HO := .ext fun h => ∃ es ep t, SetK w h a L es ep t
theorem setKO_ok {H : Hp} {h : Heap} {a : Addr} {L : List Ent} {es : Array (Int × Value)} {ep : Nat} {t : SetTable} (R : SetK w h a L es ep t) : ObjOk P w H h a (SetKO w a L) := by
  obtain ⟨o, ho, _⟩ := R.ob
  exact ⟨⟨es, ep, t, R⟩, ⟨o, ho⟩, fun h1 h2 ⟨es', ep', t', R'⟩ k => ⟨es', ep', t', R'.move fun o' e => k o' e⟩⟩
def rSetK (K : PySem.W.Frag) (w : World) : List V → Hp → VK → Prop := fun vs H Q => ∃ (l : Addr) (ks : List Ent), vs = [V.ref l] ∧ SqL K H l (ks.map fun p => V.ref p.1) ∧ (∀ p ∈ ks, KeyO K H p) ∧ ks.length < 64 ∧
  ∀ a L, H a = none → (∀ p ∈ L, p ∈ ks) → (∀ p ∈ ks, p.2 ∈ L.map Prod.snd) → (L.map Prod.snd).Nodup → Q (.ref a) (upd H a (SetKO w a L))
theorem ent_refs : ∀ {ks : List Ent} {us : List Value}, Vals (ks.map fun p => V.ref p.1) us → us = ks.map fun p => Value.ref p.1
  | [], _, .nil => rfl
  | p :: ks, _, .cons r t => by
    cases r
    rw [ent_refs t]
    rfl
theorem refs_ent : ∀ ks : List Ent, Vals (ks.map fun p => V.ref p.1) (ks.map fun p => Value.ref p.1)
  | [] => .nil
  | p :: ks => .cons rfl (refs_ent ks)
theorem cr_setK {X : Cx} {K : PySem.W.Frag} (eK : X.K = K) (ew : X.w = w) (hc : X.calm = true) (hu : X.A.units + 64 < cLine) : CallR X (.type "set") (rSetK K w) := by
  rintro pins s σ H vs us Q I r ⟨l, ks, rfl, hl, hk, few, q⟩
  subst eK
  subst ew
  rw [Vals.ref1 r]
  obtain ⟨its, rv, pl, _⟩ := I.list hl
  have free : H s.heap.objs.size = none := I.hok.fresh (Nat.le_refl _)
  refine call_set_K (P := X.prog) (w := X.w) ks (I.ok.hd hc) pl.isList (ent_refs (by simpa using rv)) (fun p m => (hk p m).at I) few (by omega) fun h' tk L es ep t R g k => ?_
  refine ⟨.ref s.heap.objs.size, _, I.laid (t' := tk) k (Nat.le_refl _) (setKO_ok R), rfl, q _ L free (fun p m => List.mem_of_mem_take (g.1 p m)) (fun p m => g.2.1 p ?_) R.nd⟩
  rw [List.take_length]
  exact m
abbrev entD (p : Ent) : PyData := p.2.data
def rSortK (K : PySem.W.Frag) (w : World) : List V → Hp → VK → Prop := fun vs H Q => ∃ (a : Addr) (L : List Ent), vs = [V.ref a] ∧ H a = some (SetKO w a L) ∧ (∀ p ∈ L, KeyO K H p) ∧ PySem.W.AllAlike (L.map entD) ∧ PySem.W.Sortable (L.map entD) ∧
  ∀ (M : List Ent) (l : Addr), M.Perm L → H l = none → Q (.ref l) (upd H l (.lst ((sortK entD M).map fun p => V.ref p.1)))
theorem cr_sortK {X : Cx} {K : PySem.W.Frag} (eK : X.K = K) (ew : X.w = w) (hc : X.calm = true) (hu : X.A.units + 64 < cLine) : CallR X (.builtin "sorted") (rSortK K w) := by
  rintro pins s σ H vs us Q I r ⟨a, L, rfl, ha, hk, al, so, q⟩
  subst eK
  subst ew
  obtain ⟨es, ep, t, R⟩ := (I.hok a _ ha).1
  rw [Vals.ref1 r]
  refine sorted_K (enc := entD) R (I.ok.hd hc) (fun p m => Dp.reads I _ _ _ (hk p m).1 rfl) al so (fun p m => ?_) fun s' l M c k g o z pm at1 => ?_
  · have := (hk p m).2
    have e := key_depth p.2
    show _ + p.2.data.depth < _
    omega
  · have free : H l = none := I.hok.fresh z
    have len : ((sortK entD M).map fun p => V.ref p.1).length ≤ sizeLine := by
      have := R.few
      rw [List.length_map, List.length_mergeSort, pm.length_eq, sizeLine_eq]
      omega
    have J : Inv X pins σ (upd H l (.lst ((sortK entD M).map fun p => V.ref p.1))) { s with heap := s'.heap, gens := s'.gens, drawn := s'.drawn, toks := s'.toks } :=
      I.call (ch := []) (Un.laid k z free) (I.hok.laid k z ⟨len, _, c, refs_ent _, at1⟩) (by rw [g]; exact I.bare) fun _ m => nomatch m
    have e : s' = { s with heap := s'.heap, gens := s'.gens, drawn := s'.drawn, toks := s'.toks } := by
      cases s'
      cases s
      cases o
      rfl
    rw [e]
    exact ⟨.ref l, _, J, rfl, q M l pm free⟩
end
end Fb

set_option Elab.async false
set_option linter.all false
set_option maxRecDepth 100000
set_option maxHeartbeats 4000000
/-! rows of a price and a lot -/
namespace Fb
open PySem PySem.Spec L2
open PyProof.Rows hiding St
def cnt (z : Str) (l : List Str) : Nat := l.countP fun y => decide (y = z)
theorem room_cnt {k : Nat} {A : Around} (hr : Room k A) : A.units + 8 < cLine := by
  have := hr.units
  omega
theorem room_set2 {k : Nat} {A : Around} (hr : Room k A) : A.units + 64 < cLine := by
  have := hr.units
  omega
theorem dp_strs {K : PySem.W.Frag} {H : Hp} (l : List Str) : DpAll K H (l.map V.str) (l.map PyData.str) := dpAll_map fun _ _ => .str _
theorem strs_dp {K : PySem.W.Frag} {H : Hp} : ∀ {l : List Str} {vs : List V}, DpAll K H vs (l.map PyData.str) → vs = l.map V.str
  | [], _, h => by
    cases h
    rfl
  | z :: l, _, h => by
    rw [List.map_cons] at h
    cases h with
    | cons a b =>
      cases a
      rw [strs_dp b]
      rfl
theorem plain_strs : ∀ l : List Str, PyData.plainAll (l.map .str) = true
  | [] => rfl
  | z :: l => by
    rw [List.map_cons, PyData.plainAll, plain_strs l]
    rfl
theorem depth_strs : ∀ l : List Str, PyData.depthAll (l.map .str) = 0
  | [] => rfl
  | z :: l => by
    rw [List.map_cons, PyData.depthAll, depth_strs l]
    rfl
theorem cnt_eqv (z : Str) (l : List Str) : ((l.map PyData.str).countP fun y => PyData.eqv y (.str z)) = cnt z l := by
  rw [List.countP_map]
  refine List.countP_congr fun y _ => ?_
  show PyData.eqv (.str y) (.str z) = true ↔ _
  simp [PyData.eqv]
/-- t.count(x), a tuple of texts -/
theorem mt_countS {X : Cx} {K : PySem.W.Frag} (eK : X.K = K) (hu : X.A.units + 8 < cLine) : MtR X "tuple.count" (fun x vs H Q => ∃ (t : Addr) (l : List Str) (z : Str), x = .ref t ∧ vs = [.str z] ∧ SqT K H t (l.map V.str) ∧ Q (.int ((cnt z l : Nat) : Int)) H) := by
  rintro pins s σ H x vs v us Q I rx rv ⟨t, l, z, rfl, rfl, hs, q⟩
  subst eK
  cases rx
  obtain ⟨u, rfl, ru⟩ := rv.one
  obtain ⟨its, r, ht, _⟩ := I.tuple hs
  obtain ⟨as, rs⟩ := Dp.readsAll I _ _ its (dp_strs l) r
  obtain ⟨bs, rz⟩ := Dp.reads I (.str z) _ u (.str z) ru
  refine PySem.SeqAt.count_tuple_data ht (by simpa using rs) rz (plain_strs l) rfl ?_ ?_
  · rw [depth_strs]
    omega
  · rw [cnt_eqv]
    exact ⟨.int _, H, I.tok _, ⟨_, rfl⟩, q⟩
/-! ### tuples whose object is known -/
def FrzT (H : Hp) (a : Addr) (xs : List V) : Prop := ∃ o : Obj, H a = some (.frz o (.tup xs)) ∧ o.dict = none
theorem FrzT.sq {K : PySem.W.Frag} {H : Hp} {a : Addr} {xs : List V} (h : FrzT H a xs) : SqT K H a xs := by
  obtain ⟨o, h, _⟩ := h
  exact .inl (.inr ⟨o, h⟩)
theorem FrzT.mono {H H' : Hp} {a : Addr} {xs : List V} (h : FrzT H a xs) (e : Same H H') : FrzT H' a xs := by
  obtain ⟨o, h, d⟩ := h
  exact ⟨o, e _ _ h, d⟩
section
variable {X : Cx} {K : PySem.W.Frag}
/-- tuple(xs) of a list -/
def rTupF (K : PySem.W.Frag) : List V → Hp → VK → Prop := fun vs H Q => ∃ (p : Addr) (ys : List V), vs = [.ref p] ∧ SqL K H p ys ∧ ∀ (l : Addr) (o : HO), H l = none → (∀ H0 : Hp, FrzT (upd H0 l o) l ys) → Q (.ref l) (upd H l o)
theorem cr_tupF (eK : X.K = K) : CallR X (.type "tuple") (rTupF K) := by
  rintro pins s σ H vs us Q I r ⟨p, ys, rfl, hs, q⟩
  subst eK
  rw [Vals.ref1 r]
  obtain ⟨its, r', pl, hz⟩ := I.list hs
  have hlen := r'.length
  refine call_tuple_list pl.isList (fun h' kp => ?_) (by rw [List.size_toArray]; omega)
  have I1 : Inv X pins σ H { s with heap := h' } := I.kept (t' := s.toks) kp
  have at1 : (h'.push { cls := .type "tuple", data := .seq its.toArray }).get? h'.objs.size = some { cls := .type "tuple", data := .seq its.toArray } := Heap.get?_push_size _ rfl
  exact ⟨.ref h'.objs.size, _, I1.laid (t' := s.toks) (fun b o e => Heap.get?_push_of_some _ e) (Nat.le_refl _) (show ObjOk X.prog X.w _ _ _ (.frz _ (.tup ys)) from ⟨at1, hz, its, r', IsTup.new _ _⟩), rfl,
    q _ _ (I1.hok.fresh (Nat.le_refl _)) fun H0 => ⟨_, upd_same, rfl⟩⟩
variable {o e : Expr} {es : List Expr} {to : TE} {t : TA} {name : Str} {apos cpos : Pos} {id : String} {r : V → List V → Hp → VK → Prop}
def tTM (r : V → List V → Hp → VK → Prop) (to : TE) (t : TA) : TE := fun σ H Q => to σ H fun x H1 => (∃ a ys, x = .ref a ∧ FrzT H1 a ys) ∧ t σ H1 fun xs H2 => r x xs H2 Q
theorem pe_tm (slot : Slot "tuple" name id) (ty : typeOf (.builtin id) = pure (.type "method_descriptor")) (m : MtR X id r) (ho : PE X o to) (ha : PA X (e :: es) t) (hb : attributeBase o name X.env (eval o X.env) = eval o X.env := by rfl)
    (few : ((backTo cpos (starEach (e :: es) X.env)).all (fun x => !x.1) && (backToKw cpos (keywordEach [] X.env)).all (fun x => x.1.isSome) && decide ((e :: es).length + ([] : List Keyword).length + (if ([] : List Keyword).isEmpty then 0 else 1) < 30)) = true := by rfl)
    (line : (apos.endLine == cpos.line) = true := by rfl) (st : starEach (e :: es) X.env = (false, eval e X.env) :: starEach es X.env := by rfl) (pl : (backTo cpos (starEach es X.env)).any (·.1) = false := by rfl) : PE X (.Call (.Attribute o name apos) (e :: es) [] cpos) (tTM r to t) := by
  refine ⟨fun pins s σ H Q I h => wpAny_Call_method_late hb few line rfl (thn (ho.run pins s σ H _ I h) ?_)⟩
  rintro v s1 ⟨x, H1, I1, r1, ⟨a, ys, rfl, ob, hx, hd⟩, q⟩
  cases r1
  obtain ⟨e1, _, its, rv, o2, e2, c2, _⟩ := (show ObjOk X.prog X.w H1 s1.heap a (.frz ob (.tup ys)) from I1.hok a _ hx)
  refine ⟨"tuple", id, PySem.F.plainAttrs_tuple, slot, ty, ⟨o2, e2, c2⟩, fun b z => ?_, ?_⟩
  · cases z
    exact ⟨ob, e1, hd⟩
  · have hA := ha.run cpos pins s1 σ H1 _ I1 q
    rw [st] at hA ⊢
    refine Calls.callWith_builtin ?_ (Calls.evalArgs_plain (thn hA fun us s2 ⟨vs, H2, I2, r2, q2⟩ => m pins s2 σ H2 (.ref a) vs _ us Q I2 rfl r2 q2))
    show (false || (backTo cpos (starEach es X.env)).any (·.1)) = false
    rw [pl]
    rfl
end
/-! ### the rows -/
abbrev OpR := Int × List Str
def lotD (l : List Str) : PyData := .tuple (l.map .str)
def openD (r : OpR) : PyData := .tuple [.int r.1, lotD r.2]
def OpenV (K : PySem.W.Frag) (H : Hp) (v : V) (r : OpR) : Prop := ∃ t u, v = .ref t ∧ SqT K H t [.int r.1, .ref u] ∧ SqT K H u (r.2.map V.str)
theorem OpenV.dp {K : PySem.W.Frag} {H : Hp} {v : V} {r : OpR} (h : OpenV K H v r) : Dp K H v (openD r) := by
  obtain ⟨t, u, rfl, h1, h2⟩ := h
  exact .tup h1 (.cons (.int _) (.cons (.tup h2 (dp_strs _)) .nil))
theorem open_of {K : PySem.W.Frag} {H : Hp} {v : V} {r : OpR} (h : Dp K H v (openD r)) : OpenV K H v r := by
  obtain ⟨p, l⟩ := r
  unfold openD lotD at h
  cases h with
  | tup hs ha =>
    cases ha with
    | cons a b =>
      cases b with
      | cons c d =>
        cases a
        cases d
        cases c with
        | tup hs2 ha2 =>
          cases strs_dp ha2
          exact ⟨_, _, rfl, hs, hs2⟩
theorem OpenV.mono {K : PySem.W.Frag} {H H' : Hp} {v : V} {r : OpR} (h : OpenV K H v r) (e : Same H H') : OpenV K H' v r := by
  obtain ⟨t, u, rfl, h1, h2⟩ := h
  exact ⟨t, u, rfl, same_tup e h1, same_tup e h2⟩
/-- the same, the lot's object known -/
def RowV (K : PySem.W.Frag) (H : Hp) (v : V) (r : OpR) : Prop := ∃ t u, v = .ref t ∧ SqT K H t [.int r.1, .ref u] ∧ FrzT H u (r.2.map V.str)
theorem RowV.op {K : PySem.W.Frag} {H : Hp} {v : V} {r : OpR} (h : RowV K H v r) : OpenV K H v r := by
  obtain ⟨t, u, rfl, h1, h2⟩ := h
  exact ⟨t, u, rfl, h1, h2.sq⟩
theorem RowV.mono {K : PySem.W.Frag} {H H' : Hp} {v : V} {r : OpR} (h : RowV K H v r) (e : Same H H') : RowV K H' v r := by
  obtain ⟨t, u, rfl, h1, h2⟩ := h
  exact ⟨t, u, rfl, same_tup e h1, h2.mono e⟩
def covM (a b : OpR) : Bool := decide (a.1 ≤ b.1) && a.2.all fun n => decide (cnt n a.2 ≤ cnt n b.2)
theorem str_get {l : List Str} {i : Nat} {x : V} (h : (l.map V.str)[i]? = some x) : ∃ z, l[i]? = some z ∧ x = .str z := by
  rw [List.getElem?_map] at h
  cases e : l[i]? with
  | none =>
    rw [e] at h
    cases h
  | some z =>
    rw [e] at h
    cases h
    exact ⟨z, rfl, rfl⟩
end Fb
namespace Fb
open PySem PySem.Spec L2
open PyProof.Rows hiding St
/-- values that are rows -/
inductive RowsO (K : PySem.W.Frag) (H : Hp) : List V → List OpR → Prop
  | nil : RowsO K H [] []
  | cons {v : V} {r : OpR} {vs : List V} {rs : List OpR} : RowV K H v r → RowsO K H vs rs → RowsO K H (v :: vs) (r :: rs)
theorem RowsO.len {K : PySem.W.Frag} {H : Hp} : ∀ {vs : List V} {rs : List OpR}, RowsO K H vs rs → vs.length = rs.length
  | _, _, .nil => rfl
  | _, _, .cons _ t => congrArg Nat.succ t.len
theorem RowsO.mono {K : PySem.W.Frag} {H H' : Hp} (e : Same H H') : ∀ {vs : List V} {rs : List OpR}, RowsO K H vs rs → RowsO K H' vs rs
  | _, _, .nil => .nil
  | _, _, .cons a t => .cons (a.mono e) (t.mono e)
theorem RowsO.get {K : PySem.W.Frag} {H : Hp} : ∀ {vs : List V} {rs : List OpR}, RowsO K H vs rs → ∀ {i : Nat} {v : V}, vs[i]? = some v → ∃ r, rs[i]? = some r ∧ RowV K H v r
  | _, _, .nil, _, _, h => by cases h
  | _, _, .cons a t, 0, _, h => by
    cases h
    exact ⟨_, rfl, a⟩
  | _, _, .cons a t, i + 1, v, h => t.get (i := i) h
theorem RowsO.snoc {K : PySem.W.Frag} {H : Hp} : ∀ {vs : List V} {rs : List OpR} {v : V} {r : OpR}, RowsO K H vs rs → RowV K H v r → RowsO K H (vs ++ [v]) (rs ++ [r])
  | _, _, _, _, .nil, h => .cons h .nil
  | _, _, _, _, .cons a t, h => .cons a (t.snoc h)
end Fb
namespace Fb
open PySem PySem.Spec L2
open PyProof.Rows hiding St
theorem FrzT.upd {H : Hp} {q a : Addr} {ys xs : List V} {o : HO} (hq : H q = some (.lst ys)) (h : FrzT H a xs) : FrzT (upd H q o) a xs := by
  obtain ⟨ob, h, d⟩ := h
  refine ⟨ob, ?_, d⟩
  rw [upd_ne fun e => by
    rw [e, hq] at h
    cases h]
  exact h
theorem RowV.upd {K : PySem.W.Frag} {H : Hp} {q : Addr} {ys : List V} {o : HO} {v : V} {r : OpR} (hq : H q = some (.lst ys)) (h : RowV K H v r) : RowV K (upd H q o) v r := by
  obtain ⟨t, u, rfl, h1, h2⟩ := h
  exact ⟨t, u, rfl, sqt_upd hq h1, h2.upd hq⟩
theorem RowsO.upd {K : PySem.W.Frag} {H : Hp} {q : Addr} {ys : List V} {o : HO} (hq : H q = some (.lst ys)) : ∀ {vs : List V} {rs : List OpR}, RowsO K H vs rs → RowsO K (upd H q o) vs rs
  | _, _, .nil => .nil
  | _, _, .cons a t => .cons (a.upd hq) (t.upd hq)
theorem rowsO_of {K : PySem.W.Frag} {H : Hp} : ∀ {ps : List (V × OpR)}, (∀ p ∈ ps, RowV K H p.1 p.2) → RowsO K H (ps.map Prod.fst) (ps.map Prod.snd)
  | [], _ => .nil
  | p :: ps, h => .cons (h p (List.mem_cons_self ..)) (rowsO_of fun q m => h q (List.mem_cons_of_mem _ m))
theorem rowsO_pairs {K : PySem.W.Frag} {H : Hp} : ∀ {vs : List V} {rs : List OpR}, RowsO K H vs rs → ∃ ps : List (V × OpR), vs = ps.map Prod.fst ∧ rs = ps.map Prod.snd ∧ ∀ p ∈ ps, RowV K H p.1 p.2
  | _, _, .nil => ⟨[], rfl, rfl, fun p m => nomatch m⟩
  | _, _, .cons (v := v) (r := r) a t => by
    obtain ⟨ps, rfl, rfl, h⟩ := rowsO_pairs t
    refine ⟨(v, r) :: ps, rfl, rfl, fun p m => ?_⟩
    rcases List.mem_cons.mp m with rfl | m
    · exact a
    · exact h p m
/-! ### sorting -/
def strLe : Str → Str → Bool := PySem.W.dataLe false PyData.str
def sortL (l : List Str) : List Str := l.mergeSort strLe
abbrev strZ (l : List Str) : List (V × PyData) := l.map fun z => (V.str z, PyData.str z)
theorem strZ_fst (l : List Str) : (strZ l).map Prod.fst = l.map V.str := by
  rw [List.map_map]
  rfl
theorem sort_strs (l : List Str) : (sortD (strZ l)).map Prod.fst = (sortL l).map V.str := by
  have h : (l.mergeSort strLe).map (fun z => (V.str z, PyData.str z)) = (strZ l).mergeSort (PySem.W.dataLe false Prod.snd) := List.map_mergeSort fun a _ b _ => rfl
  rw [sortD, ← h, List.map_map]
  rfl
theorem alike_strs : ∀ l m : List Str, PySem.W.alikeAll (l.map .str) (m.map .str) = true
  | [], _ => by simp [PySem.W.alikeAll]
  | _ :: _, [] => by simp [PySem.W.alikeAll]
  | x :: l, y :: m => by
    show PySem.W.alikeAll (.str x :: l.map .str) (.str y :: m.map .str) = true
    rw [PySem.W.alikeAll, alike_strs l m]
    simp [PySem.W.alike]
theorem strZ_ok {K : PySem.W.Frag} {H : Hp} (l : List Str) : (∀ z ∈ strZ l, Dp K H z.1 z.2 ∧ z.2.depth ≤ 60) ∧ PySem.W.AllAlike ((strZ l).map Prod.snd) ∧ PySem.W.Sortable ((strZ l).map Prod.snd) := by
  refine ⟨fun z m => ?_, fun d hd e he => ?_, .inr fun d hd => ?_⟩
  · obtain ⟨x, _, rfl⟩ := List.mem_map.mp m
    exact ⟨.str x, Nat.zero_le _⟩
  · rw [List.map_map] at hd he
    obtain ⟨x, _, rfl⟩ := List.mem_map.mp hd
    obtain ⟨y, _, rfl⟩ := List.mem_map.mp he
    simp [PySem.W.alike]
  · rw [List.map_map] at hd
    obtain ⟨x, _, rfl⟩ := List.mem_map.mp hd
    exact ⟨(fun e => nomatch e), fun xs e => nomatch e⟩
theorem sort_pairs {α : Type} (enc : α → PyData) (ps : List (V × α)) : ∃ qs : List (V × α), qs.Perm ps ∧ (sortD (ps.map fun p => (p.1, enc p.2))).map Prod.fst = qs.map Prod.fst ∧ qs.map Prod.snd = (ps.map Prod.snd).mergeSort (PySem.W.dataLe false enc) := by
  refine ⟨ps.mergeSort fun p q => PySem.W.dataLe false enc p.2 q.2, List.mergeSort_perm .., ?_, List.map_mergeSort fun a _ b _ => rfl⟩
  have h : (ps.mergeSort fun p q => PySem.W.dataLe false enc p.2 q.2).map (fun p => (p.1, enc p.2)) = (ps.map fun p => (p.1, enc p.2)).mergeSort (PySem.W.dataLe false Prod.snd) := List.map_mergeSort fun a _ b _ => rfl
  rw [sortD, ← h, List.map_map]
  rfl
/-! ### the program's thinning -/
def canon (r : OpR) : OpR := (r.1, sortL r.2)
def sizD (r : OpR) : PyData := .tuple [.int r.1, .int r.2.length, lotD r.2]
def sizLe : OpR → OpR → Bool := PySem.W.dataLe false sizD
def opLe : OpR → OpR → Bool := PySem.W.dataLe false openD
def opS (k : List OpR) (r : OpR) : List OpR := if (k.any fun o => covM o r) = true then k else k ++ [r]
def opnM (rs : List OpR) : List OpR := ((rs.map canon).mergeSort sizLe).foldl opS []
def outM (rs : List OpR) : List OpR := (opnM rs).mergeSort opLe
theorem opS_t {k : List OpR} {r : OpR} (h : (k.any fun o => covM o r) = true) : opS k r = k := if_pos h
theorem opS_f {k : List OpR} {r : OpR} (h : (k.any fun o => covM o r) = false) : opS k r = k ++ [r] := if_neg (by rw [h]; exact Bool.false_ne_true)
theorem opS_sub : ∀ (l k : List OpR), ∀ r ∈ l.foldl opS k, r ∈ k ∨ r ∈ l
  | [], _, _, h => .inl h
  | x :: l, k, r, h => by
    rw [List.foldl_cons] at h
    rcases opS_sub l _ r h with h | h
    · cases c : k.any fun o => covM o x with
      | true =>
        rw [opS_t c] at h
        exact .inl h
      | false =>
        rw [opS_f c] at h
        rcases List.mem_append.mp h with h | h
        · exact .inl h
        · rw [List.mem_singleton.mp h]
          exact .inr (List.mem_cons_self ..)
    · exact .inr (List.mem_cons_of_mem _ h)
theorem opS_len : ∀ (l k : List OpR), (l.foldl opS k).length ≤ k.length + l.length
  | [], _ => Nat.le_refl _
  | x :: l, k => by
    rw [List.foldl_cons]
    refine Nat.le_trans (opS_len l _) ?_
    have : (opS k x).length ≤ k.length + 1 := by
      unfold opS
      split
      · omega
      · rw [List.length_append]
        exact Nat.le_refl _
    rw [List.length_cons]
    omega
/-- a sized row -/
def SizV (K : PySem.W.Frag) (H : Hp) (v : V) (r : OpR) : Prop := ∃ t u, v = .ref t ∧ SqT K H t [.int r.1, .int r.2.length, .ref u] ∧ FrzT H u (r.2.map V.str)
theorem SizV.mono {K : PySem.W.Frag} {H H' : Hp} {v : V} {r : OpR} (h : SizV K H v r) (e : Same H H') : SizV K H' v r := by
  obtain ⟨t, u, rfl, h1, h2⟩ := h
  exact ⟨t, u, rfl, same_tup e h1, h2.mono e⟩
theorem SizV.upd {K : PySem.W.Frag} {H : Hp} {q : Addr} {ys : List V} {o : HO} {v : V} {r : OpR} (hq : H q = some (.lst ys)) (h : SizV K H v r) : SizV K (upd H q o) v r := by
  obtain ⟨t, u, rfl, h1, h2⟩ := h
  exact ⟨t, u, rfl, sqt_upd hq h1, h2.upd hq⟩
theorem SizV.dp {K : PySem.W.Frag} {H : Hp} {v : V} {r : OpR} (h : SizV K H v r) : Dp K H v (sizD r) := by
  obtain ⟨t, u, rfl, h1, h2⟩ := h
  exact .tup h1 (.cons (.int _) (.cons (.int _) (.cons (.tup h2.sq (dp_strs _)) .nil)))
theorem depth_lot (l : List Str) : (lotD l).depth = 1 := by
  show PyData.depthAll _ + 1 = 1
  rw [depth_strs]
theorem siz_ok {K : PySem.W.Frag} {H : Hp} {ps : List (V × OpR)} (h : ∀ p ∈ ps, SizV K H p.1 p.2) : (∀ z ∈ ps.map fun p => (p.1, sizD p.2), Dp K H z.1 z.2 ∧ z.2.depth ≤ 60) ∧ PySem.W.AllAlike ((ps.map fun p => (p.1, sizD p.2)).map Prod.snd) ∧ PySem.W.Sortable ((ps.map fun p => (p.1, sizD p.2)).map Prod.snd) := by
  refine ⟨fun z m => ?_, fun d hd e he => ?_, .inl fun d hd => ?_⟩
  · obtain ⟨p, mp, rfl⟩ := List.mem_map.mp m
    refine ⟨(h p mp).dp, ?_⟩
    have := depth_lot p.2.2
    simp only [sizD, PyData.depth, PyData.depthAll] at *
    omega
  · rw [List.map_map] at hd he
    obtain ⟨x, _, rfl⟩ := List.mem_map.mp hd
    obtain ⟨y, _, rfl⟩ := List.mem_map.mp he
    simp [sizD, lotD, PySem.W.alike, PySem.W.alikeAll, alike_strs]
  · rw [List.map_map] at hd
    obtain ⟨x, _, rfl⟩ := List.mem_map.mp hd
    exact ⟨_, _, rfl⟩
theorem op_ok {K : PySem.W.Frag} {H : Hp} {ps : List (V × OpR)} (h : ∀ p ∈ ps, RowV K H p.1 p.2) : (∀ z ∈ ps.map fun p => (p.1, openD p.2), Dp K H z.1 z.2 ∧ z.2.depth ≤ 60) ∧ PySem.W.AllAlike ((ps.map fun p => (p.1, openD p.2)).map Prod.snd) ∧ PySem.W.Sortable ((ps.map fun p => (p.1, openD p.2)).map Prod.snd) := by
  refine ⟨fun z m => ?_, fun d hd e he => ?_, .inl fun d hd => ?_⟩
  · obtain ⟨p, mp, rfl⟩ := List.mem_map.mp m
    refine ⟨(h p mp).op.dp, ?_⟩
    have := depth_lot p.2.2
    simp only [openD, PyData.depth, PyData.depthAll] at *
    omega
  · rw [List.map_map] at hd he
    obtain ⟨x, _, rfl⟩ := List.mem_map.mp hd
    obtain ⟨y, _, rfl⟩ := List.mem_map.mp he
    simp [openD, lotD, PySem.W.alike, PySem.W.alikeAll, alike_strs]
  · rw [List.map_map] at hd
    obtain ⟨x, _, rfl⟩ := List.mem_map.mp hd
    exact ⟨_, _, rfl⟩
theorem pairs_fst {α : Type} (f : α → PyData) (ps : List (V × α)) : (ps.map fun p => (p.1, f p.2)).map Prod.fst = ps.map Prod.fst := by
  rw [List.map_map]
  rfl
theorem fst_rows {R : V → OpR → Prop} {rs : List OpR} {xs : List V} (len : xs.length = rs.length) (h : ∀ (i : Nat) (v : V), xs[i]? = some v → ∃ r, rs[i]? = some r ∧ R v r) : ∃ ps : List (V × OpR), xs = ps.map Prod.fst ∧ rs = ps.map Prod.snd ∧ ∀ p ∈ ps, R p.1 p.2 := by
  refine ⟨xs.zip rs, (List.map_fst_zip (by omega)).symm, (List.map_snd_zip (by omega)).symm, fun p m => ?_⟩
  obtain ⟨i, e⟩ := List.getElem?_of_mem m
  obtain ⟨g1, g2⟩ := List.getElem?_zip_eq_some.mp e
  obtain ⟨r, k1, k2⟩ := h i _ g1
  rw [g2] at k1
  cases k1
  exact k2
end Fb
namespace Fb
open PySem PySem.Spec L2
open PyProof.Rows hiding St
theorem sortD_K {X : Cx} {K : PySem.W.Frag} (eK : X.K = K) {k : Nat} (hr : Room k X.A) : CallR X (.builtin "sorted") (rSortD K) := eK ▸ cr_sortD hr
end Fb
namespace Fb
theorem cut_perm {α : Type} : ∀ {l : List α} {j : Nat} (h : j < l.length), ([l[j]] ++ l.eraseIdx j).Perm l
  | a :: l, 0, _ => .refl _
  | a :: l, j + 1, h => by
    have h' : j < l.length := Nat.lt_of_succ_lt_succ h
    show (l[j] :: a :: l.eraseIdx j).Perm (a :: l)
    exact (List.Perm.swap _ _ _).trans (List.Perm.cons a (cut_perm h'))
end Fb
namespace Fb
open PySem PySem.Spec L2
open PyProof.Rows hiding St
/-! ### a class whose __init__ takes what is left over -/
structure MakS (P : Program) (w : World) (K : PySem.W.Frag) (mg : Str → Option Value) (base : Heap) (k : Nat) (x : Str) (C : Addr) (sp : Sp) : Prop where
  ex : ∃ f, Mk K C f ∧ FnR P w K mg base C8.CX0 k f sp ∧ mg x = some (.ref C)
/-- the promise: what is passed is a new tuple -/
def spRest (sp : Sp) : Sp := fun vs H Q E => ∃ ws rest, vs = ws ++ rest ∧ ws.length = (["self"] : List Str).length ∧ rest.length ≤ sizeLine ∧ ∀ p, H p = none → sp (ws ++ [V.ref p]) (upd H p (.tup rest)) Q E
theorem mkS_of {P : Program} {w : World} {K : PySem.W.Frag} {mg : Str → Option Value} {base : Heap} {k : Nat} {x qual pv : Str} {C f : Addr} {st : Stmt} {fd : FuncData} {N : List Str} {sp : Sp} (M : Mk K C f) (hm : mg x = some (.ref C)) (F : C8.Fun K "__init__" qual st f fd) (df : fd.defaults = .none)
    (hb : ∀ (kV doc pm cdv ct : Value) (an : Option Addr) (us rest : List Value), us.length = (["self"] : List Str).length → bindArgs (PySem.W.fnOf "__init__" qual (C8.fnArgs st) (C8.fnBody st) (C8.fnScope st) .none kV doc pm an cdv ct) ⟨us ++ rest, []⟩ = (newTuple rest >>= fun t => pure ((["self"] : List Str).zip us ++ [(pv, t)])))
    (S : FnScope N ((["self"] : List Str) ++ [pv]) (C8.fnScope st))
    (body : ∀ (cdv : Value) (A : Around) (outer : List Env) (s : Shared) (H : Hp) (vs : List V) (Q : VK) (E : XK), Room k (A.deeper (envOfC qual (C8.fnScope st) s.heap.objs.size f cdv)) → sp vs H Q E →
      ∃ t, PSs (cxOf C8.CX0 P w K mg base N qual (C8.fnScope st) f cdv A outer s H E).nox (C8.fnBody st) t ∧ t { nx := fun _ H' => Q .non H', rt := Q } (start N vs) H) : MakS P w K mg base (k + 1) x C (spRest sp) := by
  obtain ⟨oc, od, dV, kV, doc, pm, an, cdv, ct, osl, rfl, lk, hcd⟩ := F.ex
  cases (show dV = .none from df)
  refine ⟨f, M, StX.fn_star lk hcd S StX.cxUp_none (fun us rest h => hb _ _ _ _ _ _ us rest h) fun A outer s H vs Q E hr hsp => ?_, hm⟩
  obtain ⟨t, h, q⟩ := body cdv A outer s H vs Q E hr hsp
  exact ⟨t, h.nox, q⟩
theorem pe_mkS {X : Cx} {k j : Nat} {x : Str} {C : Addr} {sp : Sp} {e : Expr} {es : List Expr} {t : TA} {p pos : Pos} (c : MakS X.prog X.w X.K X.mg X.base k x C sp) (hr : Room j X.A) (hk : k + 1 ≤ j) (hg : Gl X x) (ha : PA X (e :: es) t) (hdb : (x == ("__debug__" : Str)) = false := by decide)
    (he : starEach (e :: es) X.env = (false, eval e X.env) :: starEach es X.env := by rfl) (hpl : (backTo pos (starEach es X.env)).any (·.1) = false := by rfl) : PE X (.Call (.Name x p) (e :: es) [] pos) (StX.tMakeR C sp C8.E0 t) := by
  obtain ⟨f, M, F, hm⟩ := c.ex
  exact StX.pe_makeR M F (hr.mono hk) hg hm C8.pass0 ha hdb he hpl
theorem op_repT_K {X : Cx} {K : PySem.W.Frag} (e : X.K = K) : L2.OpR X (binaryOp .Mult) (rRepT K) := e ▸ op_repT
end Fb
namespace Fb
open PySem PySem.Spec L2
theorem two_no {a b m : Str} {x y : V} (h1 : ¬ m = a) (h2 : ¬ m = b) : (putF a x (putF b y [])).lookup m = none := by
  rw [lookup_putF, if_neg h1, lookup_putF, if_neg h2]
  rfl
end Fb
namespace Fb
open PySem PySem.Spec L2
theorem OpenV.upd {K : PySem.W.Frag} {H : Hp} {q : Addr} {ys : List V} {o : HO} {v : V} {r : OpR} (hq : H q = some (.lst ys)) (h : OpenV K H v r) : OpenV K (upd H q o) v r := by
  obtain ⟨t, u, rfl, h1, h2⟩ := h
  exact ⟨t, u, rfl, sqt_upd hq h1, sqt_upd hq h2⟩
theorem map_ins {α β : Type} (f : α → β) (l : List α) (i : Nat) (x : α) : (l.map f).take i ++ [f x] ++ (l.map f).drop i = (l.take i ++ [x] ++ l.drop i).map f := by
  rw [List.map_append, List.map_append, List.map_take, List.map_drop]
  rfl
theorem mem_ins3 {α : Type} {l : List α} {i : Nat} {x y : α} (h : y ∈ l.take i ++ [x] ++ l.drop i) : y = x ∨ y ∈ l := by
  rcases List.mem_append.mp h with h | h
  · rcases List.mem_append.mp h with h | h
    · exact .inr (List.mem_of_mem_take h)
    · exact .inl (List.mem_singleton.mp h)
  · exact .inr (List.mem_of_mem_drop h)
theorem len_ins3 {α : Type} (l : List α) (i : Nat) (x : α) : (l.take i ++ [x] ++ l.drop i).length = l.length + 1 := by
  rw [List.length_append, List.length_append, List.length_take, List.length_drop, List.length_singleton]
  omega
end Fb
namespace Fb
open PySem PySem.Spec L2
theorem op_catA_K {X : Cx} {K : PySem.W.Frag} (e : X.K = K) : L2.OpR X (binaryOp .Add) (rCatA K) := e ▸ op_catA
theorem slA_K {X : Cx} {K : PySem.W.Frag} (e : X.K = K) : SlR X (rSlA K) := e ▸ sl_tupA
theorem cat_any {K : PySem.W.Frag} {H : Hp} {a b : Addr} {xs ys : List V} {Q : VK} (s1 : SqT K H a xs) (s2 : SqT K H b ys) (z : xs.length + ys.length ≤ 1000) (q : ∀ H' c, Same H H' → SqT K H' c (xs ++ ys) → Q (.ref c) H') : rCatA K (.ref a) (.ref b) H Q := by
  refine ⟨a, b, xs, ys, rfl, rfl, s1, s2, size5' (by omega), fun e => ?_, fun _ e => ?_, fun _ _ p np => q _ p (grow np) (SqT.of upd_same)⟩
  · subst e
    exact q H b (Same.refl _) s2
  · subst e
    exact q H a (Same.refl _) (by rw [List.append_nil]; exact s1)
theorem slice_any {K : PySem.W.Frag} {H : Hp} {a : Addr} {xs : List V} {lo hi : Option Int} {Q : VK} (s : SqT K H a xs) (w : HT.sIx xs.length 0 lo = 0 ∧ HT.sIx xs.length xs.length hi = xs.length → cutV xs lo hi = xs) (q : ∀ H' c, Same H H' → SqT K H' c (cutV xs lo hi) → Q (.ref c) H') : rSlA K (.ref a) lo hi H Q :=
  ⟨a, xs, rfl, s, fun e => q H a (Same.refl _) (by rw [w e]; exact s), fun _ p np => q _ p (grow np) (SqT.of upd_same)⟩
theorem cut_whole {xs : List V} {lo hi : Option Int} (e : HT.sIx xs.length 0 lo = 0 ∧ HT.sIx xs.length xs.length hi = xs.length) : cutV xs lo hi = xs := by
  unfold cutV
  rw [e.1, e.2, List.drop_zero, Nat.sub_zero, List.take_length]
theorem cut_low {xs : List V} {n : Nat} (h : n ≤ xs.length) : cutV xs none (some (n : Int)) = xs.take n := by
  unfold cutV
  rw [HT.sIx_nat, HT.sIx_none, List.drop_zero, Nat.min_eq_left h, Nat.sub_zero]
theorem cut_high {xs : List V} {n : Nat} (h : n ≤ xs.length) : cutV xs (some (n : Int)) none = xs.drop n := by
  unfold cutV
  rw [HT.sIx_nat, HT.sIx_none, Nat.min_eq_left h]
  exact List.take_of_length_le (by rw [List.length_drop]; exact Nat.le_refl _)
end Fb
namespace Fb
open PySem PySem.Spec L2
def RowN (K : PySem.W.Frag) (n : Nat) (H : Hp) (v : V) : Prop := ∃ l, TupI K H v l ∧ l.length = n
theorem RowN.mono {K : PySem.W.Frag} {n : Nat} {H H' : Hp} {v : V} (h : RowN K n H v) (e : Same H H') : RowN K n H' v := by
  obtain ⟨l, h, z⟩ := h
  exact ⟨l, h.mono e, z⟩
theorem RowN.upd {K : PySem.W.Frag} {n : Nat} {H : Hp} {q : Addr} {ys : List V} {o : HO} {v : V} (hq : H q = some (.lst ys)) (h : RowN K n H v) : RowN K n (upd H q o) v := by
  obtain ⟨l, h, z⟩ := h
  exact ⟨l, tupI_upd hq h, z⟩
theorem rows_n {K : PySem.W.Frag} {n : Nat} {H : Hp} : ∀ {xs : List V}, (∀ v ∈ xs, RowN K n H v) → ∃ ls : List (List Int), RowsV K H xs ls ∧ ∀ l ∈ ls, l.length = n
  | [], _ => ⟨[], .nil, fun l m => nomatch m⟩
  | v :: xs, h => by
    obtain ⟨l, h1, h2⟩ := h v (List.mem_cons_self ..)
    obtain ⟨ls, r, hl⟩ := rows_n (xs := xs) fun u m => h u (List.mem_cons_of_mem _ m)
    refine ⟨l :: ls, .cons h1.dp r, fun k m => ?_⟩
    rcases List.mem_cons.mp m with rfl | m
    · exact h2
    · exact hl k m
end Fb

set_option Elab.async false
set_option linter.all false
set_option maxRecDepth 100000
set_option maxHeartbeats 4000000
/-! thinning: what is left are the rows that no other one is above -/
namespace Fb
open PySem PySem.Spec
/-- a sorted list has one form -/
theorem sorted_one {α : Type} {R : α → α → Prop} : ∀ {l m : List α}, (∀ a ∈ l, ∀ b ∈ l, R a b → R b a → a = b) → l.Pairwise R → m.Pairwise R → l.Nodup → m.Nodup → (∀ x, x ∈ l ↔ x ∈ m) → l = m
  | [], [], _, _, _, _, _, _ => rfl
  | [], b :: m, _, _, _, _, _, h => nomatch (h b).mpr (List.mem_cons_self ..)
  | a :: l, [], _, _, _, _, _, h => nomatch (h a).mp (List.mem_cons_self ..)
  | a :: l, b :: m, anti, p, q, n1, n2, h => by
    obtain ⟨p1, p2⟩ := List.pairwise_cons.mp p
    obtain ⟨q1, q2⟩ := List.pairwise_cons.mp q
    obtain ⟨k1, k2⟩ := List.nodup_cons.mp n1
    obtain ⟨j1, j2⟩ := List.nodup_cons.mp n2
    have e : a = b := by
      rcases List.mem_cons.mp ((h a).mp (List.mem_cons_self ..)) with e | m1
      · exact e
      rcases List.mem_cons.mp ((h b).mpr (List.mem_cons_self ..)) with e | m2
      · exact e.symm
      exact anti a (List.mem_cons_self ..) b (List.mem_cons_of_mem _ m2) (p1 b m2) (q1 a m1)
    subst e
    congr 1
    refine sorted_one (fun x hx y hy => anti x (List.mem_cons_of_mem _ hx) y (List.mem_cons_of_mem _ hy)) p2 q2 k2 j2 fun x => ⟨fun m1 => ?_, fun m1 => ?_⟩
    · rcases List.mem_cons.mp ((h x).mp (List.mem_cons_of_mem _ m1)) with rfl | m2
      · exact absurd m1 k1
      · exact m2
    · rcases List.mem_cons.mp ((h x).mpr (List.mem_cons_of_mem _ m1)) with rfl | m2
      · exact absurd m1 j1
      · exact m2
section
variable {α : Type} (cov : α → α → Bool) (le : α → α → Bool)
def thS (k : List α) (r : α) : List α := if (k.any fun o => cov o r) = true then k else k ++ [r]
theorem thS_t {k : List α} {r : α} (h : (k.any fun o => cov o r) = true) : thS cov k r = k := if_pos h
theorem thS_f {k : List α} {r : α} (h : (k.any fun o => cov o r) = false) : thS cov k r = k ++ [r] := if_neg (by rw [h]; exact Bool.false_ne_true)
theorem thS_inv (D : α → Prop) (rfl1 : ∀ a, D a → cov a a = true) (tr : ∀ a b c, D a → D b → D c → cov a b = true → cov b c = true → cov a c = true) (bef : ∀ a b, D a → D b → cov a b = true → a ≠ b → le b a = false) :
    ∀ (s p k : List α), (∀ x ∈ p ++ s, D x) → (p ++ s).Pairwise (fun a b => le a b = true) → k.Sublist p → k.Nodup → (∀ x, x ∈ k ↔ x ∈ p ∧ ∀ y ∈ p, cov y x = true → y = x) → (∀ y ∈ p, ∃ m ∈ k, cov m y = true) →
      (s.foldl (thS cov) k).Sublist (p ++ s) ∧ (s.foldl (thS cov) k).Nodup ∧ (∀ x, x ∈ s.foldl (thS cov) k ↔ x ∈ p ++ s ∧ ∀ y ∈ p ++ s, cov y x = true → y = x) ∧ ∀ y ∈ p ++ s, ∃ m ∈ s.foldl (thS cov) k, cov m y = true
  | [], p, k, _, _, sub, nd, mem, cv => by
    rw [List.append_nil]
    exact ⟨sub, nd, mem, cv⟩
  | r :: s, p, k, hD, pw, sub, nd, mem, cv => by
    have ea : p ++ r :: s = (p ++ [r]) ++ s := by rw [List.append_assoc]; rfl
    have Dp : ∀ x ∈ p, D x := fun x m => hD x (List.mem_append_left _ m)
    have Dr : D r := hD r (List.mem_append_right _ (List.mem_cons_self ..))
    have ler : ∀ x ∈ p, le x r = true := fun x m => (List.pairwise_append.mp pw).2.2 x m r (List.mem_cons_self ..)
    have keep : ∀ x, x ∈ k → ∀ y ∈ p ++ [r], cov y x = true → y = x := fun x m y my c => by
      have mx := (mem x).mp m
      rcases List.mem_append.mp my with my | my
      · exact mx.2 y my c
      · cases List.mem_singleton.mp my
        by_cases e : r = x
        · exact e
        · have := bef r x Dr (Dp x mx.1) c e
          rw [ler x mx.1] at this
          cases this
    rw [List.foldl_cons, ea]
    cases c : k.any fun o => cov o r with
    | true =>
      rw [thS_t cov c]
      obtain ⟨o, mo, co⟩ := List.any_eq_true.mp c
      refine thS_inv D rfl1 tr bef s (p ++ [r]) k (by rw [← ea]; exact hD) (by rw [← ea]; exact pw) (sub.trans (List.sublist_append_left ..)) nd (fun x => ⟨fun m => ⟨List.mem_append_left _ ((mem x).mp m).1, keep x m⟩, fun m => ?_⟩) fun y my => ?_
      · rcases List.mem_append.mp m.1 with m1 | m1
        · exact (mem x).mpr ⟨m1, fun y my => m.2 y (List.mem_append_left _ my)⟩
        · cases List.mem_singleton.mp m1
          have := m.2 o (List.mem_append_left _ ((mem o).mp mo).1) co
          subst this
          exact mo
      · rcases List.mem_append.mp my with my | my
        · exact cv y my
        · cases List.mem_singleton.mp my
          exact ⟨o, mo, co⟩
    | false =>
      rw [thS_f cov c]
      have no : ∀ o ∈ k, cov o r = false := fun o mo => by
        cases h : cov o r with
        | false => rfl
        | true =>
          rw [List.any_eq_true.mpr ⟨o, mo, h⟩] at c
          cases c
      have nr : r ∉ k := fun m => by
        have := no r m
        rw [rfl1 r Dr] at this
        cases this
      refine thS_inv D rfl1 tr bef s (p ++ [r]) (k ++ [r]) (by rw [← ea]; exact hD) (by rw [← ea]; exact pw) (sub.append (List.Sublist.refl _)) ?_ (fun x => ⟨fun m => ?_, fun m => ?_⟩) fun y my => ?_
      · refine List.nodup_append.mpr ⟨nd, List.nodup_cons.mpr ⟨(fun m => nomatch m), .nil⟩, fun a ma b mb => ?_⟩
        cases List.mem_singleton.mp mb
        intro e
        exact nr (e ▸ ma)
      · rcases List.mem_append.mp m with m1 | m1
        · exact ⟨List.mem_append_left _ ((mem x).mp m1).1, keep x m1⟩
        · cases List.mem_singleton.mp m1
          refine ⟨List.mem_append_right _ (List.mem_singleton.mpr rfl), fun y my cy => ?_⟩
          rcases List.mem_append.mp my with my | my
          · obtain ⟨o, mo, co⟩ := cv y my
            have := no o mo
            rw [tr o y r (Dp o ((mem o).mp mo).1) (Dp y my) Dr co cy] at this
            cases this
          · exact List.mem_singleton.mp my
      · rcases List.mem_append.mp m.1 with m1 | m1
        · exact List.mem_append_left _ ((mem x).mpr ⟨m1, fun y my => m.2 y (List.mem_append_left _ my)⟩)
        · exact List.mem_append_right _ m1
      · rcases List.mem_append.mp my with my | my
        · obtain ⟨o, mo, co⟩ := cv y my
          exact ⟨o, List.mem_append_left _ mo, co⟩
        · cases List.mem_singleton.mp my
          exact ⟨r, List.mem_append_right _ (List.mem_singleton.mpr rfl), rfl1 r Dr⟩
end
end Fb
namespace Fb
open PySem PySem.Spec
/-- the law's own: those that no other one is above -/
def minF {α : Type} [DecidableEq α] (cov : α → α → Bool) (S : List α) : List α := S.filter fun x => !(S.any fun y => !(decide (y = x)) && cov y x)
theorem minF_mem {α : Type} [DecidableEq α] {cov : α → α → Bool} {S : List α} (x : α) : x ∈ minF cov S ↔ x ∈ S ∧ ∀ y ∈ S, cov y x = true → y = x := by
  unfold minF
  rw [List.mem_filter]
  refine and_congr Iff.rfl ⟨fun h y my c => ?_, fun h => ?_⟩
  · by_cases e : y = x
    · exact e
    · have : (S.any fun y => !(decide (y = x)) && cov y x) = true := List.any_eq_true.mpr ⟨y, my, by rw [decide_eq_false e, c]; rfl⟩
      rw [this] at h
      cases h
  · have : (S.any fun y => !(decide (y = x)) && cov y x) = false := by
      rw [List.any_eq_false]
      intro y my c
      rw [Bool.and_eq_true] at c
      rw [decide_eq_true (h y my c.2)] at c
      cases c.1
    rw [this]
    rfl
theorem is_minF {α : Type} [DecidableEq α] {cov : α → α → Bool} {R : α → α → Prop} {L S ls : List α} (anti : ∀ a ∈ ls, ∀ b ∈ ls, R a b → R b a → a = b) (p1 : L.Pairwise R) (n1 : L.Nodup) (m1 : ∀ x, x ∈ L ↔ x ∈ ls ∧ ∀ y ∈ ls, cov y x = true → y = x) (p2 : S.Pairwise R) (n2 : S.Nodup) (m2 : ∀ x, x ∈ S ↔ x ∈ ls) : L = minF cov S := by
  refine sorted_one (fun a ma b mb => anti a ((m1 a).mp ma).1 b ((m1 b).mp mb).1) p1 (p2.filter _) n1 (n2.filter _) fun x => ?_
  rw [m1, minF_mem, m2]
  exact and_congr Iff.rfl ⟨fun h y my => h y ((m2 y).mp my), fun h y my => h y ((m2 y).mpr my)⟩
/-! ### rows of numbers -/
theorem rowLe_eq (a b : List Int) : rowLe a b = !decide (b < a) := by
  show (!PySem.W.dataLt (.tuple (b.map .int)) (.tuple (a.map .int))) = _
  rw [PySem.W.dataLt_tuple]
  exact congrArg (!·) (PySem.W.dataLt_ints b a)
theorem le_tot {α : Type} (k : α → PyData) : PySem.W.TotalLe (PySem.W.dataLe false k) := by
  unfold PySem.W.dataLe
  exact PySem.W.sortLe_total _ _ _
theorem rowLe_tot : PySem.W.TotalLe rowLe := le_tot rowD
theorem int_lex : ∀ {a b : List Int}, ¬ a < b → ¬ b < a → a = b
  | [], [], _, _ => rfl
  | [], b :: bs, h, _ => absurd (List.nil_lt_cons b bs) h
  | a :: as, [], _, h => absurd (List.nil_lt_cons a as) h
  | a :: as, b :: bs, h1, h2 => by
    rw [List.cons_lt_cons_iff] at h1 h2
    have e : a = b := by
      rcases Int.lt_trichotomy a b with h | h | h
      · exact absurd (.inl h) h1
      · exact h
      · exact absurd (.inl h) h2
    subst e
    rw [int_lex (fun h => h1 (.inr ⟨rfl, h⟩)) fun h => h2 (.inr ⟨rfl, h⟩)]
theorem rowLe_anti {a b : List Int} (h1 : rowLe a b = true) (h2 : rowLe b a = true) : a = b := by
  rw [rowLe_eq] at h1 h2
  exact int_lex (fun h => by rw [decide_eq_true h] at h2; cases h2) fun h => by rw [decide_eq_true h] at h1; cases h1
theorem leM_cons (x y : Int) (f g : List Int) : leM (x :: f) (y :: g) = (decide (x ≤ y) && leM f g) := by
  unfold leM
  rw [List.length_cons, List.range_succ_eq_map, List.all_cons, List.all_map]
  rfl
theorem leM_refl : ∀ f : List Int, leM f f = true
  | [] => rfl
  | x :: f => by
    rw [leM_cons, leM_refl f, decide_eq_true (Int.le_refl x)]
    rfl
theorem leM_trans : ∀ {f g h : List Int}, f.length = g.length → g.length = h.length → leM f g = true → leM g h = true → leM f h = true
  | [], _, _, _, _, _, _ => rfl
  | x :: f, [], _, e, _, _, _ => nomatch e
  | x :: f, y :: g, [], _, e, _, _ => nomatch e
  | x :: f, y :: g, z :: h, e1, e2, h1, h2 => by
    rw [leM_cons, Bool.and_eq_true] at h1 h2 ⊢
    exact ⟨decide_eq_true (Int.le_trans (of_decide_eq_true h1.1) (of_decide_eq_true h2.1)), leM_trans (Nat.succ.inj e1) (Nat.succ.inj e2) h1.2 h2.2⟩
theorem leM_lt : ∀ {f g : List Int}, f.length = g.length → leM f g = true → f ≠ g → f < g
  | [], [], _, _, n => absurd rfl n
  | x :: f, [], e, _, _ => nomatch e
  | [], y :: g, e, _, _ => nomatch e
  | x :: f, y :: g, e, h, n => by
    rw [leM_cons, Bool.and_eq_true] at h
    have le := of_decide_eq_true h.1
    rw [List.cons_lt_cons_iff]
    by_cases c : x = y
    · subst c
      exact .inr ⟨rfl, leM_lt (Nat.succ.inj e) h.2 fun z => n (by rw [z])⟩
    · exact .inl (by omega)
theorem thin_is {n : Nat} {ls S : List (List Int)} (hn : ∀ l ∈ ls, l.length = n) (p2 : S.Pairwise fun a b => rowLe a b = true) (n2 : S.Nodup) (m2 : ∀ x, x ∈ S ↔ x ∈ ls) : thinM ls = minF leM S := by
  have pw := PySem.W.sort_pairwise rowLe_tot ls
  have ms : ∀ x, x ∈ ls.mergeSort rowLe ↔ x ∈ ls := fun x => List.mem_mergeSort
  obtain ⟨sub, nd, mem, _⟩ := thS_inv leM rowLe (fun l => l.length = n) (fun a _ => leM_refl a) (fun a b c ha hb hc h1 h2 => leM_trans (ha.trans hb.symm) (hb.trans hc.symm) h1 h2) (fun a b ha hb h ne => by
      rw [rowLe_eq, decide_eq_true (leM_lt (ha.trans hb.symm) h ne)]
      rfl) (ls.mergeSort rowLe) [] [] (fun x m => hn x ((ms x).mp m)) pw (List.Sublist.refl _) .nil (fun x => ⟨(fun m => nomatch m), fun m => nomatch m.1⟩) (fun y m => nomatch m)
  have e : (ls.mergeSort rowLe).foldl (thS leM) [] = thinM ls := rfl
  rw [e] at sub nd mem
  refine is_minF (R := fun a b => rowLe a b = true) (fun a _ b _ => rowLe_anti) (pw.sublist sub) nd (fun x => ?_) p2 n2 m2
  rw [mem x]
  exact and_congr (ms x) ⟨fun h y my => h y ((ms y).mpr my), fun h y my => h y ((ms y).mp my)⟩
end Fb
namespace Fb
open PySem PySem.Spec
/-! ### rows of a price and a lot -/
theorem nat_lex : ∀ {a b : List Nat}, ¬ a < b → ¬ b < a → a = b
  | [], [], _, _ => rfl
  | [], b :: bs, h, _ => absurd (List.nil_lt_cons b bs) h
  | a :: as, [], _, h => absurd (List.nil_lt_cons a as) h
  | a :: as, b :: bs, h1, h2 => by
    rw [List.cons_lt_cons_iff] at h1 h2
    have e : a = b := by
      rcases Nat.lt_trichotomy a b with h | h | h
      · exact absurd (.inl h) h1
      · exact h
      · exact absurd (.inl h) h2
    subst e
    rw [nat_lex (fun h => h1 (.inr ⟨rfl, h⟩)) fun h => h2 (.inr ⟨rfl, h⟩)]
theorem str_lex {x y : Str} (h1 : PySem.W.dataLt (.str x) (.str y) = false) (h2 : PySem.W.dataLt (.str y) (.str x) = false) : x = y := by
  rw [PySem.W.dataLt_str] at h1 h2
  exact PySem.W.str_of_cps (nat_lex (of_decide_eq_false h1) (of_decide_eq_false h2))
theorem strLe_tot : PySem.W.TotalLe strLe := le_tot PyData.str
theorem strLe_anti {x y : Str} (h1 : strLe x y = true) (h2 : strLe y x = true) : x = y := by
  have h1 : (!PySem.W.dataLt (.str y) (.str x)) = true := h1
  have h2 : (!PySem.W.dataLt (.str x) (.str y)) = true := h2
  exact str_lex (by simpa using h2) (by simpa using h1)
theorem eqv_str {x y : Str} : PyData.eqv (.str x) (.str y) = true ↔ x = y := by simp [PyData.eqv]
theorem lot_lex : ∀ {l m : List Str}, PySem.W.rowLt (l.map .str) (m.map .str) = false → PySem.W.rowLt (m.map .str) (l.map .str) = false → l = m
  | [], [], _, _ => rfl
  | [], y :: m, h, _ => by
    have e : PySem.W.rowLt [] (PyData.str y :: m.map .str) = true := by
      unfold PySem.W.rowLt
      rw [PySem.W.toks_all_cons]
      simp only [PySem.W.keyToksAll]
      rw [PyProof.Rows.lex_diff (O := PyProof.Rows.itemOrd) (by simp)]
      rfl
    have h : PySem.W.rowLt [] (PyData.str y :: m.map .str) = false := h
    rw [e] at h
    cases h
  | x :: l, [], _, h => by
    have e : PySem.W.rowLt [] (PyData.str x :: l.map .str) = true := by
      unfold PySem.W.rowLt
      rw [PySem.W.toks_all_cons]
      simp only [PySem.W.keyToksAll]
      rw [PyProof.Rows.lex_diff (O := PyProof.Rows.itemOrd) (by simp)]
      rfl
    have h : PySem.W.rowLt [] (PyData.str x :: l.map .str) = false := h
    rw [e] at h
    cases h
  | x :: l, y :: m, h1, h2 => by
    have h1 : PySem.W.rowLt (PyData.str x :: l.map .str) (PyData.str y :: m.map .str) = false := h1
    have h2 : PySem.W.rowLt (PyData.str y :: m.map .str) (PyData.str x :: l.map .str) = false := h2
    unfold PySem.W.rowLt at h1 h2
    rw [PySem.W.dataLt_cons (by simp [PySem.W.alike])] at h1 h2
    by_cases e : x = y
    · subst e
      rw [if_pos (eqv_str.mpr rfl)] at h1 h2
      rw [lot_lex (l := l) (m := m) h1 h2]
    · rw [if_neg (fun c => e (eqv_str.mp c))] at h1
      rw [if_neg (fun c => e (eqv_str.mp c).symm)] at h2
      exact absurd (str_lex h1 h2) e
theorem lots_eqv : ∀ {l m : List Str}, PyData.eqvAll (l.map .str) (m.map .str) = true → l = m
  | [], [], _ => rfl
  | [], y :: m, h => by
    rw [List.map_nil, List.map_cons] at h
    simp [PyData.eqvAll] at h
  | x :: l, [], h => by
    rw [List.map_nil, List.map_cons] at h
    simp [PyData.eqvAll] at h
  | x :: l, y :: m, h => by
    rw [List.map_cons, List.map_cons, PySem.W.eqv_all_cons, Bool.and_eq_true] at h
    rw [eqv_str.mp h.1, lots_eqv h.2]
theorem eqv_strs : ∀ l : List Str, PyData.eqvAll (l.map .str) (l.map .str) = true := fun l => PySem.W.eqvAll_refl_alike _ (alike_strs l l)
theorem opLe_tot : PySem.W.TotalLe opLe := le_tot openD
theorem sizLe_tot : PySem.W.TotalLe sizLe := le_tot sizD
theorem opLe_anti {a b : OpR} (h1 : opLe a b = true) (h2 : opLe b a = true) : a = b := by
  have h1 : (!PySem.W.dataLt (openD b) (openD a)) = true := h1
  have h2 : (!PySem.W.dataLt (openD a) (openD b)) = true := h2
  have h1 : PySem.W.dataLt (openD b) (openD a) = false := by simpa using h1
  have h2 : PySem.W.dataLt (openD a) (openD b) = false := by simpa using h2
  obtain ⟨p, l⟩ := a
  obtain ⟨q, m⟩ := b
  unfold openD at h1 h2
  have al : ∀ l m : List Str, PySem.W.alike (lotD l) (lotD m) = true := fun l m => by
    simp [lotD, PySem.W.alike, alike_strs]
  rw [PySem.W.dataLt_pair (by simp [PySem.W.alike]) (al _ _), PySem.W.dataLt_int] at h1 h2
  have one : ∀ l m : List Str, PyData.eqv (lotD l) (lotD m) = true → l = m := fun l m h => by
    unfold lotD at h
    rw [PyData.eqv] at h
    exact lots_eqv h
  have ei : ∀ x y : Int, (PyData.eqv (.int x) (.int y) = true) = (x = y) := fun x y => by simp [PyData.eqv]
  simp only [ei] at h1 h2
  by_cases e : p = q
  · subst e
    rw [if_pos rfl] at h1 h2
    have : l = m := by
      by_cases c : PyData.eqv (lotD m) (lotD l) = true
      · exact (one _ _ c).symm
      · by_cases c2 : PyData.eqv (lotD l) (lotD m) = true
        · exact one _ _ c2
        · rw [if_neg c] at h1
          rw [if_neg c2] at h2
          unfold lotD at h1 h2
          rw [PySem.W.dataLt_tuple] at h1 h2
          exact lot_lex h2 h1
    rw [this]
  · rw [if_neg (fun c => e c.symm)] at h1
    rw [if_neg e] at h2
    have := of_decide_eq_false h1
    have := of_decide_eq_false h2
    omega
theorem sizLe_no {a b : OpR} (h : a.1 < b.1 ∨ (a.1 = b.1 ∧ a.2.length < b.2.length)) : sizLe b a = false := by
  show (!PySem.W.dataLt (sizD a) (sizD b)) = false
  suffices e : PySem.W.dataLt (sizD a) (sizD b) = true by rw [e]; rfl
  unfold sizD
  rw [PySem.W.dataLt_tuple, PySem.W.dataLt_cons (by simp [PySem.W.alike]), PySem.W.dataLt_int]
  simp only [PyData.eqv, beq_iff_eq]
  rcases h with h | ⟨h1, h2⟩
  · rw [if_neg (by omega)]
    exact decide_eq_true h
  · rw [if_pos h1, PySem.W.dataLt_cons (by simp [PySem.W.alike]), PySem.W.dataLt_int]
    simp only [PyData.eqv, beq_iff_eq]
    rw [if_neg (by omega)]
    exact decide_eq_true (by omega)
end Fb
namespace Fb
open PySem PySem.Spec
theorem cnt_eq (z : Str) (l : List Str) : cnt z l = l.count z := by
  unfold cnt List.count
  exact List.countP_congr fun y _ => by simp
/-- a lot within another one -/
theorem sub_lot : ∀ {l m : List Str}, (∀ z, l.count z ≤ m.count z) → l.length ≤ m.length ∧ (l.length = m.length → l.Perm m)
  | [], m, _ => ⟨Nat.zero_le _, fun e => by
    have : m = [] := List.eq_nil_of_length_eq_zero e.symm
    rw [this]⟩
  | x :: l, m, h => by
    have hx := h x
    rw [List.count_cons_self] at hx
    have mx : x ∈ m := List.count_pos_iff.mp (by omega)
    have pm : m.Perm (x :: m.erase x) := List.perm_cons_erase mx
    have ih := sub_lot (l := l) (m := m.erase x) fun z => by
      have hz := h z
      rw [pm.count_eq z, List.count_cons, List.count_cons] at hz
      omega
    have lm := pm.length_eq
    rw [List.length_cons] at lm
    refine ⟨by rw [List.length_cons, lm]; omega, fun e => ?_⟩
    rw [List.length_cons, lm] at e
    exact ((ih.2 (by omega)).cons x).trans pm.symm
theorem cov_iff (a b : OpR) : covM a b = true ↔ a.1 ≤ b.1 ∧ ∀ z, a.2.count z ≤ b.2.count z := by
  unfold covM
  rw [Bool.and_eq_true, decide_eq_true_eq, List.all_eq_true]
  refine and_congr Iff.rfl ⟨fun h z => ?_, fun h z _ => decide_eq_true ?_⟩
  · by_cases m : z ∈ a.2
    · have := of_decide_eq_true (h z m)
      rwa [cnt_eq, cnt_eq] at this
    · rw [List.count_eq_zero_of_not_mem m]
      exact Nat.zero_le _
  · rw [cnt_eq, cnt_eq]
    exact h z
/-- the lot stands in order -/
def Cn (r : OpR) : Prop := r.2.Pairwise fun a b => strLe a b = true
theorem sortL_pw (l : List Str) : (sortL l).Pairwise fun a b => strLe a b = true := PySem.W.sort_pairwise strLe_tot l
theorem canon_cn (r : OpR) : Cn (canon r) := sortL_pw r.2
/-- lists in order that are one another's items -/
theorem sorted_perm : ∀ {l m : List Str}, l.Pairwise (fun a b => strLe a b = true) → m.Pairwise (fun a b => strLe a b = true) → l.Perm m → l = m
  | [], m, _, _, p => (List.Perm.nil_eq p)
  | x :: l, [], _, _, p => nomatch p.length_eq
  | x :: l, y :: m, p, q, h => by
    obtain ⟨p1, p2⟩ := List.pairwise_cons.mp p
    obtain ⟨q1, q2⟩ := List.pairwise_cons.mp q
    have e : x = y := by
      rcases List.mem_cons.mp (h.mem_iff.mp (List.mem_cons_self ..)) with e | m1
      · exact e
      rcases List.mem_cons.mp (h.mem_iff.mpr (List.mem_cons_self ..)) with e | m2
      · exact e.symm
      exact strLe_anti (p1 y m2) (q1 x m1)
    subst e
    rw [sorted_perm p2 q2 ((List.perm_cons x).mp h)]
theorem cov_bef {a b : OpR} (ha : Cn a) (hb : Cn b) (h : covM a b = true) (n : a ≠ b) : sizLe b a = false := by
  obtain ⟨h1, h2⟩ := (cov_iff a b).mp h
  obtain ⟨s1, s2⟩ := sub_lot h2
  refine sizLe_no ?_
  by_cases e : a.1 = b.1
  · refine .inr ⟨e, ?_⟩
    by_cases e2 : a.2.length = b.2.length
    · exact absurd (Prod.ext e (sorted_perm ha hb (s2 e2))) n
    · omega
  · exact .inl (by omega)
theorem open_is {ls S : List OpR} (p2 : S.Pairwise fun a b => opLe a b = true) (n2 : S.Nodup) (m2 : ∀ x, x ∈ S ↔ x ∈ ls.map canon) : outM ls = minF covM S := by
  have pw := PySem.W.sort_pairwise sizLe_tot (ls.map canon)
  have ms : ∀ x, x ∈ (ls.map canon).mergeSort sizLe ↔ x ∈ ls.map canon := fun x => List.mem_mergeSort
  have cn : ∀ x ∈ ls.map canon, Cn x := fun x m => by
    obtain ⟨r, _, rfl⟩ := List.mem_map.mp m
    exact canon_cn r
  obtain ⟨sub, nd, mem, _⟩ := thS_inv covM sizLe Cn (fun a _ => (cov_iff a a).mpr ⟨Int.le_refl _, fun _ => Nat.le_refl _⟩) (fun a b c _ _ _ h1 h2 => (cov_iff a c).mpr ⟨Int.le_trans ((cov_iff a b).mp h1).1 ((cov_iff b c).mp h2).1, fun z => Nat.le_trans (((cov_iff a b).mp h1).2 z) (((cov_iff b c).mp h2).2 z)⟩)
    (fun a b ha hb h n => cov_bef ha hb h n) ((ls.map canon).mergeSort sizLe) [] [] (fun x m => cn x ((ms x).mp m)) pw (List.Sublist.refl _) .nil (fun x => ⟨(fun m => nomatch m), fun m => nomatch m.1⟩) (fun y m => nomatch m)
  have e : ((ls.map canon).mergeSort sizLe).foldl (thS covM) [] = opnM ls := rfl
  rw [e] at sub nd mem
  have po : (outM ls).Perm (opnM ls) := List.mergeSort_perm _ _
  refine is_minF (R := fun a b => opLe a b = true) (ls := ls.map canon) (fun a _ b _ => opLe_anti) (PySem.W.sort_pairwise opLe_tot _) (po.nodup_iff.mpr nd) (fun x => ?_) p2 n2 m2
  rw [po.mem_iff, mem x]
  exact and_congr (ms x) ⟨fun h y my => h y ((ms y).mpr my), fun h y my => h y ((ms y).mp my)⟩
/-- nothing is left of nothing alone -/
theorem th_some {α : Type} {cov : α → α → Bool} : ∀ {s k : List α}, k ≠ [] ∨ s ≠ [] → s.foldl (thS cov) k ≠ []
  | [], k, h => h.elim id fun n => absurd rfl n
  | r :: s, k, _ => by
    rw [List.foldl_cons]
    refine th_some (.inl ?_)
    unfold thS
    split
    · rename_i c
      intro e
      rw [e] at c
      cases c
    · intro e
      have := congrArg List.length e
      rw [List.length_append] at this
      simp at this
theorem thin_some {ls : List (List Int)} (n : ls ≠ []) : thinM ls ≠ [] := th_some (cov := leM) (.inr fun e => n (by
  have := congrArg List.length e
  rw [List.length_mergeSort] at this
  exact List.eq_nil_of_length_eq_zero this))
theorem open_some {ls : List OpR} (n : ls ≠ []) : opnM ls ≠ [] := th_some (cov := covM) (.inr fun e => n (by
  have := congrArg List.length e
  rw [List.length_mergeSort, List.length_map] at this
  exact List.eq_nil_of_length_eq_zero this))
end Fb
namespace Fb
open PySem PySem.Spec L2
open PyProof.Rows hiding St
/-! ### what sorted(set(..)) of rows is -/
theorem imgs {α β : Type} (f : α → β) {rs : List α} : ∀ {S : List β}, (∀ p ∈ S, p ∈ rs.map f) → ∃ ss : List α, S = ss.map f ∧ ∀ r ∈ ss, r ∈ rs
  | [], _ => ⟨[], rfl, fun r m => nomatch m⟩
  | p :: S, h => by
    obtain ⟨r, mr, rfl⟩ := List.mem_map.mp (h p (List.mem_cons_self ..))
    obtain ⟨ss, rfl, hs⟩ := imgs f (S := S) fun q m => h q (List.mem_cons_of_mem _ m)
    refine ⟨r :: ss, rfl, fun q m => ?_⟩
    rcases List.mem_cons.mp m with rfl | m
    · exact mr
    · exact hs q m
theorem kept_of {α : Type} (key : α → NestedKey) (inj : ∀ a b, key a = key b → a = b) {rs : List (Addr × α)} {L M : List Ent} (sub : ∀ p ∈ L, p ∈ rs.map fun r => (r.1, key r.2)) (all : ∀ p ∈ rs.map (fun r => (r.1, key r.2)), p.2 ∈ L.map Prod.snd) (nd : (L.map Prod.snd).Nodup) (pm : M.Perm L) :
    ∃ ss : List (Addr × α), sortK entD M = ss.map (fun r => (r.1, key r.2)) ∧ (∀ r ∈ ss, r ∈ rs) ∧ (ss.map Prod.snd).Pairwise (fun a b => PySem.W.dataLe false (fun x => (key x).data) a b = true) ∧ (ss.map Prod.snd).Nodup ∧ ∀ x, x ∈ ss.map Prod.snd ↔ x ∈ rs.map Prod.snd := by
  have ps : (sortK entD M).Perm L := (List.mergeSort_perm _ _).trans pm
  obtain ⟨ss, es, hs⟩ := imgs (fun r : Addr × α => ((r.1, key r.2) : Ent)) (rs := rs) (S := sortK entD M) fun p m => sub p (ps.mem_iff.mp m)
  have ek : (sortK entD M).map Prod.snd = (ss.map Prod.snd).map key := by
    rw [es, List.map_map, List.map_map]
    rfl
  have pw := PySem.W.sort_pairwise (le_tot entD) M
  rw [show M.mergeSort (PySem.W.dataLe false entD) = ss.map (fun r => ((r.1, key r.2) : Ent)) from es, List.pairwise_map] at pw
  refine ⟨ss, es, hs, List.pairwise_map.mpr pw, ?_, fun x => ⟨fun m => ?_, fun m => ?_⟩⟩
  · have := (ps.map Prod.snd).nodup_iff.mpr nd
    rw [ek] at this
    exact nodup_of_map this
  · obtain ⟨r, mr, rfl⟩ := List.mem_map.mp m
    exact List.mem_map_of_mem (hs r mr)
  · obtain ⟨r, mr, rfl⟩ := List.mem_map.mp m
    have h1 := all _ (List.mem_map_of_mem (f := fun r : Addr × α => ((r.1, key r.2) : Ent)) mr)
    have h2 := ((ps.map Prod.snd).mem_iff).mpr h1
    rw [ek] at h2
    obtain ⟨y, my, ey⟩ := List.mem_map.mp h2
    rw [← inj _ _ ey]
    exact my
theorem filt_range {α β : Type} (d : α) (p : α → Bool) (f : α → β) : ∀ l : List α, ((List.range l.length).filter fun i => p (l.getD i d)).map (fun i => f (l.getD i d)) = (l.filter p).map f
  | [] => rfl
  | a :: l => by
    have ih := filt_range d p f l
    rw [List.length_cons, List.range_succ_eq_map, List.filter_cons, List.filter_cons]
    have e : ((List.map Nat.succ (List.range l.length)).filter fun i => p ((a :: l).getD i d)).map (fun i => f ((a :: l).getD i d)) = (l.filter p).map f := by
      rw [List.filter_map, List.map_map, ← ih]
      rfl
    show List.map _ (if p a = true then _ else _) = _
    split
    · rw [List.map_cons, e]
      rfl
    · exact e
theorem minF_pairs {α : Type} [DecidableEq α] (cov : α → α → Bool) (ss : List (Addr × α)) : (ss.filter fun r => !(ss.any fun y => !(decide (y.2 = r.2)) && cov y.2 r.2)).map Prod.snd = minF cov (ss.map Prod.snd) := by
  unfold minF
  rw [List.filter_map]
  congr 1
  refine List.filter_congr fun r _ => ?_
  show _ = (!((ss.map Prod.snd).any fun y => !(decide (y = r.2)) && cov y r.2))
  rw [List.any_map]
  rfl
/-! ### keys of rows -/
def intK (l : List Int) : NestedKey := .tup (l.map .num)
theorem datas_num : ∀ l : List Int, NestedKey.datas (l.map .num) = l.map .int
  | [] => rfl
  | x :: l => by
    rw [List.map_cons, NestedKey.datas, datas_num l]
    rfl
theorem data_int (l : List Int) : (intK l).data = rowD l := by
  show PyData.tuple (NestedKey.datas (l.map .num)) = _
  rw [datas_num]
  rfl
theorem num_inj : ∀ {l m : List Int}, l.map NestedKey.num = m.map NestedKey.num → l = m
  | [], [], _ => rfl
  | [], y :: m, h => nomatch h
  | x :: l, [], h => nomatch h
  | x :: l, y :: m, h => by
    rw [List.map_cons, List.map_cons] at h
    injection h with h1 h2
    injection h1 with h1
    rw [h1, num_inj h2]
theorem int_inj (a b : List Int) (h : intK a = intK b) : a = b := by
  unfold intK at h
  injection h with h
  exact num_inj h
theorem depth_num : ∀ l : List Int, NestedKey.depthAll (l.map .num) = 0
  | [] => rfl
  | x :: l => by
    rw [List.map_cons, NestedKey.depthAll, depth_num l]
    rfl
def opK (r : OpR) : NestedKey := .tup [.num r.1, .tup (r.2.map .text)]
theorem datas_text : ∀ l : List Str, NestedKey.datas (l.map .text) = l.map .str
  | [] => rfl
  | x :: l => by
    rw [List.map_cons, NestedKey.datas, datas_text l]
    rfl
theorem data_op (r : OpR) : (opK r).data = openD r := by
  show PyData.tuple [.int r.1, .tuple (NestedKey.datas (r.2.map .text))] = _
  rw [datas_text]
  rfl
theorem text_inj : ∀ {l m : List Str}, l.map NestedKey.text = m.map NestedKey.text → l = m
  | [], [], _ => rfl
  | [], y :: m, h => nomatch h
  | x :: l, [], h => nomatch h
  | x :: l, y :: m, h => by
    rw [List.map_cons, List.map_cons] at h
    injection h with h1 h2
    injection h1 with h1
    rw [h1, text_inj h2]
theorem op_inj (a b : OpR) (h : opK a = opK b) : a = b := by
  obtain ⟨p, l⟩ := a
  obtain ⟨q, m⟩ := b
  unfold opK at h
  injection h with h
  injection h with h1 h2
  injection h2 with h2 _
  injection h1 with h1
  injection h2 with h2
  have e1 : p = q := h1
  have e2 : l = m := text_inj h2
  rw [e1, e2]
theorem depth_text : ∀ l : List Str, NestedKey.depthAll (l.map .text) = 0
  | [] => rfl
  | x :: l => by
    rw [List.map_cons, NestedKey.depthAll, depth_text l]
    rfl
theorem key_int {K : PySem.W.Frag} {H : Hp} {r : Addr × List Int} (h : SqT K H r.1 (r.2.map V.int)) : KeyO K H (r.1, intK r.2) := by
  refine ⟨?_, ?_⟩
  · show Dp K H (.ref r.1) (intK r.2).data
    rw [data_int]
    exact TupI.dp ⟨r.1, rfl, h⟩
  · show NestedKey.depthAll (r.2.map .num) + 1 ≤ 8
    rw [depth_num]
    decide
theorem key_op {K : PySem.W.Frag} {H : Hp} {r : Addr × OpR} (h : OpenV K H (.ref r.1) r.2) : KeyO K H (r.1, opK r.2) := by
  refine ⟨?_, ?_⟩
  · show Dp K H (.ref r.1) (opK r.2).data
    rw [data_op]
    exact h.dp
  · show max 0 (max (NestedKey.depthAll (r.2.2.map .text) + 1) 0) + 1 ≤ 8
    rw [depth_text]
    decide
theorem rows_ents {K : PySem.W.Frag} {H : Hp} : ∀ {ls : List (List Int)} {xs : List V}, RowsV K H xs ls → ∃ rs : List (Addr × List Int), xs = rs.map (fun r => V.ref r.1) ∧ ls = rs.map Prod.snd ∧ ∀ r ∈ rs, SqT K H r.1 (r.2.map V.int)
  | [], _, h => by
    cases h
    exact ⟨[], rfl, rfl, fun r m => nomatch m⟩
  | l :: ls, _, h => by
    have h : DpAll K H _ (rowD l :: ls.map rowD) := h
    cases h with
    | cons a b =>
      obtain ⟨rs, e1, e2, h3⟩ := rows_ents b
      obtain ⟨A, e, sA⟩ : TupI K H _ l := optD_tup a
      refine ⟨(A, l) :: rs, by rw [e, e1]; rfl, by rw [e2]; rfl, fun r m => ?_⟩
      rcases List.mem_cons.mp m with rfl | m
      · exact sA
      · exact h3 r m
theorem ents_rows {K : PySem.W.Frag} {H : Hp} {rs : List (Addr × List Int)} (h : ∀ r ∈ rs, SqT K H r.1 (r.2.map V.int)) : RowsV K H (rs.map fun r => V.ref r.1) (rs.map Prod.snd) := by
  unfold RowsV
  rw [List.map_map]
  exact dpAll_map fun r m => TupI.dp ⟨r.1, rfl, h r m⟩
theorem eqv_ints : ∀ a b : List Int, PyData.eqvAll (a.map .int) (b.map .int) = decide (a = b)
  | [], [] => by simp [PyData.eqvAll]
  | [], y :: b => by simp [PyData.eqvAll]
  | x :: a, [] => by simp [PyData.eqvAll]
  | x :: a, y :: b => by
    rw [List.map_cons, List.map_cons, PySem.W.eqv_all_cons, eqv_ints a b]
    by_cases h1 : x = y <;> by_cases h2 : a = b <;> simp [PyData.eqv, h1, h2]
theorem eqv_row (a b : List Int) : PyData.eqv (rowD a) (rowD b) = decide (a = b) := by
  unfold rowD
  rw [PyData.eqv]
  exact eqv_ints a b
theorem eqv_lots (a b : List Str) : PyData.eqvAll (a.map .str) (b.map .str) = decide (a = b) := by
  by_cases e : a = b
  · subst e
    rw [eqv_strs, decide_eq_true rfl]
  · rw [decide_eq_false e]
    cases h : PyData.eqvAll (a.map .str) (b.map .str) with
    | false => rfl
    | true => exact absurd (lots_eqv h) e
theorem eqv_op (a b : OpR) : PyData.eqv (openD a) (openD b) = decide (a = b) := by
  obtain ⟨p, l⟩ := a
  obtain ⟨q, m⟩ := b
  unfold openD lotD
  simp only [PyData.eqv, PyData.eqvAll]
  rw [eqv_lots]
  by_cases h1 : p = q <;> by_cases h2 : l = m <;> simp [h1, h2]
end Fb
namespace Fb
theorem nodup_len {α : Type} : ∀ {l m : List α}, l.Nodup → (∀ x ∈ l, x ∈ m) → l.length ≤ m.length
  | [], m, _, _ => Nat.zero_le _
  | x :: l, m, n, h => by
    obtain ⟨n1, n2⟩ := List.nodup_cons.mp n
    obtain ⟨s, t, rfl⟩ := List.append_of_mem (h x (List.mem_cons_self ..))
    have := nodup_len (m := s ++ t) n2 fun y my => by
      rcases List.mem_append.mp (h y (List.mem_cons_of_mem _ my)) with z | z
      · exact List.mem_append_left _ z
      · rcases List.mem_cons.mp z with rfl | z
        · exact absurd my n1
        · exact List.mem_append_right _ z
    rw [List.length_append] at this ⊢
    rw [List.length_cons, List.length_cons]
    omega
end Fb

namespace Fb
open PySem PySem.Spec L2
open PyProof.Rows hiding St
structure IsMin {α : Type} (cov : α → α → Bool) (A X : List α) : Prop where
  mem : ∀ x, x ∈ X ↔ x ∈ A ∧ ∀ y ∈ A, cov y x = true → y = x
  cv : ∀ y ∈ A, ∃ m ∈ X, cov m y = true
theorem IsMin.join {α : Type} {cov : α → α → Bool} {A B X Y Z : List α} (anti : ∀ a ∈ A ++ B, ∀ b ∈ A ++ B, cov a b = true → cov b a = true → a = b) (tr : ∀ a ∈ A ++ B, ∀ b ∈ A ++ B, ∀ c ∈ A ++ B, cov a b = true → cov b c = true → cov a c = true)
    (hX : IsMin cov A X) (hY : IsMin cov B Y) (hZ : IsMin cov (X ++ Y) Z) (x : α) : x ∈ Z ↔ x ∈ A ++ B ∧ ∀ y ∈ A ++ B, cov y x = true → y = x := by
  have sub : ∀ y ∈ X ++ Y, y ∈ A ++ B := fun y m => by
    rcases List.mem_append.mp m with m | m
    · exact List.mem_append_left _ ((hX.mem y).mp m).1
    · exact List.mem_append_right _ ((hY.mem y).mp m).1
  have cov2 : ∀ y ∈ A ++ B, ∃ m ∈ X ++ Y, cov m y = true := fun y m => by
    rcases List.mem_append.mp m with m | m
    · obtain ⟨z, mz, c⟩ := hX.cv y m
      exact ⟨z, List.mem_append_left _ mz, c⟩
    · obtain ⟨z, mz, c⟩ := hY.cv y m
      exact ⟨z, List.mem_append_right _ mz, c⟩
  rw [hZ.mem x]
  refine ⟨fun ⟨h1, h2⟩ => ⟨sub x h1, fun y my c => ?_⟩, fun ⟨h1, h2⟩ => ⟨?_, fun y my => h2 y (sub y my)⟩⟩
  · obtain ⟨m, mm, cm⟩ := cov2 y my
    have e := h2 m mm (tr m (sub m mm) y my x (sub x h1) cm c)
    subst e
    exact (anti m (sub m mm) y my cm c).symm
  · rcases List.mem_append.mp h1 with h1 | h1
    · exact List.mem_append_left _ ((hX.mem x).mpr ⟨h1, fun y my => h2 y (List.mem_append_left _ my)⟩)
    · exact List.mem_append_right _ ((hY.mem x).mpr ⟨h1, fun y my => h2 y (List.mem_append_right _ my)⟩)
theorem thin_min {n : Nat} {ls : List (List Int)} (hn : ∀ l ∈ ls, l.length = n) : IsMin leM ls (thinM ls) ∧ (thinM ls).Nodup ∧ (thinM ls).Pairwise fun a b => rowLe a b = true := by
  have pw := PySem.W.sort_pairwise rowLe_tot ls
  have ms : ∀ x, x ∈ ls.mergeSort rowLe ↔ x ∈ ls := fun x => List.mem_mergeSort
  obtain ⟨sub, nd, mem, cv⟩ := thS_inv leM rowLe (fun l => l.length = n) (fun a _ => leM_refl a) (fun a b c ha hb hc h1 h2 => leM_trans (ha.trans hb.symm) (hb.trans hc.symm) h1 h2) (fun a b ha hb h ne => by
      rw [rowLe_eq, decide_eq_true (leM_lt (ha.trans hb.symm) h ne)]
      rfl) (ls.mergeSort rowLe) [] [] (fun x m => hn x ((ms x).mp m)) pw (List.Sublist.refl _) .nil (fun x => ⟨(fun m => nomatch m), fun m => nomatch m.1⟩) (fun y m => nomatch m)
  have e : (ls.mergeSort rowLe).foldl (thS leM) [] = thinM ls := rfl
  rw [e] at sub nd mem cv
  refine ⟨⟨fun x => ?_, fun y my => cv y ((ms y).mpr my)⟩, nd, pw.sublist sub⟩
  rw [mem x]
  exact and_congr (ms x) ⟨fun h y my => h y ((ms y).mpr my), fun h y my => h y ((ms y).mp my)⟩
theorem leM_anti {a b : List Int} (e : a.length = b.length) (h1 : leM a b = true) (h2 : leM b a = true) : a = b := by
  by_cases c : a = b
  · exact c
  · have l1 := leM_lt e h1 c
    have l2 := leM_lt e.symm h2 fun z => c z.symm
    exact absurd (List.lt_trans l1 l2) (List.lt_irrefl _)
theorem thin_same {n : Nat} {ls ms : List (List Int)} (hn : ∀ l ∈ ls, l.length = n) (h : ∀ x, x ∈ ls ↔ x ∈ ms) : thinM ls = thinM ms := by
  obtain ⟨a1, a2, a3⟩ := thin_min hn
  obtain ⟨b1, b2, b3⟩ := thin_min (ls := ms) fun l m => hn l ((h l).mpr m)
  refine sorted_one (R := fun a b => rowLe a b = true) (fun a _ b _ => rowLe_anti) a3 b3 a2 b2 fun x => ?_
  rw [a1.mem, b1.mem, h x]
  exact and_congr Iff.rfl ⟨fun k y my => k y ((h y).mpr my), fun k y my => k y ((h y).mp my)⟩
theorem thin_join {n : Nat} {A B : List (List Int)} (hn : ∀ l ∈ A ++ B, l.length = n) : thinM (thinM A ++ thinM B) = thinM (A ++ B) := by
  obtain ⟨a1, _, _⟩ := thin_min (ls := A) fun l m => hn l (List.mem_append_left _ m)
  obtain ⟨b1, _, _⟩ := thin_min (ls := B) fun l m => hn l (List.mem_append_right _ m)
  obtain ⟨c1, c2, c3⟩ := thin_min (ls := thinM A ++ thinM B) fun l m => hn l (by
    rcases List.mem_append.mp m with m | m
    · exact List.mem_append_left _ ((a1.mem l).mp m).1
    · exact List.mem_append_right _ ((b1.mem l).mp m).1)
  obtain ⟨d1, d2, d3⟩ := thin_min hn
  refine sorted_one (R := fun a b => rowLe a b = true) (fun a _ b _ => rowLe_anti) c3 d3 c2 d2 fun x => ?_
  rw [d1.mem]
  exact IsMin.join (fun a ma b mb => leM_anti ((hn a ma).trans (hn b mb).symm)) (fun a ma b mb c mc => leM_trans ((hn a ma).trans (hn b mb).symm) ((hn b mb).trans (hn c mc).symm)) a1 b1 c1 x
theorem cov_anti {a b : OpR} (ha : Cn a) (hb : Cn b) (h1 : covM a b = true) (h2 : covM b a = true) : a = b := by
  by_cases c : a = b
  · exact c
  · have l1 := cov_bef ha hb h1 c
    have l2 := cov_bef hb ha h2 fun z => c z.symm
    rcases sizLe_tot.total a b with h | h
    · rw [l2] at h
      cases h
    · rw [l1] at h
      cases h
theorem cov_trans {a b c : OpR} (h1 : covM a b = true) (h2 : covM b c = true) : covM a c = true :=
  (cov_iff a c).mpr ⟨Int.le_trans ((cov_iff a b).mp h1).1 ((cov_iff b c).mp h2).1, fun z => Nat.le_trans (((cov_iff a b).mp h1).2 z) (((cov_iff b c).mp h2).2 z)⟩
theorem out_min (ls : List OpR) : IsMin covM (ls.map canon) (outM ls) ∧ (outM ls).Nodup ∧ (outM ls).Pairwise fun a b => opLe a b = true := by
  have pw := PySem.W.sort_pairwise sizLe_tot (ls.map canon)
  have ms : ∀ x, x ∈ (ls.map canon).mergeSort sizLe ↔ x ∈ ls.map canon := fun x => List.mem_mergeSort
  have cn : ∀ x ∈ ls.map canon, Cn x := fun x m => by
    obtain ⟨r, _, rfl⟩ := List.mem_map.mp m
    exact canon_cn r
  obtain ⟨sub, nd, mem, cv⟩ := thS_inv covM sizLe Cn (fun a _ => (cov_iff a a).mpr ⟨Int.le_refl _, fun _ => Nat.le_refl _⟩) (fun a b c _ _ _ => cov_trans) (fun a b ha hb h n => cov_bef ha hb h n) ((ls.map canon).mergeSort sizLe) [] [] (fun x m => cn x ((ms x).mp m)) pw (List.Sublist.refl _) .nil
    (fun x => ⟨(fun m => nomatch m), fun m => nomatch m.1⟩) (fun y m => nomatch m)
  have e : ((ls.map canon).mergeSort sizLe).foldl (thS covM) [] = opnM ls := rfl
  rw [e] at sub nd mem cv
  have po : (outM ls).Perm (opnM ls) := List.mergeSort_perm _ _
  refine ⟨⟨fun x => ?_, fun y my => ?_⟩, po.nodup_iff.mpr nd, PySem.W.sort_pairwise opLe_tot _⟩
  · rw [po.mem_iff, mem x]
    exact and_congr (ms x) ⟨fun h y my => h y ((ms y).mpr my), fun h y my => h y ((ms y).mp my)⟩
  · obtain ⟨m, mm, c⟩ := cv y ((ms y).mpr my)
    exact ⟨m, po.mem_iff.mpr mm, c⟩
theorem canon_canon (r : OpR) : canon (canon r) = canon r := by
  unfold canon
  rw [show sortL (sortL r.2) = sortL r.2 from List.mergeSort_of_pairwise (sortL_pw r.2)]
theorem out_same {ls ms : List OpR} (h : ∀ x, x ∈ ls.map canon ↔ x ∈ ms.map canon) : outM ls = outM ms := by
  obtain ⟨a1, a2, a3⟩ := out_min ls
  obtain ⟨b1, b2, b3⟩ := out_min ms
  refine sorted_one (R := fun a b => opLe a b = true) (fun a _ b _ => opLe_anti) a3 b3 a2 b2 fun x => ?_
  rw [a1.mem, b1.mem, h x]
  exact and_congr Iff.rfl ⟨fun k y my => k y ((h y).mpr my), fun k y my => k y ((h y).mp my)⟩
theorem out_join (A B : List OpR) : outM (outM A ++ outM B) = outM (A ++ B) := by
  obtain ⟨a1, _, _⟩ := out_min A
  obtain ⟨b1, _, _⟩ := out_min B
  obtain ⟨c1, c2, c3⟩ := out_min (outM A ++ outM B)
  obtain ⟨d1, d2, d3⟩ := out_min (A ++ B)
  have fix : (outM A ++ outM B).map canon = outM A ++ outM B := by
    refine (List.map_congr_left fun x m => ?_).trans (List.map_id _)
    rcases List.mem_append.mp m with m | m
    · obtain ⟨r, _, rfl⟩ := List.mem_map.mp ((a1.mem x).mp m).1
      exact canon_canon r
    · obtain ⟨r, _, rfl⟩ := List.mem_map.mp ((b1.mem x).mp m).1
      exact canon_canon r
  rw [fix] at c1
  have cn : ∀ x ∈ A.map canon ++ B.map canon, Cn x := fun x m => by
    rw [← List.map_append] at m
    obtain ⟨r, _, rfl⟩ := List.mem_map.mp m
    exact canon_cn r
  refine sorted_one (R := fun a b => opLe a b = true) (fun a _ b _ => opLe_anti) c3 d3 c2 d2 fun x => ?_
  rw [d1.mem, List.map_append]
  exact IsMin.join (fun a ma b mb => cov_anti (cn a ma) (cn b mb)) (fun a _ b _ c _ => cov_trans) a1 b1 c1 x
theorem rows_perm {K : PySem.W.Frag} {H : Hp} {xs ys : List V} {ls : List (List Int)} (h : RowsV K H xs ls) (p : ys.Perm xs) : ∃ ms : List (List Int), RowsV K H ys ms ∧ ms.Perm ls := by
  obtain ⟨rs, e1, e2, h3⟩ := rows_ents h
  rw [e1] at p
  obtain ⟨ss, ps, e3⟩ := perm_lift p rs rfl
  refine ⟨ss.map Prod.snd, ?_, ?_⟩
  · rw [e3]
    exact ents_rows fun r m => h3 r (ps.mem_iff.mp m)
  · rw [e2]
    exact ps.map _
end Fb
namespace Fb
open PySem PySem.Spec L2
open PyProof.Rows hiding St
/-! ### what is due, as data -/
def dueR (ls : List (List Int)) : PyData := if thinM ls = [] then .none else .tuple ((thinM ls).map rowD)
def dueO (rs : List OpR) : PyData := if opnM rs = [] then .none else .tuple ((outM rs).map openD)
theorem dueR_dp {K : PySem.W.Frag} {H : Hp} {v : V} {ls : List (List Int)} (h : (thinM ls = [] ∧ v = .non) ∨ thinM ls ≠ [] ∧ ∃ D ys, v = .ref D ∧ H D = some (.tup ys) ∧ RowsV K H ys (thinM ls)) : Dp K H v (dueR ls) := by
  unfold dueR
  rcases h with ⟨e, rfl⟩ | ⟨n, D, ys, rfl, h1, h2⟩
  · rw [if_pos e]
    exact .non
  · rw [if_neg n]
    exact .tup (SqT.of h1) h2
theorem rowsO_dp {K : PySem.W.Frag} {H : Hp} : ∀ {vs : List V} {rs : List OpR}, RowsO K H vs rs → DpAll K H vs (rs.map openD)
  | _, _, .nil => .nil
  | _, _, .cons a t => .cons a.op.dp (rowsO_dp t)
theorem dueO_dp {K : PySem.W.Frag} {H : Hp} {v : V} {rs : List OpR} (h : (opnM rs = [] ∧ v = .non) ∨ opnM rs ≠ [] ∧ ∃ D ys, v = .ref D ∧ H D = some (.tup ys) ∧ RowsO K H ys (outM rs)) : Dp K H v (dueO rs) := by
  unfold dueO
  rcases h with ⟨e, rfl⟩ | ⟨n, D, ys, rfl, h1, h2⟩
  · rw [if_pos e]
    exact .non
  · rw [if_neg n]
    exact .tup (SqT.of h1) (rowsO_dp h2)
theorem lk_ints {n k : Nat} {l : List Int} (hl : l.length = n) (h : n ≤ 1000) : Lk (k + 2) (rowD l) := by
  refine ⟨by rw [List.length_map]; omega, fun d hd => ?_⟩
  obtain ⟨i, _, rfl⟩ := List.mem_map.mp hd
  exact trivial
theorem lk_rows {n k : Nat} {ls : List (List Int)} (hn : ∀ l ∈ ls, l.length = n) (h : n ≤ 1000) (z : ls.length ≤ 1000) : ∀ d ∈ ls.map rowD, Lk (k + 2) d := fun d hd => by
  obtain ⟨l, m, rfl⟩ := List.mem_map.mp hd
  exact lk_ints (hn l m) h
theorem lk_dueR {n k : Nat} {ls : List (List Int)} (hn : ∀ l ∈ ls, l.length = n) (h : n ≤ 1000) (z : ls.length ≤ 1000) : Lk (k + 3) (dueR ls) := by
  obtain ⟨a, b, _⟩ := thin_min hn
  unfold dueR
  split
  · exact trivial
  · have zl := nodup_len b fun x m => ((a.mem x).mp m).1
    exact ⟨by rw [List.length_map]; omega, lk_rows (fun l m => hn l ((a.mem l).mp m).1) h (by omega)⟩
theorem lk_open {k : Nat} {r : OpR} (h : r.2.length ≤ 1000) : Lk (k + 3) (openD r) := by
  refine ⟨by show 2 ≤ 100000; decide, fun d hd => ?_⟩
  simp only [List.mem_cons, List.not_mem_nil, or_false] at hd
  rcases hd with rfl | rfl
  · exact trivial
  · refine ⟨by rw [List.length_map]; omega, fun d hd => ?_⟩
    obtain ⟨i, _, rfl⟩ := List.mem_map.mp hd
    exact trivial
theorem out_len {rs : List OpR} (h : ∀ r ∈ rs, r.2.length ≤ 1000) : (∀ r ∈ outM rs, r.2.length ≤ 1000) ∧ (outM rs).length ≤ rs.length := by
  obtain ⟨a, b, _⟩ := out_min rs
  refine ⟨fun r m => ?_, ?_⟩
  · obtain ⟨x, mx, rfl⟩ := List.mem_map.mp ((a.mem r).mp m).1
    show (sortL x.2).length ≤ 1000
    rw [show (sortL x.2).length = x.2.length from List.length_mergeSort _]
    exact h x mx
  · have := nodup_len b fun x m => ((a.mem x).mp m).1
    rwa [List.length_map] at this
theorem lk_dueO {k : Nat} {rs : List OpR} (h : ∀ r ∈ rs, r.2.length ≤ 1000) (z : rs.length ≤ 1000) : Lk (k + 4) (dueO rs) := by
  obtain ⟨a, b⟩ := out_len h
  unfold dueO
  split
  · exact trivial
  · refine ⟨by rw [List.length_map]; omega, fun d hd => ?_⟩
    obtain ⟨r, m, rfl⟩ := List.mem_map.mp hd
    exact lk_open (a r m)
theorem opens_dp {K : PySem.W.Frag} {H : Hp} {ps : List (V × OpR)} (h : ∀ p ∈ ps, OpenV K H p.1 p.2) : DpAll K H (ps.map Prod.fst) ((ps.map Prod.snd).map openD) := by
  rw [List.map_map]
  exact dpAll_map fun p m => (h p m).dp
theorem opens_perm {ps : List (V × OpR)} {ys : List V} (p : ys.Perm (ps.map Prod.fst)) : ∃ qs : List (V × OpR), ys = qs.map Prod.fst ∧ qs.Perm ps := by
  obtain ⟨qs, h1, h2⟩ := perm_lift p ps rfl
  exact ⟨qs, h2, h1⟩
theorem opn_nil : opnM [] = [] := by
  unfold opnM
  rw [List.map_nil, List.mergeSort_nil]
  rfl
theorem thin_nil : thinM [] = [] := by
  unfold thinM
  rw [List.mergeSort_nil]
  rfl
theorem opn_none {ls ms : List OpR} (h : ls.Perm ms) : opnM ls = [] ↔ opnM ms = [] := by
  constructor
  · intro e
    by_cases c : ms = []
    · rw [c]
      exact opn_nil
    · exact absurd e (open_some fun z => c (by rw [z] at h; exact (List.Perm.nil_eq h).symm))
  · intro e
    by_cases c : ls = []
    · rw [c]
      exact opn_nil
    · exact absurd e (open_some fun z => c (by rw [z] at h; exact List.Perm.eq_nil h))
theorem dueO_perm {ls ms : List OpR} (h : ls.Perm ms) : dueO ls = dueO ms := by
  unfold dueO
  rw [out_same (ls := ls) (ms := ms) fun x => (h.map canon).mem_iff]
  by_cases c : opnM ls = []
  · rw [if_pos c, if_pos ((opn_none h).mp c)]
  · rw [if_neg c, if_neg fun z => c ((opn_none h).mpr z)]
theorem dueR_perm {n : Nat} {ls ms : List (List Int)} (hn : ∀ l ∈ ls, l.length = n) (h : ls.Perm ms) : dueR ls = dueR ms := by
  unfold dueR
  rw [thin_same hn fun x => h.mem_iff]
end Fb
namespace Fb
open PySem PySem.Spec L2
open PyProof.Rows hiding St
/-- a list of rows of n numbers -/
def RwL (K : PySem.W.Frag) (n : Nat) (H : Hp) (R : Addr) (ls : List (List Int)) : Prop := ∃ xs, H R = some (.lst xs) ∧ RowsV K H xs ls ∧ ∀ l ∈ ls, l.length = n
/-- a list of rows of a price and a lot -/
def OpL (K : PySem.W.Frag) (H : Hp) (R : Addr) (rs : List OpR) : Prop := ∃ ps : List (V × OpR), H R = some (.lst (ps.map Prod.fst)) ∧ (∀ p ∈ ps, OpenV K H p.1 p.2 ∧ p.2.2.length ≤ 1000) ∧ ps.map Prod.snd = rs
theorem RwL.mono {K : PySem.W.Frag} {n : Nat} {H H' : Hp} {R : Addr} {ls : List (List Int)} (h : RwL K n H R ls) (e : Same H H') : RwL K n H' R ls := by
  obtain ⟨xs, h1, h2, h3⟩ := h
  exact ⟨xs, e _ _ h1, h2.mono e, h3⟩
theorem OpL.mono {K : PySem.W.Frag} {H H' : Hp} {R : Addr} {rs : List OpR} (h : OpL K H R rs) (e : Same H H') : OpL K H' R rs := by
  obtain ⟨ps, h1, h2, h3⟩ := h
  exact ⟨ps, e _ _ h1, fun p m => ⟨(h2 p m).1.mono e, (h2 p m).2⟩, h3⟩
theorem depth_rows : ∀ ls : List (List Int), PyData.depthAll (ls.map rowD) ≤ 1
  | [] => Nat.zero_le _
  | l :: ls => by
    rw [List.map_cons, PyData.depthAll]
    have := depth_rows ls
    have e : (rowD l).depth = 1 := by
      show PyData.depthAll _ + 1 = 1
      rw [PySem.W.depth_ints]
    omega
theorem RwL.dp {K : PySem.W.Frag} {n : Nat} {H : Hp} {R : Addr} {ls : List (List Int)} (h : RwL K n H R ls) : Dp K H (.ref R) (.list (ls.map rowD)) := by
  obtain ⟨xs, h1, h2, _⟩ := h
  exact .lst (SqL.of h1) h2
theorem OpL.dp {K : PySem.W.Frag} {H : Hp} {R : Addr} {rs : List OpR} (h : OpL K H R rs) : Dp K H (.ref R) (.list (rs.map openD)) := by
  obtain ⟨ps, h1, h2, rfl⟩ := h
  exact .lst (SqL.of h1) (opens_dp fun p m => (h2 p m).1)
theorem min_nil (d : PyData) : min d.depth (PyData.list []).depth ≤ 60 := by
  have : (PyData.list []).depth = 1 := rfl
  omega
theorem eqv_nil {α : Type} (f : α → PyData) (ls : List α) : PyData.eqv (.list (ls.map f)) (.list []) = ls.isEmpty := by
  rw [eqv_list_nil]
  cases ls <;> rfl
theorem RwL.app {K : PySem.W.Frag} {n : Nat} {H : Hp} {A B : Addr} {ls ms : List (List Int)} (h1 : RwL K n H A ls) (h2 : RwL K n H B ms) (z : ls.length + ms.length ≤ 1000) {Q : VK} (q : ∀ H' c, Same H H' → RwL K n H' c (ls ++ ms) → Q (.ref c) H') : rCat (.ref A) (.ref B) H Q := by
  obtain ⟨xs, a1, a2, a3⟩ := h1
  obtain ⟨ys, b1, b2, b3⟩ := h2
  refine ⟨A, B, xs, ys, rfl, rfl, a1, b1, size5' (by rw [a2.len, b2.len]; omega), fun p np => q _ p (grow np) ⟨_, upd_same, (a2.mono (grow np)).app (b2.mono (grow np)), fun l m => ?_⟩⟩
  rcases List.mem_append.mp m with m | m
  · exact a3 l m
  · exact b3 l m
theorem OpL.app {K : PySem.W.Frag} {H : Hp} {A B : Addr} {ls ms : List OpR} (h1 : OpL K H A ls) (h2 : OpL K H B ms) (z : ls.length + ms.length ≤ 1000) {Q : VK} (q : ∀ H' c, Same H H' → OpL K H' c (ls ++ ms) → Q (.ref c) H') : rCat (.ref A) (.ref B) H Q := by
  obtain ⟨ps, a1, a2, rfl⟩ := h1
  obtain ⟨qs, b1, b2, rfl⟩ := h2
  rw [List.length_map, List.length_map] at z
  refine ⟨A, B, _, _, rfl, rfl, a1, b1, size5' (by rw [List.length_map, List.length_map]; omega), fun p np => q _ p (grow np) ⟨ps ++ qs, by rw [upd_same, List.map_append], fun x m => ?_, List.map_append ..⟩⟩
  rcases List.mem_append.mp m with m | m
  · exact ⟨(a2 x m).1.mono (grow np), (a2 x m).2⟩
  · exact ⟨(b2 x m).1.mono (grow np), (b2 x m).2⟩
theorem dueR_nil : dueR [] = .none := if_pos thin_nil
theorem dueO_nil : dueO [] = .none := if_pos opn_nil
theorem dueR_of {K : PySem.W.Frag} {H : Hp} {D : Addr} {ys : List V} {ls : List (List Int)} (n : ls ≠ []) (h1 : H D = some (.tup ys)) (h2 : RowsV K H ys (thinM ls)) : Dp K H (.ref D) (dueR ls) := dueR_dp (.inr ⟨thin_some n, D, ys, rfl, h1, h2⟩)
theorem dueO_of {K : PySem.W.Frag} {H : Hp} {D : Addr} {ys : List V} {rs : List OpR} (n : rs ≠ []) (h1 : H D = some (.tup ys)) (h2 : RowsO K H ys (outM rs)) : Dp K H (.ref D) (dueO rs) := dueO_dp (.inr ⟨open_some n, D, ys, rfl, h1, h2⟩)
end Fb
namespace Fb
open PySem PySem.Spec L2
theorem dueR_eq {ls ms : List (List Int)} (h : thinM ls = thinM ms) : dueR ls = dueR ms := by
  unfold dueR
  rw [h]
theorem dueO_eq {ls ms : List OpR} (h : outM ls = outM ms) (h2 : opnM ls = [] ↔ opnM ms = []) : dueO ls = dueO ms := by
  unfold dueO
  rw [h]
  by_cases c : opnM ls = []
  · rw [if_pos c, if_pos (h2.mp c)]
  · rw [if_neg c, if_neg fun z => c (h2.mpr z)]
end Fb

set_option Elab.async false
set_option linter.all false
set_option maxRecDepth 100000
set_option maxHeartbeats 4000000
/-! chains of lines alone least, trees of ways, what a whole way costs -/
namespace Fb
open PySem PySem.Spec L2
open PyProof.Rows hiding St
open LamX (ExtN Tabs TabB)
/-! ### alone least at a place that is not the first -/
def AloneP (t : Ln) (S : List Ln) (roof : Int) : Prop := ∃ n d : Int, 0 < n ∧ 0 < d ∧ n ≤ roof * d ∧ ∀ u ∈ S, u ≠ t → vA t n d < vA u n d
structure Chn (roof : Int) (S : List Ln) : Prop where
  fall : S.Pairwise fun x y => y.2 < x.2
  al : ∀ t ∈ S, AloneP t S roof
theorem mid_lt {a b c e n d : Int} (h : a * e < c * b) (hn : n = a + c) (hd : d = b + e) : a * d < b * n ∧ e * n < c * d := by
  subst hn hd
  rw [Int.mul_add, Int.mul_add, Int.mul_add, Int.mul_add]
  have e1 := Int.mul_comm a b
  have e2 := Int.mul_comm b c
  have e3 := Int.mul_comm e a
  have e4 := Int.mul_comm e c
  omega
theorem va_lt (t u : Ln) (n d : Int) : vA t n d < vA u n d ↔ (t.1 - u.1) * d < (u.2 - t.2) * n := by
  unfold vA
  rw [Int.sub_mul, Int.sub_mul]
  omega
theorem good_alone {roof : Int} (hr : 1 ≤ roof) {S : List Ln} (g : Good roof S.reverse) : ∀ t ∈ S, AloneP t S roof := by
  intro t ht
  obtain ⟨pre, suf, e⟩ := List.append_of_mem (List.mem_reverse.mpr ht)
  have fin : ∀ n d : Int, 0 < n → 0 < d → n ≤ roof * d → (∀ z ∈ suf, vA t n d < vA z n d) → (∀ z ∈ pre, vA t n d < vA z n d) → AloneP t S roof := fun n d h1 h2 h3 h4 h5 => by
    refine ⟨n, d, h1, h2, h3, fun u hu ne => ?_⟩
    have hu := List.mem_reverse.mpr hu
    rw [e] at hu
    rcases List.mem_append.mp hu with hu | hu
    · exact h5 u hu
    · rcases List.mem_cons.mp hu with hu | hu
      · exact absurd hu ne
      · exact h4 u hu
  rw [e] at g
  have gt := good_at g
  rcases List.eq_nil_or_concat pre with rfl | ⟨p, u, rfl⟩
  · cases suf with
    | nil => exact fin 1 1 (by decide) (by decide) (by omega) (fun z h => nomatch h) (fun z h => nomatch h)
    | cons s r =>
      have b := blw_lt gt.2.1
      refine fin roof 1 (by omega) (by decide) (by omega) (chain_down (by decide) gt fun s' r' es => ?_) (fun z h => nomatch h)
      cases es
      unfold vA
      omega
  · have gu : Good roof (u :: t :: suf) := good_at (pre := p) (by rw [List.concat_eq_append, List.append_assoc] at g; exact g)
    have b1 := gu.1
    have b2 := blw_lt gu.2.1
    rw [List.concat_eq_append] at g fin
    cases suf with
    | nil =>
      have d0 : (0 : Int) < t.2 - u.2 + 1 := by
        have := b1.2
        omega
      have m := Int.mul_le_mul_of_nonneg_right (show (1 : Int) ≤ roof from hr) (Int.le_of_lt d0)
      refine fin 1 (t.2 - u.2 + 1) (by decide) d0 (by omega) (fun z h => nomatch h) (chain_up d0 g fun u' p' es => ?_).2
      obtain ⟨_, e2⟩ := List.append_inj' es rfl
      cases e2
      rw [va_lt]
      have := b1.1
      have m2 := Int.mul_le_mul_of_nonneg_right (show t.1 - u.1 ≤ -1 by omega) (Int.le_of_lt d0)
      have e3 : (u.2 - t.2) * 1 = u.2 - t.2 := Int.mul_one _
      omega
    | cons s r =>
      have c1 := gt.1
      have c2 := blw_lt gt.2.1
      have nv := nev_lt (gu.2.2.1 s r rfl)
      obtain ⟨k1, k2⟩ := mid_lt (a := t.1 - s.1) (b := s.2 - t.2) (c := u.1 - t.1) (e := t.2 - u.2) nv rfl rfl
      have a1 := b1.1
      have a2 := b1.2
      have a3 := c1.1
      have a4 := c1.2
      have d0 : (0 : Int) < s.2 - t.2 + (t.2 - u.2) := by omega
      refine fin (t.1 - s.1 + (u.1 - t.1)) (s.2 - t.2 + (t.2 - u.2)) (by omega) d0 ?_ (chain_down d0 gt fun s' r' es => ?_) (chain_up d0 g fun u' p' es => ?_).2
      · rw [Int.mul_add, Int.mul_sub, Int.mul_sub]
        have e1 := Int.mul_comm roof s.2
        have e2 := Int.mul_comm roof t.2
        have e3 := Int.mul_comm roof u.2
        omega
      · cases es
        rw [va_lt]
        exact k1
      · obtain ⟨_, e2⟩ := List.append_inj' es rfl
        cases e2
        rw [va_lt]
        have := Int.neg_lt_neg k2
        rw [← Int.neg_mul, ← Int.neg_mul] at this
        rw [show t.1 - u.1 = -(u.1 - t.1) by omega, show u.2 - t.2 = -(t.2 - u.2) by omega]
        exact this
theorem chn_of_good {roof : Int} (hr : 1 ≤ roof) {S : List Ln} (g : Good roof S.reverse) : Chn roof S :=
  ⟨(List.pairwise_reverse.mp (good_rows g)).imp fun h => h.2, good_alone hr g⟩
theorem Chn.bf {roof : Int} {S : List Ln} (h : Chn roof S) : Rows S := by
  have key : S.Pairwise fun x y => x ∈ S ∧ y ∈ S ∧ y.2 < x.2 := List.Pairwise.and_mem.mp h.fall |>.imp fun ⟨a, b, c⟩ => ⟨a, b, c⟩
  refine key.imp fun {x y} ⟨hx, hy, lt⟩ => ⟨?_, lt⟩
  obtain ⟨n, d, n0, d0, _, k⟩ := h.al x hx
  have k := (va_lt x y n d).mp (k y hy fun e => by rw [e] at lt; omega)
  have m := Int.mul_lt_mul_of_pos_right (show y.2 - x.2 < 0 by omega) n0
  rw [Int.zero_mul] at m
  have : (x.1 - y.1) * d < 0 * d := by omega
  have := Int.lt_of_mul_lt_mul_right this (Int.le_of_lt d0)
  omega
/-- two lines next to each other meet at a setting -/
theorem Chn.joint {roof : Int} {S : List Ln} (h : Chn roof S) {i : Nat} {t u : Ln} (ht : S[i]? = some t) (hu : S[i + 1]? = some u) : 0 ≤ u.1 - t.1 ∧ 0 < t.2 - u.2 ∧ u.1 - t.1 ≤ roof * (t.2 - u.2) := by
  obtain ⟨h1, rfl⟩ := List.getElem?_eq_some_iff.mp ht
  obtain ⟨h2, rfl⟩ := List.getElem?_eq_some_iff.mp hu
  have b := List.pairwise_iff_getElem.mp h.bf i (i + 1) h1 h2 (Nat.lt_succ_self i)
  have b1 := b.1
  have b2 := b.2
  obtain ⟨n, d, n0, d0, le, k⟩ := h.al S[i + 1] (List.getElem_mem h2)
  have k := (va_lt _ _ n d).mp (k S[i] (List.getElem_mem h1) fun e => by rw [e] at b2; omega)
  refine ⟨by omega, by omega, ?_⟩
  have m := Int.mul_le_mul_of_nonneg_left le (show 0 ≤ S[i].2 - S[i + 1].2 by omega)
  have m2 : (S[i + 1].1 - S[i].1) * d < roof * (S[i].2 - S[i + 1].2) * d := by
    have e1 : (S[i].2 - S[i + 1].2) * (roof * d) = roof * (S[i].2 - S[i + 1].2) * d := by grind
    omega
  exact Int.le_of_lt (Int.lt_of_mul_lt_mul_right m2 (Int.le_of_lt d0))
/-! ### alone is long, long is alone -/
theorem long_alone {t : Ln} {S : List Ln} {roof : Int} (h : AloneP t S roof) : longM t S roof = true := by
  obtain ⟨n, d, n0, hd, le, k⟩ := h
  have same : ∀ u ∈ S, u.2 = t.2 → t.1 ≤ u.1 := fun u hu e => by
    by_cases c : u = t
    · rw [c]
      exact Int.le_refl _
    · have := (va_lt t u n d).mp (k u hu c)
      rw [e, Int.sub_self, Int.zero_mul] at this
      have : (t.1 - u.1) * d < 0 * d := by omega
      have := Int.lt_of_mul_lt_mul_right this (Int.le_of_lt hd)
      omega
  obtain ⟨⟨a1, a2⟩, b1, b2⟩ := span_fold (t := t) (A := fun l => 0 < l.2 ∧ l.1 * d < l.2 * n) (B := fun l => 0 < l.2 ∧ l.2 * n ≤ l.1 * d) S ((0, 1), (roof, 1)) ⟨by show (0 : Int) < 1; decide, by show 0 * d < 1 * n; omega⟩ ⟨by show (0 : Int) < 1; decide, by show 1 * n ≤ roof * d; omega⟩ (fun u hu => by
    refine ⟨fun e => ⟨by show 0 < u.2 - t.2; omega, ?_⟩, fun e => ⟨by show 0 < t.2 - u.2; omega, ?_⟩, same u hu⟩
    · have := (va_lt t u n d).mp (k u hu fun c => by rw [c] at e; omega)
      show (t.1 - u.1) * d < (u.2 - t.2) * n
      exact this
    · have := (va_lt t u n d).mp (k u hu fun c => by rw [c] at e; omega)
      show (t.2 - u.2) * n ≤ (u.1 - t.1) * d
      rw [Int.sub_mul, Int.sub_mul] at this ⊢
      omega)
  refine decide_eq_true ?_
  change 0 < (spanM t S roof).1.2 at a1
  change (spanM t S roof).1.1 * d < (spanM t S roof).1.2 * n at a2
  change 0 < (spanM t S roof).2.2 at b1
  change (spanM t S roof).2.2 * n ≤ (spanM t S roof).2.1 * d at b2
  generalize (spanM t S roof).1 = lo at *
  generalize (spanM t S roof).2 = hi at *
  have m1 := Int.mul_lt_mul_of_pos_right a2 b1
  have m2 := Int.mul_le_mul_of_nonneg_right b2 (Int.le_of_lt a1)
  have m3 : lo.1 * hi.2 * d < hi.1 * lo.2 * d := by grind
  exact Int.lt_of_mul_lt_mul_right m3 (Int.le_of_lt hd)
theorem fr_trans {a b c d e f : Int} (hb : 0 < b) (hd : 0 < d) (hf : 0 < f) (h1 : a * d ≤ c * b) (h2 : c * f ≤ e * d) : a * f ≤ e * b := by
  have m1 := Int.mul_le_mul_of_nonneg_right h1 (Int.le_of_lt hf)
  have m2 := Int.mul_le_mul_of_nonneg_right h2 (Int.le_of_lt hb)
  have m3 : a * f * d ≤ e * b * d := by grind
  exact Int.le_of_mul_le_mul_right m3 hd
theorem span_neg (t : Ln) : ∀ (S : List Ln) (s : Ln × Ln), 0 < s.2.2 → s.2.1 < 0 → (S.foldl (spanS t) s).2.1 < 0
  | [], _, _, h => h
  | u :: S, s, h0, h1 => by
    rw [List.foldl_cons]
    refine span_neg t S _ ?_ ?_ <;> unfold spanS
    · repeat' split
      all_goals first | exact h0 | (show (0 : Int) < t.2 - u.2; omega) | (show (0 : Int) < 1; decide)
    · repeat' split
      all_goals first | exact h1 | (show (-1 : Int) < 0; decide) | skip
      rename_i c1 c2 c3
      show u.1 - t.1 < 0
      have m := Int.mul_lt_mul_of_pos_right h1 (show 0 < t.2 - u.2 by omega)
      rw [Int.zero_mul] at m
      have : (u.1 - t.1) * s.2.2 < 0 * s.2.2 := by omega
      exact Int.lt_of_mul_lt_mul_right this (Int.le_of_lt h0)
theorem span_all (t : Ln) : ∀ (S : List Ln) (s : Ln × Ln), 0 < s.1.2 → 0 < s.2.2 → 0 ≤ (S.foldl (spanS t) s).2.1 →
    0 < (S.foldl (spanS t) s).1.2 ∧ 0 < (S.foldl (spanS t) s).2.2 ∧ s.1.1 * (S.foldl (spanS t) s).1.2 ≤ (S.foldl (spanS t) s).1.1 * s.1.2 ∧ (S.foldl (spanS t) s).2.1 * s.2.2 ≤ s.2.1 * (S.foldl (spanS t) s).2.2 ∧
    ∀ u ∈ S, (t.2 < u.2 → (t.1 - u.1) * (S.foldl (spanS t) s).1.2 ≤ (S.foldl (spanS t) s).1.1 * (u.2 - t.2)) ∧ (u.2 < t.2 → (S.foldl (spanS t) s).2.1 * (t.2 - u.2) ≤ (u.1 - t.1) * (S.foldl (spanS t) s).2.2) ∧ (u.2 = t.2 → t.1 ≤ u.1)
  | [], s, h1, h2, _ => ⟨h1, h2, Int.le_refl _, Int.le_refl _, fun u hu => nomatch hu⟩
  | u :: S, s, h1, h2, h3 => by
    rw [List.foldl_cons] at h3 ⊢
    have st : 0 < (spanS t s u).1.2 ∧ 0 < (spanS t s u).2.2 ∧ s.1.1 * (spanS t s u).1.2 ≤ (spanS t s u).1.1 * s.1.2 ∧ (0 ≤ (spanS t s u).2.1 → (spanS t s u).2.1 * s.2.2 ≤ s.2.1 * (spanS t s u).2.2) ∧
        (t.2 < u.2 → (t.1 - u.1) * (spanS t s u).1.2 ≤ (spanS t s u).1.1 * (u.2 - t.2)) ∧ (u.2 < t.2 → (spanS t s u).2.1 * (t.2 - u.2) ≤ (u.1 - t.1) * (spanS t s u).2.2) ∧ (u.2 = t.2 → 0 ≤ (spanS t s u).2.1 → t.1 ≤ u.1) := by
      unfold spanS
      repeat' split
      · rename_i c1 c2
        refine ⟨by show 0 < u.2 - t.2; omega, h2, ?_, fun _ => Int.le_refl _, fun _ => Int.le_refl _, fun _ => by omega, fun _ => by omega⟩
        show s.1.1 * (u.2 - t.2) ≤ (t.1 - u.1) * s.1.2
        omega
      · rename_i c1 c2
        exact ⟨h1, h2, Int.le_refl _, fun _ => Int.le_refl _, fun _ => by omega, fun _ => by omega, fun _ => by omega⟩
      · rename_i c1 c2 c3
        refine ⟨h1, by show 0 < t.2 - u.2; omega, Int.le_refl _, fun _ => ?_, fun _ => by omega, fun _ => Int.le_refl _, fun _ => by omega⟩
        show (u.1 - t.1) * s.2.2 ≤ s.2.1 * (t.2 - u.2)
        omega
      · rename_i c1 c2 c3
        exact ⟨h1, h2, Int.le_refl _, fun _ => Int.le_refl _, fun _ => by omega, fun _ => by omega, fun _ => by omega⟩
      · rename_i c1 c2 c3
        exact ⟨h1, by show (0 : Int) < 1; decide, Int.le_refl _, fun h => absurd h (by show ¬ (0 : Int) ≤ -1; decide), fun _ => by omega, fun _ => by omega, fun _ h => absurd h (by show ¬ (0 : Int) ≤ -1; decide)⟩
      · rename_i c1 c2 c3
        exact ⟨h1, h2, Int.le_refl _, fun _ => Int.le_refl _, fun _ => by omega, fun _ => by omega, fun _ _ => by omega⟩
    obtain ⟨p1, p2, p3, p4, p5, p6, p7⟩ := st
    have nn : 0 ≤ (spanS t s u).2.1 := by
      by_cases c : 0 ≤ (spanS t s u).2.1
      · exact c
      · have := span_neg t S (spanS t s u) p2 (by omega)
        omega
    have p4 := p4 nn
    obtain ⟨q1, q2, q3, q4, q5⟩ := span_all t S (spanS t s u) p1 p2 h3
    refine ⟨q1, q2, fr_trans h1 p1 q1 p3 q3, fr_trans q2 p2 h2 q4 p4, fun v hv => ?_⟩
    rcases List.mem_cons.mp hv with rfl | hv
    · exact ⟨fun e => fr_trans (show 0 < v.2 - t.2 by omega) p1 q1 (p5 e) q3, fun e => fr_trans q2 p2 (show 0 < t.2 - v.2 by omega) q4 (p6 e), fun e => p7 e nn⟩
    · exact q5 v hv
theorem alone_long {t : Ln} {S : List Ln} {roof : Int} (h : longM t S roof = true) : AloneP t S roof := by
  have h := of_decide_eq_true h
  have key := span_all t S ((0, 1), (roof, 1)) (by show (0 : Int) < 1; decide) (by show (0 : Int) < 1; decide)
  change 0 ≤ (spanM t S roof).2.1 → 0 < (spanM t S roof).1.2 ∧ 0 < (spanM t S roof).2.2 ∧ 0 * (spanM t S roof).1.2 ≤ (spanM t S roof).1.1 * 1 ∧ (spanM t S roof).2.1 * 1 ≤ roof * (spanM t S roof).2.2 ∧
    ∀ u ∈ S, (t.2 < u.2 → (t.1 - u.1) * (spanM t S roof).1.2 ≤ (spanM t S roof).1.1 * (u.2 - t.2)) ∧ (u.2 < t.2 → (spanM t S roof).2.1 * (t.2 - u.2) ≤ (u.1 - t.1) * (spanM t S roof).2.2) ∧ (u.2 = t.2 → t.1 ≤ u.1) at key
  have inv : 0 < (spanM t S roof).1.2 ∧ 0 ≤ (spanM t S roof).1.1 ∧ 0 < (spanM t S roof).2.2 := by
    refine fold_inv (fun s : Ln × Ln => 0 < s.1.2 ∧ 0 ≤ s.1.1 ∧ 0 < s.2.2) (spanS t) S ((0, 1), (roof, 1)) ⟨by show (0 : Int) < 1; decide, by show (0 : Int) ≤ 0; decide, by show (0 : Int) < 1; decide⟩ ?_
    rintro s u hu ⟨b1, b2, b3⟩
    unfold spanS
    repeat' split
    · rename_i c1 c2
      refine ⟨by show 0 < u.2 - t.2; omega, ?_, b3⟩
      show 0 ≤ t.1 - u.1
      have m := Int.mul_nonneg b2 (show 0 ≤ u.2 - t.2 by omega)
      have : 0 * s.1.2 < (t.1 - u.1) * s.1.2 := by omega
      exact Int.le_of_lt (Int.lt_of_mul_lt_mul_right this (Int.le_of_lt b1))
    · exact ⟨b1, b2, b3⟩
    · rename_i c1 c2 c3
      exact ⟨b1, b2, by show 0 < t.2 - u.2; omega⟩
    · exact ⟨b1, b2, b3⟩
    · exact ⟨b1, b2, by show (0 : Int) < 1; decide⟩
    · exact ⟨b1, b2, b3⟩
  generalize (spanM t S roof).1 = lo at *
  generalize (spanM t S roof).2 = hi at *
  obtain ⟨i1, i2, i3⟩ := inv
  have hi0 : 0 < hi.1 := by
    have m := Int.mul_nonneg i2 (Int.le_of_lt i3)
    have : 0 * lo.2 < hi.1 * lo.2 := by omega
    exact Int.lt_of_mul_lt_mul_right this (Int.le_of_lt i1)
  obtain ⟨_, _, _, k4, k5⟩ := key (Int.le_of_lt hi0)
  obtain ⟨m1, m2⟩ := mid_lt h rfl rfl
  have d0 : 0 < lo.2 + hi.2 := by omega
  refine ⟨lo.1 + hi.1, lo.2 + hi.2, by omega, d0, ?_, fun u hu ne => ?_⟩
  · have k4 : hi.1 ≤ roof * hi.2 := by omega
    have e1 := Int.mul_le_mul_of_nonneg_right k4 (Int.le_of_lt i1)
    have e2 : lo.1 * hi.2 < roof * lo.2 * hi.2 := by grind
    have e3 := Int.lt_of_mul_lt_mul_right e2 (Int.le_of_lt i3)
    rw [Int.mul_add]
    omega
  · rw [va_lt]
    obtain ⟨q1, q2, q3⟩ := k5 u hu
    rcases Int.lt_trichotomy t.2 u.2 with c | c | c
    · have a1 := Int.mul_le_mul_of_nonneg_right (q1 c) (Int.le_of_lt d0)
      have a2 := Int.mul_lt_mul_of_pos_right m1 (show 0 < u.2 - t.2 by omega)
      have a3 : (t.1 - u.1) * (lo.2 + hi.2) * lo.2 < (u.2 - t.2) * (lo.1 + hi.1) * lo.2 := by grind
      exact Int.lt_of_mul_lt_mul_right a3 (Int.le_of_lt i1)
    · have q3 := q3 c.symm
      have : t.1 < u.1 := by
        rcases Int.lt_or_eq_of_le q3 with z | z
        · exact z
        · exact absurd (Prod.ext z.symm c.symm) ne
      have m := Int.mul_lt_mul_of_pos_right (show t.1 - u.1 < 0 by omega) d0
      rw [Int.zero_mul] at m
      rw [c, Int.sub_self, Int.zero_mul]
      exact m
    · have a1 := Int.mul_le_mul_of_nonneg_right (q2 c) (Int.le_of_lt d0)
      have a2 := Int.mul_lt_mul_of_pos_right m2 (show 0 < t.2 - u.2 by omega)
      have a3 : (t.2 - u.2) * (lo.1 + hi.1) * hi.2 < (u.1 - t.1) * (lo.2 + hi.2) * hi.2 := by grind
      have a4 := Int.lt_of_mul_lt_mul_right a3 (Int.le_of_lt i3)
      rw [Int.sub_mul, Int.sub_mul] at a4 ⊢
      omega
end Fb

set_option Elab.async false
set_option linter.all false
set_option maxRecDepth 100000
set_option maxHeartbeats 4000000
/-! trees of ways, what a whole way costs; a method of one of two classes; sorted by a fallen key -/
namespace Fb
open PySem PySem.Spec L2
open PyProof.Rows hiding St
open LamX (ExtN Tabs TabB)
/-! ### trees -/
inductive Tr
  | leaf (k : Nat)
  | node (b : Bool) (l r : Tr)
def Tr.dat : Tr → PyData
  | .leaf k => .int k
  | .node b l r => .tuple [.str (if b = true then "best" else "then"), l.dat, r.dat]
def Tr.lvs : Tr → Nat
  | .leaf _ => 1
  | .node _ l r => l.lvs + r.lvs
def Tr.ok : Tr → Prop
  | .leaf k => k < 3
  | .node _ l r => l.ok ∧ r.ok
theorem Tr.pos : ∀ t : Tr, 0 < t.lvs
  | .leaf _ => Nat.one_pos
  | .node _ l r => Nat.add_pos_left (Tr.pos l) _
def Tr.raw (lots : Nat → List Ln) : Tr → List Ln
  | .leaf k => lots k
  | .node b l r => if b = true then l.raw lots ++ r.raw lots else sumsM (l.raw lots) (r.raw lots)
theorem mem_sums {A B : List Ln} {x : Ln} : x ∈ sumsM A B ↔ ∃ p ∈ A, ∃ q ∈ B, x = (p.1 + q.1, p.2 + q.2) := by
  unfold sumsM
  rw [List.mem_flatMap]
  constructor
  · rintro ⟨p, hp, hx⟩
    obtain ⟨q, hq, rfl⟩ := List.mem_map.mp hx
    exact ⟨p, hp, q, hq, rfl⟩
  · rintro ⟨p, hp, q, hq, rfl⟩
    exact ⟨p, hp, List.mem_map.mpr ⟨q, hq, rfl⟩⟩
/-- rows of m leaves -/
def BdN (m : Nat) (r : Ln) : Prop := 0 ≤ r.1 ∧ r.1 ≤ 1000000 * (m : Int) ∧ 0 ≤ r.2 ∧ r.2 ≤ 5 * (m : Int)
theorem BdN.h {m : Nat} {r : Ln} (h : BdN m r) (z : m ≤ 5) : BdH r := by
  obtain ⟨a, b, c, d⟩ := h
  exact ⟨a, by omega, c, by omega⟩
structure LotsOk (lots : Nat → List Ln) : Prop where
  ne : ∀ k < 3, lots k ≠ []
  few : ∀ k < 3, (lots k).length ≤ 3
  bd : ∀ k < 3, ∀ r ∈ lots k, BdN 1 r
theorem raw_ne {lots : Nat → List Ln} (L : LotsOk lots) : ∀ t : Tr, t.ok → t.raw lots ≠ []
  | .leaf k, h => L.ne k h
  | .node b l r, ⟨h1, h2⟩ => by
    have i1 := raw_ne L l h1
    have i2 := raw_ne L r h2
    unfold Tr.raw
    split
    · exact fun e => i1 (List.append_eq_nil_iff.mp e).1
    · intro e
      have := congrArg List.length e
      rw [sums_len] at this
      have z1 := List.length_pos_iff.mpr i1
      have z2 := List.length_pos_iff.mpr i2
      have := Nat.mul_pos z1 z2
      simp only [List.length_nil] at *
      omega
theorem raw_len {lots : Nat → List Ln} (L : LotsOk lots) : ∀ t : Tr, t.ok → (t.raw lots).length ≤ 3 ^ t.lvs
  | .leaf k, h => L.few k h
  | .node b l r, ⟨h1, h2⟩ => by
    have i1 := raw_len L l h1
    have i2 := raw_len L r h2
    have m := Nat.mul_le_mul i1 i2
    have p1 : 3 ≤ 3 ^ l.lvs := Nat.le_trans (by decide) (Nat.pow_le_pow_right (by decide) l.pos)
    have p2 : 3 ≤ 3 ^ r.lvs := Nat.le_trans (by decide) (Nat.pow_le_pow_right (by decide) r.pos)
    unfold Tr.raw Tr.lvs
    rw [Nat.pow_add]
    split
    · rw [List.length_append]
      have := Nat.mul_le_mul p1 (Nat.le_refl (3 ^ r.lvs))
      have := Nat.mul_le_mul (Nat.le_refl (3 ^ l.lvs)) p2
      omega
    · rw [sums_len]
      exact m
theorem raw_bd {lots : Nat → List Ln} (L : LotsOk lots) : ∀ t : Tr, t.ok → ∀ r ∈ t.raw lots, BdN t.lvs r
  | .leaf k, h, r, hr => L.bd k h r hr
  | .node b l r, ⟨h1, h2⟩, x, hx => by
    have i1 := raw_bd L l h1
    have i2 := raw_bd L r h2
    unfold Tr.raw at hx
    unfold Tr.lvs
    split at hx
    · rcases List.mem_append.mp hx with hx | hx
      · obtain ⟨a, b, c, d⟩ := i1 x hx
        exact ⟨a, by omega, c, by omega⟩
      · obtain ⟨a, b, c, d⟩ := i2 x hx
        exact ⟨a, by omega, c, by omega⟩
    · obtain ⟨p, hp, q, hq, rfl⟩ := mem_sums.mp hx
      obtain ⟨a, b, c, d⟩ := i1 p hp
      obtain ⟨a2, b2, c2, d2⟩ := i2 q hq
      refine ⟨?_, ?_, ?_, ?_⟩ <;> dsimp only <;> omega
/-! ### what the program and the law have of all rows -/
structure TO (R S : List Ln) : Prop where
  sub : ∀ x ∈ S, x ∈ R
  cov : ∀ q ∈ R, ∃ r ∈ S, r.1 ≤ q.1 ∧ r.2 ≤ q.2
  rows : Rows S
structure LO (roof : Int) (R S : List Ln) : Prop where
  sub : ∀ x ∈ S, x ∈ R
  cov : ∀ n d : Int, 0 ≤ n → 0 < d → n ≤ roof * d → ∀ q ∈ R, ∃ t ∈ S, vA t n d ≤ vA q n d
  chn : Chn roof S
theorem TO.thin (R : List Ln) : TO R (thinP R) := by
  obtain ⟨a, b, c⟩ := thinP_ok R
  exact ⟨a, c, b⟩
theorem TO.best {R1 R2 S1 S2 : List Ln} (h1 : TO R1 S1) (h2 : TO R2 S2) : TO (R1 ++ R2) (thinP (S1 ++ S2)) := by
  obtain ⟨a, b, c⟩ := thinP_ok (S1 ++ S2)
  refine ⟨fun x hx => ?_, fun q hq => ?_, b⟩
  · rcases List.mem_append.mp (a x hx) with h | h
    · exact List.mem_append_left _ (h1.sub x h)
    · exact List.mem_append_right _ (h2.sub x h)
  · have : ∃ r ∈ S1 ++ S2, r.1 ≤ q.1 ∧ r.2 ≤ q.2 := by
      rcases List.mem_append.mp hq with h | h
      · obtain ⟨r, hr, k⟩ := h1.cov q h
        exact ⟨r, List.mem_append_left _ hr, k⟩
      · obtain ⟨r, hr, k⟩ := h2.cov q h
        exact ⟨r, List.mem_append_right _ hr, k⟩
    obtain ⟨r, hr, k1, k2⟩ := this
    obtain ⟨y, hy, j1, j2⟩ := c r hr
    exact ⟨y, hy, by omega, by omega⟩
theorem TO.then {R1 R2 S1 S2 : List Ln} (h1 : TO R1 S1) (h2 : TO R2 S2) : TO (sumsM R1 R2) (thinP (sumsM S1 S2)) := by
  obtain ⟨a, b, c⟩ := thinP_ok (sumsM S1 S2)
  refine ⟨fun x hx => ?_, fun z hz => ?_, b⟩
  · obtain ⟨p, hp, q, hq, rfl⟩ := mem_sums.mp (a x hx)
    exact mem_sums.mpr ⟨p, h1.sub p hp, q, h2.sub q hq, rfl⟩
  · obtain ⟨p, hp, q, hq, rfl⟩ := mem_sums.mp hz
    obtain ⟨p', hp', a1, a2⟩ := h1.cov p hp
    obtain ⟨q', hq', b1, b2⟩ := h2.cov q hq
    obtain ⟨y, hy, j1, j2⟩ := c (p'.1 + q'.1, p'.2 + q'.2) (mem_sums.mpr ⟨p', hp', q', hq', rfl⟩)
    refine ⟨y, hy, ?_, ?_⟩ <;> dsimp only at * <;> omega
theorem TO.ne {R S : List Ln} (h : TO R S) (n : R ≠ []) : S ≠ [] := fun e => by
  cases R with
  | nil => exact n rfl
  | cons q r =>
    obtain ⟨y, hy, _⟩ := h.cov q (List.mem_cons_self ..)
    rw [e] at hy
    cases hy
theorem LO.ne {roof : Int} (h0 : 1 ≤ roof) {R S : List Ln} (h : LO roof R S) (n : R ≠ []) : S ≠ [] := fun e => by
  cases R with
  | nil => exact n rfl
  | cons q r =>
    obtain ⟨y, hy, _⟩ := h.cov 0 1 (by decide) (by decide) (by omega) q (List.mem_cons_self ..)
    rw [e] at hy
    cases hy
theorem vA_sum (p q : Ln) (n d : Int) : vA (p.1 + q.1, p.2 + q.2) n d = vA p n d + vA q n d := by
  unfold vA
  dsimp only
  rw [Int.add_mul, Int.add_mul]
  omega
theorem LO.best {roof : Int} (h0 : 1 ≤ roof) {R1 R2 S1 S2 S : List Ln} (h1 : LO roof R1 S1) (h2 : LO roof R2 S2) (e : lowestM roof (S1 ++ S2) = some S) : LO roof (R1 ++ R2) S := by
  obtain ⟨_, a, g, c⟩ := lowest_ok e
  refine ⟨fun x hx => ?_, fun n d n0 d0 le q hq => ?_, chn_of_good h0 g⟩
  · rcases List.mem_append.mp (a x hx) with h | h
    · exact List.mem_append_left _ (h1.sub x h)
    · exact List.mem_append_right _ (h2.sub x h)
  · have : ∃ r ∈ S1 ++ S2, vA r n d ≤ vA q n d := by
      rcases List.mem_append.mp hq with h | h
      · obtain ⟨r, hr, k⟩ := h1.cov n d n0 d0 le q h
        exact ⟨r, List.mem_append_left _ hr, k⟩
      · obtain ⟨r, hr, k⟩ := h2.cov n d n0 d0 le q h
        exact ⟨r, List.mem_append_right _ hr, k⟩
    obtain ⟨r, hr, k⟩ := this
    obtain ⟨y, hy, j⟩ := c n d n0 d0 le r hr
    exact ⟨y, hy, Int.le_trans j k⟩
theorem LO.then {roof : Int} (h0 : 1 ≤ roof) {R1 R2 S1 S2 S : List Ln} (h1 : LO roof R1 S1) (h2 : LO roof R2 S2) (e : lowestM roof (sumsM S1 S2) = some S) : LO roof (sumsM R1 R2) S := by
  obtain ⟨_, a, g, c⟩ := lowest_ok e
  refine ⟨fun x hx => ?_, fun n d n0 d0 le z hz => ?_, chn_of_good h0 g⟩
  · obtain ⟨p, hp, q, hq, rfl⟩ := mem_sums.mp (a x hx)
    exact mem_sums.mpr ⟨p, h1.sub p hp, q, h2.sub q hq, rfl⟩
  · obtain ⟨p, hp, q, hq, rfl⟩ := mem_sums.mp hz
    obtain ⟨p', hp', a1⟩ := h1.cov n d n0 d0 le p hp
    obtain ⟨q', hq', b1⟩ := h2.cov n d n0 d0 le q hq
    obtain ⟨y, hy, j⟩ := c n d n0 d0 le (p'.1 + q'.1, p'.2 + q'.2) (mem_sums.mpr ⟨p', hp', q', hq', rfl⟩)
    refine ⟨y, hy, Int.le_trans j ?_⟩
    rw [vA_sum, vA_sum]
    omega
theorem fall_len {m : Nat} {S : List Ln} (h : S.Pairwise fun x y => y.2 < x.2) (b : ∀ r ∈ S, 0 ≤ r.2 ∧ r.2 ≤ (m : Int)) : S.length ≤ m + 1 := by
  have nd : (S.map fun r => r.2.toNat).Nodup := by
    refine List.pairwise_map.mpr ((List.Pairwise.and_mem.mp h).imp fun {x y} ⟨hx, hy, lt⟩ => ?_)
    have := b x hx
    have := b y hy
    omega
  have := nodup_le (m := List.range (m + 1)) nd fun x hx => by
    obtain ⟨r, hr, rfl⟩ := List.mem_map.mp hx
    have := b r hr
    exact List.mem_range.mpr (by omega)
  rw [List.length_map, List.length_range] at this
  exact this
theorem Rows.fall {S : List Ln} (h : Rows S) : S.Pairwise fun x y => y.2 < x.2 := h.imp fun k => k.2
/-- of at most five leaves -/
theorem few26 {S R : List Ln} {m : Nat} (sub : ∀ x ∈ S, x ∈ R) (bd : ∀ r ∈ R, BdN m r) (z : m ≤ 5) (h : S.Pairwise fun x y => y.2 < x.2) : S.length ≤ 26 :=
  fall_len (m := 25) h fun r hr => by
    obtain ⟨_, _, c, d⟩ := bd r (sub r hr)
    exact ⟨c, by omega⟩
theorem thin_rows_same {S : List Ln} (h : Rows S) : thinP S = S := by
  have sorted : S.mergeSort pairLe = S := List.mergeSort_of_pairwise (h.imp fun {a b} h => decide_eq_true (.inl h.1))
  unfold thinP
  rw [sorted]
  exact thin_again S [] h
/-- each line alone least is a row that stays -/
theorem seen_told {roof : Int} {R S W : List Ln} (h1 : TO R S) (h2 : LO roof R W) : ∀ x ∈ W, x ∈ S := by
  intro x hx
  obtain ⟨r, hr, a, b⟩ := h1.cov x (h2.sub x hx)
  obtain ⟨n, d, n0, d0, le, k⟩ := h2.chn.al x hx
  obtain ⟨t, ht, c⟩ := h2.cov n d (Int.le_of_lt n0) d0 le r (h1.sub r hr)
  have m1 := Int.mul_le_mul_of_nonneg_right a (Int.le_of_lt d0)
  have m2 := Int.mul_le_mul_of_nonneg_right b (Int.le_of_lt n0)
  have le2 : vA r n d ≤ vA x n d := by
    unfold vA
    omega
  have tx : t = x := by
    by_cases e : t = x
    · exact e
    · have := k t ht e
      omega
  rw [tx] at c
  unfold vA at c
  have e1 : r.1 * d = x.1 * d := by omega
  have e2 : r.2 * n = x.2 * n := by omega
  have f1 : r.1 = x.1 := Int.eq_of_mul_eq_mul_right (by omega) e1
  have f2 : r.2 = x.2 := Int.eq_of_mul_eq_mul_right (by omega) e2
  have : r = x := Prod.ext f1 f2
  rw [← this]
  exact hr
/-- m is the least that a line of S has at n / d -/
def LeastAt (S : List Ln) (n d m : Int) : Prop := (∃ x ∈ S, m = vA x n d) ∧ ∀ y ∈ S, m ≤ vA y n d
theorem LeastAt.one {S W : List Ln} {n d a b : Int} (h1 : LeastAt S n d a) (h2 : LeastAt W n d b) (i : ∀ y ∈ W, ∃ x ∈ S, vA x n d ≤ vA y n d) (j : ∀ y ∈ S, ∃ x ∈ W, vA x n d ≤ vA y n d) : a = b := by
  obtain ⟨⟨x, hx, rfl⟩, k1⟩ := h1
  obtain ⟨⟨y, hy, rfl⟩, k2⟩ := h2
  obtain ⟨x', hx', c1⟩ := i y hy
  obtain ⟨y', hy', c2⟩ := j x hx
  have := k1 x' hx'
  have := k2 y' hy'
  omega
theorem TO.at {R S : List Ln} (h : TO R S) {n d : Int} (n0 : 0 ≤ n) (d0 : 0 < d) : (∀ y ∈ R, ∃ x ∈ S, vA x n d ≤ vA y n d) ∧ ∀ y ∈ S, ∃ x ∈ R, vA x n d ≤ vA y n d := by
  refine ⟨fun y hy => ?_, fun y hy => ⟨y, h.sub y hy, Int.le_refl _⟩⟩
  obtain ⟨r, hr, a, b⟩ := h.cov y hy
  have m1 := Int.mul_le_mul_of_nonneg_right a (Int.le_of_lt d0)
  have m2 := Int.mul_le_mul_of_nonneg_right b n0
  refine ⟨r, hr, ?_⟩
  unfold vA
  omega
/-- what the law's own lines are -/
theorem lines_chn {roof : Int} {kept p : List Ln} (pm : p.Perm (kept.filter fun t => longM t kept roof)) (nd : kept.Nodup) (srt : p.Pairwise fun x y => y.2 ≤ x.2) : Chn roof p := by
  have isK : ∀ t ∈ p, t ∈ kept ∧ longM t kept roof = true := fun t ht => List.mem_filter.mp (pm.mem_iff.mp ht)
  have ndp : p.Nodup := pm.nodup_iff.mpr (nd.filter _)
  refine ⟨?_, fun t ht => ?_⟩
  · have := (List.Pairwise.and_mem.mp (srt.and ndp))
    refine this.imp fun {x y} ⟨hx, hy, le, ne⟩ => ?_
    rcases Int.lt_or_eq_of_le le with h | h
    · exact h
    · obtain ⟨n, d, n0, d0, _, k⟩ := alone_long (isK x hx).2
      obtain ⟨n2, d2, n02, d02, _, k2⟩ := alone_long (isK y hy).2
      have a := (va_lt x y n d).mp (k y (isK y hy).1 (Ne.symm ne))
      have b := (va_lt y x n2 d2).mp (k2 x (isK x hx).1 ne)
      rw [h, Int.sub_self, Int.zero_mul] at a
      rw [h, Int.sub_self, Int.zero_mul] at b
      have a : (x.1 - y.1) * d < 0 * d := by omega
      have b : (y.1 - x.1) * d2 < 0 * d2 := by omega
      have a := Int.lt_of_mul_lt_mul_right a (Int.le_of_lt d0)
      have b := Int.lt_of_mul_lt_mul_right b (Int.le_of_lt d02)
      omega
  · obtain ⟨n, d, n0, d0, le, k⟩ := alone_long (isK t ht).2
    exact ⟨n, d, n0, d0, le, fun u hu => k u (isK u hu).1⟩
theorem lines_same {roof : Int} {S kept p : List Ln} (h : Chn roof S) (mem : ∀ t, t ∈ kept ↔ t ∈ S) (pm : p.Perm (kept.filter fun t => longM t kept roof)) (nd : kept.Nodup) (srt : p.Pairwise fun x y => y.2 ≤ x.2) : p = S := by
  have c := lines_chn pm nd srt
  have all : ∀ x, x ∈ p ↔ x ∈ S := fun x => by
    rw [pm.mem_iff, List.mem_filter, mem]
    refine ⟨fun k => k.1, fun k => ⟨k, ?_⟩⟩
    refine long_alone ?_
    obtain ⟨n, d, n0, d0, le, kk⟩ := h.al x k
    exact ⟨n, d, n0, d0, le, fun u hu => kk u ((mem u).mp hu)⟩
  have n1 : p.Nodup := pm.nodup_iff.mpr (nd.filter _)
  have n2 : S.Nodup := h.fall.imp fun {a b} k e => by
    rw [e] at k
    omega
  refine sorted_one (R := fun x y => y.2 < x.2 ∨ x = y) (fun a _ b _ k1 k2 => ?_) (c.fall.imp .inl) (h.fall.imp .inl) n1 n2 all
  rcases k1 with k1 | k1
  · rcases k2 with k2 | k2
    · omega
    · exact k2.symm
  · exact k1
/-! ### one of two terms -/
theorem pe_or2 {X : Cx} {e : Expr} {t1 t2 : TE} (h1 : PE X e t1) (h2 : PE X e t2) : PE X e (fun σ H Q => t1 σ H Q ∨ t2 σ H Q) :=
  ⟨fun pins s σ H Q I h => h.elim (h1.run pins s σ H Q I) (h2.run pins s σ H Q I)⟩
/-! ### sorted by a key, with the order told -/
def rSortNeg2 (K : PySem.W.Frag) (j : Nat) (q : Str) (params : Arguments) (body : Expr) (scope : Scope) : List V → List V → Hp → VK → Prop := fun vs ws H Q => ∃ (a f c' : Addr) (zs : List (V × List Int)), vs = [V.ref a] ∧ ws = [V.ref f] ∧ SqL K H a (zs.map Prod.fst) ∧
  (∀ z ∈ zs, TupI K H z.1 z.2 ∧ j < z.2.length) ∧ H f = some (LamO f c' q params body scope) ∧ H c' = some (LamX.CodeO c' q) ∧ ∀ (p : Addr) (zs' : List (V × List Int)), zs'.Perm zs → (zs'.Pairwise fun x y => y.2.getD j 0 ≤ x.2.getD j 0) → H p = none → Q (.ref p) (upd H p (.lst (zs'.map Prod.fst)))
theorem cr_sortNeg2 {X : Cx} {k : Nat} {x q : Str} {i : Int} {j : Nat} {params : Arguments} {body : Expr} {scope : Scope} (hr : Room k X.A) (N : NegKey x i j params body scope) : CallRK X (.builtin "sorted") [Str.ofString "key"] (rSortNeg2 X.K j q params body scope) := by
  intro pins s σ H vs ws us us2 Q I r r2 h
  obtain ⟨a, f, c', zs, rfl, rfl, hs, hz, hf, hc, k⟩ := h
  rw [Vals.ref1 r, Vals.ref1 r2]
  obtain ⟨its, rv, hl, hz2⟩ := I.list hs
  obtain ⟨⟨pm, ctv, ef⟩, _, _⟩ := I.hok f _ hf
  obtain ⟨⟨oc, cvs, ct, ec, dc, vc⟩, _, _⟩ := I.hok c' _ hc
  have un := hr.un
  have dp := hr.dp
  rw [List.length_map] at hz2
  refine PySem.W.sorted_key_data (b := false) (bs := zs) (R := fun u (z : V × List Int) => RelV z.1 u) (fun z : V × List Int => .int (-(z.2.getD j 0))) hl.isList (negs_vals rv) (PySem.W.AllAlike.of fun _ _ => rfl)
    (PySem.W.Sortable.others fun b => ⟨(fun h => nomatch h), fun xs h => nomatch h⟩) hz2 (fun z _ => ?_) (PyProof.Rows.ksk_s1 _ _) (fun _ => PyProof.Rows.ksk_l1 _ _) (fun _ => PyProof.Rows.ksk_t1 _ _) (fun v z rz mz h tk kp => ?_) fun out c h' tk kp fr hD lo eo => ?_
  · show X.A.units + 2 + 0 < _
    omega
  · obtain ⟨⟨A1, e1, sA⟩, lt⟩ := hz z mz
    rw [e1] at rz
    cases rz
    obtain ⟨its2, rv2, hl2, _⟩ := I.tuple sA
    have g : (z.2.map V.int)[j]? = some (.int (z.2.getD j 0)) := by
      rw [List.getElem?_map, List.getElem?_eq_getElem lt, List.getD_eq_getElem?_getD, List.getElem?_eq_getElem lt]
      rfl
    obtain ⟨u, eu, ru⟩ := rv2.get g
    obtain ⟨tz, rfl⟩ := ru
    exact neg_key (s := { s with heap := h, toks := tk }) N (kp _ _ ef) ⟨c', oc, cvs, ct, rfl, kp _ _ ec, dc, vc⟩ (I.nolimit.keeps kp) (by show X.A.depth < _; omega) (hl2.keeps kp) (by simpa using eu)
  · have pm2 : (zs.mergeSort (PySem.W.dataLe false fun z : V × List Int => .int (-(z.2.getD j 0)))).Perm zs := List.mergeSort_perm _ _
    have pw := PySem.W.sort_pairwise (le_tot fun z : V × List Int => PyData.int (-(z.2.getD j 0))) zs
    refine ⟨.ref _, upd H (s.heap.objs.size + 1) (.lst ((zs.mergeSort (PySem.W.dataLe false fun z : V × List Int => .int (-(z.2.getD j 0)))).map Prod.fst)), I.laid (t' := tk) kp (Nat.le_succ _) ⟨?_, out, c, vals_negs eo, hD⟩, rfl, k _ _ pm2 (pw.imp fun {x y} h => ?_) (I.hok.fresh (Nat.le_succ _))⟩
    · rw [List.length_map, pm2.length_eq]
      exact hz2
    · have h : (!PySem.W.dataLt (.int (-(y.2.getD j 0))) (.int (-(x.2.getD j 0)))) = true := h
      rw [PySem.W.dataLt_int] at h
      have := of_decide_eq_false ((Bool.not_eq_true' _).mp h)
      omega
theorem pe_sortNeg2 {X : Cx} {K : PySem.W.Frag} {k : Nat} {T : List (Addr × Str)} {c P : Addr} {x q : Str} {i : Int} {j : Nat} {params : Arguments} {body : Expr} {scope : Scope} {p lpos kpos pos : Pos} {e : Expr} {te : TE} (eK : X.K = K) (hr : Room k X.A) (hg : Gl X "sorted") (hm : X.mg "sorted" = none) (he0 : PE X e te)
    (TB : TabB X.base X.mg c P) (hcode : X.env.code = .ref c) (eq : q = X.env.qual ++ "<lambda>") (hT : (P, q) ∈ T) (hu : ∀ p ∈ T, p.1 = P → p.2 = q) (N : NegKey x i j params body scope) (hdef : defaultsOf params X.env = ([], []) := by rfl) (hfree : ∀ y ∈ scope.names, y.2 ≠ .free := by decide)
    (hclo : cloFrom X.env.cells scope.names [] = [] := by rfl) (hse : starEach [e] X.env = (false, eval e X.env) :: starEach [] X.env := by rfl) (he : backTo pos (starEach [e] X.env) = (false, eval e X.env) :: backTo pos (starEach [] X.env) := by rfl) (hpl : (backTo pos (starEach [e] X.env)).any (·.1) = false := by rfl) :
    PE X (.Call (.Name "sorted" p) [e] [⟨some "key", .Lambda params body scope lpos, kpos⟩] pos) (tCKw (rSortNeg2 K j q params body scope) (tCons te tNil) (tCons (tLamV T q params body scope) tNil)) := by
  subst eK
  exact pe_callBK (cr_sortNeg2 hr N) hg hm (by decide +kernel) (pa_cons he0 pa_nil (hs := hse)) (pk_cons (pe_lamV TB hcode eq hT hu hdef hfree hclo) pk_nil) (by decide) (by decide) he hpl rfl rfl rfl
end Fb

set_option Elab.async false
set_option linter.all false
set_option maxRecDepth 100000
/-! set(t) of a tuple of keys -/
namespace Fb
open PySem PySem.Spec L2
open PyProof.Rows hiding St
section
variable {P : Program} {w : World} {A : Around} {E : Value → Shared → Prop} {s : Shared}
set_option maxHeartbeats 3200000 in
/-- set(xs) of a tuple of keys -/
theorem call_set_KT {l : Addr} {items : Array Value} (ks : List Ent) {Q : Value → Shared → Prop} (hh : A.handled = none) (hl : s.heap.IsTuple l items) (its : items.toList = ks.map fun p => Value.ref p.1) (hk : ∀ p ∈ ks, KeyE s.heap p) (few : ks.length < 64)
    (hu : A.units + 12 < cLine) (q : ∀ h' tk L es ep t, SetK w h' s.heap.objs.size L es ep t → Took ks ks.length L → (∀ b o, s.heap.get? b = some o → h'.get? b = some o) → Q (.ref s.heap.objs.size) { s with heap := h', toks := tk }) :
    wpAny (model P w) A (call (.type "set") [.ref l]) Q E s := by
  have zi : items.size = ks.length := by rw [← Array.length_toList, its, List.length_map]
  obtain ⟨c, tl, hmro⟩ := F.called_set.mro
  have hmade := F.called_set.made
  have hsub := F.called_set.sub
  refine wpAny_call (codeAny_of_tree ?_)
  show wpAny _ _ (callAny (.type "set") _) _ _ _
  refine wpAny_pure ⟨Code.quiet_builtin _ (by decide +kernel), codeAny_builtin F.entry_type_call ?_⟩
  rw [Around.under_plain (weight_type_call_type "set" [.ref l] []) rfl]
  have n1 := F.called_set.notType
  have n2 := F.called_set.canCreate
  have n3 := F.typeCall_set_1 (.ref l)
  repeat any_goals first | assumption | wp_step
  refine codeAny_mono (code_set_led1 (.ref l) (E := E) (Q₁ := fun v s1 => v = .ref s.heap.objs.size ∧ s1 = { s with heap := s.heap.push (newSet w) }) ⟨rfl, rfl⟩) fun r s1 hr => ?_
  have none_at : ∀ b, s.heap.objs.size ≤ b → s.heap.get? b = none := fun b hb => by
    cases e : s.heap.get? b with
    | none => rfl
    | some o =>
      exact absurd (Nat.lt_of_lt_of_le (Heap.lt_size e) hb) (Nat.lt_irrefl _)
  rcases r with r | fl
  · exact hr
  cases fl with
  | ret v =>
    obtain ⟨rfl, rfl⟩ := hr
    have at1 : (s.heap.push (newSet w)).get? s.heap.objs.size = some (newSet w) := Heap.get?_push_size _ rfl
    have hT : Shared.TypeIs { s with heap := s.heap.push (newSet w) } (.ref s.heap.objs.size) "set" := ⟨_, at1, rfl⟩
    have hli := F.called_set.init.lookup
    have hbi := F.called_set.init.bind (.ref s.heap.objs.size)
    repeat any_goals first | assumption | wp_step
    refine codeAny_mono (codeAny_call_builtin (R := wants (fun r s2 => r = .none ∧ ∃ h' tk L es ep t, s2 = { s with heap := h', toks := tk } ∧ SetK w h' s.heap.objs.size L es ep t ∧ Took ks ks.length L ∧ ∀ b o, s.heap.get? b = some o → h'.get? b = some o) E)
      F.called_set.init.plain F.entry_set_init (check_set_init_1 hT ?_)) fun r2 s2 hr2 => ?_
    · obtain ⟨ol, hol, hcl, nl, hdl⟩ := hl
      obtain ⟨ocls, odict, odata, oslots⟩ := ol
      dsimp only at hcl hdl
      subst hcl
      subst hdl
      have hol' := Heap.get?_push_of_some (newSet w) hol
      have f1 := F.sub_tuple_set
      have f2 := F.sub_tuple_frozenset
      have f3 : (Value.type "tuple" == Value.type "dict") = false := by decide
      have hl1 : (s.heap.push (newSet w)).IsTuple l items := ⟨_, hol', rfl, nl, rfl⟩
      unfold Builtin.«set.__init__» noKeywords Builtin.Frozenset.updateFrom
      generalize ePI : pyIter = PI
      wp_walk
      subst ePI
      refine wpAny_pyIter_tuple hl1 ?_
      refine wpAny_bind (wpAny_runValue ?_)
      have lt := Heap.lt_size hol
      have z1 : (s.heap.push (newSet w)).objs.size = s.heap.objs.size + 1 := Heap.size_push ..
      have hlI : l ≠ (s.heap.push (newSet w)).objs.size := by
        rw [z1]
        exact Nat.ne_of_lt (Nat.lt_succ_of_lt lt)
      have out : s.heap.objs.size ∉ [(s.heap.push (newSet w)).objs.size, l] := by
        rw [z1]
        simp only [List.mem_cons, List.not_mem_nil, or_false, not_or]
        exact ⟨Nat.ne_of_lt (Nat.lt_succ_self _), Nat.ne_of_gt lt⟩
      refine fill_K ((Walks.tuple (show A.in1.in1.in1.handled = none by simp [hh]) _ l hlI items).toS) s.heap.objs.size out ks zi few (fun i v e => ?_) s.heap hk (none_at _ (Nat.le_refl _)) (fun b mb => none_at b ?_) (by simpa using (by omega : A.units + 3 + 8 < cLine)) (items.size - 0) 0 _ (by omega) (Nat.zero_le _)
        ⟨⟨_, Heap.get?_push_size _ rfl, rfl, rfl⟩, hl1.push _⟩ (fun b o e => Heap.get?_push_of_some _ (Heap.get?_push_of_some _ e)) ⟨[], #[], 0, _, setK_new (Heap.get?_push_of_some _ at1), ⟨fun _ m => (nomatch m), fun p m => (by simp at m), Nat.le_refl _⟩⟩ ?_
      · have e' : items.toList[i]? = some v := by rw [Array.getElem?_toList]; exact e
        rw [its, List.getElem?_map] at e'
        cases ep : ks[i]? with
        | none =>
          rw [ep] at e'
          cases e'
        | some p =>
          rw [ep] at e'
          cases e'
          exact ⟨p, rfl, rfl⟩
      · cases List.mem_singleton.mp mb
        rw [z1]
        exact Nat.le_succ _
      · intro s3 L es ep t mv R g k
        obtain ⟨h3, g3, d3, t3, o3⟩ := s3
        cases (show g3 = s.gens from mv.gens)
        cases (show d3 = s.drawn from mv.drawn)
        cases (show o3 = s.os from mv.os)
        refine wpAny_pure ?_
        show wpAny _ _ (ret Value.none) _ _ _
        rw [zi] at g
        exact wpAny_pure ⟨rfl, h3, t3, L, es, ep, t, rfl, R, g, k⟩
    · rcases r2 with r2 | fl2
      · exact hr2
      cases fl2 with
      | ret v2 =>
        obtain ⟨rfl, h', tk, L, es, ep, t, rfl, R, g, k⟩ := hr2
        repeat any_goals first | assumption | wp_step
        exact q _ _ _ _ _ _ R g k
      | _ => exact hr2.elim
  | _ => exact hr.elim
end
section
variable {w : World}
/-- of a list or a tuple -/
def rSetKB (K : PySem.W.Frag) (w : World) : List V → Hp → VK → Prop := fun vs H Q => ∃ (l : Addr) (ks : List Ent), vs = [V.ref l] ∧ (SqL K H l (ks.map fun p => V.ref p.1) ∨ SqT K H l (ks.map fun p => V.ref p.1)) ∧ (∀ p ∈ ks, KeyO K H p) ∧ ks.length < 64 ∧
  ∀ a L, H a = none → (∀ p ∈ L, p ∈ ks) → (∀ p ∈ ks, p.2 ∈ L.map Prod.snd) → (L.map Prod.snd).Nodup → Q (.ref a) (upd H a (SetKO w a L))
theorem cr_setKB {X : Cx} {K : PySem.W.Frag} (eK : X.K = K) (ew : X.w = w) (hc : X.calm = true) (hu : X.A.units + 64 < cLine) : CallR X (.type "set") (rSetKB K w) := by
  rintro pins s σ H vs us Q I r ⟨l, ks, rfl, hl | hl, hk, few, q⟩
  · exact cr_setK eK ew hc hu pins s σ H _ us Q I r ⟨l, ks, rfl, hl, hk, few, q⟩
  subst eK
  subst ew
  rw [Vals.ref1 r]
  obtain ⟨its, rv, pl, _⟩ := I.tuple hl
  have free : H s.heap.objs.size = none := I.hok.fresh (Nat.le_refl _)
  refine call_set_KT (P := X.prog) (w := X.w) ks (I.ok.hd hc) pl (ent_refs (by simpa using rv)) (fun p m => (hk p m).at I) few (by omega) fun h' tk L es ep t R g k => ?_
  refine ⟨.ref s.heap.objs.size, _, I.laid (t' := tk) k (Nat.le_refl _) (setKO_ok R), rfl, q _ L free (fun p m => List.mem_of_mem_take (g.1 p m)) (fun p m => g.2.1 p ?_) R.nd⟩
  rw [List.take_length]
  exact m
end
end Fb

set_option Elab.async false
set_option linter.all false
set_option maxRecDepth 100000
set_option maxHeartbeats 4000000
/-! a dial and a trade with any names; trees on the heap -/
namespace Fb
open PySem PySem.Spec L2
open PyProof.Rows hiding St
open LamX (ExtN Tabs TabB)
def dfw (w1 w2 : Str) (top : Int) (t : Addr) : List (Str × V) := putF "stay" (.ref t) (putF "top" (.int top) (putF "slope" (.str w2) (putF "wish" (.str w1) [])))
def DialW (C : Addr) (H : Hp) (p : Addr) (top : Int) : Prop := ∃ dx t w1 w2, H p = some (.ins C dx (dfw w1 w2 top t))
theorem DialW.mono {C : Addr} {H H' : Hp} {p : Addr} {top : Int} (h : DialW C H p top) (e : Same H H') : DialW C H' p top := by
  obtain ⟨dx, t, w1, w2, h⟩ := h
  exact ⟨dx, t, w1, w2, e _ _ h⟩
theorem dfw_top (w1 w2 : Str) (top : Int) (t : Addr) : (dfw w1 w2 top t).lookup ("top" : Str) = some (.int top) := by
  unfold dfw
  rw [lookup_putF, if_neg (by decide +kernel), lookup_putF, if_pos rfl]
theorem dfw_no (w1 w2 : Str) (top : Int) (t : Addr) {m : Str} (h1 : ¬ m = "stay") (h2 : ¬ m = "top") (h3 : ¬ m = "slope") (h4 : ¬ m = "wish") : (dfw w1 w2 top t).lookup m = none := by
  unfold dfw
  rw [lookup_putF, if_neg h1, lookup_putF, if_neg h2, lookup_putF, if_neg h3, lookup_putF, if_neg h4]
  rfl
def TradeW (C : Addr) (H : Hp) (p : Addr) : Prop := ∃ dx fs, H p = some (.ins C dx fs) ∧ fs.lookup ("best" : Str) = none ∧ fs.lookup ("then" : Str) = none
theorem TradeW.mono {C : Addr} {H H' : Hp} {p : Addr} (h : TradeW C H p) (e : Same H H') : TradeW C H' p := by
  obtain ⟨dx, fs, h, k⟩ := h
  exact ⟨dx, fs, e _ _ h, k⟩
theorem noT_dialW {C : Addr} {H : Hp} {p : Addr} {top : Int} (h : DialW C H p top) : DialW C (noT H) p top := by
  obtain ⟨dx, t, w1, w2, h⟩ := h
  exact ⟨dx, t, w1, w2, noT_at h (fun _ e => nomatch e)⟩
theorem noT_tradeW {C : Addr} {H : Hp} {p : Addr} (h : TradeW C H p) : TradeW C (noT H) p := by
  obtain ⟨dx, fs, h, k⟩ := h
  exact ⟨dx, fs, noT_at h (fun _ e => nomatch e), k⟩
abbrev NmS (z : Str) : Prop := nameB (.str z) = true
theorem NmS.len {z : Str} (h : NmS z) : z.length ≤ 8 := by
  have h : (decide (1 ≤ z.length) && decide (z.length ≤ 8) && z.cps.toList.all letC) = true := h
  rw [Bool.and_eq_true, Bool.and_eq_true] at h
  exact of_decide_eq_true h.1.2
def mkT (l : List Nat) : Str := ⟨l.toArray⟩
theorem mkT_app (a b : List Nat) : mkT a ++ mkT b = mkT (a ++ b) := by
  show (⟨a.toArray ++ b.toArray⟩ : Str) = ⟨(a ++ b).toArray⟩
  exact congrArg Str.mk (by simp)
theorem joinT : ∀ cs : List Nat, Str.join "" (cs.map fun c => (⟨#[c]⟩ : Str)) = mkT cs
  | [] => rfl
  | [c] => rfl
  | c :: d :: l => by
    have ih := joinT (d :: l)
    show (⟨#[c]⟩ : Str) ++ "" ++ Str.join "" ((d :: l).map fun c => (⟨#[c]⟩ : Str)) = _
    rw [ih]
    show mkT [c] ++ mkT [] ++ mkT (d :: l) = _
    rw [mkT_app, mkT_app]
    rfl
theorem cpsT (cs : List Nat) : Txt.join "" (cs.map fun c => (⟨#[c]⟩ : Str)) = mkT cs := by
  show Builtin.Str.glued "" (cs.map fun c => (⟨#[c]⟩ : Str)) = _
  rw [StrLaws.glued_eq_join, joinT]
theorem nm_mkT {l : List Nat} (h1 : 1 ≤ l.length) (h2 : l.length ≤ 8) (h3 : ∀ c ∈ l, letC c = true) : NmS (mkT l) := by
  show (decide (1 ≤ l.length) && decide (l.length ≤ 8) && l.all letC) = true
  rw [decide_eq_true h1, decide_eq_true h2, List.all_eq_true.mpr h3]
  rfl
theorem abc_let : ∀ c ∈ ("abcdefghijklmnopqrstuvwxyz" : Str).cps.toList, letC c = true := by decide +kernel
theorem nm_of {z : V} {ws : List Str} (h : z ∈ ws.map V.str) (all : ∀ w ∈ ws, NmS w) : ∃ s, z = .str s ∧ NmS s := by
  obtain ⟨w, hw, rfl⟩ := List.mem_map.mp h
  exact ⟨w, rfl, all w hw⟩
theorem tr_leaf {K : PySem.W.Frag} {H : Hp} {v : V} {k : Nat} (h : Dp K H v (Tr.leaf k).dat) : v = .int k := by
  cases h
  rfl
theorem tr_node {K : PySem.W.Frag} {H : Hp} {v : V} {b : Bool} {l r : Tr} (h : Dp K H v (Tr.node b l r).dat) : ∃ A x y, v = .ref A ∧ SqT K H A [.str (if b = true then "best" else "then"), x, y] ∧ Dp K H x l.dat ∧ Dp K H y r.dat := by
  cases h with
  | tup s al =>
    cases al with
    | cons h1 al =>
      cases al with
      | cons h2 al =>
        cases al with
        | cons h3 al =>
          cases al
          cases h1
          exact ⟨_, _, _, rfl, s, h2, h3⟩
theorem node_tr {K : PySem.W.Frag} {H : Hp} {A : Addr} {x y : V} {b : Bool} {l r : Tr} (s : SqT K H A [.str (if b = true then "best" else "then"), x, y]) (h1 : Dp K H x l.dat) (h2 : Dp K H y r.dat) : Dp K H (.ref A) (Tr.node b l r).dat :=
  .tup s (.cons (.str _) (.cons h1 (.cons h2 .nil)))
theorem leaf_tr {K : PySem.W.Frag} {H : Hp} (k : Nat) : Dp K H (.int k) (Tr.leaf k).dat := .int _
/-- a list of rows -/
def RwN (K : PySem.W.Frag) (H : Hp) (D : Addr) (S : List Ln) : Prop := ∃ us, H D = some (.lst us) ∧ RowsV K H us (S.map tol)
theorem RwN.mono {K : PySem.W.Frag} {H H' : Hp} {D : Addr} {S : List Ln} (h : RwN K H D S) (e : Same H H') : RwN K H' D S := by
  obtain ⟨us, h1, h2⟩ := h
  exact ⟨us, e _ _ h1, h2.mono e⟩
theorem dp_lnU {K : PySem.W.Frag} {H : Hp} {v : V} {S : List Ln} (h : Dp K H v (lnD (some S))) : ∃ A xs, v = .ref A ∧ SqT K H A xs ∧ RowsV K H xs (S.map tol) ∧ xs.length = S.length := by
  obtain ⟨A, xs, e, s, r⟩ := ln_tup h
  have := r.len
  rw [List.length_map] at this
  exact ⟨A, xs, e, s, r, this⟩
/-- the three values at the leaves -/
structure Vals3 (K : PySem.W.Frag) (H : Hp) (L : Addr) (base : Nat → List Ln) : Prop where
  ex : ∃ vs : List V, H L = some (.lst vs) ∧ vs.length = 3 ∧ ∀ k v, vs[k]? = some v → Dp K H v (lnD (some (base k)))
theorem Vals3.mono {K : PySem.W.Frag} {H H' : Hp} {L : Addr} {base : Nat → List Ln} (h : Vals3 K H L base) (e : Same H H') : Vals3 K H' L base := by
  obtain ⟨vs, h1, h2, h3⟩ := h.ex
  exact ⟨vs, e _ _ h1, h2, fun k v g => dp_mono e _ (h3 k v g)⟩
/-- three lists of rows -/
structure Lots3 (K : PySem.W.Frag) (H : Hp) (L : Addr) (base : Nat → List Ln) : Prop where
  ex : ∃ vs : List V, H L = some (.lst vs) ∧ vs.length = 3 ∧ ∀ k v, vs[k]? = some v → ∃ D, v = .ref D ∧ RwN K H D (base k)
theorem Lots3.mono {K : PySem.W.Frag} {H H' : Hp} {L : Addr} {base : Nat → List Ln} (h : Lots3 K H L base) (e : Same H H') : Lots3 K H' L base := by
  obtain ⟨vs, h1, h2, h3⟩ := h.ex
  exact ⟨vs, e _ _ h1, h2, fun k v g => by
    obtain ⟨D, e1, r⟩ := h3 k v g
    exact ⟨D, e1, r.mono e⟩⟩
theorem at2 {x y z : V} {xs : List V} : atI (x :: y :: z :: xs) 2 = some z := (show atI (x :: y :: z :: xs) ((2 : Nat) : Int) = some z from atI_nat rfl)
theorem at3 {x y z u : V} {xs : List V} : atI (x :: y :: z :: u :: xs) 3 = some u := (show atI (x :: y :: z :: u :: xs) ((3 : Nat) : Int) = some u from atI_nat rfl)
def titleW : List Str := ["a", "b", "c", "ab", "ba", "cost", "z"]
theorem titles_nm : ∀ w ∈ titleW, NmS w := by decide +kernel
theorem inV_strT (z : Str) (l : List Str) : inV (.str z) (l.map V.str) = decide (z ∈ l) := by
  unfold inV
  rw [Bool.eq_iff_iff, decide_eq_true_eq, List.any_eq_true]
  constructor
  · rintro ⟨y, m, e⟩
    obtain ⟨x, mx, rfl⟩ := List.mem_map.mp m
    have e : (x == z) = true := e
    rw [beq_iff_eq] at e
    exact e ▸ mx
  · intro m
    refine ⟨_, List.mem_map_of_mem m, ?_⟩
    show (z == z) = true
    exact beq_self_eq_true z
theorem flat_strT (l : List Str) : (l.map V.str).all flatV = true := by
  rw [List.all_map]
  exact List.all_eq_true.mpr fun _ _ => rfl
def mintW : List Str := ["p", "q", "r", "s", "t", "u", "v"]
theorem mint_nm : ∀ w ∈ mintW, NmS w := by decide +kernel
theorem mint_left {ws : List Str} (h : ws.length ≤ 1) : ∃ m r, mintW.filter (fun s => !decide (s ∈ ws)) = m :: r := by
  cases e : mintW.filter (fun s => !decide (s ∈ ws)) with
  | cons m r => exact ⟨m, r, rfl⟩
  | nil =>
    exfalso
    have all := List.filter_eq_nil_iff.mp e
    have h1 := all "p" (by decide +kernel)
    have h2 := all "q" (by decide +kernel)
    have h1 : ("p" : Str) ∈ ws := by
      by_cases c : ("p" : Str) ∈ ws
      · exact c
      · exact absurd (by rw [decide_eq_false c]; rfl) h1
    have h2 : ("q" : Str) ∈ ws := by
      by_cases c : ("q" : Str) ∈ ws
      · exact c
      · exact absurd (by rw [decide_eq_false c]; rfl) h2
    cases ws with
    | nil => cases h1
    | cons a r =>
      cases r with
      | cons b r => exact absurd h (by simp)
      | nil =>
        have e1 := List.mem_singleton.mp h1
        have e2 := List.mem_singleton.mp h2
        exact absurd (e1.trans e2.symm) (by decide +kernel)
/-- a setting -/
def SetB (roof m : Int) (p : Ln) : Prop := 0 ≤ p.1 ∧ 0 < p.2 ∧ p.1 ≤ roof * p.2 ∧ p.2 ≤ m
theorem SetB.bd {roof m : Int} {p : Ln} (h : SetB roof m p) (r0 : 1 ≤ roof) (r1 : roof ≤ 1000000) (m1 : m ≤ 10000) : 0 ≤ p.1 ∧ p.1 ≤ 10000000000 ∧ 0 < p.2 ∧ p.2 ≤ 10000 := by
  obtain ⟨a, b, c, d⟩ := h
  have := Int.mul_le_mul (show roof ≤ 1000000 from r1) (show p.2 ≤ 10000 by omega) (by omega) (by decide)
  exact ⟨a, by omega, b, by omega⟩
theorem least_of_min {S : List Ln} {n d m : Int} (h1 : m ∈ S.map fun r => vA r n d) (h2 : ∀ y ∈ S.map fun r => vA r n d, m ≤ y) : LeastAt S n d m := by
  obtain ⟨x, hx, e⟩ := List.mem_map.mp h1
  exact ⟨⟨x, hx, e.symm⟩, fun y hy => h2 _ (List.mem_map_of_mem hy)⟩
end Fb

set_option Elab.async false
set_option linter.all false
set_option maxRecDepth 100000
set_option maxHeartbeats 4000000
/-! x in a tuple of rows; what holds in the heap without tables -/
namespace Fb
open PySem PySem.Spec L2
open PyProof.Rows hiding St
open LamX (ExtN Tabs TabB)
def rInTD (K : PySem.W.Frag) : R2 := fun x y H Q => ∃ d ds, Dp K H x d ∧ Dp K H y (.tuple ds) ∧ SeqAt.shaped d = true ∧ PyData.canLayAll0 ds = true ∧ Q (.bl (ds.any fun z => PyData.eqv z d)) H
theorem op_inTD {X : Cx} (hu : X.A.units + 65 < cLine) : L2.OpR X (compareOp .In) (rInTD X.K) := by
  intro pins s σ H x y v u Q I rx ry h
  obtain ⟨d, ds, hd, he, sd, se, q⟩ := h
  obtain ⟨as, r1⟩ := Dp.reads I d x v hd rx
  obtain ⟨bs, r2⟩ := Dp.reads I (.tuple ds) y u he ry
  exact SeqAt.in_tuple_reads r2 r1 se (SeqAt.canLay_of_shaped sd) (room_in_shaped sd hu) ⟨.bl _, H, I, rfl, q⟩
theorem inT_D {X : Cx} {K : PySem.W.Frag} (e : X.K = K) (hu : X.A.units + 65 < cLine) : L2.OpR X (compareOp .In) (rInTD K) := e ▸ op_inTD hu
theorem noT_lots {K : PySem.W.Frag} {H : Hp} {L : Addr} {base : Nat → List Ln} (h : Lots3 K H L base) : Lots3 K (noT H) L base := by
  obtain ⟨vs, h1, h2, h3⟩ := h.ex
  exact ⟨vs, noT_at h1 (fun _ e => nomatch e), h2, fun k v g => by
    obtain ⟨D, e1, us, hD, r⟩ := h3 k v g
    exact ⟨D, e1, us, noT_at hD (fun _ e => nomatch e), noT_rows r⟩⟩
theorem noT_vals {K : PySem.W.Frag} {H : Hp} {L : Addr} {base : Nat → List Ln} (h : Vals3 K H L base) : Vals3 K (noT H) L base := by
  obtain ⟨vs, h1, h2, h3⟩ := h.ex
  exact ⟨vs, noT_at h1 (fun _ e => nomatch e), h2, fun k v g => noT_dp _ (h3 k v g)⟩
theorem noT_rwn {K : PySem.W.Frag} {H : Hp} {D : Addr} {S : List Ln} (h : RwN K H D S) : RwN K (noT H) D S := by
  obtain ⟨us, h1, h2⟩ := h
  exact ⟨us, noT_at h1 (fun _ e => nomatch e), noT_rows h2⟩
/-- a growing list of lines -/
def GrowL (K : PySem.W.Frag) (G : Hp) (D : Addr) (n : Nat) (base : Nat → List Ln) : Prop := ∃ ys : List V, G D = some (.lst ys) ∧ ys.length = n ∧ ∀ k v, ys[k]? = some v → ∃ A xs, v = .ref A ∧ SqT K G A xs ∧ RowsV K G xs ((base k).map tol)
theorem GrowL.vals {K : PySem.W.Frag} {G : Hp} {D : Addr} {base : Nat → List Ln} (h : GrowL K G D 3 base) : Vals3 K G D base := by
  obtain ⟨ys, h1, h2, h3⟩ := h
  exact ⟨ys, h1, h2, fun k v g => by
    obtain ⟨A, xs, rfl, s, r⟩ := h3 k v g
    exact ln_dp s r⟩
/-- one more at the end, behind a call that may change tables -/
theorem GrowL.snoc {K : PySem.W.Frag} {G G' : Hp} {D A : Addr} {n : Nat} {base : Nat → List Ln} {xs : List V} {S : List Ln} (h : GrowL K G D n base) (e : Same (noT G) G') (s : SqT K G' A xs) (r : RowsV K G' xs (S.map tol)) :
    ∃ acc, G' D = some (.lst acc) ∧ acc.length = n ∧ GrowL K (upd G' D (.lst (acc ++ [.ref A]))) D (n + 1) (fun k => if k = n then S else base k) := by
  obtain ⟨ys, h1, h2, h3⟩ := h
  have h4 := e _ _ (noT_at h1 (fun _ e => nomatch e))
  refine ⟨ys, h4, h2, ys ++ [.ref A], upd_same, by rw [List.length_append, h2]; rfl, fun k v g => ?_⟩
  by_cases c : k < n
  · rw [List.getElem?_append_left (by omega)] at g
    obtain ⟨A2, xs2, rfl, s2, r2⟩ := h3 k v g
    refine ⟨A2, xs2, rfl, sqt_upd h4 (same_tup e (noT_sqt s2)), ?_⟩
    show RowsV K _ xs2 ((if k = n then S else base k).map tol)
    rw [if_neg (by omega)]
    exact ((noT_rows r2).mono e).upd h4
  · rw [List.getElem?_append_right (by omega)] at g
    have : k - ys.length = 0 := by
      cases z : k - ys.length with
      | zero => rfl
      | succ m =>
        rw [z] at g
        cases g
    rw [this] at g
    cases g
    refine ⟨A, xs, rfl, sqt_upd h4 s, ?_⟩
    show RowsV K _ xs ((if k = n then S else base k).map tol)
    rw [if_pos (by omega)]
    exact r.upd h4
theorem tabs_put2 {T : List (Addr × Str)} {H : Hp} {D : Addr} {ys zs : List V} (t : LamX.Tabs T H) (h : H D = some (.lst ys)) : LamX.Tabs T (upd H D (.lst zs)) := by
  intro p hp
  obtain ⟨ps, e, k1, k2⟩ := t p hp
  have n1 : p.1 ≠ D := fun z => by
    rw [z, h] at e
    cases e
  refine ⟨ps, (upd_ne n1).trans e, k1, fun pos cv hc => ?_⟩
  obtain ⟨c, ec, hco⟩ := k2 pos cv hc
  refine ⟨c, ec, (upd_ne fun z => ?_).trans hco⟩
  rw [z, h] at hco
  have z' : HO.lst ys = HO.ext _ := Option.some.inj hco
  cases z'
theorem rwn_updD {K : PySem.W.Frag} {H : Hp} {D E : Addr} {us : List V} {o : HO} {S : List Ln} (h : RwN K H E S) (hD : H D = some (.lst us)) (ne : E ≠ D) : RwN K (upd H D o) E S := by
  obtain ⟨vs, h1, h2⟩ := h
  exact ⟨vs, by rw [upd_ne ne]; exact h1, h2.upd hD⟩
theorem lots_of {K : PySem.W.Frag} {H : Hp} {L : Addr} {xs : List V} (h : H L = some (.lst xs)) (l3 : xs.length = 3) (hp : ∀ (i : Nat) (v : V), xs[i]? = some v → ∃ D S, v = V.ref D ∧ RwN K H D S ∧ S ≠ [] ∧ S.length ≤ 3 ∧ ∀ r ∈ S, BdN 1 r) : ∃ base : Nat → List Ln, Lots3 K H L base ∧ LotsOk base := by
  match xs, l3 with
  | [a, b, c], _ =>
    obtain ⟨D0, S0, rfl, a1, a2, a3, a4⟩ := hp 0 a rfl
    obtain ⟨D1, S1, rfl, b1, b2, b3, b4⟩ := hp 1 b rfl
    obtain ⟨D2, S2, rfl, c1, c2, c3, c4⟩ := hp 2 c rfl
    refine ⟨fun k => match k with | 0 => S0 | 1 => S1 | _ => S2, ⟨_, h, rfl, fun k v g => ?_⟩, fun k hk => ?_, fun k hk => ?_, fun k hk => ?_⟩
    · match k, g with
      | 0, g =>
        cases g
        exact ⟨D0, rfl, a1⟩
      | 1, g =>
        cases g
        exact ⟨D1, rfl, b1⟩
      | 2, g =>
        cases g
        exact ⟨D2, rfl, c1⟩
      | _ + 3, g => cases g
    · match k, hk with
      | 0, _ => exact a2
      | 1, _ => exact b2
      | 2, _ => exact c2
    · match k, hk with
      | 0, _ => exact a3
      | 1, _ => exact b3
      | 2, _ => exact c3
    · match k, hk with
      | 0, _ => exact a4
      | 1, _ => exact b4
      | 2, _ => exact c4
theorem thinP_nil : ∀ {S : List Ln}, S ≠ [] → thinP S ≠ [] := fun {S} n e => by
  cases S with
  | nil => exact n rfl
  | cons q r =>
    obtain ⟨y, hy, _⟩ := (thinP_ok (q :: r)).2.2 q (List.mem_cons_self ..)
    rw [e] at hy
    cases hy
end Fb

set_option Elab.async false
set_option linter.all false
set_option maxRecDepth 100000
set_option maxHeartbeats 4000000
namespace Fb
open PySem PySem.Spec L2
open PyProof.Rows hiding St
open C8 (Cal Met Mak Def cal0 met0 mak0 pe_c pe_mk pe_mt pe_mt0 fnScope fnBody fnArgs pss_cut tCut)
/-! ### the text by places -/
def topS (i : Nat) : Stmt := PySem.Challenge.pw_feeblind_k72_whole_dial_reads_trade.main.body.getD i (.Pass ⟨0, 0, 0, 0⟩)
abbrev s_is_name : Stmt := topS 11
theorem sc_is_name : FnScope ["value", "letter"] ["value"] (fnScope s_is_name) := ⟨rfl, rfl, rfl, by decide +kernel, rfl, by decide +kernel, by decide +kernel⟩
abbrev s_is_number : Stmt := topS 12
theorem sc_is_number : FnScope ["value", "least", "most"] ["value", "least", "most"] (fnScope s_is_number) := ⟨rfl, rfl, rfl, by decide +kernel, rfl, by decide +kernel, by decide +kernel⟩
abbrev s_is_at_most : Stmt := topS 16
theorem sc_is_at_most : FnScope ["one", "other", "left", "right"] ["one", "other"] (fnScope s_is_at_most) := ⟨rfl, rfl, rfl, by decide +kernel, rfl, by decide +kernel, by decide +kernel⟩
abbrev s_thin_rows : Stmt := topS 17
theorem sc_thin_rows : FnScope ["rows", "kept", "row"] ["rows"] (fnScope s_thin_rows) := ⟨rfl, rfl, rfl, by decide +kernel, rfl, by decide +kernel, by decide +kernel⟩
abbrev s_any_at_most : Stmt := topS 18
theorem sc_any_at_most : FnScope ["rows", "row", "other"] ["rows", "row"] (fnScope s_any_at_most) := ⟨rfl, rfl, rfl, by decide +kernel, rfl, by decide +kernel, by decide +kernel⟩
abbrev s_never_alone : Stmt := topS 21
theorem sc_never_alone : FnScope ["before", "line", "behind", "wins", "loses"] ["before", "line", "behind"] (fnScope s_never_alone) := ⟨rfl, rfl, rfl, by decide +kernel, rfl, by decide +kernel, by decide +kernel⟩
abbrev s_is_below_at : Stmt := topS 22
theorem sc_is_below_at : FnScope ["line", "other", "setting"] ["line", "other", "setting"] (fnScope s_is_below_at) := ⟨rfl, rfl, rfl, by decide +kernel, rfl, by decide +kernel, by decide +kernel⟩
abbrev s_lowest_lines : Stmt := topS 23
theorem sc_lowest_lines : FnScope ["lines", "top", "kept", "line"] ["lines", "top"] (fnScope s_lowest_lines) := ⟨rfl, rfl, rfl, by decide +kernel, rfl, by decide +kernel, by decide +kernel⟩
abbrev s_is_setting : Stmt := topS 26
theorem sc_is_setting : FnScope ["value", "top"] ["value", "top"] (fnScope s_is_setting) := ⟨rfl, rfl, rfl, by decide +kernel, rfl, by decide +kernel, by decide +kernel⟩
abbrev s_read_dial : Stmt := topS 27
theorem sc_read_dial : FnScope ["measure", "value", "setting", "over", "under", "a", "b"] ["measure", "value", "setting"] (fnScope s_read_dial) := ⟨rfl, rfl, rfl, by decide +kernel, rfl, by decide +kernel, by decide +kernel⟩
abbrev s__law_bag : Stmt := topS 29
theorem sc__law_bag : FnScope ["script", "stir", "lump"] ["script"] (fnScope s__law_bag) := ⟨rfl, rfl, rfl, by decide +kernel, rfl, by decide +kernel, by decide +kernel⟩
abbrev s__law_draw : Stmt := topS 30
theorem sc__law_draw : FnScope ["bag", "sides", "lump", "digit"] ["bag", "sides"] (fnScope s__law_draw) := ⟨rfl, rfl, rfl, by decide +kernel, rfl, by decide +kernel, by decide +kernel⟩
abbrev s__law_of : Stmt := topS 31
theorem sc__law_of : FnScope ["bag", "things"] ["bag", "things"] (fnScope s__law_of) := ⟨rfl, rfl, rfl, by decide +kernel, rfl, by decide +kernel, by decide +kernel⟩
abbrev s__law_like : Stmt := topS 32
theorem sc__law_like : FnScope ["told", "due", "k", "a", "b"] ["told", "due"] (fnScope s__law_like) := ⟨rfl, rfl, rfl, by decide +kernel, rfl, by decide +kernel, by decide +kernel⟩
abbrev s__law_is_number : Stmt := topS 33
theorem sc__law_is_number : FnScope ["thing", "low"] ["thing", "low"] (fnScope s__law_is_number) := ⟨rfl, rfl, rfl, by decide +kernel, rfl, by decide +kernel, by decide +kernel⟩
abbrev s__law_title : Stmt := topS 35
theorem sc__law_title : FnScope ["bag", "k"] ["bag"] (fnScope s__law_title) := ⟨rfl, rfl, rfl, by decide +kernel, rfl, by decide +kernel, by decide +kernel⟩
abbrev s__law_titles : Stmt := topS 36
theorem sc__law_titles : FnScope ["bag", "many", "found", "k", "pick", "mint"] ["bag", "many"] (fnScope s__law_titles) := ⟨rfl, rfl, rfl, by decide +kernel, rfl, by decide +kernel, by decide +kernel⟩
abbrev s__law_thin : Stmt := topS 37
theorem sc__law_thin : FnScope ["rows_y", "kept", "x", "y", "p", "q"] ["rows_y"] (fnScope s__law_thin) := ⟨rfl, rfl, rfl, by decide +kernel, rfl, by decide +kernel, by decide +kernel⟩
abbrev s__law_span : Stmt := topS 40
theorem sc__law_span : FnScope ["ray", "rays", "roof", "low", "high", "c", "d"] ["ray", "rays", "roof"] (fnScope s__law_span) := ⟨rfl, rfl, rfl, by decide +kernel, rfl, by decide +kernel, by decide +kernel⟩
abbrev s__law_lines : Stmt := topS 41
theorem sc__law_lines : FnScope ["rays", "roof", "kept", "found", "ray", "low", "high"] ["rays", "roof"] (fnScope s__law_lines) := ⟨rfl, rfl, rfl, by decide +kernel, rfl, by decide +kernel, by decide +kernel⟩
abbrev s__law_pairs : Stmt := topS 43
theorem sc__law_pairs : FnScope ["a", "b", "found", "x", "y"] ["a", "b"] (fnScope s__law_pairs) := ⟨rfl, rfl, rfl, by decide +kernel, rfl, by decide +kernel, by decide +kernel⟩
abbrev s__law_fee : Stmt := topS 44
theorem sc__law_fee : FnScope ["bag", "pick"] ["bag"] (fnScope s__law_fee) := ⟨rfl, rfl, rfl, by decide +kernel, rfl, by decide +kernel, by decide +kernel⟩
abbrev s__law_tuple_of : Stmt := topS 45
theorem sc__law_tuple_of : FnScope ["thing", "many"] ["thing", "many"] (fnScope s__law_tuple_of) := ⟨rfl, rfl, rfl, by decide +kernel, rfl, by decide +kernel, by decide +kernel⟩
abbrev s__law_is : Stmt := topS 46
theorem sc__law_is : FnScope ["spec", "thing", "kind", "x", "k", "y"] ["spec", "thing"] (fnScope s__law_is) := ⟨rfl, rfl, rfl, by decide +kernel, rfl, by decide +kernel, by decide +kernel⟩
abbrev s__law_tree : Stmt := topS 47
theorem sc__law_tree : FnScope ["bag", "steps", "left"] ["bag", "steps"] (fnScope s__law_tree) := ⟨rfl, rfl, rfl, by decide +kernel, rfl, by decide +kernel, by decide +kernel⟩
abbrev s__law_by_program : Stmt := topS 48
theorem sc__law_by_program : FnScope ["made", "tree", "values", "left", "right"] ["made", "tree", "values"] (fnScope s__law_by_program) := ⟨rfl, rfl, rfl, by decide +kernel, rfl, by decide +kernel, by decide +kernel⟩
abbrev s__law_row_then : Stmt := topS 49
theorem sc__law_row_then : FnScope ["spec", "x", "y", "kind", "t_y", "p", "q"] ["spec", "x", "y"] (fnScope s__law_row_then) := ⟨rfl, rfl, rfl, by decide +kernel, rfl, by decide +kernel, by decide +kernel⟩
abbrev s__law_split : Stmt := topS 50
theorem sc__law_split : FnScope ["spec", "thing", "x"] ["spec", "thing"] (fnScope s__law_split) := ⟨rfl, rfl, rfl, by decide +kernel, rfl, by decide +kernel, by decide +kernel⟩
abbrev s__law_raw : Stmt := topS 51
theorem sc__law_raw : FnScope ["spec", "tree", "values", "left", "right", "x", "y"] ["spec", "tree", "values"] (fnScope s__law_raw) := ⟨rfl, rfl, rfl, by decide +kernel, rfl, by decide +kernel, by decide +kernel⟩
abbrev s__law_joints : Stmt := topS 52
theorem sc__law_joints : FnScope ["rays", "roof", "found", "k"] ["rays", "roof"] (fnScope s__law_joints) := ⟨rfl, rfl, rfl, by decide +kernel, rfl, by decide +kernel, by decide +kernel⟩
abbrev s__law_fits_rows : Stmt := topS 54
theorem sc__law_fits_rows : FnScope ["spec", "told", "raw", "x", "y", "p", "q"] ["spec", "told", "raw"] (fnScope s__law_fits_rows) := ⟨rfl, rfl, rfl, by decide +kernel, rfl, by decide +kernel, by decide +kernel⟩
abbrev s__law_joinings : Stmt := topS 55
theorem sc__law_joinings : FnScope ["tree"] ["tree"] (fnScope s__law_joinings) := ⟨rfl, rfl, rfl, by decide +kernel, rfl, by decide +kernel, by decide +kernel⟩
abbrev s__law_small_tree : Stmt := topS 56
theorem sc__law_small_tree : FnScope ["bag", "tree"] ["bag"] (fnScope s__law_small_tree) := ⟨rfl, rfl, rfl, by decide +kernel, rfl, by decide +kernel, by decide +kernel⟩
abbrev s__law_weighed : Stmt := topS 57
theorem sc__law_weighed : FnScope ["rows_y", "setting_y", "x"] ["rows_y", "setting_y"] (fnScope s__law_weighed) := ⟨rfl, rfl, rfl, by decide +kernel, rfl, by decide +kernel, by decide +kernel⟩
abbrev s__law_some_settings : Stmt := topS 58
theorem sc__law_some_settings : FnScope ["bag", "rays", "roof", "found", "k", "more", "low"] ["bag", "rays", "roof"] (fnScope s__law_some_settings) := ⟨rfl, rfl, rfl, by decide +kernel, rfl, by decide +kernel, by decide +kernel⟩
abbrev s_Trade___init__ : Stmt := inClass (topS 19) 0
theorem sc_Trade___init__ : FnScope ["self", "wishes", "wish", "at"] ["self", "wishes"] (fnScope s_Trade___init__) := ⟨rfl, rfl, rfl, by decide +kernel, rfl, by decide +kernel, by decide +kernel⟩
abbrev s_Trade_best : Stmt := inClass (topS 19) 2
theorem sc_Trade_best : FnScope ["self", "one", "other"] ["self", "one", "other"] (fnScope s_Trade_best) := ⟨rfl, rfl, rfl, by decide +kernel, rfl, by decide +kernel, by decide +kernel⟩
abbrev s_Trade_then : Stmt := inClass (topS 19) 3
theorem sc_Trade_then : FnScope ["self", "one", "other", "sums", "row", "more", "left", "right"] ["self", "one", "other"] (fnScope s_Trade_then) := ⟨rfl, rfl, rfl, by decide +kernel, rfl, by decide +kernel, by decide +kernel⟩
abbrev s_Dial___init__ : Stmt := inClass (topS 24) 0
theorem sc_Dial___init__ : FnScope ["self", "wish", "slope", "top"] ["self", "wish", "slope", "top"] (fnScope s_Dial___init__) := ⟨rfl, rfl, rfl, by decide +kernel, rfl, by decide +kernel, by decide +kernel⟩
abbrev s_Dial_best : Stmt := inClass (topS 24) 1
theorem sc_Dial_best : FnScope ["self", "one", "other"] ["self", "one", "other"] (fnScope s_Dial_best) := ⟨rfl, rfl, rfl, by decide +kernel, rfl, by decide +kernel, by decide +kernel⟩
abbrev s_Dial_then : Stmt := inClass (topS 24) 2
theorem sc_Dial_then : FnScope ["self", "one", "other", "a", "b", "more", "steeper"] ["self", "one", "other"] (fnScope s_Dial_then) := ⟨rfl, rfl, rfl, by decide +kernel, rfl, by decide +kernel, by decide +kernel⟩
abbrev s_law : Stmt := topS 59
theorem sc_law : FnScope ["script", "bag", "turn", "titles", "roof", "lots", "pairs_y", "rays", "tree", "told", "seen", "listed", "x", "trade", "dial", "due", "j", "k"] ["script"] (fnScope s_law) := ⟨rfl, rfl, rfl, by decide +kernel, rfl, by decide +kernel, by decide +kernel⟩
structure Top (K : PySem.W.Frag) (mg : Str → Option Value) (C_Trade C_Dial : Addr) : Prop where
  cl_Trade : Cls K C_Trade
  g_Trade : mg "Trade" = some (.ref C_Trade)
  na_Trade__wishes : NoAttr K C_Trade "_wishes"
  na_Trade_stay : NoAttr K C_Trade "stay"
  cl_Dial : Cls K C_Dial
  g_Dial : mg "Dial" = some (.ref C_Dial)
  na_Dial_wish : NoAttr K C_Dial "wish"
  na_Dial_slope : NoAttr K C_Dial "slope"
  na_Dial_top : NoAttr K C_Dial "top"
  na_Dial_stay : NoAttr K C_Dial "stay"
  d_is_name : ∃ (f : Addr) (fd : FuncData), Def K mg "is_name" s_is_name f fd ∧ fd.defaults = .none
  d_is_number : ∃ (f : Addr) (fd : FuncData), Def K mg "is_number" s_is_number f fd ∧ DflV K fd.defaults [.int 0, .non]
  d_is_at_most : ∃ (f : Addr) (fd : FuncData), Def K mg "is_at_most" s_is_at_most f fd ∧ fd.defaults = .none
  d_thin_rows : ∃ (f : Addr) (fd : FuncData), Def K mg "thin_rows" s_thin_rows f fd ∧ fd.defaults = .none
  d_any_at_most : ∃ (f : Addr) (fd : FuncData), Def K mg "any_at_most" s_any_at_most f fd ∧ fd.defaults = .none
  d_never_alone : ∃ (f : Addr) (fd : FuncData), Def K mg "never_alone" s_never_alone f fd ∧ fd.defaults = .none
  d_is_below_at : ∃ (f : Addr) (fd : FuncData), Def K mg "is_below_at" s_is_below_at f fd ∧ fd.defaults = .none
  d_lowest_lines : ∃ (f : Addr) (fd : FuncData), Def K mg "lowest_lines" s_lowest_lines f fd ∧ fd.defaults = .none
  d_is_setting : ∃ (f : Addr) (fd : FuncData), Def K mg "is_setting" s_is_setting f fd ∧ fd.defaults = .none
  d_read_dial : ∃ (f : Addr) (fd : FuncData), Def K mg "read_dial" s_read_dial f fd ∧ fd.defaults = .none
  d__law_bag : ∃ (f : Addr) (fd : FuncData), Def K mg "_law_bag" s__law_bag f fd ∧ fd.defaults = .none
  d__law_draw : ∃ (f : Addr) (fd : FuncData), Def K mg "_law_draw" s__law_draw f fd ∧ fd.defaults = .none
  d__law_of : ∃ (f : Addr) (fd : FuncData), Def K mg "_law_of" s__law_of f fd ∧ fd.defaults = .none
  d__law_like : ∃ (f : Addr) (fd : FuncData), Def K mg "_law_like" s__law_like f fd ∧ fd.defaults = .none
  d__law_is_number : ∃ (f : Addr) (fd : FuncData), Def K mg "_law_is_number" s__law_is_number f fd ∧ fd.defaults = .none
  d__law_title : ∃ (f : Addr) (fd : FuncData), Def K mg "_law_title" s__law_title f fd ∧ fd.defaults = .none
  d__law_titles : ∃ (f : Addr) (fd : FuncData), Def K mg "_law_titles" s__law_titles f fd ∧ fd.defaults = .none
  d__law_thin : ∃ (f : Addr) (fd : FuncData), Def K mg "_law_thin" s__law_thin f fd ∧ fd.defaults = .none
  d__law_span : ∃ (f : Addr) (fd : FuncData), Def K mg "_law_span" s__law_span f fd ∧ fd.defaults = .none
  d__law_lines : ∃ (f : Addr) (fd : FuncData), Def K mg "_law_lines" s__law_lines f fd ∧ fd.defaults = .none
  d__law_pairs : ∃ (f : Addr) (fd : FuncData), Def K mg "_law_pairs" s__law_pairs f fd ∧ fd.defaults = .none
  d__law_fee : ∃ (f : Addr) (fd : FuncData), Def K mg "_law_fee" s__law_fee f fd ∧ fd.defaults = .none
  d__law_tuple_of : ∃ (f : Addr) (fd : FuncData), Def K mg "_law_tuple_of" s__law_tuple_of f fd ∧ fd.defaults = .none
  d__law_is : ∃ (f : Addr) (fd : FuncData), Def K mg "_law_is" s__law_is f fd ∧ fd.defaults = .none
  d__law_tree : ∃ (f : Addr) (fd : FuncData), Def K mg "_law_tree" s__law_tree f fd ∧ fd.defaults = .none
  d__law_by_program : ∃ (f : Addr) (fd : FuncData), Def K mg "_law_by_program" s__law_by_program f fd ∧ fd.defaults = .none
  d__law_row_then : ∃ (f : Addr) (fd : FuncData), Def K mg "_law_row_then" s__law_row_then f fd ∧ fd.defaults = .none
  d__law_split : ∃ (f : Addr) (fd : FuncData), Def K mg "_law_split" s__law_split f fd ∧ fd.defaults = .none
  d__law_raw : ∃ (f : Addr) (fd : FuncData), Def K mg "_law_raw" s__law_raw f fd ∧ fd.defaults = .none
  d__law_joints : ∃ (f : Addr) (fd : FuncData), Def K mg "_law_joints" s__law_joints f fd ∧ fd.defaults = .none
  d__law_fits_rows : ∃ (f : Addr) (fd : FuncData), Def K mg "_law_fits_rows" s__law_fits_rows f fd ∧ fd.defaults = .none
  d__law_joinings : ∃ (f : Addr) (fd : FuncData), Def K mg "_law_joinings" s__law_joinings f fd ∧ fd.defaults = .none
  d__law_small_tree : ∃ (f : Addr) (fd : FuncData), Def K mg "_law_small_tree" s__law_small_tree f fd ∧ fd.defaults = .none
  d__law_weighed : ∃ (f : Addr) (fd : FuncData), Def K mg "_law_weighed" s__law_weighed f fd ∧ fd.defaults = .none
  d__law_some_settings : ∃ (f : Addr) (fd : FuncData), Def K mg "_law_some_settings" s__law_some_settings f fd ∧ fd.defaults = .none
  d_Trade___init__ : ∃ (f : Addr) (fd : FuncData), Mk K C_Trade f ∧ C8.Fun K "__init__" "Trade.__init__" s_Trade___init__ f fd ∧ fd.defaults = .none
  d_Trade_best : ∃ (f : Addr) (fd : FuncData), Meth K C_Trade "best" f ∧ C8.Fun K "best" "Trade.best" s_Trade_best f fd ∧ fd.defaults = .none
  d_Trade_then : ∃ (f : Addr) (fd : FuncData), Meth K C_Trade "then" f ∧ C8.Fun K "then" "Trade.then" s_Trade_then f fd ∧ fd.defaults = .none
  d_Dial___init__ : ∃ (f : Addr) (fd : FuncData), Mk K C_Dial f ∧ C8.Fun K "__init__" "Dial.__init__" s_Dial___init__ f fd ∧ fd.defaults = .none
  d_Dial_best : ∃ (f : Addr) (fd : FuncData), Meth K C_Dial "best" f ∧ C8.Fun K "best" "Dial.best" s_Dial_best f fd ∧ fd.defaults = .none
  d_Dial_then : ∃ (f : Addr) (fd : FuncData), Meth K C_Dial "then" f ∧ C8.Fun K "then" "Dial.then" s_Dial_then f fd ∧ fd.defaults = .none
  d_law : ∃ (f : Addr) (fd : FuncData), Def K mg "law" s_law f fd ∧ fd.defaults = .none
  all : mg "all" = none
  any : mg "any" = none
  bool : mg "bool" = none
  dict : mg "dict" = none
  enumerate : mg "enumerate" = none
  int : mg "int" = none
  isinstance : mg "isinstance" = none
  len : mg "len" = none
  list : mg "list" = none
  min : mg "min" = none
  range : mg "range" = none
  reversed : mg "reversed" = none
  set : mg "set" = none
  sorted : mg "sorted" = none
  str : mg "str" = none
  tuple : mg "tuple" = none
  zip : mg "zip" = none
  m_MOST : ∃ u, mg "MOST" = some u ∧ RelV (.int 1000000) u
  m_LETTERS : ∃ u, mg "LETTERS" = some u ∧ RelV (.int 8) u
end Fb

set_option Elab.async false
set_option linter.all false
set_option maxRecDepth 100000
set_option maxHeartbeats 4000000
namespace Fb
open PySem PySem.Spec L2
open PyProof.Rows hiding St
open C8 (Cal Met Mak Def cal0 met0 mak0 pe_c pe_mk pe_mt pe_mt0 fnScope fnBody fnArgs pss_cut tCut)
local macro_rules | `(tactic| walk_at "hp") => `(tactic| first | exact upd_same | assumption | (refine grow (by assumption) _ _ ?_; walk_at "hp") | (refine (show Same _ _ by assumption) _ _ ?_; walk_at "hp"))
local macro_rules | `(tactic| walk_at "sm") => `(tactic| first | exact Same.refl _ | assumption | (refine Same.trans ?_ (grow (by assumption)); walk_at "sm") | (refine Same.trans ?_ (show Same _ _ by assumption); walk_at "sm"))
section
variable {P : Program} {w : World} {K : PySem.W.Frag} {mg : Str → Option Value} {base : Heap}
variable {C_Trade C_Dial : Addr}
/-! ### _law_bag -/
theorem cut_ints (ns : List Int) (lo hi : Option Int) : ∃ ms : List Int, cutV (ns.map V.int) lo hi = ms.map V.int := by
  unfold cutV
  rw [← List.map_drop, ← List.map_take]
  exact ⟨_, rfl⟩
def spBag (K : PySem.W.Frag) : Sp := sp1 fun a H Q => ∃ (l : Addr) (ns : List Int), a = .ref l ∧ SqL K H l (ns.map V.int) ∧ ∀ p H', Same H H' → BagAt H' p → Q (.ref p) H'
theorem c__law_bag (T : Top K mg C_Trade C_Dial) : Cal P w K mg base 1 "_law_bag" (spBag K) [] := by
  obtain ⟨f, fd, F, df⟩ := T.d__law_bag
  refine cal_of F df (fn1 F sc__law_bag fun cdv A outer s H a Q E hr h => ?_) fun _ _ _ _ _ _ us hl => match us, hl with | [_], _ => rfl
  have nd := sc__law_bag.nd
  obtain ⟨l, ns, rfl, hs, k⟩ := h
  refine ⟨_, pss_bagNew (pss_cons 
      (ps_set (i := 1) nd rfl (Or.inl rfl) pe_int) (pss_cons 
      (ps_for PassesOwn.never rfl (pi_K (K := K) rfl (pe_slice (sl_K (K := K) rfl) (pv 0) po_none (po_some pe_int))) (pg_name (i := 2) nd rfl (Or.inl rfl)) (pss_one 
      (ps_set (i := 1) nd rfl (Or.inl rfl) (pe_op op_mod (pe_callTy call_int1 (by rfl) T.int (by decide +kernel) (pa_cons (pe_op op_addU (pe_op op_addU (pe_op op_mul (pv 1) pe_int) (pe_op op_mul (pe_op op_mod (pe_callTy call_int1 (by rfl) T.int (by decide +kernel) (pa_cons (pv 2) pa_nil)) pe_int) pe_int)) pe_int) pa_nil)) pe_int)))) (pss_one 
      (ps_ret (pe_lst (pa_cons (pe_callTy (listOf_K (K := K) rfl) (by rfl) T.list (by decide +kernel) (pa_cons (pe_slice (sl_K (K := K) rfl) (pv 0) po_none (po_some pe_int)) pa_nil)) (pa_cons pe_int (pa_cons pe_int (pa_cons (pv 1) (pa_cons pe_int pa_nil)))))))))), ?_⟩
  -- for lump in script[:63]
  refine ⟨_, rfl, _, rfl, .inl ⟨l, _, rfl, hs, fun c nc => .inl ⟨c, rfl, ⟨_, SqL.of upd_same⟩, ?_⟩⟩⟩
  obtain ⟨ms, em⟩ := cut_ints ns none (some 63)
  rw [em]
  refine for_it (walk_list (xs := ms.map V.int)) (fun i σ H' => H' = upd H c (.lst (ms.map V.int)) ∧ ∃ (st : Int) (y : Option V), σ = [some (.ref l), some (.int st), y] ∧ 0 ≤ st ∧ st < 2147483629) ⟨rfl, _, _, rfl, by decide, by decide⟩ ?_ ?_ ?_
  · rintro i σ H' _ ⟨rfl, _⟩
    exact SqL.of upd_same
  · rintro i x σ H1 H2 hi ⟨rfl, st, y, rfl, s0, s1⟩ ⟨rfl, hx⟩
    obtain ⟨z, rfl⟩ : ∃ z, x = V.int z := by
      rw [List.getElem?_map] at hx
      cases e : ms[i]? with
      | none =>
        rw [e] at hx
        cases hx
      | some z =>
        rw [e] at hx
        exact ⟨z, (Option.some.inj hx).symm⟩
    refine ⟨_, rfl, _, _, rfl, rfl, .inr ⟨by decide, by decide⟩, _, rfl, .inl ⟨_, rfl, _, _, rfl, rfl, (by show (0 : Int) < _; decide), _, _, rfl, rfl, .inr ⟨by decide, by decide⟩, .inl ⟨_, _, rfl, rfl, .inl ⟨_, _, rfl, rfl, .inl ⟨_, rfl, _, _, rfl, rfl, (by show (0 : Int) < _; decide), ?_⟩⟩⟩⟩⟩
    exact ⟨rfl, _, _, rfl, Int.emod_nonneg _ (by decide), Int.emod_lt_of_pos _ (by decide)⟩
  · rintro σ H' ⟨rfl, st, y, rfl, s0, s1⟩
    -- return [list(script[:63]), 0, 0, stir, 0]
    have e1 : Same H (upd H c (.lst (ms.map V.int))) := grow nc
    refine ⟨_, rfl, _, rfl, .inl ⟨l, _, rfl, e1.seq hs, fun c2 n2 => ?_⟩⟩
    rw [em]
    refine ⟨c2, _, rfl, .inl (SqL.of upd_same), fun q nq => ⟨_, rfl, (by show 5 ≤ sizeLine; decide), fun p np => ?_⟩⟩
    have e2 := e1.trans (grow (o := .lst (ms.map V.int)) n2)
    have e3 := e2.trans (grow (o := .lst (ms.map V.int)) nq)
    have npq : q ≠ p := ne_of_none upd_same np
    refine ⟨p, q, rfl, 0, 0, st, 0, ⟨by decide, s0, s1⟩, upd_same, ?_⟩
    rw [upd_upd]
    refine k p _ (same_mut e3 (e3.free np)) ⟨q, ms, upd_same, ?_⟩
    rw [upd_ne npq, upd_same]

end
end Fb

set_option Elab.async false
set_option linter.all false
set_option maxRecDepth 100000
set_option maxHeartbeats 4000000
namespace Fb
open PySem PySem.Spec L2
open PyProof.Rows hiding St
open C8 (Cal Met Mak Def cal0 met0 mak0 pe_c pe_mk pe_mt pe_mt0 fnScope fnBody fnArgs pss_cut tCut)
local macro_rules | `(tactic| walk_at "hp") => `(tactic| first | exact upd_same | assumption | (refine grow (by assumption) _ _ ?_; walk_at "hp") | (refine (show Same _ _ by assumption) _ _ ?_; walk_at "hp"))
local macro_rules | `(tactic| walk_at "sm") => `(tactic| first | exact Same.refl _ | assumption | (refine Same.trans ?_ (grow (by assumption)); walk_at "sm") | (refine Same.trans ?_ (show Same _ _ by assumption); walk_at "sm"))
section
variable {P : Program} {w : World} {K : PySem.W.Frag} {mg : Str → Option Value} {base : Heap}
variable {C_Trade C_Dial : Addr}
/-! ### _law_draw -/
def spDraw : Sp := sp2 fun a b H Q => ∃ (p : Addr) (n : Int), a = .ref p ∧ b = .int n ∧ BagAt H p ∧ 0 < n ∧ n.natAbs.log2 < 9000 ∧ ∀ d : Int, 0 ≤ d → d < n → Q (.int d) H
theorem c__law_draw (T : Top K mg C_Trade C_Dial) : Cal P w K mg base 1 "_law_draw" spDraw [] := by
  obtain ⟨f, fd, F, df⟩ := T.d__law_draw
  refine cal_of F df (fn2 F sc__law_draw fun cdv A outer s H a b Q E hr h => ?_) fun _ _ _ _ _ _ us hl => match us, hl with | [_, _], _ => rfl
  have nd := sc__law_draw.nd
  obtain ⟨p, n, rfl, rfl, ⟨q, ns, hp, hq⟩, h0, h9, k⟩ := h
  have npq : q ≠ p := fun e => by
    rw [e, hp] at hq
    cases hq
  have hq' : ∀ L, upd H p (.lst L) q = some (.lst (ns.map V.int)) := fun L => by
    rw [upd_ne npq]
    exact hq
  refine ⟨_, pss_bag (pss_cons 
      (ps_asg (pe_op op_addU (pe_ix (ix_K (K := K) rfl) (pv 0) pe_int (fun _ _ => rfl)) pe_int) (pg_sub (pv 0) pe_int set_list)) (pss_cut 
      (ps_if (PW.pt (pw_and (pt_cmpR (eq_K (K := K) rfl hr) (pe_ix (ix_K (K := K) rfl) (pv 0) pe_int (fun _ _ => rfl)) pe_int (nomark _)) (pw_and1 (pt_cmpR (lt_K (K := K) rfl hr) (pe_ix (ix_K (K := K) rfl) (pv 0) pe_int (fun _ _ => rfl)) (pe_callB (len_K (K := K) rfl) (by rfl) T.len (by decide +kernel) (pa_cons (pe_ix (ix_K (K := K) rfl) (pv 0) pe_int (fun _ _ => rfl)) pa_nil)) (nomark _))))) (pss_cons 
      (ps_set (i := 2) nd rfl (Or.inl rfl) (pe_callTy call_int1 (by rfl) T.int (by decide +kernel) (pa_cons (pe_ix (ix_K (K := K) rfl) (pe_ix (ix_K (K := K) rfl) (pv 0) pe_int (fun _ _ => rfl)) (pe_ix (ix_K (K := K) rfl) (pv 0) pe_int (fun _ _ => rfl)) (fun _ _ => rfl)) pa_nil))) (pss_cons 
      (ps_asg (pe_op op_addU (pe_ix (ix_K (K := K) rfl) (pv 0) pe_int (fun _ _ => rfl)) pe_int) (pg_sub (pv 0) pe_int set_list)) (pss_one 
      (ps_if (pt_cmpR op_geU (pv 2) (pe_op op_pow pe_int pe_int) (nomark _)) (pss_one 
      (ps_asg (pv 2) (pg_sub (pv 0) pe_int set_list))) (pss_one 
      (ps_asg (pe_op op_mod (pe_callTy call_int1 (by rfl) T.int (by decide +kernel) (pa_cons (pe_op op_addU (pe_op op_addU (pe_op op_mul (pe_ix (ix_K (K := K) rfl) (pv 0) pe_int (fun _ _ => rfl)) pe_int) (pe_op op_mul (pe_op op_mod (pv 2) pe_int) pe_int)) pe_int) pa_nil)) pe_int) (pg_sub (pv 0) pe_int set_list))))))) pss_nil) (pss_cons 
      (ps_if (pt_cmpR op_gtU (pe_ix (ix_K (K := K) rfl) (pv 0) pe_int (fun _ _ => rfl)) pe_int (nomark _)) (pss_cons 
      (ps_set (i := 3) nd rfl (Or.inl rfl) (pe_op op_mod (pe_callTy call_int1 (by rfl) T.int (by decide +kernel) (pa_cons (pe_ix (ix_K (K := K) rfl) (pv 0) pe_int (fun _ _ => rfl)) pa_nil)) (pv 1))) (pss_cons 
      (ps_asg (pe_op op_fdivW (pe_ix (ix_K (K := K) rfl) (pv 0) pe_int (fun _ _ => rfl)) (pv 1)) (pg_sub (pv 0) pe_int set_list)) (pss_one 
      (ps_ret (pv 3))))) pss_nil) (pss_cons 
      (ps_asg (pe_op op_mod (pe_callTy call_int1 (by rfl) T.int (by decide +kernel) (pa_cons (pe_op op_addU (pe_op op_addU (pe_op op_pow (pe_ix (ix_K (K := K) rfl) (pv 0) pe_int (fun _ _ => rfl)) pe_int) (pe_op op_mul (pe_ix (ix_K (K := K) rfl) (pv 0) pe_int (fun _ _ => rfl)) pe_int)) pe_int) pa_nil)) pe_int) (pg_sub (pv 0) pe_int set_list)) (pss_one 
      (ps_ret (pe_op op_mod (pe_callTy call_int1 (by rfl) T.int (by decide +kernel) (pa_cons (pe_op op_addU (pe_op op_fdivW (pe_ix (ix_K (K := K) rfl) (pv 0) pe_int (fun _ _ => rfl)) pe_int) (pe_op op_mul (pe_op op_mod (pe_callTy call_int1 (by rfl) T.int (by decide +kernel) (pa_cons (pe_ix (ix_K (K := K) rfl) (pv 0) pe_int (fun _ _ => rfl)) pa_nil)) pe_int) pe_int)) pa_nil)) (pv 1)))))))), ?_⟩
  refine ⟨p, q, hp, fun i c st t bk => ?_⟩
  obtain ⟨bi, b0, b1⟩ := id bk
  have md : ∀ x m : Int, 0 < m → m < 2147483629 → 0 ≤ x % m ∧ x % m < 2147483629 := fun x m h1 h2 =>
    ⟨Int.emod_nonneg _ (by omega), Int.lt_trans (Int.emod_lt_of_pos _ h1) h2⟩
  -- bag[4] = bag[4] + 1
  refine ⟨_, rfl, rd_bag rfl (.inl ⟨_, _, rfl, rfl, ⟨_, rfl, set_bag rfl ?_⟩⟩)⟩
  -- behind the first if: a bag, whatever it holds
  refine ⟨fun σ H' => ∃ i c st t y, BagOk i st ∧ H' = upd H p (.lst (bagL q i c st t)) ∧ σ = [some (.ref p), some (.int n), y, none], ?_, ?_⟩
  -- if bag[2] == 0 and ..
  · refine ⟨_, rfl, rd_bag rfl (.inl ⟨rfl, _, rfl, ite2 (fun ec => ?_) (fun ec => ?_)⟩)⟩
    · refine ⟨_, rfl, rd_bag rfl ⟨_, rfl, rd_bag rfl (.inl ⟨q, _, rfl, .inl (SqL.of (hq' _)), .inl ⟨_, _, rfl, rfl, _, rfl, ite2 (fun ei => ?_) (fun ei => ?_)⟩⟩)⟩⟩
      · have ei := of_decide_eq_true ei
        rw [List.length_map] at ei
        obtain ⟨j, rfl⟩ := Int.eq_ofNat_of_zero_le bi
        have hj : j < ns.length := by omega
        have gj : atI (ns.map V.int) (j : Int) = some (.int ns[j]) := atI_nat (by rw [List.getElem?_map, List.getElem?_eq_getElem hj]; rfl)
        -- lump = int(bag[0][bag[1]]); bag[1] = bag[1] + 1
        refine ⟨_, rfl, rd_bag rfl ⟨_, rfl, rd_bag rfl (.inl ⟨q, _, _, _, rfl, rfl, SqL.of (hq' _), gj, .inl ⟨_, rfl, ?_⟩⟩)⟩⟩
        refine ⟨_, rfl, rd_bag rfl (.inl ⟨_, _, rfl, rfl, ⟨_, rfl, set_bag rfl ?_⟩⟩)⟩
        refine ⟨_, rfl, _, _, rfl, rfl, ⟨by decide, by decide, by decide⟩, _, _, rfl, rfl, _, rfl, ite2 (fun el => ?_) (fun el => ?_)⟩
        · refine ⟨_, rfl, _, rfl, set_bag rfl ?_⟩
          exact ⟨(j : Int) + 1, ns[j], st, t + 1, _, ⟨by omega, b0, b1⟩, rfl, rfl⟩
        · refine ⟨_, rfl, rd_bag rfl ⟨_, _, rfl, rfl, .inr ⟨by decide, by decide⟩, _, rfl, _, _, rfl, rfl, (by show (0 : Int) < _; decide), _, _, rfl, rfl, .inr ⟨by decide, by decide⟩, .inl ⟨_, _, rfl, rfl, .inl ⟨_, _, rfl, rfl, .inl ⟨_, rfl, _, _, rfl, rfl, (by show (0 : Int) < _; decide), _, rfl, set_bag rfl ?_⟩⟩⟩⟩⟩
          obtain ⟨m1, m2⟩ := md (st * 69621 + ns[j] % 2147483549 * 271 + 97) 2147483579 (by decide) (by decide)
          exact ⟨(j : Int) + 1, c, _, t + 1, _, ⟨by omega, m1, m2⟩, rfl, rfl⟩
      · exact ⟨i, c, st, t + 1, _, bk, rfl, rfl⟩
    · exact iteF ⟨i, c, st, t + 1, _, bk, rfl, rfl⟩
  · rintro σ H' ⟨i, c, st, t, y, ⟨bi, b0, b1⟩, rfl, rfl⟩
    -- if bag[2] > 0
    refine ⟨_, rfl, rd_bag rfl ⟨_, _, rfl, rfl, _, rfl, ite2 (fun ec => ?_) (fun ec => ?_)⟩⟩
    · refine ⟨_, rfl, rd_bag rfl (.inl ⟨_, rfl, _, rfl, _, _, rfl, rfl, h0, ?_⟩)⟩
      refine ⟨_, rfl, rd_bag rfl ⟨_, rfl, _, _, rfl, rfl, ⟨h0, h9⟩, _, rfl, set_bag rfl ?_⟩⟩
      exact ⟨_, rfl, shut_bag hp ⟨bi, b0, b1⟩ (k _ (Int.emod_nonneg _ (by omega)) (Int.emod_lt_of_pos _ h0))⟩
    · refine ⟨_, rfl, rd_bag rfl ⟨_, _, rfl, rfl, ⟨by decide, by decide, by omega⟩, _, rfl, rd_bag rfl ⟨_, _, rfl, rfl, .inr ⟨by decide, by decide⟩, .inl ⟨_, _, rfl, rfl, .inl ⟨_, _, rfl, rfl, .inl ⟨_, rfl, _, _, rfl, rfl, (by show (0 : Int) < _; decide), _, rfl, set_bag rfl ?_⟩⟩⟩⟩⟩⟩
      obtain ⟨m1, m2⟩ := md (st ^ (3 : Int).toNat + t * 1299709 + 60013) 2147483579 (by decide) (by decide)
      refine ⟨_, rfl, rd_bag rfl ⟨_, _, rfl, rfl, ⟨by decide, by decide⟩, _, rfl, rd_bag rfl (.inl ⟨_, rfl, _, _, rfl, rfl, (by show (0 : Int) < _; decide), _, _, rfl, rfl, .inr ⟨by decide, by decide⟩, .inl ⟨_, _, rfl, rfl, .inl ⟨_, rfl, _, rfl, _, _, rfl, rfl, h0, ?_⟩⟩⟩)⟩⟩
      exact shut_bag hp ⟨bi, m1, m2⟩ (k _ (Int.emod_nonneg _ (by omega)) (Int.emod_lt_of_pos _ h0))

end
end Fb

set_option Elab.async false
set_option linter.all false
set_option maxRecDepth 100000
set_option maxHeartbeats 4000000
namespace Fb
open PySem PySem.Spec L2
open PyProof.Rows hiding St
open C8 (Cal Met Mak Def cal0 met0 mak0 pe_c pe_mk pe_mt pe_mt0 fnScope fnBody fnArgs pss_cut tCut)
local macro_rules | `(tactic| walk_at "hp") => `(tactic| first | exact upd_same | assumption | (refine grow (by assumption) _ _ ?_; walk_at "hp") | (refine (show Same _ _ by assumption) _ _ ?_; walk_at "hp"))
local macro_rules | `(tactic| walk_at "sm") => `(tactic| first | exact Same.refl _ | assumption | (refine Same.trans ?_ (grow (by assumption)); walk_at "sm") | (refine Same.trans ?_ (show Same _ _ by assumption); walk_at "sm"))
section
variable {P : Program} {w : World} {K : PySem.W.Frag} {mg : Str → Option Value} {base : Heap}
variable {C_Trade C_Dial : Addr}
/-! ### _law_of -/
def spOf (K : PySem.W.Frag) : Sp := sp2 fun a b H Q => ∃ (p : Addr), a = .ref p ∧ BagAt H p ∧
  ((∃ (l : Addr) (xs : List V), b = .ref l ∧ (SqL K H l xs ∨ SqT K H l xs) ∧ 0 < xs.length ∧ xs.length ≤ 100000 ∧ ∀ x ∈ xs, Q x H) ∨
    ∃ z : Str, b = .str z ∧ 0 < z.length ∧ z.length ≤ 100000 ∧ ∀ c ∈ z.cps.toList, Q (.str ⟨#[c]⟩) H)
theorem c__law_of (T : Top K mg C_Trade C_Dial) : Cal P w K mg base 2 "_law_of" (spOf K) [] := by
  obtain ⟨f, fd, F, df⟩ := T.d__law_of
  refine cal_of F df (fn2 F sc__law_of fun cdv A outer s H a b Q E hr h => ?_) fun _ _ _ _ _ _ us hl => match us, hl with | [_, _], _ => rfl
  have nd := sc__law_of.nd
  obtain ⟨p, rfl, hb, h⟩ := h
  refine ⟨_, (pss_one 
      (ps_ret (pe_ix (ix_K (K := K) rfl) (pv 1) (pe_c (c__law_draw T) hr (by decide) (by rfl) (pa_cons (pv 0) (pa_cons (pe_callB (len_K (K := K) rfl) (by rfl) T.len (by decide +kernel) (pa_cons (pv 1) pa_nil)) pa_nil))) (fun _ _ => rfl)))), ?_⟩
  rcases h with ⟨l, xs, rfl, hs, h0, h1, q⟩ | ⟨z, rfl, h0, h1, q⟩
  · refine ⟨_, rfl, _, rfl, _, rfl, .inl ⟨l, xs, rfl, hs, _, _, rfl, p, _, rfl, rfl, hb, by omega, small_log (by omega) (by omega), fun d d0 d1 => ?_⟩⟩
    obtain ⟨j, rfl⟩ := Int.eq_ofNat_of_zero_le d0
    have hj : j < xs.length := by omega
    have g : atI xs (j : Int) = some xs[j] := atI_nat (List.getElem?_eq_getElem hj)
    have k := q _ (List.getElem_mem hj)
    rcases hs with hs | hs
    · exact .inl ⟨l, xs, _, _, rfl, rfl, hs, g, k⟩
    · exact .inr (.inl ⟨l, xs, _, _, rfl, rfl, hs, g, k⟩)
  · refine ⟨_, rfl, _, rfl, _, rfl, .inr ⟨z, rfl, size5' h1, _, _, rfl, p, _, rfl, rfl, hb, by omega, small_log (by omega) (by omega), fun d d0 d1 => ?_⟩⟩
    obtain ⟨j, rfl⟩ := Int.eq_ofNat_of_zero_le d0
    have hj : j < z.cps.toList.length := by
      have : z.length = z.cps.size := rfl
      rw [← str_len]
      omega
    exact .inr (.inr ⟨z, _, _, rfl, rfl, size5' h1, atI_nat (List.getElem?_eq_getElem hj), q _ (List.getElem_mem hj)⟩)

end
end Fb

set_option Elab.async false
set_option linter.all false
set_option maxRecDepth 100000
set_option maxHeartbeats 4000000
namespace Fb
open PySem PySem.Spec L2
open PyProof.Rows hiding St
open C8 (Cal Met Mak Def cal0 met0 mak0 pe_c pe_mk pe_mt pe_mt0 fnScope fnBody fnArgs pss_cut tCut)
local macro_rules | `(tactic| walk_at "hp") => `(tactic| first | exact upd_same | assumption | (refine grow (by assumption) _ _ ?_; walk_at "hp") | (refine (show Same _ _ by assumption) _ _ ?_; walk_at "hp"))
local macro_rules | `(tactic| walk_at "sm") => `(tactic| first | exact Same.refl _ | assumption | (refine Same.trans ?_ (grow (by assumption)); walk_at "sm") | (refine Same.trans ?_ (show Same _ _ by assumption); walk_at "sm"))
section
variable {P : Program} {w : World} {K : PySem.W.Frag} {mg : Str → Option Value} {base : Heap}
variable {C_Trade C_Dial : Addr}
/-! ### _law_title -/
def spTitle (K : PySem.W.Frag) : Sp := sp1 fun a H Q => ∃ (p : Addr), a = .ref p ∧ BagAt H p ∧ ∀ (z : Str) H', Same H H' → NmS z → Q (.str z) H'
theorem c__law_title (T : Top K mg C_Trade C_Dial) : Cal P w K mg base 3 "_law_title" (spTitle K) [] := by
  obtain ⟨f, fd, F, df⟩ := T.d__law_title
  refine cal_of F df (fn1 F sc__law_title fun cdv A outer s H a Q E hr h => ?_) fun _ _ _ _ _ _ us hl => match us, hl with | [_], _ => rfl
  have nd := sc__law_title.nd
  obtain ⟨p, rfl, hb, k⟩ := h
  refine ⟨_, (pss_cons 
      (ps_if (pt_cmpR op_gtU (pe_c (c__law_draw T) hr (by decide) (by rfl) (pa_cons (pv 0) (pa_cons pe_int pa_nil))) pe_int (nomark _)) (pss_one 
      (ps_ret (pe_c (c__law_of T) hr (by decide) (by rfl) (pa_cons (pv 0) (pa_cons (pe_lst (pa_cons pe_str (pa_cons pe_str (pa_cons pe_str (pa_cons pe_str (pa_cons pe_str (pa_cons pe_str (pa_cons pe_str pa_nil)))))))) pa_nil))))) pss_nil) (pss_one 
      (ps_ret (pe_join pe_str (pe_lc (own := [("k", 1)]) rfl nd (pi_range1 (by rfl) T.range (pa_cons (pe_op op_addU pe_int (pe_c (c__law_draw T) hr (by decide) (by rfl) (pa_cons (pv 0) (pa_cons pe_int pa_nil)))) pa_nil)) (blkOk_by (N := ["bag", "k"]) (sc := fnScope s__law_title) (by decide +kernel)) (fun _ _ _ _ _ => (pg_name (i := 1) nd rfl (Or.inl rfl))) (fun _ _ _ _ _ => pts_nil) (fun _ _ _ _ _ => (pe_c (c__law_of T) hr (by decide) (by rfl) (pa_cons (pv 0) (pa_cons pe_str pa_nil))))))))), ?_⟩
  refine ⟨_, rfl, _, _, rfl, p, 5, rfl, rfl, hb, by decide, small_log (by decide) (by decide), fun d _ _ => ?_⟩
  refine ⟨_, _, rfl, rfl, _, rfl, ite2 (fun _ => ?_) (fun _ => ?_)⟩
  · refine ⟨_, rfl, Nat.le_of_ble_eq_true rfl, fun l nl => ?_⟩
    have e1 := grow (o := .lst (titleW.map V.str)) nl
    refine ⟨_, _, rfl, p, rfl, hb.mono e1, .inl ⟨l, titleW.map V.str, rfl, .inl (SqL.of upd_same), Nat.le_of_ble_eq_true rfl, Nat.le_of_ble_eq_true rfl, fun x hx => ?_⟩⟩
    obtain ⟨z, rfl, hz⟩ := nm_of hx titles_nm
    exact k z _ e1 hz
  · refine ⟨⟨_, rfl⟩, _, rfl, _, _, rfl, p, 8, rfl, rfl, hb, by decide, small_log (by decide) (by decide), fun m m0 m1 => ?_⟩
    refine .inl ⟨_, _, rfl, rfl, _, rfl, by omega, by omega, fun D hD => ?_⟩
    refine lc_some walk_range (fun _ v _ => ∃ c : Nat, v = .str ⟨#[c]⟩ ∧ letC c = true) grow_fn (by omega) hD (fun _ _ _ _ _ h => h) (fun _ _ => trivial) ?_ ?_
    · rintro i x H2 H3 hi e _ ⟨rfl, rfl⟩ R kk
      exact ⟨rfl, _, rfl, _, _, rfl, p, rfl, hb.mono e, .inr ⟨_, rfl, Nat.le_of_ble_eq_true rfl, Nat.le_of_ble_eq_true rfl, fun c hc => kk _ _ (Same.refl _) fun _ => ⟨c, rfl, abc_let c hc⟩⟩⟩
    · intro xs H2 e2 hx hl hp
      have : ∃ cs : List Nat, xs = cs.map (fun c => V.str ⟨#[c]⟩) ∧ ∀ c ∈ cs, letC c = true := by
        clear hl hx e2
        induction xs with
        | nil => exact ⟨[], rfl, fun c m => nomatch m⟩
        | cons x r ih =>
          obtain ⟨c, rfl, hc⟩ := hp 0 x rfl
          obtain ⟨cs, rfl, all⟩ := ih fun i v g => hp (i + 1) v g
          exact ⟨c :: cs, rfl, fun d m => (List.mem_cons.mp m).elim (fun e => e ▸ hc) (all d)⟩
      obtain ⟨cs, rfl, all⟩ := this
      rw [List.length_map] at hl
      refine ⟨_, D, cs.map fun c => ⟨#[c]⟩, rfl, rfl, .inl (SqL.of (by rw [hx, List.map_map]; rfl)), ?_, ?_⟩
      · rw [ones_sum]
        show cs.length + _ * 0 ≤ _
        omega
      · rw [cpsT]
        exact k _ H2 e2 (nm_mkT (by omega) (by omega) all)

end
end Fb

set_option Elab.async false
set_option linter.all false
set_option maxRecDepth 100000
set_option maxHeartbeats 4000000
namespace Fb
open PySem PySem.Spec L2
open PyProof.Rows hiding St
open C8 (Cal Met Mak Def cal0 met0 mak0 pe_c pe_mk pe_mt pe_mt0 fnScope fnBody fnArgs pss_cut tCut)
local macro_rules | `(tactic| walk_at "hp") => `(tactic| first | exact upd_same | assumption | (refine grow (by assumption) _ _ ?_; walk_at "hp") | (refine (show Same _ _ by assumption) _ _ ?_; walk_at "hp"))
local macro_rules | `(tactic| walk_at "sm") => `(tactic| first | exact Same.refl _ | assumption | (refine Same.trans ?_ (grow (by assumption)); walk_at "sm") | (refine Same.trans ?_ (show Same _ _ by assumption); walk_at "sm"))
section
variable {P : Program} {w : World} {K : PySem.W.Frag} {mg : Str → Option Value} {base : Heap}
variable {C_Trade C_Dial : Addr}
/-! ### _law_titles -/
def spTitles (K : PySem.W.Frag) : Sp := sp2 fun a b H Q => ∃ (p : Addr), a = .ref p ∧ BagAt H p ∧ b = .int 2 ∧ ∀ (H' : Hp) (D : Addr) (s1 s2 : Str), Same H H' → H' D = some (.lst [.str s1, .str s2]) → NmS s1 → NmS s2 → s1 ≠ s2 → Q (.ref D) H'
theorem c__law_titles (T : Top K mg C_Trade C_Dial) : Cal P w K mg base 4 "_law_titles" (spTitles K) [] := by
  obtain ⟨f, fd, F, df⟩ := T.d__law_titles
  refine cal_of F df (fn2 F sc__law_titles fun cdv A outer s H a b Q E hr h => ?_) fun _ _ _ _ _ _ us hl => match us, hl with | [_, _], _ => rfl
  have nd := sc__law_titles.nd
  obtain ⟨p, rfl, hb, rfl, k⟩ := h
  refine ⟨_, (pss_cons 
      (ps_set (i := 2) nd rfl (Or.inr rfl) (pe_lst pa_nil)) (pss_cons 
      (ps_for PassesOwn.never rfl (pi_range1 (by rfl) T.range (pa_cons (pv 1) pa_nil)) (pg_name (i := 3) nd rfl (Or.inl rfl)) (pss_cons 
      (ps_set (i := 4) nd rfl (Or.inl rfl) (pe_c (c__law_title T) hr (by decide) (by rfl) (pa_cons (pv 0) pa_nil))) (pss_cons 
      (ps_if (pt_cmpR (in_K (K := K) rfl) (pv 4) (pv 2) (by with_unfolding_all rfl)) (pss_one 
      (ps_set (i := 4) nd rfl (Or.inl rfl) (pe_ix (ix_K (K := K) rfl) (pe_lc (own := [("mint", 5)]) rfl nd (pi_K (K := K) rfl (pe_lst (pa_cons pe_str (pa_cons pe_str (pa_cons pe_str (pa_cons pe_str (pa_cons pe_str (pa_cons pe_str (pa_cons pe_str pa_nil))))))))) (blkOk_by (N := ["bag", "many", "found", "k", "pick", "mint"]) (sc := fnScope s__law_titles) (by decide +kernel)) (fun _ _ _ _ _ => (pg_name (i := 5) nd rfl (Or.inl rfl))) (fun _ _ _ _ _ => (pts_one (pt_cmpR (notIn_K (K := K) rfl) (pv 5) (pv 2) (by with_unfolding_all rfl)))) (fun _ _ _ _ _ => (pv 5))) pe_int (fun _ _ => rfl)))) pss_nil) (pss_one 
      (ps_expr (pe_bm PySem.F.plainAttrs_list PySem.F.slot_list_append PySem.F.type_list_append mt_append (pv 2) (pa_cons (pv 4) pa_nil))))))) (pss_one 
      (ps_ret (pv 2))))), ?_⟩
  refine ⟨Nat.le_of_ble_eq_true rfl, fun D nD => ?_⟩
  have e0 := grow (o := .lst []) nD
  refine ⟨_, rfl, 2, rfl, by decide, by decide, for_it walk_range (fun i σ H' => Same H H' ∧ (∃ ws : List Str, H' D = some (.lst (ws.map V.str)) ∧ ws.length = i ∧ (∀ z ∈ ws, NmS z) ∧ ws.Nodup) ∧ ∃ y3 y4, σ = [some (.ref p), some (.int 2), some (.ref D), y3, y4, none]) ⟨e0, ⟨[], upd_same, rfl, (fun z m => nomatch m), List.nodup_nil⟩, _, _, rfl⟩ (fun _ _ _ _ _ => trivial) ?_ ?_⟩
  · rintro i x σ H1 H2 hi ⟨e, ⟨ws, hD, lw, nm, nd2⟩, y3, y4, rfl⟩ ⟨rfl, rfl⟩
    have i1 : ws.length ≤ 1 := by
      have : (2 : Int).toNat = 2 := rfl
      omega
    refine ⟨_, rfl, _, rfl, p, rfl, hb.mono e, fun z H3 e3 nz => ?_⟩
    have e13 := e.trans e3
    have hD3 := e3 _ _ hD
    have fin : ∀ (s : Str) (G : Hp), Same H G → G D = some (.lst (ws.map V.str)) → NmS s → s ∉ ws → Same H (upd G D (.lst (ws.map V.str ++ [.str s]))) ∧ ∃ ws' : List Str, upd G D (.lst (ws.map V.str ++ [.str s])) D = some (.lst (ws'.map V.str)) ∧ ws'.length = i + 1 ∧ (∀ z ∈ ws', NmS z) ∧ ws'.Nodup := fun s G eG hG ns no => by
      refine ⟨same_mut eG nD, ws ++ [s], by rw [upd_same, List.map_append]; rfl, by rw [List.length_append, lw]; rfl, fun z m => ?_, ?_⟩
      · rcases List.mem_append.mp m with m | m
        · exact nm z m
        · rw [List.mem_singleton.mp m]
          exact ns
      · refine List.nodup_append.mpr ⟨nd2, List.pairwise_singleton _ _, fun a ha b hb2 e => ?_⟩
        rw [List.mem_singleton.mp hb2] at e
        exact no (e ▸ ha)
    refine ⟨_, rfl, _, rfl, .inr ⟨D, _, rfl, .inl (SqL.of hD3), rfl, flat_strT ws, ?_⟩⟩
    rw [if_neg Bool.false_ne_true, inV_strT]
    refine ⟨_, rfl, ?_⟩
    by_cases c : z ∈ ws
    · rw [decide_eq_true c]
      refine iteT ?_
      refine ⟨Nat.le_of_ble_eq_true rfl, fun M nM => .inl ⟨M, rfl, ⟨_, SqL.of upd_same⟩, fun D2 hD2 => ?_⟩⟩
      have e4 := grow (o := .lst (mintW.map V.str)) nM
      refine lc_filt (walk_list (xs := mintW.map V.str)) (fun i => !decide (mintW.getD i "" ∈ ws)) (fun i => .str (mintW.getD i "")) grow_at (by decide) hD2 (fun H e => SqL.of (e _ _ upd_same)) ?_ ?_
      · rintro j y G1 G2 hj e5 ⟨rfl, g⟩ F0 R0 yes no
        have hG := e5 _ _ (e4 _ _ hD3)
        have ey : y = .str (mintW.getD j "") := by
          rw [List.getElem?_map] at g
          cases gm : mintW[j]? with
          | none =>
            rw [gm] at g
            cases g
          | some m =>
            rw [gm] at g
            cases g
            rw [getD_of gm]
        subst ey
        refine ⟨rfl, _, rfl, _, rfl, .inr ⟨D, _, rfl, .inl (SqL.of hG), rfl, flat_strT ws, ?_⟩⟩
        rw [if_pos rfl, inV_strT]
        refine ⟨_, rfl, ?_⟩
        by_cases c2 : mintW.getD j "" ∈ ws
        · rw [decide_eq_true c2] at no yes ⊢
          exact no _ (Same.refl _) rfl
        · rw [decide_eq_false c2] at no yes ⊢
          exact ⟨_, rfl, yes _ (Same.refl _) rfl⟩
      · intro G e5 hd
        obtain ⟨m, r, em⟩ := mint_left i1
        have ef := filt_range ("" : Str) (fun s : Str => !decide (s ∈ ws)) V.str mintW
        have hd := hd.trans (congrArg (fun l => some (HO.lst l)) (show _ = (mintW.filter fun s => !decide (s ∈ ws)).map V.str from by rw [List.length_map]; exact ef))
        rw [em] at hd
        have mm : m ∈ mintW ∧ (!decide (m ∈ ws)) = true := List.mem_filter.mp (by rw [em]; exact List.mem_cons_self ..)
        refine .inl ⟨D2, _, _, _, rfl, rfl, SqL.of hd, at0, ?_⟩
        have e15 := e13.trans (e4.trans e5)
        have hG := e5 _ _ (e4 _ _ hD3)
        have no : m ∉ ws := fun h => by
          have := mm.2
          rw [decide_eq_true h] at this
          cases this
        refine ⟨_, rfl, .inl ⟨rfl, _, SqL.of hG⟩, _, rfl, D, _, _, rfl, rfl, hG, size5 (by rw [List.length_map]; omega), ?_⟩
        obtain ⟨f1, f2⟩ := fin m G e15 hG (mint_nm m mm.1) no
        exact ⟨f1, f2, _, _, rfl⟩
    · rw [decide_eq_false c]
      refine iteF ?_
      refine ⟨_, rfl, .inl ⟨rfl, _, SqL.of hD3⟩, _, rfl, D, _, _, rfl, rfl, hD3, size5 (by rw [List.length_map]; omega), ?_⟩
      obtain ⟨f1, f2⟩ := fin z H3 e13 hD3 nz c
      exact ⟨f1, f2, _, _, rfl⟩
  · rintro σ H1 ⟨e, ⟨ws, hD, lw, nm, nd2⟩, y3, y4, rfl⟩
    match ws, lw with
    | [s1, s2], _ =>
      refine ⟨_, rfl, k H1 D s1 s2 e hD (nm s1 (List.mem_cons_self ..)) (nm s2 (List.mem_cons_of_mem _ (List.mem_cons_self ..))) fun z => ?_⟩
      subst z
      exact absurd (List.mem_cons_self ..) (List.nodup_cons.mp nd2).1

end
end Fb

set_option Elab.async false
set_option linter.all false
set_option maxRecDepth 100000
set_option maxHeartbeats 4000000
namespace Fb
open PySem PySem.Spec L2
open PyProof.Rows hiding St
open C8 (Cal Met Mak Def cal0 met0 mak0 pe_c pe_mk pe_mt pe_mt0 fnScope fnBody fnArgs pss_cut tCut)
local macro_rules | `(tactic| walk_at "hp") => `(tactic| first | exact upd_same | assumption | (refine grow (by assumption) _ _ ?_; walk_at "hp") | (refine (show Same _ _ by assumption) _ _ ?_; walk_at "hp"))
local macro_rules | `(tactic| walk_at "sm") => `(tactic| first | exact Same.refl _ | assumption | (refine Same.trans ?_ (grow (by assumption)); walk_at "sm") | (refine Same.trans ?_ (show Same _ _ by assumption); walk_at "sm"))
section
variable {P : Program} {w : World} {K : PySem.W.Frag} {mg : Str → Option Value} {base : Heap}
variable {C_Trade C_Dial : Addr}
/-! ### _law_tree -/
def spTree (K : PySem.W.Frag) (n : Nat) : Sp := sp2 fun a b H Q => ∃ (p : Addr) (m : Int), a = .ref p ∧ BagAt H p ∧ b = .int m ∧ 0 ≤ m ∧ m < n ∧ m ≤ 4 ∧ ∀ (H' : Hp) (v : V) (t : Tr), Same H H' → Dp K H' v t.dat → t.ok → (t.lvs : Int) = m + 1 → Q v H'
theorem c__law_tree_n (T : Top K mg C_Trade C_Dial) : ∀ n, Cal P w K mg base (n + 3) "_law_tree" (spTree K n) []
  | 0 => by
    obtain ⟨f, fd, F, df⟩ := T.d__law_tree
    refine cal_of F df (fn2 F sc__law_tree fun cdv A outer s H a b Q E hr h => ?_) fun _ _ _ _ _ _ us hl => match us, hl with | [_, _], _ => rfl
    obtain ⟨p, m, rfl, hb, rfl, m0, m1, _⟩ := h
    omega
  | n + 1 => by
    have ih := @c__law_tree_n T n
    obtain ⟨f, fd, F, df⟩ := T.d__law_tree
    refine cal_of F df (fn2 F sc__law_tree fun cdv A outer s H a b Q E hr h => ?_) fun _ _ _ _ _ _ us hl => match us, hl with | [_, _], _ => rfl
    have nd := sc__law_tree.nd
    obtain ⟨p, m, rfl, hb, rfl, m0, m1, m4, k⟩ := h
    refine ⟨_, (pss_cons 
      (ps_if (pt_cmpR (eq_K (K := K) rfl hr) (pv 1) pe_int (nomark _)) (pss_one 
      (ps_ret (pe_c (c__law_draw T) hr (by omega) (by rfl) (pa_cons (pv 0) (pa_cons pe_int pa_nil))))) pss_nil) (pss_cons 
      (ps_set (i := 2) nd rfl (Or.inl rfl) (pe_c (c__law_draw T) hr (by omega) (by rfl) (pa_cons (pv 0) (pa_cons (pv 1) pa_nil)))) (pss_one 
      (ps_ret (pe_tup (pa_cons (pe_c (c__law_of T) hr (by omega) (by rfl) (pa_cons (pv 0) (pa_cons (pe_lst (pa_cons pe_str (pa_cons pe_str pa_nil))) pa_nil))) (pa_cons (pe_c ih hr (Nat.le_refl _) (by rfl) (pa_cons (pv 0) (pa_cons (pv 2) pa_nil))) (pa_cons (pe_c ih hr (Nat.le_refl _) (by rfl) (pa_cons (pv 0) (pa_cons (pe_op op_sub (pe_op op_sub (pv 1) pe_int) (pv 2)) pa_nil))) pa_nil)))))))), ?_⟩
    refine ⟨_, rfl, .inl ⟨rfl, _, rfl, ?_⟩⟩
    by_cases z : m = 0
    · subst z
      refine iteT ⟨_, rfl, _, _, rfl, p, 3, rfl, rfl, hb, by decide, small_log (by decide) (by decide), fun d d0 d1 => ?_⟩
      obtain ⟨j, rfl⟩ := Int.eq_ofNat_of_zero_le d0
      exact k _ _ (.leaf j) (Same.refl _) (leaf_tr j) (by show j < 3; omega) rfl
    · rw [show decide (V.int m = V.int 0) = false from decide_eq_false fun e => z (V.int.inj e)]
      refine iteF ⟨_, rfl, _, rfl, _, _, rfl, p, m, rfl, rfl, hb, by omega, small_log (by omega) (by omega), fun l l0 l1 => ?_⟩
      refine ⟨_, rfl, Nat.le_of_ble_eq_true rfl, fun c nc => ?_⟩
      have e1 := grow (o := .lst [.str "best", .str "then"]) nc
      refine ⟨_, _, rfl, p, rfl, hb.mono e1, .inl ⟨c, _, rfl, .inl (SqL.of upd_same), Nat.le_of_ble_eq_true rfl, Nat.le_of_ble_eq_true rfl, fun x hx => ?_⟩⟩
      obtain ⟨b, rfl⟩ : ∃ b : Bool, x = .str (if b = true then "best" else "then") := by
        simp only [List.mem_cons, List.not_mem_nil, or_false] at hx
        rcases hx with rfl | rfl
        · exact ⟨true, rfl⟩
        · exact ⟨false, rfl⟩
      have hb1 := hb.mono e1
      generalize upd H c _ = H1 at e1 hb1
      refine ⟨_, rfl, _, rfl, _, _, rfl, p, l, rfl, hb1, rfl, l0, by omega, by omega, fun H2 v1 t1 e2 d1 o1 s1 => ?_⟩
      refine ⟨_, rfl, _, rfl, _, _, rfl, rfl, _, rfl, _, _, rfl, rfl, _, _, rfl, p, m - 1 - l, rfl, hb1.mono e2, rfl, by omega, by omega, by omega, fun H3 v2 t2 e3 d2 o2 s2 => ?_⟩
      refine ⟨Nat.le_of_ble_eq_true rfl, fun A1 nA => ?_⟩
      have e4 := grow (o := .tup [.str (if b = true then "best" else "then"), v1, v2]) nA
      refine k _ _ (.node b t1 t2) (e1.trans (e2.trans (e3.trans e4))) (node_tr (SqT.of upd_same) (dp_mono (e3.trans e4) _ d1) (dp_mono e4 _ d2)) ⟨o1, o2⟩ ?_
      show ((t1.lvs + t2.lvs : Nat) : Int) = m + 1
      omega
theorem c__law_tree (T : Top K mg C_Trade C_Dial) : Cal P w K mg base 8 "_law_tree" (spTree K 5) [] := c__law_tree_n T 5

end
end Fb

set_option Elab.async false
set_option linter.all false
set_option maxRecDepth 100000
set_option maxHeartbeats 4000000
namespace Fb
open PySem PySem.Spec L2
open PyProof.Rows hiding St
open C8 (Cal Met Mak Def cal0 met0 mak0 pe_c pe_mk pe_mt pe_mt0 fnScope fnBody fnArgs pss_cut tCut)
local macro_rules | `(tactic| walk_at "hp") => `(tactic| first | exact upd_same | assumption | (refine grow (by assumption) _ _ ?_; walk_at "hp") | (refine (show Same _ _ by assumption) _ _ ?_; walk_at "hp"))
local macro_rules | `(tactic| walk_at "sm") => `(tactic| first | exact Same.refl _ | assumption | (refine Same.trans ?_ (grow (by assumption)); walk_at "sm") | (refine Same.trans ?_ (show Same _ _ by assumption); walk_at "sm"))
section
variable {P : Program} {w : World} {K : PySem.W.Frag} {mg : Str → Option Value} {base : Heap}
variable {C_Trade C_Dial : Addr}
/-! ### _law_joinings -/
def spJoin (K : PySem.W.Frag) (n : Nat) : Sp := sp1 fun a H Q => ∃ t : Tr, Dp K H a t.dat ∧ t.lvs ≤ n ∧ n ≤ 1000 ∧ ∀ i : Int, 0 ≤ i → (1 ≤ i → 2 ≤ t.lvs) → i + 1 ≤ t.lvs → Q (.int i) H
theorem c__law_joinings_n (T : Top K mg C_Trade C_Dial) : ∀ n, Cal P w K mg base (n + 1) "_law_joinings" (spJoin K n) []
  | 0 => by
    obtain ⟨f, fd, F, df⟩ := T.d__law_joinings
    refine cal_of F df (fn1 F sc__law_joinings fun cdv A outer s H a Q E hr h => ?_) fun _ _ _ _ _ _ us hl => match us, hl with | [_], _ => rfl
    obtain ⟨t, _, lt, _⟩ := h
    have := t.pos
    omega
  | n + 1 => by
    have ih := @c__law_joinings_n T n
    obtain ⟨f, fd, F, df⟩ := T.d__law_joinings
    refine cal_of F df (fn1 F sc__law_joinings fun cdv A outer s H a Q E hr h => ?_) fun _ _ _ _ _ _ us hl => match us, hl with | [_], _ => rfl
    have nd := sc__law_joinings.nd
    obtain ⟨t, ht, lt, ln, k⟩ := h
    refine ⟨_, (pss_cons 
      (ps_if (pt_val (pe_callB (isi_K (K := K) rfl) (by rfl) T.isinstance (by decide +kernel) (pa_cons (pv 0) (pa_cons (pe_bltn (v := .ty "int") (by rfl) T.int (by decide +kernel) rfl) pa_nil)))) (pss_one 
      (ps_ret pe_int)) pss_nil) (pss_one 
      (ps_ret (pe_op op_addU (pe_op op_addU (pe_callTy call_int1 (by rfl) T.int (by decide +kernel) (pa_cons (pe_cmpR (eq_K (K := K) rfl hr) (pe_ix (ix_K (K := K) rfl) (pv 0) pe_int (fun _ _ => rfl)) pe_str (nomark _)) pa_nil)) (pe_c ih hr (Nat.le_refl _) (by rfl) (pa_cons (pe_ix (ix_K (K := K) rfl) (pv 0) pe_int (fun _ _ => rfl)) pa_nil))) (pe_c ih hr (Nat.le_refl _) (by rfl) (pa_cons (pe_ix (ix_K (K := K) rfl) (pv 0) pe_int (fun _ _ => rfl)) pa_nil)))))), ?_⟩
    cases t with
    | leaf j =>
      cases tr_leaf ht
      refine ⟨_, rfl, .inl ⟨_, _, _, true, rfl, .base (.int _), by decide +kernel, _, rfl, iteT ?_⟩⟩
      exact k 0 (by decide) (fun h => absurd h (by decide)) (by show (0 : Int) + 1 ≤ ((1 : Nat) : Int); decide)
    | node b l r =>
      obtain ⟨A1, x, y, rfl, sA, d1, d2⟩ := tr_node ht
      have p1 := l.pos
      have p2 := r.pos
      have lt : l.lvs + r.lvs ≤ n + 1 := lt
      refine ⟨_, rfl, .inl ⟨_, _, _, false, rfl, sqt_ty sA, by decide +kernel, _, rfl, iteF ?_⟩⟩
      refine ⟨_, rfl, .inr (.inl ⟨A1, _, _, _, rfl, rfl, sA, at0, .inl ⟨rfl, ?_⟩⟩)⟩
      refine .inr ⟨_, rfl, ?_⟩
      refine ⟨_, rfl, .inr (.inl ⟨A1, _, _, _, rfl, rfl, sA, at1, ?_⟩)⟩
      refine ⟨_, rfl, l, d1, by omega, by omega, fun i i0 i1 i2 => ?_⟩
      refine .inl ⟨_, _, rfl, rfl, ?_⟩
      refine ⟨_, rfl, .inr (.inl ⟨A1, _, _, _, rfl, rfl, sA, at2, ?_⟩)⟩
      refine ⟨_, rfl, r, d2, by omega, by omega, fun j j0 j1 j2 => ?_⟩
      refine .inl ⟨_, _, rfl, rfl, ?_⟩
      have s2 : (Tr.node b l r).lvs = l.lvs + r.lvs := rfl
      refine k _ ?_ (fun _ => by omega) ?_ <;> (split <;> omega)
theorem c__law_joinings (T : Top K mg C_Trade C_Dial) : Cal P w K mg base 7 "_law_joinings" (spJoin K 6) [] := c__law_joinings_n T 6

end
end Fb

set_option Elab.async false
set_option linter.all false
set_option maxRecDepth 100000
set_option maxHeartbeats 4000000
namespace Fb
open PySem PySem.Spec L2
open PyProof.Rows hiding St
open C8 (Cal Met Mak Def cal0 met0 mak0 pe_c pe_mk pe_mt pe_mt0 fnScope fnBody fnArgs pss_cut tCut)
local macro_rules | `(tactic| walk_at "hp") => `(tactic| first | exact upd_same | assumption | (refine grow (by assumption) _ _ ?_; walk_at "hp") | (refine (show Same _ _ by assumption) _ _ ?_; walk_at "hp"))
local macro_rules | `(tactic| walk_at "sm") => `(tactic| first | exact Same.refl _ | assumption | (refine Same.trans ?_ (grow (by assumption)); walk_at "sm") | (refine Same.trans ?_ (show Same _ _ by assumption); walk_at "sm"))
section
variable {P : Program} {w : World} {K : PySem.W.Frag} {mg : Str → Option Value} {base : Heap}
variable {C_Trade C_Dial : Addr}
/-! ### _law_small_tree -/
def spSmall (K : PySem.W.Frag) : Sp := sp1 fun a H Q => ∃ (p : Addr), a = .ref p ∧ BagAt H p ∧ ∀ (H' : Hp) (v : V) (t : Tr), Same H H' → Dp K H' v t.dat → t.ok → t.lvs ≤ 5 → Q v H'
theorem c__law_small_tree (T : Top K mg C_Trade C_Dial) : Cal P w K mg base 9 "_law_small_tree" (spSmall K) [] := by
  obtain ⟨f, fd, F, df⟩ := T.d__law_small_tree
  refine cal_of F df (fn1 F sc__law_small_tree fun cdv A outer s H a Q E hr h => ?_) fun _ _ _ _ _ _ us hl => match us, hl with | [_], _ => rfl
  have nd := sc__law_small_tree.nd
  obtain ⟨p, rfl, hb, k⟩ := h
  refine ⟨_, (pss_cons 
      (ps_set (i := 1) nd rfl (Or.inl rfl) (pe_c (c__law_tree T) hr (by decide) (by rfl) (pa_cons (pv 0) (pa_cons (pe_op op_addU pe_int (pe_c (c__law_draw T) hr (by decide) (by rfl) (pa_cons (pv 0) (pa_cons pe_int pa_nil)))) pa_nil)))) (pss_cons 
      (ps_if (pt_cmpR (lt_K (K := K) rfl hr) (pe_c (c__law_joinings T) hr (by decide) (by rfl) (pa_cons (pv 1) pa_nil)) pe_int (nomark _)) (pss_one 
      (ps_ret (pv 1))) pss_nil) (pss_one 
      (ps_ret (pe_ifExp (pt_cmpR (lt_K (K := K) rfl hr) (pe_c (c__law_joinings T) hr (by decide) (by rfl) (pa_cons (pe_ix (ix_K (K := K) rfl) (pv 1) pe_int (fun _ _ => rfl)) pa_nil)) pe_int (nomark _)) (pe_tup (pa_cons pe_str (pa_cons (pe_ix (ix_K (K := K) rfl) (pv 1) pe_int (fun _ _ => rfl)) (pa_cons pe_int pa_nil)))) (pe_tup (pa_cons pe_str (pa_cons (pe_tup (pa_cons pe_str (pa_cons pe_int (pa_cons pe_int pa_nil)))) (pa_cons pe_int pa_nil))))))))), ?_⟩
  refine ⟨_, rfl, _, rfl, _, _, rfl, p, 4, rfl, rfl, hb, by decide, small_log (by decide) (by decide), fun d d0 d1 => .inl ⟨_, _, rfl, rfl, _, _, rfl, p, 1 + d, rfl, hb, rfl, by omega, by omega, by omega, fun H1 v t e1 dt to ls => ?_⟩⟩
  refine ⟨_, rfl, _, rfl, t, dt, by omega, by decide, fun i i0 i1 i2 => .inl ⟨_, _, rfl, rfl, _, rfl, ite2 (fun c1 => ?_) (fun c1 => ?_)⟩⟩
  · exact ⟨_, rfl, k H1 v t e1 dt to (by omega)⟩
  · have c1 : ¬ i < 3 := fun e => c1 (decide_eq_true e)
    cases t with
    | leaf j =>
      have i2 : i + 1 ≤ ((1 : Nat) : Int) := i2
      omega
    | node b l r =>
      obtain ⟨A1, x, y, rfl, sA, d1, d2⟩ := tr_node dt
      have p1 := l.pos
      have p2 := r.pos
      have ls : ((l.lvs + r.lvs : Nat) : Int) = 1 + d + 1 := ls
      refine ⟨_, rfl, .inr (.inl ⟨A1, _, _, _, rfl, rfl, sA, at1, _, rfl, l, d1, by omega, by decide, fun j j0 j1 j2 => .inl ⟨_, _, rfl, rfl, _, rfl, ite2 (fun c2 => ?_) (fun c2 => ?_)⟩⟩)⟩
      · refine ⟨_, rfl, .inr (.inl ⟨A1, _, _, _, rfl, rfl, sA, at1, Nat.le_of_ble_eq_true rfl, fun c nc => ?_⟩)⟩
        have e2 := grow (o := .tup [.str "best", x, .int 0]) nc
        exact k _ _ (.node true l (.leaf 0)) (e1.trans e2) (node_tr (SqT.of upd_same) (dp_mono e2 _ d1) (leaf_tr 0)) ⟨to.1, by show 0 < 3; decide⟩ (by show l.lvs + 1 ≤ 5; omega)
      · refine ⟨Nat.le_of_ble_eq_true rfl, fun c1 nc1 => ⟨Nat.le_of_ble_eq_true rfl, fun c2 nc2 => ?_⟩⟩
        have e2 := grow (o := .tup [.str "best", .int 0, .int 1]) nc1
        have e3 := grow (o := .tup [.str "then", .ref c1, .int 2]) nc2
        exact k _ _ (.node false (.node true (.leaf 0) (.leaf 1)) (.leaf 2)) (e1.trans (e2.trans e3)) (node_tr (SqT.of upd_same) (node_tr (same_tup e3 (SqT.of upd_same)) (leaf_tr 0) (leaf_tr 1)) (leaf_tr 2)) ⟨⟨by show 0 < 3; decide, by show 1 < 3; decide⟩, by show 2 < 3; decide⟩ (by decide)

end
end Fb

set_option Elab.async false
set_option linter.all false
set_option maxRecDepth 100000
set_option maxHeartbeats 4000000
namespace Fb
open PySem PySem.Spec L2
open PyProof.Rows hiding St
open C8 (Cal Met Mak Def cal0 met0 mak0 pe_c pe_mk pe_mt pe_mt0 fnScope fnBody fnArgs pss_cut tCut)
local macro_rules | `(tactic| walk_at "hp") => `(tactic| first | exact upd_same | assumption | (refine grow (by assumption) _ _ ?_; walk_at "hp") | (refine (show Same _ _ by assumption) _ _ ?_; walk_at "hp"))
local macro_rules | `(tactic| walk_at "sm") => `(tactic| first | exact Same.refl _ | assumption | (refine Same.trans ?_ (grow (by assumption)); walk_at "sm") | (refine Same.trans ?_ (show Same _ _ by assumption); walk_at "sm"))
section
variable {P : Program} {w : World} {K : PySem.W.Frag} {mg : Str → Option Value} {base : Heap}
variable {C_Trade C_Dial : Addr}
/-! ### is_at_most -/
def spAtMost (K : PySem.W.Frag) : Sp := sp2 fun a b H Q => ∃ f g : List Int, TupI K H a f ∧ TupI K H b g ∧ f.length = g.length ∧ f.length ≤ 100000 ∧ Then H Q (.bl (leM f g))
theorem c_is_at_most (T : Top K mg C_Trade C_Dial) : Cal P w K mg base 1 "is_at_most" (spAtMost K) [] := by
  obtain ⟨f, fd, F, df⟩ := T.d_is_at_most
  refine cal_of F df (fn2 F sc_is_at_most fun cdv A outer s H a b Q E hr h => ?_) fun _ _ _ _ _ _ us hl => match us, hl with | [_, _], _ => rfl
  have nd := sc_is_at_most.nd
  obtain ⟨f, g, ⟨A1, rfl, hf⟩, ⟨A2, rfl, hg⟩, hl, h1, q⟩ := h
  have lnf : (f.map V.int).length = f.length := List.length_map ..
  have lng : (g.map V.int).length = g.length := List.length_map ..
  refine ⟨_, (pss_cons 
      (ps_for PassesOwn.never rfl (zip_K (K := K) rfl (by rfl) T.zip (pa_cons (pv 0) (pa_cons (pv 1) pa_nil))) (tup_K (K := K) (n := 2) rfl rfl (pgs_cons (pg_name (i := 2) nd rfl (Or.inl rfl)) (pgs_cons (pg_name (i := 3) nd rfl (Or.inl rfl)) pgs_nil))) (pss_one 
      (ps_if (pt_cmpR op_gtU (pv 2) (pv 3) (nomark _)) (pss_one 
      (ps_ret pe_bl)) pss_nil))) (pss_one 
      (ps_ret pe_bl))), ?_⟩
  refine ⟨_, rfl, _, rfl, _, _, _, _, rfl, .inr ⟨hf, hg, ?_⟩⟩
  refine for_it (walk_zipT (n := f.length) (by omega)) (fun i σ H' => Same H H' ∧ (∀ j, j < i → f.getD j 0 ≤ g.getD j 0) ∧ ∃ y2 y3, σ = [some (.ref A1), some (.ref A2), y2, y3]) ⟨Same.refl _, (fun j hj => by omega), _, _, rfl⟩ (fun i σ H' _ ⟨e, _⟩ => ⟨same_tup e hf, same_tup e hg⟩) ?_ ?_
  · rintro i x σ H1 H2 hi ⟨e, hj, y2, y3, rfl⟩ ⟨U, x1, x2, rfl, nU, rfl, g1, g2⟩
    obtain ⟨z1, g3, rfl⟩ := int_get g1
    obtain ⟨z2, g4, rfl⟩ := int_get g2
    refine ⟨U, _, rfl, SqT.of upd_same, rfl, _, _, rfl, _, _, rfl, rfl, ?_⟩
    refine ⟨_, rfl, _, rfl, _, _, rfl, rfl, _, rfl, ite2 (fun h => ?_) (fun h => ?_)⟩
    · have h := of_decide_eq_true h
      have e1 : leM f g = false := by
        cases e2 : leM f g with
        | false => rfl
        | true =>
          have := of_decide_eq_true (List.all_eq_true.mp e2 i (List.mem_range.mpr hi))
          rw [getD_of g3, getD_of g4] at this
          omega
      rw [e1] at q
      exact q _ (e.trans (grow nU))
    · have h : ¬ z2 < z1 := fun z => h (decide_eq_true z)
      refine ⟨e.trans (grow nU), fun j hj2 => ?_, _, _, rfl⟩
      by_cases ej : j = i
      · rw [ej, getD_of g3, getD_of g4]
        omega
      · exact hj j (by omega)
  · rintro σ H1 ⟨e, hj, y2, y3, rfl⟩
    have e1 : leM f g = true := List.all_eq_true.mpr fun i hi => decide_eq_true (hj i (List.mem_range.mp hi))
    rw [e1] at q
    exact q _ e

end
end Fb

set_option Elab.async false
set_option linter.all false
set_option maxRecDepth 100000
set_option maxHeartbeats 4000000
namespace Fb
open PySem PySem.Spec L2
open PyProof.Rows hiding St
open C8 (Cal Met Mak Def cal0 met0 mak0 pe_c pe_mk pe_mt pe_mt0 fnScope fnBody fnArgs pss_cut tCut)
local macro_rules | `(tactic| walk_at "hp") => `(tactic| first | exact upd_same | assumption | (refine grow (by assumption) _ _ ?_; walk_at "hp") | (refine (show Same _ _ by assumption) _ _ ?_; walk_at "hp"))
local macro_rules | `(tactic| walk_at "sm") => `(tactic| first | exact Same.refl _ | assumption | (refine Same.trans ?_ (grow (by assumption)); walk_at "sm") | (refine Same.trans ?_ (show Same _ _ by assumption); walk_at "sm"))
section
variable {P : Program} {w : World} {K : PySem.W.Frag} {mg : Str → Option Value} {base : Heap}
variable {C_Trade C_Dial : Addr}
/-! ### any_at_most -/
def spAnyAtMost (K : PySem.W.Frag) : Sp := sp2 fun a b H Q => ∃ (R : Addr) (xs : List V) (ls : List (List Int)) (r : List Int), a = .ref R ∧ SqL K H R xs ∧ RowsV K H xs ls ∧ TupI K H b r ∧ (∀ l ∈ ls, l.length = r.length) ∧ r.length ≤ 100000 ∧ Then H Q (.bl (ls.any fun o => leM o r))
theorem c_any_at_most (T : Top K mg C_Trade C_Dial) : Cal P w K mg base 2 "any_at_most" (spAnyAtMost K) [] := by
  obtain ⟨f, fd, F, df⟩ := T.d_any_at_most
  refine cal_of F df (fn2 F sc_any_at_most fun cdv A outer s H a b Q E hr h => ?_) fun _ _ _ _ _ _ us hl => match us, hl with | [_, _], _ => rfl
  have nd := sc_any_at_most.nd
  obtain ⟨R, xs, ls, r, rfl, hs, hx, hr', hw, h1, q⟩ := h
  have len := hx.len
  refine ⟨_, (pss_cons 
      (ps_for PassesOwn.never rfl (pi_reversed (by rfl) T.reversed (pa_cons (pv 0) pa_nil)) (pg_name (i := 2) nd rfl (Or.inl rfl)) (pss_one 
      (ps_if (pt_val (pe_c (c_is_at_most T) hr (by decide) (by rfl) (pa_cons (pv 2) (pa_cons (pv 1) pa_nil)))) (pss_one 
      (ps_ret pe_bl)) pss_nil))) (pss_one 
      (ps_ret pe_bl))), ?_⟩
  refine ⟨_, rfl, R, xs, rfl, hs, ?_⟩
  refine for_it walk_rev (fun i σ H' => Same H H' ∧ (∀ j, j < i → leM (ls.getD (ls.length - 1 - j) []) r = false) ∧ ∃ y2, σ = [some (.ref R), some b, y2]) ⟨Same.refl _, (fun j hj => by omega), _, rfl⟩ (fun i σ H' _ ⟨e, _⟩ => e.seq hs) ?_ ?_
  · rintro i x σ H1 H2 hi ⟨e, hj, y2, rfl⟩ ⟨rfl, g⟩
    obtain ⟨l, gl, tl⟩ := hx.get g
    rw [len] at gl
    refine ⟨_, rfl, _, rfl, _, _, rfl, l, r, tl.mono e, hr'.mono e, hw l (List.mem_of_getElem? gl), by rw [hw l (List.mem_of_getElem? gl)]; exact h1, fun H3 e3 => ⟨_, rfl, ?_⟩⟩
    cases o : leM l r with
    | true =>
      refine iteT ?_
      rw [show (ls.any fun o => leM o r) = true from List.any_eq_true.mpr ⟨l, List.mem_of_getElem? gl, o⟩] at q
      exact q _ (e.trans e3)
    | false =>
      refine iteF ⟨e.trans e3, fun j hj2 => ?_, _, rfl⟩
      by_cases ej : j = i
      · rw [ej, getD_of gl]
        exact o
      · exact hj j (by omega)
  · rintro σ H1 ⟨e, hj, y2, rfl⟩
    have e1 : (ls.any fun o => leM o r) = false := by
      cases e2 : ls.any fun o => leM o r with
      | false => rfl
      | true =>
        obtain ⟨l, hl, o⟩ := List.any_eq_true.mp e2
        obtain ⟨i, hi⟩ := List.getElem?_of_mem hl
        have hlt := (List.getElem?_eq_some_iff.mp hi).1
        have := hj (ls.length - 1 - i) (by omega)
        rw [show ls.length - 1 - (ls.length - 1 - i) = i by omega, getD_of hi, o] at this
        cases this
    rw [e1] at q
    exact q _ e

end
end Fb

set_option Elab.async false
set_option linter.all false
set_option maxRecDepth 100000
set_option maxHeartbeats 4000000
namespace Fb
open PySem PySem.Spec L2
open PyProof.Rows hiding St
open C8 (Cal Met Mak Def cal0 met0 mak0 pe_c pe_mk pe_mt pe_mt0 fnScope fnBody fnArgs pss_cut tCut)
local macro_rules | `(tactic| walk_at "hp") => `(tactic| first | exact upd_same | assumption | (refine grow (by assumption) _ _ ?_; walk_at "hp") | (refine (show Same _ _ by assumption) _ _ ?_; walk_at "hp"))
local macro_rules | `(tactic| walk_at "sm") => `(tactic| first | exact Same.refl _ | assumption | (refine Same.trans ?_ (grow (by assumption)); walk_at "sm") | (refine Same.trans ?_ (show Same _ _ by assumption); walk_at "sm"))
section
variable {P : Program} {w : World} {K : PySem.W.Frag} {mg : Str → Option Value} {base : Heap}
variable {C_Trade C_Dial : Addr}
/-! ### thin_rows -/
def spThinRows (K : PySem.W.Frag) : Sp := sp1 fun a H Q => ∃ (R : Addr) (xs : List V) (ls : List (List Int)) (n : Nat), a = .ref R ∧ (SqL K H R xs ∨ SqT K H R xs) ∧ RowsV K H xs ls ∧ (∀ l ∈ ls, l.length = n) ∧ 0 < n ∧ n ≤ 100000 ∧ ls.length ≤ 100000 ∧
  ∀ H' v, Same H H' → ((thinM ls = [] ∧ v = .non) ∨ thinM ls ≠ [] ∧ ∃ D ys, v = .ref D ∧ H' D = some (.tup ys) ∧ RowsV K H' ys (thinM ls)) → Q v H'
theorem c_thin_rows (T : Top K mg C_Trade C_Dial) : Cal P w K mg base 3 "thin_rows" (spThinRows K) [] := by
  obtain ⟨f, fd, F, df⟩ := T.d_thin_rows
  refine cal_of F df (fn1 F sc_thin_rows fun cdv A outer s H a Q E hr h => ?_) fun _ _ _ _ _ _ us hl => match us, hl with | [_], _ => rfl
  have nd := sc_thin_rows.nd
  obtain ⟨R, xs, ls, n, rfl, hs, hx, hw, n0, n1, hl, k⟩ := h
  refine ⟨_, (pss_cons 
      (ps_set (i := 1) nd rfl (Or.inl rfl) (pe_lst pa_nil)) (pss_cons 
      (ps_for PassesOwn.never rfl (pi_K (K := K) rfl (pe_callB (cr_sortD hr) (by rfl) T.sorted (by decide +kernel) (pa_cons (pv 0) pa_nil))) (pg_name (i := 2) nd rfl (Or.inl rfl)) (pss_one 
      (ps_if (pt_not (pt_val (pe_c (c_any_at_most T) hr (by decide) (by rfl) (pa_cons (pv 1) (pa_cons (pv 2) pa_nil))))) (pss_one 
      (ps_expr (pe_bm PySem.F.plainAttrs_list PySem.F.slot_list_append PySem.F.type_list_append mt_append (pv 1) (pa_cons (pv 2) pa_nil)))) pss_nil))) (pss_one 
      (ps_ret (pe_ifExp (pt_truth (pv 1) (fun _ => rfl)) (pe_callTy (tupleOf_K (K := K) rfl) (by rfl) T.tuple (by decide +kernel) (pa_cons (pv 1) pa_nil)) pe_non))))), ?_⟩
  refine ⟨Nat.le_of_ble_eq_true rfl, fun p np => ?_⟩
  have hx1 := hx.mono (grow (o := .lst []) np)
  obtain ⟨zs, z1, z2, z3, z4, z5⟩ := zip_rows hx1 (fun l hm e => by
    have := hw l hm
    rw [e] at this
    have this : 0 = n := this
    omega)
  refine ⟨_, rfl, R, zs, rfl, ?_, z3, z4, z5, fun c nc => ?_⟩
  · rw [z1]
    rcases hs with h | h
    · exact .inl ((grow np).seq h)
    · exact .inr (same_tup (grow np) h)
  have hS := (rows_sorted (fun z hz => (z3 z hz).1) z2).mono (grow (o := .lst ((sortD zs).map Prod.fst)) nc)
  have lS := hS.len
  have lm : (ls.mergeSort rowLe).length = ls.length := List.length_mergeSort _
  have hp1 := (grow (o := .lst ((sortD zs).map Prod.fst)) nc) _ _ (upd_same (H := H) (a := p) (o := .lst []))
  have e1 : Same H (upd (upd H p (.lst [])) c (.lst ((sortD zs).map Prod.fst))) := (grow np).trans (grow nc)
  have ncp : c ≠ p := fun z => by
    rw [z, upd_same] at nc
    cases nc
  refine .inl ⟨c, rfl, ⟨_, SqL.of upd_same⟩, ?_⟩
  refine for_it (walk_list (xs := (sortD zs).map Prod.fst)) (fun i σ H' => Same H H' ∧ H' c = some (.lst ((sortD zs).map Prod.fst)) ∧ RowsV K H' ((sortD zs).map Prod.fst) (ls.mergeSort rowLe) ∧ (∃ us, H' p = some (.lst us) ∧ us.length ≤ i ∧ RowsV K H' us (((ls.mergeSort rowLe).take i).foldl thinS [])) ∧ ∃ y, σ = [some (.ref R), some (.ref p), y])
    ⟨e1, upd_same, hS, ⟨[], hp1, Nat.le_refl _, .nil⟩, _, rfl⟩ (fun i σ H' _ ⟨_, h, _⟩ => SqL.of h) ?_ ?_
  · rintro i x σ H1 H2 hi ⟨e, hc, hS, ⟨us, hp, lu, hu⟩, y, rfl⟩ ⟨rfl, g⟩
    obtain ⟨l, gl, tl⟩ := hS.get g
    have ml : l ∈ ls := List.mem_mergeSort.mp (List.mem_of_getElem? gl)
    refine ⟨_, rfl, _, rfl, _, _, rfl, p, us, _, l, rfl, SqL.of hp, hu, tl, fun o ho => ?_, by rw [hw l ml]; exact n1, fun H3 e3 => ⟨_, rfl, ?_⟩⟩
    · rcases thin_sub _ _ o ho with h | h
      · cases h
      · rw [hw l ml, hw o (List.mem_mergeSort.mp (List.mem_of_mem_take h))]
    rw [take_fold thinS [] _ i l gl]
    have hp3 := e3 _ _ hp
    cases o : (((ls.mergeSort rowLe).take i).foldl thinS []).any fun o => leM o l with
    | true =>
      refine iteF ⟨e.trans e3, e3 _ _ hc, hS.mono e3, ⟨us, hp3, by omega, ?_⟩, _, rfl⟩
      rw [thinS_t o]
      exact hu.mono e3
    | false =>
      refine iteT ⟨_, rfl, .inl ⟨rfl, _, SqL.of hp3⟩, _, rfl, p, us, _, rfl, rfl, hp3, size5 (by rw [List.length_map] at hi lS; omega), ?_⟩
      refine ⟨same_mut (e.trans e3) np, by rw [upd_ne ncp]; exact e3 _ _ hc, (hS.mono e3).upd hp3, ⟨us ++ [x], upd_same, by rw [List.length_append]; exact Nat.succ_le_succ lu, ?_⟩, _, rfl⟩
      rw [thinS_f o]
      exact ((hu.mono e3).upd hp3).snoc (tupI_upd hp3 (tl.mono e3))
  · rintro σ H1 ⟨e, hc, hS, ⟨us, hp, lu, hu⟩, y, rfl⟩
    have eT : (((ls.mergeSort rowLe).take ((sortD zs).map Prod.fst).length).foldl thinS []) = thinM ls := by
      unfold thinM
      rw [lS, List.take_length]
    rw [eT] at hu
    refine ⟨_, rfl, _, .inl ⟨us, SqL.of hp, rfl⟩, ?_⟩
    have lu2 := hu.len
    cases us with
    | nil =>
      refine iteF (k _ _ e (.inl ⟨?_, rfl⟩))
      exact List.eq_nil_of_length_eq_zero lu2.symm
    | cons u us =>
      refine iteT ⟨_, rfl, p, _, rfl, .inl ⟨SqL.of hp, fun q nq => k _ _ (e.trans (grow nq)) (.inr ⟨fun z => ?_, q, _, rfl, upd_same, hu.mono (grow nq)⟩)⟩⟩
      rw [z] at lu2
      cases lu2

end
end Fb

set_option Elab.async false
set_option linter.all false
set_option maxRecDepth 100000
set_option maxHeartbeats 4000000
namespace Fb
open PySem PySem.Spec L2
open PyProof.Rows hiding St
open C8 (Cal Met Mak Def cal0 met0 mak0 pe_c pe_mk pe_mt pe_mt0 fnScope fnBody fnArgs pss_cut tCut)
local macro_rules | `(tactic| walk_at "hp") => `(tactic| first | exact upd_same | assumption | (refine grow (by assumption) _ _ ?_; walk_at "hp") | (refine (show Same _ _ by assumption) _ _ ?_; walk_at "hp"))
local macro_rules | `(tactic| walk_at "sm") => `(tactic| first | exact Same.refl _ | assumption | (refine Same.trans ?_ (grow (by assumption)); walk_at "sm") | (refine Same.trans ?_ (show Same _ _ by assumption); walk_at "sm"))
section
variable {P : Program} {w : World} {K : PySem.W.Frag} {mg : Str → Option Value} {base : Heap}
variable {C_Trade C_Dial : Addr}
/-! ### Trade.best -/
def spTBest (K : PySem.W.Frag) : Sp := sp3 fun a b c H Q => ∃ (A1 A2 : Addr) (xs ys : List V) (ls ms : List (List Int)) (n : Nat), b = .ref A1 ∧ SqT K H A1 xs ∧ c = .ref A2 ∧ SqT K H A2 ys ∧ RowsV K H xs ls ∧ RowsV K H ys ms ∧ ls ≠ [] ∧ ms ≠ [] ∧ (∀ l ∈ ls ++ ms, l.length = n) ∧ 0 < n ∧ n ≤ 1000 ∧ (ls ++ ms).length ≤ 1000 ∧
  ∀ H' v, Same H H' → ((thinM (ls ++ ms) = [] ∧ v = .non) ∨ thinM (ls ++ ms) ≠ [] ∧ ∃ D us, v = .ref D ∧ H' D = some (.tup us) ∧ RowsV K H' us (thinM (ls ++ ms))) → Q v H'
theorem c_Trade_best (T : Top K mg C_Trade C_Dial) : Met P w K mg base 4 C_Trade "best" (spTBest K) [] := by
  obtain ⟨f, fd, me, F, df⟩ := T.d_Trade_best
  refine ⟨f, fd, ["self", "one", "other"], [], T.cl_Trade, me, ?_, F.binds df fun _ _ _ _ _ _ us hl => match us, hl with | [_, _, _], _ => rfl, .nil⟩
  refine fm3 F sc_Trade_best fun cdv A outer s H a b c Q E hr h => ?_
  have nd := sc_Trade_best.nd
  obtain ⟨A1, A2, xs, ys, ls, ms, n, rfl, s1, rfl, s2, r1, r2, n1, n2, hw, h0, h1, hl, k⟩ := h
  have l1 := r1.len
  have l2 := r2.len
  have z1 := List.length_pos_iff.mpr n1
  have z2 := List.length_pos_iff.mpr n2
  refine ⟨_, (pss_cons 
      (ps_if (pt_cmpR op_isN (pv 1) pe_non (nomark _)) (pss_one 
      (ps_ret (pv 2))) pss_nil) (pss_cons 
      (ps_if (pt_cmpR op_isN (pv 2) pe_non (nomark _)) (pss_one 
      (ps_ret (pv 1))) pss_nil) (pss_one 
      (ps_ret (pe_c (c_thin_rows T) hr (by decide) (by rfl) (pa_cons (pe_op (op_catT_K (K := K) rfl) (pv 1) (pv 2)) pa_nil)))))), ?_⟩
  refine ⟨_, rfl, rfl, _, rfl, iteF ⟨_, rfl, rfl, _, rfl, iteF ?_⟩⟩
  rw [List.length_append] at hl
  refine ⟨_, rfl, _, rfl, A1, A2, xs, ys, rfl, rfl, s1, s2, ?_, ?_, ?_, ?_⟩
  · intro e
    rw [e] at l1
    simp at l1
    omega
  · exact size5' (by omega)
  · intro e
    rw [e] at l2
    simp at l2
    omega
  · intro _ c nc
    have e := grow (o := .tup (xs ++ ys)) nc
    refine ⟨_, rfl, c, xs ++ ys, ls ++ ms, n, rfl, .inr (SqT.of upd_same), (r1.mono e).app (r2.mono e), hw, h0, by omega, by rw [List.length_append]; omega, fun H' v e2 hv => k H' v (e.trans e2) hv⟩

end
end Fb

set_option Elab.async false
set_option linter.all false
set_option maxRecDepth 100000
set_option maxHeartbeats 4000000
namespace Fb
open PySem PySem.Spec L2
open PyProof.Rows hiding St
open C8 (Cal Met Mak Def cal0 met0 mak0 pe_c pe_mk pe_mt pe_mt0 fnScope fnBody fnArgs pss_cut tCut)
local macro_rules | `(tactic| walk_at "hp") => `(tactic| first | exact upd_same | assumption | (refine grow (by assumption) _ _ ?_; walk_at "hp") | (refine (show Same _ _ by assumption) _ _ ?_; walk_at "hp"))
local macro_rules | `(tactic| walk_at "sm") => `(tactic| first | exact Same.refl _ | assumption | (refine Same.trans ?_ (grow (by assumption)); walk_at "sm") | (refine Same.trans ?_ (show Same _ _ by assumption); walk_at "sm"))
section
variable {P : Program} {w : World} {K : PySem.W.Frag} {mg : Str → Option Value} {base : Heap}
variable {C_Trade C_Dial : Addr}
/-! ### never_alone -/
def spNever (K : PySem.W.Frag) : Sp := sp3 fun a b c H Q => ∃ x y z : Ln, TupI K H a (tol x) ∧ TupI K H b (tol y) ∧ TupI K H c (tol z) ∧ BdL x ∧ BdL y ∧ BdL z ∧ Q (.bl (nevM x y z)) H
theorem c_never_alone (T : Top K mg C_Trade C_Dial) : Cal P w K mg base 1 "never_alone" (spNever K) [] := by
  obtain ⟨f, fd, F, df⟩ := T.d_never_alone
  refine cal_of F df (fn3 F sc_never_alone fun cdv A outer s H a b c Q E hr h => ?_) fun _ _ _ _ _ _ us hl => match us, hl with | [_, _, _], _ => rfl
  have nd := sc_never_alone.nd
  obtain ⟨x, y, z, ⟨A1, rfl, h1⟩, ⟨A2, rfl, h2⟩, ⟨A3, rfl, h3⟩, ⟨b1, b2, b3, b4⟩, ⟨c1, c2, c3, c4⟩, ⟨d1, d2, d3, d4⟩, q⟩ := h
  refine ⟨_, (pss_cons 
      (ps_set (i := 3) nd rfl (Or.inl rfl) (pe_op op_mul (pe_op op_sub (pe_ix (ix_K (K := K) rfl) (pv 1) pe_int (fun _ _ => rfl)) (pe_ix (ix_K (K := K) rfl) (pv 0) pe_int (fun _ _ => rfl))) (pe_op op_sub (pe_ix (ix_K (K := K) rfl) (pv 1) pe_int (fun _ _ => rfl)) (pe_ix (ix_K (K := K) rfl) (pv 2) pe_int (fun _ _ => rfl))))) (pss_cons 
      (ps_set (i := 4) nd rfl (Or.inl rfl) (pe_op op_mul (pe_op op_sub (pe_ix (ix_K (K := K) rfl) (pv 2) pe_int (fun _ _ => rfl)) (pe_ix (ix_K (K := K) rfl) (pv 1) pe_int (fun _ _ => rfl))) (pe_op op_sub (pe_ix (ix_K (K := K) rfl) (pv 0) pe_int (fun _ _ => rfl)) (pe_ix (ix_K (K := K) rfl) (pv 1) pe_int (fun _ _ => rfl))))) (pss_one 
      (ps_ret (pe_cmpR op_geU (pv 3) (pv 4) (nomark _)))))), ?_⟩
  refine ⟨_, rfl, .inr (.inl ⟨A2, _, _, _, rfl, rfl, h2, at0, _, rfl, .inr (.inl ⟨A1, _, _, _, rfl, rfl, h1, at0, _, _, rfl, rfl, ?_⟩)⟩)⟩
  refine ⟨_, rfl, .inr (.inl ⟨A2, _, _, _, rfl, rfl, h2, at1, _, rfl, .inr (.inl ⟨A3, _, _, _, rfl, rfl, h3, at1, _, _, rfl, rfl, _, _, rfl, rfl, .inl ⟨by omega, by omega⟩, ?_⟩)⟩)⟩
  refine ⟨_, rfl, .inr (.inl ⟨A3, _, _, _, rfl, rfl, h3, at0, _, rfl, .inr (.inl ⟨A2, _, _, _, rfl, rfl, h2, at0, _, _, rfl, rfl, ?_⟩)⟩)⟩
  refine ⟨_, rfl, .inr (.inl ⟨A1, _, _, _, rfl, rfl, h1, at1, _, rfl, .inr (.inl ⟨A2, _, _, _, rfl, rfl, h2, at1, _, _, rfl, rfl, _, _, rfl, rfl, .inl ⟨by omega, by omega⟩, ?_⟩)⟩)⟩
  exact ⟨_, rfl, _, rfl, _, _, rfl, rfl, q⟩

end
end Fb

set_option Elab.async false
set_option linter.all false
set_option maxRecDepth 100000
set_option maxHeartbeats 4000000
namespace Fb
open PySem PySem.Spec L2
open PyProof.Rows hiding St
open C8 (Cal Met Mak Def cal0 met0 mak0 pe_c pe_mk pe_mt pe_mt0 fnScope fnBody fnArgs pss_cut tCut)
local macro_rules | `(tactic| walk_at "hp") => `(tactic| first | exact upd_same | assumption | (refine grow (by assumption) _ _ ?_; walk_at "hp") | (refine (show Same _ _ by assumption) _ _ ?_; walk_at "hp"))
local macro_rules | `(tactic| walk_at "sm") => `(tactic| first | exact Same.refl _ | assumption | (refine Same.trans ?_ (grow (by assumption)); walk_at "sm") | (refine Same.trans ?_ (show Same _ _ by assumption); walk_at "sm"))
section
variable {P : Program} {w : World} {K : PySem.W.Frag} {mg : Str → Option Value} {base : Heap}
variable {C_Trade C_Dial : Addr}
/-! ### is_below_at -/
def spBelow (K : PySem.W.Frag) : Sp := sp3 fun a b c H Q => ∃ (l o : Ln) (s : Int), TupI K H a (tol l) ∧ TupI K H b (tol o) ∧ c = .int s ∧ BdL l ∧ BdL o ∧ Q (.bl (blwM l o s)) H
theorem c_is_below_at (T : Top K mg C_Trade C_Dial) : Cal P w K mg base 1 "is_below_at" (spBelow K) [] := by
  obtain ⟨f, fd, F, df⟩ := T.d_is_below_at
  refine cal_of F df (fn3 F sc_is_below_at fun cdv A outer s H a b c Q E hr h => ?_) fun _ _ _ _ _ _ us hl => match us, hl with | [_, _, _], _ => rfl
  have nd := sc_is_below_at.nd
  obtain ⟨l, o, s, ⟨A1, rfl, h1⟩, ⟨A2, rfl, h2⟩, rfl, ⟨b1, b2, b3, b4⟩, ⟨c1, c2, c3, c4⟩, q⟩ := h
  refine ⟨_, (pss_one 
      (ps_ret (pe_cmpR (lt_K (K := K) rfl hr) (pe_op op_addU (pe_ix (ix_K (K := K) rfl) (pv 0) pe_int (fun _ _ => rfl)) (pe_op op_mul (pe_ix (ix_K (K := K) rfl) (pv 0) pe_int (fun _ _ => rfl)) (pv 2))) (pe_op op_addU (pe_ix (ix_K (K := K) rfl) (pv 1) pe_int (fun _ _ => rfl)) (pe_op op_mul (pe_ix (ix_K (K := K) rfl) (pv 1) pe_int (fun _ _ => rfl)) (pv 2))) (nomark _)))), ?_⟩
  refine ⟨_, rfl, .inr (.inl ⟨A1, _, _, _, rfl, rfl, h1, at0, _, rfl, .inr (.inl ⟨A1, _, _, _, rfl, rfl, h1, at1, _, rfl, _, _, rfl, rfl, .inl ⟨by omega, by omega⟩, .inl ⟨_, _, rfl, rfl, ?_⟩⟩)⟩)⟩
  exact ⟨_, rfl, .inr (.inl ⟨A2, _, _, _, rfl, rfl, h2, at0, _, rfl, .inr (.inl ⟨A2, _, _, _, rfl, rfl, h2, at1, _, rfl, _, _, rfl, rfl, .inl ⟨by omega, by omega⟩, .inl ⟨_, _, rfl, rfl, .inl ⟨_, _, rfl, rfl, q⟩⟩⟩)⟩)⟩

end
end Fb

set_option Elab.async false
set_option linter.all false
set_option maxRecDepth 100000
set_option maxHeartbeats 4000000
namespace Fb
open PySem PySem.Spec L2
open PyProof.Rows hiding St
open C8 (Cal Met Mak Def cal0 met0 mak0 pe_c pe_mk pe_mt pe_mt0 fnScope fnBody fnArgs pss_cut tCut)
local macro_rules | `(tactic| walk_at "hp") => `(tactic| first | exact upd_same | assumption | (refine grow (by assumption) _ _ ?_; walk_at "hp") | (refine (show Same _ _ by assumption) _ _ ?_; walk_at "hp"))
local macro_rules | `(tactic| walk_at "sm") => `(tactic| first | exact Same.refl _ | assumption | (refine Same.trans ?_ (grow (by assumption)); walk_at "sm") | (refine Same.trans ?_ (show Same _ _ by assumption); walk_at "sm"))
section
variable {P : Program} {w : World} {K : PySem.W.Frag} {mg : Str → Option Value} {base : Heap}
variable {C_Trade C_Dial : Addr}
/-! ### lowest_lines -/
def spLowest (K : PySem.W.Frag) : Sp := sp2 fun a b H Q => ∃ (R : Addr) (xs : List V) (rays : List Ln) (top : Int), a = .ref R ∧ (SqL K H R xs ∨ SqT K H R xs) ∧ RowsV K H xs (rays.map tol) ∧ (∀ r ∈ rays, BdL r) ∧ rays.length ≤ 1000 ∧ b = .int top ∧
  ∀ H' v, Same H H' → Dp K H' v (lnD (lowestM top rays)) → Q v H'
theorem ok_lowest_lines (T : Top K mg C_Trade C_Dial) {f : Addr} {fd : FuncData} (F : Def K mg "lowest_lines" s_lowest_lines f fd) : FnOk P w K mg base C8.CX0 4 f fd ["lines", "top"] (spLowest K) := by
  refine fn2 F sc_lowest_lines fun cdv A outer s H a b Q E hr h => ?_
  have nd := sc_lowest_lines.nd
  obtain ⟨R, xs, rays, top, rfl, hs, hx, bd, hl, rfl, k⟩ := h
  have lx := hx.len
  rw [List.length_map] at lx
  refine ⟨_, (pss_cons 
      (ps_if (pt_not (pt_truth (pv 0) (fun _ => rfl))) (pss_one 
      (ps_ret pe_non)) pss_nil) (pss_cons 
      (ps_set (i := 2) nd rfl (Or.inl rfl) (pe_lst pa_nil)) (pss_cons 
      (ps_for PassesOwn.never rfl (pi_K (K := K) rfl (pe_c (c_thin_rows T) hr (by decide) (by rfl) (pa_cons (pv 0) pa_nil))) (pg_name (i := 3) nd rfl (Or.inl rfl)) (pss_cut 
      (ps_while PassesOwn.never (PW.pt (pw_and (pt_cmpR op_gtU (pe_callB (len_K (K := K) rfl) (by rfl) T.len (by decide +kernel) (pa_cons (pv 2) pa_nil)) pe_int (nomark _)) (pw_and1 (pt_val (pe_c (c_never_alone T) hr (by decide) (by rfl) (pa_cons (pe_ix (ix_K (K := K) rfl) (pv 2) (pe_un un_neg pe_int) (fun _ _ => rfl)) (pa_cons (pe_ix (ix_K (K := K) rfl) (pv 2) (pe_un un_neg pe_int) (fun _ _ => rfl)) (pa_cons (pv 3) pa_nil)))))))) (pss_one 
      (ps_expr (pe_bm0 PySem.F.plainAttrs_list PySem.F.slot_list_pop PySem.F.type_list_pop mt_pop (pv 2))))) (pss_one 
      (ps_if (PW.pt (pw_or (pt_not (pt_truth (pv 2) (fun _ => rfl))) (pw_or1 (pt_val (pe_c (c_is_below_at T) hr (by decide) (by rfl) (pa_cons (pv 3) (pa_cons (pe_ix (ix_K (K := K) rfl) (pv 2) (pe_un un_neg pe_int) (fun _ _ => rfl)) (pa_cons (pv 1) pa_nil)))))))) (pss_one 
      (ps_expr (pe_bm PySem.F.plainAttrs_list PySem.F.slot_list_append PySem.F.type_list_append mt_append (pv 2) (pa_cons (pv 3) pa_nil)))) pss_nil)))) (pss_one 
      (ps_ret (pe_callTy (tupleOf_K (K := K) rfl) (by rfl) T.tuple (by decide +kernel) (pa_cons (pv 2) pa_nil))))))), ?_⟩
  have tru : TruV K (.ref R) H (!xs.isEmpty) := by
    rcases hs with h | h
    · exact .inl ⟨xs, h, rfl⟩
    · exact .inr (.inl ⟨xs, h, rfl⟩)
  refine ⟨_, rfl, _, tru, ?_⟩
  by_cases e0 : rays = []
  · subst e0
    have : xs = [] := List.eq_nil_of_length_eq_zero lx
    subst this
    exact iteT (k H _ (Same.refl _) .non)
  have ex : xs.isEmpty = false := by
    cases xs with
    | nil => exact absurd (List.eq_nil_of_length_eq_zero lx.symm) e0
    | cons _ _ => rfl
  rw [ex]
  refine iteF ?_
  refine ⟨Nat.le_of_ble_eq_true rfl, fun p np => ?_⟩
  have e1 := grow (o := .lst []) np
  refine ⟨_, rfl, _, rfl, R, xs, rays.map tol, 2, rfl, hs.imp (fun h => e1.seq h) (fun h => same_tup e1 h), hx.mono e1, fun l h => ?_, by decide, by decide, by rw [List.length_map]; omega, fun H2 v e2 hv => ?_⟩
  · obtain ⟨r, _, rfl⟩ := List.mem_map.mp h
    rfl
  rw [thin_tol] at hv
  obtain ⟨ts, tr, tc⟩ := thinP_ok rays
  rcases hv with ⟨z, _⟩ | ⟨nz, C, ys, rfl, hC, hy⟩
  · exfalso
    cases rays with
    | nil => exact e0 rfl
    | cons q r =>
      obtain ⟨y, hy, _⟩ := tc q (List.mem_cons_self ..)
      rw [List.map_eq_nil_iff.mp z] at hy
      cases hy
  have tl0 := thinP_len rays
  have ly := hy.len
  rw [List.length_map] at ly
  have hp2 := e2 _ _ (upd_same (H := H) (a := p) (o := .lst []))
  refine .inr (.inl ⟨C, rfl, ⟨_, SqT.of hC⟩, ?_⟩)
  refine for_it (walk_tup (xs := ys)) (fun i σ H' => Same H H' ∧ H' C = some (.tup ys) ∧ RowsV K H' ys ((thinP rays).map tol) ∧ (∃ us S, S = ((thinP rays).take i).foldl (fun R l => addM top l R) [] ∧ H' p = some (.lst us) ∧ RowsV K H' us (S.reverse.map tol) ∧ us.length ≤ i ∧ (∀ t ∈ S, t ∈ rays)) ∧ ∃ y3, σ = [some (.ref R), some (.int top), some (.ref p), y3])
    ⟨e1.trans e2, hC, hy, ⟨[], [], rfl, hp2, .nil, Nat.le_refl _, fun t h => by cases h⟩, _, rfl⟩ (fun i σ H' _ ⟨_, h, _⟩ => SqT.of h) ?_ ?_
  · rintro i x σ H3 H4 hi ⟨e, hC, hy, ⟨us, S, eS, hp, hu, lu, sS⟩, y3, rfl⟩ ⟨rfl, g⟩
    obtain ⟨l', gl, tl⟩ := hy.get g
    rw [List.getElem?_map] at gl
    cases hlq : (thinP rays)[i]? with
    | none =>
      rw [hlq] at gl
      cases gl
    | some l =>
    rw [hlq] at gl
    cases gl
    have ml : l ∈ rays := ts l (List.mem_of_getElem? hlq)
    have npC : C ≠ p := fun z => by
      rw [z, hp] at hC
      cases hC
    -- while
    refine ⟨fun σ' H' => Same H H' ∧ H' C = some (.tup ys) ∧ RowsV K H' ys ((thinP rays).map tol) ∧ TupI K H' x (tol l) ∧ (∃ us, H' p = some (.lst us) ∧ RowsV K H' us ((popM l S).reverse.map tol) ∧ us.length ≤ i) ∧ σ' = [some (.ref R), some (.int top), some (.ref p), some x], ?_, ?_⟩
    · refine ⟨fun m σ' H' => Same H H' ∧ H' C = some (.tup ys) ∧ RowsV K H' ys ((thinP rays).map tol) ∧ TupI K H' x (tol l) ∧ (∃ us S', us.length = m ∧ H' p = some (.lst us) ∧ RowsV K H' us (S'.reverse.map tol) ∧ us.length ≤ i ∧ popM l S' = popM l S ∧ ∀ t ∈ S', t ∈ rays) ∧ σ' = [some (.ref R), some (.int top), some (.ref p), some x],
        ⟨_, e, hC, hy, tl, ⟨us, S, rfl, hp, hu, lu, rfl, sS⟩, rfl⟩, ?_⟩
      rintro m σ' H5 ⟨e, hC, hy, tl, ⟨us, S', em, hp, hu, lu, eP, sS⟩, rfl⟩
      have lS := hu.len
      rw [List.length_map, List.length_reverse] at lS
      refine ⟨_, rfl, .inl ⟨p, us, rfl, .inl (SqL.of hp), _, _, rfl, rfl, _, rfl, ite2 (fun h => ?_) (fun h => ?_)⟩⟩
      · have h := of_decide_eq_true h
        obtain ⟨y, z, r, rfl⟩ : ∃ y z r, S' = y :: z :: r := by
          match S', lS with
          | [], q =>
            have q : us.length = 0 := q
            omega
          | [_], q =>
            have q : us.length = 1 := q
            omega
          | y :: z :: r, _ => exact ⟨y, z, r, rfl⟩
        obtain ⟨vs, u, rfl, hvs, tu⟩ := rows_last hu
        obtain ⟨ws, u2, rfl, hws, tu2⟩ := rows_last hvs
        refine ⟨_, rfl, _, rfl, .inl ⟨p, _, _, _, rfl, rfl, SqL.of hp, atI_last2 ws u2 u, ?_⟩⟩
        refine ⟨_, rfl, _, rfl, .inl ⟨p, _, _, _, rfl, rfl, SqL.of hp, atI_last (ws ++ [u2]) u, ?_⟩⟩
        refine ⟨_, rfl, _, _, _, rfl, z, y, l, tu2, tu, tl, bd z (sS z (by simp)), bd y (sS y (by simp)), bd l ml, _, rfl, ?_⟩
        cases nv : nevM z y l with
        | true =>
          refine iteT ⟨fun σ' H' => Same H H' ∧ H' C = some (.tup ys) ∧ RowsV K H' ys ((thinP rays).map tol) ∧ TupI K H' x (tol l) ∧ (∃ us S', us.length + 1 = m ∧ H' p = some (.lst us) ∧ RowsV K H' us (S'.reverse.map tol) ∧ us.length ≤ i ∧ popM l S' = popM l S ∧ ∀ t ∈ S', t ∈ rays) ∧ σ' = [some (.ref R), some (.int top), some (.ref p), some x], ?_, ?_⟩
          · rintro σ' H' ⟨k1, k2, k3, k4, ⟨us, S', k5, k6⟩, k7⟩
            exact ⟨us.length, by omega, k1, k2, k3, k4, ⟨us, S', rfl, k6⟩, k7⟩
          refine ⟨_, rfl, .inl ⟨rfl, _, SqL.of hp⟩, p, _, u, rfl, rfl, hp, ?_, ?_⟩
          · rw [List.length_append]
            show (ws ++ [u2] ++ [u])[(ws ++ [u2]).length]? = some u
            rw [List.getElem?_append_right (Nat.le_refl _), Nat.sub_self]
            rfl
          · rw [List.dropLast_concat]
            refine ⟨same_mut e np, by rw [upd_ne npC]; exact hC, hy.upd hp, tupI_upd hp tl, ⟨ws ++ [u2], z :: r, ?_, upd_same, hvs.upd hp, by rw [List.length_append] at lu; omega, ?_, fun t ht => sS t (List.mem_cons_of_mem _ ht)⟩, rfl⟩
            · rw [← em, List.length_append (bs := [u])]
              rfl
            · rw [← eP, pop_step nv]
        | false =>
          refine iteF ⟨e, hC, hy, tl, ⟨_, hp, ?_, lu⟩, rfl⟩
          rw [← eP, pop_stop nv]
          exact hu
      · have h : ¬ (1 : Int) < us.length := fun z => h (decide_eq_true z)
        refine ⟨e, hC, hy, tl, ⟨us, hp, ?_, lu⟩, rfl⟩
        have le : S'.length ≤ 1 := by omega
        have eq : popM l S' = S' := by
          match S', le with
          | [], _ => rfl
          | [_], _ => rfl
          | _ :: _ :: r, q => exact absurd q (by simp)
        rw [← eP, eq]
        exact hu
    rintro σ' H5 ⟨e, hC, hy, tl, ⟨us, hp, hu, lu⟩, rfl⟩
    have eS2 : ((thinP rays).take (i + 1)).foldl (fun R l => addM top l R) [] = addM top l S := by
      rw [eS]
      exact take_fold (fun R l => addM top l R) [] _ i l hlq
    have sub2 : ∀ t ∈ addM top l S, t ∈ rays := fun t ht => by
      rcases add_sub t ht with rfl | h
      · exact ml
      · exact sS t h
    refine ⟨_, rfl, _, .inl ⟨us, SqL.of hp, rfl⟩, ?_⟩
    have lU := hu.len
    have app : ∀ z : List Ln, addM top l S = l :: z → popM l S = z → ∃ us2 S2, S2 = ((thinP rays).take (i + 1)).foldl (fun R l => addM top l R) [] ∧ upd H5 p (.lst (us ++ [x])) p = some (.lst us2) ∧ RowsV K (upd H5 p (.lst (us ++ [x]))) us2 (S2.reverse.map tol) ∧ us2.length ≤ i + 1 ∧ ∀ t ∈ S2, t ∈ rays := by
      intro z h1 h2
      refine ⟨us ++ [x], l :: z, by rw [eS2, h1], upd_same, ?_, by rw [List.length_append]; exact Nat.succ_le_succ lu, by rw [← h1]; exact sub2⟩
      rw [List.reverse_cons, List.map_append]
      rw [h2] at hu
      exact (hu.upd hp).snoc (tupI_upd hp tl)
    cases eP : popM l S with
    | nil =>
      rw [eP] at hu lU
      have eu : us = [] := List.eq_nil_of_length_eq_zero lU
      have eA : addM top l S = [l] := by
        unfold addM
        rw [eP]
      subst eu
      refine iteT ⟨_, rfl, .inl ⟨rfl, _, SqL.of hp⟩, _, rfl, p, [], _, rfl, rfl, hp, size5 (by decide), ?_⟩
      exact ⟨same_mut e np, by rw [upd_ne npC]; exact hC, hy.upd hp, app [] eA eP, _, rfl⟩
    | cons y r =>
      rw [eP] at hu
      obtain ⟨vs, u, rfl, hvs, tu⟩ := rows_last hu
      have my : y ∈ rays := sS y (pop_sub (l := l) y (by rw [eP]; exact List.mem_cons_self ..))
      have ne : (vs ++ [u]).isEmpty = false := by cases vs <;> rfl
      rw [ne]
      refine iteF ?_
      refine ⟨_, rfl, _, rfl, _, rfl, .inl ⟨p, _, _, _, rfl, rfl, SqL.of hp, atI_last vs u, ?_⟩⟩
      refine ⟨_, rfl, _, _, _, rfl, l, y, top, tl, tu, rfl, bd l ml, bd y my, _, rfl, ?_⟩
      cases bl : blwM l y top with
      | true =>
        have eA : addM top l S = l :: y :: r := by
          unfold addM
          rw [eP]
          exact if_pos bl
        refine iteT ⟨_, rfl, .inl ⟨rfl, _, SqL.of hp⟩, _, rfl, p, _, _, rfl, rfl, hp, size5 (by omega), ?_⟩
        exact ⟨same_mut e np, by rw [upd_ne npC]; exact hC, hy.upd hp, app (y :: r) eA eP, _, rfl⟩
      | false =>
        have eA : addM top l S = y :: r := by
          unfold addM
          rw [eP]
          exact if_neg (by rw [bl]; exact Bool.false_ne_true)
        exact iteF ⟨e, hC, hy, ⟨vs ++ [u], y :: r, by rw [eS2, eA], hp, hu, by omega, by rw [← eA]; exact sub2⟩, _, rfl⟩
  · rintro σ H3 ⟨e, hC, hy, ⟨us, S, eS, hp, hu, lu, sS⟩, y3, rfl⟩
    refine ⟨_, rfl, p, _, rfl, .inl ⟨SqL.of hp, fun q nq => k _ _ (e.trans (grow nq)) ?_⟩⟩
    unfold lowestM
    rw [if_neg e0]
    rw [ly, List.take_length] at eS
    subst eS
    refine .tup (SqT.of upd_same) ?_
    have h := hu.mono (grow (o := .tup us) nq)
    unfold RowsV at h
    rw [List.map_map] at h
    exact h

theorem c_lowest_lines (T : Top K mg C_Trade C_Dial) : Cal P w K mg base 4 "lowest_lines" (spLowest K) [] := by
  obtain ⟨f, fd, F, df⟩ := T.d_lowest_lines
  exact cal_of F df (ok_lowest_lines T F) fun _ _ _ _ _ _ us hl => match us, hl with | [_, _], _ => rfl

end
end Fb

set_option Elab.async false
set_option linter.all false
set_option maxRecDepth 100000
set_option maxHeartbeats 4000000
namespace Fb
open PySem PySem.Spec L2
open PyProof.Rows hiding St
open C8 (Cal Met Mak Def cal0 met0 mak0 pe_c pe_mk pe_mt pe_mt0 fnScope fnBody fnArgs pss_cut tCut)
local macro_rules | `(tactic| walk_at "hp") => `(tactic| first | exact upd_same | assumption | (refine grow (by assumption) _ _ ?_; walk_at "hp") | (refine (show Same _ _ by assumption) _ _ ?_; walk_at "hp"))
local macro_rules | `(tactic| walk_at "sm") => `(tactic| first | exact Same.refl _ | assumption | (refine Same.trans ?_ (grow (by assumption)); walk_at "sm") | (refine Same.trans ?_ (show Same _ _ by assumption); walk_at "sm"))
section
variable {P : Program} {w : World} {K : PySem.W.Frag} {mg : Str → Option Value} {base : Heap}
variable {C_Trade C_Dial : Addr}
/-! ### Dial.best -/
def spDBest (K : PySem.W.Frag) (C : Addr) : Sp := sp3 fun a b c H Q => ∃ (p : Addr) (top : Int) (one two : List Ln), a = .ref p ∧ DialW C H p top ∧ Dp K H b (lnD (some one)) ∧ Dp K H c (lnD (some two)) ∧ (∀ r ∈ one ++ two, BdL r) ∧ (one ++ two).length ≤ 1000 ∧ one ≠ [] ∧
  ∀ H' v, Same H H' → Dp K H' v (lnD (lowestM top (one ++ two))) → Q v H'
theorem c_Dial_best (T : Top K mg C_Trade C_Dial) : Met P w K mg base 5 C_Dial "best" (spDBest K C_Dial) [] := by
  obtain ⟨f, fd, me, F, df⟩ := T.d_Dial_best
  refine ⟨f, fd, ["self", "one", "other"], [], T.cl_Dial, me, ?_, F.binds df fun _ _ _ _ _ _ us hl => match us, hl with | [_, _, _], _ => rfl, .nil⟩
  refine fm3 F sc_Dial_best fun cdv A outer s H a b c Q E hr h => ?_
  have nd := sc_Dial_best.nd
  obtain ⟨p, top, one, two, rfl, ⟨dx, st, w1, w2, hp⟩, h1, h2, bd, hl, hne, k⟩ := h
  obtain ⟨A1, xs, rfl, s1, r1⟩ := ln_tup h1
  obtain ⟨A2, ys, rfl, s2, r2⟩ := ln_tup h2
  refine ⟨_, (pss_cons 
      (ps_if (pt_cmpR op_isN (pv 1) pe_non (nomark _)) (pss_one 
      (ps_ret (pv 2))) pss_nil) (pss_cons 
      (ps_if (pt_cmpR op_isN (pv 2) pe_non (nomark _)) (pss_one 
      (ps_ret (pv 1))) pss_nil) (pss_one 
      (ps_ret (pe_c (c_lowest_lines T) hr (by decide) (by rfl) (pa_cons (pe_op (op_catT_K (K := K) rfl) (pv 1) (pv 2)) (pa_cons (pe_fld (pv 0) rfl) pa_nil))))))), ?_⟩
  refine ⟨_, rfl, rfl, _, rfl, iteF ⟨_, rfl, rfl, _, rfl, iteF ?_⟩⟩
  refine ⟨_, rfl, _, rfl, A1, A2, xs, ys, rfl, rfl, s1, s2, ?_, ?_, ?_, ?_⟩
  · intro e
    have := r1.len
    rw [e, List.length_map] at this
    exact hne (List.eq_nil_of_length_eq_zero this.symm)
  · have l1 := r1.len
    have l2 := r2.len
    rw [List.length_map] at l1 l2
    rw [List.length_append] at hl
    exact size5' (by omega)
  · intro e
    subst e
    have l2 := r2.len
    rw [List.length_map] at l2
    have : two = [] := List.eq_nil_of_length_eq_zero l2.symm
    subst this
    rw [List.append_nil] at bd hl k
    exact ⟨_, rfl, p, C_Dial, dx, _, _, rfl, hp, T.cl_Dial, T.na_Dial_top, dfw_top _ _ _ _, _, _, rfl, A1, xs, one, top, rfl, .inr s1, r1, bd, hl, rfl, k⟩
  · intro _ c nc
    have e := grow (o := .tup (xs ++ ys)) nc
    refine ⟨_, rfl, p, C_Dial, dx, _, _, rfl, e _ _ hp, T.cl_Dial, T.na_Dial_top, dfw_top _ _ _ _, _, _, rfl, c, xs ++ ys, one ++ two, top, rfl, .inr (SqT.of upd_same), ?_, bd, hl, rfl, fun H' v e2 hv => k H' v (e.trans e2) hv⟩
    rw [List.map_append]
    exact (r1.mono e).app (r2.mono e)

end
end Fb

set_option Elab.async false
set_option linter.all false
set_option maxRecDepth 100000
set_option maxHeartbeats 4000000
namespace Fb
open PySem PySem.Spec L2
open PyProof.Rows hiding St
open C8 (Cal Met Mak Def cal0 met0 mak0 pe_c pe_mk pe_mt pe_mt0 fnScope fnBody fnArgs pss_cut tCut)
local macro_rules | `(tactic| walk_at "hp") => `(tactic| first | exact upd_same | assumption | (refine grow (by assumption) _ _ ?_; walk_at "hp") | (refine (show Same _ _ by assumption) _ _ ?_; walk_at "hp"))
local macro_rules | `(tactic| walk_at "sm") => `(tactic| first | exact Same.refl _ | assumption | (refine Same.trans ?_ (grow (by assumption)); walk_at "sm") | (refine Same.trans ?_ (show Same _ _ by assumption); walk_at "sm"))
section
variable {P : Program} {w : World} {K : PySem.W.Frag} {mg : Str → Option Value} {base : Heap}
variable {C_Trade C_Dial : Addr}
/-! ### Trade.then -/
def spTThen (K : PySem.W.Frag) : Sp := sp3 fun a b c H Q => ∃ (A1 A2 : Addr) (xs ys : List V) (one two : List Ln), b = .ref A1 ∧ SqT K H A1 xs ∧ c = .ref A2 ∧ SqT K H A2 ys ∧ RowsV K H xs (one.map tol) ∧ RowsV K H ys (two.map tol) ∧ one ≠ [] ∧ two ≠ [] ∧ one.length ≤ 30 ∧ two.length ≤ 30 ∧
  ∀ H' v, Same H H' → Dp K H' v (lnD (some (thinP (sumsM one two)))) → Q v H'
theorem c_Trade_then (T : Top K mg C_Trade C_Dial) : Met P w K mg base 4 C_Trade "then" (spTThen K) [] := by
  obtain ⟨f, fd, me, F, df⟩ := T.d_Trade_then
  refine ⟨f, fd, ["self", "one", "other"], [], T.cl_Trade, me, ?_, F.binds df fun _ _ _ _ _ _ us hl => match us, hl with | [_, _, _], _ => rfl, .nil⟩
  refine fm3 F sc_Trade_then fun cdv A outer s H a b c Q E hr h => ?_
  have nd := sc_Trade_then.nd
  obtain ⟨A1, A2, xs, ys, one, two, rfl, s1, rfl, s2, r1, r2, n1, n2, hl1, hl2, k⟩ := h
  have l1 := r1.len
  have l2 := r2.len
  rw [List.length_map] at l1 l2
  have bound : ∀ i j, i ≤ one.length → j ≤ two.length → i * two.length + j ≤ 1000 := fun i j h1 h2 => by
    have := Nat.mul_le_mul (Nat.le_trans h1 hl1) hl2
    omega
  refine ⟨_, (pss_cons 
      (ps_if (PW.pt (pw_or (pt_cmpR op_isN (pv 1) pe_non (nomark _)) (pw_or1 (pt_cmpR op_isN (pv 2) pe_non (nomark _))))) (pss_one 
      (ps_ret pe_non)) pss_nil) (pss_cons 
      (ps_setLc2 (i := 3) (own := [("row", 4), ("more", 5)]) (vs1 := [5]) rfl nd rfl rfl (sw_true rfl rfl rfl (by decide +kernel)) (pi_K (K := K) rfl (pv 1)) (blkOk_by (N := ["self", "one", "other", "sums", "row", "more", "left", "right"]) (sc := fnScope s_Trade_then) (by decide +kernel)) (by decide) (fun _ _ _ _ _ => (pg_name (i := 4) nd rfl (Or.inl rfl))) (fun _ _ _ _ _ => pts_nil) (fun _ _ _ _ _ => (pi_K (K := K) rfl (pv 2))) (fun _ _ _ _ _ => (pg_name (i := 5) nd rfl (Or.inl rfl))) (fun _ _ _ _ _ => pts_nil) (fun _ _ _ _ _ => (pe_callTy (tupleOf_K (K := K) rfl) (by rfl) T.tuple (by decide +kernel) (pa_cons (pe_lc (own := [("left", 6), ("right", 7)]) rfl nd (zip_K (K := K) rfl (by rfl) T.zip (pa_cons (pv 4) (pa_cons (pv 5) pa_nil))) (blkOk_by (by kernel_rfl)) (fun _ _ _ _ _ => (tup_K (K := K) (n := 2) rfl rfl (pgs_cons (pg_name (i := 6) nd rfl (Or.inl rfl)) (pgs_cons (pg_name (i := 7) nd rfl (Or.inl rfl)) pgs_nil)))) (fun _ _ _ _ _ => pts_nil) (fun _ _ _ _ _ => (pe_op op_addU (pv 6) (pv 7)))) pa_nil)))) (pss_one 
      (ps_ret (pe_c (c_thin_rows T) hr (by decide) (by rfl) (pa_cons (pv 3) pa_nil)))))), ?_⟩
  refine ⟨_, rfl, rfl, _, rfl, iteF ⟨_, rfl, rfl, _, rfl, iteF ?_⟩⟩
  refine ⟨_, rfl, .inr (.inl ⟨A1, rfl, ⟨_, s1⟩, fun D hD => ?_⟩)⟩
  refine lc_in (walk_tup (xs := xs)) (fun i H' => Same H H' ∧ ∃ us, H' D = some (.lst us) ∧ RowsV K H' us ((sumsM (one.take i) two).map tol)) ⟨grow hD, [], upd_same, .nil⟩ (fun i H' _ ⟨e, _⟩ => same_tup e s1) ?_ ?_
  · rintro i x H1 H2 hi ⟨e, us, hq, hu⟩ ⟨rfl, g⟩
    obtain ⟨q, gq, ⟨U, rfl, sU⟩⟩ := line_get (r1.mono e) g
    refine ⟨rfl, ?_⟩
    refine ⟨_, rfl, .inr (.inl ⟨A2, rfl, ⟨_, same_tup e s2⟩, ?_⟩)⟩
    refine lc_in (walk_tup (xs := ys)) (fun j H' => Same H H' ∧ ∃ us, H' D = some (.lst us) ∧ RowsV K H' us ((sumsM (one.take i) two ++ (two.take j).map fun r => (q.1 + r.1, q.2 + r.2)).map tol)) ⟨e, us, hq, by rw [List.take_zero, List.map_nil, List.append_nil]; exact hu⟩ (fun i H' _ ⟨e, _⟩ => same_tup e s2) ?_ ?_
    · rintro j y H3 H4 hj ⟨e, us, hq, hu⟩ ⟨rfl, g2⟩
      obtain ⟨r, gr, ⟨U2, rfl, sU2⟩⟩ := line_get (r2.mono e) g2
      obtain ⟨q', gq', U', eU', sU3⟩ := line_get (r1.mono e) g
      rw [gq] at gq'
      cases gq'
      cases eU'
      refine ⟨rfl, ?_⟩
      refine ⟨_, rfl, _, rfl, _, _, _, _, rfl, .inr ⟨sU3, sU2, fun D3 hD3 => ?_⟩⟩
      refine lc_map (walk_zipT (n := 2) rfl) (fun m => .int ((tol q).getD m 0 + (tol r).getD m 0)) grow_pair (by omega) hD3 (fun H e4 => ⟨same_tup e4 sU3, same_tup e4 sU2⟩) ?_ ?_
      · rintro m z G5 G6 hm e4 ⟨U4, x1, x2, rfl, nU, rfl, g3, g4⟩ W2 kk2
        obtain ⟨i1, g5, rfl⟩ := int_get g3
        obtain ⟨i2, g6, rfl⟩ := int_get g4
        rw [getD_of g5, getD_of g6] at kk2
        exact ⟨U4, [_, _], rfl, SqT.of upd_same, rfl, _, [_], rfl, _, [], rfl, rfl, rfl, _, rfl, _, rfl, .inl ⟨_, _, rfl, rfl, kk2 _ (Same.refl _)⟩⟩
      · intro H5 e5 hd5
        refine ⟨D3, [.int (q.1 + r.1), .int (q.2 + r.2)], rfl, .inl ⟨SqL.of hd5, fun t nt => ?_⟩⟩
        have e6 := e5.trans (grow (o := .tup [.int (q.1 + r.1), .int (q.2 + r.2)]) nt)
        have hq3 := e6 _ _ hq
        have lu := hu.len
        rw [List.length_map, List.length_append, sums_len, List.length_map, List.length_take, List.length_take] at lu
        have lb := bound (min i one.length) (min j two.length) (Nat.min_le_right _ _) (Nat.min_le_right _ _)
        refine ⟨us, hq3, size5 (by omega), same_mut (e.trans e6) hD, us ++ [.ref t], upd_same, ?_⟩
        have ntD : t ≠ D := fun z => by
          rw [z, e5 _ _ hq] at nt
          cases nt
        rw [take_map_add _ gr, ← List.append_assoc, List.map_append]
        exact ((hu.mono e6).upd hq3).snoc ⟨t, rfl, SqT.of (by rw [upd_ne ntD, upd_same]; rfl)⟩
    · rintro H3 ⟨e, us, hq, hu⟩
      refine ⟨e, us, hq, ?_⟩
      rw [sums_take gq]
      rw [l2, List.take_length] at hu
      exact hu
  · rintro H1 ⟨e, us, hq, hu⟩
    rw [l1, List.take_length] at hu
    have lb := bound one.length 0 (Nat.le_refl _) (Nat.zero_le _)
    refine ⟨_, rfl, _, rfl, D, us, (sumsM one two).map tol, 2, rfl, .inl (SqL.of hq), hu, fun l hl => ?_, by decide, by decide, by rw [List.length_map, sums_len]; omega, fun H' v e2 hv => k H' v (e.trans e2) ?_⟩
    · obtain ⟨r, _, rfl⟩ := List.mem_map.mp hl
      rfl
    · rw [thin_tol] at hv
      rcases hv with ⟨z, _⟩ | ⟨_, D2, ys2, rfl, h1, h2⟩
      · exfalso
        obtain ⟨p, r, rfl⟩ := List.exists_cons_of_ne_nil n1
        obtain ⟨q, rr, rfl⟩ := List.exists_cons_of_ne_nil n2
        obtain ⟨y, hy, _⟩ := (thinP_ok (sumsM (p :: r) (q :: rr))).2.2 _ (mem_sums.mpr ⟨p, List.mem_cons_self .., q, List.mem_cons_self .., rfl⟩)
        rw [List.map_eq_nil_iff.mp z] at hy
        cases hy
      · exact ln_dp (SqT.of h1) h2

end
end Fb

set_option Elab.async false
set_option linter.all false
set_option maxRecDepth 100000
set_option maxHeartbeats 4000000
namespace Fb
open PySem PySem.Spec L2
open PyProof.Rows hiding St
open C8 (Cal Met Mak Def cal0 met0 mak0 pe_c pe_mk pe_mt pe_mt0 fnScope fnBody fnArgs pss_cut tCut)
local macro_rules | `(tactic| walk_at "hp") => `(tactic| first | exact upd_same | assumption | (refine grow (by assumption) _ _ ?_; walk_at "hp") | (refine (show Same _ _ by assumption) _ _ ?_; walk_at "hp"))
local macro_rules | `(tactic| walk_at "sm") => `(tactic| first | exact Same.refl _ | assumption | (refine Same.trans ?_ (grow (by assumption)); walk_at "sm") | (refine Same.trans ?_ (show Same _ _ by assumption); walk_at "sm"))
section
variable {P : Program} {w : World} {K : PySem.W.Frag} {mg : Str → Option Value} {base : Heap}
variable {C_Trade C_Dial : Addr}
/-! ### Dial.then -/
def spDThen (K : PySem.W.Frag) (C : Addr) : Sp := sp3 fun a b c H Q => ∃ (p : Addr) (top : Int) (one two : List Ln), a = .ref p ∧ DialW C H p top ∧ Dp K H b (lnD (some one)) ∧ Dp K H c (lnD (some two)) ∧ (∀ r ∈ sumsM one two, BdL r) ∧ one.length ≤ 30 ∧ two.length ≤ 30 ∧
  ∀ H' v, Same H H' → Dp K H' v (lnD (lowestM top (sumsM one two))) → Q v H'
theorem c_Dial_then (T : Top K mg C_Trade C_Dial) : Met P w K mg base 5 C_Dial "then" (spDThen K C_Dial) [] := by
  obtain ⟨f, fd, me, F, df⟩ := T.d_Dial_then
  refine ⟨f, fd, ["self", "one", "other"], [], T.cl_Dial, me, ?_, F.binds df fun _ _ _ _ _ _ us hl => match us, hl with | [_, _, _], _ => rfl, .nil⟩
  refine fm3 F sc_Dial_then fun cdv A outer s H a b c Q E hr h => ?_
  have nd := sc_Dial_then.nd
  obtain ⟨p, top, one, two, rfl, ⟨dx, st, w1, w2, hp⟩, h1, h2, bd, hl1, hl2, k⟩ := h
  obtain ⟨A1, xs, rfl, s1, r1⟩ := ln_tup h1
  obtain ⟨A2, ys, rfl, s2, r2⟩ := ln_tup h2
  have l1 := r1.len
  have l2 := r2.len
  rw [List.length_map] at l1 l2
  have bound : ∀ i j, i ≤ one.length → j ≤ two.length → i * two.length + j ≤ 1000 := fun i j h1 h2 => by
    have := Nat.mul_le_mul (Nat.le_trans h1 hl1) hl2
    omega
  refine ⟨_, (pss_cons 
      (ps_if (PW.pt (pw_or (pt_cmpR op_isN (pv 1) pe_non (nomark _)) (pw_or1 (pt_cmpR op_isN (pv 2) pe_non (nomark _))))) (pss_one 
      (ps_ret pe_non)) pss_nil) (pss_one 
      (ps_ret (pe_c (c_lowest_lines T) hr (by decide) (by rfl) (pa_cons (pe_lc2 (own := [("a", 3), ("b", 4), ("more", 5), ("steeper", 6)]) (vs1 := [5, 6]) rfl nd (pi_K (K := K) rfl (pv 1)) (blkOk_by (N := ["self", "one", "other", "a", "b", "more", "steeper"]) (sc := fnScope s_Dial_then) (by decide +kernel)) (by decide) (fun _ _ _ _ _ => (tup_K (K := K) (n := 2) rfl rfl (pgs_cons (pg_name (i := 3) nd rfl (Or.inl rfl)) (pgs_cons (pg_name (i := 4) nd rfl (Or.inl rfl)) pgs_nil)))) (fun _ _ _ _ _ => pts_nil) (fun _ _ _ _ _ => (pi_K (K := K) rfl (pv 2))) (fun _ _ _ _ _ => (tup_K (K := K) (n := 2) rfl rfl (pgs_cons (pg_name (i := 5) nd rfl (Or.inl rfl)) (pgs_cons (pg_name (i := 6) nd rfl (Or.inl rfl)) pgs_nil)))) (fun _ _ _ _ _ => pts_nil) (fun _ _ _ _ _ => (pe_tup (pa_cons (pe_op op_addU (pv 3) (pv 5)) (pa_cons (pe_op op_addU (pv 4) (pv 6)) pa_nil))))) (pa_cons (pe_fld (pv 0) rfl) pa_nil)))))), ?_⟩
  refine ⟨_, rfl, rfl, _, rfl, iteF ⟨_, rfl, rfl, _, rfl, iteF ?_⟩⟩
  refine ⟨_, rfl, .inr (.inl ⟨A1, rfl, ⟨_, s1⟩, fun D hD => ?_⟩)⟩
  refine lc_in (walk_tup (xs := xs)) (fun i H' => Same H H' ∧ ∃ us, H' D = some (.lst us) ∧ RowsV K H' us ((sumsM (one.take i) two).map tol)) ⟨grow hD, [], upd_same, .nil⟩ (fun i H' _ ⟨e, _⟩ => same_tup e s1) ?_ ?_
  · rintro i x H1 H2 hi ⟨e, us, hq, hu⟩ ⟨rfl, g⟩
    obtain ⟨q, gq, ⟨U, rfl, sU⟩⟩ := line_get (r1.mono e) g
    refine ⟨U, _, rfl, sU, rfl, _, _, rfl, _, _, rfl, rfl, rfl, ?_⟩
    refine ⟨_, rfl, .inr (.inl ⟨A2, rfl, ⟨_, same_tup e s2⟩, ?_⟩)⟩
    refine lc_in (walk_tup (xs := ys)) (fun j H' => Same H H' ∧ ∃ us, H' D = some (.lst us) ∧ RowsV K H' us ((sumsM (one.take i) two ++ (two.take j).map fun r => (q.1 + r.1, q.2 + r.2)).map tol)) ⟨e, us, hq, by rw [List.take_zero, List.map_nil, List.append_nil]; exact hu⟩ (fun i H' _ ⟨e, _⟩ => same_tup e s2) ?_ ?_
    · rintro j y H3 H4 hj ⟨e, us, hq, hu⟩ ⟨rfl, g2⟩
      obtain ⟨r, gr, ⟨U2, rfl, sU2⟩⟩ := line_get (r2.mono e) g2
      refine ⟨U2, _, rfl, sU2, rfl, _, _, rfl, _, _, rfl, rfl, rfl, ?_⟩
      refine ⟨_, rfl, _, rfl, .inl ⟨_, _, rfl, rfl, _, rfl, _, rfl, .inl ⟨_, _, rfl, rfl, Nat.le_of_ble_eq_true rfl, fun t nt => ?_⟩⟩⟩
      have hq3 := (grow (o := .tup [.int (q.1 + r.1), .int (q.2 + r.2)]) nt) _ _ hq
      have lu := hu.len
      rw [List.length_map, List.length_append, sums_len, List.length_map, List.length_take, List.length_take] at lu
      have lb := bound (min i one.length) (min j two.length) (Nat.min_le_right _ _) (Nat.min_le_right _ _)
      refine ⟨us, hq3, size5 (by omega), same_mut (e.trans (grow nt)) hD, us ++ [.ref t], upd_same, ?_⟩
      have ntD : t ≠ D := fun z => by
        rw [z, hq] at nt
        cases nt
      rw [take_map_add _ gr, ← List.append_assoc, List.map_append]
      exact ((hu.mono (grow nt)).upd hq3).snoc ⟨t, rfl, SqT.of (by rw [upd_ne ntD, upd_same]; rfl)⟩
    · rintro H3 ⟨e, us, hq, hu⟩
      refine ⟨e, us, hq, ?_⟩
      rw [sums_take gq]
      rw [l2, List.take_length] at hu
      exact hu
  · rintro H1 ⟨e, us, hq, hu⟩
    rw [l1, List.take_length] at hu
    refine ⟨_, rfl, p, C_Dial, dx, _, _, rfl, e _ _ hp, T.cl_Dial, T.na_Dial_top, dfw_top _ _ _ _, _, _, rfl, D, us, sumsM one two, top, rfl, .inl (SqL.of hq), hu, bd, ?_, rfl, fun H' v e2 hv => k H' v (e.trans e2) hv⟩
    rw [sums_len]
    have := bound one.length 0 (Nat.le_refl _) (Nat.zero_le _)
    omega

end
end Fb

set_option Elab.async false
set_option linter.all false
set_option maxRecDepth 100000
set_option maxHeartbeats 4000000
namespace Fb
open PySem PySem.Spec L2
open PyProof.Rows hiding St
open C8 (Cal Met Mak Def cal0 met0 mak0 pe_c pe_mk pe_mt pe_mt0 fnScope fnBody fnArgs pss_cut tCut)
local macro_rules | `(tactic| walk_at "hp") => `(tactic| first | exact upd_same | assumption | (refine grow (by assumption) _ _ ?_; walk_at "hp") | (refine (show Same _ _ by assumption) _ _ ?_; walk_at "hp"))
local macro_rules | `(tactic| walk_at "sm") => `(tactic| first | exact Same.refl _ | assumption | (refine Same.trans ?_ (grow (by assumption)); walk_at "sm") | (refine Same.trans ?_ (show Same _ _ by assumption); walk_at "sm"))
section
variable {P : Program} {w : World} {K : PySem.W.Frag} {mg : Str → Option Value} {base : Heap}
variable {C_Trade C_Dial : Addr}
/-! ### _law_by_program -/
/-- a trade or a dial, and what its values have of all rows -/
inductive MadeOk (C_Trade C_Dial : Addr) (H : Hp) (p : Addr) : (List Ln → List Ln → Prop) → Prop
  | trade : TradeW C_Trade H p → MadeOk C_Trade C_Dial H p TO
  | dial {roof : Int} : DialW C_Dial H p roof → 1 ≤ roof → MadeOk C_Trade C_Dial H p (LO roof)
theorem MadeOk.mono {C1 C2 : Addr} {H H' : Hp} {p : Addr} {G : List Ln → List Ln → Prop} (h : MadeOk C1 C2 H p G) (e : Same H H') : MadeOk C1 C2 H' p G := by
  cases h with
  | trade h => exact .trade (h.mono e)
  | dial h r => exact .dial (h.mono e) r
theorem MadeOk.few {C1 C2 : Addr} {H : Hp} {p : Addr} {G : List Ln → List Ln → Prop} (h : MadeOk C1 C2 H p G) {R S : List Ln} (g : G R S) (ne : R ≠ []) {m : Nat} (bd : ∀ r ∈ R, BdN m r) (z : m ≤ 5) : S ≠ [] ∧ S.length ≤ 26 ∧ (∀ x ∈ S, x ∈ R) := by
  cases h with
  | trade h => exact ⟨g.ne ne, few26 g.sub bd z g.rows.fall, g.sub⟩
  | dial h r => exact ⟨g.ne r ne, few26 g.sub bd z g.chn.fall, g.sub⟩
theorem bd_sum26 {one two : List Ln} (h1 : ∀ r ∈ one, BdH r) (h2 : ∀ r ∈ two, BdH r) : ∀ r ∈ sumsM one two, BdL r := fun r h => (bd_sums h1 h2 r h).l
def spByP (K : PySem.W.Frag) (C_Trade C_Dial : Addr) (n : Nat) : Sp := sp3 fun a b c H Q => ∃ (p L : Addr) (lots vals : Nat → List Ln) (G : List Ln → List Ln → Prop) (t : Tr), a = .ref p ∧ MadeOk C_Trade C_Dial H p G ∧ Dp K H b t.dat ∧ t.ok ∧ t.lvs ≤ n ∧ n ≤ 5 ∧ c = .ref L ∧ Vals3 K H L vals ∧ LotsOk lots ∧ (∀ k < 3, G (lots k) (vals k)) ∧
  ∀ (H' : Hp) (v : V) (S : List Ln), Same H H' → Dp K H' v (lnD (some S)) → G (t.raw lots) S → Q v H'
theorem c__law_by_program_n (T : Top K mg C_Trade C_Dial) : ∀ n, Cal P w K mg base (n + 7) "_law_by_program" (spByP K C_Trade C_Dial n) []
  | 0 => by
    obtain ⟨f, fd, F, df⟩ := T.d__law_by_program
    refine cal_of F df (fn3 F sc__law_by_program fun cdv A outer s H a b c Q E hr h => ?_) fun _ _ _ _ _ _ us hl => match us, hl with | [_, _, _], _ => rfl
    obtain ⟨p, L, lots, vals, G, t, _, _, _, _, lt, _⟩ := h
    have := t.pos
    omega
  | n + 1 => by
    have ih := @c__law_by_program_n T n
    obtain ⟨f, fd, F, df⟩ := T.d__law_by_program
    refine cal_of F df (fn3 F sc__law_by_program fun cdv A outer s H a b c Q E hr h => ?_) fun _ _ _ _ _ _ us hl => match us, hl with | [_, _, _], _ => rfl
    have nd := sc__law_by_program.nd
    obtain ⟨p, L, lots, vals, G, t, rfl, hp, ht, to, lt, ln, rfl, hv, lo, hG, k⟩ := h
    refine ⟨_, (pss_cons 
      (ps_if (pt_val (pe_callB (isi_K (K := K) rfl) (by rfl) T.isinstance (by decide +kernel) (pa_cons (pv 1) (pa_cons (pe_bltn (v := .ty "int") (by rfl) T.int (by decide +kernel) rfl) pa_nil)))) (pss_one 
      (ps_ret (pe_ix (ix_K (K := K) rfl) (pv 2) (pv 1) (fun _ _ => rfl)))) pss_nil) (pss_cons 
      (ps_par (i := 3) (j := 4) rfl nd rfl rfl (by decide) rfl rfl (pa_cons (pe_c ih hr (Nat.le_refl _) (by rfl) (pa_cons (pv 0) (pa_cons (pe_ix (ix_K (K := K) rfl) (pv 1) pe_int (fun _ _ => rfl)) (pa_cons (pv 2) pa_nil)))) (pa_cons (pe_c ih hr (Nat.le_refl _) (by rfl) (pa_cons (pv 0) (pa_cons (pe_ix (ix_K (K := K) rfl) (pv 1) pe_int (fun _ _ => rfl)) (pa_cons (pv 2) pa_nil)))) pa_nil)) (by rfl)) (pss_one 
      (ps_ret (pe_ifExp (pt_cmpR (eq_K (K := K) rfl hr) (pe_ix (ix_K (K := K) rfl) (pv 1) pe_int (fun _ _ => rfl)) pe_str (nomark _)) (pe_or2 (pe_mt (c_Trade_best T) hr (by omega) (pv 0) (pa_cons (pv 3) (pa_cons (pv 4) pa_nil))) (pe_mt (c_Dial_best T) hr (by omega) (pv 0) (pa_cons (pv 3) (pa_cons (pv 4) pa_nil)))) (pe_or2 (pe_mt (c_Trade_then T) hr (by omega) (pv 0) (pa_cons (pv 3) (pa_cons (pv 4) pa_nil))) (pe_mt (c_Dial_then T) hr (by omega) (pv 0) (pa_cons (pv 3) (pa_cons (pv 4) pa_nil))))))))), ?_⟩
    cases t with
    | leaf j =>
      cases tr_leaf ht
      refine ⟨_, rfl, .inl ⟨_, _, _, true, rfl, .base (.int _), by decide +kernel, _, rfl, iteT ?_⟩⟩
      obtain ⟨vs, hL, l3, all⟩ := hv.ex
      have jl : j < vs.length := by
        rw [l3]
        exact to
      have g : vs[j]? = some vs[j] := List.getElem?_eq_getElem jl
      exact ⟨_, rfl, _, rfl, .inl ⟨L, _, _, _, rfl, rfl, SqL.of hL, atI_nat g, k _ _ (vals j) (Same.refl _) (all j _ g) (hG j to)⟩⟩
    | node b l r =>
      obtain ⟨A2, x, y, rfl, sA, d1, d2⟩ := tr_node ht
      have p1 := l.pos
      have p2 := r.pos
      have lt : l.lvs + r.lvs ≤ n + 1 := lt
      refine ⟨_, rfl, .inl ⟨_, _, _, false, rfl, sqt_ty sA, by decide +kernel, _, rfl, iteF ?_⟩⟩
      refine ⟨_, rfl, _, rfl, .inr (.inl ⟨A2, _, _, _, rfl, rfl, sA, at1, _, rfl, _, _, _, rfl, p, L, lots, vals, G, l, rfl, hp, d1, to.1, by omega, by omega, rfl, hv, lo, hG, fun H1 v1 S1 e1 w1 g1 => ?_⟩)⟩
      refine ⟨_, rfl, _, rfl, .inr (.inl ⟨A2, _, _, _, rfl, rfl, same_tup e1 sA, at2, _, rfl, _, _, _, rfl, p, L, lots, vals, G, r, rfl, hp.mono e1, dp_mono e1 _ d2, to.2, by omega, by omega, rfl, hv.mono e1, lo, hG, fun H2 v2 S2 e2 w2 g2 => ?_⟩)⟩
      have e12 := e1.trans e2
      have w1 := dp_mono e2 _ w1
      have b1 := raw_bd lo l to.1
      have b2 := raw_bd lo r to.2
      obtain ⟨n1, z1, s1⟩ := hp.few g1 (raw_ne lo l to.1) b1 (by omega)
      obtain ⟨n2, z2, s2⟩ := hp.few g2 (raw_ne lo r to.2) b2 (by omega)
      have bb1 : ∀ x ∈ S1, BdL x := fun x m => ((b1 x (s1 x m)).h (by omega)).r.l
      have bb2 : ∀ x ∈ S2, BdL x := fun x m => ((b2 x (s2 x m)).h (by omega)).r.l
      refine ⟨_, _, rfl, ?_⟩
      refine ⟨_, rfl, .inr (.inl ⟨A2, _, _, _, rfl, rfl, same_tup e12 sA, at0, .inl ⟨rfl, _, rfl, ?_⟩⟩)⟩
      have hp2 := hp.mono e12
      cases b with
      | true =>
        refine iteT ?_
        cases hp2 with
        | trade h =>
          obtain ⟨dx, fs, hx, f1, f2⟩ := h
          obtain ⟨A3, xs, rfl, q1, rr1, _⟩ := dp_lnU w1
          obtain ⟨A4, ys, rfl, q2, rr2, _⟩ := dp_lnU w2
          refine .inl ⟨_, rfl, p, dx, fs, rfl, hx, f1, _, rfl, _, rfl, _, _, _, rfl, A3, A4, xs, ys, S1.map tol, S2.map tol, 2, rfl, q1, rfl, q2, rr1, rr2, fun e => n1 (List.map_eq_nil_iff.mp e), fun e => n2 (List.map_eq_nil_iff.mp e), fun x hx => ?_, by decide, by decide, by rw [List.length_append, List.length_map, List.length_map]; omega, fun H3 v3 e3 hv3 => ?_⟩
          · rw [← List.map_append] at hx
            obtain ⟨r, _, rfl⟩ := List.mem_map.mp hx
            rfl
          · rw [← List.map_append, thin_tol] at hv3
            have g3 := TO.best g1 g2
            rcases hv3 with ⟨z, _⟩ | ⟨_, D3, us3, rfl, h3, rr3⟩
            · exact absurd (List.map_eq_nil_iff.mp z) (g3.ne (fun e => raw_ne lo l to.1 (List.append_eq_nil_iff.mp e).1))
            · exact k _ _ _ (e12.trans e3) (ln_dp (SqT.of h3) rr3) g3
        | dial h r0 =>
          rename_i roof
          obtain ⟨dx, st, w3, w4, hx⟩ := id h
          refine .inr ⟨_, rfl, p, dx, _, rfl, hx, dfw_no _ _ _ _ (by decide +kernel) (by decide +kernel) (by decide +kernel) (by decide +kernel), _, rfl, _, rfl, _, _, _, rfl, p, roof, S1, S2, rfl, h, w1, w2, fun x hx => (List.mem_append.mp hx).elim (bb1 x) (bb2 x), by rw [List.length_append]; omega, n1, fun H3 v3 e3 hv3 => ?_⟩
          have hM : lowestM roof (S1 ++ S2) = some (lowM roof (thinP (S1 ++ S2))) := if_neg fun e => n1 (List.append_eq_nil_iff.mp e).1
          rw [hM] at hv3
          exact k _ _ _ (e12.trans e3) hv3 (LO.best r0 g1 g2 hM)
      | false =>
        refine iteF ?_
        cases hp2 with
        | trade h =>
          obtain ⟨dx, fs, hx, f1, f2⟩ := h
          obtain ⟨A3, xs, rfl, q1, rr1, _⟩ := dp_lnU w1
          obtain ⟨A4, ys, rfl, q2, rr2, _⟩ := dp_lnU w2
          exact .inl ⟨_, rfl, p, dx, fs, rfl, hx, f2, _, rfl, _, rfl, _, _, _, rfl, A3, A4, xs, ys, S1, S2, rfl, q1, rfl, q2, rr1, rr2, n1, n2, by omega, by omega, fun H3 v3 e3 hv3 => k _ _ _ (e12.trans e3) hv3 (TO.then g1 g2)⟩
        | dial h r0 =>
          rename_i roof
          obtain ⟨dx, st, w3, w4, hx⟩ := id h
          refine .inr ⟨_, rfl, p, dx, _, rfl, hx, dfw_no _ _ _ _ (by decide +kernel) (by decide +kernel) (by decide +kernel) (by decide +kernel), _, rfl, _, rfl, _, _, _, rfl, p, roof, S1, S2, rfl, h, w1, w2, bd_sum26 (fun x m => (b1 x (s1 x m)).h (by omega)) (fun x m => (b2 x (s2 x m)).h (by omega)), by omega, by omega, fun H3 v3 e3 hv3 => ?_⟩
          have hM : lowestM roof (sumsM S1 S2) = some (lowM roof (thinP (sumsM S1 S2))) := if_neg fun e => by
            have := congrArg List.length e
            rw [sums_len] at this
            have := Nat.mul_pos (List.length_pos_iff.mpr n1) (List.length_pos_iff.mpr n2)
            simp only [List.length_nil] at *
            omega
          rw [hM] at hv3
          exact k _ _ _ (e12.trans e3) hv3 (LO.then r0 g1 g2 hM)
theorem c__law_by_program (T : Top K mg C_Trade C_Dial) : Cal P w K mg base 12 "_law_by_program" (spByP K C_Trade C_Dial 5) [] := c__law_by_program_n T 5

end
end Fb

set_option Elab.async false
set_option linter.all false
set_option maxRecDepth 100000
set_option maxHeartbeats 4000000
namespace Fb
open PySem PySem.Spec L2
open PyProof.Rows hiding St
open C8 (Cal Met Mak Def cal0 met0 mak0 pe_c pe_mk pe_mt pe_mt0 fnScope fnBody fnArgs pss_cut tCut)
local macro_rules | `(tactic| walk_at "hp") => `(tactic| first | exact upd_same | assumption | (refine grow (by assumption) _ _ ?_; walk_at "hp") | (refine (show Same _ _ by assumption) _ _ ?_; walk_at "hp"))
local macro_rules | `(tactic| walk_at "sm") => `(tactic| first | exact Same.refl _ | assumption | (refine Same.trans ?_ (grow (by assumption)); walk_at "sm") | (refine Same.trans ?_ (show Same _ _ by assumption); walk_at "sm"))
section
variable {P : Program} {w : World} {K : PySem.W.Frag} {mg : Str → Option Value} {base : Heap}
variable {C_Trade C_Dial : Addr}
/-! ### _law_split -/
def spSplit (K : PySem.W.Frag) : Sp := sp2 fun a b H Q => ∃ (A B X : Addr) (us : List V), a = .ref A ∧ SqT K H A [.str "trade", .ref X] ∧ b = .ref B ∧ H B = some (.lst us) ∧ ∀ (H' : Hp) (D : Addr), Same H H' → H' D = some (.lst us) → Q (.ref D) H'
theorem c__law_split (T : Top K mg C_Trade C_Dial) : Cal P w K mg base 1 "_law_split" (spSplit K) [] := by
  obtain ⟨f, fd, F, df⟩ := T.d__law_split
  refine cal_of F df (fn2 F sc__law_split fun cdv A outer s H a b Q E hr h => ?_) fun _ _ _ _ _ _ us hl => match us, hl with | [_, _], _ => rfl
  have nd := sc__law_split.nd
  obtain ⟨A1, B1, X, us, rfl, hA, rfl, hB, k⟩ := h
  refine ⟨_, (pss_cons 
      (ps_if (pt_cmpR op_isN (pv 1) pe_non (nomark _)) (pss_one 
      (ps_ret (pe_lst pa_nil))) pss_nil) (pss_cons 
      (ps_if (pt_cmpR (in_K (K := K) rfl) (pe_ix (ix_K (K := K) rfl) (pv 0) pe_int (fun _ _ => rfl)) (pe_lst (pa_cons pe_str (pa_cons pe_str (pa_cons pe_str pa_nil)))) (by with_unfolding_all rfl)) (pss_one 
      (ps_ret (pe_callTy (listOf_K (K := K) rfl) (by rfl) T.list (by decide +kernel) (pa_cons (pv 1) pa_nil)))) pss_nil) (pss_cons 
      (ps_if (pt_cmpR (eq_K (K := K) rfl hr) (pe_ix (ix_K (K := K) rfl) (pv 0) pe_int (fun _ _ => rfl)) pe_str (nomark _)) (pss_one ps_never) pss_nil) (pss_one 
      ps_never)))), ?_⟩
  refine ⟨_, rfl, rfl, _, rfl, iteF ?_⟩
  refine ⟨_, rfl, .inr (.inl ⟨A1, _, _, _, rfl, rfl, hA, at0, Nat.le_of_ble_eq_true rfl, fun l nl => ?_⟩)⟩
  have e1 := grow (o := .lst [.str "trade", .str "open", .str "dial"]) nl
  refine .inr ⟨l, _, rfl, .inl (SqL.of upd_same), rfl, rfl, ?_⟩
  refine ⟨_, rfl, iteT ?_⟩
  exact ⟨_, rfl, B1, us, rfl, .inl (SqL.of (e1 _ _ hB)), fun D nD => k _ D (e1.trans (grow nD)) upd_same⟩

end
end Fb

set_option Elab.async false
set_option linter.all false
set_option maxRecDepth 100000
set_option maxHeartbeats 4000000
namespace Fb
open PySem PySem.Spec L2
open PyProof.Rows hiding St
open C8 (Cal Met Mak Def cal0 met0 mak0 pe_c pe_mk pe_mt pe_mt0 fnScope fnBody fnArgs pss_cut tCut)
local macro_rules | `(tactic| walk_at "hp") => `(tactic| first | exact upd_same | assumption | (refine grow (by assumption) _ _ ?_; walk_at "hp") | (refine (show Same _ _ by assumption) _ _ ?_; walk_at "hp"))
local macro_rules | `(tactic| walk_at "sm") => `(tactic| first | exact Same.refl _ | assumption | (refine Same.trans ?_ (grow (by assumption)); walk_at "sm") | (refine Same.trans ?_ (show Same _ _ by assumption); walk_at "sm"))
section
variable {P : Program} {w : World} {K : PySem.W.Frag} {mg : Str → Option Value} {base : Heap}
variable {C_Trade C_Dial : Addr}
/-! ### _law_row_then -/
def spRowThen (K : PySem.W.Frag) : Sp := sp3 fun a b c H Q => ∃ (A X : Addr) (p q : Ln), a = .ref A ∧ SqT K H A [.str "trade", .ref X] ∧ TupI K H b (tol p) ∧ TupI K H c (tol q) ∧ ∀ (H' : Hp) (D : Addr), Same H H' → H' D = some (.tup [.int (p.1 + q.1), .int (p.2 + q.2)]) → Q (.ref D) H'
theorem c__law_row_then (T : Top K mg C_Trade C_Dial) : Cal P w K mg base 1 "_law_row_then" (spRowThen K) [] := by
  obtain ⟨f, fd, F, df⟩ := T.d__law_row_then
  refine cal_of F df (fn3 F sc__law_row_then fun cdv A outer s H a b c Q E hr h => ?_) fun _ _ _ _ _ _ us hl => match us, hl with | [_, _, _], _ => rfl
  have nd := sc__law_row_then.nd
  obtain ⟨A1, X, p, q, rfl, hA, ⟨A2, rfl, s2⟩, ⟨A3, rfl, s3⟩, k⟩ := h
  refine ⟨_, (pss_cons 
      (ps_set (i := 3) nd rfl (Or.inl rfl) (pe_ix (ix_K (K := K) rfl) (pv 0) pe_int (fun _ _ => rfl))) (pss_cons 
      (ps_if (pt_cmpR (eq_K (K := K) rfl hr) (pv 3) pe_str (nomark _)) (pss_one ps_never) pss_nil) (pss_cons 
      (ps_if (pt_cmpR (eq_K (K := K) rfl hr) (pv 3) pe_str (nomark _)) (pss_one ps_never) pss_nil) (pss_cons 
      (ps_if (pt_cmpR (in_K (K := K) rfl) (pv 3) (pe_lst (pa_cons pe_str (pa_cons pe_str pa_nil))) (by with_unfolding_all rfl)) (pss_one 
      (ps_ret (pe_callTy (tupleOf_K (K := K) rfl) (by rfl) T.tuple (by decide +kernel) (pa_cons (pe_lc (own := [("p", 5), ("q", 6)]) rfl nd (zip_K (K := K) rfl (by rfl) T.zip (pa_cons (pv 1) (pa_cons (pv 2) pa_nil))) (blkOk_by (N := ["spec", "x", "y", "kind", "t_y", "p", "q"]) (sc := fnScope s__law_row_then) (by decide +kernel)) (fun _ _ _ _ _ => (tup_K (K := K) (n := 2) rfl rfl (pgs_cons (pg_name (i := 5) nd rfl (Or.inl rfl)) (pgs_cons (pg_name (i := 6) nd rfl (Or.inl rfl)) pgs_nil)))) (fun _ _ _ _ _ => pts_nil) (fun _ _ _ _ _ => (pe_op op_addU (pv 5) (pv 6)))) pa_nil)))) pss_nil) (pss_cons 
      (ps_if (pt_cmpR (eq_K (K := K) rfl hr) (pv 3) pe_str (nomark _)) (pss_one ps_never) pss_nil) (pss_cons 
      (ps_if (pt_cmpR (eq_K (K := K) rfl hr) (pv 3) pe_str (nomark _)) (pss_one ps_never) pss_nil) (pss_cons 
      (ps_if (pt_cmpR (eq_K (K := K) rfl hr) (pv 3) pe_str (nomark _)) (pss_one ps_never) pss_nil) (pss_one 
      ps_never)))))))), ?_⟩
  refine ⟨_, rfl, .inr (.inl ⟨A1, _, _, _, rfl, rfl, hA, at0, ?_⟩)⟩
  refine ⟨_, rfl, .inl ⟨rfl, _, rfl, iteF ?_⟩⟩
  refine ⟨_, rfl, .inl ⟨rfl, _, rfl, iteF ?_⟩⟩
  refine ⟨_, rfl, Nat.le_of_ble_eq_true rfl, fun l nl => ?_⟩
  have e1 := grow (o := .lst [.str "trade", .str "dial"]) nl
  refine .inr ⟨l, _, rfl, .inl (SqL.of upd_same), rfl, rfl, ?_⟩
  refine ⟨_, rfl, iteT ?_⟩
  have s2 := same_tup e1 s2
  have s3 := same_tup e1 s3
  generalize upd H l _ = H1 at e1 s2 s3 ⊢
  refine ⟨_, rfl, _, rfl, _, _, _, _, rfl, .inr ⟨s2, s3, fun D3 hD3 => ?_⟩⟩
  refine lc_map (walk_zipT (n := 2) rfl) (fun m => .int ((tol p).getD m 0 + (tol q).getD m 0)) grow_pair (by omega) hD3 (fun H e4 => ⟨same_tup e4 s2, same_tup e4 s3⟩) ?_ ?_
  · rintro m z G5 G6 hm e4 ⟨U4, x1, x2, rfl, nU, rfl, g3, g4⟩ W2 kk2
    obtain ⟨i1, g5, rfl⟩ := int_get g3
    obtain ⟨i2, g6, rfl⟩ := int_get g4
    rw [getD_of g5, getD_of g6] at kk2
    exact ⟨U4, [_, _], rfl, SqT.of upd_same, rfl, _, [_], rfl, _, [], rfl, rfl, rfl, _, rfl, _, rfl, .inl ⟨_, _, rfl, rfl, kk2 _ (Same.refl _)⟩⟩
  · intro H5 e5 hd5
    exact ⟨D3, [.int (p.1 + q.1), .int (p.2 + q.2)], rfl, .inl ⟨SqL.of hd5, fun t nt => k _ t (e1.trans (e5.trans (grow nt))) upd_same⟩⟩

end
end Fb

set_option Elab.async false
set_option linter.all false
set_option maxRecDepth 100000
set_option maxHeartbeats 4000000
namespace Fb
open PySem PySem.Spec L2
open PyProof.Rows hiding St
open C8 (Cal Met Mak Def cal0 met0 mak0 pe_c pe_mk pe_mt pe_mt0 fnScope fnBody fnArgs pss_cut tCut)
local macro_rules | `(tactic| walk_at "hp") => `(tactic| first | exact upd_same | assumption | (refine grow (by assumption) _ _ ?_; walk_at "hp") | (refine (show Same _ _ by assumption) _ _ ?_; walk_at "hp"))
local macro_rules | `(tactic| walk_at "sm") => `(tactic| first | exact Same.refl _ | assumption | (refine Same.trans ?_ (grow (by assumption)); walk_at "sm") | (refine Same.trans ?_ (show Same _ _ by assumption); walk_at "sm"))
section
variable {P : Program} {w : World} {K : PySem.W.Frag} {mg : Str → Option Value} {base : Heap}
variable {C_Trade C_Dial : Addr}
/-! ### _law_pairs -/
def spPairs (K : PySem.W.Frag) : Sp := sp2 fun a b H Q => ∃ (A B : Addr) (xs ys : List V), a = .ref A ∧ H A = some (.lst xs) ∧ b = .ref B ∧ H B = some (.lst ys) ∧ xs.length ≤ 100 ∧ ys.length ≤ 100 ∧
  ∀ (H' : Hp) (D : Addr) (us : List V), Same H H' → H' D = some (.lst us) → PairsV H' us (prodV xs ys) → Q (.ref D) H'
theorem prod_len (xs ys : List V) : (prodV xs ys).length = xs.length * ys.length := by
  unfold prodV
  rw [List.length_flatMap]
  simp [List.map_const', List.sum_replicate_nat]
theorem c__law_pairs (T : Top K mg C_Trade C_Dial) : Cal P w K mg base 1 "_law_pairs" (spPairs K) [] := by
  obtain ⟨f, fd, F, df⟩ := T.d__law_pairs
  refine cal_of F df (fn2 F sc__law_pairs fun cdv A outer s H a b Q E hr h => ?_) fun _ _ _ _ _ _ us hl => match us, hl with | [_, _], _ => rfl
  have nd := sc__law_pairs.nd
  obtain ⟨A1, B1, xs, ys, rfl, ha, rfl, hb, la, lb, k⟩ := h
  refine ⟨_, (pss_cons 
      (ps_set (i := 2) nd rfl (Or.inl rfl) (pe_lst pa_nil)) (pss_cons 
      (ps_for PassesOwn.never rfl (pi_K (K := K) rfl (pv 0)) (pg_name (i := 3) nd rfl (Or.inl rfl)) (pss_one 
      (ps_for PassesOwn.never rfl (pi_K (K := K) rfl (pv 1)) (pg_name (i := 4) nd rfl (Or.inl rfl)) (pss_one 
      (ps_expr (pe_bm PySem.F.plainAttrs_list PySem.F.slot_list_append PySem.F.type_list_append mt_append (pv 2) (pa_cons (pe_tup (pa_cons (pv 3) (pa_cons (pv 4) pa_nil))) pa_nil))))))) (pss_one 
      (ps_ret (pv 2))))), ?_⟩
  refine ⟨Nat.le_of_ble_eq_true rfl, fun q nq => ?_⟩
  have e0 := grow (o := .lst []) nq
  have bound : ∀ i j, i ≤ xs.length → j ≤ ys.length → i * ys.length + j ≤ 20000 := fun i j h1 h2 => by
    have := Nat.mul_le_mul (Nat.le_trans h1 la) lb
    omega
  refine ⟨_, rfl, .inl ⟨A1, rfl, ⟨_, SqL.of (e0 _ _ ha)⟩, ?_⟩⟩
  refine for_it (walk_list (xs := xs)) (fun i σ H' => Same H H' ∧ (∃ us, H' q = some (.lst us) ∧ PairsV H' us (prodV (xs.take i) ys)) ∧ ∃ y3 y4, σ = [some (.ref A1), some (.ref B1), some (.ref q), y3, y4])
    ⟨e0, ⟨[], upd_same, ⟨rfl, fun i u h => by cases h⟩⟩, _, _, rfl⟩ (fun i σ H' _ ⟨e, _⟩ => SqL.of (e _ _ ha)) ?_ ?_
  · rintro i x σ H1 H2 hi ⟨e, ⟨us, hq, pu⟩, y3, y4, rfl⟩ ⟨rfl, g⟩
    refine ⟨_, rfl, .inl ⟨B1, rfl, ⟨_, SqL.of (e _ _ hb)⟩, ?_⟩⟩
    refine for_it (walk_list (xs := ys)) (fun j σ H' => Same H H' ∧ (∃ us, H' q = some (.lst us) ∧ PairsV H' us (prodV (xs.take i) ys ++ (ys.take j).map fun y => (x, y))) ∧ ∃ y4, σ = [some (.ref A1), some (.ref B1), some (.ref q), some x, y4])
      ⟨e, ⟨us, hq, by rw [List.take_zero, List.map_nil, List.append_nil]; exact pu⟩, _, rfl⟩ (fun i σ H' _ ⟨e, _⟩ => SqL.of (e _ _ hb)) ?_ ?_
    · rintro j y σ H3 H4 hj ⟨e, ⟨us, hq, pu⟩, y4, rfl⟩ ⟨rfl, g2⟩
      refine ⟨_, rfl, .inl ⟨rfl, _, SqL.of hq⟩, _, rfl, _, rfl, Nat.le_of_ble_eq_true rfl, fun t nt => ?_⟩
      have hq3 := (grow (o := .tup [x, y]) nt) _ _ hq
      have lu : us.length ≤ 20000 := by
        rw [pu.1, List.length_append, prod_len, List.length_map, List.length_take, List.length_take]
        exact Nat.le_trans (Nat.add_le_add (Nat.mul_le_mul_right _ (Nat.min_le_right _ _)) (Nat.min_le_right _ _)) (bound _ _ (Nat.le_refl _) (Nat.le_refl _))
      refine ⟨q, us, _, rfl, rfl, hq3, size5 (by omega), ?_⟩
      have ntq : t ≠ q := fun z => by
        rw [z, hq] at nt
        cases nt
      refine ⟨same_mut (e.trans (grow nt)) nq, ⟨us ++ [.ref t], upd_same, ?_⟩, _, rfl⟩
      rw [map_take g2, ← List.append_assoc]
      exact ((pu.mono (grow nt)).upd hq3).snoc (by rw [upd_ne ntq, upd_same])
    · rintro σ H3 ⟨e, ⟨us, hq, pu⟩, y4, rfl⟩
      refine ⟨e, ⟨us, hq, ?_⟩, _, _, rfl⟩
      rw [prod_take g]
      rw [List.take_length] at pu
      exact pu
  · rintro σ H1 ⟨e, ⟨us, hq, pu⟩, y3, y4, rfl⟩
    rw [List.take_length] at pu
    exact ⟨_, rfl, k H1 q us e hq pu⟩

end
end Fb

set_option Elab.async false
set_option linter.all false
set_option maxRecDepth 100000
set_option maxHeartbeats 4000000
namespace Fb
open PySem PySem.Spec L2
open PyProof.Rows hiding St
open C8 (Cal Met Mak Def cal0 met0 mak0 pe_c pe_mk pe_mt pe_mt0 fnScope fnBody fnArgs pss_cut tCut)
local macro_rules | `(tactic| walk_at "hp") => `(tactic| first | exact upd_same | assumption | (refine grow (by assumption) _ _ ?_; walk_at "hp") | (refine (show Same _ _ by assumption) _ _ ?_; walk_at "hp"))
local macro_rules | `(tactic| walk_at "sm") => `(tactic| first | exact Same.refl _ | assumption | (refine Same.trans ?_ (grow (by assumption)); walk_at "sm") | (refine Same.trans ?_ (show Same _ _ by assumption); walk_at "sm"))
section
variable {P : Program} {w : World} {K : PySem.W.Frag} {mg : Str → Option Value} {base : Heap}
variable {C_Trade C_Dial : Addr}
/-! ### _law_raw -/
def spRaw (K : PySem.W.Frag) (n : Nat) : Sp := sp3 fun a b c H Q => ∃ (A X L : Addr) (lots : Nat → List Ln) (t : Tr), a = .ref A ∧ SqT K H A [.str "trade", .ref X] ∧ Dp K H b t.dat ∧ t.ok ∧ t.lvs ≤ n ∧ n ≤ 5 ∧ c = .ref L ∧ Lots3 K H L lots ∧ LotsOk lots ∧
  ∀ (H' : Hp) (D : Addr), Same H H' → RwN K H' D (t.raw lots) → Q (.ref D) H'
theorem pow_le {t : Tr} {n : Nat} (h : t.lvs ≤ n) (z : n ≤ 5) : 3 ^ t.lvs ≤ 243 := Nat.le_trans (Nat.pow_le_pow_right (by decide) (Nat.le_trans h z)) (by decide)
theorem c__law_raw_n (T : Top K mg C_Trade C_Dial) : ∀ n, Cal P w K mg base (n + 3) "_law_raw" (spRaw K n) []
  | 0 => by
    obtain ⟨f, fd, F, df⟩ := T.d__law_raw
    refine cal_of F df (fn3 F sc__law_raw fun cdv A outer s H a b c Q E hr h => ?_) fun _ _ _ _ _ _ us hl => match us, hl with | [_, _, _], _ => rfl
    obtain ⟨A1, X, L, lots, t, _, _, _, _, lt, _⟩ := h
    have := t.pos
    omega
  | n + 1 => by
    have ih := @c__law_raw_n T n
    obtain ⟨f, fd, F, df⟩ := T.d__law_raw
    refine cal_of F df (fn3 F sc__law_raw fun cdv A outer s H a b c Q E hr h => ?_) fun _ _ _ _ _ _ us hl => match us, hl with | [_, _, _], _ => rfl
    have nd := sc__law_raw.nd
    obtain ⟨A1, X, L, lots, t, rfl, hA, ht, to, lt, ln, rfl, hl, lo, k⟩ := h
    refine ⟨_, (pss_cons 
      (ps_if (pt_val (pe_callB (isi_K (K := K) rfl) (by rfl) T.isinstance (by decide +kernel) (pa_cons (pv 1) (pa_cons (pe_bltn (v := .ty "int") (by rfl) T.int (by decide +kernel) rfl) pa_nil)))) (pss_one 
      (ps_ret (pe_c (c__law_split T) hr (by omega) (by rfl) (pa_cons (pv 0) (pa_cons (pe_ix (ix_K (K := K) rfl) (pv 2) (pv 1) (fun _ _ => rfl)) pa_nil))))) pss_nil) (pss_cons 
      (ps_par (i := 3) (j := 4) rfl nd rfl rfl (by decide) rfl rfl (pa_cons (pe_c ih hr (Nat.le_refl _) (by rfl) (pa_cons (pv 0) (pa_cons (pe_ix (ix_K (K := K) rfl) (pv 1) pe_int (fun _ _ => rfl)) (pa_cons (pv 2) pa_nil)))) (pa_cons (pe_c ih hr (Nat.le_refl _) (by rfl) (pa_cons (pv 0) (pa_cons (pe_ix (ix_K (K := K) rfl) (pv 1) pe_int (fun _ _ => rfl)) (pa_cons (pv 2) pa_nil)))) pa_nil)) (by rfl)) (pss_cons 
      (ps_if (pt_cmpR (eq_K (K := K) rfl hr) (pe_ix (ix_K (K := K) rfl) (pv 1) pe_int (fun _ _ => rfl)) pe_str (nomark _)) (pss_one 
      (ps_ret (pe_op op_addU (pv 3) (pv 4)))) pss_nil) (pss_one 
      (ps_ret (pe_lc (own := [("x", 5), ("y", 6)]) rfl nd (pi_K (K := K) rfl (pe_c (c__law_pairs T) hr (by omega) (by rfl) (pa_cons (pv 3) (pa_cons (pv 4) pa_nil)))) (blkOk_by (N := ["spec", "tree", "values", "left", "right", "x", "y"]) (sc := fnScope s__law_raw) (by decide +kernel)) (fun _ _ _ _ _ => (tup_K (K := K) (n := 2) rfl rfl (pgs_cons (pg_name (i := 5) nd rfl (Or.inl rfl)) (pgs_cons (pg_name (i := 6) nd rfl (Or.inl rfl)) pgs_nil)))) (fun _ _ _ _ _ => pts_nil) (fun _ _ _ _ _ => (pe_c (c__law_row_then T) hr (by omega) (by rfl) (pa_cons (pv 0) (pa_cons (pv 5) (pa_cons (pv 6) pa_nil))))))))))), ?_⟩
    cases t with
    | leaf j =>
      cases tr_leaf ht
      refine ⟨_, rfl, .inl ⟨_, _, _, true, rfl, .base (.int _), by decide +kernel, _, rfl, iteT ?_⟩⟩
      obtain ⟨vs, hL, l3, all⟩ := hl.ex
      have jl : j < vs.length := by
        rw [l3]
        exact to
      have g : vs[j]? = some vs[j] := List.getElem?_eq_getElem jl
      obtain ⟨D, ev, us, hD, rD⟩ := all j _ g
      refine ⟨_, rfl, _, rfl, _, rfl, .inl ⟨L, _, _, _, rfl, rfl, SqL.of hL, atI_nat (g.trans (congrArg some ev)), _, _, rfl, A1, D, X, us, rfl, hA, rfl, hD, fun H1 D1 e1 h1 => k _ D1 e1 ⟨us, h1, rD.mono e1⟩⟩⟩
    | node b l r =>
      obtain ⟨A2, x, y, rfl, sA, d1, d2⟩ := tr_node ht
      have p1 := l.pos
      have p2 := r.pos
      have lt : l.lvs + r.lvs ≤ n + 1 := lt
      refine ⟨_, rfl, .inl ⟨_, _, _, false, rfl, sqt_ty sA, by decide +kernel, _, rfl, iteF ?_⟩⟩
      refine ⟨_, rfl, _, rfl, .inr (.inl ⟨A2, _, _, _, rfl, rfl, sA, at1, _, rfl, _, _, _, rfl, A1, X, L, lots, l, rfl, hA, d1, to.1, by omega, by omega, rfl, hl, lo, fun H1 D1 e1 w1 => ?_⟩)⟩
      refine ⟨_, rfl, _, rfl, .inr (.inl ⟨A2, _, _, _, rfl, rfl, same_tup e1 sA, at2, _, rfl, _, _, _, rfl, A1, X, L, lots, r, rfl, same_tup e1 hA, dp_mono e1 _ d2, to.2, by omega, by omega, rfl, hl.mono e1, lo, fun H2 D2 e2 w2 => ?_⟩)⟩
      have e12 := e1.trans e2
      have w1 := w1.mono e2
      have n1 := raw_len lo l to.1
      have n2 := raw_len lo r to.2
      have q1 : 3 ^ l.lvs ≤ 81 := Nat.le_trans (Nat.pow_le_pow_right (by decide) (show l.lvs ≤ 4 by omega)) (by decide)
      have q2 : 3 ^ r.lvs ≤ 81 := Nat.le_trans (Nat.pow_le_pow_right (by decide) (show r.lvs ≤ 4 by omega)) (by decide)
      obtain ⟨us1, h1, r1⟩ := w1
      obtain ⟨us2, h2, r2⟩ := w2
      have m1 := r1.len
      have m2 := r2.len
      rw [List.length_map] at m1 m2
      refine ⟨_, _, rfl, ?_⟩
      refine ⟨_, rfl, .inr (.inl ⟨A2, _, _, _, rfl, rfl, same_tup e12 sA, at0, .inl ⟨rfl, _, rfl, ?_⟩⟩)⟩
      cases b with
      | true =>
        refine iteT ⟨_, rfl, _, rfl, .inr (.inr ⟨D1, D2, _, _, rfl, rfl, h1, h2, size5' (by omega), fun c nc => ?_⟩)⟩
        have e3 := grow (o := .lst (us1 ++ us2)) nc
        refine k _ c (e12.trans e3) ⟨_, upd_same, ?_⟩
        show RowsV K _ _ ((l.raw lots ++ r.raw lots).map tol)
        rw [List.map_append]
        exact (r1.mono e3).app (r2.mono e3)
      | false =>
        refine iteF ⟨_, rfl, _, rfl, _, _, rfl, D1, D2, us1, us2, rfl, h1, rfl, h2, by omega, by omega, fun H3 D3 zs e3 h3 pz => .inl ⟨D3, rfl, ⟨_, SqL.of h3⟩, fun D hD => ?_⟩⟩
        have e4 := e12.trans e3
        have lz : zs.length = us1.length * us2.length := by rw [pz.1, prod_len]
        have lq := Nat.mul_le_mul (show us1.length ≤ 81 by omega) (show us2.length ≤ 81 by omega)
        refine lc_some (walk_list (xs := zs)) (fun i v H' => TupI K H' v (tol ((sumsM (l.raw lots) (r.raw lots)).getD i (0, 0)))) grow_at (by omega) hD (fun _ _ _ _ e h => h.mono e) (fun H e => SqL.of (e _ _ h3)) ?_ ?_
        · rintro i x H4 H5 hi e ⟨acc, hacc⟩ ⟨rfl, g⟩ R kk
          obtain ⟨z, U, gz, rfl, hU⟩ := pz.2 i x g
          obtain ⟨p, q, tp, tq, _, _, gs⟩ := prod_rows (r2.mono e3) (r1.mono e3) gz
          obtain ⟨zx, zy⟩ := z
          refine ⟨U, _, rfl, SqT.of (e _ _ hU), rfl, _, _, rfl, _, _, rfl, rfl, rfl, _, rfl, _, rfl, _, rfl, _, _, _, rfl, A1, X, p, q, rfl, same_tup (e4.trans e) hA, tp.mono e, tq.mono e, fun H6 D6 e6 h6 => ?_⟩
          refine kk _ _ e6 fun o => ?_
          rw [getD_of gs]
          exact tupI_upd (e6 _ _ hacc) ⟨D6, rfl, SqT.of h6⟩
        · intro xs H4 e5 hx hl4 hp
          have rr := rows_from (fun i => tol ((sumsM (l.raw lots) (r.raw lots)).getD i (0, 0))) hp
          refine k _ D (e4.trans e5) ⟨xs, hx, ?_⟩
          show RowsV K _ _ ((sumsM (l.raw lots) (r.raw lots)).map tol)
          rw [hl4, lz, m1, m2, ← sums_len, map_range_get (0, 0) tol] at rr
          exact rr
theorem c__law_raw (T : Top K mg C_Trade C_Dial) : Cal P w K mg base 8 "_law_raw" (spRaw K 5) [] := c__law_raw_n T 5

end
end Fb

set_option Elab.async false
set_option linter.all false
set_option maxRecDepth 100000
set_option maxHeartbeats 4000000
namespace Fb
open PySem PySem.Spec L2
open PyProof.Rows hiding St
open C8 (Cal Met Mak Def cal0 met0 mak0 pe_c pe_mk pe_mt pe_mt0 fnScope fnBody fnArgs pss_cut tCut)
local macro_rules | `(tactic| walk_at "hp") => `(tactic| first | exact upd_same | assumption | (refine grow (by assumption) _ _ ?_; walk_at "hp") | (refine (show Same _ _ by assumption) _ _ ?_; walk_at "hp"))
local macro_rules | `(tactic| walk_at "sm") => `(tactic| first | exact Same.refl _ | assumption | (refine Same.trans ?_ (grow (by assumption)); walk_at "sm") | (refine Same.trans ?_ (show Same _ _ by assumption); walk_at "sm"))
section
variable {P : Program} {w : World} {K : PySem.W.Frag} {mg : Str → Option Value} {base : Heap}
variable {C_Trade C_Dial : Addr}
/-! ### _law_joints -/
def spJoints (K : PySem.W.Frag) : Sp := sp2 fun a b H Q => ∃ (A : Addr) (xs : List V) (S : List Ln) (roof : Int), a = .ref A ∧ SqT K H A xs ∧ RowsV K H xs (S.map tol) ∧ Chn roof S ∧ S ≠ [] ∧ (∀ r ∈ S, BdH r) ∧ S.length ≤ 26 ∧ b = .int roof ∧ 1 ≤ roof ∧ roof ≤ 1000000 ∧
  ∀ (H' : Hp) (D : Addr) (F : List Ln), Same H H' → H D = none → RwN K H' D F → (∀ f ∈ F, SetB roof 1000 f) → F.length ≤ 30 → 2 ≤ F.length → Q (.ref D) H'
theorem c__law_joints (T : Top K mg C_Trade C_Dial) : Cal P w K mg base 1 "_law_joints" (spJoints K) [] := by
  obtain ⟨f, fd, F, df⟩ := T.d__law_joints
  refine cal_of F df (fn2 F sc__law_joints fun cdv A outer s H a b Q E hr h => ?_) fun _ _ _ _ _ _ us hl => match us, hl with | [_, _], _ => rfl
  have nd := sc__law_joints.nd
  obtain ⟨A1, xs, S, roof, rfl, hA, hx, ch, ne, bd, lS, rfl, r0, r1, k⟩ := h
  have lx := hx.len
  rw [List.length_map] at lx
  have z0 := List.length_pos_iff.mpr ne
  refine ⟨_, (pss_cons 
      (ps_set (i := 2) nd rfl (Or.inl rfl) (pe_lst (pa_cons (pe_tup (pa_cons pe_int (pa_cons pe_int pa_nil))) (pa_cons (pe_tup (pa_cons (pv 1) (pa_cons pe_int pa_nil))) pa_nil)))) (pss_cons 
      (ps_for PassesOwn.never rfl (pi_range1 (by rfl) T.range (pa_cons (pe_op op_sub (pe_callB (len_K (K := K) rfl) (by rfl) T.len (by decide +kernel) (pa_cons (pv 0) pa_nil)) pe_int) pa_nil)) (pg_name (i := 3) nd rfl (Or.inl rfl)) (pss_one 
      (ps_expr (pe_bm PySem.F.plainAttrs_list PySem.F.slot_list_append PySem.F.type_list_append mt_append (pv 2) (pa_cons (pe_tup (pa_cons (pe_op op_sub (pe_ix (ix_K (K := K) rfl) (pe_ix (ix_K (K := K) rfl) (pv 0) (pe_op op_addU (pv 3) pe_int) (fun _ _ => rfl)) pe_int (fun _ _ => rfl)) (pe_ix (ix_K (K := K) rfl) (pe_ix (ix_K (K := K) rfl) (pv 0) (pv 3) (fun _ _ => rfl)) pe_int (fun _ _ => rfl))) (pa_cons (pe_op op_sub (pe_ix (ix_K (K := K) rfl) (pe_ix (ix_K (K := K) rfl) (pv 0) (pv 3) (fun _ _ => rfl)) pe_int (fun _ _ => rfl)) (pe_ix (ix_K (K := K) rfl) (pe_ix (ix_K (K := K) rfl) (pv 0) (pe_op op_addU (pv 3) pe_int) (fun _ _ => rfl)) pe_int (fun _ _ => rfl))) pa_nil))) pa_nil))))) (pss_one 
      (ps_ret (pv 2))))), ?_⟩
  refine ⟨Nat.le_of_ble_eq_true rfl, fun t1 nt1 => ⟨_, rfl, Nat.le_of_ble_eq_true rfl, fun t2 nt2 => ⟨Nat.le_of_ble_eq_true rfl, fun D nD => ?_⟩⟩⟩
  have e1 := grow (o := .tup [.int 0, .int 1]) nt1
  have e2 := grow (o := .tup [.int roof, .int 1]) nt2
  have e3 := grow (o := .lst [.ref t1, .ref t2]) nD
  have w0 : RwN K (upd (upd (upd H t1 (.tup [.int 0, .int 1])) t2 (.tup [.int roof, .int 1])) D (.lst [.ref t1, .ref t2])) D [(0, 1), (roof, 1)] := by
    refine ⟨_, upd_same, ?_⟩
    have q1 : TupI K (upd (upd (upd H t1 (.tup [.int 0, .int 1])) t2 (.tup [.int roof, .int 1])) D (.lst [.ref t1, .ref t2])) (.ref t1) (tol (0, 1)) := ⟨t1, rfl, SqT.of ((e2.trans e3) _ _ upd_same)⟩
    have q2 : TupI K (upd (upd (upd H t1 (.tup [.int 0, .int 1])) t2 (.tup [.int roof, .int 1])) D (.lst [.ref t1, .ref t2])) (.ref t2) (tol (roof, 1)) := ⟨t2, rfl, SqT.of (e3 _ _ upd_same)⟩
    exact .cons q1.dp (.cons q2.dp .nil)
  have g3 := e1.trans (e2.trans e3)
  have sD : Same H (upd (upd (upd H t1 (.tup [.int 0, .int 1])) t2 (.tup [.int roof, .int 1])) D (.lst [.ref t1, .ref t2])) := g3
  have nDH : H D = none := (e1.trans e2).free nD
  refine ⟨_, rfl, .inl ⟨_, _, rfl, .inr (same_tup g3 hA), _, _, rfl, rfl, _, rfl, by omega, by omega, for_it walk_range (fun i σ H' => Same H H' ∧ (∃ F, RwN K H' D F ∧ (∀ f ∈ F, SetB roof 1000 f) ∧ F.length = i + 2) ∧ ∃ y3, σ = [some (.ref A1), some (.int roof), some (.ref D), y3]) ⟨g3, ⟨_, w0, ?_, rfl⟩, _, rfl⟩ (fun _ _ _ _ _ => trivial) ?_ ?_⟩⟩
  · intro f hf
    rcases List.mem_cons.mp hf with rfl | hf
    · exact ⟨by decide, by decide, by show (0 : Int) ≤ roof * 1; omega, by decide⟩
    · cases List.mem_singleton.mp hf
      exact ⟨by show 0 ≤ roof; omega, by show (0 : Int) < 1; decide, by show roof ≤ roof * 1; omega, by show (1 : Int) ≤ 1000; decide⟩
  · rintro i x σ H1 H2 hi ⟨e, ⟨F, ⟨us, hD, hu⟩, all, lF⟩, y3, rfl⟩ ⟨rfl, rfl⟩
    have hi : i + 1 < xs.length := by omega
    have g1 : xs[i]? = some xs[i] := List.getElem?_eq_getElem (by omega)
    have g2 : xs[i + 1]? = some xs[i + 1] := List.getElem?_eq_getElem hi
    obtain ⟨t, gt, ⟨U, eU, sU⟩⟩ := line_get (hx.mono e) g1
    obtain ⟨u, gu, ⟨U2, eU2, sU2⟩⟩ := line_get (hx.mono e) g2
    obtain ⟨j1, j2, j3⟩ := ch.joint gt gu
    rw [eU] at g1
    rw [eU2] at g2
    obtain ⟨_, _, b3, b4⟩ := bd t (List.mem_of_getElem? gt)
    obtain ⟨_, _, b5, b6⟩ := bd u (List.mem_of_getElem? gu)
    have lu := hu.len
    rw [List.length_map] at lu
    have hA1 := same_tup e hA
    have a1 : atI xs ((0 : Int) + (i : Nat)) = some (.ref U) := by
      rw [Int.zero_add]
      exact atI_nat g1
    have a2 : atI xs ((0 : Int) + (i : Nat) + 1) = some (.ref U2) := by
      rw [Int.zero_add]
      exact atI_nat (j := i + 1) g2
    refine ⟨_, rfl, .inl ⟨rfl, _, SqL.of hD⟩, ?_⟩
    refine ⟨_, rfl, _, rfl, .inl ⟨_, _, rfl, rfl, .inr (.inl ⟨A1, _, _, _, rfl, rfl, hA1, a2, .inr (.inl ⟨U2, _, _, _, rfl, rfl, sU2, at0, ?_⟩)⟩)⟩⟩
    refine ⟨_, rfl, _, rfl, .inr (.inl ⟨A1, _, _, _, rfl, rfl, hA1, a1, .inr (.inl ⟨U, _, _, _, rfl, rfl, sU, at0, _, _, rfl, rfl, ?_⟩)⟩)⟩
    refine ⟨_, rfl, _, rfl, .inr (.inl ⟨A1, _, _, _, rfl, rfl, hA1, a1, .inr (.inl ⟨U, _, _, _, rfl, rfl, sU, at1, ?_⟩)⟩)⟩
    refine ⟨_, rfl, _, rfl, .inl ⟨_, _, rfl, rfl, .inr (.inl ⟨A1, _, _, _, rfl, rfl, hA1, a2, .inr (.inl ⟨U2, _, _, _, rfl, rfl, sU2, at1, _, _, rfl, rfl, ?_⟩)⟩)⟩⟩
    refine ⟨Nat.le_of_ble_eq_true rfl, fun n nn => ?_⟩
    have e5 := grow (o := .tup [.int (u.1 - t.1), .int (t.2 - u.2)]) nn
    have hD5 := e5 _ _ hD
    refine ⟨D, us, _, rfl, rfl, hD5, size5 (by omega), ?_⟩
    refine ⟨same_mut (e.trans e5) nDH, ⟨F ++ [(u.1 - t.1, t.2 - u.2)], ⟨us ++ [.ref n], upd_same, ?_⟩, fun f hf => ?_, by rw [List.length_append, lF]; rfl⟩, _, rfl⟩
    · have nD2 : n ≠ D := fun z => by
        rw [z, hD] at nn
        cases nn
      rw [List.map_append]
      exact ((hu.mono e5).upd hD5).snoc ⟨n, rfl, SqT.of (by rw [upd_ne nD2, upd_same]; rfl)⟩
    · rcases List.mem_append.mp hf with hf | hf
      · exact all f hf
      · rw [List.mem_singleton.mp hf]
        exact ⟨j1, j2, j3, by show t.2 - u.2 ≤ 1000; omega⟩
  · rintro σ H1 ⟨e, ⟨F, w, all, lF⟩, y3, rfl⟩
    exact ⟨_, rfl, k H1 D F e nDH w all (by omega) (by omega)⟩

end
end Fb

set_option Elab.async false
set_option linter.all false
set_option maxRecDepth 100000
set_option maxHeartbeats 4000000
namespace Fb
open PySem PySem.Spec L2
open PyProof.Rows hiding St
open C8 (Cal Met Mak Def cal0 met0 mak0 pe_c pe_mk pe_mt pe_mt0 fnScope fnBody fnArgs pss_cut tCut)
local macro_rules | `(tactic| walk_at "hp") => `(tactic| first | exact upd_same | assumption | (refine grow (by assumption) _ _ ?_; walk_at "hp") | (refine (show Same _ _ by assumption) _ _ ?_; walk_at "hp"))
local macro_rules | `(tactic| walk_at "sm") => `(tactic| first | exact Same.refl _ | assumption | (refine Same.trans ?_ (grow (by assumption)); walk_at "sm") | (refine Same.trans ?_ (show Same _ _ by assumption); walk_at "sm"))
section
variable {P : Program} {w : World} {K : PySem.W.Frag} {mg : Str → Option Value} {base : Heap}
variable {C_Trade C_Dial : Addr}
/-! ### _law_some_settings -/
def spSomeSet (K : PySem.W.Frag) : Sp := sp3 fun a b c H Q => ∃ (p A : Addr) (xs : List V) (S : List Ln) (roof : Int), a = .ref p ∧ BagAt H p ∧ b = .ref A ∧ SqT K H A xs ∧ RowsV K H xs (S.map tol) ∧ Chn roof S ∧ S ≠ [] ∧ (∀ r ∈ S, BdH r) ∧ S.length ≤ 26 ∧ c = .int roof ∧ 1 ≤ roof ∧ roof ≤ 1000000 ∧
  ∀ (H' : Hp) (D : Addr) (F : List Ln), Same H H' → RwN K H' D F → (∀ f ∈ F, SetB roof 10000 f) → F.length ≤ 60 → Q (.ref D) H'
theorem c__law_some_settings (T : Top K mg C_Trade C_Dial) : Cal P w K mg base 2 "_law_some_settings" (spSomeSet K) [] := by
  obtain ⟨f, fd, F, df⟩ := T.d__law_some_settings
  refine cal_of F df (fn3 F sc__law_some_settings fun cdv A outer s H a b c Q E hr h => ?_) fun _ _ _ _ _ _ us hl => match us, hl with | [_, _, _], _ => rfl
  have nd := sc__law_some_settings.nd
  obtain ⟨p, A1, xs, S, roof, rfl, hb, rfl, hA, hx, ch, ne, bd, lS, rfl, r0, r1, k⟩ := h
  refine ⟨_, (pss_cons 
      (ps_set (i := 3) nd rfl (Or.inl rfl) (pe_c (c__law_joints T) hr (by decide) (by rfl) (pa_cons (pv 1) (pa_cons (pv 2) pa_nil)))) (pss_cons 
      (ps_for PassesOwn.never rfl (pi_range1 (by rfl) T.range (pa_cons pe_int pa_nil)) (pg_name (i := 4) nd rfl (Or.inl rfl)) (pss_cons 
      (ps_set (i := 6) nd rfl (Or.inl rfl) (pe_op op_addU pe_int (pe_c (c__law_draw T) hr (by decide) (by rfl) (pa_cons (pv 0) (pa_cons pe_int pa_nil))))) (pss_one 
      (ps_expr (pe_bm PySem.F.plainAttrs_list PySem.F.slot_list_append PySem.F.type_list_append mt_append (pv 3) (pa_cons (pe_tup (pa_cons (pe_c (c__law_draw T) hr (by decide) (by rfl) (pa_cons (pv 0) (pa_cons (pe_op op_addU (pe_op op_mul (pe_callB (call_min2 rfl) (by rfl) T.min (by decide +kernel) (pa_cons (pv 2) (pa_cons pe_int pa_nil))) (pv 6)) pe_int) pa_nil))) (pa_cons (pv 6) pa_nil))) pa_nil)))))) (pss_cons 
      (ps_set (i := 5) nd rfl (Or.inl rfl) (pe_op op_addU pe_int (pe_c (c__law_draw T) hr (by decide) (by rfl) (pa_cons (pv 0) (pa_cons pe_int pa_nil))))) (pss_cons 
      (ps_expr (pe_bm PySem.F.plainAttrs_list PySem.F.slot_list_append PySem.F.type_list_append mt_append (pv 3) (pa_cons (pe_tup (pa_cons (pe_op op_sub (pe_op op_mul (pv 2) (pv 5)) (pe_c (c__law_draw T) hr (by decide) (by rfl) (pa_cons (pv 0) (pa_cons (pe_callB (call_min2 rfl) (by rfl) T.min (by decide +kernel) (pa_cons (pe_op op_mul (pv 2) (pv 5)) (pa_cons pe_int pa_nil))) pa_nil)))) (pa_cons (pv 5) pa_nil))) pa_nil))) (pss_cons 
      (ps_set (i := 3) nd rfl (Or.inl rfl) (pe_op op_addU (pv 3) (pe_lst (pa_cons (pe_tup (pa_cons pe_int (pa_cons (pv 5) pa_nil))) (pa_cons (pe_tup (pa_cons (pe_op op_mul (pv 2) (pv 5)) (pa_cons (pv 5) pa_nil))) (pa_cons (pe_tup (pa_cons (pe_op op_mul (pe_ix (ix_K (K := K) rfl) (pe_ix (ix_K (K := K) rfl) (pv 3) (pe_un un_neg pe_int) (fun _ _ => rfl)) pe_int (fun _ _ => rfl)) (pv 5)) (pa_cons (pe_op op_mul (pe_ix (ix_K (K := K) rfl) (pe_ix (ix_K (K := K) rfl) (pv 3) (pe_un un_neg pe_int) (fun _ _ => rfl)) pe_int (fun _ _ => rfl)) (pv 5)) pa_nil))) pa_nil)))))) (pss_one 
      (ps_ret (pv 3)))))))), ?_⟩
  refine ⟨_, rfl, _, rfl, _, _, rfl, A1, xs, S, roof, rfl, hA, hx, ch, ne, bd, lS, rfl, r0, r1, fun H1 D F0 e1 nD w1 b1 l1 l2 => ?_⟩
  refine ⟨4, rfl, by decide, by decide, for_it walk_range (fun i σ H' => Same H H' ∧ (∃ F, RwN K H' D F ∧ (∀ f ∈ F, SetB roof 1000 f) ∧ F.length ≤ 30 + i ∧ 2 ≤ F.length) ∧ ∃ y4 y6, σ = [some (.ref p), some (.ref A1), some (.int roof), some (.ref D), y4, none, y6]) ⟨e1, ⟨F0, w1, b1, l1, l2⟩, _, _, rfl⟩ (fun _ _ _ _ _ => trivial) ?_ ?_⟩
  · rintro i x σ H2 H3 hi ⟨e, ⟨F, ⟨us, hD, hu⟩, all, lF, l2F⟩, y4, y6, rfl⟩ ⟨rfl, rfl⟩
    have hb2 := hb.mono e
    have hi : i < 4 := hi
    have lu := hu.len
    rw [List.length_map] at lu
    refine ⟨_, rfl, _, _, rfl, p, 7, rfl, rfl, hb2, by decide, small_log (by decide) (by decide), fun d d0 d1 => .inl ⟨_, _, rfl, rfl, ?_⟩⟩
    refine ⟨_, rfl, .inl ⟨rfl, _, SqL.of hD⟩, ?_⟩
    have m0 : 1 ≤ (if (5 : Int) < roof then 5 else roof) ∧ (if (5 : Int) < roof then 5 else roof) ≤ 5 ∧ (if (5 : Int) < roof then 5 else roof) ≤ roof := by
      split <;> omega
    refine ⟨_, rfl, _, rfl, _, _, rfl, ?_⟩
    generalize (if (5 : Int) < roof then 5 else roof) = m at m0 ⊢
    have mul1 := Int.mul_le_mul m0.2.1 (show 1 + d ≤ 7 by omega) (by omega) (by decide)
    have mul0 := Int.mul_nonneg (show 0 ≤ m by omega) (show 0 ≤ 1 + d by omega)
    have mul2 := Int.mul_le_mul_of_nonneg_right m0.2.2 (show 0 ≤ 1 + d by omega)
    refine ⟨_, rfl, _, _, rfl, rfl, .inl ⟨by omega, by omega⟩, .inl ⟨_, _, rfl, rfl, _, _, rfl, p, _, rfl, rfl, hb2, by omega, small_log (by omega) (by omega), fun z z0 z1 => ?_⟩⟩
    refine ⟨_, rfl, Nat.le_of_ble_eq_true rfl, fun n nn => ?_⟩
    have e5 := grow (o := .tup [.int z, .int (1 + d)]) nn
    have hD5 := e5 _ _ hD
    refine ⟨D, us, _, rfl, rfl, hD5, size5 (by omega), ?_⟩
    refine ⟨same_mut (e.trans e5) nD, ⟨F ++ [(z, 1 + d)], ⟨us ++ [.ref n], upd_same, ?_⟩, fun f hf => ?_, by rw [List.length_append]; show F.length + 1 ≤ _; omega, by rw [List.length_append]; omega⟩, _, _, rfl⟩
    · have nD2 : n ≠ D := fun z => by
        rw [z, hD] at nn
        cases nn
      rw [List.map_append]
      exact ((hu.mono e5).upd hD5).snoc ⟨n, rfl, SqT.of (by rw [upd_ne nD2, upd_same]; rfl)⟩
    · rcases List.mem_append.mp hf with hf | hf
      · exact all f hf
      · rw [List.mem_singleton.mp hf]
        exact ⟨z0, by show 0 < 1 + d; omega, by show z ≤ roof * (1 + d); omega, by show 1 + d ≤ 1000; omega⟩
  · rintro σ H2 ⟨e, ⟨F, ⟨us, hD, hu⟩, all, lF, l2F⟩, y4, y6, rfl⟩
    have hb2 := hb.mono e
    have lF : F.length ≤ 34 := lF
    have lu := hu.len
    rw [List.length_map] at lu
    refine ⟨_, rfl, _, _, rfl, p, 3, rfl, rfl, hb2, by decide, small_log (by decide) (by decide), fun d d0 d1 => .inl ⟨_, _, rfl, rfl, ?_⟩⟩
    refine ⟨_, rfl, .inl ⟨rfl, _, SqL.of hD⟩, ?_⟩
    have d2 : 1 ≤ 1 + d ∧ 1 + d ≤ 3 := by omega
    have q0 := Int.mul_le_mul r1 d2.2 (by omega) (by decide)
    have q1 := Int.mul_le_mul r0 d2.1 (by decide) (by omega)
    have m0 : 1 ≤ (if (9 : Int) < roof * (1 + d) then 9 else roof * (1 + d)) ∧ (if (9 : Int) < roof * (1 + d) then 9 else roof * (1 + d)) ≤ 9 ∧ (if (9 : Int) < roof * (1 + d) then 9 else roof * (1 + d)) ≤ roof * (1 + d) := by
      split <;> omega
    refine ⟨_, rfl, _, rfl, _, _, rfl, rfl, .inl ⟨by omega, by omega⟩, _, rfl, _, rfl, _, rfl, _, _, rfl, rfl, .inl ⟨by omega, by omega⟩, _, _, rfl, ?_⟩
    refine ⟨_, _, rfl, p, _, rfl, rfl, hb2, Int.lt_of_lt_of_le Int.zero_lt_one m0.1, small_log (Int.le_trans (by decide) m0.1) (Int.le_trans m0.2.1 (by decide)), fun z z0 z1 => ⟨_, _, rfl, rfl, _, rfl, Nat.le_of_ble_eq_true rfl, fun n nn => ?_⟩⟩
    have z1 : z < roof * (1 + d) := Int.lt_of_lt_of_le z1 m0.2.2
    have e5 := grow (o := .tup [.int (roof * (1 + d) - z), .int (1 + d)]) nn
    have hD5 := e5 _ _ hD
    refine ⟨D, us, _, rfl, rfl, hD5, size5 (by omega), ?_⟩
    have nD2 : n ≠ D := fun z => by
      rw [z, hD] at nn
      cases nn
    have e6 := same_mut (o := .lst (us ++ [.ref n])) (e.trans e5) nD
    have hD6 := upd_same (H := upd H2 n (.tup [.int (roof * (1 + d) - z), .int (1 + d)])) (a := D) (o := .lst (us ++ [.ref n]))
    have w6 : RowsV K (upd (upd H2 n (.tup [.int (roof * (1 + d) - z), .int (1 + d)])) D (.lst (us ++ [.ref n]))) (us ++ [.ref n]) ((F ++ [(roof * (1 + d) - z, (1 + d))]).map tol) := by
      rw [List.map_append]
      exact ((hu.mono e5).upd hD5).snoc ⟨n, rfl, SqT.of (by rw [upd_ne nD2, upd_same]; rfl)⟩
    have all6 : ∀ f ∈ F ++ [(roof * (1 + d) - z, (1 + d))], SetB roof 1000 f := fun f hf => by
      rcases List.mem_append.mp hf with hf | hf
      · exact all f hf
      · rw [List.mem_singleton.mp hf]
        exact ⟨by show 0 ≤ roof * (1 + d) - z; omega, by show 0 < (1 + d); omega, by show roof * (1 + d) - z ≤ roof * (1 + d); omega, by show (1 + d) ≤ 1000; omega⟩
    have lu6 : (us ++ [V.ref n]).length = (F ++ [(roof * (1 + d) - z, (1 + d))]).length := by rw [List.length_append, List.length_append, lu]; rfl
    have l6 : (F ++ [(roof * (1 + d) - z, (1 + d))]).length ≤ 35 ∧ 3 ≤ (F ++ [(roof * (1 + d) - z, (1 + d))]).length := by
      rw [List.length_append]
      exact ⟨Nat.succ_le_succ lF, Nat.succ_le_succ l2F⟩
    generalize upd (upd H2 n _) D _ = H6 at e6 hD6 w6 ⊢
    generalize us ++ [V.ref n] = us6 at hD6 w6 lu6 ⊢
    generalize F ++ [(roof * (1 + d) - z, (1 + d))] = F6 at w6 all6 lu6 l6
    obtain ⟨x6, g6, a6⟩ : ∃ x, us6[us6.length - 2]? = some x ∧ atI us6 (-2) = some x := by
      have lt : us6.length - 2 < us6.length := by omega
      refine ⟨us6[us6.length - 2], List.getElem?_eq_getElem lt, ?_⟩
      unfold atI
      rw [show ixN us6.length (-2) = some (us6.length - 2) from ix_end (k := 2) (by omega) (by decide)]
      exact List.getElem?_eq_getElem lt
    obtain ⟨f6, gf6, ⟨U6, rfl, sU6⟩⟩ := line_get w6 g6
    have sb6 := all6 f6 (List.mem_of_getElem? gf6)
    have bb6 := sb6.bd r0 r1 (by decide)
    obtain ⟨y1, y2, y3, y4⟩ := sb6
    refine ⟨_, rfl, _, rfl, Nat.le_of_ble_eq_true rfl, fun t1 nt1 => ?_⟩
    have f1 := grow (o := .tup [.int 0, .int (1 + d)]) nt1
    refine ⟨_, rfl, _, rfl, _, _, rfl, rfl, .inl ⟨by omega, by omega⟩, _, rfl, Nat.le_of_ble_eq_true rfl, fun t2 nt2 => ?_⟩
    have f2 := grow (o := .tup [.int (roof * (1 + d)), .int (1 + d)]) nt2
    have f12 := f1.trans f2
    have w12 := w6.mono f12
    have hD8 := f12 _ _ hD6
    have sU8 := same_tup f12 sU6
    have p0 := Int.mul_le_mul bb6.2.1 d2.2 (by omega) (by decide)
    have p1 := Int.mul_le_mul bb6.2.2.2 d2.2 (by omega) (by decide)
    refine ⟨_, rfl, _, rfl, .inl ⟨D, _, _, _, rfl, rfl, SqL.of hD8, a6, .inr (.inl ⟨U6, _, _, _, rfl, rfl, sU8, at0, _, rfl, _, _, rfl, rfl, .inr ⟨by omega, by omega⟩, ?_⟩)⟩⟩
    refine ⟨_, rfl, _, rfl, .inl ⟨D, _, _, _, rfl, rfl, SqL.of hD8, a6, .inr (.inl ⟨U6, _, _, _, rfl, rfl, sU8, at1, _, rfl, _, _, rfl, rfl, .inr ⟨by omega, by omega⟩, Nat.le_of_ble_eq_true rfl, fun t3 nt3 => ?_⟩)⟩⟩
    have f3 := grow (o := .tup [.int (f6.1 * (1 + d)), .int (f6.2 * (1 + d))]) nt3
    refine ⟨Nat.le_of_ble_eq_true rfl, fun L nL => ?_⟩
    have f4 := grow (o := .lst [.ref t1, .ref t2, .ref t3]) nL
    have hD9 := f4 _ _ (f3 _ _ hD8)
    refine .inr (.inr ⟨D, L, _, _, rfl, rfl, hD9, upd_same, size5' (by show us6.length + 3 ≤ _; omega), fun c nc => ?_⟩)
    have f5 := grow (o := .lst (us6 ++ [.ref t1, .ref t2, .ref t3])) nc
    have f35 := f3.trans (f4.trans f5)
    refine ⟨_, rfl, k _ c (F6 ++ [(0, 1 + d), (roof * (1 + d), 1 + d), (f6.1 * (1 + d), f6.2 * (1 + d))]) (e6.trans (f12.trans f35)) ⟨_, upd_same, ?_⟩ (fun f hf => ?_) (by rw [List.length_append]; show F6.length + 3 ≤ 60; omega)⟩
    · rw [List.map_append]
      refine (w12.mono f35).app ?_
      have q1 : TupI K _ (.ref t1) (tol (0, 1 + d)) := ⟨t1, rfl, SqT.of ((f2.trans f35) _ _ upd_same)⟩
      have q2 : TupI K _ (.ref t2) (tol (roof * (1 + d), 1 + d)) := ⟨t2, rfl, SqT.of (f35 _ _ upd_same)⟩
      have q3 : TupI K _ (.ref t3) (tol (f6.1 * (1 + d), f6.2 * (1 + d))) := ⟨t3, rfl, SqT.of ((f4.trans f5) _ _ upd_same)⟩
      exact .cons q1.dp (.cons q2.dp (.cons q3.dp .nil))
    · rcases List.mem_append.mp hf with hf | hf
      · obtain ⟨b1, b2, b3, b4⟩ := all6 f hf
        exact ⟨b1, b2, b3, by omega⟩
      · rcases List.mem_cons.mp hf with rfl | hf
        · exact ⟨by show (0 : Int) ≤ 0; decide, by show 0 < 1 + d; omega, by show 0 ≤ roof * (1 + d); omega, by show 1 + d ≤ 10000; omega⟩
        · rcases List.mem_cons.mp hf with rfl | hf
          · exact ⟨by show 0 ≤ roof * (1 + d); omega, by show 0 < 1 + d; omega, Int.le_refl _, by show 1 + d ≤ 10000; omega⟩
          · rw [List.mem_singleton.mp hf]
            have m1 := Int.mul_nonneg y1 (show 0 ≤ 1 + d by omega)
            have m2 := Int.mul_pos y2 (show 0 < 1 + d by omega)
            have m3 := Int.mul_le_mul_of_nonneg_right y3 (show 0 ≤ 1 + d by omega)
            have m4 := Int.mul_le_mul y4 d2.2 (by omega) (by decide)
            exact ⟨m1, m2, by show f6.1 * (1 + d) ≤ roof * (f6.2 * (1 + d)); rw [← Int.mul_assoc]; exact m3, by show f6.2 * (1 + d) ≤ 10000; omega⟩

end
end Fb

set_option Elab.async false
set_option linter.all false
set_option maxRecDepth 100000
set_option maxHeartbeats 4000000
namespace Fb
open PySem PySem.Spec L2
open PyProof.Rows hiding St
open C8 (Cal Met Mak Def cal0 met0 mak0 pe_c pe_mk pe_mt pe_mt0 fnScope fnBody fnArgs pss_cut tCut)
local macro_rules | `(tactic| walk_at "hp") => `(tactic| first | exact upd_same | assumption | (refine grow (by assumption) _ _ ?_; walk_at "hp") | (refine (show Same _ _ by assumption) _ _ ?_; walk_at "hp"))
local macro_rules | `(tactic| walk_at "sm") => `(tactic| first | exact Same.refl _ | assumption | (refine Same.trans ?_ (grow (by assumption)); walk_at "sm") | (refine Same.trans ?_ (show Same _ _ by assumption); walk_at "sm"))
section
variable {P : Program} {w : World} {K : PySem.W.Frag} {mg : Str → Option Value} {base : Heap}
variable {C_Trade C_Dial : Addr}
/-! ### is_name -/
def spIsName (K : PySem.W.Frag) : Sp := sp1 fun a H Q => AnyV K H a ∧ Then H Q (.bl (nameB a))
theorem ok_is_name (T : Top K mg C_Trade C_Dial) {f : Addr} {fd : FuncData} (F : Def K mg "is_name" s_is_name f fd) : FnOk P w K mg base C8.CX0 1 f fd ["value"] (spIsName K) := by
  refine fn1 F sc_is_name fun cdv A outer s H a Q E hr h => ?_
  have nd := sc_is_name.nd
  obtain ⟨ha, q⟩ := h
  refine ⟨_, (pss_cons 
      (ps_if (PW.pt (pw_or (pt_not (pt_val (pe_callB (isi_K (K := K) rfl) (by rfl) T.isinstance (by decide +kernel) (pa_cons (pv 0) (pa_cons (pe_bltn (v := .ty "str") (by rfl) T.str (by decide +kernel) rfl) pa_nil))))) (pw_or1 (pt_not (pt_chain op_leU op_leU pe_int (pe_callB (len_K (K := K) rfl) (by rfl) T.len (by decide +kernel) (pa_cons (pv 0) pa_nil)) (C8.pe_gc (v := .int 8) (by rfl) T.m_LETTERS)))))) (pss_one 
      (ps_ret pe_bl)) pss_nil) (pss_one 
      (ps_ret (pe_callB (all_K (K := K) rfl rfl) (by rfl) T.all (by decide +kernel) (pa_cons (pe_lc (own := [("letter", 1)]) rfl nd (pi_K (K := K) rfl (pv 0)) (blkOk_by (N := ["value", "letter"]) (sc := fnScope s_is_name) (by decide +kernel)) (fun _ _ _ _ _ => (pg_name (i := 1) nd rfl (Or.inl rfl))) (fun _ _ _ _ _ => pts_nil) (fun _ _ _ _ _ => (pe_chain op_leU op_leU pe_str (pv 1) pe_str))) pa_nil))))), ?_⟩
  rcases ha.strOr with ⟨z, rfl, hz⟩ | ⟨no, t, ty, kb⟩
  · refine ⟨_, rfl, .inl ⟨_, _, _, true, rfl, .base (.str z), by decide +kernel, _, rfl, ?_⟩⟩
    -- not 1 <= len(value) <= LETTERS
    refine iteF ⟨_, rfl, .inr ⟨z, rfl, size5' hz, .inl ⟨_, _, rfl, rfl, _, rfl, ite2 (fun h1 => ?_) (fun h1 => ?_)⟩⟩⟩
    · refine .inl ⟨_, _, rfl, rfl, _, rfl, ?_⟩
      by_cases h8 : (z.length : Int) ≤ 8
      · rw [decide_eq_true h8]
        refine iteF ?_
        -- all([..])
        refine ⟨_, rfl, .inr (.inr ⟨z, rfl, fun D hD => ?_⟩)⟩
        refine lc_map walk_str (fun i => .bl (letC (z.cps.toList.getD i 0))) ?_ (by show z.length ≤ 100000; exact hz) hD (fun _ _ => trivial) ?_ ?_
        · rintro i H x H' ⟨rfl, _⟩
          exact Same.refl _
        · rintro i x H1 H2 hi e ⟨rfl, c, hc, rfl⟩ R k
          have ec : z.cps.toList.getD i 0 = c := by
            rw [List.getD_eq_getElem?_getD, Array.getElem?_toList, hc]
            rfl
          have f97 : decide ((("a" : Str).cps.toList) ≤ [c]) = true → True := fun _ => trivial
          refine ⟨rfl, _, rfl, .inr ⟨_, _, rfl, rfl, _, rfl, ?_⟩⟩
          have k := k H2 (Same.refl _)
          rw [ec] at k
          show (if (!decide (#[c].toList < #[97].toList)) = true then _ else _)
          rw [lt1]
          by_cases h97 : c < 97
          · rw [decide_eq_true h97]
            refine iteF ?_
            rw [show letC c = false by unfold letC; rw [decide_eq_false (by omega)]; rfl] at k
            exact k
          · rw [decide_eq_false h97]
            refine iteT (.inr ⟨_, _, rfl, rfl, ?_⟩)
            show R (.bl (!decide (#[122].toList < #[c].toList))) H2
            rw [lt1, show (!decide (122 < c)) = letC c by unfold letC; rw [decide_eq_true (show 97 ≤ c by omega), ← decide_not, Bool.true_and]; exact decide_eq_decide.mpr (by omega)]
            exact k
        · intro H1 e hd
          rw [str_len] at hd
          have hd := hd.trans (congrArg (fun l => some (HO.lst l)) (map_range_get 0 (fun c => V.bl (letC c)) z.cps.toList))
          refine ⟨D, z.cps.toList.map letC, rfl, SqL.of (by rw [hd, List.map_map]; rfl), ?_⟩
          have k := q H1 e
          rw [show nameB (.str z) = (z.cps.toList.map letC).all id by
            show (decide (1 ≤ z.length) && decide (z.length ≤ 8) && z.cps.toList.all letC) = _
            have h1 := of_decide_eq_true h1
            rw [decide_eq_true (show 1 ≤ z.length by omega), decide_eq_true (show z.length ≤ 8 by omega), List.all_map]
            rfl] at k
          exact k
      · rw [decide_eq_false h8]
        refine iteT ?_
        have k := q.here
        rw [show nameB (.str z) = false by
          show (decide (1 ≤ z.length) && decide (z.length ≤ 8) && z.cps.toList.all letC) = _
          rw [decide_eq_false (show ¬ z.length ≤ 8 by omega), Bool.and_false, Bool.false_and]] at k
        exact k
    · refine ⟨_, rfl, iteT ?_⟩
      have h1 : ¬ (1 : Int) ≤ z.length := fun e => h1 (decide_eq_true e)
      have k := q.here
      rw [show nameB (.str z) = false by
        show (decide (1 ≤ z.length) && decide (z.length ≤ 8) && z.cps.toList.all letC) = _
        rw [decide_eq_false (show ¬ 1 ≤ z.length by omega), Bool.false_and, Bool.false_and]] at k
      exact k
  · refine ⟨_, rfl, .inl ⟨_, _, _, false, rfl, ty, kb, _, rfl, ?_⟩⟩
    have := q.here
    rw [nameB_no no] at this
    exact this

theorem c_is_name (T : Top K mg C_Trade C_Dial) : Cal P w K mg base 1 "is_name" (spIsName K) [] := by
  obtain ⟨f, fd, F, df⟩ := T.d_is_name
  exact cal_of F df (ok_is_name T F) fun _ _ _ _ _ _ us hl => match us, hl with | [_], _ => rfl

end
end Fb

set_option Elab.async false
set_option linter.all false
set_option maxRecDepth 100000
set_option maxHeartbeats 4000000
namespace Fb
open PySem PySem.Spec L2
open PyProof.Rows hiding St
open C8 (Cal Met Mak Def cal0 met0 mak0 pe_c pe_mk pe_mt pe_mt0 fnScope fnBody fnArgs pss_cut tCut)
local macro_rules | `(tactic| walk_at "hp") => `(tactic| first | exact upd_same | assumption | (refine grow (by assumption) _ _ ?_; walk_at "hp") | (refine (show Same _ _ by assumption) _ _ ?_; walk_at "hp"))
local macro_rules | `(tactic| walk_at "sm") => `(tactic| first | exact Same.refl _ | assumption | (refine Same.trans ?_ (grow (by assumption)); walk_at "sm") | (refine Same.trans ?_ (show Same _ _ by assumption); walk_at "sm"))
section
variable {P : Program} {w : World} {K : PySem.W.Frag} {mg : Str → Option Value} {base : Heap}
variable {C_Trade C_Dial : Addr}
/-! ### Trade.__init__ -/
def spTrade (C : Addr) : Sp := sp2 fun a b H Q => ∃ (p dx q : Addr) (s1 s2 : Str), a = .ref p ∧ H p = some (.ins C dx []) ∧ b = .ref q ∧ H q = some (.tup [.str s1, .str s2]) ∧ NmS s1 ∧ NmS s2 ∧ s1 ≠ s2 ∧
  ∀ H' : Hp, (∀ c o, H c = some o → c ≠ p → H' c = some o) → TradeW C H' p → Q .non H'
theorem c_Trade___init__ (T : Top K mg C_Trade C_Dial) : MakS P w K mg base 2 "Trade" C_Trade (spRest (spTrade C_Trade)) := by
  obtain ⟨f, fd, me, F, df⟩ := T.d_Trade___init__
  refine mkS_of me T.g_Trade F df (fun _ _ _ _ _ _ us rest h => StX.bind_star1 (B := fun us => bindArgs _ ⟨us, []⟩) (fun _ => rfl) (fun _ _ _ => rfl) us rest h) sc_Trade___init__ ?_
  rintro cdv A outer s H vs Q E hr ⟨a, b, rfl, p, dx, q, s1, s2, rfl, hp, rfl, hq, n1, n2, ne, k⟩
  have nd := sc_Trade___init__.nd
  refine ⟨_, (pss_cons 
      (ps_if (pt_not (pt_chain op_leU op_leU pe_int (pe_callB (len_K (K := K) rfl) (by rfl) T.len (by decide +kernel) (pa_cons (pv 1) pa_nil)) pe_int)) (pss_one 
      ps_never) pss_nil) (pss_cons 
      (ps_for PassesOwn.never rfl (pi_K (K := K) rfl (pv 1)) (pg_name (i := 2) nd rfl (Or.inl rfl)) (pss_one 
      (ps_if (pt_not (pt_val (pe_c (c_is_name T) hr (by decide) (by rfl) (pa_cons (pv 2) pa_nil)))) (pss_one 
      ps_never) pss_nil))) (pss_cons 
      (ps_for PassesOwn.never rfl (pi_enumT (K := K) rfl (by rfl) T.enumerate (pa_cons (pv 1) pa_nil)) (tup_K (K := K) (n := 2) rfl rfl (pgs_cons (pg_name (i := 3) nd rfl (Or.inl rfl)) (pgs_cons (pg_name (i := 2) nd rfl (Or.inl rfl)) pgs_nil))) (pss_one 
      (ps_if (pt_cmpR (in_K (K := K) rfl) (pv 2) (pe_slice (slT_K (K := K) rfl) (pv 1) po_none (po_some (pv 3))) (by with_unfolding_all rfl)) (pss_one 
      ps_never) pss_nil))) (pss_cons 
      (ps_fld (pv 0) (pe_callTy (listOf_K (K := K) rfl) (by rfl) T.list (by decide +kernel) (pa_cons (pv 1) pa_nil)) rfl) (pss_one 
      (ps_fld (pv 0) (pe_tup (pa_cons (pe_op (op_repT_K (K := K) rfl) (pe_tup (pa_cons pe_int pa_nil)) (pe_callB (len_K (K := K) rfl) (by rfl) T.len (by decide +kernel) (pa_cons (pv 1) pa_nil))) pa_nil)) rfl)))))), ?_⟩
  refine ⟨_, rfl, .inl ⟨q, _, rfl, .inr (SqT.of hq), .inl ⟨_, _, rfl, rfl, _, rfl, ?_⟩⟩⟩
  refine iteT (.inl ⟨_, _, rfl, rfl, _, rfl, iteF ?_⟩)
  refine ⟨_, rfl, .inr (.inl ⟨q, rfl, ⟨_, SqT.of hq⟩, ?_⟩)⟩
  refine for_it (walk_tup (xs := [.str s1, .str s2])) (fun i σ H' => Same H H' ∧ ∃ y2, σ = [some (.ref p), some (.ref q), y2, none]) ⟨Same.refl _, _, rfl⟩ (fun i σ H' _ ⟨e, _⟩ => same_tup e (SqT.of hq)) ?_ ?_
  · rintro i x σ H1 H2 hi ⟨e, y2, rfl⟩ ⟨rfl, g⟩
    have nx : ∃ z : Str, x = .str z ∧ z.length ≤ 100000 ∧ nameB x = true := by
      rcases i with _ | _ | i
      · cases g
        exact ⟨_, rfl, Nat.le_trans n1.len (by decide), n1⟩
      · cases g
        exact ⟨_, rfl, Nat.le_trans n2.len (by decide), n2⟩
      · cases g
    obtain ⟨z, rfl, lz, nz⟩ := nx
    refine ⟨_, rfl, _, rfl, any_str lz, fun H3 e3 => ⟨_, rfl, ?_⟩⟩
    rw [nz]
    exact iteF ⟨e.trans e3, _, rfl⟩
  rintro σ H1 ⟨e1, y2, rfl⟩
  have hq1 := e1 _ _ hq
  refine ⟨_, rfl, q, _, rfl, SqT.of hq1, ?_⟩
  refine for_it (walk_enumT (xs := [.str s1, .str s2])) (fun i σ H' => Same H1 H' ∧ ∃ y2 y3, σ = [some (.ref p), some (.ref q), y2, y3]) ⟨Same.refl _, _, _, rfl⟩ (fun i σ H' _ ⟨e, _⟩ => same_tup e (SqT.of hq1)) ?_ ?_
  · rintro i x σ H2 H3 hi ⟨e, y2, y3, rfl⟩ ⟨U, x1, x2, rfl, nU, rfl, g1, g2⟩
    cases g1
    refine ⟨U, _, rfl, SqT.of upd_same, rfl, _, _, rfl, _, _, rfl, rfl, ?_⟩
    have e2 := e.trans (grow (o := .tup [.int (i : Nat), x2]) nU)
    refine ⟨_, rfl, _, rfl, _, rfl, _, rfl, q, _, rfl, SqT.of (e2 _ _ hq1), ?_, fun c nc => .inr ⟨c, _, rfl, .inr (SqT.of upd_same), ?_⟩⟩
    · rcases i with _ | _ | i
      · show ¬ (HT.sIx 2 0 none = 0 ∧ HT.sIx 2 2 (some ((0 : Nat) : Int)) = 2)
        decide
      · show ¬ (HT.sIx 2 0 none = 0 ∧ HT.sIx 2 2 (some ((0 + 1 : Nat) : Int)) = 2)
        decide
      · cases g2
    · rcases i with _ | _ | i
      · cases g2
        exact ⟨rfl, rfl, _, rfl, iteF ⟨e2.trans (grow nc), _, _, rfl⟩⟩
      · cases g2
        refine ⟨rfl, rfl, _, rfl, ?_⟩
        rw [show inV (.str s2) (cutV [.str s1, .str s2] none (some ((0 + 1 : Nat) : Int))) = false from by rw [show cutV [.str s1, .str s2] none (some ((0 + 1 : Nat) : Int)) = [s1].map V.str from rfl, inV_strT]; exact decide_eq_false fun m => ne (List.mem_singleton.mp m).symm]
        exact iteF ⟨e2.trans (grow nc), _, _, rfl⟩
      · cases g2
  rintro σ H2 ⟨e2, y2, y3, rfl⟩
  have hq2 := e2 _ _ hq1
  have hp2 := e2 _ _ (e1 _ _ hp)
  refine ⟨_, rfl, q, _, rfl, .inr (SqT.of hq2), fun l nl => ?_⟩
  have npl : p ≠ l := fun z => by
    rw [← z, hp2] at nl
    cases nl
  have npq : p ≠ q := fun z => by
    rw [z, hq] at hp
    cases hp
  refine ⟨_, rfl, p, C_Trade, dx, _, rfl, (grow nl) _ _ hp2, T.cl_Trade, T.na_Trade__wishes, (by show 0 < 1000; decide), ?_⟩
  have hq3 : upd (upd H2 l (.lst [.str s1, .str s2])) p (.ins C_Trade dx (putF "_wishes" (.ref l) [])) q = some (.tup [.str s1, .str s2]) := by
    rw [upd_ne npq.symm]
    exact (grow nl) _ _ hq2
  refine ⟨Nat.le_of_ble_eq_true rfl, fun t nt => ⟨_, rfl, .inl ⟨q, _, rfl, .inr (SqT.of ((grow nt) _ _ hq3)), ?_⟩⟩⟩
  refine ⟨t, _, _, rfl, rfl, SqT.of upd_same, (by decide), (by show (2 : Int) ≤ ((2 : Nat) : Int); decide), (by show ((2 : Nat) : Int) ≤ 1000; decide), (by decide), fun u nu => ⟨Nat.le_of_ble_eq_true rfl, fun v nv => ?_⟩⟩
  have hp5 := (grow (o := .tup [.ref u]) nv) _ _ ((grow (o := .tup (List.replicate (2 : Int).toNat [V.int 0]).flatten) nu) _ _ ((grow (o := .tup [.int 0]) nt) _ _ (upd_same (H := upd H2 l (.lst [.str s1, .str s2])) (a := p) (o := .ins C_Trade dx (putF "_wishes" (.ref l) [])))))
  refine ⟨_, rfl, p, C_Trade, dx, _, rfl, hp5, T.cl_Trade, T.na_Trade_stay, (by show 1 < 1000; decide), ?_⟩
  refine k _ (fun c o e nc => ?_) ⟨dx, _, upd_same, two_no (by decide +kernel) (by decide +kernel), two_no (by decide +kernel) (by decide +kernel)⟩
  rw [upd_ne nc]
  refine (grow nv) _ _ ((grow nu) _ _ ((grow nt) _ _ ?_))
  rw [upd_ne nc]
  exact (grow nl) _ _ (e2 _ _ (e1 _ _ e))

end
end Fb

set_option Elab.async false
set_option linter.all false
set_option maxRecDepth 100000
set_option maxHeartbeats 4000000
namespace Fb
open PySem PySem.Spec L2
open PyProof.Rows hiding St
open C8 (Cal Met Mak Def cal0 met0 mak0 pe_c pe_mk pe_mt pe_mt0 fnScope fnBody fnArgs pss_cut tCut)
local macro_rules | `(tactic| walk_at "hp") => `(tactic| first | exact upd_same | assumption | (refine grow (by assumption) _ _ ?_; walk_at "hp") | (refine (show Same _ _ by assumption) _ _ ?_; walk_at "hp"))
local macro_rules | `(tactic| walk_at "sm") => `(tactic| first | exact Same.refl _ | assumption | (refine Same.trans ?_ (grow (by assumption)); walk_at "sm") | (refine Same.trans ?_ (show Same _ _ by assumption); walk_at "sm"))
section
variable {P : Program} {w : World} {K : PySem.W.Frag} {mg : Str → Option Value} {base : Heap}
variable {C_Trade C_Dial : Addr}
/-! ### is_number -/
def spIsNumber (K : PySem.W.Frag) : Sp := sp3 fun a b c H Q => ∃ (l : Int) (h : Option Int), AnyV K H a ∧ b = .int l ∧ c = (match h with | none => .non | some m => .int m) ∧ Q (.bl (numB a l h)) H
theorem ok_is_number (T : Top K mg C_Trade C_Dial) {f : Addr} {fd : FuncData} (F : Def K mg "is_number" s_is_number f fd) : FnOk P w K mg base C8.CX0 1 f fd ["value", "least", "most"] (spIsNumber K) := by
  refine fn3 F sc_is_number fun cdv A outer s H a b c Q E hr h => ?_
  have nd := sc_is_number.nd
  obtain ⟨l, h, ha, rfl, rfl, q⟩ := h
  refine ⟨_, (pss_cons 
      (ps_if (PW.pt (pw_or (pt_not (pt_val (pe_callB (isi_K (K := K) rfl) (by rfl) T.isinstance (by decide +kernel) (pa_cons (pv 0) (pa_cons (pe_bltn (v := .ty "int") (by rfl) T.int (by decide +kernel) rfl) pa_nil))))) (pw_or1 (pt_val (pe_callB (isi_K (K := K) rfl) (by rfl) T.isinstance (by decide +kernel) (pa_cons (pv 0) (pa_cons (pe_bltn (v := .ty "bool") (by rfl) T.bool (by decide +kernel) rfl) pa_nil))))))) (pss_one 
      (ps_ret pe_bl)) pss_nil) (pss_one 
      (ps_ret (pe_and (pe_cmpR op_geU (pv 0) (pv 1) (nomark _)) (pe_one (pe_or (pe_cmpR op_isN (pv 2) pe_non (nomark _)) (pe_one (pe_cmpR op_leU (pv 0) (pv 2) (nomark _))))))))), ?_⟩
  rcases ha.intOr with ⟨i, rfl⟩ | ⟨b, rfl⟩ | ⟨no, t, ty, kb⟩
  · refine ⟨_, rfl, .inl ⟨_, _, _, true, rfl, .base (.int i), by decide +kernel, _, rfl, iteF ?_⟩⟩
    refine ⟨_, rfl, .inl ⟨_, _, _, false, rfl, .base (.int i), by decide +kernel, _, rfl, iteF ?_⟩⟩
    refine ⟨_, rfl, _, rfl, _, _, rfl, rfl, _, rfl, ite2 (fun e => ?_) (fun e => ?_)⟩
    · have e := of_decide_eq_true e
      cases h with
      | none =>
        refine ⟨_, rfl, rfl, _, rfl, iteT ?_⟩
        rw [show numB (.int i) l none = true by show (decide (l ≤ i) && true) = true; rw [decide_eq_true e]; rfl] at q
        exact q
      | some m =>
        refine ⟨_, rfl, rfl, _, rfl, iteF ⟨_, rfl, _, rfl, .inl ⟨_, _, rfl, rfl, ?_⟩⟩⟩
        rw [show numB (.int i) l (some m) = decide (i ≤ m) by show (decide (l ≤ i) && _) = _; rw [decide_eq_true e, Bool.true_and]] at q
        exact q
    · rw [show numB (.int i) l h = false by show (decide (l ≤ i) && _) = _; rw [decide_eq_false (fun z => e (decide_eq_true z)), Bool.false_and]] at q
      exact q
  · refine ⟨_, rfl, .inl ⟨_, _, _, true, rfl, .base (.bl b), by decide +kernel, _, rfl, iteF ?_⟩⟩
    exact ⟨_, rfl, .inl ⟨_, _, _, true, rfl, .base (.bl b), by decide +kernel, _, rfl, iteT q⟩⟩
  · rw [numB_no no] at q
    exact ⟨_, rfl, .inl ⟨_, _, _, false, rfl, ty, kb, _, rfl, iteT q⟩⟩

theorem c_is_number_2 (T : Top K mg C_Trade C_Dial) : Cal P w K mg base 1 "is_number" (spIsNumber K) [.non] := by
  obtain ⟨f, fd, F, D⟩ := T.d_is_number
  obtain ⟨ds, r, b⟩ := dfl_binds (ps := ["value", "least", "most"]) F D (by intro h; cases h) 2 1 rfl fun _ _ _ _ _ _ _ us its l1 l2 => match us, its, l1, l2 with | [_, _], [_, _], _, _ => ⟨_, rfl, rfl⟩
  exact ⟨f, fd, _, ds, ok_is_number T F, F.mgf, F.kp, b, r⟩
theorem c_is_number_3 (T : Top K mg C_Trade C_Dial) : Cal P w K mg base 1 "is_number" (spIsNumber K) [] := by
  obtain ⟨f, fd, F, D⟩ := T.d_is_number
  obtain ⟨ds, r, b⟩ := dfl_binds (ps := ["value", "least", "most"]) F D (by intro h; cases h) 3 2 rfl fun _ _ _ _ _ _ _ us its l1 l2 => match us, its, l1, l2 with | [_, _, _], [_, _], _, _ => ⟨_, rfl, rfl⟩
  exact ⟨f, fd, _, ds, ok_is_number T F, F.mgf, F.kp, b, r⟩

end
end Fb

set_option Elab.async false
set_option linter.all false
set_option maxRecDepth 100000
set_option maxHeartbeats 4000000
namespace Fb
open PySem PySem.Spec L2
open PyProof.Rows hiding St
open C8 (Cal Met Mak Def cal0 met0 mak0 pe_c pe_mk pe_mt pe_mt0 fnScope fnBody fnArgs pss_cut tCut)
local macro_rules | `(tactic| walk_at "hp") => `(tactic| first | exact upd_same | assumption | (refine grow (by assumption) _ _ ?_; walk_at "hp") | (refine (show Same _ _ by assumption) _ _ ?_; walk_at "hp"))
local macro_rules | `(tactic| walk_at "sm") => `(tactic| first | exact Same.refl _ | assumption | (refine Same.trans ?_ (grow (by assumption)); walk_at "sm") | (refine Same.trans ?_ (show Same _ _ by assumption); walk_at "sm"))
section
variable {P : Program} {w : World} {K : PySem.W.Frag} {mg : Str → Option Value} {base : Heap}
variable {C_Trade C_Dial : Addr}
/-! ### Dial.__init__ -/
def spDial (C : Addr) : Sp := sp4 fun a b c d H Q => ∃ (p dx : Addr) (top : Int) (s1 s2 : Str), a = .ref p ∧ H p = some (.ins C dx []) ∧ b = .str s1 ∧ c = .str s2 ∧ NmS s1 ∧ NmS s2 ∧ d = .int top ∧ 1 ≤ top ∧ top ≤ 1000000 ∧
  ∀ H' : Hp, (∀ c o, H c = some o → c ≠ p → H' c = some o) → DialW C H' p top → Q .non H'
theorem c_Dial___init__ (T : Top K mg C_Trade C_Dial) : Mak P w K mg base 2 "Dial" C_Dial (spDial C_Dial) [] := by
  obtain ⟨f, fd, me, F, df⟩ := T.d_Dial___init__
  refine ⟨f, fd, ["self", "wish", "slope", "top"], [], me, ?_, T.g_Dial, F.binds df fun _ _ _ _ _ _ us hl => match us, hl with | [_, _, _, _], _ => rfl, .nil⟩
  refine fm4 F sc_Dial___init__ fun cdv A outer s H a b c d Q E hr h => ?_
  have nd := sc_Dial___init__.nd
  obtain ⟨p, dx, top, s1, s2, rfl, hp, rfl, rfl, n1, n2, rfl, d0, d1, k⟩ := h
  refine ⟨_, (pss_cons 
      (ps_if (pt_not (pt_val (pe_c (c_is_name T) hr (by decide) (by rfl) (pa_cons (pv 1) pa_nil)))) (pss_one 
      ps_never) pss_nil) (pss_cons 
      (ps_if (pt_not (pt_val (pe_c (c_is_name T) hr (by decide) (by rfl) (pa_cons (pv 2) pa_nil)))) (pss_one 
      ps_never) pss_nil) (pss_cons 
      (ps_if (pt_not (pt_val (pe_c (c_is_number_3 T) hr (by decide) (by rfl) (pa_cons (pv 3) (pa_cons pe_int (pa_cons (C8.pe_gc (v := .int 1000000) (by rfl) T.m_MOST) pa_nil)))))) (pss_one 
      ps_never) pss_nil) (pss_cons 
      (ps_fld (pv 0) (pv 1) rfl) (pss_cons 
      (ps_fld (pv 0) (pv 2) rfl) (pss_cons 
      (ps_fld (pv 0) (pv 3) rfl) (pss_one 
      (ps_fld (pv 0) (pe_tup (pa_cons (pe_tup (pa_cons pe_int (pa_cons pe_int pa_nil))) pa_nil)) rfl)))))))), ?_⟩
  refine ⟨_, rfl, _, rfl, any_str (Nat.le_trans n1.len (by decide)), fun H1 e1 => ⟨_, rfl, ?_⟩⟩
  rw [n1]
  refine iteF ?_
  refine ⟨_, rfl, _, rfl, any_str (Nat.le_trans n2.len (by decide)), fun H2 e2 => ⟨_, rfl, ?_⟩⟩
  rw [n2]
  refine iteF ?_
  refine ⟨_, rfl, _, _, _, rfl, 1, some 1000000, any_int _, rfl, rfl, _, rfl, ?_⟩
  rw [show numB (.int top) 1 (some 1000000) = true by show (decide ((1 : Int) ≤ top) && decide (top ≤ 1000000)) = true; rw [decide_eq_true (by omega), decide_eq_true (by omega)]; rfl]
  refine iteF ?_
  have e3 := e1.trans e2
  refine ⟨_, rfl, _, rfl, p, C_Dial, dx, _, rfl, e3 _ _ hp, T.cl_Dial, T.na_Dial_wish, (by show 0 < 1000; decide), ?_⟩
  refine ⟨_, rfl, _, rfl, p, C_Dial, dx, _, rfl, upd_same, T.cl_Dial, T.na_Dial_slope, (by show 1 < 1000; decide), ?_⟩
  rw [upd_upd]
  refine ⟨_, rfl, _, rfl, p, C_Dial, dx, _, rfl, upd_same, T.cl_Dial, T.na_Dial_top, (by show 2 < 1000; decide), ?_⟩
  rw [upd_upd]
  refine ⟨Nat.le_of_ble_eq_true rfl, fun t nt => ⟨Nat.le_of_ble_eq_true rfl, fun t2 nt2 => ?_⟩⟩
  have npt : p ≠ t := fun e => by
    rw [← e, upd_same] at nt
    cases nt
  have npt2 : p ≠ t2 := fun e => by
    rw [← e, upd_ne npt, upd_same] at nt2
    cases nt2
  refine ⟨_, rfl, p, C_Dial, dx, _, rfl, (by rw [upd_ne npt2, upd_ne npt]; exact upd_same), T.cl_Dial, T.na_Dial_stay, (by show 3 < 1000; decide), ?_⟩
  refine k _ (fun c o e nc => ?_) ⟨dx, t2, s1, s2, upd_same⟩
  have h2 := e3 _ _ e
  have h3 : upd H2 p (.ins C_Dial dx (putF "top" (.int top) (putF "slope" (.str s2) (putF "wish" (.str s1) [])))) c = some o := by
    rw [upd_ne nc]
    exact h2
  rw [upd_ne nc]
  exact (grow nt2) _ _ ((grow nt) _ _ h3)

end
end Fb

set_option Elab.async false
set_option linter.all false
set_option maxRecDepth 100000
set_option maxHeartbeats 4000000
namespace Fb
open PySem PySem.Spec L2
open PyProof.Rows hiding St
open C8 (Cal Met Mak Def cal0 met0 mak0 pe_c pe_mk pe_mt pe_mt0 fnScope fnBody fnArgs pss_cut tCut)
local macro_rules | `(tactic| walk_at "hp") => `(tactic| first | exact upd_same | assumption | (refine grow (by assumption) _ _ ?_; walk_at "hp") | (refine (show Same _ _ by assumption) _ _ ?_; walk_at "hp"))
local macro_rules | `(tactic| walk_at "sm") => `(tactic| first | exact Same.refl _ | assumption | (refine Same.trans ?_ (grow (by assumption)); walk_at "sm") | (refine Same.trans ?_ (show Same _ _ by assumption); walk_at "sm"))
section
variable {P : Program} {w : World} {K : PySem.W.Frag} {mg : Str → Option Value} {base : Heap}
variable {C_Trade C_Dial : Addr}
/-! ### _law_thin -/
def spLThin (K : PySem.W.Frag) : Sp := sp1 fun a H Q => ∃ (R : Addr) (xs : List V) (ls : List (List Int)) (n : Nat), a = .ref R ∧ (SqL K H R xs ∨ SqT K H R xs) ∧ RowsV K H xs ls ∧ (∀ l ∈ ls, l.length = n) ∧ 0 < n ∧ n ≤ 1000 ∧ ls.length < 64 ∧
  ∀ (H' : Hp) (D : Addr) (ys : List V), Same H H' → H' D = some (.tup ys) → RowsV K H' ys (thinM ls) → Q (.ref D) H'
theorem c__law_thin (T : Top K mg C_Trade C_Dial) : Cal P w K mg base 1 "_law_thin" (spLThin K) [] := by
  obtain ⟨f, fd, F, df⟩ := T.d__law_thin
  refine cal_of F df (fn1 F sc__law_thin fun cdv A outer s H a Q E hr h => ?_) fun _ _ _ _ _ _ us hl => match us, hl with | [_], _ => rfl
  have nd := sc__law_thin.nd
  obtain ⟨R, xs, ls, n, rfl, hs, hx, hn, n0, n1, hl, k⟩ := h
  refine ⟨_, (pss_cons 
      (ps_set (i := 1) nd rfl (Or.inr rfl) (pe_callB (cr_sortK (K := K) (w := w) rfl rfl rfl (room_set2 hr)) (by rfl) T.sorted (by decide +kernel) (pa_cons (pe_callTy (cr_setKB (K := K) (w := w) rfl rfl rfl (room_set2 hr)) (by rfl) T.set (by decide +kernel) (pa_cons (pv 0) pa_nil)) pa_nil))) (pss_one 
      (ps_ret (pe_callTy (tupleOf_K (K := K) rfl) (by rfl) T.tuple (by decide +kernel) (pa_cons (pe_lc (own := [("x", 2)]) rfl nd (pi_K (K := K) rfl (pv 1)) (blkOk_by (N := ["rows_y", "kept", "x", "y", "p", "q"]) (sc := fnScope s__law_thin) (by decide +kernel)) (fun _ _ _ _ _ => (pg_name (i := 2) nd rfl (by first | exact Or.inr rfl | exact Or.inl rfl))) (fun _ _ _ _ _ => (pts_one (pt_not (pt_val (pe_callB (any_K (K := K) rfl rfl) (by rfl) T.any (by decide +kernel) (pa_cons (pe_lc (own := [("y", 3)]) rfl nd (pi_K (K := K) rfl (pv 1)) (blkOk_by (by kernel_rfl)) (fun _ _ _ _ _ => (pg_name (i := 3) nd rfl (Or.inl rfl))) (fun _ _ _ _ _ => pts_nil) (fun _ _ _ _ _ => (pe_and (pe_cmpR (ne_K (K := K) rfl hr) (pv 3) (pv 2) (nomark _)) (pe_one (pe_callB (all_K (K := K) rfl rfl) (by rfl) T.all (by decide +kernel) (pa_cons (pe_lc (own := [("p", 4), ("q", 5)]) rfl nd (zip_K (K := K) rfl (by rfl) T.zip (pa_cons (pv 3) (pa_cons (pv 2) pa_nil))) (blkOk_by (by kernel_rfl)) (fun _ _ _ _ _ => (tup_K (K := K) (n := 2) rfl rfl (pgs_cons (pg_name (i := 4) nd rfl (Or.inl rfl)) (pgs_cons (pg_name (i := 5) nd rfl (Or.inl rfl)) pgs_nil)))) (fun _ _ _ _ _ => pts_nil) (fun _ _ _ _ _ => (pe_cmpR op_leU (pv 4) (pv 5) (nomark _)))) pa_nil)))))) pa_nil)))))) (fun _ _ _ _ _ => (pv 2))) pa_nil))))), ?_⟩
  obtain ⟨rs, rfl, rfl, hr2⟩ := rows_ents hx
  refine ⟨_, rfl, R, rs.map fun r => (r.1, intK r.2), rfl, (by rw [List.map_map]; exact hs), (fun p m => by
    obtain ⟨r, mr, rfl⟩ := List.mem_map.mp m
    exact key_int (hr2 r mr)), (by rw [List.length_map] at hl ⊢; exact hl), fun a L na sub all nd2 => ?_⟩
  have g1 := grow (o := SetKO w a L) na
  refine ⟨a, L, rfl, upd_same, (fun p m => by
    obtain ⟨r, mr, rfl⟩ := List.mem_map.mp (sub p m)
    exact (key_int (hr2 r mr)).same g1), ?_, ?_, fun M c pm nc => ?_⟩
  · intro d hd e he
    obtain ⟨p, mp, rfl⟩ := List.mem_map.mp hd
    obtain ⟨q, mq, rfl⟩ := List.mem_map.mp he
    obtain ⟨r, _, rfl⟩ := List.mem_map.mp (sub p mp)
    obtain ⟨r', _, rfl⟩ := List.mem_map.mp (sub q mq)
    show PySem.W.alike (intK r.2).data (intK r'.2).data = true
    rw [data_int, data_int]
    exact PySem.W.alike_ints _ _
  · refine .inl fun d hd => ?_
    obtain ⟨p, mp, rfl⟩ := List.mem_map.mp hd
    obtain ⟨r, mr, rfl⟩ := List.mem_map.mp (sub p mp)
    have zr := hn r.2 (List.mem_map_of_mem mr)
    show ∃ x t, (intK r.2).data = .tuple (x :: t)
    rw [data_int]
    cases e : r.2 with
    | nil =>
      rw [e] at zr
      exact absurd zr.symm (by show ¬ n = 0; omega)
    | cons x t => exact ⟨_, _, rfl⟩
  obtain ⟨ss, es, hss, pw, nds, mem⟩ := kept_of intK int_inj sub all nd2 pm
  have g2 := g1.trans (grow (o := .lst ((sortK entD M).map fun p => V.ref p.1)) nc)
  have hc := upd_same (H := upd H a (SetKO w a L)) (a := c) (o := .lst ((sortK entD M).map fun p => V.ref p.1))
  generalize upd (upd H a (SetKO w a L)) c _ = H1 at g2 hc
  have ev : (sortK entD M).map (fun p => V.ref p.1) = ss.map fun r => V.ref r.1 := by
    rw [es, List.map_map]
    rfl
  rw [ev] at hc
  have hS : ∀ r ∈ ss, SqT K H1 r.1 (r.2.map V.int) := fun r m => same_tup g2 (hr2 r (hss r m))
  have hL : ∀ r ∈ ss, r.2.length = n := fun r m => hn r.2 (List.mem_map_of_mem (hss r m))
  have lss : ss.length ≤ 100000 := by
    have h1 := (List.mergeSort_perm M (PySem.W.dataLe false entD)).length_eq
    rw [show M.mergeSort (PySem.W.dataLe false entD) = ss.map (fun r => ((r.1, intK r.2) : Ent)) from es, List.length_map, pm.length_eq] at h1
    have h2 : (L.map Prod.snd).length ≤ ((rs.map fun r => ((r.1, intK r.2) : Ent)).map Prod.snd).length := nodup_len nd2 fun x m => by
      obtain ⟨p, mp, rfl⟩ := List.mem_map.mp m
      exact List.mem_map_of_mem (sub p mp)
    rw [List.length_map, List.length_map, List.length_map] at h2
    rw [List.length_map] at hl
    omega
  have fin : thinM (rs.map Prod.snd) = (ss.filter fun r => !(ss.any fun y => !(decide (y.2 = r.2)) && leM y.2 r.2)).map Prod.snd := by
    rw [minF_pairs]
    refine thin_is hn (pw.imp fun {a b} h => ?_) nds mem
    have h : (!PySem.W.dataLt (intK b).data (intK a).data) = true := h
    rw [data_int, data_int] at h
    exact h
  have gs : ∀ {i : Nat} {v : V}, (ss.map fun r => V.ref r.1)[i]? = some v → v = .ref (ss.getD i (0, [])).1 ∧ ss.getD i (0, []) ∈ ss := fun {i v} g => by
    rw [List.getElem?_map] at g
    cases gr : ss[i]? with
    | none =>
      rw [gr] at g
      cases g
    | some r =>
      rw [gr] at g
      cases g
      rw [show ss.getD i (0, []) = r from getD_of gr]
      exact ⟨rfl, List.mem_of_getElem? gr⟩
  have lm : (ss.map fun r => V.ref r.1).length = ss.length := List.length_map ..
  have dz : ∀ l : List Int, (rowD l).depth = 1 := fun l => by
    show PyData.depthAll _ + 1 = 1
    rw [PySem.W.depth_ints]
  refine ⟨_, rfl, .inl ⟨c, rfl, ⟨_, SqL.of hc⟩, fun D hD => ?_⟩⟩
  refine lc_filt (walk_list (xs := ss.map fun r => V.ref r.1)) (fun i => !(ss.any fun y => !(decide (y.2 = (ss.getD i (0, [])).2)) && leM y.2 (ss.getD i (0, [])).2)) (fun i => V.ref (ss.getD i (0, [])).1) grow_at (by omega) hD (fun H e => SqL.of (e _ _ hc)) ?_ ?_
  · rintro i x G1 G2 hi e ⟨rfl, g⟩ F0 R0 yes no
    obtain ⟨rfl, mr⟩ := gs g
    generalize ss.getD i (0, []) = r at mr yes no
    have e1 := hS r mr
    refine ⟨rfl, _, rfl, .inl ⟨c, rfl, ⟨_, SqL.of (e _ _ hc)⟩, fun D2 hD2 => ?_⟩⟩
    refine lc_map (walk_list (xs := ss.map fun r => V.ref r.1)) (fun j => .bl (!(decide ((ss.getD j (0, [])).2 = r.2)) && leM (ss.getD j (0, [])).2 r.2)) grow_at (by omega) hD2 (fun H e2 => SqL.of (e2 _ _ (e _ _ hc))) ?_ ?_
    · rintro j y G3 G4 hj e2 ⟨rfl, g2⟩ W kk
      obtain ⟨rfl, mu⟩ := gs g2
      generalize ss.getD j (0, []) = u at mu kk
      have e3 := e.trans e2
      have hu := same_tup e3 (hS u mu)
      have hr3 := same_tup e3 e1
      have zu := hL u mu
      have zr := hL r mr
      refine ⟨rfl, _, rfl, _, rfl, .inr ⟨rowD u.2, rowD r.2, TupI.dp ⟨u.1, rfl, hu⟩, TupI.dp ⟨r.1, rfl, hr3⟩, by rw [dz, dz]; decide, ?_⟩⟩
      rw [eqv_row]
      by_cases eq : u.2 = r.2
      · rw [decide_eq_true eq] at kk ⊢
        exact ⟨_, rfl, iteF (kk _ (Same.refl _))⟩
      · rw [decide_eq_false eq] at kk ⊢
        refine ⟨_, rfl, iteT ⟨_, rfl, _, rfl, _, _, _, _, rfl, .inr ⟨hu, hr3, fun D3 hD3 => ?_⟩⟩⟩
        refine lc_map (walk_zipT (n := n) (by rw [List.length_map, List.length_map, zu, zr, Nat.min_self])) (fun m => .bl (decide (u.2.getD m 0 ≤ r.2.getD m 0))) grow_pair (by omega) hD3 (fun H e4 => ⟨same_tup e4 hu, same_tup e4 hr3⟩) ?_ ?_
        · rintro m z G5 G6 hm e4 ⟨U, x1, x2, rfl, nU, rfl, g3, g4⟩ W2 kk2
          obtain ⟨i1, g5, rfl⟩ := int_get g3
          obtain ⟨i2, g6, rfl⟩ := int_get g4
          rw [getD_of g5, getD_of g6] at kk2
          exact ⟨U, [_, _], rfl, SqT.of upd_same, rfl, _, [_], rfl, _, [], rfl, rfl, rfl, _, rfl, _, rfl, .inl ⟨_, _, rfl, rfl, kk2 _ (Same.refl _)⟩⟩
        · intro H5 e5 hd5
          refine ⟨D3, (List.range n).map fun m => decide (u.2.getD m 0 ≤ r.2.getD m 0), rfl, SqL.of (by rw [hd5, List.map_map]; rfl), ?_⟩
          have el : ((List.range n).map fun m => decide (u.2.getD m 0 ≤ r.2.getD m 0)).all id = leM u.2 r.2 := by
            unfold leM
            rw [List.all_map, zu]
            rfl
          rw [el]
          exact kk _ e5
    · intro H5 e5 hd5
      refine ⟨D2, (List.range (ss.map fun r => V.ref r.1).length).map fun j => !(decide ((ss.getD j (0, [])).2 = r.2)) && leM (ss.getD j (0, [])).2 r.2, rfl, SqL.of (by rw [hd5, List.map_map]; rfl), ?_⟩
      have el : ((List.range (ss.map fun r => V.ref r.1).length).map fun j => !(decide ((ss.getD j (0, [])).2 = r.2)) && leM (ss.getD j (0, [])).2 r.2).any id = ss.any fun y => !(decide (y.2 = r.2)) && leM y.2 r.2 := by
        rw [lm, map_range_get (0, []) (fun y : Addr × List Int => !(decide (y.2 = r.2)) && leM y.2 r.2) ss, List.any_map]
        rfl
      rw [el]
      refine ⟨_, rfl, ?_⟩
      cases a : ss.any fun y => !(decide (y.2 = r.2)) && leM y.2 r.2 with
      | true =>
        rw [a] at no
        exact no _ e5 rfl
      | false =>
        rw [a] at yes
        exact ⟨_, rfl, yes _ e5 rfl⟩
  · intro H5 e5 hd5
    have ef : ((List.range (ss.map fun r => V.ref r.1).length).filter fun i => !(ss.any fun y => !(decide (y.2 = (ss.getD i (0, [])).2)) && leM y.2 (ss.getD i (0, [])).2)).map (fun i => V.ref (ss.getD i (0, [])).1) = (ss.filter fun r => !(ss.any fun y => !(decide (y.2 = r.2)) && leM y.2 r.2)).map fun r => V.ref r.1 := by
      rw [lm]
      exact filt_range (0, []) (fun r : Addr × List Int => !(ss.any fun y => !(decide (y.2 = r.2)) && leM y.2 r.2)) (fun r => V.ref r.1) ss
    rw [ef] at hd5
    refine ⟨D, _, rfl, .inl ⟨SqL.of hd5, fun q nq => k _ q _ (g2.trans (e5.trans (grow nq))) upd_same ?_⟩⟩
    rw [fin]
    exact ents_rows fun r m => same_tup (e5.trans (grow nq)) (hS r ((List.mem_filter.mp m).1))

end
end Fb

set_option Elab.async false
set_option linter.all false
set_option maxRecDepth 100000
set_option maxHeartbeats 4000000
namespace Fb
open PySem PySem.Spec L2
open PyProof.Rows hiding St
open C8 (Cal Met Mak Def cal0 met0 mak0 pe_c pe_mk pe_mt pe_mt0 fnScope fnBody fnArgs pss_cut tCut)
local macro_rules | `(tactic| walk_at "hp") => `(tactic| first | exact upd_same | assumption | (refine grow (by assumption) _ _ ?_; walk_at "hp") | (refine (show Same _ _ by assumption) _ _ ?_; walk_at "hp"))
local macro_rules | `(tactic| walk_at "sm") => `(tactic| first | exact Same.refl _ | assumption | (refine Same.trans ?_ (grow (by assumption)); walk_at "sm") | (refine Same.trans ?_ (show Same _ _ by assumption); walk_at "sm"))
section
variable {P : Program} {w : World} {K : PySem.W.Frag} {mg : Str → Option Value} {base : Heap}
variable {C_Trade C_Dial : Addr}
/-! ### _law_span -/
def spSpan (K : PySem.W.Frag) : Sp := sp3 fun a b c H Q => ∃ (t : Ln) (R : Addr) (xs : List V) (rays : List Ln) (roof : Int), TupI K H a (tol t) ∧ b = .ref R ∧ SqL K H R xs ∧ RowsV K H xs (rays.map tol) ∧ c = .int roof ∧ BdR t ∧ (∀ r ∈ rays, BdR r) ∧
  ∀ (H' : Hp) (S L M : Addr), Same H H' → H' S = some (.tup [.ref L, .ref M]) → H' L = some (.tup [.int (spanM t rays roof).1.1, .int (spanM t rays roof).1.2]) → H' M = some (.tup [.int (spanM t rays roof).2.1, .int (spanM t rays roof).2.2]) → Q (.ref S) H'
theorem c__law_span (T : Top K mg C_Trade C_Dial) : Cal P w K mg base 1 "_law_span" (spSpan K) [] := by
  obtain ⟨f, fd, F, df⟩ := T.d__law_span
  refine cal_of F df (fn3 F sc__law_span fun cdv A outer s H a b c Q E hr h => ?_) fun _ _ _ _ _ _ us hl => match us, hl with | [_, _, _], _ => rfl
  have nd := sc__law_span.nd
  obtain ⟨t, R, xs, rays, roof, ⟨A1, rfl, hA⟩, rfl, hs, hx, rfl, ⟨t1, t2, t3, t4⟩, bd, k⟩ := h
  have lx := hx.len
  rw [List.length_map] at lx
  refine ⟨_, (pss_cons 
      (ps_par (i := 3) (j := 4) rfl nd rfl rfl (by decide) rfl rfl (pa_cons (pe_tup (pa_cons pe_int (pa_cons pe_int pa_nil))) (pa_cons (pe_tup (pa_cons (pv 2) (pa_cons pe_int pa_nil))) pa_nil)) (by rfl)) (pss_cons 
      (ps_for PassesOwn.never rfl (pi_K (K := K) rfl (pv 1)) (tup_K (K := K) (n := 2) rfl rfl (pgs_cons (pg_name (i := 5) nd rfl (Or.inl rfl)) (pgs_cons (pg_name (i := 6) nd rfl (Or.inl rfl)) pgs_nil))) (pss_one 
      (ps_if (pt_cmpR op_gtU (pv 6) (pe_ix (ix_K (K := K) rfl) (pv 0) pe_int (fun _ _ => rfl)) (nomark _)) (pss_one 
      (ps_if (pt_cmpR op_gtU (pe_op op_mul (pe_op op_sub (pe_ix (ix_K (K := K) rfl) (pv 0) pe_int (fun _ _ => rfl)) (pv 5)) (pe_ix (ix_K (K := K) rfl) (pv 3) pe_int (fun _ _ => rfl))) (pe_op op_mul (pe_ix (ix_K (K := K) rfl) (pv 3) pe_int (fun _ _ => rfl)) (pe_op op_sub (pv 6) (pe_ix (ix_K (K := K) rfl) (pv 0) pe_int (fun _ _ => rfl)))) (nomark _)) (pss_one 
      (ps_set (i := 3) nd rfl (Or.inl rfl) (pe_tup (pa_cons (pe_op op_sub (pe_ix (ix_K (K := K) rfl) (pv 0) pe_int (fun _ _ => rfl)) (pv 5)) (pa_cons (pe_op op_sub (pv 6) (pe_ix (ix_K (K := K) rfl) (pv 0) pe_int (fun _ _ => rfl))) pa_nil))))) pss_nil)) (pss_one 
      (ps_if (pt_cmpR (lt_K (K := K) rfl hr) (pv 6) (pe_ix (ix_K (K := K) rfl) (pv 0) pe_int (fun _ _ => rfl)) (nomark _)) (pss_one 
      (ps_if (pt_cmpR (lt_K (K := K) rfl hr) (pe_op op_mul (pe_op op_sub (pv 5) (pe_ix (ix_K (K := K) rfl) (pv 0) pe_int (fun _ _ => rfl))) (pe_ix (ix_K (K := K) rfl) (pv 4) pe_int (fun _ _ => rfl))) (pe_op op_mul (pe_ix (ix_K (K := K) rfl) (pv 4) pe_int (fun _ _ => rfl)) (pe_op op_sub (pe_ix (ix_K (K := K) rfl) (pv 0) pe_int (fun _ _ => rfl)) (pv 6))) (nomark _)) (pss_one 
      (ps_set (i := 4) nd rfl (Or.inl rfl) (pe_tup (pa_cons (pe_op op_sub (pv 5) (pe_ix (ix_K (K := K) rfl) (pv 0) pe_int (fun _ _ => rfl))) (pa_cons (pe_op op_sub (pe_ix (ix_K (K := K) rfl) (pv 0) pe_int (fun _ _ => rfl)) (pv 6)) pa_nil))))) pss_nil)) (pss_one 
      (ps_if (pt_cmpR (lt_K (K := K) rfl hr) (pv 5) (pe_ix (ix_K (K := K) rfl) (pv 0) pe_int (fun _ _ => rfl)) (nomark _)) (pss_one 
      (ps_set (i := 4) nd rfl (Or.inl rfl) (pe_tup (pa_cons (pe_un un_neg pe_int) (pa_cons pe_int pa_nil))))) pss_nil))))))) (pss_one 
      (ps_ret (pe_tup (pa_cons (pv 3) (pa_cons (pv 4) pa_nil))))))), ?_⟩
  refine ⟨Nat.le_of_ble_eq_true rfl, fun L0 nL0 => ⟨_, rfl, Nat.le_of_ble_eq_true rfl, fun M0 nM0 => ⟨_, _, rfl, ?_⟩⟩⟩
  have e0 := (grow (o := .tup [.int 0, .int 1]) nL0).trans (grow (o := .tup [.int roof, .int 1]) nM0)
  have hL0 := (grow (o := .tup [.int roof, .int 1]) nM0) _ _ (upd_same (H := H) (a := L0) (o := .tup [.int 0, .int 1]))
  refine ⟨_, rfl, .inl ⟨R, rfl, ⟨_, e0.seq hs⟩, ?_⟩⟩
  refine for_it (walk_list (xs := xs)) (fun i σ H' => Same H H' ∧ (∃ (s : Ln × Ln) (L M : Addr), s = (rays.take i).foldl (spanS t) ((0, 1), (roof, 1)) ∧ H' L = some (.tup [.int s.1.1, .int s.1.2]) ∧ H' M = some (.tup [.int s.2.1, .int s.2.2]) ∧ ∃ y5 y6, σ = [some (.ref A1), some (.ref R), some (.int roof), some (.ref L), some (.ref M), y5, y6]))
    ⟨e0, ((0, 1), (roof, 1)), L0, M0, rfl, hL0, upd_same, _, _, rfl⟩ (fun i σ H' _ ⟨e, _⟩ => e.seq hs) ?_ ?_
  · rintro i x σ H1 H2 hi ⟨e, s, L, M, es, hL, hM, y5, y6, rfl⟩ ⟨rfl, g⟩
    obtain ⟨u, gu, ⟨U, rfl, sU⟩⟩ := line_get (hx.mono e) g
    obtain ⟨u1, u2, u3, u4⟩ := bd u (List.mem_of_getElem? gu)
    have hA := same_tup e hA
    have step : (rays.take (i + 1)).foldl (spanS t) ((0, 1), (roof, 1)) = spanS t s u := by
      rw [take_fold (spanS t) _ _ i u gu, es]
    refine ⟨U, _, rfl, sU, rfl, _, _, rfl, _, _, rfl, rfl, ?_⟩
    refine ⟨_, rfl, _, rfl, .inr (.inl ⟨A1, _, _, _, rfl, rfl, hA, at1, _, _, rfl, rfl, _, rfl, ite2 (fun c1 => ?_) (fun c1 => ?_)⟩)⟩
    · have c1 := of_decide_eq_true c1
      refine ⟨_, rfl, .inr (.inl ⟨A1, _, _, _, rfl, rfl, hA, at0, _, rfl, _, _, rfl, rfl, ?_⟩)⟩
      refine ⟨_, rfl, .inr (.inl ⟨L, _, _, _, rfl, rfl, (SqT.of hL), at1, _, _, rfl, rfl, .inl ⟨by omega, by omega⟩, ?_⟩)⟩
      refine ⟨_, rfl, .inr (.inl ⟨L, _, _, _, rfl, rfl, (SqT.of hL), at0, _, rfl, _, rfl, .inr (.inl ⟨A1, _, _, _, rfl, rfl, hA, at1, _, _, rfl, rfl, ?_⟩)⟩)⟩
      refine ⟨_, _, rfl, rfl, .inr ⟨by omega, by omega⟩, _, _, rfl, rfl, _, rfl, ite2 (fun c2 => ?_) (fun c2 => ?_)⟩
      · have c2 := of_decide_eq_true c2
        refine ⟨_, rfl, .inr (.inl ⟨A1, _, _, _, rfl, rfl, hA, at0, _, rfl, _, _, rfl, rfl, ?_⟩)⟩
        refine ⟨_, rfl, _, rfl, .inr (.inl ⟨A1, _, _, _, rfl, rfl, hA, at1, _, _, rfl, rfl, Nat.le_of_ble_eq_true rfl, fun t0 nt => ?_⟩)⟩
        refine ⟨e.trans (grow nt), spanS t s u, t0, M, step.symm, ?_, ?_, _, _, rfl⟩
        · rw [upd_same]
          unfold spanS
          rw [if_pos c1, if_pos c2]
        · have := (grow (o := .tup [.int (t.1 - u.1), .int (u.2 - t.2)]) nt) _ _ hM
          unfold spanS
          rw [if_pos c1, if_pos c2]
          exact this
      · have c2 : ¬ s.1.1 * (u.2 - t.2) < (t.1 - u.1) * s.1.2 := fun z => c2 (decide_eq_true z)
        have es2 : spanS t s u = s := by
          unfold spanS
          rw [if_pos c1, if_neg c2]
        exact ⟨e, s, L, M, es2 ▸ step.symm, hL, hM, _, _, rfl⟩
    · have c1 : ¬ t.2 < u.2 := fun z => c1 (decide_eq_true z)
      refine ⟨_, rfl, _, rfl, .inr (.inl ⟨A1, _, _, _, rfl, rfl, hA, at1, .inl ⟨_, _, rfl, rfl, _, rfl, ite2 (fun c2 => ?_) (fun c2 => ?_)⟩⟩)⟩
      · have c2 := of_decide_eq_true c2
        refine ⟨_, rfl, _, rfl, .inr (.inl ⟨A1, _, _, _, rfl, rfl, hA, at0, _, _, rfl, rfl, ?_⟩)⟩
        refine ⟨_, rfl, .inr (.inl ⟨M, _, _, _, rfl, rfl, (SqT.of hM), at1, _, _, rfl, rfl, .inl ⟨by omega, by omega⟩, ?_⟩)⟩
        refine ⟨_, rfl, .inr (.inl ⟨M, _, _, _, rfl, rfl, (SqT.of hM), at0, _, rfl, .inr (.inl ⟨A1, _, _, _, rfl, rfl, hA, at1, _, rfl, _, _, rfl, rfl, ?_⟩)⟩)⟩
        refine ⟨_, _, rfl, rfl, .inr ⟨by omega, by omega⟩, .inl ⟨_, _, rfl, rfl, _, rfl, ite2 (fun c3 => ?_) (fun c3 => ?_)⟩⟩
        · have c3 := of_decide_eq_true c3
          refine ⟨_, rfl, _, rfl, .inr (.inl ⟨A1, _, _, _, rfl, rfl, hA, at0, _, _, rfl, rfl, ?_⟩)⟩
          refine ⟨_, rfl, .inr (.inl ⟨A1, _, _, _, rfl, rfl, hA, at1, _, rfl, _, _, rfl, rfl, Nat.le_of_ble_eq_true rfl, fun t0 nt => ?_⟩)⟩
          refine ⟨e.trans (grow nt), spanS t s u, L, t0, step.symm, ?_, ?_, _, _, rfl⟩
          · have := (grow (o := .tup [.int (u.1 - t.1), .int (t.2 - u.2)]) nt) _ _ hL
            unfold spanS
            rw [if_neg c1, if_pos c2, if_pos c3]
            exact this
          · rw [upd_same]
            unfold spanS
            rw [if_neg c1, if_pos c2, if_pos c3]
        · have c3 : ¬ (u.1 - t.1) * s.2.2 < s.2.1 * (t.2 - u.2) := fun z => c3 (decide_eq_true z)
          have es2 : spanS t s u = s := by
            unfold spanS
            rw [if_neg c1, if_pos c2, if_neg c3]
          exact ⟨e, s, L, M, es2 ▸ step.symm, hL, hM, _, _, rfl⟩
      · have c2 : ¬ u.2 < t.2 := fun z => c2 (decide_eq_true z)
        refine ⟨_, rfl, _, rfl, .inr (.inl ⟨A1, _, _, _, rfl, rfl, hA, at0, .inl ⟨_, _, rfl, rfl, _, rfl, ite2 (fun c3 => ?_) (fun c3 => ?_)⟩⟩)⟩
        · have c3 := of_decide_eq_true c3
          refine ⟨_, rfl, Nat.le_of_ble_eq_true rfl, fun t0 nt => ?_⟩
          refine ⟨e.trans (grow nt), spanS t s u, L, t0, step.symm, ?_, ?_, _, _, rfl⟩
          · have := (grow (o := .tup [.int (-1), .int 1]) nt) _ _ hL
            unfold spanS
            rw [if_neg c1, if_neg c2, if_pos c3]
            exact this
          · rw [upd_same]
            unfold spanS
            rw [if_neg c1, if_neg c2, if_pos c3]
        · have c3 : ¬ u.1 < t.1 := fun z => c3 (decide_eq_true z)
          have es2 : spanS t s u = s := by
            unfold spanS
            rw [if_neg c1, if_neg c2, if_neg c3]
          exact ⟨e, s, L, M, es2 ▸ step.symm, hL, hM, _, _, rfl⟩
  · rintro σ H1 ⟨e, s, L, M, es, hL, hM, y5, y6, rfl⟩
    have es : s = spanM t rays roof := by
      rw [es, lx, List.take_length]
      rfl
    subst es
    refine ⟨_, rfl, _, rfl, Nat.le_of_ble_eq_true rfl, fun S nS => ?_⟩
    exact k _ S L M (e.trans (grow nS)) upd_same ((grow nS) _ _ hL) ((grow nS) _ _ hM)

end
end Fb

set_option Elab.async false
set_option linter.all false
set_option maxRecDepth 100000
set_option maxHeartbeats 4000000
namespace Fb
open PySem PySem.Spec L2
open PyProof.Rows hiding St
open C8 (Cal Met Mak Def cal0 met0 mak0 pe_c pe_mk pe_mt pe_mt0 fnScope fnBody fnArgs pss_cut tCut)
local macro_rules | `(tactic| walk_at "hp") => `(tactic| first | exact upd_same | assumption | (refine grow (by assumption) _ _ ?_; walk_at "hp") | (refine (show Same _ _ by assumption) _ _ ?_; walk_at "hp"))
local macro_rules | `(tactic| walk_at "sm") => `(tactic| first | exact Same.refl _ | assumption | (refine Same.trans ?_ (grow (by assumption)); walk_at "sm") | (refine Same.trans ?_ (show Same _ _ by assumption); walk_at "sm"))
section
variable {P : Program} {w : World} {K : PySem.W.Frag} {mg : Str → Option Value} {base : Heap}
variable {C_Trade C_Dial : Addr}
/-! ### _law_lines -/
def qL : Str := (("_law_lines" : Str) ++ ".<locals>.") ++ "<lambda>"
/-- the def that makes a lambda: its code object at cL, the table of it at PL -/
structure TopL (K : PySem.W.Frag) (mg : Str → Option Value) (base : Heap) (cL PL : Addr) : Prop where
  dl : ∃ (f : Addr) (fd : FuncData), Def K mg "_law_lines" s__law_lines f fd ∧ fd.defaults = .none ∧ fd.code = .ref cL
  tb : LamX.TabB base mg cL PL
theorem fn2c {x : Str} {st : Stmt} {f : Addr} {fd : FuncData} {N : List Str} {k : Nat} {p1 p2 : Str} {cd : Value} {g : V → V → Hp → VK → Prop} (F : Def K mg x st f fd) (hcd : fd.code = cd) (S : FnScope N [p1, p2] (fnScope st))
    (body : ∀ (A : Around) (outer : List Env) (s : Shared) (H : Hp) (a b : V) (Q : VK) (E : XK), Room k (A.deeper (envOfC x (fnScope st) s.heap.objs.size f cd)) → g a b H Q →
      ∃ t, PSs (cxOf C8.CX0 P w K mg base N x (fnScope st) f cd A outer s H E).nox (fnBody st) t ∧ t { nx := fun _ H' => Q .non H', rt := Q } (start N [a, b]) H) : FnOk P w K mg base C8.CX0 (k + 1) f fd [p1, p2] (sp2 g) := by
  obtain ⟨oc, od, dV, kV, doc, pm, an, cdv, ct, osl, rfl, lk, hcd2⟩ := F.fn.ex
  have e : cdv = cd := hcd
  subst e
  refine fn_of lk hcd2 S ?_ fun A outer s H vs Q E hr hsp => ?_
  · rintro vs H Q E ⟨a, b, rfl, _⟩
    rfl
  · obtain ⟨a, b, rfl, h⟩ := hsp
    obtain ⟨t, h, q⟩ := body A outer s H a b Q E hr h
    exact ⟨t, h.nox, q⟩
theorem rows_split {H : Hp} : ∀ {ls : List (List Int)} {xs : List V}, RowsV K H xs ls → ∃ ks : List (Addr × List Int), xs = ks.map (fun p => V.ref p.1) ∧ ks.map Prod.snd = ls ∧ ∀ p ∈ ks, SqT K H p.1 (p.2.map V.int)
  | [], _, h => by
    cases h
    exact ⟨[], rfl, rfl, fun p hp => by cases hp⟩
  | l :: r, _, h => by
    have h : DpAll K H _ (rowD l :: r.map rowD) := h
    cases h with
    | cons a b =>
      obtain ⟨ks, h1, h2, h3⟩ := rows_split b
      obtain ⟨A, e, sA⟩ : TupI K H _ l := optD_tup a
      refine ⟨(A, l) :: ks, ?_, ?_, ?_⟩
      · rw [e, h1]
        rfl
      · rw [← h2]
        rfl
      · intro p hp
        rcases List.mem_cons.mp hp with rfl | hp
        · exact sA
        · exact h3 p hp
theorem rows_join {H : Hp} {ks : List (Addr × List Int)} (h : ∀ p ∈ ks, SqT K H p.1 (p.2.map V.int)) : RowsV K H (ks.map fun p => V.ref p.1) (ks.map Prod.snd) := by
  unfold RowsV
  rw [List.map_map]
  exact dpAll_map fun p hp => TupI.dp ⟨p.1, rfl, h p hp⟩
def unl (l : List Int) : Ln := (l.getD 0 0, l.getD 1 0)
theorem take_snoc {α : Type} {l : List α} {i : Nat} {x : α} (h : l[i]? = some x) : l.take (i + 1) = l.take i ++ [x] := by
  obtain ⟨lt, e⟩ := List.getElem?_eq_some_iff.mp h
  rw [← e, List.take_append_getElem]
theorem unl_tol (r : Ln) : unl (tol r) = r := rfl
theorem tol_unl {ls : List (List Int)} (h : ∀ l ∈ ls, ∃ r, l = tol r) : (ls.map unl).map tol = ls := by
  rw [List.map_map]
  refine (List.map_congr_left fun l hl => ?_).trans (List.map_id ls)
  obtain ⟨r, rfl⟩ := h l hl
  rfl
theorem span_bd {t : Ln} {rays : List Ln} {roof : Int} (ht : BdR t) (hb : ∀ r ∈ rays, BdR r) (h1 : 1 ≤ roof) (h2 : roof ≤ 1000000) :
    (-200000000 ≤ (spanM t rays roof).1.1 ∧ (spanM t rays roof).1.1 ≤ 200000000) ∧ (-200000000 ≤ (spanM t rays roof).2.1 ∧ (spanM t rays roof).2.1 ≤ 200000000) := by
  obtain ⟨t1, t2, t3, t4⟩ := ht
  refine fold_inv (fun s : Ln × Ln => (-200000000 ≤ s.1.1 ∧ s.1.1 ≤ 200000000) ∧ (-200000000 ≤ s.2.1 ∧ s.2.1 ≤ 200000000)) (spanS t) rays ((0, 1), (roof, 1)) ⟨⟨by show (-200000000 : Int) ≤ 0; decide, by show (0 : Int) ≤ 200000000; decide⟩, by show -200000000 ≤ roof; omega, by show roof ≤ 200000000; omega⟩ ?_
  rintro s u hu ⟨⟨a1, a2⟩, a3, a4⟩
  obtain ⟨u1, u2, u3, u4⟩ := hb u hu
  unfold spanS
  repeat' split
  all_goals (refine ⟨⟨?_, ?_⟩, ?_, ?_⟩ <;> first | assumption | (show _ ≤ _; dsimp only; omega))
def spLines (K : PySem.W.Frag) (PL : Addr) : Sp := sp2 fun a b H Q => ∃ (R : Addr) (xs : List V) (rays : List Ln) (roof : Int), a = .ref R ∧ (SqL K H R xs ∨ SqT K H R xs) ∧ RowsV K H xs (rays.map tol) ∧ (∀ r ∈ rays, BdH r) ∧ rays.length < 64 ∧ b = .int roof ∧ 1 ≤ roof ∧ roof ≤ 1000000 ∧
  LamX.Tabs [(PL, qL)] H ∧ ∀ (H' : Hp) (A : Addr) (ys : List V) (lns : List Ln), Same (noT H) H' → LamX.Tabs [(PL, qL)] H' → H' A = some (.tup ys) → RowsV K H' ys (lns.map tol) → LO roof rays lns → (Chn roof rays → lns = rays) → lns.length ≤ rays.length → Q (.ref A) H'
theorem c__law_lines {cL PL : Addr} (T : Top K mg C_Trade C_Dial) (L : TopL K mg base cL PL) : Cal P w K mg base 2 "_law_lines" (spLines K PL) [] := by
  obtain ⟨f, fd, F, df, hcd⟩ := L.dl
  refine cal_of F df (fn2c F hcd sc__law_lines fun A outer s H a b Q E hr h => ?_) fun _ _ _ _ _ _ us hl => match us, hl with | [_, _], _ => rfl
  have nd := sc__law_lines.nd
  obtain ⟨R, xs, rays, roof, rfl, hs, hx, bd, hl, rfl, r0, r1, tabs, k⟩ := h
  obtain ⟨ks, rfl, hks, sk⟩ := rows_split hx
  have lks : ks.length = rays.length := by
    have := congrArg List.length hks
    rw [List.length_map, List.length_map] at this
    exact this
  have isT : ∀ p ∈ ks, ∃ r ∈ rays, p.2 = tol r := fun p hp => by
    have : p.2 ∈ rays.map tol := by
      rw [← hks]
      exact List.mem_map_of_mem hp
    obtain ⟨r, hr2, e⟩ := List.mem_map.mp this
    exact ⟨r, hr2, e.symm⟩
  refine ⟨_, (pss_cons 
      (ps_set (i := 2) nd rfl (Or.inl rfl) (pe_callB (cr_sortK (K := K) (w := w) rfl rfl rfl (room_set2 hr)) (by rfl) T.sorted (by decide +kernel) (pa_cons (pe_callTy (cr_setKB (K := K) (w := w) rfl rfl rfl (room_set2 hr)) (by rfl) T.set (by decide +kernel) (pa_cons (pv 0) pa_nil)) pa_nil))) (pss_cons 
      (ps_set (i := 3) nd rfl (Or.inl rfl) (pe_lst pa_nil)) (pss_cons 
      (ps_for PassesOwn.never rfl (pi_K (K := K) rfl (pv 2)) (pg_name (i := 4) nd rfl (Or.inl rfl)) (pss_cons 
      (ps_asg (pe_c (c__law_span T) hr (by decide) (by rfl) (pa_cons (pv 4) (pa_cons (pv 2) (pa_cons (pv 1) pa_nil)))) (tup_K (K := K) (n := 2) rfl rfl (pgs_cons (pg_name (i := 5) nd rfl (Or.inl rfl)) (pgs_cons (pg_name (i := 6) nd rfl (Or.inl rfl)) pgs_nil)))) (pss_one 
      (ps_if (pt_cmpR (lt_K (K := K) rfl hr) (pe_op op_mul (pe_ix (ix_K (K := K) rfl) (pv 5) pe_int (fun _ _ => rfl)) (pe_ix (ix_K (K := K) rfl) (pv 6) pe_int (fun _ _ => rfl))) (pe_op op_mul (pe_ix (ix_K (K := K) rfl) (pv 6) pe_int (fun _ _ => rfl)) (pe_ix (ix_K (K := K) rfl) (pv 5) pe_int (fun _ _ => rfl))) (nomark _)) (pss_one 
      (ps_expr (pe_bm PySem.F.plainAttrs_list PySem.F.slot_list_append PySem.F.type_list_append mt_append (pv 3) (pa_cons (pv 4) pa_nil)))) pss_nil)))) (pss_one 
      (ps_ret (pe_callTy (tupleOf_K (K := K) rfl) (by rfl) T.tuple (by decide +kernel) (pa_cons (pe_sortNeg2 (K := K) (x := "ray") (i := 1) (j := 1) (T := [(PL, qL)]) (q := qL) rfl hr (by rfl) T.sorted (pv 3) L.tb rfl rfl (List.mem_cons_self ..) (fun p hp _ => by rw [List.mem_singleton.mp hp]) ⟨⟨_, _, _, _, _, rfl⟩, rfl, rfl, rfl, by decide, rfl, rfl, fun _ _ _ _ _ => rfl, rfl, by decide⟩) pa_nil))))))), ?_⟩
  refine ⟨_, rfl, R, ks.map fun r => (r.1, intK r.2), rfl, (by rw [List.map_map]; exact hs), (fun p m => by
    obtain ⟨r, mr, rfl⟩ := List.mem_map.mp m
    exact key_int (sk r mr)), (by rw [List.length_map]; omega), fun S L0 nS sub all nd2 => ?_⟩
  have g1 := grow (o := SetKO w S L0) nS
  refine ⟨S, L0, rfl, upd_same, (fun p m => by
    obtain ⟨r, mr, rfl⟩ := List.mem_map.mp (sub p m)
    exact (key_int (sk r mr)).same g1), ?_, ?_, fun M p1 pm np1 => ?_⟩
  · intro d hd e he
    obtain ⟨p, mp, rfl⟩ := List.mem_map.mp hd
    obtain ⟨q, mq, rfl⟩ := List.mem_map.mp he
    obtain ⟨r, _, rfl⟩ := List.mem_map.mp (sub p mp)
    obtain ⟨r', _, rfl⟩ := List.mem_map.mp (sub q mq)
    show PySem.W.alike (intK r.2).data (intK r'.2).data = true
    rw [data_int, data_int]
    exact PySem.W.alike_ints _ _
  · refine .inl fun d hd => ?_
    obtain ⟨p, mp, rfl⟩ := List.mem_map.mp hd
    obtain ⟨r, mr, rfl⟩ := List.mem_map.mp (sub p mp)
    obtain ⟨t, _, et⟩ := isT r mr
    show ∃ x t, (intK r.2).data = .tuple (x :: t)
    rw [data_int, et]
    exact ⟨_, _, rfl⟩
  obtain ⟨ss, es, hss, pw, nds, mem0⟩ := kept_of intK int_inj sub all nd2 pm
  have e2 := g1.trans (grow (o := .lst ((sortK entD M).map fun p => V.ref p.1)) np1)
  have hp1 := upd_same (H := upd H S (SetKO w S L0)) (a := p1) (o := .lst ((sortK entD M).map fun p => V.ref p.1))
  generalize upd (upd H S (SetKO w S L0)) p1 _ = H1 at e2 hp1
  have ev : (sortK entD M).map (fun p => V.ref p.1) = ss.map fun r => V.ref r.1 := by
    rw [es, List.map_map]
    rfl
  rw [ev] at hp1
  have rL : RowsV K H1 (ss.map fun q => V.ref q.1) (ss.map Prod.snd) := rows_join fun p hp => same_tup e2 (sk p (hss p hp))
  have rt : ((ss.map Prod.snd).map unl).map tol = ss.map Prod.snd := tol_unl fun l hl2 => by
    obtain ⟨p, hp, rfl⟩ := List.mem_map.mp hl2
    obtain ⟨r, _, e⟩ := isT p (hss p hp)
    exact ⟨r, e⟩
  rw [← rt] at rL
  have mem : ∀ t, t ∈ (ss.map Prod.snd).map unl ↔ t ∈ rays := fun t => by
    constructor
    · intro h
      obtain ⟨l, h1, rfl⟩ := List.mem_map.mp h
      obtain ⟨p, h2, rfl⟩ := List.mem_map.mp h1
      obtain ⟨r, hr2, e⟩ := isT p (hss p h2)
      rw [e, unl_tol]
      exact hr2
    · intro h
      have h1 : tol t ∈ ks.map Prod.snd := by
        rw [hks]
        exact List.mem_map_of_mem h
      have := List.mem_map_of_mem (f := unl) ((mem0 _).mpr h1)
      rw [unl_tol] at this
      exact this
  have ndK : ((ss.map Prod.snd).map unl).Nodup := by
    have h1 : (((ss.map Prod.snd).map unl).map tol).Nodup := by
      rw [rt]
      exact nds
    exact List.Pairwise.of_map tol (fun a b h e => h (e ▸ rfl)) h1
  have lenL : ((ss.map Prod.snd).map unl).length = ss.length := by rw [List.length_map, List.length_map]
  have lxs : (ss.map fun q : Addr × List Int => V.ref q.1).length = ss.length := List.length_map ..
  have lr : ss.length ≤ rays.length := by
    rw [← lenL]
    exact nodup_le ndK fun t ht => (mem t).mp ht
  generalize (ss.map Prod.snd).map unl = kept at rL mem lenL ndK
  generalize (ss.map fun q : Addr × List Int => V.ref q.1) = ys1 at hp1 rL lxs
  have bdK : ∀ r ∈ kept, BdR r := fun r hr2 => (bd r ((mem r).mp hr2)).r
  -- found
  refine ⟨Nat.le_of_ble_eq_true rfl, fun q nq => ?_⟩
  have e3 := e2.trans (grow (o := .lst []) nq)
  have hp2 := (grow (o := .lst []) nq) _ _ hp1
  have rL2 := rL.mono (grow (o := .lst []) nq)
  refine ⟨_, rfl, .inl ⟨p1, rfl, ⟨_, SqL.of hp2⟩, ?_⟩⟩
  refine for_it (walk_list (xs := ys1)) (fun i σ H' => Same H1 H' ∧ (∃ zs : List (V × List Int), H' q = some (.lst (zs.map Prod.fst)) ∧ (∀ z ∈ zs, TupI K H' z.1 z.2) ∧ zs.map Prod.snd = ((kept.take i).filter fun t => longM t kept roof).map tol) ∧
      ∃ y4 y5 y6, σ = [some (.ref R), some (.int roof), some (.ref p1), some (.ref q), y4, y5, y6])
    ⟨grow nq, ⟨[], upd_same, (fun z hz => by cases hz), rfl⟩, _, _, _, rfl⟩ (fun i σ H' _ ⟨e, _⟩ => SqL.of (e _ _ hp1)) ?_ ?_
  · rintro i x σ H2 H3 hi ⟨e, ⟨zs, hq, hz, ez⟩, y4, y5, y6, rfl⟩ ⟨rfl, g⟩
    obtain ⟨t, gt, tV⟩ := line_get (rL.mono e) g
    have tb := bdK t (List.mem_of_getElem? gt)
    obtain ⟨⟨s1, s2⟩, s3, s4⟩ := span_bd tb bdK r0 r1
    refine ⟨_, rfl, _, rfl, _, rfl, _, _, _, rfl, t, p1, ys1, kept, roof, tV, rfl, SqL.of (e _ _ hp1), rL.mono e, rfl, tb, bdK, fun H3 S1 Lo Hi e4 hS hLo hHi => ?_⟩
    refine ⟨S1, _, rfl, SqT.of hS, rfl, _, _, rfl, _, _, rfl, rfl, ?_⟩
    refine ⟨_, rfl, .inr (.inl ⟨Lo, _, _, _, rfl, rfl, SqT.of hLo, at0, _, rfl, .inr (.inl ⟨Hi, _, _, _, rfl, rfl, SqT.of hHi, at1, _, _, rfl, rfl, .inl ⟨by omega, by omega⟩, ?_⟩)⟩)⟩
    refine ⟨_, rfl, .inr (.inl ⟨Hi, _, _, _, rfl, rfl, SqT.of hHi, at0, _, rfl, .inr (.inl ⟨Lo, _, _, _, rfl, rfl, SqT.of hLo, at1, _, _, rfl, rfl, .inl ⟨by omega, by omega⟩, ?_⟩)⟩)⟩
    have step : (kept.take (i + 1)).filter (fun t => longM t kept roof) = (kept.take i).filter (fun t => longM t kept roof) ++ (if longM t kept roof = true then [t] else []) := by
      rw [take_snoc gt, List.filter_append, List.filter_cons, List.filter_nil]
    refine .inl ⟨_, _, rfl, rfl, _, rfl, ite2 (fun c1 => ?_) (fun c1 => ?_)⟩
    · have c1 : longM t kept roof = true := c1
      have hq3 := e4 _ _ hq
      have lz : zs.length ≤ 64 := by
        have := congrArg List.length ez
        rw [List.length_map, List.length_map] at this
        rw [this]
        refine Nat.le_trans (List.length_filter_le _ _) ?_
        rw [List.length_take]
        omega
      refine ⟨_, rfl, .inl ⟨rfl, _, SqL.of hq3⟩, _, rfl, q, _, _, rfl, rfl, hq3, size5 (by rw [List.length_map]; omega), ?_⟩
      refine ⟨same_mut (e.trans e4) nq, ⟨zs ++ [(x, tol t)], ?_, ?_, ?_⟩, _, _, _, rfl⟩
      · rw [upd_same, List.map_append]
        rfl
      · intro z hz2
        rcases List.mem_append.mp hz2 with hz2 | hz2
        · exact tupI_upd hq3 ((hz z hz2).mono e4)
        · rw [List.mem_singleton.mp hz2]
          exact tupI_upd hq3 (tV.mono e4)
      · rw [List.map_append, ez, step, if_pos c1, List.map_append]
        rfl
    · have c1 : ¬ longM t kept roof = true := c1
      refine ⟨e.trans e4, ⟨zs, e4 _ _ hq, fun z hz2 => (hz z hz2).mono e4, ?_⟩, _, _, _, rfl⟩
      rw [ez, step, if_neg c1, List.append_nil]
  rintro σ H2 ⟨e, ⟨zs, hq, hz, ez⟩, y4, y5, y6, rfl⟩
  have eK : kept.take ys1.length = kept := by rw [lxs, ← lenL, List.take_length]
  rw [eK] at ez
  have tabs2 : LamX.Tabs [(PL, qL)] H2 := tabs_same tabs (e2.trans e)
  refine ⟨_, rfl, tabs2, fun fl c' H5 e5 t5 hf hc => ⟨q, fl, c', zs, rfl, rfl, SqL.of (e5 _ _ hq (fun _ h => nomatch h)), fun z hz2 => ?_, hf, hc, fun p2 zs' pm2 srt2 np2 => ?_⟩⟩
  · have : z.2 ∈ zs.map Prod.snd := List.mem_map_of_mem hz2
    rw [ez] at this
    obtain ⟨r, _, er⟩ := List.mem_map.mp this
    obtain ⟨A1, hA, sA⟩ := hz z hz2
    refine ⟨⟨A1, hA, same_tup (ext_same e5) (noT_sqt sA)⟩, ?_⟩
    rw [← er]
    exact Nat.one_lt_two
  refine ⟨p2, _, rfl, .inl ⟨SqL.of upd_same, fun A2 nA2 => ?_⟩⟩
  have e6 := (noT_mono (e2.trans e)).trans ((ext_same e5).trans ((grow (o := .lst (zs'.map Prod.fst)) np2).trans (grow (o := .tup (zs'.map Prod.fst)) nA2)))
  have e7 := (grow (o := .lst (zs'.map Prod.fst)) np2).trans (grow (o := .tup (zs'.map Prod.fst)) nA2)
  have hm : ∀ t, t ∈ (zs'.map Prod.snd).map unl ↔ t ∈ kept ∧ longM t kept roof = true := fun t => by
    have h1 : (zs'.map Prod.snd).Perm ((kept.filter fun t => longM t kept roof).map tol) := ez ▸ pm2.map Prod.snd
    have h2 := h1.map unl
    rw [List.map_map (l := kept.filter _), show (unl ∘ tol) = id from rfl, List.map_id] at h2
    rw [h2.mem_iff, List.mem_filter]
  have lz : zs'.length ≤ rays.length := by
    rw [pm2.length_eq]
    have := congrArg List.length ez
    rw [List.length_map, List.length_map] at this
    rw [this]
    refine Nat.le_trans (List.length_filter_le _ _) ?_
    omega
  have hpm : ((zs'.map Prod.snd).map unl).Perm (kept.filter fun t => longM t kept roof) := by
    have h1 : (zs'.map Prod.snd).Perm ((kept.filter fun t => longM t kept roof).map tol) := ez ▸ pm2.map Prod.snd
    have h2 := h1.map unl
    rw [List.map_map (l := kept.filter _), show (unl ∘ tol) = id from rfl, List.map_id] at h2
    exact h2
  have hsrt : ((zs'.map Prod.snd).map unl).Pairwise fun x y => y.2 ≤ x.2 := by
    rw [List.map_map]
    exact List.pairwise_map.mpr srt2
  refine k _ A2 _ ((zs'.map Prod.snd).map unl) e6 (tabs_same t5 e7) upd_same ?_ ⟨fun t ht => (mem t).mp ((hm t).mp ht).1, fun n d n0 d0 le q hq => ?_, lines_chn hpm ndK hsrt⟩ (fun h => lines_same h mem hpm ndK hsrt) (by rw [List.length_map, List.length_map]; exact lz)
  · rw [tol_unl]
    · unfold RowsV
      rw [List.map_map]
      refine dpAll_map fun z hz2 => ?_
      obtain ⟨A1, hA, sA⟩ := hz z (pm2.mem_iff.mp hz2)
      exact TupI.dp ⟨A1, hA, same_tup e7 (same_tup (ext_same e5) (noT_sqt sA))⟩
    · intro l hl2
      obtain ⟨z, hz2, rfl⟩ := List.mem_map.mp hl2
      have : z.2 ∈ zs.map Prod.snd := List.mem_map_of_mem (pm2.mem_iff.mp hz2)
      rw [ez] at this
      obtain ⟨r, _, er⟩ := List.mem_map.mp this
      exact ⟨r, er.symm⟩
  · obtain ⟨t, t1, t2, t3⟩ := long_cover (rays := kept) (by omega) n0 d0 le ((mem q).mpr hq)
    exact ⟨t, (hm t).mpr ⟨t1, t2⟩, t3⟩

end
end Fb

set_option Elab.async false
set_option linter.all false
set_option maxRecDepth 100000
set_option maxHeartbeats 4000000
namespace Fb
open PySem PySem.Spec L2
open PyProof.Rows hiding St
open C8 (Cal Met Mak Def cal0 met0 mak0 pe_c pe_mk pe_mt pe_mt0 fnScope fnBody fnArgs pss_cut tCut)
local macro_rules | `(tactic| walk_at "hp") => `(tactic| first | exact upd_same | assumption | (refine grow (by assumption) _ _ ?_; walk_at "hp") | (refine (show Same _ _ by assumption) _ _ ?_; walk_at "hp"))
local macro_rules | `(tactic| walk_at "sm") => `(tactic| first | exact Same.refl _ | assumption | (refine Same.trans ?_ (grow (by assumption)); walk_at "sm") | (refine Same.trans ?_ (show Same _ _ by assumption); walk_at "sm"))
section
variable {P : Program} {w : World} {K : PySem.W.Frag} {mg : Str → Option Value} {base : Heap}
variable {C_Trade C_Dial : Addr}
/-! ### _law_weighed -/
def spWeighed (K : PySem.W.Frag) : Sp := sp2 fun a b H Q => ∃ (A W : Addr) (xs : List V) (S : List Ln) (st : Ln), a = .ref A ∧ (SqL K H A xs ∨ SqT K H A xs) ∧ RowsV K H xs (S.map tol) ∧ S ≠ [] ∧ S.length ≤ 1000 ∧ (∀ r ∈ S, BdH r) ∧ b = .ref W ∧ SqT K H W [.int st.1, .int st.2] ∧ 0 ≤ st.1 ∧ st.1 ≤ 10000000000 ∧ 0 < st.2 ∧ st.2 ≤ 10000 ∧
  ∀ (m : Int) H', Same H H' → LeastAt S st.1 st.2 m → Q (.int m) H'
theorem c__law_weighed (T : Top K mg C_Trade C_Dial) : Cal P w K mg base 1 "_law_weighed" (spWeighed K) [] := by
  obtain ⟨f, fd, F, df⟩ := T.d__law_weighed
  refine cal_of F df (fn2 F sc__law_weighed fun cdv A outer s H a b Q E hr h => ?_) fun _ _ _ _ _ _ us hl => match us, hl with | [_, _], _ => rfl
  have nd := sc__law_weighed.nd
  obtain ⟨A1, W, xs, S, st, rfl, hA, hx, ne, lS, bd, rfl, sW, s1, s2, s3, s4, k⟩ := h
  have lx := hx.len
  rw [List.length_map] at lx
  have z0 := List.length_pos_iff.mpr ne
  refine ⟨_, (pss_one 
      (ps_ret (pe_callB (cr_min rfl) (by rfl) T.min (by decide +kernel) (pa_cons (pe_lc (own := [("x", 2)]) rfl nd (pi_K (K := K) rfl (pv 0)) (blkOk_by (N := ["rows_y", "setting_y", "x"]) (sc := fnScope s__law_weighed) (by decide +kernel)) (fun _ _ _ _ _ => (pg_name (i := 2) nd rfl (Or.inl rfl))) (fun _ _ _ _ _ => pts_nil) (fun _ _ _ _ _ => (pe_op op_addU (pe_op op_mul (pe_ix (ix_K (K := K) rfl) (pv 2) pe_int (fun _ _ => rfl)) (pe_ix (ix_K (K := K) rfl) (pv 1) pe_int (fun _ _ => rfl))) (pe_op op_mul (pe_ix (ix_K (K := K) rfl) (pv 2) pe_int (fun _ _ => rfl)) (pe_ix (ix_K (K := K) rfl) (pv 1) pe_int (fun _ _ => rfl)))))) pa_nil)))), ?_⟩
  rcases hA with hA | hA
  · refine ⟨_, rfl, .inl ⟨A1, rfl, ⟨_, hA⟩, fun D hD => ?_⟩⟩
    refine lc_map (walk_list (xs := xs)) (fun i => .int (vA (S.getD i (0, 0)) st.1 st.2)) grow_at (by omega) hD (fun H e => e.seq hA) ?_ ?_
    · rintro i x H1 H2 hi e ⟨rfl, g⟩ R kk
      obtain ⟨t, gt, ⟨U, rfl, sU⟩⟩ := line_get (hx.mono e) g
      obtain ⟨b1, b2, b3, b4⟩ := bd t (List.mem_of_getElem? gt)
      have hW := same_tup e sW
      rw [getD_of gt] at kk
      refine ⟨rfl, _, rfl, .inr (.inl ⟨U, _, _, _, rfl, rfl, sU, at0, _, rfl, .inr (.inl ⟨W, _, _, _, rfl, rfl, hW, at1, _, _, rfl, rfl, .inr ⟨by omega, by omega⟩, ?_⟩)⟩)⟩
      refine ⟨_, rfl, .inr (.inl ⟨U, _, _, _, rfl, rfl, sU, at1, _, rfl, .inr (.inl ⟨W, _, _, _, rfl, rfl, hW, at0, _, _, rfl, rfl, .inr ⟨by omega, by omega⟩, ?_⟩)⟩)⟩
      exact .inl ⟨_, _, rfl, rfl, kk _ (Same.refl _)⟩
    · intro H5 e5 hd5
      have hd5 := hd5.trans (congrArg (fun l => some (HO.lst l)) (show _ = (S.map fun r => V.int (vA r st.1 st.2)) by rw [lx]; exact map_range_get (0, 0) (fun r : Ln => V.int (vA r st.1 st.2)) S))
      exact ⟨D, S.map fun r => vA r st.1 st.2, rfl, SqL.of (by rw [hd5, List.map_map]; rfl), by rw [List.length_map]; exact z0, fun m h1 h2 => k m _ e5 (least_of_min h1 h2)⟩
  · refine ⟨_, rfl, .inr (.inl ⟨A1, rfl, ⟨_, hA⟩, fun D hD => ?_⟩)⟩
    refine lc_map (walk_tup (xs := xs)) (fun i => .int (vA (S.getD i (0, 0)) st.1 st.2)) grow_at (by omega) hD (fun H e => same_tup e hA) ?_ ?_
    · rintro i x H1 H2 hi e ⟨rfl, g⟩ R kk
      obtain ⟨t, gt, ⟨U, rfl, sU⟩⟩ := line_get (hx.mono e) g
      obtain ⟨b1, b2, b3, b4⟩ := bd t (List.mem_of_getElem? gt)
      have hW := same_tup e sW
      rw [getD_of gt] at kk
      refine ⟨rfl, _, rfl, .inr (.inl ⟨U, _, _, _, rfl, rfl, sU, at0, _, rfl, .inr (.inl ⟨W, _, _, _, rfl, rfl, hW, at1, _, _, rfl, rfl, .inr ⟨by omega, by omega⟩, ?_⟩)⟩)⟩
      refine ⟨_, rfl, .inr (.inl ⟨U, _, _, _, rfl, rfl, sU, at1, _, rfl, .inr (.inl ⟨W, _, _, _, rfl, rfl, hW, at0, _, _, rfl, rfl, .inr ⟨by omega, by omega⟩, ?_⟩)⟩)⟩
      exact .inl ⟨_, _, rfl, rfl, kk _ (Same.refl _)⟩
    · intro H5 e5 hd5
      have hd5 := hd5.trans (congrArg (fun l => some (HO.lst l)) (show _ = (S.map fun r => V.int (vA r st.1 st.2)) by rw [lx]; exact map_range_get (0, 0) (fun r : Ln => V.int (vA r st.1 st.2)) S))
      exact ⟨D, S.map fun r => vA r st.1 st.2, rfl, SqL.of (by rw [hd5, List.map_map]; rfl), by rw [List.length_map]; exact z0, fun m h1 h2 => k m _ e5 (least_of_min h1 h2)⟩

end
end Fb

set_option Elab.async false
set_option linter.all false
set_option maxRecDepth 100000
set_option maxHeartbeats 4000000
namespace Fb
open PySem PySem.Spec L2
open PyProof.Rows hiding St
open C8 (Cal Met Mak Def cal0 met0 mak0 pe_c pe_mk pe_mt pe_mt0 fnScope fnBody fnArgs pss_cut tCut)
local macro_rules | `(tactic| walk_at "hp") => `(tactic| first | exact upd_same | assumption | (refine grow (by assumption) _ _ ?_; walk_at "hp") | (refine (show Same _ _ by assumption) _ _ ?_; walk_at "hp"))
local macro_rules | `(tactic| walk_at "sm") => `(tactic| first | exact Same.refl _ | assumption | (refine Same.trans ?_ (grow (by assumption)); walk_at "sm") | (refine Same.trans ?_ (show Same _ _ by assumption); walk_at "sm"))
section
variable {P : Program} {w : World} {K : PySem.W.Frag} {mg : Str → Option Value} {base : Heap}
variable {C_Trade C_Dial : Addr}
/-! ### _law_is_number -/
def spLIsNumber (K : PySem.W.Frag) : Sp := sp2 fun a b H Q => ∃ l, AnyV K H a ∧ b = .int l ∧ Q (.bl (numB a l none)) H
theorem c__law_is_number (T : Top K mg C_Trade C_Dial) : Cal P w K mg base 1 "_law_is_number" (spLIsNumber K) [] := by
  obtain ⟨f, fd, F, df⟩ := T.d__law_is_number
  refine cal_of F df (fn2 F sc__law_is_number fun cdv A outer s H a b Q E hr h => ?_) fun _ _ _ _ _ _ us hl => match us, hl with | [_, _], _ => rfl
  have nd := sc__law_is_number.nd
  obtain ⟨l, ha, rfl, q⟩ := h
  refine ⟨_, (pss_one 
      (ps_ret (pe_and (pe_callB (isi_K (K := K) rfl) (by rfl) T.isinstance (by decide +kernel) (pa_cons (pv 0) (pa_cons (pe_bltn (v := .ty "int") (by rfl) T.int (by decide +kernel) rfl) pa_nil))) (pe_and (pe_not (pe_callB (isi_K (K := K) rfl) (by rfl) T.isinstance (by decide +kernel) (pa_cons (pv 0) (pa_cons (pe_bltn (v := .ty "bool") (by rfl) T.bool (by decide +kernel) rfl) pa_nil)))) (pe_one (pe_cmpR op_geU (pv 0) (pv 1) (nomark _))))))), ?_⟩
  rcases ha.intOr with ⟨i, rfl⟩ | ⟨b, rfl⟩ | ⟨no, t, ty, kb⟩
  · refine ⟨_, rfl, .inl ⟨_, _, _, true, rfl, .base (.int i), by decide +kernel, _, rfl, iteT ?_⟩⟩
    refine ⟨_, rfl, .inl ⟨_, _, _, false, rfl, .base (.int i), by decide +kernel, _, rfl, _, rfl, iteT ?_⟩⟩
    refine ⟨_, rfl, _, rfl, _, _, rfl, rfl, ?_⟩
    rw [show numB (.int i) l none = decide (l ≤ i) from Bool.and_true _] at q
    exact q
  · refine ⟨_, rfl, .inl ⟨_, _, _, true, rfl, .base (.bl b), by decide +kernel, _, rfl, iteT ?_⟩⟩
    exact ⟨_, rfl, .inl ⟨_, _, _, true, rfl, .base (.bl b), by decide +kernel, _, rfl, _, rfl, iteF q⟩⟩
  · rw [numB_no no] at q
    exact ⟨_, rfl, .inl ⟨_, _, _, false, rfl, ty, kb, _, rfl, iteF q⟩⟩

end
end Fb

set_option Elab.async false
set_option linter.all false
set_option maxRecDepth 100000
set_option maxHeartbeats 4000000
namespace Fb
open PySem PySem.Spec L2
open PyProof.Rows hiding St
open C8 (Cal Met Mak Def cal0 met0 mak0 pe_c pe_mk pe_mt pe_mt0 fnScope fnBody fnArgs pss_cut tCut)
local macro_rules | `(tactic| walk_at "hp") => `(tactic| first | exact upd_same | assumption | (refine grow (by assumption) _ _ ?_; walk_at "hp") | (refine (show Same _ _ by assumption) _ _ ?_; walk_at "hp"))
local macro_rules | `(tactic| walk_at "sm") => `(tactic| first | exact Same.refl _ | assumption | (refine Same.trans ?_ (grow (by assumption)); walk_at "sm") | (refine Same.trans ?_ (show Same _ _ by assumption); walk_at "sm"))
section
variable {P : Program} {w : World} {K : PySem.W.Frag} {mg : Str → Option Value} {base : Heap}
variable {C_Trade C_Dial : Addr}
/-! ### _law_tuple_of -/
def spTupleOf (K : PySem.W.Frag) : Sp := sp2 fun a b H Q => ∃ (A : Addr) (xs : List V) (n : Nat), a = .ref A ∧ SqT K H A xs ∧ b = .int n ∧ xs.length = n ∧ Q (.bl true) H
theorem c__law_tuple_of (T : Top K mg C_Trade C_Dial) : Cal P w K mg base 1 "_law_tuple_of" (spTupleOf K) [] := by
  obtain ⟨f, fd, F, df⟩ := T.d__law_tuple_of
  refine cal_of F df (fn2 F sc__law_tuple_of fun cdv A outer s H a b Q E hr h => ?_) fun _ _ _ _ _ _ us hl => match us, hl with | [_, _], _ => rfl
  have nd := sc__law_tuple_of.nd
  obtain ⟨A1, xs, n, rfl, hs, rfl, rfl, q⟩ := h
  refine ⟨_, (pss_one 
      (ps_ret (pe_and (pe_callB (isi_K (K := K) rfl) (by rfl) T.isinstance (by decide +kernel) (pa_cons (pv 0) (pa_cons (pe_bltn (v := .ty "tuple") (by rfl) T.tuple (by decide +kernel) rfl) pa_nil))) (pe_one (pe_cmpR (eq_K (K := K) rfl hr) (pe_callB (len_K (K := K) rfl) (by rfl) T.len (by decide +kernel) (pa_cons (pv 0) pa_nil)) (pv 1) (nomark _)))))), ?_⟩
  refine ⟨_, rfl, .inl ⟨_, _, _, true, rfl, sqt_ty hs, by decide +kernel, _, rfl, iteT ?_⟩⟩
  refine ⟨_, rfl, .inl ⟨A1, _, rfl, .inr hs, _, rfl, .inl ⟨rfl, ?_⟩⟩⟩
  rw [decide_eq_true (rfl : V.int (xs.length : Int) = V.int xs.length)]
  exact q

end
end Fb

set_option Elab.async false
set_option linter.all false
set_option maxRecDepth 100000
set_option maxHeartbeats 4000000
namespace Fb
open PySem PySem.Spec L2
open PyProof.Rows hiding St
open C8 (Cal Met Mak Def cal0 met0 mak0 pe_c pe_mk pe_mt pe_mt0 fnScope fnBody fnArgs pss_cut tCut)
local macro_rules | `(tactic| walk_at "hp") => `(tactic| first | exact upd_same | assumption | (refine grow (by assumption) _ _ ?_; walk_at "hp") | (refine (show Same _ _ by assumption) _ _ ?_; walk_at "hp"))
local macro_rules | `(tactic| walk_at "sm") => `(tactic| first | exact Same.refl _ | assumption | (refine Same.trans ?_ (grow (by assumption)); walk_at "sm") | (refine Same.trans ?_ (show Same _ _ by assumption); walk_at "sm"))
section
variable {P : Program} {w : World} {K : PySem.W.Frag} {mg : Str → Option Value} {base : Heap}
variable {C_Trade C_Dial : Addr}
/-! ### _law_is -/
def spIs (K : PySem.W.Frag) (PL : Addr) : Sp := sp2 fun a b H Q => ∃ (A B : Addr) (xs : List V) (S : List Ln), a = .ref A ∧ b = .ref B ∧ SqT K H B xs ∧ RowsV K H xs (S.map tol) ∧ S ≠ [] ∧ S.length ≤ 26 ∧ (∀ r ∈ S, BdH r) ∧ LamX.Tabs [(PL, qL)] H ∧
  ((∃ (X : Addr) (vs : List V), SqT K H A [.str "trade", .ref X] ∧ SqL K H X vs ∧ vs.length = 2 ∧ Rows S) ∨ ∃ roof : Int, SqT K H A [.str "dial", .str "a", .str "b", .int roof] ∧ 1 ≤ roof ∧ roof ≤ 1000000 ∧ Chn roof S) ∧
  ∀ H', Same (noT H) H' → LamX.Tabs [(PL, qL)] H' → Q (.bl true) H'
theorem eqv_lns (S : List Ln) : PyData.eqv (lnD (some S)) (lnD (some S)) = true := by
  show PyData.eqvAll (S.map fun t => rowD (tol t)) (S.map fun t => rowD (tol t)) = true
  induction S with
  | nil => rfl
  | cons t r ih =>
    show (PyData.eqv (rowD (tol t)) (rowD (tol t)) && PyData.eqvAll (r.map fun t => rowD (tol t)) (r.map fun t => rowD (tol t))) = true
    rw [eqv_ln, decide_eq_true rfl, ih]
    rfl
theorem depth_lns (S : List Ln) : (lnD (some S)).depth ≤ 2 := by
  show PyData.depthAll _ + 1 ≤ 2
  exact Nat.succ_le_succ (depthAll_ln S)
theorem c__law_is {cL PL : Addr} (T : Top K mg C_Trade C_Dial) (L : TopL K mg base cL PL) : Cal P w K mg base 3 "_law_is" (spIs K PL) [] := by
  obtain ⟨f, fd, F, df⟩ := T.d__law_is
  refine cal_of F df (fn2 F sc__law_is fun cdv A outer s H a b Q E hr h => ?_) fun _ _ _ _ _ _ us hl => match us, hl with | [_, _], _ => rfl
  have nd := sc__law_is.nd
  obtain ⟨A1, B1, xs, S, rfl, rfl, sB, hx, ne, lS, bd, tabs, mode, k⟩ := h
  have lx := hx.len
  rw [List.length_map] at lx
  have z0 := List.length_pos_iff.mpr ne
  refine ⟨_, (pss_cons 
      (ps_set (i := 2) nd rfl (Or.inl rfl) (pe_ix (ix_K (K := K) rfl) (pv 0) pe_int (fun _ _ => rfl))) (pss_cons 
      (ps_if (pt_cmpR (eq_K (K := K) rfl hr) (pv 2) pe_str (nomark _)) (pss_one ps_never) pss_nil) (pss_cons 
      (ps_if (pt_cmpR (eq_K (K := K) rfl hr) (pv 2) pe_str (nomark _)) (pss_one ps_never) pss_nil) (pss_cons 
      (ps_if (pt_cmpR (eq_K (K := K) rfl hr) (pv 2) pe_str (nomark _)) (pss_one ps_never) pss_nil) (pss_cons 
      (ps_if (PW.pt (pw_or (pt_not (pt_val (pe_callB (isi_K (K := K) rfl) (by rfl) T.isinstance (by decide +kernel) (pa_cons (pv 1) (pa_cons (pe_bltn (v := .ty "tuple") (by rfl) T.tuple (by decide +kernel) rfl) pa_nil))))) (pw_or1 (pt_cmpR (eq_K (K := K) rfl hr) (pe_callB (len_K (K := K) rfl) (by rfl) T.len (by decide +kernel) (pa_cons (pv 1) pa_nil)) pe_int (nomark _))))) (pss_one 
      (ps_ret pe_bl)) pss_nil) (pss_cons 
      (ps_if (pt_cmpR (eq_K (K := K) rfl hr) (pv 2) pe_str (nomark _)) (pss_cons 
      (ps_for PassesOwn.never rfl (pi_K (K := K) rfl (pv 1)) (pg_name (i := 3) nd rfl (Or.inl rfl)) (pss_one 
      (ps_if (PW.pt (pw_or (pt_not (pt_val (pe_c (c__law_tuple_of T) hr (by decide) (by rfl) (pa_cons (pv 3) (pa_cons (pe_callB (len_K (K := K) rfl) (by rfl) T.len (by decide +kernel) (pa_cons (pe_ix (ix_K (K := K) rfl) (pv 0) pe_int (fun _ _ => rfl)) pa_nil)) pa_nil))))) (pw_or1 (pt_not (pt_val (pe_callB (all_K (K := K) rfl rfl) (by rfl) T.all (by decide +kernel) (pa_cons (pe_lc (own := [("y", 5)]) rfl nd (pi_K (K := K) rfl (pv 3)) (blkOk_by (N := ["spec", "thing", "kind", "x", "k", "y"]) (sc := fnScope s__law_is) (by decide +kernel)) (fun _ _ _ _ _ => (pg_name (i := 5) nd rfl (Or.inl rfl))) (fun _ _ _ _ _ => pts_nil) (fun _ _ _ _ _ => (pe_c (c__law_is_number T) hr (by decide) (by rfl) (pa_cons (pv 5) (pa_cons pe_int pa_nil))))) pa_nil))))))) (pss_one 
      (ps_ret pe_bl)) pss_nil))) (pss_one 
      (ps_ret (pe_cmpR (eq_K (K := K) rfl hr) (pv 1) (pe_c (c__law_thin T) hr (by decide) (by rfl) (pa_cons (pv 1) pa_nil)) (nomark _))))) pss_nil) (pss_cons 
      (ps_if (pt_cmpR (eq_K (K := K) rfl hr) (pv 2) pe_str (nomark _)) (pss_cons ps_never (pss_one ps_never)) pss_nil) (pss_cons 
      (ps_if (pt_cmpR (eq_K (K := K) rfl hr) (pv 2) pe_str (nomark _)) (pss_cons 
      (ps_for PassesOwn.never rfl (pi_K (K := K) rfl (pv 1)) (pg_name (i := 3) nd rfl (Or.inl rfl)) (pss_one 
      (ps_if (PW.pt (pw_or (pt_not (pt_val (pe_c (c__law_tuple_of T) hr (by decide) (by rfl) (pa_cons (pv 3) (pa_cons pe_int pa_nil))))) (pw_or1 (pt_not (pt_val (pe_callB (all_K (K := K) rfl rfl) (by rfl) T.all (by decide +kernel) (pa_cons (pe_lc (own := [("y", 5)]) rfl nd (pi_K (K := K) rfl (pv 3)) (blkOk_by (N := ["spec", "thing", "kind", "x", "k", "y"]) (sc := fnScope s__law_is) (by decide +kernel)) (fun _ _ _ _ _ => (pg_name (i := 5) nd rfl (Or.inl rfl))) (fun _ _ _ _ _ => pts_nil) (fun _ _ _ _ _ => (pe_c (c__law_is_number T) hr (by decide) (by rfl) (pa_cons (pv 5) (pa_cons pe_int pa_nil))))) pa_nil))))))) (pss_one 
      (ps_ret pe_bl)) pss_nil))) (pss_one 
      (ps_ret (pe_cmpR (eq_K (K := K) rfl hr) (pv 1) (pe_c (c__law_lines T L) hr (by decide) (by rfl) (pa_cons (pv 1) (pa_cons (pe_ix (ix_K (K := K) rfl) (pv 0) pe_int (fun _ _ => rfl)) pa_nil))) (nomark _))))) pss_nil) (pss_cons 
      (ps_if (pt_cmpR (eq_K (K := K) rfl hr) (pv 2) pe_str (nomark _)) (pss_cons ps_never (pss_cons ps_never (pss_one ps_never))) pss_nil) (pss_cons 
      (ps_if (pt_cmpR (eq_K (K := K) rfl hr) (pv 2) pe_str (nomark _)) (pss_cons ps_never (pss_one ps_never)) pss_nil) (pss_one 
      ps_never))))))))))), ?_⟩
  rcases mode with ⟨X, vs, hA, sX, lv, rows⟩ | ⟨roof, hA, r0, r1, ch⟩
  · refine ⟨_, rfl, .inr (.inl ⟨A1, _, _, _, rfl, rfl, hA, at0, ?_⟩)⟩
    refine ⟨_, rfl, .inl ⟨rfl, _, rfl, iteF ?_⟩⟩
    refine ⟨_, rfl, .inl ⟨rfl, _, rfl, iteF ?_⟩⟩
    refine ⟨_, rfl, .inl ⟨rfl, _, rfl, iteF ?_⟩⟩
    refine ⟨_, rfl, .inl ⟨_, _, _, true, rfl, sqt_ty sB, by decide +kernel, _, rfl, iteF ?_⟩⟩
    refine ⟨_, rfl, .inl ⟨B1, _, rfl, .inr sB, .inl ⟨rfl, _, rfl, ?_⟩⟩⟩
    rw [show decide (V.int (xs.length : Int) = V.int 0) = false from decide_eq_false fun e => by have := V.int.inj e; omega]
    refine iteF ⟨_, rfl, .inl ⟨rfl, _, rfl, iteT ?_⟩⟩
    refine ⟨_, rfl, .inr (.inl ⟨B1, rfl, ⟨_, sB⟩, ?_⟩)⟩
    refine for_it (walk_tup (xs := xs)) (fun i σ H' => Same H H' ∧ ∃ y3 y5, σ = [some (.ref A1), some (.ref B1), some (.str "trade"), y3, none, y5]) ⟨Same.refl _, _, _, rfl⟩ (fun i σ H' _ ⟨e, _⟩ => same_tup e sB) ?_ ?_
    · rintro i x σ H1 H2 hi ⟨e, y3, y5, rfl⟩ ⟨rfl, g⟩
      obtain ⟨t, gt, ⟨U, rfl, sU⟩⟩ := line_get (hx.mono e) g
      obtain ⟨b1, b2, b3, b4⟩ := bd t (List.mem_of_getElem? gt)
      have hA1 := same_tup e hA
      refine ⟨_, rfl, _, rfl, .inr (.inl ⟨A1, _, _, _, rfl, rfl, hA1, at1, .inl ⟨X, _, rfl, .inl (e.seq sX), _, _, rfl, U, _, vs.length, rfl, sU, rfl, lv.symm, _, rfl, iteF ?_⟩⟩)⟩
      refine ⟨_, rfl, .inr (.inl ⟨U, rfl, ⟨_, sU⟩, fun D hD => ?_⟩)⟩
      refine lc_map (walk_tup (xs := (tol t).map V.int)) (fun _ => .bl true) grow_at (by show 2 ≤ _; decide) hD (fun H e => same_tup e sU) ?_ ?_
      · rintro j y G1 G2 hj e2 ⟨rfl, g2⟩ W kk
        have hn : ∃ z : Int, y = .int z ∧ 0 ≤ z := by
          rcases j with _ | _ | j
          · cases g2
            exact ⟨_, rfl, b1⟩
          · cases g2
            exact ⟨_, rfl, b3⟩
          · cases g2
        obtain ⟨z, rfl, z0⟩ := hn
        refine ⟨rfl, _, rfl, _, _, rfl, 0, any_int _, rfl, ?_⟩
        rw [show numB (.int z) 0 none = true by show (decide (0 ≤ z) && true) = true; rw [decide_eq_true z0]; rfl]
        exact kk _ (Same.refl _)
      intro H3 e3 hD3
      refine ⟨D, (List.range ((tol t).map V.int).length).map fun _ => true, rfl, SqL.of (by rw [hD3, List.map_map]; rfl), ?_⟩
      rw [all_true]
      exact ⟨_, rfl, iteF ⟨e.trans e3, _, _, rfl⟩⟩
    · rintro σ H1 ⟨e, y3, y5, rfl⟩
      refine ⟨_, rfl, _, rfl, _, rfl, B1, xs, S.map tol, 2, rfl, .inr (same_tup e sB), hx.mono e, fun l hl => ?_, by decide, by decide, by rw [List.length_map]; omega, fun H2 D ys e2 hD hy => ?_⟩
      · obtain ⟨r, _, rfl⟩ := List.mem_map.mp hl
        rfl
      · rw [thin_tol, thin_rows_same rows] at hy
        have e12 := e.trans e2
        refine .inr ⟨lnD (some S), lnD (some S), ln_dp (same_tup e12 sB) (hx.mono e12), ln_dp (SqT.of hD) hy, ?_, ?_⟩
        · have := depth_lns S
          rw [Nat.min_self]
          omega
        · rw [eqv_lns]
          exact k _ (Same.trans (noT_same H) e12) (tabs_same tabs e12)
  · refine ⟨_, rfl, .inr (.inl ⟨A1, _, _, _, rfl, rfl, hA, at0, ?_⟩)⟩
    refine ⟨_, rfl, .inl ⟨rfl, _, rfl, iteF ?_⟩⟩
    refine ⟨_, rfl, .inl ⟨rfl, _, rfl, iteF ?_⟩⟩
    refine ⟨_, rfl, .inl ⟨rfl, _, rfl, iteF ?_⟩⟩
    refine ⟨_, rfl, .inl ⟨_, _, _, true, rfl, sqt_ty sB, by decide +kernel, _, rfl, iteF ?_⟩⟩
    refine ⟨_, rfl, .inl ⟨B1, _, rfl, .inr sB, .inl ⟨rfl, _, rfl, ?_⟩⟩⟩
    rw [show decide (V.int (xs.length : Int) = V.int 0) = false from decide_eq_false fun e => by have := V.int.inj e; omega]
    refine iteF ⟨_, rfl, .inl ⟨rfl, _, rfl, iteF ?_⟩⟩
    refine ⟨_, rfl, .inl ⟨rfl, _, rfl, iteF ?_⟩⟩
    refine ⟨_, rfl, .inl ⟨rfl, _, rfl, iteT ?_⟩⟩
    refine ⟨_, rfl, .inr (.inl ⟨B1, rfl, ⟨_, sB⟩, ?_⟩)⟩
    refine for_it (walk_tup (xs := xs)) (fun i σ H' => Same H H' ∧ ∃ y3 y5, σ = [some (.ref A1), some (.ref B1), some (.str "dial"), y3, none, y5]) ⟨Same.refl _, _, _, rfl⟩ (fun i σ H' _ ⟨e, _⟩ => same_tup e sB) ?_ ?_
    · rintro i x σ H1 H2 hi ⟨e, y3, y5, rfl⟩ ⟨rfl, g⟩
      obtain ⟨t, gt, ⟨U, rfl, sU⟩⟩ := line_get (hx.mono e) g
      obtain ⟨b1, b2, b3, b4⟩ := bd t (List.mem_of_getElem? gt)
      have hA1 := same_tup e hA
      refine ⟨_, rfl, _, _, rfl, U, _, 2, rfl, sU, rfl, rfl, _, rfl, iteF ?_⟩
      refine ⟨_, rfl, .inr (.inl ⟨U, rfl, ⟨_, sU⟩, fun D hD => ?_⟩)⟩
      refine lc_map (walk_tup (xs := (tol t).map V.int)) (fun _ => .bl true) grow_at (by show 2 ≤ _; decide) hD (fun H e => same_tup e sU) ?_ ?_
      · rintro j y G1 G2 hj e2 ⟨rfl, g2⟩ W kk
        have hn : ∃ z : Int, y = .int z ∧ 0 ≤ z := by
          rcases j with _ | _ | j
          · cases g2
            exact ⟨_, rfl, b1⟩
          · cases g2
            exact ⟨_, rfl, b3⟩
          · cases g2
        obtain ⟨z, rfl, z0⟩ := hn
        refine ⟨rfl, _, rfl, _, _, rfl, 0, any_int _, rfl, ?_⟩
        rw [show numB (.int z) 0 none = true by show (decide (0 ≤ z) && true) = true; rw [decide_eq_true z0]; rfl]
        exact kk _ (Same.refl _)
      intro H3 e3 hD3
      refine ⟨D, (List.range ((tol t).map V.int).length).map fun _ => true, rfl, SqL.of (by rw [hD3, List.map_map]; rfl), ?_⟩
      rw [all_true]
      exact ⟨_, rfl, iteF ⟨e.trans e3, _, _, rfl⟩⟩
    · rintro σ H1 ⟨e, y3, y5, rfl⟩
      refine ⟨_, rfl, _, rfl, _, rfl, .inr (.inl ⟨A1, _, _, _, rfl, rfl, same_tup e hA, at3, _, _, rfl, B1, xs, S, roof, rfl, .inr (same_tup e sB), hx.mono e, bd, by omega, rfl, r0, r1, tabs_same tabs e, fun H2 A2 ys lns e2 t2 hA2 hy lo same le => ?_⟩)⟩
      rw [same ch] at hy
      refine .inr ⟨lnD (some S), lnD (some S), ln_dp (same_tup e2 (noT_sqt (same_tup e sB))) ((noT_rows (hx.mono e)).mono e2), ln_dp (SqT.of hA2) hy, ?_, ?_⟩
      · have := depth_lns S
        rw [Nat.min_self]
        omega
      · rw [eqv_lns]
        exact k _ ((noT_mono e).trans e2) t2

end
end Fb

set_option Elab.async false
set_option linter.all false
set_option maxRecDepth 100000
set_option maxHeartbeats 4000000
namespace Fb
open PySem PySem.Spec L2
open PyProof.Rows hiding St
open C8 (Cal Met Mak Def cal0 met0 mak0 pe_c pe_mk pe_mt pe_mt0 fnScope fnBody fnArgs pss_cut tCut)
local macro_rules | `(tactic| walk_at "hp") => `(tactic| first | exact upd_same | assumption | (refine grow (by assumption) _ _ ?_; walk_at "hp") | (refine (show Same _ _ by assumption) _ _ ?_; walk_at "hp"))
local macro_rules | `(tactic| walk_at "sm") => `(tactic| first | exact Same.refl _ | assumption | (refine Same.trans ?_ (grow (by assumption)); walk_at "sm") | (refine Same.trans ?_ (show Same _ _ by assumption); walk_at "sm"))
section
variable {P : Program} {w : World} {K : PySem.W.Frag} {mg : Str → Option Value} {base : Heap}
variable {C_Trade C_Dial : Addr}
/-! ### _law_fits_rows -/
def spFits (K : PySem.W.Frag) (PL : Addr) : Sp := sp3 fun a b c H Q => ∃ (A B R X : Addr) (xs ys vs : List V) (S W : List Ln), a = .ref A ∧ SqT K H A [.str "trade", .ref X] ∧ SqL K H X vs ∧ vs.length = 2 ∧ b = .ref B ∧ SqT K H B xs ∧ RowsV K H xs (S.map tol) ∧ c = .ref R ∧ H R = some (.lst ys) ∧ RowsV K H ys (W.map tol) ∧
  S ≠ [] ∧ S.length ≤ 26 ∧ (∀ r ∈ W, BdH r) ∧ W.length ≤ 1000 ∧ TO W S ∧ LamX.Tabs [(PL, qL)] H ∧ ∀ H', Same (noT H) H' → LamX.Tabs [(PL, qL)] H' → Q (.bl true) H'
theorem c__law_fits_rows {cL PL : Addr} (T : Top K mg C_Trade C_Dial) (L : TopL K mg base cL PL) : Cal P w K mg base 4 "_law_fits_rows" (spFits K PL) [] := by
  obtain ⟨f, fd, F, df⟩ := T.d__law_fits_rows
  refine cal_of F df (fn3 F sc__law_fits_rows fun cdv A outer s H a b c Q E hr h => ?_) fun _ _ _ _ _ _ us hl => match us, hl with | [_, _, _], _ => rfl
  have nd := sc__law_fits_rows.nd
  obtain ⟨A1, B1, R, X, xs, ys, vs, S, W, rfl, hA, sX, lv, rfl, sB, hx, rfl, hR, hy, ne, lS, bd, lW, to, tabs, k⟩ := h
  have lx := hx.len
  rw [List.length_map] at lx
  have ly := hy.len
  rw [List.length_map] at ly
  have bdS : ∀ r ∈ S, BdH r := fun r h => bd r (to.sub r h)
  refine ⟨_, (pss_cons 
      (ps_if (PW.pt (pw_or (pt_not (pt_val (pe_c (c__law_is T L) hr (by decide) (by rfl) (pa_cons (pv 0) (pa_cons (pv 1) pa_nil))))) (pw_or1 (pt_not (pt_val (pe_callB (all_K (K := K) rfl rfl) (by rfl) T.all (by decide +kernel) (pa_cons (pe_lc (own := [("x", 3)]) rfl nd (pi_K (K := K) rfl (pv 1)) (blkOk_by (N := ["spec", "told", "raw", "x", "y", "p", "q"]) (sc := fnScope s__law_fits_rows) (by decide +kernel)) (fun _ _ _ _ _ => (pg_name (i := 3) nd rfl (by first | exact Or.inr rfl | exact Or.inl rfl))) (fun _ _ _ _ _ => pts_nil) (fun _ _ _ _ _ => (pe_cmpR (in_D (K := K) rfl (room65 hr)) (pv 3) (pv 2) (by with_unfolding_all rfl)))) pa_nil))))))) (pss_one 
      (ps_ret pe_bl)) pss_nil) (pss_cons 
      (ps_if (pt_cmpR (eq_K (K := K) rfl hr) (pe_ix (ix_K (K := K) rfl) (pv 0) pe_int (fun _ _ => rfl)) pe_str (nomark _)) (pss_one ps_never) pss_nil) (pss_cons 
      (ps_if (pt_cmpR (eq_K (K := K) rfl hr) (pe_ix (ix_K (K := K) rfl) (pv 0) pe_int (fun _ _ => rfl)) pe_str (nomark _)) (pss_one ps_never) pss_nil) (pss_one 
      (ps_ret (pe_callB (all_K (K := K) rfl rfl) (by rfl) T.all (by decide +kernel) (pa_cons (pe_lc (own := [("x", 3)]) rfl nd (pi_K (K := K) rfl (pv 2)) (blkOk_by (N := ["spec", "told", "raw", "x", "y", "p", "q"]) (sc := fnScope s__law_fits_rows) (by decide +kernel)) (fun _ _ _ _ _ => (pg_name (i := 3) nd rfl (by first | exact Or.inr rfl | exact Or.inl rfl))) (fun _ _ _ _ _ => pts_nil) (fun _ _ _ _ _ => (pe_callB (any_K (K := K) rfl rfl) (by rfl) T.any (by decide +kernel) (pa_cons (pe_lc (own := [("y", 4)]) rfl nd (pi_K (K := K) rfl (pv 1)) (blkOk_by (by kernel_rfl)) (fun _ _ _ _ _ => (pg_name (i := 4) nd rfl (Or.inl rfl))) (fun _ _ _ _ _ => pts_nil) (fun _ _ _ _ _ => (pe_callB (all_K (K := K) rfl rfl) (by rfl) T.all (by decide +kernel) (pa_cons (pe_lc (own := [("p", 5), ("q", 6)]) rfl nd (zip_K (K := K) rfl (by rfl) T.zip (pa_cons (pv 4) (pa_cons (pv 3) pa_nil))) (blkOk_by (by kernel_rfl)) (fun _ _ _ _ _ => (tup_K (K := K) (n := 2) rfl rfl (pgs_cons (pg_name (i := 5) nd rfl (Or.inl rfl)) (pgs_cons (pg_name (i := 6) nd rfl (Or.inl rfl)) pgs_nil)))) (fun _ _ _ _ _ => pts_nil) (fun _ _ _ _ _ => (pe_cmpR op_leU (pv 5) (pv 6) (nomark _)))) pa_nil)))) pa_nil)))) pa_nil))))))), ?_⟩
  refine ⟨_, rfl, _, rfl, _, _, rfl, A1, B1, xs, S, rfl, rfl, sB, hx, ne, lS, bdS, tabs, .inl ⟨X, vs, hA, sX, lv, to.rows⟩, fun H1 e1 tabs1 => ⟨_, rfl, iteF ?_⟩⟩
  have hA := same_tup e1 (noT_sqt hA)
  have sB := same_tup e1 (noT_sqt sB)
  have hx := (noT_rows hx).mono e1
  have hR := e1 _ _ (noT_at hR fun _ h => nomatch h)
  have hy := (noT_rows hy).mono e1
  refine ⟨_, rfl, .inr (.inl ⟨B1, rfl, ⟨_, sB⟩, fun D hD => ?_⟩)⟩
  refine lc_map (walk_tup (xs := xs)) (fun _ => .bl true) grow_at (by omega) hD (fun H e => same_tup e sB) ?_ ?_
  · rintro i y G1 G2 hi e ⟨rfl, g⟩ F0 kk
    obtain ⟨t, gt, tV⟩ := line_get (hx.mono e) g
    refine ⟨rfl, _, rfl, _, rfl, rowD (tol t), W.map (fun r => rowD (tol r)), tV.dp, .lst (SqL.of (e _ _ hR)) (rows_all (hy.mono e)), shaped_ln t, shaped_lns W, ?_⟩
    rw [any_eqv, show (W.any fun r => decide (r = t)) = true from List.any_eq_true.mpr ⟨t, to.sub t (List.mem_of_getElem? gt), decide_eq_true rfl⟩]
    exact kk _ (Same.refl _)
  intro H2 e2 hD2
  refine ⟨D, (List.range xs.length).map fun _ => true, rfl, SqL.of (by rw [hD2, List.map_map]; rfl), ?_⟩
  rw [all_true]
  refine ⟨_, rfl, iteF ?_⟩
  have hA := same_tup e2 hA
  refine ⟨_, rfl, .inr (.inl ⟨A1, _, _, _, rfl, rfl, hA, at0, .inl ⟨rfl, _, rfl, iteF ?_⟩⟩)⟩
  refine ⟨_, rfl, .inr (.inl ⟨A1, _, _, _, rfl, rfl, hA, at0, .inl ⟨rfl, _, rfl, iteF ?_⟩⟩)⟩
  have sB := same_tup e2 sB
  have hx := hx.mono e2
  have hR := e2 _ _ hR
  have hy := hy.mono e2
  refine ⟨_, rfl, .inl ⟨R, rfl, ⟨_, SqL.of hR⟩, fun D hD => ?_⟩⟩
  refine lc_map (walk_list (xs := ys)) (fun _ => .bl true) grow_at (by omega) hD (fun H e => SqL.of (e _ _ hR)) ?_ ?_
  · rintro i y G1 G2 hi e ⟨rfl, g⟩ F0 kk
    obtain ⟨q, gq, ⟨U, rfl, sU⟩⟩ := line_get (hy.mono e) g
    have sB := same_tup e sB
    refine ⟨rfl, _, rfl, .inr (.inl ⟨B1, rfl, ⟨_, sB⟩, fun D2 hD2 => ?_⟩)⟩
    refine lc_map (walk_tup (xs := xs)) (fun j => .bl (decide ((S.getD j (0, 0)).1 ≤ q.1) && decide ((S.getD j (0, 0)).2 ≤ q.2))) grow_at (by omega) hD2 (fun H e => same_tup e sB) ?_ ?_
    · rintro j z G3 G4 hj e3 ⟨rfl, g3⟩ F1 kk2
      obtain ⟨t, gt, ⟨U2, rfl, sU2⟩⟩ := line_get ((hx.mono e).mono e3) g3
      rw [getD_of gt] at kk2
      have sU := same_tup e3 sU
      refine ⟨rfl, _, rfl, _, rfl, _, _, _, _, rfl, .inr ⟨sU2, sU, fun D3 hD3 => ?_⟩⟩
      refine lc_map (walk_zipT (n := 2) rfl) (fun m => .bl (decide ((tol t).getD m 0 ≤ (tol q).getD m 0))) grow_pair (by omega) hD3 (fun H e4 => ⟨same_tup e4 sU2, same_tup e4 sU⟩) ?_ ?_
      · rintro m z G5 G6 hm e4 ⟨U4, x1, x2, rfl, nU, rfl, g3, g4⟩ W2 kk3
        obtain ⟨i1, g5, rfl⟩ := int_get g3
        obtain ⟨i2, g6, rfl⟩ := int_get g4
        rw [getD_of g5, getD_of g6] at kk3
        exact ⟨U4, [_, _], rfl, SqT.of upd_same, rfl, _, [_], rfl, _, [], rfl, rfl, rfl, _, rfl, _, rfl, .inl ⟨_, _, rfl, rfl, kk3 _ (Same.refl _)⟩⟩
      · intro H5 e5 hd5
        refine ⟨D3, [decide (t.1 ≤ q.1), decide (t.2 ≤ q.2)], rfl, SqL.of hd5, ?_⟩
        rw [show [decide (t.1 ≤ q.1), decide (t.2 ≤ q.2)].all id = (decide (t.1 ≤ q.1) && decide (t.2 ≤ q.2)) by
          show (decide (t.1 ≤ q.1) && (decide (t.2 ≤ q.2) && true)) = _
          rw [Bool.and_true]]
        exact kk2 _ e5
    · intro H5 e5 hd5
      have hd5 := hd5.trans (congrArg (fun l => some (HO.lst l)) (show _ = (S.map fun r => V.bl (decide (r.1 ≤ q.1) && decide (r.2 ≤ q.2))) by rw [lx]; exact map_range_get (0, 0) (fun r : Ln => V.bl (decide (r.1 ≤ q.1) && decide (r.2 ≤ q.2))) S))
      refine ⟨D2, S.map fun r => decide (r.1 ≤ q.1) && decide (r.2 ≤ q.2), rfl, SqL.of (by rw [hd5, List.map_map]; rfl), ?_⟩
      rw [show (S.map fun r => decide (r.1 ≤ q.1) && decide (r.2 ≤ q.2)).any id = true by
        obtain ⟨r, hr2, c1, c2⟩ := to.cov q (List.mem_of_getElem? gq)
        rw [List.any_map]
        exact List.any_eq_true.mpr ⟨r, hr2, by show (decide _ && decide _) = true; rw [decide_eq_true c1, decide_eq_true c2]; rfl⟩]
      exact kk _ e5
  intro H3 e3 hD3
  refine ⟨D, (List.range ys.length).map fun _ => true, rfl, SqL.of (by rw [hD3, List.map_map]; rfl), ?_⟩
  rw [all_true]
  have e23 := e2.trans e3
  exact k _ (e1.trans e23) (tabs_same tabs1 e23)

end
end Fb

set_option Elab.async false
set_option linter.all false
set_option maxRecDepth 100000
set_option maxHeartbeats 4000000
namespace Fb
open PySem PySem.Spec L2
open PyProof.Rows hiding St
open C8 (Cal Met Mak Def cal0 met0 mak0 pe_c pe_mk pe_mt pe_mt0 fnScope fnBody fnArgs pss_cut tCut)
local macro_rules | `(tactic| walk_at "hp") => `(tactic| first | exact upd_same | assumption | (refine grow (by assumption) _ _ ?_; walk_at "hp") | (refine (show Same _ _ by assumption) _ _ ?_; walk_at "hp"))
local macro_rules | `(tactic| walk_at "sm") => `(tactic| first | exact Same.refl _ | assumption | (refine Same.trans ?_ (grow (by assumption)); walk_at "sm") | (refine Same.trans ?_ (show Same _ _ by assumption); walk_at "sm"))
section
variable {P : Program} {w : World} {K : PySem.W.Frag} {mg : Str → Option Value} {base : Heap}
variable {C_Trade C_Dial : Addr}
/-! ### _law_like -/
def spLike (K : PySem.W.Frag) (n : Nat) : Sp := sp2 fun a b H Q => ∃ d, Lk n d ∧ Dp K H a d ∧ Dp K H b d ∧ Then H Q (.bl true)
theorem c__law_like_n (T : Top K mg C_Trade C_Dial) : ∀ n, Cal P w K mg base (n + 1) "_law_like" (spLike K n) []
  | 0 => by
    obtain ⟨f, fd, F, df⟩ := T.d__law_like
    refine cal_of F df (fn2 F sc__law_like fun cdv A outer s H a b Q E hr h => ?_) fun _ _ _ _ _ _ us hl => match us, hl with | [_, _], _ => rfl
    obtain ⟨d, h, _⟩ := h
    exact h.elim
  | n + 1 => by
    have ih := @c__law_like_n T n
    obtain ⟨f, fd, F, df⟩ := T.d__law_like
    refine cal_of F df (fn2 F sc__law_like fun cdv A outer s H a b Q E hr h => ?_) fun _ _ _ _ _ _ us hl => match us, hl with | [_, _], _ => rfl
    have nd := sc__law_like.nd
    obtain ⟨d, lk, ha, hb, q⟩ := h
    refine ⟨_, (pss_cons 
      (ps_if (pt_val (pe_callB (isi_K (K := K) rfl) (by rfl) T.isinstance (by decide +kernel) (pa_cons (pv 1) (pa_cons (pe_tup (pa_cons (pe_bltn (v := .ty "list") (by rfl) T.list (by decide +kernel) rfl) (pa_cons (pe_bltn (v := .ty "tuple") (by rfl) T.tuple (by decide +kernel) rfl) pa_nil))) pa_nil)))) (pss_cons 
      (ps_if (PW.pt (pw_or (pt_cmpR (ne_K (K := K) rfl hr) (pe_callB (isi_K (K := K) rfl) (by rfl) T.isinstance (by decide +kernel) (pa_cons (pv 0) (pa_cons (pe_bltn (v := .ty "list") (by rfl) T.list (by decide +kernel) rfl) pa_nil))) (pe_callB (isi_K (K := K) rfl) (by rfl) T.isinstance (by decide +kernel) (pa_cons (pv 1) (pa_cons (pe_bltn (v := .ty "list") (by rfl) T.list (by decide +kernel) rfl) pa_nil))) (nomark _)) (pw_or1 (pt_cmpR (ne_K (K := K) rfl hr) (pe_callB (isi_K (K := K) rfl) (by rfl) T.isinstance (by decide +kernel) (pa_cons (pv 0) (pa_cons (pe_bltn (v := .ty "tuple") (by rfl) T.tuple (by decide +kernel) rfl) pa_nil))) (pe_callB (isi_K (K := K) rfl) (by rfl) T.isinstance (by decide +kernel) (pa_cons (pv 1) (pa_cons (pe_bltn (v := .ty "tuple") (by rfl) T.tuple (by decide +kernel) rfl) pa_nil))) (nomark _))))) (pss_one 
      (ps_ret pe_bl)) pss_nil) (pss_one 
      (ps_ret (pe_and (pe_cmpR (eq_K (K := K) rfl hr) (pe_callB (len_K (K := K) rfl) (by rfl) T.len (by decide +kernel) (pa_cons (pv 0) pa_nil)) (pe_callB (len_K (K := K) rfl) (by rfl) T.len (by decide +kernel) (pa_cons (pv 1) pa_nil)) (nomark _)) (pe_one (pe_callB (all_K (K := K) rfl rfl) (by rfl) T.all (by decide +kernel) (pa_cons (pe_lc (own := [("a", 3), ("b", 4)]) rfl nd (zip_K (K := K) rfl (by rfl) T.zip (pa_cons (pv 0) (pa_cons (pv 1) pa_nil))) (blkOk_by (N := ["told", "due", "k", "a", "b"]) (sc := fnScope s__law_like) (by decide +kernel)) (fun _ _ _ _ _ => (tup_K (K := K) (n := 2) rfl rfl (pgs_cons (pg_name (i := 3) nd rfl (Or.inl rfl)) (pgs_cons (pg_name (i := 4) nd rfl (Or.inl rfl)) pgs_nil)))) (fun _ _ _ _ _ => pts_nil) (fun _ _ _ _ _ => (pe_c ih hr (Nat.le_refl _) (by rfl) (pa_cons (pv 3) (pa_cons (pv 4) pa_nil))))) pa_nil))))))) pss_nil) (pss_cons 
      (ps_if (pt_val (pe_callB (isi_K (K := K) rfl) (by rfl) T.isinstance (by decide +kernel) (pa_cons (pv 1) (pa_cons (pe_bltn (v := .ty "dict") (by rfl) T.dict (by decide +kernel) rfl) pa_nil)))) (pss_cons 
      (ps_if (pt_not (pt_val (pe_callB (isi_K (K := K) rfl) (by rfl) T.isinstance (by decide +kernel) (pa_cons (pv 0) (pa_cons (pe_bltn (v := .ty "dict") (by rfl) T.dict (by decide +kernel) rfl) pa_nil))))) (pss_one 
      (ps_ret pe_bl)) pss_nil) (pss_one 
      (ps_ret (pe_c ih hr (Nat.le_refl _) (by rfl) (pa_cons (pe_lc (own := [("k", 2)]) rfl nd (pi_K (K := K) rfl (pv 0)) (blkOk_by (N := ["told", "due", "k", "a", "b"]) (sc := fnScope s__law_like) (by decide +kernel)) (fun _ _ _ _ _ => (pg_name (i := 2) nd rfl (Or.inl rfl))) (fun _ _ _ _ _ => pts_nil) (fun _ _ _ _ _ => (pe_lst (pa_cons (pv 2) (pa_cons (pe_ix (ix_K (K := K) rfl) (pv 0) (pv 2) (fun _ _ => rfl)) pa_nil))))) (pa_cons (pe_lc (own := [("k", 2)]) rfl nd (pi_K (K := K) rfl (pv 1)) (blkOk_by (N := ["told", "due", "k", "a", "b"]) (sc := fnScope s__law_like) (by decide +kernel)) (fun _ _ _ _ _ => (pg_name (i := 2) nd rfl (Or.inl rfl))) (fun _ _ _ _ _ => pts_nil) (fun _ _ _ _ _ => (pe_lst (pa_cons (pv 2) (pa_cons (pe_ix (ix_K (K := K) rfl) (pv 1) (pv 2) (fun _ _ => rfl)) pa_nil))))) pa_nil)))))) pss_nil) (pss_cons 
      (ps_if (PW.pt (pw_or (pt_cmpR op_isN (pv 1) pe_non (nomark _)) (pw_or1 (pt_cmpR op_isN (pv 0) pe_non (nomark _))))) (pss_one 
      (ps_ret (pe_and (pe_cmpR op_isN (pv 1) pe_non (nomark _)) (pe_one (pe_cmpR op_isN (pv 0) pe_non (nomark _)))))) pss_nil) (pss_cons 
      (ps_if (PW.pt (pw_or (pt_val (pe_callB (isi_K (K := K) rfl) (by rfl) T.isinstance (by decide +kernel) (pa_cons (pv 0) (pa_cons (pe_tup (pa_cons (pe_bltn (v := .ty "list") (by rfl) T.list (by decide +kernel) rfl) (pa_cons (pe_bltn (v := .ty "tuple") (by rfl) T.tuple (by decide +kernel) rfl) (pa_cons (pe_bltn (v := .ty "dict") (by rfl) T.dict (by decide +kernel) rfl) pa_nil)))) pa_nil)))) (pw_or1 (pt_cmpR (ne_K (K := K) rfl hr) (pe_callB (isi_K (K := K) rfl) (by rfl) T.isinstance (by decide +kernel) (pa_cons (pv 0) (pa_cons (pe_bltn (v := .ty "bool") (by rfl) T.bool (by decide +kernel) rfl) pa_nil))) (pe_callB (isi_K (K := K) rfl) (by rfl) T.isinstance (by decide +kernel) (pa_cons (pv 1) (pa_cons (pe_bltn (v := .ty "bool") (by rfl) T.bool (by decide +kernel) rfl) pa_nil))) (nomark _))))) (pss_one 
      (ps_ret pe_bl)) pss_nil) (pss_cons 
      (ps_if (PW.pt (pw_or (pt_cmpR (ne_K (K := K) rfl hr) (pe_callB (isi_K (K := K) rfl) (by rfl) T.isinstance (by decide +kernel) (pa_cons (pv 0) (pa_cons (pe_bltn (v := .ty "str") (by rfl) T.str (by decide +kernel) rfl) pa_nil))) (pe_callB (isi_K (K := K) rfl) (by rfl) T.isinstance (by decide +kernel) (pa_cons (pv 1) (pa_cons (pe_bltn (v := .ty "str") (by rfl) T.str (by decide +kernel) rfl) pa_nil))) (nomark _)) (pw_or1 (pt_cmpR (ne_K (K := K) rfl hr) (pe_callB (isi_K (K := K) rfl) (by rfl) T.isinstance (by decide +kernel) (pa_cons (pv 0) (pa_cons (pe_bltn (v := .ty "int") (by rfl) T.int (by decide +kernel) rfl) pa_nil))) (pe_callB (isi_K (K := K) rfl) (by rfl) T.isinstance (by decide +kernel) (pa_cons (pv 1) (pa_cons (pe_bltn (v := .ty "int") (by rfl) T.int (by decide +kernel) rfl) pa_nil))) (nomark _))))) (pss_one 
      (ps_ret pe_bl)) pss_nil) (pss_one 
      (ps_ret (pe_callTy call_bool1 (by rfl) T.bool (by decide +kernel) (pa_cons (pe_cmpR (eq_K (K := K) rfl hr) (pv 0) (pv 1) (nomark _)) pa_nil))))))))), ?_⟩
    have tb := dp_ty hb
    have ta := dp_ty ha
    cases d with
    | dict _ => exact lk.elim
    | none =>
      cases hb
      cases ha
      refine ⟨_, rfl, by decide, fun t nt => .inr ⟨_, _, ["list", "tuple"], "NoneType", false, rfl, upd_same, ty_mono .non (grow nt), by decide +kernel, _, rfl, iteF ?_⟩⟩
      refine ⟨_, rfl, .inl ⟨_, _, _, false, rfl, .base .non, by decide +kernel, _, rfl, iteF ?_⟩⟩
      refine ⟨_, rfl, rfl, _, rfl, iteT ⟨_, rfl, rfl, _, rfl, iteT ⟨_, rfl, rfl, q _ (grow nt)⟩⟩⟩
    | bool x =>
      cases hb
      cases ha
      refine ⟨_, rfl, by decide, fun t nt => .inr ⟨_, _, ["list", "tuple"], "bool", false, rfl, upd_same, .base (.bl x), by decide +kernel, _, rfl, iteF ?_⟩⟩
      refine ⟨_, rfl, .inl ⟨_, _, _, false, rfl, .base (.bl x), by decide +kernel, _, rfl, iteF ?_⟩⟩
      refine ⟨_, rfl, rfl, _, rfl, iteF ⟨_, rfl, rfl, _, rfl, iteF ?_⟩⟩
      refine ⟨_, rfl, by decide, fun t2 nt2 => .inr ⟨_, _, ["list", "tuple", "dict"], "bool", false, rfl, upd_same, .base (.bl x), by decide +kernel, _, rfl, iteF ?_⟩⟩
      refine ⟨_, rfl, .inl ⟨_, _, _, true, rfl, .base (.bl x), by decide +kernel, ⟨_, rfl, .inl ⟨_, _, _, true, rfl, .base (.bl x), by decide +kernel, .inl ⟨rfl, _, rfl, iteF ?_⟩⟩⟩⟩⟩
      refine ⟨_, rfl, .inl ⟨_, _, _, false, rfl, .base (.bl x), by decide +kernel, ⟨_, rfl, .inl ⟨_, _, _, false, rfl, .base (.bl x), by decide +kernel, .inl ⟨rfl, _, rfl, iteF ?_⟩⟩⟩⟩⟩
      refine ⟨_, rfl, .inl ⟨_, _, _, true, rfl, .base (.bl x), by decide +kernel, ⟨_, rfl, .inl ⟨_, _, _, true, rfl, .base (.bl x), by decide +kernel, .inl ⟨rfl, _, rfl, iteF ?_⟩⟩⟩⟩⟩
      refine ⟨_, rfl, _, rfl, .inl ⟨rfl, .inr ⟨_, rfl, ?_⟩⟩⟩
      rw [decide_eq_true (rfl : V.bl x = V.bl x)]
      exact q _ ((grow nt).trans (grow nt2))
    | int x =>
      cases hb
      cases ha
      refine ⟨_, rfl, by decide, fun t nt => .inr ⟨_, _, ["list", "tuple"], "int", false, rfl, upd_same, .base (.int x), by decide +kernel, _, rfl, iteF ?_⟩⟩
      refine ⟨_, rfl, .inl ⟨_, _, _, false, rfl, .base (.int x), by decide +kernel, _, rfl, iteF ?_⟩⟩
      refine ⟨_, rfl, rfl, _, rfl, iteF ⟨_, rfl, rfl, _, rfl, iteF ?_⟩⟩
      refine ⟨_, rfl, by decide, fun t2 nt2 => .inr ⟨_, _, ["list", "tuple", "dict"], "int", false, rfl, upd_same, .base (.int x), by decide +kernel, _, rfl, iteF ?_⟩⟩
      refine ⟨_, rfl, .inl ⟨_, _, _, false, rfl, .base (.int x), by decide +kernel, ⟨_, rfl, .inl ⟨_, _, _, false, rfl, .base (.int x), by decide +kernel, .inl ⟨rfl, _, rfl, iteF ?_⟩⟩⟩⟩⟩
      refine ⟨_, rfl, .inl ⟨_, _, _, false, rfl, .base (.int x), by decide +kernel, ⟨_, rfl, .inl ⟨_, _, _, false, rfl, .base (.int x), by decide +kernel, .inl ⟨rfl, _, rfl, iteF ?_⟩⟩⟩⟩⟩
      refine ⟨_, rfl, .inl ⟨_, _, _, true, rfl, .base (.int x), by decide +kernel, ⟨_, rfl, .inl ⟨_, _, _, true, rfl, .base (.int x), by decide +kernel, .inl ⟨rfl, _, rfl, iteF ?_⟩⟩⟩⟩⟩
      refine ⟨_, rfl, _, rfl, .inl ⟨rfl, .inr ⟨_, rfl, ?_⟩⟩⟩
      rw [decide_eq_true (rfl : V.int x = V.int x)]
      exact q _ ((grow nt).trans (grow nt2))
    | str x =>
      cases hb
      cases ha
      refine ⟨_, rfl, by decide, fun t nt => .inr ⟨_, _, ["list", "tuple"], "str", false, rfl, upd_same, .base (.str x), by decide +kernel, _, rfl, iteF ?_⟩⟩
      refine ⟨_, rfl, .inl ⟨_, _, _, false, rfl, .base (.str x), by decide +kernel, _, rfl, iteF ?_⟩⟩
      refine ⟨_, rfl, rfl, _, rfl, iteF ⟨_, rfl, rfl, _, rfl, iteF ?_⟩⟩
      refine ⟨_, rfl, by decide, fun t2 nt2 => .inr ⟨_, _, ["list", "tuple", "dict"], "str", false, rfl, upd_same, .base (.str x), by decide +kernel, _, rfl, iteF ?_⟩⟩
      refine ⟨_, rfl, .inl ⟨_, _, _, false, rfl, .base (.str x), by decide +kernel, ⟨_, rfl, .inl ⟨_, _, _, false, rfl, .base (.str x), by decide +kernel, .inl ⟨rfl, _, rfl, iteF ?_⟩⟩⟩⟩⟩
      refine ⟨_, rfl, .inl ⟨_, _, _, true, rfl, .base (.str x), by decide +kernel, ⟨_, rfl, .inl ⟨_, _, _, true, rfl, .base (.str x), by decide +kernel, .inl ⟨rfl, _, rfl, iteF ?_⟩⟩⟩⟩⟩
      refine ⟨_, rfl, .inl ⟨_, _, _, false, rfl, .base (.str x), by decide +kernel, ⟨_, rfl, .inl ⟨_, _, _, false, rfl, .base (.str x), by decide +kernel, .inl ⟨rfl, _, rfl, iteF ?_⟩⟩⟩⟩⟩
      refine ⟨_, rfl, _, rfl, .inl ⟨rfl, .inr ⟨_, rfl, ?_⟩⟩⟩
      rw [decide_eq_true (rfl : V.str x = V.str x)]
      exact q _ ((grow nt).trans (grow nt2))
    | list ds =>
      obtain ⟨hl, lks⟩ := lk
      cases hb with
      | lst sb db =>
      cases ha with
      | lst sa da =>
      rename_i bb ys aa xs
      have l1 := dpAll_len da
      have l2 := dpAll_len db
      refine ⟨_, rfl, by decide, fun t nt => .inr ⟨_, _, ["list", "tuple"], "list", true, rfl, upd_same, sql_ty (Same.seq (grow nt) sb), by decide +kernel, _, rfl, iteT ?_⟩⟩
      have sa := Same.seq (grow (o := .tup (["list", "tuple"].map V.ty)) nt) sa
      have sb := Same.seq (grow (o := .tup (["list", "tuple"].map V.ty)) nt) sb
      have da := dpAll_mono (grow (o := .tup (["list", "tuple"].map V.ty)) nt) ds da
      have db := dpAll_mono (grow (o := .tup (["list", "tuple"].map V.ty)) nt) ds db
      refine ⟨_, rfl, .inl ⟨_, _, _, true, rfl, sql_ty sa, by decide +kernel, ⟨_, rfl, .inl ⟨_, _, _, true, rfl, sql_ty sb, by decide +kernel, .inl ⟨rfl, _, rfl, iteF ?_⟩⟩⟩⟩⟩
      refine ⟨_, rfl, .inl ⟨_, _, _, false, rfl, sql_ty sa, by decide +kernel, ⟨_, rfl, .inl ⟨_, _, _, false, rfl, sql_ty sb, by decide +kernel, .inl ⟨rfl, _, rfl, iteF ?_⟩⟩⟩⟩⟩
      refine ⟨_, rfl, .inl ⟨_, _, rfl, .inl sa, ⟨_, rfl, .inl ⟨_, _, rfl, .inl sb, .inl ⟨rfl, _, rfl, ?_⟩⟩⟩⟩⟩
      rw [decide_eq_true (show V.int xs.length = V.int ys.length by rw [l1, l2])]
      refine iteT ⟨_, rfl, _, rfl, _, _, xs, ys, rfl, .inl ⟨sa, sb, fun D hD => ?_⟩⟩
      refine lc_map (walk_zip (n := ds.length) (by omega)) (fun _ => .bl true) grow_pair hl hD (fun H1 e => ⟨Same.seq e sa, Same.seq e sb⟩) ?_ ?_
      · rintro i x H1 H2 hi e ⟨T, x1, x2, rfl, nT, rfl, g1, g2⟩ R k
        obtain ⟨d1, h1, p1⟩ := dpAll_get da g1
        obtain ⟨d2, h2, p2⟩ := dpAll_get db g2
        have ed : d2 = d1 := Option.some.inj (h2.symm.trans h1)
        subst ed
        have e2 := e.trans (grow (o := .tup [x1, x2]) nT)
        exact ⟨T, [x1, x2], rfl, SqT.of upd_same, rfl, x1, [x2], rfl, x2, [], rfl, rfl, rfl, _, rfl, _, rfl, _, _, rfl, d2, lk_item lks h1, dp_mono e2 _ p1, dp_mono e2 _ p2, k⟩
      · intro H1 e hd
        refine ⟨D, (List.range ds.length).map fun _ => true, rfl, SqL.of (by rw [hd, List.map_map]; rfl), ?_⟩
        rw [all_true]
        exact q _ ((grow nt).trans e)
    | tuple ds =>
      obtain ⟨hl, lks⟩ := lk
      cases hb with
      | tup sb db =>
      cases ha with
      | tup sa da =>
      rename_i bb ys aa xs
      have l1 := dpAll_len da
      have l2 := dpAll_len db
      refine ⟨_, rfl, by decide, fun t nt => .inr ⟨_, _, ["list", "tuple"], "tuple", true, rfl, upd_same, sqt_ty (same_tup (grow nt) sb), by decide +kernel, _, rfl, iteT ?_⟩⟩
      have sa := same_tup (grow (o := .tup (["list", "tuple"].map V.ty)) nt) sa
      have sb := same_tup (grow (o := .tup (["list", "tuple"].map V.ty)) nt) sb
      have da := dpAll_mono (grow (o := .tup (["list", "tuple"].map V.ty)) nt) ds da
      have db := dpAll_mono (grow (o := .tup (["list", "tuple"].map V.ty)) nt) ds db
      refine ⟨_, rfl, .inl ⟨_, _, _, false, rfl, sqt_ty sa, by decide +kernel, ⟨_, rfl, .inl ⟨_, _, _, false, rfl, sqt_ty sb, by decide +kernel, .inl ⟨rfl, _, rfl, iteF ?_⟩⟩⟩⟩⟩
      refine ⟨_, rfl, .inl ⟨_, _, _, true, rfl, sqt_ty sa, by decide +kernel, ⟨_, rfl, .inl ⟨_, _, _, true, rfl, sqt_ty sb, by decide +kernel, .inl ⟨rfl, _, rfl, iteF ?_⟩⟩⟩⟩⟩
      refine ⟨_, rfl, .inl ⟨_, _, rfl, .inr sa, ⟨_, rfl, .inl ⟨_, _, rfl, .inr sb, .inl ⟨rfl, _, rfl, ?_⟩⟩⟩⟩⟩
      rw [decide_eq_true (show V.int xs.length = V.int ys.length by rw [l1, l2])]
      refine iteT ⟨_, rfl, _, rfl, _, _, xs, ys, rfl, .inr ⟨sa, sb, fun D hD => ?_⟩⟩
      refine lc_map (walk_zipT (n := ds.length) (by omega)) (fun _ => .bl true) grow_pair hl hD (fun H1 e => ⟨same_tup e sa, same_tup e sb⟩) ?_ ?_
      · rintro i x H1 H2 hi e ⟨T, x1, x2, rfl, nT, rfl, g1, g2⟩ R k
        obtain ⟨d1, h1, p1⟩ := dpAll_get da g1
        obtain ⟨d2, h2, p2⟩ := dpAll_get db g2
        have ed : d2 = d1 := Option.some.inj (h2.symm.trans h1)
        subst ed
        have e2 := e.trans (grow (o := .tup [x1, x2]) nT)
        exact ⟨T, [x1, x2], rfl, SqT.of upd_same, rfl, x1, [x2], rfl, x2, [], rfl, rfl, rfl, _, rfl, _, rfl, _, _, rfl, d2, lk_item lks h1, dp_mono e2 _ p1, dp_mono e2 _ p2, k⟩
      · intro H1 e hd
        refine ⟨D, (List.range ds.length).map fun _ => true, rfl, SqL.of (by rw [hd, List.map_map]; rfl), ?_⟩
        rw [all_true]
        exact q _ ((grow nt).trans e)
theorem c__law_like (T : Top K mg C_Trade C_Dial) : Cal P w K mg base 8 "_law_like" (spLike K 7) [] := c__law_like_n T 7

end
end Fb

set_option Elab.async false
set_option linter.all false
set_option maxRecDepth 100000
set_option maxHeartbeats 4000000
namespace Fb
open PySem PySem.Spec L2
open PyProof.Rows hiding St
open C8 (Cal Met Mak Def cal0 met0 mak0 pe_c pe_mk pe_mt pe_mt0 fnScope fnBody fnArgs pss_cut tCut)
local macro_rules | `(tactic| walk_at "hp") => `(tactic| first | exact upd_same | assumption | (refine grow (by assumption) _ _ ?_; walk_at "hp") | (refine (show Same _ _ by assumption) _ _ ?_; walk_at "hp"))
local macro_rules | `(tactic| walk_at "sm") => `(tactic| first | exact Same.refl _ | assumption | (refine Same.trans ?_ (grow (by assumption)); walk_at "sm") | (refine Same.trans ?_ (show Same _ _ by assumption); walk_at "sm"))
section
variable {P : Program} {w : World} {K : PySem.W.Frag} {mg : Str → Option Value} {base : Heap}
variable {C_Trade C_Dial : Addr}
/-! ### _law_fee -/
def spFee : Sp := sp1 fun a H Q => ∃ (p : Addr), a = .ref p ∧ BagAt H p ∧ ∀ d : Int, 0 ≤ d → d < 1000000 → Q (.int d) H
theorem c__law_fee (T : Top K mg C_Trade C_Dial) : Cal P w K mg base 2 "_law_fee" spFee [] := by
  obtain ⟨f, fd, F, df⟩ := T.d__law_fee
  refine cal_of F df (fn1 F sc__law_fee fun cdv A outer s H a Q E hr h => ?_) fun _ _ _ _ _ _ us hl => match us, hl with | [_], _ => rfl
  have nd := sc__law_fee.nd
  obtain ⟨p, rfl, hb, k⟩ := h
  refine ⟨_, (pss_cons 
      (ps_set (i := 1) nd rfl (Or.inl rfl) (pe_c (c__law_draw T) hr (by decide) (by rfl) (pa_cons (pv 0) (pa_cons pe_int pa_nil)))) (pss_cons 
      (ps_if (pt_cmpR (lt_K (K := K) rfl hr) (pv 1) pe_int (nomark _)) (pss_one 
      (ps_ret (pe_op op_fdivW (pv 1) pe_int))) pss_nil) (pss_one 
      (ps_ret (pe_c (c__law_draw T) hr (by decide) (by rfl) (pa_cons (pv 0) (pa_cons pe_int pa_nil))))))), ?_⟩
  refine ⟨_, rfl, _, _, rfl, p, 20, rfl, rfl, hb, by decide, small_log (by decide) (by decide), fun d d0 d1 => ?_⟩
  refine ⟨_, rfl, .inl ⟨_, _, rfl, rfl, _, rfl, ite2 (fun c1 => ?_) (fun c1 => ?_)⟩⟩
  · refine ⟨_, rfl, _, _, rfl, rfl, ⟨by decide, Nat.lt_of_le_of_lt (Nat.le_of_eq rfl) (by decide)⟩, k _ (by omega) (by omega)⟩
  · exact ⟨_, rfl, _, _, rfl, p, 1000000, rfl, rfl, hb, by decide, small_log (by decide) (by decide), fun d d0 d1 => k d d0 d1⟩

end
end Fb

set_option Elab.async false
set_option linter.all false
set_option maxRecDepth 100000
set_option maxHeartbeats 4000000
namespace Fb
open PySem PySem.Spec L2
open PyProof.Rows hiding St
open C8 (Cal Met Mak Def cal0 met0 mak0 pe_c pe_mk pe_mt pe_mt0 fnScope fnBody fnArgs pss_cut tCut)
local macro_rules | `(tactic| walk_at "hp") => `(tactic| first | exact upd_same | assumption | (refine grow (by assumption) _ _ ?_; walk_at "hp") | (refine (show Same _ _ by assumption) _ _ ?_; walk_at "hp"))
local macro_rules | `(tactic| walk_at "sm") => `(tactic| first | exact Same.refl _ | assumption | (refine Same.trans ?_ (grow (by assumption)); walk_at "sm") | (refine Same.trans ?_ (show Same _ _ by assumption); walk_at "sm"))
section
variable {P : Program} {w : World} {K : PySem.W.Frag} {mg : Str → Option Value} {base : Heap}
variable {C_Trade C_Dial : Addr}
/-! ### is_setting -/
def spIsSet (K : PySem.W.Frag) : Sp := sp2 fun a b H Q => ∃ (W : Addr) (st : Ln) (roof : Int), a = .ref W ∧ SqT K H W [.int st.1, .int st.2] ∧ b = .int roof ∧ 1 ≤ roof ∧ roof ≤ 1000000 ∧ SetB roof 10000 st ∧ Then H Q (.bl true)
theorem c_is_setting (T : Top K mg C_Trade C_Dial) : Cal P w K mg base 2 "is_setting" (spIsSet K) [] := by
  obtain ⟨f, fd, F, df⟩ := T.d_is_setting
  refine cal_of F df (fn2 F sc_is_setting fun cdv A outer s H a b Q E hr h => ?_) fun _ _ _ _ _ _ us hl => match us, hl with | [_, _], _ => rfl
  have nd := sc_is_setting.nd
  obtain ⟨W, st, roof, rfl, sW, rfl, r0, r1, ⟨s1, s2, s3, s4⟩, k⟩ := h
  refine ⟨_, (pss_cons 
      (ps_if (PW.pt (pw_or (pt_not (pt_val (pe_callB (isi_K (K := K) rfl) (by rfl) T.isinstance (by decide +kernel) (pa_cons (pv 0) (pa_cons (pe_bltn (v := .ty "tuple") (by rfl) T.tuple (by decide +kernel) rfl) pa_nil))))) (pw_or1 (pt_cmpR (ne_K (K := K) rfl hr) (pe_callB (len_K (K := K) rfl) (by rfl) T.len (by decide +kernel) (pa_cons (pv 0) pa_nil)) pe_int (nomark _))))) (pss_one 
      (ps_ret pe_bl)) pss_nil) (pss_one 
      (ps_ret (pe_and (pe_c (c_is_number_2 T) hr (by decide) (by rfl) (pa_cons (pe_ix (ix_K (K := K) rfl) (pv 0) pe_int (fun _ _ => rfl)) (pa_cons pe_int pa_nil))) (pe_one (pe_c (c_is_number_3 T) hr (by decide) (by rfl) (pa_cons (pe_ix (ix_K (K := K) rfl) (pv 0) pe_int (fun _ _ => rfl)) (pa_cons pe_int (pa_cons (pe_op op_mul (pv 1) (pe_ix (ix_K (K := K) rfl) (pv 0) pe_int (fun _ _ => rfl))) pa_nil))))))))), ?_⟩
  refine ⟨_, rfl, .inl ⟨_, _, _, true, rfl, sqt_ty sW, by decide +kernel, _, rfl, iteF ?_⟩⟩
  refine ⟨_, rfl, .inl ⟨W, _, rfl, .inr sW, .inl ⟨rfl, _, rfl, iteF ?_⟩⟩⟩
  refine ⟨_, rfl, .inr (.inl ⟨W, _, _, _, rfl, rfl, sW, at1, _, _, _, rfl, 1, none, any_int _, rfl, rfl, ?_⟩)⟩
  rw [show numB (.int st.2) 1 none = true by show (decide (1 ≤ st.2) && true) = true; rw [decide_eq_true (by omega)]; rfl]
  refine ⟨_, rfl, iteT ?_⟩
  refine ⟨_, rfl, .inr (.inl ⟨W, _, _, _, rfl, rfl, sW, at0, _, rfl, _, rfl, .inr (.inl ⟨W, _, _, _, rfl, rfl, sW, at1, _, _, rfl, rfl, .inl ⟨by omega, by omega⟩, _, _, _, rfl, 0, some (roof * st.2), any_int _, rfl, rfl, ?_⟩)⟩)⟩
  rw [show numB (.int st.1) 0 (some (roof * st.2)) = true by show (decide (0 ≤ st.1) && decide (st.1 ≤ roof * st.2)) = true; rw [decide_eq_true s1, decide_eq_true s3]; rfl]
  exact k _ (Same.refl _)

end
end Fb

set_option Elab.async false
set_option linter.all false
set_option maxRecDepth 100000
set_option maxHeartbeats 4000000
namespace Fb
open PySem PySem.Spec L2
open PyProof.Rows hiding St
open C8 (Cal Met Mak Def cal0 met0 mak0 pe_c pe_mk pe_mt pe_mt0 fnScope fnBody fnArgs pss_cut tCut)
local macro_rules | `(tactic| walk_at "hp") => `(tactic| first | exact upd_same | assumption | (refine grow (by assumption) _ _ ?_; walk_at "hp") | (refine (show Same _ _ by assumption) _ _ ?_; walk_at "hp"))
local macro_rules | `(tactic| walk_at "sm") => `(tactic| first | exact Same.refl _ | assumption | (refine Same.trans ?_ (grow (by assumption)); walk_at "sm") | (refine Same.trans ?_ (show Same _ _ by assumption); walk_at "sm"))
section
variable {P : Program} {w : World} {K : PySem.W.Frag} {mg : Str → Option Value} {base : Heap}
variable {C_Trade C_Dial : Addr}
/-! ### read_dial -/
def spReadDial (K : PySem.W.Frag) (C : Addr) : Sp := sp3 fun a b c H Q => ∃ (p A W : Addr) (xs : List V) (S : List Ln) (st : Ln) (roof : Int), a = .ref p ∧ DialW C H p roof ∧ b = .ref A ∧ SqT K H A xs ∧ RowsV K H xs (S.map tol) ∧ S ≠ [] ∧ S.length ≤ 1000 ∧ (∀ r ∈ S, BdH r) ∧ c = .ref W ∧ SqT K H W [.int st.1, .int st.2] ∧ 1 ≤ roof ∧ roof ≤ 1000000 ∧ SetB roof 10000 st ∧
  ∀ (m : Int) H', Same H H' → LeastAt S st.1 st.2 m → Q (.int m) H'
theorem ok_read_dial (T : Top K mg C_Trade C_Dial) {f : Addr} {fd : FuncData} (F : Def K mg "read_dial" s_read_dial f fd) : FnOk P w K mg base C8.CX0 3 f fd ["measure", "value", "setting"] (spReadDial K C_Dial) := by
  refine fn3 F sc_read_dial fun cdv A outer s H a b c Q E hr h => ?_
  have nd := sc_read_dial.nd
  obtain ⟨p, A1, W, xs, S, st, roof, rfl, hp, rfl, hA, hx, ne, lS, bd, rfl, sW, r0, r1, sb, k⟩ := h
  have lx := hx.len
  rw [List.length_map] at lx
  have z0 := List.length_pos_iff.mpr ne
  refine ⟨_, (pss_cons 
      (ps_if (pt_not (pt_val (pe_c (c_is_setting T) hr (by decide) (by rfl) (pa_cons (pv 2) (pa_cons (pe_fld (pv 0) rfl) pa_nil))))) (pss_one 
      ps_never) pss_nil) (pss_cons 
      (ps_asg (pv 2) (tup_K (K := K) (n := 2) rfl rfl (pgs_cons (pg_name (i := 3) nd rfl (Or.inr rfl)) (pgs_cons (pg_name (i := 4) nd rfl (Or.inr rfl)) pgs_nil)))) (pss_one 
      (ps_ret (pe_callB (cr_min rfl) (by rfl) T.min (by decide +kernel) (pa_cons (pe_lc (own := [("a", 5), ("b", 6)]) rfl nd (pi_K (K := K) rfl (pv 1)) (blkOk_by (N := ["measure", "value", "setting", "over", "under", "a", "b"]) (sc := fnScope s_read_dial) (by decide +kernel)) (fun _ _ _ _ _ => (tup_K (K := K) (n := 2) rfl rfl (pgs_cons (pg_name (i := 5) nd rfl (Or.inl rfl)) (pgs_cons (pg_name (i := 6) nd rfl (Or.inl rfl)) pgs_nil)))) (fun _ _ _ _ _ => pts_nil) (fun _ _ _ _ _ => (pe_op op_addU (pe_op op_mul (pv 5) (pv 4)) (pe_op op_mul (pv 6) (pv 3))))) pa_nil)))))), ?_⟩
  obtain ⟨dx, t0, w1, w2, hx0⟩ := id hp
  obtain ⟨s1, s2, s3, s4⟩ := sb.bd r0 r1 (by decide)
  refine ⟨_, rfl, _, rfl, p, C_Dial, dx, _, _, rfl, hx0, T.cl_Dial, T.na_Dial_top, dfw_top _ _ _ _, _, _, rfl, W, st, roof, rfl, sW, rfl, r0, r1, sb, fun H1 e1 => ⟨_, rfl, iteF ?_⟩⟩
  have sW := same_tup e1 sW
  have hA := same_tup e1 hA
  have hx := hx.mono e1
  refine ⟨_, rfl, W, _, rfl, sW, rfl, _, _, rfl, _, _, rfl, rfl, ?_⟩
  refine ⟨_, rfl, .inr (.inl ⟨A1, rfl, ⟨_, hA⟩, fun D hD => ?_⟩)⟩
  refine lc_map (walk_tup (xs := xs)) (fun i => .int (vA (S.getD i (0, 0)) st.1 st.2)) grow_at (by omega) hD (fun H e => same_tup e hA) ?_ ?_
  · rintro i x H2 H3 hi e ⟨rfl, g⟩ R kk
    obtain ⟨t, gt, ⟨U, rfl, sU⟩⟩ := line_get (hx.mono e) g
    obtain ⟨b1, b2, b3, b4⟩ := bd t (List.mem_of_getElem? gt)
    rw [getD_of gt] at kk
    refine ⟨U, _, rfl, sU, rfl, _, _, rfl, _, _, rfl, rfl, rfl, ?_⟩
    refine ⟨_, rfl, _, rfl, _, _, rfl, rfl, .inr ⟨by omega, by omega⟩, _, rfl, _, rfl, _, _, rfl, rfl, .inr ⟨by omega, by omega⟩, ?_⟩
    exact .inl ⟨_, _, rfl, rfl, kk _ (Same.refl _)⟩
  · intro H5 e5 hd5
    have hd5 := hd5.trans (congrArg (fun l => some (HO.lst l)) (show _ = (S.map fun r => V.int (vA r st.1 st.2)) by rw [lx]; exact map_range_get (0, 0) (fun r : Ln => V.int (vA r st.1 st.2)) S))
    exact ⟨D, S.map fun r => vA r st.1 st.2, rfl, SqL.of (by rw [hd5, List.map_map]; rfl), by rw [List.length_map]; exact z0, fun m h1 h2 => k m _ (e1.trans e5) (least_of_min h1 h2)⟩

theorem k_read_dial_0_setting_value_measure (T : Top K mg C_Trade C_Dial) : CalK P w K mg base 3 "read_dial" (spReadDial K C_Dial) 0 ["setting", "value", "measure"] (fun vs zs => pick vs [] zs [(2, 2), (2, 1), (2, 0)]) := by
  obtain ⟨f, fd, F, df⟩ := T.d_read_dial
  exact ⟨f, fd, _, _, ok_read_dial T F, F.mgf, F.kp, nod_kbn (ps := ["measure", "value", "setting"]) (ks := ["setting", "value", "measure"]) F df 0 [(2, 2), (2, 1), (2, 0)] fun _ _ _ _ _ _ us ws l1 l2 => match us, ws, l1, l2 with | [], [_, _, _], _, _ => rfl⟩
theorem c_read_dial (T : Top K mg C_Trade C_Dial) : Cal P w K mg base 3 "read_dial" (spReadDial K C_Dial) [] := by
  obtain ⟨f, fd, F, df⟩ := T.d_read_dial
  exact cal_of F df (ok_read_dial T F) fun _ _ _ _ _ _ us hl => match us, hl with | [_, _, _], _ => rfl

end
end Fb

set_option Elab.async false
set_option linter.all false
set_option maxRecDepth 100000
set_option maxHeartbeats 4000000
namespace Fb
open PySem PySem.Spec L2
open PyProof.Rows hiding St
open C8 (Cal Met Mak Def cal0 met0 mak0 pe_c pe_mk pe_mt pe_mt0 fnScope fnBody fnArgs pss_cut tCut)
local macro_rules | `(tactic| walk_at "hp") => `(tactic| first | exact upd_same | assumption | (refine grow (by assumption) _ _ ?_; walk_at "hp") | (refine (show Same _ _ by assumption) _ _ ?_; walk_at "hp"))
local macro_rules | `(tactic| walk_at "sm") => `(tactic| first | exact Same.refl _ | assumption | (refine Same.trans ?_ (grow (by assumption)); walk_at "sm") | (refine Same.trans ?_ (show Same _ _ by assumption); walk_at "sm"))
section
variable {P : Program} {w : World} {K : PySem.W.Frag} {mg : Str → Option Value} {base : Heap}
variable {C_Trade C_Dial : Addr}
/-! ### law -/
def spLaw72 (K : PySem.W.Frag) (PL : Addr) : Sp := sp1 fun a H Q => ∃ (l : Addr) (ns : List Int), a = .ref l ∧ SqL K H l (ns.map V.int) ∧ LamX.Tabs [(PL, qL)] H ∧ ∀ H', Q (.bl true) H'
theorem roof_in {z : V} (h : z ∈ ([.int 1, .int 2, .int 3, .int 4, .int 5, .int 7, .int 100, .int 1000000] : List V)) : ∃ n : Int, z = .int n ∧ 1 ≤ n ∧ n ≤ 1000000 := by
  simp only [List.mem_cons, List.not_mem_nil, or_false] at h
  rcases h with rfl | rfl | rfl | rfl | rfl | rfl | rfl | rfl
  all_goals exact ⟨_, rfl, by decide, by decide⟩
theorem ok_law {cL PL : Addr} (T : Top K mg C_Trade C_Dial) (L : TopL K mg base cL PL) {f : Addr} {fd : FuncData} (F : Def K mg "law" s_law f fd) : FnOk P w K mg base C8.CX0 13 f fd ["script"] (spLaw72 K PL) := by
  refine fn1 F sc_law fun cdv A outer s H a Q E hr h => ?_
  have nd := sc_law.nd
  obtain ⟨l, ns, rfl, hs, tabs0, k⟩ := h
  refine ⟨_, (pss_cons 
      (ps_set (i := 1) nd rfl (Or.inr rfl) (pe_c (c__law_bag T) hr (by decide) (by rfl) (pa_cons (pv 0) pa_nil))) (pss_cons 
      (ps_for PassesOwn.never rfl (pi_range1 (by rfl) T.range (pa_cons pe_int pa_nil)) (pg_name (i := 2) nd rfl (Or.inl rfl)) (pss_cons 
      (ps_set (i := 3) nd rfl (Or.inl rfl) (pe_c (c__law_titles T) hr (by decide) (by rfl) (pa_cons (pv 1) (pa_cons pe_int pa_nil)))) (pss_cons 
      (ps_set (i := 4) nd rfl (Or.inr rfl) (pe_c (c__law_of T) hr (by decide) (by rfl) (pa_cons (pv 1) (pa_cons (pe_lst (pa_cons pe_int (pa_cons pe_int (pa_cons pe_int (pa_cons pe_int (pa_cons pe_int (pa_cons pe_int (pa_cons pe_int (pa_cons pe_int pa_nil))))))))) pa_nil)))) (pss_cons 
      (ps_par (i := 13) (j := 14) rfl nd rfl rfl (by decide) rfl rfl (pa_cons (pe_mkS (c_Trade___init__ T) hr (by decide) (by rfl) (pa_cons (pe_ix (ix_K (K := K) rfl) (pv 3) pe_int (fun _ _ => rfl)) (pa_cons (pe_ix (ix_K (K := K) rfl) (pv 3) pe_int (fun _ _ => rfl)) pa_nil))) (pa_cons (pe_mk (c_Dial___init__ T) hr (by decide) (by rfl) (pa_cons (pe_ix (ix_K (K := K) rfl) (pv 3) pe_int (fun _ _ => rfl)) (pa_cons (pe_ix (ix_K (K := K) rfl) (pv 3) pe_int (fun _ _ => rfl)) (pa_cons (pv 4) pa_nil)))) pa_nil)) (by rfl)) (pss_cons 
      (ps_setLc (i := 5) (own := [("j", 16)]) rfl nd rfl rfl (sw_true rfl rfl rfl (by decide +kernel)) (pi_range1 (by rfl) T.range (pa_cons pe_int pa_nil)) (blkOk_by (N := ["script", "bag", "turn", "titles", "roof", "lots", "pairs_y", "rays", "tree", "told", "seen", "listed", "x", "trade", "dial", "due", "j", "k"]) (sc := fnScope s_law) (by decide +kernel)) (fun _ _ _ _ _ => (pg_name (i := 16) nd rfl (Or.inl rfl))) (fun _ _ _ _ _ => pts_nil) (fun _ _ _ _ _ => (pe_lc (own := [("k", 17)]) rfl nd (pi_range1 (by rfl) T.range (pa_cons (pe_op op_addU pe_int (pe_c (c__law_draw T) hr (by decide) (by rfl) (pa_cons (pv 1) (pa_cons pe_int pa_nil)))) pa_nil)) (blkOk_by (by kernel_rfl)) (fun _ _ _ _ _ => (pg_name (i := 17) nd rfl (Or.inl rfl))) (fun _ _ _ _ _ => pts_nil) (fun _ _ _ _ _ => (pe_tup (pa_cons (pe_c (c__law_fee T) hr (by decide) (by rfl) (pa_cons (pv 1) pa_nil)) (pa_cons (pe_c (c__law_draw T) hr (by decide) (by rfl) (pa_cons (pv 1) (pa_cons pe_int pa_nil))) pa_nil))))))) (pss_cons 
      (ps_setLc (i := 6) (own := [("x", 12)]) rfl nd rfl rfl (sw_true rfl rfl rfl (by decide +kernel)) (pi_K (K := K) rfl (pv 5)) (blkOk_by (N := ["script", "bag", "turn", "titles", "roof", "lots", "pairs_y", "rays", "tree", "told", "seen", "listed", "x", "trade", "dial", "due", "j", "k"]) (sc := fnScope s_law) (by decide +kernel)) (fun _ _ _ _ _ => (pg_name (i := 12) nd rfl (Or.inl rfl))) (fun _ _ _ _ _ => pts_nil) (fun _ _ _ _ _ => (pe_c (c__law_thin T) hr (by decide) (by rfl) (pa_cons (pv 12) pa_nil)))) (pss_cons 
      (ps_setLc (i := 7) (own := [("x", 12)]) rfl nd rfl rfl (sw_true rfl rfl rfl (by decide +kernel)) (pi_K (K := K) rfl (pv 5)) (blkOk_by (N := ["script", "bag", "turn", "titles", "roof", "lots", "pairs_y", "rays", "tree", "told", "seen", "listed", "x", "trade", "dial", "due", "j", "k"]) (sc := fnScope s_law) (by decide +kernel)) (fun _ _ _ _ _ => (pg_name (i := 12) nd rfl (Or.inl rfl))) (fun _ _ _ _ _ => pts_nil) (fun _ _ _ _ _ => (pe_c (c__law_lines T L) hr (by decide) (by rfl) (pa_cons (pv 12) (pa_cons (pv 4) pa_nil))))) (pss_cons 
      (ps_set (i := 8) nd rfl (Or.inl rfl) (pe_c (c__law_small_tree T) hr (by decide) (by rfl) (pa_cons (pv 1) pa_nil))) (pss_cons 
      (ps_set (i := 9) nd rfl (Or.inr rfl) (pe_c (c__law_by_program T) hr (by decide) (by rfl) (pa_cons (pv 13) (pa_cons (pv 8) (pa_cons (pv 6) pa_nil))))) (pss_cons 
      (ps_set (i := 10) nd rfl (Or.inl rfl) (pe_c (c__law_by_program T) hr (by decide) (by rfl) (pa_cons (pv 14) (pa_cons (pv 8) (pa_cons (pv 7) pa_nil))))) (pss_cons 
      (ps_set (i := 11) nd rfl (Or.inl rfl) (pe_c (c__law_raw T) hr (by decide) (by rfl) (pa_cons (pe_tup (pa_cons pe_str (pa_cons (pv 3) pa_nil))) (pa_cons (pv 8) (pa_cons (pv 5) pa_nil))))) (pss_cons 
      (ps_if (PW.pt (pw_or (pt_not (pt_val (pe_c (c__law_fits_rows T L) hr (by decide) (by rfl) (pa_cons (pe_tup (pa_cons pe_str (pa_cons (pv 3) pa_nil))) (pa_cons (pv 9) (pa_cons (pv 11) pa_nil)))))) (pw_or1 (pt_not (pt_val (pe_c (c__law_is T L) hr (by decide) (by rfl) (pa_cons (pe_tup (pa_cons pe_str (pa_cons pe_str (pa_cons pe_str (pa_cons (pv 4) pa_nil))))) (pa_cons (pv 10) pa_nil)))))))) (pss_one 
      (ps_ret pe_bl)) pss_nil) (pss_cons 
      (ps_if (pt_not (pt_val (pe_callB (all_K (K := K) rfl rfl) (by rfl) T.all (by decide +kernel) (pa_cons (pe_lc (own := [("x", 12)]) rfl nd (pi_K (K := K) rfl (pv 10)) (blkOk_by (N := ["script", "bag", "turn", "titles", "roof", "lots", "pairs_y", "rays", "tree", "told", "seen", "listed", "x", "trade", "dial", "due", "j", "k"]) (sc := fnScope s_law) (by decide +kernel)) (fun _ _ _ _ _ => (pg_name (i := 12) nd rfl (Or.inl rfl))) (fun _ _ _ _ _ => pts_nil) (fun _ _ _ _ _ => (pe_cmpR (inT_D (K := K) rfl (room65 hr)) (pv 12) (pv 9) (by with_unfolding_all rfl)))) pa_nil)))) (pss_one 
      (ps_ret pe_bl)) pss_nil) (pss_one 
      (ps_for PassesOwn.never rfl (pi_K (K := K) rfl (pe_c (c__law_some_settings T) hr (by decide) (by rfl) (pa_cons (pv 1) (pa_cons (pv 10) (pa_cons (pv 4) pa_nil))))) (pg_name (i := 12) nd rfl (Or.inl rfl)) (pss_cons 
      (ps_set (i := 15) nd rfl (Or.inl rfl) (pe_c (c__law_weighed T) hr (by decide) (by rfl) (pa_cons (pv 9) (pa_cons (pv 12) pa_nil)))) (pss_cons 
      (ps_if (pt_not (pt_val (pe_c (c__law_like T) hr (by decide) (by rfl) (pa_cons (pe_lst (pa_cons (pe_c (c_read_dial T) hr (by decide) (by rfl) (pa_cons (pv 14) (pa_cons (pv 10) (pa_cons (pv 12) pa_nil)))) (pa_cons (pe_kw0 (k_read_dial_0_setting_value_measure T) hr (by decide) (by rfl) (pk_cons (pv 12) (pk_cons (pv 10) (pk_cons (pv 14) pk_nil)))) pa_nil))) (pa_cons (pe_lst (pa_cons (pv 15) (pa_cons (pv 15) pa_nil))) pa_nil))))) (pss_one 
      (ps_ret pe_bl)) pss_nil) (pss_one 
      (ps_if (pt_cmpR (ne_K (K := K) rfl hr) (pv 15) (pe_c (c__law_weighed T) hr (by decide) (by rfl) (pa_cons (pv 11) (pa_cons (pv 12) pa_nil))) (nomark _)) (pss_one 
      (ps_ret pe_bl)) pss_nil))))))))))))))))))) (pss_one 
      (ps_ret pe_bl)))), ?_⟩
  refine ⟨_, rfl, _, rfl, l, ns, rfl, hs, fun p H1 e1 hb => ?_⟩
  have tabs1 := tabs_same tabs0 e1
  refine ⟨5, rfl, by decide, by decide, for_it walk_range (fun i σ H' => (BagAt H' p ∧ LamX.Tabs [(PL, qL)] H') ∧ ∃ y2 y3 y4 y5 y6 y7 y8 y9 y10 y11 y12 y13 y14 y15 y16 y17, σ = [some (.ref l), some (.ref p), y2, y3, y4, y5, y6, y7, y8, y9, y10, y11, y12, y13, y14, y15, y16, y17]) ⟨⟨hb, tabs1⟩, _, _, _, _, _, _, _, _, _, _, _, _, _, _, _, _, rfl⟩ (fun _ _ _ _ _ => trivial) ?_ ?_⟩
  rotate_left
  · rintro σ H3 ⟨_, y2, y3, y4, y5, y6, y7, y8, y9, y10, y11, y12, y13, y14, y15, y16, y17, rfl⟩
    exact k H3
  rintro ti tx σ H2 H3 hti ⟨⟨hb, tabs⟩, y2, y3, y4, y5, y6, y7, y8, y9, y10, y11, y12, y13, y14, y15, y16, y17, rfl⟩ ⟨rfl, rfl⟩
  clear tabs1 e1 tabs0
  -- titles
  refine ⟨_, rfl, _, _, rfl, p, rfl, hb, rfl, fun H4 TL s1 s2 e4 hT n1 n2 ne => ?_⟩
  have hb4 := hb.mono e4
  have tb4 := tabs_same tabs e4
  clear hb tabs e4
  -- roof
  refine ⟨_, rfl, Nat.le_of_ble_eq_true rfl, fun c nc => ?_⟩
  refine ⟨_, _, rfl, p, rfl, hb4.mono (grow nc), .inl ⟨c, _, rfl, .inl (SqL.of upd_same), Nat.le_of_ble_eq_true rfl, Nat.le_of_ble_eq_true rfl, fun z hz => ?_⟩⟩
  obtain ⟨roof, rfl, r0, r1⟩ := roof_in hz
  have e5 := grow (o := .lst [.int 1, .int 2, .int 3, .int 4, .int 5, .int 7, .int 100, .int 1000000]) nc
  have hb5 := hb4.mono e5
  have tb5 := tabs_same tb4 e5
  have hT5 := e5 _ _ hT
  generalize upd H4 c _ = H5 at hb5 tb5 hT5
  clear hb4 tb4 hT e5 nc hz
  -- trade, dial
  refine ⟨_, rfl, .inl ⟨TL, _, _, _, rfl, rfl, SqL.of hT5, at0, _, rfl, .inl ⟨TL, _, _, _, rfl, rfl, SqL.of hT5, at1, ?_⟩⟩⟩
  refine fun x dx nx ndx nex => ⟨[.ref x], [.str s1, .str s2], rfl, rfl, Nat.le_of_ble_eq_true rfl, fun q nq => ⟨_, _, rfl, x, dx, q, s1, s2, rfl, (grow nq) _ _ upd_same, rfl, upd_same, n1, n2, ne, fun G1 keep ht => ⟨rfl, ?_⟩⟩⟩
  have e6 : Same H5 G1 := fun b o e => keep b o ((grow nq) _ _ (by rw [upd_ne (ne_of_none e nx), upd_ne (ne_of_none e ndx)]; exact e)) (ne_of_none e nx)
  have hb6 := hb5.mono e6
  have tb6 := tabs_same tb5 e6
  have hT6 := e6 _ _ hT5
  clear keep nq nx ndx nex e6 hb5 tb5 hT5
  refine ⟨_, rfl, .inl ⟨TL, _, _, _, rfl, rfl, SqL.of hT6, at0, _, rfl, .inl ⟨TL, _, _, _, rfl, rfl, SqL.of hT6, at1, _, rfl, ?_⟩⟩⟩
  refine fun x2 dx2 nx2 ndx2 nex2 => ⟨_, _, _, _, rfl, x2, dx2, roof, s1, s2, rfl, upd_same, rfl, rfl, n1, n2, rfl, r0, r1, fun G2 keep2 hd => ⟨rfl, _, _, rfl, ?_⟩⟩
  have e7 : Same G1 G2 := fun b o e => keep2 b o (by rw [upd_ne (ne_of_none e nx2), upd_ne (ne_of_none e ndx2)]; exact e) (ne_of_none e nx2)
  have hb7 := hb6.mono e7
  have tb7 := tabs_same tb6 e7
  have hT7 := e7 _ _ hT6
  have ht7 := ht.mono e7
  clear keep2 nx2 ndx2 nex2 e7 hb6 tb6 hT6 ht
  -- lots
  refine ⟨3, rfl, by decide, by decide, fun LL nLL => ?_⟩
  refine lc_some walk_range (fun _ v H' => ∃ D S, v = V.ref D ∧ RwN K H' D S ∧ S ≠ [] ∧ S.length ≤ 3 ∧ ∀ r ∈ S, BdN 1 r) grow_fn (by decide) nLL (fun _ _ _ _ e ⟨D, S, h1, h2, h3⟩ => ⟨D, S, h1, h2.mono e, h3⟩) (fun _ _ => trivial) ?_ ?_
  · rintro i z G3 G4 hi e ⟨acc, hacc⟩ ⟨rfl, rfl⟩ R kk
    refine ⟨rfl, _, rfl, _, _, rfl, p, 3, rfl, rfl, hb7.mono e, by decide, small_log (by decide) (by decide), fun m m0 m1 => .inl ⟨_, _, rfl, rfl, _, rfl, by omega, by omega, fun D nD => ?_⟩⟩
    have nDL : D ≠ LL := fun z => by
      rw [z, hacc] at nD
      cases nD
    refine lc_some walk_range (fun _ v H' => RayV K (BdN 1) H' v) grow_fn (by omega) nD (fun _ _ _ _ e h => h.mono e) (fun _ _ => trivial) ?_ ?_
    · rintro i2 z2 G5 G6 hi2 e2 ⟨acc2, hacc2⟩ ⟨rfl, rfl⟩ R2 kk2
      have hb8 := (hb7.mono e).mono e2
      refine ⟨rfl, _, rfl, _, rfl, p, rfl, hb8, fun fe f0 f1 => ⟨_, rfl, _, _, rfl, p, 6, rfl, rfl, hb8, by decide, small_log (by decide) (by decide), fun g g0 g1 => ⟨Nat.le_of_ble_eq_true rfl, fun U nU => ?_⟩⟩⟩
      have e8 := grow (o := .tup [.int fe, .int g]) nU
      refine kk2 _ _ e8 fun o => ⟨(fe, g), tupI_upd (e8 _ _ hacc2) ⟨U, rfl, SqT.of upd_same⟩, ?_⟩
      exact ⟨f0, by show fe ≤ 1000000 * ((1 : Nat) : Int); omega, g0, by show g ≤ 5 * ((1 : Nat) : Int); omega⟩
    · intro us G5 e2 hus lus hp
      have hv : ∀ v ∈ us, RayV K (BdN 1) G5 v := fun v mv => by
        obtain ⟨j, g⟩ := List.getElem?_of_mem mv
        exact hp j v g
      obtain ⟨rays, hr2, bdr⟩ := rays_of hv
      have lr := hr2.len
      rw [List.length_map] at lr
      refine kk _ _ e2 fun o => ⟨D, rays, rfl, rwn_updD ⟨us, hus, hr2⟩ (e2 _ _ hacc) nDL, fun e => ?_, by omega, bdr⟩
      rw [e] at lr
      simp only [List.length_nil] at lr
      omega
  intro xs H8 e8 hLL lxs hp8
  obtain ⟨lots, hL8, lo⟩ := lots_of hLL lxs hp8
  have hb8 := hb7.mono e8
  have tb8 := tabs_same tb7 e8
  have hT8 := e8 _ _ hT7
  have ht8 := ht7.mono e8
  have hd8 := hd.mono e8
  clear hp8 hLL lxs e8 hb7 tb7 hT7 ht7 hd nLL
  obtain ⟨lvs, hLL, l3, lall⟩ := hL8.ex
  -- pairs_y
  refine ⟨_, rfl, .inl ⟨LL, rfl, ⟨_, SqL.of hLL⟩, fun PY nPY => ?_⟩⟩
  refine lc_some (walk_list (xs := lvs)) (fun i v H' => ∃ A us, v = V.ref A ∧ SqT K H' A us ∧ RowsV K H' us ((thinP (lots i)).map tol)) grow_at (by omega) nPY (fun _ _ _ _ e ⟨A, us, h1, h2, h3⟩ => ⟨A, us, h1, same_tup e h2, h3.mono e⟩) (fun H e => SqL.of (e _ _ hLL)) ?_ ?_
  · rintro i z G3 G4 hi e ⟨acc, hacc⟩ ⟨rfl, g⟩ R kk
    obtain ⟨D, rfl, us, hD, hu⟩ := lall i z g
    have l3' := lo.few i (by omega)
    refine ⟨rfl, _, rfl, _, rfl, D, us, (lots i).map tol, 2, rfl, .inl (SqL.of (e _ _ hD)), hu.mono e, fun q hq => ?_, by decide, by decide, by rw [List.length_map]; omega, fun G5 A ys e2 hA hy => ?_⟩
    · obtain ⟨r, _, rfl⟩ := List.mem_map.mp hq
      rfl
    · rw [thin_tol] at hy
      have h3 := e2 _ _ hacc
      exact kk _ _ e2 fun o => ⟨A, ys, rfl, sqt_upd h3 (SqT.of hA), hy.upd h3⟩
  intro ps H9 e9 hPY lps hp9
  have vP9 : Vals3 K H9 PY (fun k => thinP (lots k)) := ⟨ps, hPY, by omega, fun k v g => by
    obtain ⟨A, us, rfl, s, r⟩ := hp9 k v g
    exact ln_dp s r⟩
  have hb9 := hb8.mono e9
  have tb9 := tabs_same tb8 e9
  have hT9 := e9 _ _ hT8
  have ht9 := ht8.mono e9
  have hd9 := hd8.mono e9
  have hL9 := hL8.mono e9
  clear hp9 hPY lps e9 hb8 tb8 hT8 ht8 hd8 hL8 nPY hLL lall
  obtain ⟨lvs, hLL, l3, lall⟩ := hL9.ex
  -- rays
  refine ⟨_, rfl, .inl ⟨LL, rfl, ⟨_, SqL.of hLL⟩, fun RY nRY => ?_⟩⟩
  refine lc_it (walk_list (xs := lvs)) (fun i G => Same (noT H9) G ∧ LamX.Tabs [(PL, qL)] G ∧ ∃ base, GrowL K G RY i base ∧ ∀ k < i, LO roof (lots k) (base k)) ⟨Same.trans (noT_same H9) (grow nRY), tabs_same tb9 (grow nRY), fun _ => [], ⟨[], upd_same, rfl, fun k v g => nomatch g⟩, fun k hk => absurd hk (Nat.not_lt_zero k)⟩ (fun i G _ ⟨e, _⟩ => SqL.of (e _ _ (noT_at hLL fun _ h => nomatch h))) ?_ ?_
  · rintro i z G3 G4 hi ⟨e, tb, base2, gl, lb⟩ ⟨rfl, g⟩
    obtain ⟨D, rfl, us, hD, hu⟩ := lall i z g
    have l3' := lo.few i (by omega)
    refine ⟨rfl, _, rfl, _, rfl, _, _, rfl, D, us, lots i, roof, rfl, .inl (SqL.of (e _ _ (noT_at hD fun _ h => nomatch h))), (noT_rows hu).mono e, fun r hr2 => (lo.bd i (by omega) r hr2).h (by decide), by omega, rfl, r0, r1, tb, fun G5 A ys lns e2 t2 hA hy lo2 _ _ => ?_⟩
    obtain ⟨acc, ha, la, gr⟩ := gl.snoc e2 (SqT.of hA) hy
    have nR9 : noT H9 RY = none := by
      unfold noT
      rw [nRY]
    have e3 : Same (noT H9) G5 := fun b o h => e2 b o (noT_at (e b o h) (noT_of h).2)
    refine ⟨acc, ha, size5 (by omega), same_mut e3 nR9, tabs_put2 t2 ha, _, gr, fun k hk => ?_⟩
    by_cases c : k = i
    · show LO roof (lots k) (if k = i then lns else base2 k)
      rw [if_pos c, c]
      exact lo2
    · show LO roof (lots k) (if k = i then lns else base2 k)
      rw [if_neg c]
      exact lb k (by omega)
  rintro H10 ⟨e10, tb10, rb, gl, lb⟩
  rw [l3] at gl lb
  have vR10 := gl.vals
  have hb10 := (noT_bag hb9).mono e10
  have hT10 := e10 _ _ (noT_at hT9 fun _ h => nomatch h)
  have ht10 := (noT_tradeW ht9).mono e10
  have hd10 := (noT_dialW hd9).mono e10
  have hL10 := (noT_lots hL9).mono e10
  have vP10 := (noT_vals vP9).mono e10
  clear e10 gl hb9 tb9 hT9 ht9 hd9 hL9 vP9 nRY hLL lall
  -- tree
  refine ⟨_, rfl, _, rfl, p, rfl, hb10, fun H11 tv t e11 dt to lt => ?_⟩
  have rne := raw_ne lo t to
  have rbd := raw_bd lo t to
  -- told
  refine ⟨_, rfl, _, rfl, _, rfl, _, _, _, rfl, x, PY, lots, _, _, t, rfl, .trade (ht10.mono e11), dt, to, lt, by decide, rfl, vP10.mono e11, lo, fun k _ => TO.thin _, fun H12 v1 S1 e12 w1 g1 => ?_⟩
  have e112 := e11.trans e12
  refine ⟨_, rfl, _, rfl, _, rfl, _, _, _, rfl, x2, RY, lots, rb, _, t, rfl, .dial (hd10.mono e112) r0, dp_mono e12 _ dt, to, lt, by decide, rfl, vR10.mono e112, lo, lb, fun H13 v2 S2 e13 w2 g2 => ?_⟩
  have e113 := e112.trans e13
  refine ⟨_, rfl, Nat.le_of_ble_eq_true rfl, fun c1 nc1 => ?_⟩
  have e14 := grow (o := .tup [.str "trade", .ref TL]) nc1
  have e114 := e113.trans e14
  refine ⟨_, rfl, _, rfl, _, _, _, rfl, c1, TL, LL, lots, t, rfl, SqT.of upd_same, dp_mono (e12.trans (e13.trans e14)) _ dt, to, lt, by decide, rfl, hL10.mono e114, lo, fun H15 DR e15 wr => ?_⟩
  have e115 := e114.trans e15
  have hb15 := hb10.mono e115
  have tb15 := tabs_same tb10 e115
  have hT15 := e115 _ _ hT10
  have hd15 := hd10.mono e115
  have w1 := dp_mono (e13.trans (e14.trans e15)) _ w1
  have w2 := dp_mono (e14.trans e15) _ w2
  obtain ⟨A1, xs1, rfl, sA1, rr1, lx1⟩ := dp_lnU w1
  obtain ⟨A2, xs2, rfl, sA2, rr2, lx2⟩ := dp_lnU w2
  have ne1 := g1.ne rne
  have ne2 := g2.ne r0 rne
  have len1 := few26 g1.sub rbd lt g1.rows.fall
  have len2 := few26 g2.sub rbd lt g2.chn.fall
  have bdh : ∀ r ∈ t.raw lots, BdH r := fun r hr2 => (rbd r hr2).h lt
  have bd1 : ∀ r ∈ S1, BdH r := fun r h => bdh r (g1.sub r h)
  have bd2 : ∀ r ∈ S2, BdH r := fun r h => bdh r (g2.sub r h)
  have rlen : (t.raw lots).length ≤ 1000 := by
    have := raw_len lo t to
    have q := Nat.pow_le_pow_right (show 0 < 3 by decide) lt
    have : (3 : Nat) ^ 5 = 243 := rfl
    omega
  clear nc1 e11 e12 e13 e14 e15 e112 e113 e114 e115 dt hb10 tb10 hT10 ht10 hd10 hL10 vP10 vR10 w1 w2
  -- the two checks
  obtain ⟨usr, hDR, rrR⟩ := wr
  refine ⟨_, rfl, Nat.le_of_ble_eq_true rfl, fun c2 nc2 => ?_⟩
  have e16 := grow (o := .tup [.str "trade", .ref TL]) nc2
  refine ⟨_, rfl, _, rfl, _, _, _, rfl, c2, A1, DR, TL, xs1, usr, _, S1, t.raw lots, rfl, SqT.of upd_same, SqL.of (e16 _ _ hT15), rfl, rfl, same_tup e16 sA1, rr1.mono e16, rfl, e16 _ _ hDR, rrR.mono e16, ne1, len1, bdh, rlen, g1, tabs_same tb15 e16, fun H17 e17 tb17 => ⟨_, rfl, iteF ?_⟩⟩
  have e17 := (noT_mono e16).trans e17
  have hb17 := (noT_bag hb15).mono e17
  have hd17 := (noT_dialW hd15).mono e17
  have sA1 := same_tup e17 (noT_sqt sA1)
  have rr1 := (noT_rows rr1).mono e17
  have sA2 := same_tup e17 (noT_sqt sA2)
  have rr2 := (noT_rows rr2).mono e17
  have hDR := e17 _ _ (noT_at hDR fun _ h => nomatch h)
  have rrR := (noT_rows rrR).mono e17
  clear e16 nc2 e17 hb15 hd15 tb15 hT15
  refine ⟨_, rfl, Nat.le_of_ble_eq_true rfl, fun c3 nc3 => ?_⟩
  have e18 := grow (o := .tup [.str "dial", .str "a", .str "b", .int roof]) nc3
  refine ⟨_, rfl, _, _, rfl, c3, A2, xs2, S2, rfl, rfl, same_tup e18 sA2, rr2.mono e18, ne2, len2, bd2, tabs_same tb17 e18, .inr ⟨roof, SqT.of upd_same, r0, r1, g2.chn⟩, fun H19 e19 tb19 => ⟨_, rfl, iteF ?_⟩⟩
  have e19 := (noT_mono e18).trans e19
  have hb19 := (noT_bag hb17).mono e19
  have hd19 := (noT_dialW hd17).mono e19
  have sA1 := same_tup e19 (noT_sqt sA1)
  have rr1 := (noT_rows rr1).mono e19
  have sA2 := same_tup e19 (noT_sqt sA2)
  have rr2 := (noT_rows rr2).mono e19
  have hDR := e19 _ _ (noT_at hDR fun _ h => nomatch h)
  have rrR := (noT_rows rrR).mono e19
  clear e18 nc3 e19 hb17 hd17 tb17
  -- all([x in told for x in seen])
  refine ⟨_, rfl, .inr (.inl ⟨A2, rfl, ⟨_, sA2⟩, fun D hD => ?_⟩)⟩
  refine lc_map (walk_tup (xs := xs2)) (fun _ => .bl true) grow_at (by omega) hD (fun H e => same_tup e sA2) ?_ ?_
  · rintro i y G3 G4 hi e ⟨rfl, g⟩ F0 kk
    obtain ⟨q, gq, tV⟩ := line_get (rr2.mono e) g
    refine ⟨rfl, _, rfl, _, rfl, rowD (tol q), S1.map (fun r => rowD (tol r)), tV.dp, .tup (same_tup e sA1) (rows_all (rr1.mono e)), shaped_ln q, lay_ln S1, ?_⟩
    rw [any_eqv, show (S1.any fun r => decide (r = q)) = true from List.any_eq_true.mpr ⟨q, seen_told g1 g2 q (List.mem_of_getElem? gq), decide_eq_true rfl⟩]
    exact kk _ (Same.refl _)
  intro H20 e20 hD20
  refine ⟨D, (List.range xs2.length).map fun _ => true, rfl, SqL.of (by rw [hD20, List.map_map]; rfl), ?_⟩
  rw [all_true]
  refine ⟨_, rfl, iteF ?_⟩
  have hb20 := hb19.mono e20
  have tb20 := tabs_same tb19 e20
  have hd20 := hd19.mono e20
  have sA1 := same_tup e20 sA1
  have rr1 := rr1.mono e20
  have sA2 := same_tup e20 sA2
  have rr2 := rr2.mono e20
  have hDR := e20 _ _ hDR
  have rrR := rrR.mono e20
  clear hD hD20 e20 hb19 tb19 hd19
  -- settings
  refine ⟨_, rfl, _, rfl, _, rfl, _, _, _, rfl, p, A2, xs2, S2, roof, rfl, hb20, rfl, sA2, rr2, g2.chn, ne2, bd2, len2, rfl, r0, r1, fun H21 SD F e21 wF allF lF => ?_⟩
  obtain ⟨sv, hSD, rF⟩ := wF
  refine .inl ⟨SD, rfl, ⟨_, SqL.of hSD⟩, ?_⟩
  have hF : ∀ (i : Nat) (v : V), sv[i]? = some v → ∃ (W : Addr) (st : Ln), v = .ref W ∧ SqT K H21 W [.int st.1, .int st.2] ∧ SetB roof 10000 st := fun i v g => by
    obtain ⟨st, gs, ⟨W, rfl, sW⟩⟩ := line_get rF g
    exact ⟨W, st, rfl, sW, allF st (List.mem_of_getElem? gs)⟩
  have hb21 := hb20.mono e21
  have tb21 := tabs_same tb20 e21
  have hd21 := hd20.mono e21
  have sA1 := same_tup e21 sA1
  have rr1 := rr1.mono e21
  have sA2 := same_tup e21 sA2
  have rr2 := rr2.mono e21
  have hDR := e21 _ _ hDR
  have rrR := rrR.mono e21
  clear e21 hb20 tb20 hd20
  refine for_it (walk_list (xs := sv)) (fun i σ H' => Same H21 H' ∧ ∃ y2 y12 y15 y16 y17, σ = [some (.ref l), some (.ref p), y2, some (.ref TL), some (.int roof), some (.ref LL), some (.ref PY), some (.ref RY), some tv, some (.ref A1), some (.ref A2), some (.ref DR), y12, some (.ref x), some (.ref x2), y15, y16, y17]) ⟨Same.refl _, _, _, _, _, _, rfl⟩ (fun i σ H' _ ⟨e, _⟩ => SqL.of (e _ _ hSD)) ?_ ?_
  rotate_left
  · rintro σ H22 ⟨e, y2, y12, y15, y16, y17, rfl⟩
    exact ⟨⟨hb21.mono e, tabs_same tb21 e⟩, _, _, _, _, _, _, _, _, _, _, _, _, _, _, _, _, rfl⟩
  rintro i z σ H22 H23 hi ⟨e, y2, y12, y15, y16, y17, rfl⟩ ⟨rfl, g⟩
  obtain ⟨W, st, rfl, sW, sb⟩ := hF i z g
  obtain ⟨b1, b2, b3, b4⟩ := sb.bd r0 r1 (by decide)
  have sb2 : 0 ≤ st.1 ∧ 0 < st.2 ∧ st.1 ≤ roof * st.2 := ⟨sb.1, sb.2.1, sb.2.2.1⟩
  -- due
  refine ⟨_, rfl, _, rfl, _, _, rfl, A1, W, xs1, S1, st, rfl, .inr (same_tup e sA1), rr1.mono e, ne1, by omega, bd1, rfl, same_tup e sW, b1, b2, b3, b4, fun m H24 e24 lm => ?_⟩
  have f24 := e.trans e24
  refine ⟨_, rfl, _, rfl, _, rfl, _, _, _, rfl, x2, A2, W, xs2, S2, st, roof, rfl, hd21.mono f24, rfl, same_tup f24 sA2, rr2.mono f24, ne2, by omega, bd2, rfl, same_tup f24 sW, r0, r1, sb, fun m2 H25 e25 lm2 => ?_⟩
  have f25 := f24.trans e25
  refine ⟨_, rfl, _, rfl, _, rfl, ?_⟩
  refine ⟨rfl, rfl, _, _, _, rfl, x2, A2, W, xs2, S2, st, roof, rfl, hd21.mono f25, rfl, same_tup f25 sA2, rr2.mono f25, ne2, by omega, bd2, rfl, same_tup f25 sW, r0, r1, sb, fun m3 H26 e26 lm3 => ?_⟩
  have f26 := f25.trans e26
  have cv2 : ∀ y ∈ S1, ∃ u ∈ S2, vA u st.1 st.2 ≤ vA y st.1 st.2 := fun y hy => g2.cov st.1 st.2 b1 b3 sb2.2.2 y (g1.sub y hy)
  have cv1 : ∀ y ∈ S2, ∃ u ∈ S1, vA u st.1 st.2 ≤ vA y st.1 st.2 := fun y hy => ⟨y, seen_told g1 g2 y hy, Int.le_refl _⟩
  have em2 : m = m2 := lm.one lm2 cv1 cv2
  have em3 : m = m3 := lm.one lm3 cv1 cv2
  subst em2
  subst em3
  refine ⟨Nat.le_of_ble_eq_true rfl, fun L1 nL1 => ?_⟩
  refine ⟨_, rfl, _, rfl, Nat.le_of_ble_eq_true rfl, fun L2 nL2 => ?_⟩
  have e27 := (grow (o := .lst [.int m, .int m]) nL1).trans (grow (o := .lst [.int m, .int m]) nL2)
  refine ⟨_, _, rfl, .list [.int m, .int m], ⟨Nat.le_of_ble_eq_true rfl, fun d hd => ?_⟩, .lst (SqL.of ((grow nL2) _ _ upd_same)) (.cons (.int _) (.cons (.int _) .nil)), .lst (SqL.of upd_same) (.cons (.int _) (.cons (.int _) .nil)), fun H28 e28 => ⟨_, rfl, iteF ?_⟩⟩
  · simp only [List.mem_cons, List.not_mem_nil, or_false] at hd
    rcases hd with rfl | rfl <;> exact trivial
  have f28 := f26.trans (e27.trans e28)
  refine ⟨_, rfl, _, rfl, _, rfl, _, _, rfl, DR, W, usr, t.raw lots, st, rfl, .inl (SqL.of (f28 _ _ hDR)), rrR.mono f28, rne, rlen, bdh, rfl, same_tup f28 sW, b1, b2, b3, b4, fun m4 H29 e29 lm4 => ?_⟩
  obtain ⟨q1, q2⟩ := g1.at b1 b3
  have em4 : m = m4 := lm.one lm4 q1 q2
  subst em4
  refine .inl ⟨rfl, _, rfl, ?_⟩
  rw [show (!decide (V.int m = V.int m)) = false by rw [decide_eq_true rfl]; rfl]
  exact iteF ⟨f28.trans e29, _, _, _, _, _, rfl⟩

end
end Fb

set_option Elab.async false
set_option linter.all false
set_option maxRecDepth 100000
set_option maxHeartbeats 4000000
namespace Fb
open PySem PySem.Spec L2
open PyProof.Rows hiding St
open C8 (Cal Met Mak Def cal0 met0 mak0 pe_c pe_mk pe_mt pe_mt0 fnScope fnBody fnArgs pss_cut tCut)
/-! ### what the top has written, each a fact that k_is finds -/
theorem all_mk {l : PySem.W.OpenLaw} {w : World} {K : PySem.W.Frag} {h : Heap} {mg : Str → Option Value} {fa C_Trade C_Dial f1 f2 t2 f3 f4 f5 f6 f7 f8 f9 f10 f11 f12 f13 f14 f15 f16 f17 f18 f19 f20 f21 f22 f23 f24 f25 f26 f27 f28 f29 f30 f31 f32 f33 f34 f35 f36 f37 f38 f39 f40 f41 f42 cL PL : Addr} {od1 an1 : Option Addr} {sl1 : Array (Option Value)} {oc1 kV1 dc1 pm1 cd1 ct1 : Value}
    {od2 an2 : Option Addr} {sl2 : Array (Option Value)} {oc2 kV2 dc2 pm2 cd2 ct2 : Value}
    {dt2_0 : Tok}
    {to2 : Value} {td2 : Option Addr} {tn2 : Nat} {ts2 : Array (Option Value)}
    {od3 an3 : Option Addr} {sl3 : Array (Option Value)} {oc3 kV3 dc3 pm3 cd3 ct3 : Value}
    {od4 an4 : Option Addr} {sl4 : Array (Option Value)} {oc4 kV4 dc4 pm4 cd4 ct4 : Value}
    {od5 an5 : Option Addr} {sl5 : Array (Option Value)} {oc5 kV5 dc5 pm5 cd5 ct5 : Value}
    {od6 an6 : Option Addr} {sl6 : Array (Option Value)} {oc6 kV6 dc6 pm6 cd6 ct6 : Value}
    {od7 an7 : Option Addr} {sl7 : Array (Option Value)} {oc7 kV7 dc7 pm7 cd7 ct7 : Value}
    {od8 an8 : Option Addr} {sl8 : Array (Option Value)} {oc8 kV8 dc8 pm8 cd8 ct8 : Value}
    {od9 an9 : Option Addr} {sl9 : Array (Option Value)} {oc9 kV9 dc9 pm9 cd9 ct9 : Value}
    {od10 an10 : Option Addr} {sl10 : Array (Option Value)} {oc10 kV10 dc10 pm10 cd10 ct10 : Value}
    {od11 an11 : Option Addr} {sl11 : Array (Option Value)} {oc11 kV11 dc11 pm11 cd11 ct11 : Value}
    {od12 an12 : Option Addr} {sl12 : Array (Option Value)} {oc12 kV12 dc12 pm12 cd12 ct12 : Value}
    {od13 an13 : Option Addr} {sl13 : Array (Option Value)} {oc13 kV13 dc13 pm13 cd13 ct13 : Value}
    {od14 an14 : Option Addr} {sl14 : Array (Option Value)} {oc14 kV14 dc14 pm14 cd14 ct14 : Value}
    {od15 an15 : Option Addr} {sl15 : Array (Option Value)} {oc15 kV15 dc15 pm15 cd15 ct15 : Value}
    {od16 an16 : Option Addr} {sl16 : Array (Option Value)} {oc16 kV16 dc16 pm16 cd16 ct16 : Value}
    {od17 an17 : Option Addr} {sl17 : Array (Option Value)} {oc17 kV17 dc17 pm17 cd17 ct17 : Value}
    {od18 an18 : Option Addr} {sl18 : Array (Option Value)} {oc18 kV18 dc18 pm18 cd18 ct18 : Value}
    {od19 an19 : Option Addr} {sl19 : Array (Option Value)} {oc19 kV19 dc19 pm19 cd19 ct19 : Value}
    {od20 an20 : Option Addr} {sl20 : Array (Option Value)} {oc20 kV20 dc20 pm20 ct20 : Value}
    {od21 an21 : Option Addr} {sl21 : Array (Option Value)} {oc21 kV21 dc21 pm21 cd21 ct21 : Value}
    {od22 an22 : Option Addr} {sl22 : Array (Option Value)} {oc22 kV22 dc22 pm22 cd22 ct22 : Value}
    {od23 an23 : Option Addr} {sl23 : Array (Option Value)} {oc23 kV23 dc23 pm23 cd23 ct23 : Value}
    {od24 an24 : Option Addr} {sl24 : Array (Option Value)} {oc24 kV24 dc24 pm24 cd24 ct24 : Value}
    {od25 an25 : Option Addr} {sl25 : Array (Option Value)} {oc25 kV25 dc25 pm25 cd25 ct25 : Value}
    {od26 an26 : Option Addr} {sl26 : Array (Option Value)} {oc26 kV26 dc26 pm26 cd26 ct26 : Value}
    {od27 an27 : Option Addr} {sl27 : Array (Option Value)} {oc27 kV27 dc27 pm27 cd27 ct27 : Value}
    {od28 an28 : Option Addr} {sl28 : Array (Option Value)} {oc28 kV28 dc28 pm28 cd28 ct28 : Value}
    {od29 an29 : Option Addr} {sl29 : Array (Option Value)} {oc29 kV29 dc29 pm29 cd29 ct29 : Value}
    {od30 an30 : Option Addr} {sl30 : Array (Option Value)} {oc30 kV30 dc30 pm30 cd30 ct30 : Value}
    {od31 an31 : Option Addr} {sl31 : Array (Option Value)} {oc31 kV31 dc31 pm31 cd31 ct31 : Value}
    {od32 an32 : Option Addr} {sl32 : Array (Option Value)} {oc32 kV32 dc32 pm32 cd32 ct32 : Value}
    {od33 an33 : Option Addr} {sl33 : Array (Option Value)} {oc33 kV33 dc33 pm33 cd33 ct33 : Value}
    {od34 an34 : Option Addr} {sl34 : Array (Option Value)} {oc34 kV34 dc34 pm34 cd34 ct34 : Value}
    {od35 an35 : Option Addr} {sl35 : Array (Option Value)} {oc35 kV35 dc35 pm35 cd35 ct35 : Value}
    {od36 an36 : Option Addr} {sl36 : Array (Option Value)} {oc36 kV36 dc36 pm36 cd36 ct36 : Value}
    {od37 an37 : Option Addr} {sl37 : Array (Option Value)} {oc37 kV37 dc37 pm37 cd37 ct37 : Value}
    {od38 an38 : Option Addr} {sl38 : Array (Option Value)} {oc38 kV38 dc38 pm38 cd38 ct38 : Value}
    {od39 an39 : Option Addr} {sl39 : Array (Option Value)} {oc39 kV39 dc39 pm39 cd39 ct39 : Value}
    {od40 an40 : Option Addr} {sl40 : Array (Option Value)} {oc40 kV40 dc40 pm40 cd40 ct40 : Value}
    {od41 an41 : Option Addr} {sl41 : Array (Option Value)} {oc41 kV41 dc41 pm41 cd41 ct41 : Value}
    {od42 an42 : Option Addr} {sl42 : Array (Option Value)} {oc42 kV42 dc42 pm42 cd42 ct42 : Value}
    {g0 : Tok}
    {g1 : Tok}
    {occ : Value} {odc : Option Addr} {vsc : Array Value} {slc : Array (Option Value)}
    (X : K.In h) (G : h.Ns mainGlobals mg) (hfa : mg "law" = some (.ref fa))
    (aC_Trade : PySem.W.nsIn K mainGlobals "Trade" = some (some (.ref C_Trade)))
    (pg_Trade : PySem.W.plainGet K C_Trade Str.empty = true)
    (hd_Trade : PySem.W.hasDictIn K C_Trade = true)
    (po_Trade : PySem.W.plainOver K C_Trade = true)
    (sa_Trade : PySem.W.findIn K (.ref C_Trade) "__setattr__" = some (some (.builtin "object.__setattr__")))
    (mk_Trade : PySem.W.makesIn K C_Trade = true)
    (kC_Trade : PySem.W.keepIn K (.ref C_Trade) = true)
    (n_wishes_Trade : PySem.W.findIn K (.ref C_Trade) "_wishes" = some none)
    (nstay_Trade : PySem.W.findIn K (.ref C_Trade) "stay" = some none)
    (aC_Dial : PySem.W.nsIn K mainGlobals "Dial" = some (some (.ref C_Dial)))
    (pg_Dial : PySem.W.plainGet K C_Dial Str.empty = true)
    (hd_Dial : PySem.W.hasDictIn K C_Dial = true)
    (po_Dial : PySem.W.plainOver K C_Dial = true)
    (sa_Dial : PySem.W.findIn K (.ref C_Dial) "__setattr__" = some (some (.builtin "object.__setattr__")))
    (mk_Dial : PySem.W.makesIn K C_Dial = true)
    (kC_Dial : PySem.W.keepIn K (.ref C_Dial) = true)
    (nwish_Dial : PySem.W.findIn K (.ref C_Dial) "wish" = some none)
    (nslope_Dial : PySem.W.findIn K (.ref C_Dial) "slope" = some none)
    (ntop_Dial : PySem.W.findIn K (.ref C_Dial) "top" = some none)
    (nstay_Dial : PySem.W.findIn K (.ref C_Dial) "stay" = some none)
    (a1 : PySem.W.nsIn K mainGlobals "is_name" = some (some (.ref f1)))
    (l1 : K.lookup f1 = some ⟨oc1, od1, .func (PySem.W.fnOf "is_name" "is_name" (fnArgs s_is_name) (fnBody s_is_name) (fnScope s_is_name) .none kV1 dc1 pm1 an1 cd1 ct1), sl1⟩)
    (c1 : PySem.W.codeIn K cd1 "is_name" = true)
    (k1 : PySem.W.keepIn K (.ref f1) = true)
    (a2 : PySem.W.nsIn K mainGlobals "is_number" = some (some (.ref f2)))
    (l2 : K.lookup f2 = some ⟨oc2, od2, .func (PySem.W.fnOf "is_number" "is_number" (fnArgs s_is_number) (fnBody s_is_number) (fnScope s_is_number) (.ref t2) kV2 dc2 pm2 an2 cd2 ct2), sl2⟩)
    (c2 : PySem.W.codeIn K cd2 "is_number" = true)
    (k2 : PySem.W.keepIn K (.ref f2) = true)
    (d2 : K.lookup t2 = some ⟨to2, td2, .seq #[.int 0 dt2_0, .none] tn2, ts2⟩)
    (a3 : PySem.W.nsIn K mainGlobals "is_at_most" = some (some (.ref f3)))
    (l3 : K.lookup f3 = some ⟨oc3, od3, .func (PySem.W.fnOf "is_at_most" "is_at_most" (fnArgs s_is_at_most) (fnBody s_is_at_most) (fnScope s_is_at_most) .none kV3 dc3 pm3 an3 cd3 ct3), sl3⟩)
    (c3 : PySem.W.codeIn K cd3 "is_at_most" = true)
    (k3 : PySem.W.keepIn K (.ref f3) = true)
    (a4 : PySem.W.nsIn K mainGlobals "thin_rows" = some (some (.ref f4)))
    (l4 : K.lookup f4 = some ⟨oc4, od4, .func (PySem.W.fnOf "thin_rows" "thin_rows" (fnArgs s_thin_rows) (fnBody s_thin_rows) (fnScope s_thin_rows) .none kV4 dc4 pm4 an4 cd4 ct4), sl4⟩)
    (c4 : PySem.W.codeIn K cd4 "thin_rows" = true)
    (k4 : PySem.W.keepIn K (.ref f4) = true)
    (a5 : PySem.W.nsIn K mainGlobals "any_at_most" = some (some (.ref f5)))
    (l5 : K.lookup f5 = some ⟨oc5, od5, .func (PySem.W.fnOf "any_at_most" "any_at_most" (fnArgs s_any_at_most) (fnBody s_any_at_most) (fnScope s_any_at_most) .none kV5 dc5 pm5 an5 cd5 ct5), sl5⟩)
    (c5 : PySem.W.codeIn K cd5 "any_at_most" = true)
    (k5 : PySem.W.keepIn K (.ref f5) = true)
    (a6 : PySem.W.nsIn K mainGlobals "never_alone" = some (some (.ref f6)))
    (l6 : K.lookup f6 = some ⟨oc6, od6, .func (PySem.W.fnOf "never_alone" "never_alone" (fnArgs s_never_alone) (fnBody s_never_alone) (fnScope s_never_alone) .none kV6 dc6 pm6 an6 cd6 ct6), sl6⟩)
    (c6 : PySem.W.codeIn K cd6 "never_alone" = true)
    (k6 : PySem.W.keepIn K (.ref f6) = true)
    (a7 : PySem.W.nsIn K mainGlobals "is_below_at" = some (some (.ref f7)))
    (l7 : K.lookup f7 = some ⟨oc7, od7, .func (PySem.W.fnOf "is_below_at" "is_below_at" (fnArgs s_is_below_at) (fnBody s_is_below_at) (fnScope s_is_below_at) .none kV7 dc7 pm7 an7 cd7 ct7), sl7⟩)
    (c7 : PySem.W.codeIn K cd7 "is_below_at" = true)
    (k7 : PySem.W.keepIn K (.ref f7) = true)
    (a8 : PySem.W.nsIn K mainGlobals "lowest_lines" = some (some (.ref f8)))
    (l8 : K.lookup f8 = some ⟨oc8, od8, .func (PySem.W.fnOf "lowest_lines" "lowest_lines" (fnArgs s_lowest_lines) (fnBody s_lowest_lines) (fnScope s_lowest_lines) .none kV8 dc8 pm8 an8 cd8 ct8), sl8⟩)
    (c8 : PySem.W.codeIn K cd8 "lowest_lines" = true)
    (k8 : PySem.W.keepIn K (.ref f8) = true)
    (a9 : PySem.W.nsIn K mainGlobals "is_setting" = some (some (.ref f9)))
    (l9 : K.lookup f9 = some ⟨oc9, od9, .func (PySem.W.fnOf "is_setting" "is_setting" (fnArgs s_is_setting) (fnBody s_is_setting) (fnScope s_is_setting) .none kV9 dc9 pm9 an9 cd9 ct9), sl9⟩)
    (c9 : PySem.W.codeIn K cd9 "is_setting" = true)
    (k9 : PySem.W.keepIn K (.ref f9) = true)
    (a10 : PySem.W.nsIn K mainGlobals "read_dial" = some (some (.ref f10)))
    (l10 : K.lookup f10 = some ⟨oc10, od10, .func (PySem.W.fnOf "read_dial" "read_dial" (fnArgs s_read_dial) (fnBody s_read_dial) (fnScope s_read_dial) .none kV10 dc10 pm10 an10 cd10 ct10), sl10⟩)
    (c10 : PySem.W.codeIn K cd10 "read_dial" = true)
    (k10 : PySem.W.keepIn K (.ref f10) = true)
    (a11 : PySem.W.nsIn K mainGlobals "_law_bag" = some (some (.ref f11)))
    (l11 : K.lookup f11 = some ⟨oc11, od11, .func (PySem.W.fnOf "_law_bag" "_law_bag" (fnArgs s__law_bag) (fnBody s__law_bag) (fnScope s__law_bag) .none kV11 dc11 pm11 an11 cd11 ct11), sl11⟩)
    (c11 : PySem.W.codeIn K cd11 "_law_bag" = true)
    (k11 : PySem.W.keepIn K (.ref f11) = true)
    (a12 : PySem.W.nsIn K mainGlobals "_law_draw" = some (some (.ref f12)))
    (l12 : K.lookup f12 = some ⟨oc12, od12, .func (PySem.W.fnOf "_law_draw" "_law_draw" (fnArgs s__law_draw) (fnBody s__law_draw) (fnScope s__law_draw) .none kV12 dc12 pm12 an12 cd12 ct12), sl12⟩)
    (c12 : PySem.W.codeIn K cd12 "_law_draw" = true)
    (k12 : PySem.W.keepIn K (.ref f12) = true)
    (a13 : PySem.W.nsIn K mainGlobals "_law_of" = some (some (.ref f13)))
    (l13 : K.lookup f13 = some ⟨oc13, od13, .func (PySem.W.fnOf "_law_of" "_law_of" (fnArgs s__law_of) (fnBody s__law_of) (fnScope s__law_of) .none kV13 dc13 pm13 an13 cd13 ct13), sl13⟩)
    (c13 : PySem.W.codeIn K cd13 "_law_of" = true)
    (k13 : PySem.W.keepIn K (.ref f13) = true)
    (a14 : PySem.W.nsIn K mainGlobals "_law_like" = some (some (.ref f14)))
    (l14 : K.lookup f14 = some ⟨oc14, od14, .func (PySem.W.fnOf "_law_like" "_law_like" (fnArgs s__law_like) (fnBody s__law_like) (fnScope s__law_like) .none kV14 dc14 pm14 an14 cd14 ct14), sl14⟩)
    (c14 : PySem.W.codeIn K cd14 "_law_like" = true)
    (k14 : PySem.W.keepIn K (.ref f14) = true)
    (a15 : PySem.W.nsIn K mainGlobals "_law_is_number" = some (some (.ref f15)))
    (l15 : K.lookup f15 = some ⟨oc15, od15, .func (PySem.W.fnOf "_law_is_number" "_law_is_number" (fnArgs s__law_is_number) (fnBody s__law_is_number) (fnScope s__law_is_number) .none kV15 dc15 pm15 an15 cd15 ct15), sl15⟩)
    (c15 : PySem.W.codeIn K cd15 "_law_is_number" = true)
    (k15 : PySem.W.keepIn K (.ref f15) = true)
    (a16 : PySem.W.nsIn K mainGlobals "_law_title" = some (some (.ref f16)))
    (l16 : K.lookup f16 = some ⟨oc16, od16, .func (PySem.W.fnOf "_law_title" "_law_title" (fnArgs s__law_title) (fnBody s__law_title) (fnScope s__law_title) .none kV16 dc16 pm16 an16 cd16 ct16), sl16⟩)
    (c16 : PySem.W.codeIn K cd16 "_law_title" = true)
    (k16 : PySem.W.keepIn K (.ref f16) = true)
    (a17 : PySem.W.nsIn K mainGlobals "_law_titles" = some (some (.ref f17)))
    (l17 : K.lookup f17 = some ⟨oc17, od17, .func (PySem.W.fnOf "_law_titles" "_law_titles" (fnArgs s__law_titles) (fnBody s__law_titles) (fnScope s__law_titles) .none kV17 dc17 pm17 an17 cd17 ct17), sl17⟩)
    (c17 : PySem.W.codeIn K cd17 "_law_titles" = true)
    (k17 : PySem.W.keepIn K (.ref f17) = true)
    (a18 : PySem.W.nsIn K mainGlobals "_law_thin" = some (some (.ref f18)))
    (l18 : K.lookup f18 = some ⟨oc18, od18, .func (PySem.W.fnOf "_law_thin" "_law_thin" (fnArgs s__law_thin) (fnBody s__law_thin) (fnScope s__law_thin) .none kV18 dc18 pm18 an18 cd18 ct18), sl18⟩)
    (c18 : PySem.W.codeIn K cd18 "_law_thin" = true)
    (k18 : PySem.W.keepIn K (.ref f18) = true)
    (a19 : PySem.W.nsIn K mainGlobals "_law_span" = some (some (.ref f19)))
    (l19 : K.lookup f19 = some ⟨oc19, od19, .func (PySem.W.fnOf "_law_span" "_law_span" (fnArgs s__law_span) (fnBody s__law_span) (fnScope s__law_span) .none kV19 dc19 pm19 an19 cd19 ct19), sl19⟩)
    (c19 : PySem.W.codeIn K cd19 "_law_span" = true)
    (k19 : PySem.W.keepIn K (.ref f19) = true)
    (a20 : PySem.W.nsIn K mainGlobals "_law_lines" = some (some (.ref f20)))
    (l20 : K.lookup f20 = some ⟨oc20, od20, .func (PySem.W.fnOf "_law_lines" "_law_lines" (fnArgs s__law_lines) (fnBody s__law_lines) (fnScope s__law_lines) .none kV20 dc20 pm20 an20 (.ref cL) ct20), sl20⟩)
    (c20 : PySem.W.codeIn K (.ref cL) "_law_lines" = true)
    (k20 : PySem.W.keepIn K (.ref f20) = true)
    (a21 : PySem.W.nsIn K mainGlobals "_law_pairs" = some (some (.ref f21)))
    (l21 : K.lookup f21 = some ⟨oc21, od21, .func (PySem.W.fnOf "_law_pairs" "_law_pairs" (fnArgs s__law_pairs) (fnBody s__law_pairs) (fnScope s__law_pairs) .none kV21 dc21 pm21 an21 cd21 ct21), sl21⟩)
    (c21 : PySem.W.codeIn K cd21 "_law_pairs" = true)
    (k21 : PySem.W.keepIn K (.ref f21) = true)
    (a22 : PySem.W.nsIn K mainGlobals "_law_fee" = some (some (.ref f22)))
    (l22 : K.lookup f22 = some ⟨oc22, od22, .func (PySem.W.fnOf "_law_fee" "_law_fee" (fnArgs s__law_fee) (fnBody s__law_fee) (fnScope s__law_fee) .none kV22 dc22 pm22 an22 cd22 ct22), sl22⟩)
    (c22 : PySem.W.codeIn K cd22 "_law_fee" = true)
    (k22 : PySem.W.keepIn K (.ref f22) = true)
    (a23 : PySem.W.nsIn K mainGlobals "_law_tuple_of" = some (some (.ref f23)))
    (l23 : K.lookup f23 = some ⟨oc23, od23, .func (PySem.W.fnOf "_law_tuple_of" "_law_tuple_of" (fnArgs s__law_tuple_of) (fnBody s__law_tuple_of) (fnScope s__law_tuple_of) .none kV23 dc23 pm23 an23 cd23 ct23), sl23⟩)
    (c23 : PySem.W.codeIn K cd23 "_law_tuple_of" = true)
    (k23 : PySem.W.keepIn K (.ref f23) = true)
    (a24 : PySem.W.nsIn K mainGlobals "_law_is" = some (some (.ref f24)))
    (l24 : K.lookup f24 = some ⟨oc24, od24, .func (PySem.W.fnOf "_law_is" "_law_is" (fnArgs s__law_is) (fnBody s__law_is) (fnScope s__law_is) .none kV24 dc24 pm24 an24 cd24 ct24), sl24⟩)
    (c24 : PySem.W.codeIn K cd24 "_law_is" = true)
    (k24 : PySem.W.keepIn K (.ref f24) = true)
    (a25 : PySem.W.nsIn K mainGlobals "_law_tree" = some (some (.ref f25)))
    (l25 : K.lookup f25 = some ⟨oc25, od25, .func (PySem.W.fnOf "_law_tree" "_law_tree" (fnArgs s__law_tree) (fnBody s__law_tree) (fnScope s__law_tree) .none kV25 dc25 pm25 an25 cd25 ct25), sl25⟩)
    (c25 : PySem.W.codeIn K cd25 "_law_tree" = true)
    (k25 : PySem.W.keepIn K (.ref f25) = true)
    (a26 : PySem.W.nsIn K mainGlobals "_law_by_program" = some (some (.ref f26)))
    (l26 : K.lookup f26 = some ⟨oc26, od26, .func (PySem.W.fnOf "_law_by_program" "_law_by_program" (fnArgs s__law_by_program) (fnBody s__law_by_program) (fnScope s__law_by_program) .none kV26 dc26 pm26 an26 cd26 ct26), sl26⟩)
    (c26 : PySem.W.codeIn K cd26 "_law_by_program" = true)
    (k26 : PySem.W.keepIn K (.ref f26) = true)
    (a27 : PySem.W.nsIn K mainGlobals "_law_row_then" = some (some (.ref f27)))
    (l27 : K.lookup f27 = some ⟨oc27, od27, .func (PySem.W.fnOf "_law_row_then" "_law_row_then" (fnArgs s__law_row_then) (fnBody s__law_row_then) (fnScope s__law_row_then) .none kV27 dc27 pm27 an27 cd27 ct27), sl27⟩)
    (c27 : PySem.W.codeIn K cd27 "_law_row_then" = true)
    (k27 : PySem.W.keepIn K (.ref f27) = true)
    (a28 : PySem.W.nsIn K mainGlobals "_law_split" = some (some (.ref f28)))
    (l28 : K.lookup f28 = some ⟨oc28, od28, .func (PySem.W.fnOf "_law_split" "_law_split" (fnArgs s__law_split) (fnBody s__law_split) (fnScope s__law_split) .none kV28 dc28 pm28 an28 cd28 ct28), sl28⟩)
    (c28 : PySem.W.codeIn K cd28 "_law_split" = true)
    (k28 : PySem.W.keepIn K (.ref f28) = true)
    (a29 : PySem.W.nsIn K mainGlobals "_law_raw" = some (some (.ref f29)))
    (l29 : K.lookup f29 = some ⟨oc29, od29, .func (PySem.W.fnOf "_law_raw" "_law_raw" (fnArgs s__law_raw) (fnBody s__law_raw) (fnScope s__law_raw) .none kV29 dc29 pm29 an29 cd29 ct29), sl29⟩)
    (c29 : PySem.W.codeIn K cd29 "_law_raw" = true)
    (k29 : PySem.W.keepIn K (.ref f29) = true)
    (a30 : PySem.W.nsIn K mainGlobals "_law_joints" = some (some (.ref f30)))
    (l30 : K.lookup f30 = some ⟨oc30, od30, .func (PySem.W.fnOf "_law_joints" "_law_joints" (fnArgs s__law_joints) (fnBody s__law_joints) (fnScope s__law_joints) .none kV30 dc30 pm30 an30 cd30 ct30), sl30⟩)
    (c30 : PySem.W.codeIn K cd30 "_law_joints" = true)
    (k30 : PySem.W.keepIn K (.ref f30) = true)
    (a31 : PySem.W.nsIn K mainGlobals "_law_fits_rows" = some (some (.ref f31)))
    (l31 : K.lookup f31 = some ⟨oc31, od31, .func (PySem.W.fnOf "_law_fits_rows" "_law_fits_rows" (fnArgs s__law_fits_rows) (fnBody s__law_fits_rows) (fnScope s__law_fits_rows) .none kV31 dc31 pm31 an31 cd31 ct31), sl31⟩)
    (c31 : PySem.W.codeIn K cd31 "_law_fits_rows" = true)
    (k31 : PySem.W.keepIn K (.ref f31) = true)
    (a32 : PySem.W.nsIn K mainGlobals "_law_joinings" = some (some (.ref f32)))
    (l32 : K.lookup f32 = some ⟨oc32, od32, .func (PySem.W.fnOf "_law_joinings" "_law_joinings" (fnArgs s__law_joinings) (fnBody s__law_joinings) (fnScope s__law_joinings) .none kV32 dc32 pm32 an32 cd32 ct32), sl32⟩)
    (c32 : PySem.W.codeIn K cd32 "_law_joinings" = true)
    (k32 : PySem.W.keepIn K (.ref f32) = true)
    (a33 : PySem.W.nsIn K mainGlobals "_law_small_tree" = some (some (.ref f33)))
    (l33 : K.lookup f33 = some ⟨oc33, od33, .func (PySem.W.fnOf "_law_small_tree" "_law_small_tree" (fnArgs s__law_small_tree) (fnBody s__law_small_tree) (fnScope s__law_small_tree) .none kV33 dc33 pm33 an33 cd33 ct33), sl33⟩)
    (c33 : PySem.W.codeIn K cd33 "_law_small_tree" = true)
    (k33 : PySem.W.keepIn K (.ref f33) = true)
    (a34 : PySem.W.nsIn K mainGlobals "_law_weighed" = some (some (.ref f34)))
    (l34 : K.lookup f34 = some ⟨oc34, od34, .func (PySem.W.fnOf "_law_weighed" "_law_weighed" (fnArgs s__law_weighed) (fnBody s__law_weighed) (fnScope s__law_weighed) .none kV34 dc34 pm34 an34 cd34 ct34), sl34⟩)
    (c34 : PySem.W.codeIn K cd34 "_law_weighed" = true)
    (k34 : PySem.W.keepIn K (.ref f34) = true)
    (a35 : PySem.W.nsIn K mainGlobals "_law_some_settings" = some (some (.ref f35)))
    (l35 : K.lookup f35 = some ⟨oc35, od35, .func (PySem.W.fnOf "_law_some_settings" "_law_some_settings" (fnArgs s__law_some_settings) (fnBody s__law_some_settings) (fnScope s__law_some_settings) .none kV35 dc35 pm35 an35 cd35 ct35), sl35⟩)
    (c35 : PySem.W.codeIn K cd35 "_law_some_settings" = true)
    (k35 : PySem.W.keepIn K (.ref f35) = true)
    (a36 : PySem.W.findIn K (.ref C_Trade) "__init__" = some (some (.ref f36)))
    (i36 : PySem.W.isFn K (.ref f36) = true)
    (l36 : K.lookup f36 = some ⟨oc36, od36, .func (PySem.W.fnOf "__init__" "Trade.__init__" (fnArgs s_Trade___init__) (fnBody s_Trade___init__) (fnScope s_Trade___init__) .none kV36 dc36 pm36 an36 cd36 ct36), sl36⟩)
    (c36 : PySem.W.codeIn K cd36 "Trade.__init__" = true)
    (k36 : PySem.W.keepIn K (.ref f36) = true)
    (a37 : PySem.W.findIn K (.ref C_Trade) "best" = some (some (.ref f37)))
    (i37 : PySem.W.isFn K (.ref f37) = true)
    (l37 : K.lookup f37 = some ⟨oc37, od37, .func (PySem.W.fnOf "best" "Trade.best" (fnArgs s_Trade_best) (fnBody s_Trade_best) (fnScope s_Trade_best) .none kV37 dc37 pm37 an37 cd37 ct37), sl37⟩)
    (c37 : PySem.W.codeIn K cd37 "Trade.best" = true)
    (k37 : PySem.W.keepIn K (.ref f37) = true)
    (a38 : PySem.W.findIn K (.ref C_Trade) "then" = some (some (.ref f38)))
    (i38 : PySem.W.isFn K (.ref f38) = true)
    (l38 : K.lookup f38 = some ⟨oc38, od38, .func (PySem.W.fnOf "then" "Trade.then" (fnArgs s_Trade_then) (fnBody s_Trade_then) (fnScope s_Trade_then) .none kV38 dc38 pm38 an38 cd38 ct38), sl38⟩)
    (c38 : PySem.W.codeIn K cd38 "Trade.then" = true)
    (k38 : PySem.W.keepIn K (.ref f38) = true)
    (a39 : PySem.W.findIn K (.ref C_Dial) "__init__" = some (some (.ref f39)))
    (i39 : PySem.W.isFn K (.ref f39) = true)
    (l39 : K.lookup f39 = some ⟨oc39, od39, .func (PySem.W.fnOf "__init__" "Dial.__init__" (fnArgs s_Dial___init__) (fnBody s_Dial___init__) (fnScope s_Dial___init__) .none kV39 dc39 pm39 an39 cd39 ct39), sl39⟩)
    (c39 : PySem.W.codeIn K cd39 "Dial.__init__" = true)
    (k39 : PySem.W.keepIn K (.ref f39) = true)
    (a40 : PySem.W.findIn K (.ref C_Dial) "best" = some (some (.ref f40)))
    (i40 : PySem.W.isFn K (.ref f40) = true)
    (l40 : K.lookup f40 = some ⟨oc40, od40, .func (PySem.W.fnOf "best" "Dial.best" (fnArgs s_Dial_best) (fnBody s_Dial_best) (fnScope s_Dial_best) .none kV40 dc40 pm40 an40 cd40 ct40), sl40⟩)
    (c40 : PySem.W.codeIn K cd40 "Dial.best" = true)
    (k40 : PySem.W.keepIn K (.ref f40) = true)
    (a41 : PySem.W.findIn K (.ref C_Dial) "then" = some (some (.ref f41)))
    (i41 : PySem.W.isFn K (.ref f41) = true)
    (l41 : K.lookup f41 = some ⟨oc41, od41, .func (PySem.W.fnOf "then" "Dial.then" (fnArgs s_Dial_then) (fnBody s_Dial_then) (fnScope s_Dial_then) .none kV41 dc41 pm41 an41 cd41 ct41), sl41⟩)
    (c41 : PySem.W.codeIn K cd41 "Dial.then" = true)
    (k41 : PySem.W.keepIn K (.ref f41) = true)
    (a42 : PySem.W.nsIn K mainGlobals "law" = some (some (.ref f42)))
    (l42 : K.lookup f42 = some ⟨oc42, od42, .func (PySem.W.fnOf "law" "law" (fnArgs s_law) (fnBody s_law) (fnScope s_law) .none kV42 dc42 pm42 an42 cd42 ct42), sl42⟩)
    (c42 : PySem.W.codeIn K cd42 "law" = true)
    (k42 : PySem.W.keepIn K (.ref f42) = true)
    (z0 : PySem.W.nsIn K mainGlobals "all" = some none)
    (z1 : PySem.W.nsIn K mainGlobals "any" = some none)
    (z2 : PySem.W.nsIn K mainGlobals "bool" = some none)
    (z3 : PySem.W.nsIn K mainGlobals "dict" = some none)
    (z4 : PySem.W.nsIn K mainGlobals "enumerate" = some none)
    (z5 : PySem.W.nsIn K mainGlobals "int" = some none)
    (z6 : PySem.W.nsIn K mainGlobals "isinstance" = some none)
    (z7 : PySem.W.nsIn K mainGlobals "len" = some none)
    (z8 : PySem.W.nsIn K mainGlobals "list" = some none)
    (z9 : PySem.W.nsIn K mainGlobals "min" = some none)
    (z10 : PySem.W.nsIn K mainGlobals "range" = some none)
    (z11 : PySem.W.nsIn K mainGlobals "reversed" = some none)
    (z12 : PySem.W.nsIn K mainGlobals "set" = some none)
    (z13 : PySem.W.nsIn K mainGlobals "sorted" = some none)
    (z14 : PySem.W.nsIn K mainGlobals "str" = some none)
    (z15 : PySem.W.nsIn K mainGlobals "tuple" = some none)
    (z16 : PySem.W.nsIn K mainGlobals "zip" = some none)
    (m0 : PySem.W.nsIn K mainGlobals "MOST" = some (some (.int 1000000 g0)))
    (m1 : PySem.W.nsIn K mainGlobals "LETTERS" = some (some (.int 8 g1)))
    (cc : K.lookup cL = some ⟨occ, odc, .fields vsc, slc⟩)
    (pp : vsc[11]? = some (.ref PL)) :
    PySem.W.tabIn K "_law_lines" = some (cL, PL) ∧ ∃ fd : FuncData, (∀ (s : Shared) (v : Value), BindsTo s fd ⟨[v], []⟩ [("script", v)]) ∧ ∀ base : Heap, K.In base → base.Ns mainGlobals mg → LamX.TabB base mg cL PL → FnOk l.prog w K mg base C8.CX0 13 fa fd ["script"] (spLaw72 K PL) := by
  have T : Top K mg C_Trade C_Dial :=
    { cl_Trade := ⟨pg_Trade, hd_Trade, po_Trade, sa_Trade⟩
      g_Trade := PySem.W.mg_of X G aC_Trade
      na_Trade__wishes := n_wishes_Trade
      na_Trade_stay := nstay_Trade
      cl_Dial := ⟨pg_Dial, hd_Dial, po_Dial, sa_Dial⟩
      g_Dial := PySem.W.mg_of X G aC_Dial
      na_Dial_wish := nwish_Dial
      na_Dial_slope := nslope_Dial
      na_Dial_top := ntop_Dial
      na_Dial_stay := nstay_Dial
      d_is_name := ⟨f1, _, ⟨⟨_, _, _, _, _, _, _, _, _, _, rfl, l1, c1⟩, PySem.W.mg_of X G a1, k1⟩, rfl⟩
      d_is_number := ⟨f2, _, ⟨⟨_, _, _, _, _, _, _, _, _, _, rfl, l2, c2⟩, PySem.W.mg_of X G a2, k2⟩, .inr ⟨(by intro h; cases h), t2, _, [.int 0 dt2_0, .none], tn2, rfl, d2, rfl, (.cons ⟨_, rfl⟩ (.cons rfl .nil))⟩⟩
      d_is_at_most := ⟨f3, _, ⟨⟨_, _, _, _, _, _, _, _, _, _, rfl, l3, c3⟩, PySem.W.mg_of X G a3, k3⟩, rfl⟩
      d_thin_rows := ⟨f4, _, ⟨⟨_, _, _, _, _, _, _, _, _, _, rfl, l4, c4⟩, PySem.W.mg_of X G a4, k4⟩, rfl⟩
      d_any_at_most := ⟨f5, _, ⟨⟨_, _, _, _, _, _, _, _, _, _, rfl, l5, c5⟩, PySem.W.mg_of X G a5, k5⟩, rfl⟩
      d_never_alone := ⟨f6, _, ⟨⟨_, _, _, _, _, _, _, _, _, _, rfl, l6, c6⟩, PySem.W.mg_of X G a6, k6⟩, rfl⟩
      d_is_below_at := ⟨f7, _, ⟨⟨_, _, _, _, _, _, _, _, _, _, rfl, l7, c7⟩, PySem.W.mg_of X G a7, k7⟩, rfl⟩
      d_lowest_lines := ⟨f8, _, ⟨⟨_, _, _, _, _, _, _, _, _, _, rfl, l8, c8⟩, PySem.W.mg_of X G a8, k8⟩, rfl⟩
      d_is_setting := ⟨f9, _, ⟨⟨_, _, _, _, _, _, _, _, _, _, rfl, l9, c9⟩, PySem.W.mg_of X G a9, k9⟩, rfl⟩
      d_read_dial := ⟨f10, _, ⟨⟨_, _, _, _, _, _, _, _, _, _, rfl, l10, c10⟩, PySem.W.mg_of X G a10, k10⟩, rfl⟩
      d__law_bag := ⟨f11, _, ⟨⟨_, _, _, _, _, _, _, _, _, _, rfl, l11, c11⟩, PySem.W.mg_of X G a11, k11⟩, rfl⟩
      d__law_draw := ⟨f12, _, ⟨⟨_, _, _, _, _, _, _, _, _, _, rfl, l12, c12⟩, PySem.W.mg_of X G a12, k12⟩, rfl⟩
      d__law_of := ⟨f13, _, ⟨⟨_, _, _, _, _, _, _, _, _, _, rfl, l13, c13⟩, PySem.W.mg_of X G a13, k13⟩, rfl⟩
      d__law_like := ⟨f14, _, ⟨⟨_, _, _, _, _, _, _, _, _, _, rfl, l14, c14⟩, PySem.W.mg_of X G a14, k14⟩, rfl⟩
      d__law_is_number := ⟨f15, _, ⟨⟨_, _, _, _, _, _, _, _, _, _, rfl, l15, c15⟩, PySem.W.mg_of X G a15, k15⟩, rfl⟩
      d__law_title := ⟨f16, _, ⟨⟨_, _, _, _, _, _, _, _, _, _, rfl, l16, c16⟩, PySem.W.mg_of X G a16, k16⟩, rfl⟩
      d__law_titles := ⟨f17, _, ⟨⟨_, _, _, _, _, _, _, _, _, _, rfl, l17, c17⟩, PySem.W.mg_of X G a17, k17⟩, rfl⟩
      d__law_thin := ⟨f18, _, ⟨⟨_, _, _, _, _, _, _, _, _, _, rfl, l18, c18⟩, PySem.W.mg_of X G a18, k18⟩, rfl⟩
      d__law_span := ⟨f19, _, ⟨⟨_, _, _, _, _, _, _, _, _, _, rfl, l19, c19⟩, PySem.W.mg_of X G a19, k19⟩, rfl⟩
      d__law_lines := ⟨f20, _, ⟨⟨_, _, _, _, _, _, _, _, _, _, rfl, l20, c20⟩, PySem.W.mg_of X G a20, k20⟩, rfl⟩
      d__law_pairs := ⟨f21, _, ⟨⟨_, _, _, _, _, _, _, _, _, _, rfl, l21, c21⟩, PySem.W.mg_of X G a21, k21⟩, rfl⟩
      d__law_fee := ⟨f22, _, ⟨⟨_, _, _, _, _, _, _, _, _, _, rfl, l22, c22⟩, PySem.W.mg_of X G a22, k22⟩, rfl⟩
      d__law_tuple_of := ⟨f23, _, ⟨⟨_, _, _, _, _, _, _, _, _, _, rfl, l23, c23⟩, PySem.W.mg_of X G a23, k23⟩, rfl⟩
      d__law_is := ⟨f24, _, ⟨⟨_, _, _, _, _, _, _, _, _, _, rfl, l24, c24⟩, PySem.W.mg_of X G a24, k24⟩, rfl⟩
      d__law_tree := ⟨f25, _, ⟨⟨_, _, _, _, _, _, _, _, _, _, rfl, l25, c25⟩, PySem.W.mg_of X G a25, k25⟩, rfl⟩
      d__law_by_program := ⟨f26, _, ⟨⟨_, _, _, _, _, _, _, _, _, _, rfl, l26, c26⟩, PySem.W.mg_of X G a26, k26⟩, rfl⟩
      d__law_row_then := ⟨f27, _, ⟨⟨_, _, _, _, _, _, _, _, _, _, rfl, l27, c27⟩, PySem.W.mg_of X G a27, k27⟩, rfl⟩
      d__law_split := ⟨f28, _, ⟨⟨_, _, _, _, _, _, _, _, _, _, rfl, l28, c28⟩, PySem.W.mg_of X G a28, k28⟩, rfl⟩
      d__law_raw := ⟨f29, _, ⟨⟨_, _, _, _, _, _, _, _, _, _, rfl, l29, c29⟩, PySem.W.mg_of X G a29, k29⟩, rfl⟩
      d__law_joints := ⟨f30, _, ⟨⟨_, _, _, _, _, _, _, _, _, _, rfl, l30, c30⟩, PySem.W.mg_of X G a30, k30⟩, rfl⟩
      d__law_fits_rows := ⟨f31, _, ⟨⟨_, _, _, _, _, _, _, _, _, _, rfl, l31, c31⟩, PySem.W.mg_of X G a31, k31⟩, rfl⟩
      d__law_joinings := ⟨f32, _, ⟨⟨_, _, _, _, _, _, _, _, _, _, rfl, l32, c32⟩, PySem.W.mg_of X G a32, k32⟩, rfl⟩
      d__law_small_tree := ⟨f33, _, ⟨⟨_, _, _, _, _, _, _, _, _, _, rfl, l33, c33⟩, PySem.W.mg_of X G a33, k33⟩, rfl⟩
      d__law_weighed := ⟨f34, _, ⟨⟨_, _, _, _, _, _, _, _, _, _, rfl, l34, c34⟩, PySem.W.mg_of X G a34, k34⟩, rfl⟩
      d__law_some_settings := ⟨f35, _, ⟨⟨_, _, _, _, _, _, _, _, _, _, rfl, l35, c35⟩, PySem.W.mg_of X G a35, k35⟩, rfl⟩
      d_Trade___init__ := ⟨f36, _, ⟨mk_Trade, a36, i36, kC_Trade⟩, ⟨_, _, _, _, _, _, _, _, _, _, rfl, l36, c36⟩, rfl⟩
      d_Trade_best := ⟨f37, _, ⟨a37, i37, k37⟩, ⟨_, _, _, _, _, _, _, _, _, _, rfl, l37, c37⟩, rfl⟩
      d_Trade_then := ⟨f38, _, ⟨a38, i38, k38⟩, ⟨_, _, _, _, _, _, _, _, _, _, rfl, l38, c38⟩, rfl⟩
      d_Dial___init__ := ⟨f39, _, ⟨mk_Dial, a39, i39, kC_Dial⟩, ⟨_, _, _, _, _, _, _, _, _, _, rfl, l39, c39⟩, rfl⟩
      d_Dial_best := ⟨f40, _, ⟨a40, i40, k40⟩, ⟨_, _, _, _, _, _, _, _, _, _, rfl, l40, c40⟩, rfl⟩
      d_Dial_then := ⟨f41, _, ⟨a41, i41, k41⟩, ⟨_, _, _, _, _, _, _, _, _, _, rfl, l41, c41⟩, rfl⟩
      d_law := ⟨f42, _, ⟨⟨_, _, _, _, _, _, _, _, _, _, rfl, l42, c42⟩, PySem.W.mg_of X G a42, k42⟩, rfl⟩
      all := PySem.W.mg_none_of X G z0
      any := PySem.W.mg_none_of X G z1
      bool := PySem.W.mg_none_of X G z2
      dict := PySem.W.mg_none_of X G z3
      enumerate := PySem.W.mg_none_of X G z4
      int := PySem.W.mg_none_of X G z5
      isinstance := PySem.W.mg_none_of X G z6
      len := PySem.W.mg_none_of X G z7
      list := PySem.W.mg_none_of X G z8
      min := PySem.W.mg_none_of X G z9
      range := PySem.W.mg_none_of X G z10
      reversed := PySem.W.mg_none_of X G z11
      set := PySem.W.mg_none_of X G z12
      sorted := PySem.W.mg_none_of X G z13
      str := PySem.W.mg_none_of X G z14
      tuple := PySem.W.mg_none_of X G z15
      zip := PySem.W.mg_none_of X G z16
      m_MOST := ⟨_, PySem.W.mg_of X G m0, _, rfl⟩
      m_LETTERS := ⟨_, PySem.W.mg_of X G m1, _, rfl⟩ }
  refine ⟨?_, ?_⟩
  · unfold PySem.W.tabIn
    simp only [a20, l20, cc, pp]
  have ea := hfa.symm.trans (PySem.W.mg_of X G a42)
  cases ea
  exact ⟨_, fun s v => .of_eq rfl, fun base _ _ tb => ok_law T ⟨⟨f20, _, ⟨⟨_, _, _, _, _, _, _, _, _, _, rfl, l20, c20⟩, PySem.W.mg_of X G a20, k20⟩, rfl, rfl⟩, tb⟩ ⟨⟨_, _, _, _, _, _, _, _, _, _, rfl, l42, c42⟩, PySem.W.mg_of X G a42, k42⟩⟩
theorem law_at {l : PySem.W.OpenLaw} {w : World} {K : PySem.W.Frag} {mg mb : Str → Option Value} {fa cL PL : Addr} {h : Heap} {q : Program} {loose : List Str} {mean : ExcName → Option Value} {d : DefRec} {k : Nat} (T : PyProof.Rows.Top q loose mean mg mb h) (KX : K.In h) (hr : (PyProof.Rows.recsOf q).find? (fun e => e.name == ("_law_lines" : Str)) = some d)
    (nP : PySem.W.noTabs K = true) (all : PySem.W.tabIn K "_law_lines" = some (cL, PL) ∧ ∃ fd : FuncData, (∀ (s : Shared) (v : Value), BindsTo s fd ⟨[v], []⟩ [("script", v)]) ∧ ∀ base : Heap, K.In base → base.Ns mainGlobals mg → LamX.TabB base mg cL PL → FnOk l.prog w K mg base C8.CX0 k fa fd ["script"] (spLaw72 K PL)) :
    LamX.LawAtS l w K C8.CX0 k 63 "script" mg fa h := by
  obtain ⟨ht, fd, hb, hF⟩ := all
  obtain ⟨C, hP⟩ := PySem.W.tab_of T KX hr ht
  refine ⟨fd, [(cL, PL)], spLaw72 K PL, fun p hp => ?_, fun p hp => ?_, fun p hp => ?_, hb, fun H a ns _ _ hH hS => ⟨_, rfl, a, ns, rfl, hS, fun p hp => ?_, fun _ => rfl⟩, fun base kb gb tb => hF base kb gb (tb (cL, PL) (List.mem_cons_self ..))⟩
  · rw [List.mem_singleton.mp hp]
    exact hP
  · rw [List.mem_singleton.mp hp]
    cases e : K.lookup PL with
    | none => rfl
    | some o =>
      have e2 := KX _ _ e
      rw [hP] at e2
      cases e2
      have h2 := List.all_eq_true.mp nP (PL, _) (PySem.W.mem_of_lookupK e)
      cases h2
  · rw [List.mem_singleton.mp hp]
    exact C
  · rw [List.mem_singleton.mp hp]
    exact LamX.TabS.nil (hH (cL, PL) (List.mem_cons_self ..))
theorem walk_tabs {l : PySem.W.OpenLaw} {k : Nat} {q : Program} {loose : List Str} {XP : (Str → Option Value) → Heap → Prop} {YP : World → Heap → Prop} {d : DefRec} {K : Params → PySem.W.Frag}
    (hn : l.most = some 63) (hdf : d.params.defaults = []) (hr : Room k callerA) (hY : ∀ (w : World) (h : Heap), YP w h → (K w.params).In h)
    (F : ∀ (w : World) (mg mb : Str → Option Value) (fa : Addr) (h : Heap) (mean : ExcName → Option Value) (free : List Str), PyProof.Rows.Top q free mean mg mb h → (K w.params).In h → mg d.name = some (.ref fa) → LamX.LawAtS l w (K w.params) C8.CX0 k 63 "script" mg fa h) :
    PySem.W.WalkO q loose XP YP l.row.toRowW d [] (fun f vs => PySem.call f vs) := by
  refine Att.attach_callB hn hdf fun w s₀ s₁ mg mb fa o pm cd doc a vs ns G Y ho hd hcd hmg hobj hints hlen hbits hg => ?_
  have KX := hY w _ Y
  obtain ⟨fd, cs, sp, hT, nT, C, hb, hsp, hF⟩ := F w mg mb fa _ _ _ G.T KX hmg
  exact LamX.law_callTs KX G.T.g G.T.b G.T.builtins G.T.nolimit hg hT nT C G.T.bmain hobj hints (Nat.le_trans hlen (by decide)) hr hF hb (fun H hH hS => hsp H a ns hlen hbits hH hS) fun H e s' z => z
end Fb
open PySem PySem.W PyProof.Rows
set_option maxRecDepth 100000 in
set_option maxHeartbeats 0 in
theorem PySem.Challenge.cw_feeblind_k72_whole_dial_reads_trade_holds : PySem.Challenge.rw_feeblind_k72_whole_dial_reads_trade.Holds := by
  w_on; o_law; k_head; (case hw => w_witness2)
  k_fill
  refine Fb.walk_tabs (l := PySem.Challenge.rw_feeblind_k72_whole_dial_reads_trade) (k := 13) rfl rfl ⟨rfl, by decide, by decide⟩ (fun w h Y => PySem.W.km_in_of Y) ?F
  case F =>
    intro w mg mb fa h mean free T KX hmg
    refine' Fb.law_at (cL := ?cL) (PL := ?PL) T KX rfl (by kernel_rfl) ?all
    case all =>
    have G := T.g
    refine' Fb.all_mk KX G hmg ?aC_Trade ?pg_Trade ?hd_Trade ?po_Trade ?sa_Trade ?mk_Trade ?kC_Trade ?n_wishes_Trade ?nstay_Trade ?aC_Dial ?pg_Dial ?hd_Dial ?po_Dial ?sa_Dial ?mk_Dial ?kC_Dial ?nwish_Dial ?nslope_Dial ?ntop_Dial ?nstay_Dial ?a1 ?l1 ?c1 ?k1 ?a2 ?l2 ?c2 ?k2 ?d2 ?a3 ?l3 ?c3 ?k3 ?a4 ?l4 ?c4 ?k4 ?a5 ?l5 ?c5 ?k5 ?a6 ?l6 ?c6 ?k6 ?a7 ?l7 ?c7 ?k7 ?a8 ?l8 ?c8 ?k8 ?a9 ?l9 ?c9 ?k9 ?a10 ?l10 ?c10 ?k10 ?a11 ?l11 ?c11 ?k11 ?a12 ?l12 ?c12 ?k12 ?a13 ?l13 ?c13 ?k13 ?a14 ?l14 ?c14 ?k14 ?a15 ?l15 ?c15 ?k15 ?a16 ?l16 ?c16 ?k16 ?a17 ?l17 ?c17 ?k17 ?a18 ?l18 ?c18 ?k18 ?a19 ?l19 ?c19 ?k19 ?a20 ?l20 ?c20 ?k20 ?a21 ?l21 ?c21 ?k21 ?a22 ?l22 ?c22 ?k22 ?a23 ?l23 ?c23 ?k23 ?a24 ?l24 ?c24 ?k24 ?a25 ?l25 ?c25 ?k25 ?a26 ?l26 ?c26 ?k26 ?a27 ?l27 ?c27 ?k27 ?a28 ?l28 ?c28 ?k28 ?a29 ?l29 ?c29 ?k29 ?a30 ?l30 ?c30 ?k30 ?a31 ?l31 ?c31 ?k31 ?a32 ?l32 ?c32 ?k32 ?a33 ?l33 ?c33 ?k33 ?a34 ?l34 ?c34 ?k34 ?a35 ?l35 ?c35 ?k35 ?a36 ?i36 ?l36 ?c36 ?k36 ?a37 ?i37 ?l37 ?c37 ?k37 ?a38 ?i38 ?l38 ?c38 ?k38 ?a39 ?i39 ?l39 ?c39 ?k39 ?a40 ?i40 ?l40 ?c40 ?k40 ?a41 ?i41 ?l41 ?c41 ?k41 ?a42 ?l42 ?c42 ?k42 ?z0 ?z1 ?z2 ?z3 ?z4 ?z5 ?z6 ?z7 ?z8 ?z9 ?z10 ?z11 ?z12 ?z13 ?z14 ?z15 ?z16 ?m0 ?m1 ?cc ?pp
    (case aC_Trade => k_is)
    (case pg_Trade => k_is)
    (case hd_Trade => k_is)
    (case po_Trade => k_is)
    (case sa_Trade => k_is)
    (case mk_Trade => k_is)
    (case kC_Trade => k_is)
    (case n_wishes_Trade => k_is)
    (case nstay_Trade => k_is)
    (case aC_Dial => k_is)
    (case pg_Dial => k_is)
    (case hd_Dial => k_is)
    (case po_Dial => k_is)
    (case sa_Dial => k_is)
    (case mk_Dial => k_is)
    (case kC_Dial => k_is)
    (case nwish_Dial => k_is)
    (case nslope_Dial => k_is)
    (case ntop_Dial => k_is)
    (case nstay_Dial => k_is)
    (case a1 => k_is)
    (case l1 => k_is)
    (case c1 => k_is)
    (case k1 => k_is)
    (case a2 => k_is)
    (case l2 => k_is)
    (case c2 => k_is)
    (case k2 => k_is)
    (case d2 => k_is)
    (case a3 => k_is)
    (case l3 => k_is)
    (case c3 => k_is)
    (case k3 => k_is)
    (case a4 => k_is)
    (case l4 => k_is)
    (case c4 => k_is)
    (case k4 => k_is)
    (case a5 => k_is)
    (case l5 => k_is)
    (case c5 => k_is)
    (case k5 => k_is)
    (case a6 => k_is)
    (case l6 => k_is)
    (case c6 => k_is)
    (case k6 => k_is)
    (case a7 => k_is)
    (case l7 => k_is)
    (case c7 => k_is)
    (case k7 => k_is)
    (case a8 => k_is)
    (case l8 => k_is)
    (case c8 => k_is)
    (case k8 => k_is)
    (case a9 => k_is)
    (case l9 => k_is)
    (case c9 => k_is)
    (case k9 => k_is)
    (case a10 => k_is)
    (case l10 => k_is)
    (case c10 => k_is)
    (case k10 => k_is)
    (case a11 => k_is)
    (case l11 => k_is)
    (case c11 => k_is)
    (case k11 => k_is)
    (case a12 => k_is)
    (case l12 => k_is)
    (case c12 => k_is)
    (case k12 => k_is)
    (case a13 => k_is)
    (case l13 => k_is)
    (case c13 => k_is)
    (case k13 => k_is)
    (case a14 => k_is)
    (case l14 => k_is)
    (case c14 => k_is)
    (case k14 => k_is)
    (case a15 => k_is)
    (case l15 => k_is)
    (case c15 => k_is)
    (case k15 => k_is)
    (case a16 => k_is)
    (case l16 => k_is)
    (case c16 => k_is)
    (case k16 => k_is)
    (case a17 => k_is)
    (case l17 => k_is)
    (case c17 => k_is)
    (case k17 => k_is)
    (case a18 => k_is)
    (case l18 => k_is)
    (case c18 => k_is)
    (case k18 => k_is)
    (case a19 => k_is)
    (case l19 => k_is)
    (case c19 => k_is)
    (case k19 => k_is)
    (case a20 => k_is)
    (case l20 => k_is)
    (case c20 => k_is)
    (case k20 => k_is)
    (case a21 => k_is)
    (case l21 => k_is)
    (case c21 => k_is)
    (case k21 => k_is)
    (case a22 => k_is)
    (case l22 => k_is)
    (case c22 => k_is)
    (case k22 => k_is)
    (case a23 => k_is)
    (case l23 => k_is)
    (case c23 => k_is)
    (case k23 => k_is)
    (case a24 => k_is)
    (case l24 => k_is)
    (case c24 => k_is)
    (case k24 => k_is)
    (case a25 => k_is)
    (case l25 => k_is)
    (case c25 => k_is)
    (case k25 => k_is)
    (case a26 => k_is)
    (case l26 => k_is)
    (case c26 => k_is)
    (case k26 => k_is)
    (case a27 => k_is)
    (case l27 => k_is)
    (case c27 => k_is)
    (case k27 => k_is)
    (case a28 => k_is)
    (case l28 => k_is)
    (case c28 => k_is)
    (case k28 => k_is)
    (case a29 => k_is)
    (case l29 => k_is)
    (case c29 => k_is)
    (case k29 => k_is)
    (case a30 => k_is)
    (case l30 => k_is)
    (case c30 => k_is)
    (case k30 => k_is)
    (case a31 => k_is)
    (case l31 => k_is)
    (case c31 => k_is)
    (case k31 => k_is)
    (case a32 => k_is)
    (case l32 => k_is)
    (case c32 => k_is)
    (case k32 => k_is)
    (case a33 => k_is)
    (case l33 => k_is)
    (case c33 => k_is)
    (case k33 => k_is)
    (case a34 => k_is)
    (case l34 => k_is)
    (case c34 => k_is)
    (case k34 => k_is)
    (case a35 => k_is)
    (case l35 => k_is)
    (case c35 => k_is)
    (case k35 => k_is)
    (case a36 => k_is)
    (case i36 => k_is)
    (case l36 => k_is)
    (case c36 => k_is)
    (case k36 => k_is)
    (case a37 => k_is)
    (case i37 => k_is)
    (case l37 => k_is)
    (case c37 => k_is)
    (case k37 => k_is)
    (case a38 => k_is)
    (case i38 => k_is)
    (case l38 => k_is)
    (case c38 => k_is)
    (case k38 => k_is)
    (case a39 => k_is)
    (case i39 => k_is)
    (case l39 => k_is)
    (case c39 => k_is)
    (case k39 => k_is)
    (case a40 => k_is)
    (case i40 => k_is)
    (case l40 => k_is)
    (case c40 => k_is)
    (case k40 => k_is)
    (case a41 => k_is)
    (case i41 => k_is)
    (case l41 => k_is)
    (case c41 => k_is)
    (case k41 => k_is)
    (case a42 => k_is)
    (case l42 => k_is)
    (case c42 => k_is)
    (case k42 => k_is)
    (case z0 => k_is)
    (case z1 => k_is)
    (case z2 => k_is)
    (case z3 => k_is)
    (case z4 => k_is)
    (case z5 => k_is)
    (case z6 => k_is)
    (case z7 => k_is)
    (case z8 => k_is)
    (case z9 => k_is)
    (case z10 => k_is)
    (case z11 => k_is)
    (case z12 => k_is)
    (case z13 => k_is)
    (case z14 => k_is)
    (case z15 => k_is)
    (case z16 => k_is)
    (case m0 => k_is)
    (case m1 => k_is)
    (case cc => k_is)
    (case pp => exact rfl)

