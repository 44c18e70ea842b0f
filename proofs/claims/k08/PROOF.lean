import PyProof.Rows.All
import Wide.All
import OpenK.AllK
import Wide.FinOn
import HandS.Base
import HandS.Call
import HandS.List
import HandS.Comp
import HandS.Iter
import HandS.Dict
import HandS.Text
import HandS.Ends
import HandS.Words
import HandS.WordsList
import HandS.Wide
import HandS.Defaults
import HandS.Zip
import KE.DataEq
import HandS.Walk
import HandS.IsInst
import HandS.Codes
import HandS.Rev
import HandS.RevRange
import KE.GoesEnum
import PySem.Challenge.RW_feeblind_k08_whole_hours_walked
set_option Elab.async false
set_option linter.all false
set_option maxRecDepth 100000
set_option maxHeartbeats 4000000
/-! Rules that serve several kinds at once, and the bag of draws. -/
namespace Fb
open PySem PySem.Spec L2
open PyProof.Rows hiding St

/-! ### heaps that only grow -/
theorem grow {H : Hp} {p : Addr} {o : HO} (h : H p = none) : Same H (upd H p o) := by
  intro b u e
  rw [upd_ne (ne_of_none e h)]
  exact e
theorem upd_self {H : Hp} {p : Addr} {o : HO} (h : H p = some o) : upd H p o = H := by
  funext b
  unfold upd
  by_cases e : b = p
  · rw [if_pos e, e, h]
  · rw [if_neg e]
theorem same_tup {K : PySem.W.Frag} {H H' : Hp} {a : Addr} {xs : List V} (e : Same H H') (h : SqT K H a xs) : SqT K H' a xs := by
  rcases h with (h | ⟨o, h⟩) | h
  · exact Or.inl (Or.inl (e _ _ h))
  · exact Or.inl (Or.inr ⟨o, e _ _ h⟩)
  · exact Or.inr h

/-! ### == of data of any depth below sixty, whatever signs its texts have -/
mutual
theorem dp_plain {K : PySem.W.Frag} {H : Hp} : ∀ (d : PyData) {v : V}, Dp K H v d → d.plain = true
  | .none, _, _ => rfl
  | .bool _, _, _ => rfl
  | .int _, _, _ => rfl
  | .str _, _, _ => rfl
  | .list ds, _, h => by
    cases h with
    | lst _ a => exact dpAll_plain ds a
  | .tuple ds, _, h => by
    cases h with
    | tup _ a => exact dpAll_plain ds a
  | .dict _, _, h => by cases h
theorem dpAll_plain {K : PySem.W.Frag} {H : Hp} : ∀ (ds : List PyData) {vs : List V}, DpAll K H vs ds → PyData.plainAll ds = true
  | [], _, _ => rfl
  | d :: ds, _, h => by
    cases h with
    | cons a b =>
      have h1 := dp_plain d a
      have h2 := dpAll_plain ds b
      simp only [PyData.plainAll, h1, h2, Bool.and_self]
end
def rEqP (K : PySem.W.Frag) : R2 := fun x y H Q => ∃ d e, Dp K H x d ∧ Dp K H y e ∧ min d.depth e.depth ≤ 60 ∧ Q (.bl (PyData.eqv d e)) H
def rNeP (K : PySem.W.Frag) : R2 := fun x y H Q => ∃ d e, Dp K H x d ∧ Dp K H y e ∧ min d.depth e.depth ≤ 60 ∧ Q (.bl (!PyData.eqv d e)) H
section
variable {X : Cx} {k : Nat}
theorem op_eqP (hr : Room k X.A) : OpR X (compareOp .Eq) (rEqP X.K) := by
  rintro pins s σ H x y v u Q I rx ry ⟨d, e, hd, he, hl, q⟩
  obtain ⟨as, r1⟩ := Dp.reads I d x v hd rx
  obtain ⟨bs, r2⟩ := Dp.reads I e y u he ry
  have hu := hr.units
  exact SeqAt.eq_plain r1 r2 (dp_plain d hd) (dp_plain e he) (by omega) ⟨.bl _, H, I, rfl, q⟩
theorem op_neP (hr : Room k X.A) : OpR X (compareOp .NotEq) (rNeP X.K) := by
  rintro pins s σ H x y v u Q I rx ry ⟨d, e, hd, he, hl, q⟩
  obtain ⟨as, r1⟩ := Dp.reads I d x v hd rx
  obtain ⟨bs, r2⟩ := Dp.reads I e y u he ry
  have hu := hr.units
  exact SeqAt.ne_plain r1 r2 (dp_plain d hd) (dp_plain e he) (by omega) ⟨.bl _, H, I, rfl, q⟩
end

/-! ### rules for several kinds -/
def rAddStr : R2 := fun x y H Q => ∃ i j, x = .str i ∧ y = .str j ∧ i.length + j.length ≤ sizeLine ∧ Q (.str (i ++ j)) H
def rAddU : R2 := fun x y H Q => rI0 (fun i j => .int (i + j)) x y H Q ∨ rAddStr x y H Q ∨ rCat x y H Q
def rLeStr : R2 := fun x y H Q => ∃ i j, x = .str i ∧ y = .str j ∧ Q (.bl (!decide (j.cps.toList < i.cps.toList))) H
def rLeU : R2 := fun x y H Q => rI0 (fun i j => .bl (decide (i ≤ j))) x y H Q ∨ rLeStr x y H Q
def rLtStr : R2 := fun x y H Q => ∃ i j, x = .str i ∧ y = .str j ∧ Q (.bl (decide (i.cps.toList < j.cps.toList))) H
def rLtU (K : PySem.W.Frag) : R2 := fun x y H Q => rI0 (fun i j => .bl (decide (i < j))) x y H Q ∨ rLtStr x y H Q ∨ rLtT K x y H Q
def rEqU (K : PySem.W.Frag) : R2 := fun x y H Q => rEq x y H Q ∨ rEqP K x y H Q
def rNeU (K : PySem.W.Frag) : R2 := fun x y H Q => rNe x y H Q ∨ rNeP K x y H Q
def rLenSeq (K : PySem.W.Frag) : List V → Hp → VK → Prop := fun xs H Q => ∃ p ys, xs = [.ref p] ∧ (SqL K H p ys ∨ SqT K H p ys) ∧ Q (.int ys.length) H
def rLenStr : List V → Hp → VK → Prop := fun xs H Q => ∃ z, xs = [.str z] ∧ z.length ≤ sizeLine ∧ Q (.int z.length) H
def rLenDic : List V → Hp → VK → Prop := fun xs H Q => ∃ a kvs, xs = [V.ref a] ∧ H a = some (.dK kvs) ∧ Q (.int kvs.length) H
def rLenU (K : PySem.W.Frag) : List V → Hp → VK → Prop := fun xs H Q => rLenSeq K xs H Q ∨ rLenStr xs H Q
def rSlU (K : PySem.W.Frag) : V → Option Int → Option Int → Hp → VK → Prop := fun x lo hi H Q => rSlL K x lo hi H Q ∨ rSlS x lo hi H Q
section
variable {X : Cx} {k : Nat}
theorem op_addU : OpR X (binaryOp .Add) rAddU := op_add.or (op_add_str.or op_cat)
theorem op_leU : OpR X (compareOp .LtE) rLeU := op_le.or op_le_str
theorem op_geU : OpR X (compareOp .GtE) (rI0 fun i j => .bl (decide (j ≤ i))) := op_ge
theorem op_gtU : OpR X (compareOp .Gt) (rI0 fun i j => .bl (decide (j < i))) := op_gt
theorem op_ltU (hr : Room k X.A) : OpR X (compareOp .Lt) (rLtU X.K) := op_lt.or (op_lt_str.or (op_ltT hr.units0))
theorem op_eqU (hr : Room k X.A) : OpR X (compareOp .Eq) (rEqU X.K) := op_eq.or (op_eqP hr)
theorem op_neU (hr : Room k X.A) : OpR X (compareOp .NotEq) (rNeU X.K) := op_ne.or (op_neP hr)
theorem call_lenU : CallR X (.builtin "len") (rLenU X.K) := call_len_seq.or call_len_str
theorem sl_U : SlR X (rSlU X.K) := sl_list.or sl_str
end

/-! ### what a for walks, whatever it is: a list, a tuple, a text -/
def iAny (K : PySem.W.Frag) (tl : TE) : TI := fun σ H R => tl σ H fun x H1 =>
  (∃ a, x = .ref a ∧ (∃ xs, SqL K H1 a xs) ∧ R (Itl K a) H1) ∨ (∃ a, x = .ref a ∧ (∃ xs, SqT K H1 a xs) ∧ R (Itt K a) H1) ∨ (∃ z, x = .str z ∧ R (Its z) H1)
theorem pi_any {X : Cx} {tg l : Expr} {tl : TE} (hl : PE X l tl) : PI X tg l (iAny X.K tl) := by
  constructor
  intro pins s σ H R I h
  refine thn (hl.run pins s σ H _ I h) ?_
  rintro v s1 ⟨x, H1, I1, r1, q1⟩
  rcases q1 with ⟨a, e, ⟨xs, hq⟩, q⟩ | ⟨a, e, ⟨xs, hq⟩, q⟩ | ⟨z, e, q⟩
  all_goals subst e
  · cases r1
    obtain ⟨its, rv, p, hz⟩ := I1.list hq
    exact wpAny_pyIter_list p.isList (pi_one (tk := s1.toks) I1 _ (turn_list a _) ⟨_, Heap.get?_push_size _ rfl, rfl, rfl⟩ q)
  · cases r1
    obtain ⟨its, rv, p, hz⟩ := I1.tuple hq
    exact wpAny_pyIter_tuple (show s1.heap.IsTuple a its.toArray from p) (pi_one (tk := s1.toks) I1 _ (turn_tuple a _) ⟨_, Heap.get?_push_size _ rfl, rfl, rfl⟩ q)
  · obtain ⟨t, rfl⟩ := r1
    cases ha : z.cps.all (· < 128) with
    | false => exact wpAny_pyIter_wide ha (pi_one (tk := s1.toks) I1 _ (turn_str _ z t "str_iterator" (.inr rfl)) ⟨_, Heap.get?_push_size _ rfl, rfl, rfl⟩ q)
    | true => exact wpAny_pyIter_ascii ha (pi_one (tk := s1.toks) I1 _ (turn_str _ z t "str_ascii_iterator" (.inl rfl)) ⟨_, Heap.get?_push_size _ rfl, rfl, rfl⟩ q)

/-! ### an object tracked otherwise than before -/
theorem retrack {X : Cx} {pins : List (Addr × Obj)} {σ : St} {H : Hp} {s : Shared} {p : Addr} {o : HO} (I : Inv X pins σ H s) (mu : Mut (H p)) (there : ∃ u, s.heap.get? p = some u) (new : ObjOk X.prog X.w (upd H p o) s.heap p o) : Inv X pins σ (upd H p o) s :=
  I.write (h' := s.heap) (t' := s.toks) mu (.inl rfl) (fun _ _ _ e => e) there new

/-! ### the bag of draws: a list [the script's ints, how many are used, what is left of one, a stir, a count] -/
def bagL (q : Addr) (i c st t : Int) : List V := [.ref q, .int i, .int c, .int st, .int t]
def BagOk (i st : Int) : Prop := 0 ≤ i ∧ 0 ≤ st ∧ st < 2147483629
def bagO (q p : Addr) : HO := .ext fun h => ∃ (i c st t : Int) (its : List Value) (n : Nat), BagOk i st ∧ Vals (bagL q i c st t) its ∧ h.get? p = some { cls := .type "list", data := .seq its.toArray n }
theorem bag_shut {P : Program} {w : World} {H : Hp} {h : Heap} {q p : Addr} {i c st t : Int} (b : BagOk i st) (x : ObjOk P w H h p (.lst (bagL q i c st t))) : ObjOk P w H h p (bagO q p) := by
  obtain ⟨_, its, n, v, e⟩ := x
  refine ⟨⟨i, c, st, t, its, n, b, v, e⟩, ⟨_, e⟩, ?_⟩
  rintro h1 h2 ⟨i, c, st, t, its, n, b, v, e⟩ k
  exact ⟨i, c, st, t, its, n, b, v, k _ e⟩
theorem bag_opened {P : Program} {w : World} {H : Hp} {h : Heap} {q p : Addr} (x : ObjOk P w H h p (bagO q p)) : ∃ i c st t, BagOk i st ∧ ∀ H' : Hp, ObjOk P w H' h p (.lst (bagL q i c st t)) := by
  obtain ⟨⟨i, c, st, t, its, n, b, v, e⟩, _⟩ := x
  exact ⟨i, c, st, t, b, fun _ => ⟨by show 5 ≤ sizeLine; decide, its, n, v, e⟩⟩
/-- the bag at p stands as a list meanwhile -/
def shutAt (q p : Addr) (F : Hp → Prop) (H : Hp) : Prop := ∃ i c st t, BagOk i st ∧ H p = some (.lst (bagL q i c st t)) ∧ F (upd H p (bagO q p))
def tBag (t : TS) : TS := fun D σ H => ∃ p q, H p = some (bagO q p) ∧ ∀ i c st tt, BagOk i st →
  t ⟨fun σ' => shutAt q p (D.nx σ'), fun v => shutAt q p (D.rt v), fun σ' => shutAt q p (D.bk σ'), fun σ' => shutAt q p (D.ct σ')⟩ σ (upd H p (.lst (bagL q i c st tt)))
theorem shut {X : Cx} {pins : List (Addr × Obj)} {σ : St} {H : Hp} {s : Shared} {q p : Addr} {F : Hp → Prop} (I : Inv X pins σ H s) (h : shutAt q p F H) : ∃ H', Inv X pins σ H' s ∧ F H' := by
  obtain ⟨i, c, st, t, b, e, f⟩ := h
  have old := I.hok _ _ e
  obtain ⟨l, its, n, v, g⟩ := old
  exact ⟨_, retrack I (by rw [e]; trivial) ⟨_, g⟩ (bag_shut (H := upd H p (bagO q p)) b ⟨l, its, n, v, g⟩), f⟩
theorem pss_bag {X : Cx} {sts : List Stmt} {t : TS} (h : PSs X sts t) : PSs X sts (tBag t) := by
  constructor
  intro pins s σ H D I hw
  obtain ⟨p, q, hp, hw⟩ := hw
  obtain ⟨i, c, st, tt, b, ok⟩ := bag_opened (I.hok _ _ hp)
  have I1 := retrack (p := p) I (by rw [hp]; trivial) (I.hok _ _ hp).2.1 (ok _)
  refine thn (h.run pins s σ _ _ I1 (hw i c st tt b)) ?_
  intro f s1 r
  cases f with
  | next => obtain ⟨σ', H', I2, e⟩ := r; obtain ⟨H2, I3, f⟩ := shut I2 e; exact ⟨σ', H2, I3, f⟩
  | brk => obtain ⟨σ', H', I2, e⟩ := r; obtain ⟨H2, I3, f⟩ := shut I2 e; exact ⟨σ', H2, I3, f⟩
  | cont => obtain ⟨σ', H', I2, e⟩ := r; obtain ⟨H2, I3, f⟩ := shut I2 e; exact ⟨σ', H2, I3, f⟩
  | ret v => obtain ⟨x, σ', H', I2, rv, e⟩ := r; obtain ⟨H2, I3, f⟩ := shut I2 e; exact ⟨x, σ', H2, I3, rv, f⟩
/-- a list that is handed back becomes a bag -/
def tBagNew (t : TS) : TS := fun D σ H => t { D with rt := fun v H' => ∃ p q, v = .ref p ∧ shutAt q p (D.rt v) H' } σ H
theorem pss_bagNew {X : Cx} {sts : List Stmt} {t : TS} (h : PSs X sts t) : PSs X sts (tBagNew t) := by
  constructor
  intro pins s σ H D I hw
  refine thn (h.run pins s σ _ _ I hw) ?_
  intro f s1 r
  cases f with
  | next => exact r
  | brk => exact r
  | cont => exact r
  | ret v =>
    obtain ⟨x, σ', H', I2, rv, p, q, e, r⟩ := r
    obtain ⟨H2, I3, f⟩ := shut I2 r
    exact ⟨x, σ', H2, I3, rv, f⟩
end Fb

set_option Elab.async false
set_option linter.all false
set_option maxRecDepth 100000
set_option maxHeartbeats 4000000
namespace Fb
open PySem PySem.Spec L2
open PyProof.Rows hiding St
open C8 (Cal Met Mak Def cal0 met0 mak0 pe_c pe_mk pe_mt pe_mt0 fnScope fnBody fnArgs)

/-! ### isinstance of a built-in class, of a tuple of them -/
def anyB (a : String) : List String → Option Bool
  | [] => some false
  | b :: r => match kitB a b with
    | some true => some true
    | some false => anyB a r
    | none => none
theorem kit_any {K : PySem.W.Frag} {a : String} : ∀ {ns : List String} {b : Bool}, anyB a ns = some b → PySem.W.kitAny K (.type a) (ns.map Value.type) = some b
  | [], b, h => h
  | n :: r, b, h => by
    have ih := @kit_any K a r b
    unfold anyB at h
    rw [List.map_cons]
    unfold PySem.W.kitAny
    cases e : kitB a n with
    | none =>
      rw [e] at h
      cases h
    | some c =>
      rw [e] at h
      rw [kit_ty (K := K) e]
      cases c with
      | true => exact h
      | false => exact ih h
theorem clsAll : ∀ ns : List String, Paired ClsV (ns.map V.ty) (ns.map Value.type)
  | [] => .nil
  | n :: r => .cons (.ty n) (clsAll r)
def rIs1 (K : PySem.W.Frag) : List V → Hp → VK → Prop := fun xs H Q => ∃ (x : V) (n t : String) (b : Bool), xs = [x, .ty n] ∧ TyX K H x (.type t) ∧ kitB t n = some b ∧ Q (.bl b) H
def rIsN (K : PySem.W.Frag) : List V → Hp → VK → Prop := fun xs H Q => ∃ (x : V) (tp : Addr) (ns : List String) (t : String) (b : Bool), xs = [x, .ref tp] ∧ H tp = some (.tup (ns.map V.ty)) ∧ TyX K H x (.type t) ∧ anyB t ns = some b ∧ Q (.bl b) H
def rIsiU (K : PySem.W.Frag) : List V → Hp → VK → Prop := fun xs H Q => rIs1 K xs H Q ∨ rIsN K xs H Q
theorem CallR.imp {X : Cx} {f : Value} {r r' : List V → Hp → VK → Prop} (h : CallR X f r) (i : ∀ xs H Q, r' xs H Q → r xs H Q) : CallR X f r' :=
  fun pins s σ H xs us Q I rv q => h pins s σ H xs us Q I rv (i _ _ _ q)
theorem call_isiU {X : Cx} : CallR X (.builtin "isinstance") (rIsiU X.K) := by
  refine CallR.imp (call_isi.or call_isiT) fun xs H Q h => ?_
  rcases h with ⟨x, n, t, b, e, ty, kb, q⟩ | ⟨x, tp, ns, t, b, e, ht, ty, kb, q⟩
  · exact .inl ⟨x, _, _, _, b, e, .ty n, ty, kit_ty kb, q⟩
  · exact .inr ⟨x, tp, _, _, _, b, e, ht, clsAll ns, ty, kit_any kb, q⟩

/-! ### in, not in: a sign in a text, a flat value in a list or tuple -/
def rInSign (f : Bool → Bool) : R2 := fun x y H Q => ∃ (c : Nat) (z : Str), x = .str ⟨#[c]⟩ ∧ y = .str z ∧ Q (.bl (f (decide (c ∈ z.cps.toList)))) H
def rInU (K : PySem.W.Frag) : R2 := fun x y H Q => rInSign (fun b => b) x y H Q ∨ rIn K false x y H Q
def rNotInU (K : PySem.W.Frag) : R2 := fun x y H Q => rInSign (fun b => !b) x y H Q ∨ rIn K true x y H Q

/-! ### the same rules with the written part named (within a comprehension it must not lean on the block) -/
def rListOf (K : PySem.W.Frag) : List V → Hp → VK → Prop := fun xs H Q => ∃ p ys, xs = [.ref p] ∧ (SqL K H p ys ∨ SqT K H p ys) ∧ ∀ l, H l = none → Q (.ref l) (upd H l (.lst ys))
def rTupleOf (K : PySem.W.Frag) : List V → Hp → VK → Prop := fun xs H Q => ∃ p ys, xs = [.ref p] ∧ ((SqL K H p ys ∧ ∀ l, H l = none → Q (.ref l) (upd H l (.tup ys))) ∨ (SqT K H p ys ∧ Q (.ref p) H))
section
variable {X : Cx} {K : PySem.W.Frag} {k : Nat} (e : X.K = K)
include e
theorem ix_K : IxR X (rIx K) := e ▸ ix_seq
theorem eq_K (hr : Room k X.A) : OpR X (compareOp .Eq) (rEqU K) := e ▸ op_eqU hr
theorem ne_K (hr : Room k X.A) : OpR X (compareOp .NotEq) (rNeU K) := e ▸ op_neU hr
theorem lt_K (hr : Room k X.A) : OpR X (compareOp .Lt) (rLtU K) := e ▸ op_ltU hr
theorem in_K : OpR X (compareOp .In) (rInU K) := e ▸ op_in_sign.or op_in_seq
theorem notIn_K : OpR X (compareOp .NotIn) (rNotInU K) := e ▸ op_notIn_sign.or op_notIn_seq
theorem len_K : CallR X (.builtin "len") (rLenU K) := e ▸ call_lenU
theorem all_K (hc : X.calm = true) : CallR X (.builtin "all") (rAll K) := e ▸ cr_all hc
theorem any_K (hc : X.calm = true) : CallR X (.builtin "any") (rAny K) := e ▸ cr_any hc
theorem sl_K : SlR X (rSlU K) := e ▸ sl_U
theorem listOf_K : CallR X (.type "list") (rListOf K) := e ▸ call_list_of
theorem tupleOf_K : CallR X (.type "tuple") (rTupleOf K) := e ▸ call_tuple_of
theorem tup_K {es : List Expr} {kk n : Nat} {t : TGs} {pos : Pos} (hc : X.calm = true) (h : PGs X es t)
    (hn : (assignEach es X.env).length = n := by rfl) (hst : (assignEach es X.env).findIdx? (·.1) = none := by rfl) :
    PG X (.Tuple es kk pos) (gTup K n t) := e ▸ pg_tup hc h hn hst
theorem pi_K {tg l : Expr} {tl : TE} (hl : PE X l tl) : PI X tg l (iAny K tl) := e ▸ pi_any hl
theorem zip_K {e1 e2 : Expr} {ta : TA} {p pos tpos : Pos} {elts : List Expr} {kk : Nat} (hg : Gl X "zip") (hm : X.mg "zip" = none) (ha : PA X [e1, e2] ta)
    (hs : starEach [e1, e2] X.env = (false, eval e1 X.env) :: starEach [e2] X.env := by rfl) (hpl : (backTo pos (starEach [e2] X.env)).any (·.1) = false := by rfl) :
    PI X (.Tuple elts kk tpos) (.Call (.Name "zip" p) [e1, e2] [] pos) (RZ.iZipA K ta) := e ▸ RZ.pi_zipA hg hm ha hs hpl
end

/-! ### a value of any kind: what is known of it -/
def AnyV (K : PySem.W.Frag) (H : Hp) (v : V) : Prop :=
  v = .non ∨ (∃ b, v = .bl b) ∨ (∃ i, v = .int i) ∨ (∃ z : Str, v = .str z ∧ z.length ≤ 100000) ∨ (∃ a xs, v = .ref a ∧ H a = some (.lst xs)) ∨ (∃ a xs, v = .ref a ∧ H a = some (.tup xs)) ∨ ∃ a kvs, v = .ref a ∧ H a = some (.dK kvs)
theorem AnyV.mono {K : PySem.W.Frag} {H H' : Hp} {v : V} (h : AnyV K H v) (e : Same H H') : AnyV K H' v := by
  rcases h with h | h | h | h | ⟨a, xs, h, g⟩ | ⟨a, xs, h, g⟩ | ⟨a, xs, h, g⟩
  · exact .inl h
  · exact .inr (.inl h)
  · exact .inr (.inr (.inl h))
  · exact .inr (.inr (.inr (.inl h)))
  · exact .inr (.inr (.inr (.inr (.inl ⟨a, xs, h, e _ _ g⟩))))
  · exact .inr (.inr (.inr (.inr (.inr (.inl ⟨a, xs, h, e _ _ g⟩)))))
  · exact .inr (.inr (.inr (.inr (.inr (.inr ⟨a, xs, h, e _ _ g⟩)))))
theorem any_non {K : PySem.W.Frag} {H : Hp} : AnyV K H .non := .inl rfl
theorem any_bl {K : PySem.W.Frag} {H : Hp} (b : Bool) : AnyV K H (.bl b) := .inr (.inl ⟨b, rfl⟩)
theorem any_int {K : PySem.W.Frag} {H : Hp} (i : Int) : AnyV K H (.int i) := .inr (.inr (.inl ⟨i, rfl⟩))
theorem any_str {K : PySem.W.Frag} {H : Hp} {z : Str} (h : z.length ≤ 100000) : AnyV K H (.str z) := .inr (.inr (.inr (.inl ⟨z, rfl, h⟩)))
theorem any_lst {K : PySem.W.Frag} {H : Hp} {a : Addr} {xs : List V} (h : H a = some (.lst xs)) : AnyV K H (.ref a) := .inr (.inr (.inr (.inr (.inl ⟨a, xs, rfl, h⟩))))
theorem any_tup {K : PySem.W.Frag} {H : Hp} {a : Addr} {xs : List V} (h : H a = some (.tup xs)) : AnyV K H (.ref a) := .inr (.inr (.inr (.inr (.inr (.inl ⟨a, xs, rfl, h⟩)))))
theorem any_dic {K : PySem.W.Frag} {H : Hp} {a : Addr} {xs : List (Key × V)} (h : H a = some (.dK xs)) : AnyV K H (.ref a) := .inr (.inr (.inr (.inr (.inr (.inr ⟨a, xs, rfl, h⟩)))))
/-- its type's name -/
def tyName (H : Hp) : V → String
  | .non => "NoneType"
  | .bl _ => "bool"
  | .int _ => "int"
  | .str _ => "str"
  | .ref a => match H a with
    | some (.lst _) => "list"
    | some (.tup _) => "tuple"
    | _ => "dict"
  | _ => "dict"
theorem AnyV.ty {K : PySem.W.Frag} {H : Hp} {v : V} (h : AnyV K H v) : TyX K H v (.type (tyName H v)) := by
  rcases h with h | ⟨b, h⟩ | ⟨i, h⟩ | ⟨z, h, _⟩ | ⟨a, xs, h, g⟩ | ⟨a, xs, h, g⟩ | ⟨a, xs, h, g⟩
  all_goals subst h
  · exact .base .non
  · exact .base (.bl b)
  · exact .base (.int i)
  · exact .base (.str z)
  · simp only [tyName, g]; exact .base (.lst g)
  · simp only [tyName, g]; exact .base (.tup g)
  · simp only [tyName, g]; exact .base (.dK g)

theorem isi_K {X : Cx} {K : PySem.W.Frag} (e : X.K = K) : CallR X (.builtin "isinstance") (rIsiU K) := e ▸ call_isiU

/-! ### calls with keywords, of defs with defaults -/
section
variable {X : Cx} {CX : CXT} {k n : Nat} {f : Addr} {fd : FuncData} {ps ks : List Str} {sp : Sp} {E : XK} {x : Str} {p pos : Pos} {kws : List Keyword} {tk : TA} {g : List Value → List Value → List Value} {gV : List V → List V → List V}
theorem pe_callN0 (F : FnOk X.prog X.w X.K X.mg X.base CX k f fd ps sp) (hr : Room k X.A) (hg : Gl X x) (hm : X.mg x = some (.ref f)) (hk : PySem.W.keepIn X.K (.ref f) = true) (hb : KBn X.K fd ps 0 ks g gV) (hx : Passes CX X E)
    (hkw : PK X kws tk) (hall : (backToKw pos (keywordEach kws X.env)).all (·.1.isSome) = true := by rfl) (hks : (backToKw pos (keywordEach kws X.env)).filterMap (·.1) = ks := by rfl)
    (hdb : (x == ("__debug__" : Str)) = false := by decide)
    (hpl : ((backTo pos (starEach [] X.env)).any (·.1) || (backToKw pos (keywordEach kws X.env)).any (·.1.isNone)) = false := by rfl) :
    PE X (.Call (.Name x p) [] kws pos) (tCallN 0 ks.length sp gV E tNil tk) := by
  constructor
  intro pins s σ H Q I h
  refine wpAny_Call_Name_kw (ld_glob I hg hm ?_ hdb)
  refine PySem.W.callWith_KW0 (h₀ := X.base) I.ok.mod.kin hk hall (thn (hkw.run pos pins s σ H _ I h) ?_) hpl
  rintro ws s2 ⟨zs, H2, I2, rz, l1, l2, q2⟩
  refine ⟨I2.kIn, ?_⟩
  rw [hks]
  exact run_fnN F hr hb hx I2 .nil rz rfl l2 q2
end
/-- a def that may be called with these keywords -/
structure CalK (P : Program) (w : World) (K : PySem.W.Frag) (mg : Str → Option Value) (base : Heap) (k : Nat) (x : Str) (sp : Sp) (n : Nat) (ks : List Str) (gV : List V → List V → List V) : Prop where
  ex : ∃ (f : Addr) (fd : FuncData) (ps : List Str) (g : List Value → List Value → List Value), FnOk P w K mg base C8.CX0 k f fd ps sp ∧
    mg x = some (.ref f) ∧ PySem.W.keepIn K (.ref f) = true ∧ KBn K fd ps n ks g gV
section
variable {X : Cx} {k j n : Nat} {x : Str} {sp : Sp} {ks : List Str} {gV : List V → List V → List V} {p pos : Pos} {e : Expr} {es : List Expr} {kws : List Keyword} {t tk : TA}
theorem pe_kw (c : CalK X.prog X.w X.K X.mg X.base k x sp n ks gV) (hr : Room j X.A) (hk : k ≤ j) (hg : Gl X x) (ha : PA X (e :: es) t) (hkw : PK X kws tk)
    (hall : (backToKw pos (keywordEach kws X.env)).all (·.1.isSome) = true := by rfl) (hks : (backToKw pos (keywordEach kws X.env)).filterMap (·.1) = ks := by rfl)
    (hdb : (x == ("__debug__" : Str)) = false := by decide) (he : starEach (e :: es) X.env = (false, eval e X.env) :: starEach es X.env := by rfl)
    (hpl : ((backTo pos (starEach (e :: es) X.env)).any (·.1) || (backToKw pos (keywordEach kws X.env)).any (·.1.isNone)) = false := by rfl) :
    PE X (.Call (.Name x p) (e :: es) kws pos) (tCallN n ks.length sp gV C8.E0 t tk) := by
  obtain ⟨f, fd, ps, g, F, hm, kp, b⟩ := c.ex
  exact pe_callN F (hr.mono hk) hg hm kp b C8.pass0 ha hkw hall hks hdb he hpl
theorem pe_kw0 (c : CalK X.prog X.w X.K X.mg X.base k x sp 0 ks gV) (hr : Room j X.A) (hk : k ≤ j) (hg : Gl X x) (hkw : PK X kws tk)
    (hall : (backToKw pos (keywordEach kws X.env)).all (·.1.isSome) = true := by rfl) (hks : (backToKw pos (keywordEach kws X.env)).filterMap (·.1) = ks := by rfl)
    (hdb : (x == ("__debug__" : Str)) = false := by decide)
    (hpl : ((backTo pos (starEach [] X.env)).any (·.1) || (backToKw pos (keywordEach kws X.env)).any (·.1.isNone)) = false := by rfl) :
    PE X (.Call (.Name x p) [] kws pos) (tCallN 0 ks.length sp gV C8.E0 tNil tk) := by
  obtain ⟨f, fd, ps, g, F, hm, kp, b⟩ := c.ex
  exact pe_callN0 F (hr.mono hk) hg hm kp b C8.pass0 hkw hall hks hdb hpl
end

/-! ### promises by the number of parameters -/
def sp1 (f : V → Hp → VK → Prop) : Sp := fun vs H Q _ => ∃ a, vs = [a] ∧ f a H Q
def sp2 (f : V → V → Hp → VK → Prop) : Sp := fun vs H Q _ => ∃ a b, vs = [a, b] ∧ f a b H Q
def sp3 (f : V → V → V → Hp → VK → Prop) : Sp := fun vs H Q _ => ∃ a b c, vs = [a, b, c] ∧ f a b c H Q
def sp4 (f : V → V → V → V → Hp → VK → Prop) : Sp := fun vs H Q _ => ∃ a b c d, vs = [a, b, c, d] ∧ f a b c d H Q
/-- whatever heap comes that keeps this one -/
def Then (H : Hp) (Q : VK) (v : V) : Prop := ∀ H', Same H H' → Q v H'
theorem Then.here {H : Hp} {Q : VK} {v : V} (h : Then H Q v) : Q v H := h H (Same.refl H)
theorem Then.mono {H H' : Hp} {Q : VK} {v : V} (h : Then H Q v) (e : Same H H') : Then H' Q v := fun H2 e2 => h H2 (e.trans e2)
section
variable {P : Program} {w : World} {K : PySem.W.Frag} {mg : Str → Option Value} {base : Heap} {x : Str} {st : Stmt} {f : Addr} {fd : FuncData} {N : List Str} {k : Nat} {p1 p2 p3 p4 : Str}
theorem fn1 {g : V → Hp → VK → Prop} (F : Def K mg x st f fd) (S : FnScope N [p1] (fnScope st))
    (body : ∀ (cdv : Value) (A : Around) (outer : List Env) (s : Shared) (H : Hp) (a : V) (Q : VK) (E : XK), Room k (A.deeper (envOfC x (fnScope st) s.heap.objs.size f cdv)) → g a H Q →
      ∃ t, PSs (cxOf C8.CX0 P w K mg base N x (fnScope st) f cdv A outer s H E).nox (fnBody st) t ∧ t { nx := fun _ H' => Q .non H', rt := Q } (start N [a]) H) : FnOk P w K mg base C8.CX0 (k + 1) f fd [p1] (sp1 g) := by
  refine C8.fn0 F.fn S ?_ ?_
  · rintro vs H Q E ⟨a, rfl, _⟩
    rfl
  · rintro cdv A outer s H vs Q E hr ⟨a, rfl, h⟩
    exact body cdv A outer s H a Q E hr h
theorem fn2 {g : V → V → Hp → VK → Prop} (F : Def K mg x st f fd) (S : FnScope N [p1, p2] (fnScope st))
    (body : ∀ (cdv : Value) (A : Around) (outer : List Env) (s : Shared) (H : Hp) (a b : V) (Q : VK) (E : XK), Room k (A.deeper (envOfC x (fnScope st) s.heap.objs.size f cdv)) → g a b H Q →
      ∃ t, PSs (cxOf C8.CX0 P w K mg base N x (fnScope st) f cdv A outer s H E).nox (fnBody st) t ∧ t { nx := fun _ H' => Q .non H', rt := Q } (start N [a, b]) H) : FnOk P w K mg base C8.CX0 (k + 1) f fd [p1, p2] (sp2 g) := by
  refine C8.fn0 F.fn S ?_ ?_
  · rintro vs H Q E ⟨a, b, rfl, _⟩
    rfl
  · rintro cdv A outer s H vs Q E hr ⟨a, b, rfl, h⟩
    exact body cdv A outer s H a b Q E hr h
theorem fn3 {g : V → V → V → Hp → VK → Prop} (F : Def K mg x st f fd) (S : FnScope N [p1, p2, p3] (fnScope st))
    (body : ∀ (cdv : Value) (A : Around) (outer : List Env) (s : Shared) (H : Hp) (a b c : V) (Q : VK) (E : XK), Room k (A.deeper (envOfC x (fnScope st) s.heap.objs.size f cdv)) → g a b c H Q →
      ∃ t, PSs (cxOf C8.CX0 P w K mg base N x (fnScope st) f cdv A outer s H E).nox (fnBody st) t ∧ t { nx := fun _ H' => Q .non H', rt := Q } (start N [a, b, c]) H) : FnOk P w K mg base C8.CX0 (k + 1) f fd [p1, p2, p3] (sp3 g) := by
  refine C8.fn0 F.fn S ?_ ?_
  · rintro vs H Q E ⟨a, b, c, rfl, _⟩
    rfl
  · rintro cdv A outer s H vs Q E hr ⟨a, b, c, rfl, h⟩
    exact body cdv A outer s H a b c Q E hr h
theorem cal_of {ps : List Str} {sp : Sp} (F : Def K mg x st f fd) (df : fd.defaults = .none) (ok : FnOk P w K mg base C8.CX0 k f fd ps sp)
    (h : ∀ (kV doc pm : Value) (an : Option Addr) (cdv ct : Value) (us : List Value), us.length = ps.length → bindArgs (PySem.W.fnOf x x (fnArgs st) (fnBody st) (fnScope st) .none kV doc pm an cdv ct) ⟨us, []⟩ = pure (ps.zip us)) : Cal P w K mg base k x sp [] :=
  ⟨f, fd, ps, [], ok, F.mgf, F.kp, F.fn.binds df h, .nil⟩
end

/-! ### defaults and keywords: which value goes where -/
def pick {α : Type} (us its ws : List α) : List (Nat × Nat) → List α
  | [] => []
  | (0, i) :: r => (us[i]?).toList ++ pick us its ws r
  | (1, i) :: r => (its[i]?).toList ++ pick us its ws r
  | (_, i) :: r => (ws[i]?).toList ++ pick us its ws r
theorem vals_at {vs : List V} {us : List Value} (r : Vals vs us) (i : Nat) : Vals (vs[i]?).toList (us[i]?).toList := by
  cases e : vs[i]? with
  | none =>
    rw [r.none_of e]
    exact .nil
  | some v =>
    obtain ⟨u, h, rv⟩ := r.get e
    rw [h]
    exact .cons rv .nil
theorem pick_rel {vs ds zs : List V} {us its ws : List Value} (r1 : Vals vs us) (r2 : Vals ds its) (r3 : Vals zs ws) : ∀ l : List (Nat × Nat), Vals (pick vs ds zs l) (pick us its ws l)
  | [] => .nil
  | (0, i) :: r => (vals_at r1 i).append (pick_rel r1 r2 r3 r)
  | (1, i) :: r => (vals_at r2 i).append (pick_rel r1 r2 r3 r)
  | (_ + 2, i) :: r => (vals_at r3 i).append (pick_rel r1 r2 r3 r)
section
variable {K : PySem.W.Frag} {mg : Str → Option Value} {x : Str} {st : Stmt} {f : Addr} {fd : FuncData} {ps ks : List Str} {dvs : List V}
theorem dfl_binds (F : Def K mg x st f fd) (D : DflV K fd.defaults dvs) (hd : dvs ≠ []) (n j : Nat) (hn : n + (dvs.length - j) = ps.length)
    (h : ∀ (T : Addr) (kV doc pm : Value) (an : Option Addr) (cdv ct : Value) (us its : List Value), us.length = n → its.length = dvs.length →
      ∃ k, bindArgs (PySem.W.fnOf x x (fnArgs st) (fnBody st) (fnScope st) (.ref T) kV doc pm an cdv ct) ⟨us, []⟩ = seqItems? (.ref T) >>= k ∧ k (some its.toArray) = pure (ps.zip (us ++ its.drop j))) :
    ∃ ds, Vals (dvs.drop j) ds ∧ Binds K fd ps ds := by
  obtain ⟨oc, od, dV, kV, doc, pm, an, cdv, ct, osl, rfl, lk, hcd⟩ := F.fn.ex
  rcases D with ⟨e, _⟩ | ⟨_, T, o, its, m, e, lT, oT, rT⟩
  · exact absurd e hd
  · have e : dV = .ref T := e
    subst e
    refine ⟨its.drop j, rT.drop j, ?_⟩
    intro s us X hlen
    have l1 : its.length = dvs.length := rT.length.symm
    have l2 : us.length = n := by
      rw [List.length_append, List.length_drop, l1] at hlen
      omega
    obtain ⟨k, e1, e2⟩ := h T kV doc pm an cdv ct us its l2 l1
    refine BindsTo.of_looks fun M => ?_
    rw [e1]
    exact looks_items X lT oT (.of_pure e2)
theorem dfl_kbn (F : Def K mg x st f fd) (D : DflV K fd.defaults dvs) (hd : dvs ≠ []) (n : Nat) (sel : List (Nat × Nat))
    (h : ∀ (T : Addr) (kV doc pm : Value) (an : Option Addr) (cdv ct : Value) (us its ws : List Value), us.length = n → its.length = dvs.length → ws.length = ks.length →
      ∃ k, bindArgs (PySem.W.fnOf x x (fnArgs st) (fnBody st) (fnScope st) (.ref T) kV doc pm an cdv ct) ⟨us, ks.zip ws⟩ = seqItems? (.ref T) >>= k ∧ k (some its.toArray) = pure (ps.zip (pick us its ws sel))) :
    ∃ its, KBn K fd ps n ks (fun us ws => pick us its ws sel) (fun vs zs => pick vs dvs zs sel) := by
  obtain ⟨oc, od, dV, kV, doc, pm, an, cdv, ct, osl, rfl, lk, hcd⟩ := F.fn.ex
  rcases D with ⟨e, _⟩ | ⟨_, T, o, its, m, e, lT, oT, rT⟩
  · exact absurd e hd
  · have e : dV = .ref T := e
    subst e
    refine ⟨its, ?_, fun r1 r2 => pick_rel r1 rT r2 sel⟩
    intro s us ws X l1 l2
    obtain ⟨k, e1, e2⟩ := h T kV doc pm an cdv ct us its ws l1 rT.length.symm l2
    refine BindsTo.of_looks fun M => ?_
    rw [e1]
    exact looks_items X lT oT (.of_pure e2)
theorem nod_kbn (F : Def K mg x st f fd) (df : fd.defaults = .none) (n : Nat) (sel : List (Nat × Nat))
    (h : ∀ (kV doc pm : Value) (an : Option Addr) (cdv ct : Value) (us ws : List Value), us.length = n → ws.length = ks.length →
      bindArgs (PySem.W.fnOf x x (fnArgs st) (fnBody st) (fnScope st) .none kV doc pm an cdv ct) ⟨us, ks.zip ws⟩ = pure (ps.zip (pick us [] ws sel))) :
    KBn K fd ps n ks (fun us ws => pick us [] ws sel) (fun vs zs => pick vs [] zs sel) := by
  obtain ⟨oc, od, dV, kV, doc, pm, an, cdv, ct, osl, rfl, lk, hcd⟩ := F.fn.ex
  have e : dV = .none := df
  subst e
  exact ⟨fun s us ws _ l1 l2 => .of_eq (h kV doc pm an cdv ct us ws l1 l2), fun r1 r2 => pick_rel r1 .nil r2 sel⟩
end

/-! ### the bag, from a caller's side -/
def BagAt (H : Hp) (p : Addr) : Prop := ∃ (q : Addr) (ns : List Int), H p = some (bagO q p) ∧ H q = some (.lst (ns.map V.int))
theorem BagAt.mono {H H' : Hp} {p : Addr} (h : BagAt H p) (e : Same H H') : BagAt H' p := by
  obtain ⟨q, ns, a, b⟩ := h
  exact ⟨q, ns, e _ _ a, e _ _ b⟩
theorem rd_bag {K : PySem.W.Frag} {H : Hp} {p : Addr} {xs : List V} {j : Int} {v : V} {Q : VK} (e : atI xs j = some v) (k : Q v (upd H p (.lst xs))) : rIx K (.ref p) (.int j) (upd H p (.lst xs)) Q :=
  .inl ⟨p, xs, j, v, rfl, rfl, SqL.of upd_same, e, k⟩
theorem set_bag {H : Hp} {p : Addr} {xs : List V} {k : Int} {j : Nat} {v : V} {Q : Hp → Prop} (e : ixN xs.length k = some j) (q : Q (upd H p (.lst (xs.set j v)))) : rSetL (.ref p) (.int k) v (upd H p (.lst xs)) Q :=
  ⟨p, xs, k, j, rfl, rfl, upd_same, e, by rw [upd_upd]; exact q⟩
theorem shut_bag {H : Hp} {p q : Addr} {F : Hp → Prop} {i c st t : Int} (hp : H p = some (bagO q p)) (b : BagOk i st) (f : F H) : shutAt q p F (upd H p (.lst (bagL q i c st t))) :=
  ⟨i, c, st, t, b, upd_same, by rw [upd_upd, upd_self hp]; exact f⟩
end Fb

set_option Elab.async false
set_option linter.all false
set_option maxRecDepth 100000
set_option maxHeartbeats 4000000
namespace Fb
open PySem PySem.Spec L2
open PyProof.Rows hiding St
open C8 (Cal Met Mak Def cal0 met0 mak0 pe_c pe_mk pe_mt pe_mt0 fnScope fnBody fnArgs)

/-! ### comprehensions by what each element is -/
theorem same_mut {H H' : Hp} {p : Addr} {o : HO} (e : Same H H') (h : H p = none) : Same H (upd H' p o) := by
  intro a u ha
  rw [upd_ne (ne_of_none ha h)]
  exact e a u ha
theorem size5 {n : Nat} (h : n ≤ 100000) : n < sizeLine := Nat.lt_of_le_of_lt h (by decide)
theorem size5' {n : Nat} (h : n ≤ 100000) : n ≤ sizeLine := Nat.le_of_lt (size5 h)
section
variable {J : It} {n : Nat} {G : Hp → Prop} {Y : Nat → Hp → V → Hp → Prop} {g : TG} {tt : TT} {te : TE} {vs : List Nat} {σ : L2.St} {H1 : Hp} {D : Addr} {Qd : Hp → Prop}
/-- what a turn gives only makes the heap grow -/
def YGrow (Y : Nat → Hp → V → Hp → Prop) : Prop := ∀ i H x H', Y i H x H' → Same H H'
theorem grow_at {xs : List V} : YGrow (YAt xs) := by
  rintro i H x H' ⟨rfl, _⟩
  exact Same.refl _
theorem grow_fn {f : Nat → V} : YGrow (YFn f) := by
  rintro i H x H' ⟨rfl, _⟩
  exact Same.refl _
theorem grow_pair {xs ys : Nat → Option V} : YGrow (YPair xs ys) := by
  rintro i H x H' ⟨T, a, b, _, h, rfl, _⟩
  exact grow h

theorem upd_same_of {H H' : Hp} {p : Addr} {o : HO} (e : Same H H') : Same (upd H p o) (upd H' p o) := by
  intro b u h
  by_cases q : b = p
  · subst q
    rw [upd_same] at h
    rw [upd_same]
    exact h
  · rw [upd_ne q] at h
    rw [upd_ne q]
    exact e b u h
/-- each element of its kind, told by P, which does not lean on the new list -/
theorem lc_some (w : Walk J n G Y) (P : Nat → V → Hp → Prop) (hy : YGrow Y) (hn : n ≤ 100000) (hD : H1 D = none) (st : ∀ i v H H', Same H H' → P i v H → P i v H') (hG : ∀ H, Same H1 H → G H)
    (hs : ∀ i x H H', i < n → Same H1 H → (∃ xs, H D = some (.lst xs)) → Y i H x H' → ∀ R : V → Hp → Prop, (∀ v H2, Same H' H2 → (∀ o, P i v (upd H2 D o)) → R v H2) → g x (wipe σ vs) H' fun σ2 H2 => wipe σ2 vs = wipe σ vs ∧ te σ2 H2 R)
    (hd : ∀ xs H, Same H1 H → H D = some (.lst xs) → xs.length = n → (∀ i v, xs[i]? = some v → P i v H) → Qd H) :
    ∃ W : Nat → Nat → Hp → Prop, (∃ m, W 0 m (upd H1 D (.lst []))) ∧ ∀ i m H, W i m H →
      (J.stop i H ∧ Qd H) ∨ (J.go i H ∧ ∃ Nx : Hp → Prop, (∀ H', Nx H' → ∃ m', m' < m ∧ W (i + 1) m' H') ∧ ∀ x H', J.yld i H x H' → g x (wipe σ vs) H' fun σ2 H2 => wipe σ2 vs = wipe σ vs ∧ tYes σ2 H2 fun b H3 =>
        if b = true then te σ2 H3 fun y H4 => ∃ acc, H4 D = some (.lst acc) ∧ acc.length < sizeLine ∧ Nx (upd H4 D (.lst (acc ++ [y]))) else Nx H3) := by
  refine lc_it w (fun i H => Same H1 H ∧ ∃ xs : List V, H D = some (.lst xs) ∧ xs.length = i ∧ ∀ j v, xs[j]? = some v → ∀ o, P j v (upd H D o)) ?_ ?_ ?_ ?_
  · refine ⟨grow hD, [], upd_same, rfl, ?_⟩
    intro j v h
    cases h
  · rintro i H _ ⟨e, _⟩
    exact hG H e
  · rintro i x H H' hi ⟨e, xs, hx, hl, hp⟩ y
    have e2 := hy _ _ _ _ y
    refine hs i x H H' hi e ⟨xs, hx⟩ y _ ?_
    intro v H4 e4 p
    have e3 := e2.trans e4
    refine ⟨xs, e3 _ _ hx, size5 (by omega), same_mut (e.trans e3) hD, xs ++ [v], upd_same, by rw [List.length_append, hl]; rfl, ?_⟩
    intro j u hj o
    rw [upd_upd]
    by_cases q : j < xs.length
    · rw [List.getElem?_append_left q] at hj
      exact st _ _ _ _ (upd_same_of e3) (hp j u hj o)
    · rw [List.getElem?_append_right (by omega)] at hj
      have ej : j - xs.length = 0 := by
        cases h0 : j - xs.length with
        | zero => rfl
        | succ m =>
          rw [h0] at hj
          cases hj
      rw [ej] at hj
      cases hj
      rw [show j = i by omega]
      exact p o
  · rintro H ⟨e, xs, hx, hl, hp⟩
    refine hd xs H e hx hl ?_
    intro i v hv
    have := hp i v hv (.lst xs)
    rw [upd_self hx] at this
    exact this
/-- each element a value that is known -/
theorem lc_map (w : Walk J n G Y) (f : Nat → V) (hy : YGrow Y) (hn : n ≤ 100000) (hD : H1 D = none) (hG : ∀ H, Same H1 H → G H)
    (hs : ∀ i x H H', i < n → Same H1 H → Y i H x H' → ∀ R : V → Hp → Prop, (∀ H2, Same H' H2 → R (f i) H2) → g x (wipe σ vs) H' fun σ2 H2 => wipe σ2 vs = wipe σ vs ∧ te σ2 H2 R)
    (hd : ∀ H, Same H1 H → H D = some (.lst ((List.range n).map f)) → Qd H) :
    ∃ W : Nat → Nat → Hp → Prop, (∃ m, W 0 m (upd H1 D (.lst []))) ∧ ∀ i m H, W i m H →
      (J.stop i H ∧ Qd H) ∨ (J.go i H ∧ ∃ Nx : Hp → Prop, (∀ H', Nx H' → ∃ m', m' < m ∧ W (i + 1) m' H') ∧ ∀ x H', J.yld i H x H' → g x (wipe σ vs) H' fun σ2 H2 => wipe σ2 vs = wipe σ vs ∧ tYes σ2 H2 fun b H3 =>
        if b = true then te σ2 H3 fun y H4 => ∃ acc, H4 D = some (.lst acc) ∧ acc.length < sizeLine ∧ Nx (upd H4 D (.lst (acc ++ [y]))) else Nx H3) := by
  refine lc_some w (fun i v _ => v = f i) hy hn hD (fun _ _ _ _ _ h => h) hG ?_ ?_
  · intro i x H H' hi e _ y R h
    exact hs i x H H' hi e y R fun H2 e2 => h _ H2 e2 fun _ => rfl
  · intro xs H e hx hl hp
    have ex : xs = (List.range n).map f := by
      refine List.ext_getElem? fun i => ?_
      by_cases q : i < n
      · rw [List.getElem?_map, List.getElem?_range q, List.getElem?_eq_getElem (by omega)]
        exact congrArg some (hp i _ (List.getElem?_eq_getElem (by omega)))
      · rw [List.getElem?_eq_none (by omega), List.getElem?_eq_none (by simp; omega)]
    rw [ex] at hx
    exact hd H e hx
/-- the same with a test -/
theorem lc_filt (w : Walk J n G Y) (b : Nat → Bool) (f : Nat → V) (hy : YGrow Y) (hn : n ≤ 100000) (hD : H1 D = none) (hG : ∀ H, Same H1 H → G H)
    (hs : ∀ i x H H', i < n → Same H1 H → Y i H x H' → ∀ (F : Hp → Prop) (R : V → Hp → Prop), (∀ H2, Same H' H2 → b i = true → R (f i) H2) → (∀ H2, Same H' H2 → b i = false → F H2) →
      g x (wipe σ vs) H' fun σ2 H2 => wipe σ2 vs = wipe σ vs ∧ tt σ2 H2 fun c H3 => if c = true then te σ2 H3 R else F H3)
    (hd : ∀ H, Same H1 H → H D = some (.lst (((List.range n).filter b).map f)) → Qd H) :
    ∃ W : Nat → Nat → Hp → Prop, (∃ m, W 0 m (upd H1 D (.lst []))) ∧ ∀ i m H, W i m H →
      (J.stop i H ∧ Qd H) ∨ (J.go i H ∧ ∃ Nx : Hp → Prop, (∀ H', Nx H' → ∃ m', m' < m ∧ W (i + 1) m' H') ∧ ∀ x H', J.yld i H x H' → g x (wipe σ vs) H' fun σ2 H2 => wipe σ2 vs = wipe σ vs ∧ tt σ2 H2 fun b H3 =>
        if b = true then te σ2 H3 fun y H4 => ∃ acc, H4 D = some (.lst acc) ∧ acc.length < sizeLine ∧ Nx (upd H4 D (.lst (acc ++ [y]))) else Nx H3) := by
  refine lc_it w (fun i H => Same H1 H ∧ H D = some (.lst (((List.range i).filter b).map f))) ?_ ?_ ?_ ?_
  · exact ⟨grow hD, upd_same⟩
  · rintro i H _ ⟨e, _⟩
    exact hG H e
  · rintro i x H H' hi ⟨e, hx⟩ y
    have e2 := hy _ _ _ _ y
    have len : (((List.range i).filter b).map f).length ≤ 100000 := by
      rw [List.length_map]
      refine Nat.le_trans (List.length_filter_le _ _) ?_
      rw [List.length_range]
      omega
    refine hs i x H H' hi e y (fun H3 => Same H1 H3 ∧ H3 D = some (.lst (((List.range (i + 1)).filter b).map f))) _ ?_ ?_
    · intro H4 e4 hb
      refine ⟨_, (e2.trans e4) _ _ hx, size5 len, same_mut (e.trans (e2.trans e4)) hD, ?_⟩
      rw [upd_same, List.range_succ, List.filter_append, List.map_append, List.filter_cons_of_pos hb]
      rfl
    · intro H4 e4 hb
      refine ⟨e.trans (e2.trans e4), ?_⟩
      rw [(e2.trans e4) _ _ hx, List.range_succ, List.filter_append, List.map_append, List.filter_cons_of_neg (by rw [hb]; exact Bool.false_ne_true)]
      rw [List.filter_nil, List.map_nil, List.append_nil]
  · rintro H ⟨e, hx⟩
    exact hd H e hx
end

theorem small_log {n : Int} (h0 : 0 ≤ n) (h : n ≤ 1000000000000) : n.natAbs.log2 < 9000 :=
  Nat.lt_of_lt_of_le (PySem.Flt.log2_lt_of (show 0 < 50 by decide) (by omega)) (by decide)

/-- a value of any kind: a text, or none -/
theorem AnyV.strOr {K : PySem.W.Frag} {H : Hp} {v : V} (h : AnyV K H v) : (∃ z : Str, v = .str z ∧ z.length ≤ 100000) ∨ ((∀ z, v ≠ .str z) ∧ ∃ t, TyX K H v (.type t) ∧ kitB t "str" = some false) := by
  rcases h with h | ⟨b, h⟩ | ⟨i, h⟩ | ⟨z, h, l⟩ | ⟨a, xs, h, g⟩ | ⟨a, xs, h, g⟩ | ⟨a, xs, h, g⟩
  all_goals subst h
  · exact .inr ⟨(fun _ e => nomatch e), _, .base .non, by decide +kernel⟩
  · exact .inr ⟨(fun _ e => nomatch e), _, .base (.bl b), by decide +kernel⟩
  · exact .inr ⟨(fun _ e => nomatch e), _, .base (.int i), by decide +kernel⟩
  · exact .inl ⟨z, rfl, l⟩
  · exact .inr ⟨(fun _ e => nomatch e), _, .base (.lst g), by decide +kernel⟩
  · exact .inr ⟨(fun _ e => nomatch e), _, .base (.tup g), by decide +kernel⟩
  · exact .inr ⟨(fun _ e => nomatch e), _, .base (.dK g), by decide +kernel⟩
theorem AnyV.intOr {K : PySem.W.Frag} {H : Hp} {v : V} (h : AnyV K H v) : (∃ i, v = .int i) ∨ (∃ b, v = .bl b) ∨ ((∀ z, v ≠ .int z) ∧ ∃ t, TyX K H v (.type t) ∧ kitB t "int" = some false) := by
  rcases h with h | ⟨b, h⟩ | ⟨i, h⟩ | ⟨z, h, l⟩ | ⟨a, xs, h, g⟩ | ⟨a, xs, h, g⟩ | ⟨a, xs, h, g⟩
  all_goals subst h
  · exact .inr (.inr ⟨(fun _ e => nomatch e), _, .base .non, by decide +kernel⟩)
  · exact .inr (.inl ⟨b, rfl⟩)
  · exact .inl ⟨i, rfl⟩
  · exact .inr (.inr ⟨(fun _ e => nomatch e), _, .base (.str z), by decide +kernel⟩)
  · exact .inr (.inr ⟨(fun _ e => nomatch e), _, .base (.lst g), by decide +kernel⟩)
  · exact .inr (.inr ⟨(fun _ e => nomatch e), _, .base (.tup g), by decide +kernel⟩)
  · exact .inr (.inr ⟨(fun _ e => nomatch e), _, .base (.dK g), by decide +kernel⟩)

theorem map_range_get {α β : Type} (d : α) (f : α → β) : ∀ l : List α, (List.range l.length).map (fun i => f (l.getD i d)) = l.map f
  | [] => rfl
  | a :: r => by
    rw [List.length_cons, List.range_succ_eq_map, List.map_cons, List.map_map, List.map_cons]
    exact congrArg (f a :: ·) (map_range_get d f r)
theorem str_len (z : Str) : z.cps.size = z.cps.toList.length := (Array.length_toList).symm

/-! ### data on the heap -/
mutual
theorem dp_mono {K : PySem.W.Frag} {H H' : Hp} (e : Same H H') : ∀ (d : PyData) {v : V}, Dp K H v d → Dp K H' v d
  | .none, _, h => by cases h; exact .non
  | .bool _, _, h => by cases h; exact .bl _
  | .int _, _, h => by cases h; exact .int _
  | .str _, _, h => by cases h; exact .str _
  | .list ds, _, h => by
    cases h with
    | lst s a => exact .lst (e.seq s) (dpAll_mono e ds a)
  | .tuple ds, _, h => by
    cases h with
    | tup s a => exact .tup (same_tup e s) (dpAll_mono e ds a)
  | .dict _, _, h => by cases h
theorem dpAll_mono {K : PySem.W.Frag} {H H' : Hp} (e : Same H H') : ∀ (ds : List PyData) {vs : List V}, DpAll K H vs ds → DpAll K H' vs ds
  | [], _, h => by cases h; exact .nil
  | d :: ds, _, h => by
    cases h with
    | cons a b => exact .cons (dp_mono e d a) (dpAll_mono e ds b)
end
theorem dpAll_map {K : PySem.W.Frag} {H : Hp} {α : Type} {f : α → V} {g : α → PyData} : ∀ {l : List α}, (∀ x ∈ l, Dp K H (f x) (g x)) → DpAll K H (l.map f) (l.map g)
  | [], _ => .nil
  | x :: r, h => .cons (h x (List.mem_cons_self ..)) (dpAll_map fun y hy => h y (List.mem_cons_of_mem _ hy))
theorem dpAll_len {K : PySem.W.Frag} {H : Hp} : ∀ {vs : List V} {ds : List PyData}, DpAll K H vs ds → vs.length = ds.length
  | _, _, .nil => rfl
  | _, _, .cons _ b => congrArg Nat.succ (dpAll_len b)
theorem dpAll_get {K : PySem.W.Frag} {H : Hp} : ∀ {vs : List V} {ds : List PyData} {i : Nat} {v : V}, DpAll K H vs ds → vs[i]? = some v → ∃ d, ds[i]? = some d ∧ Dp K H v d
  | _, _, _, _, .nil, h => by cases h
  | _, _, 0, _, .cons (d := d) a _, h => by
    cases h
    exact ⟨d, rfl, a⟩
  | _, _, i + 1, v, .cons _ b, h => dpAll_get (i := i) b h
/-- the type's name -/
def dName : PyData → String
  | .none => "NoneType"
  | .bool _ => "bool"
  | .int _ => "int"
  | .str _ => "str"
  | .list _ => "list"
  | .tuple _ => "tuple"
  | .dict _ => "dict"
theorem sql_ty {K : PySem.W.Frag} {H : Hp} {a : Addr} {xs : List V} (h : SqL K H a xs) : TyX K H (.ref a) (.type "list") := by
  rcases h with (h | ⟨o, h⟩) | ⟨o, its, n, h, c, _⟩
  · exact .base (.lst h)
  · exact .base (.frz h)
  · exact .kList h c
theorem sqt_ty {K : PySem.W.Frag} {H : Hp} {a : Addr} {xs : List V} (h : SqT K H a xs) : TyX K H (.ref a) (.type "tuple") := by
  rcases h with (h | ⟨o, h⟩) | ⟨o, its, n, h, c, _⟩
  · exact .base (.tup h)
  · exact .fTuple h
  · exact .kTuple h c
theorem dp_ty {K : PySem.W.Frag} {H : Hp} {v : V} {d : PyData} (h : Dp K H v d) : TyX K H v (.type (dName d)) := by
  cases h with
  | non => exact .base .non
  | bl b => exact .base (.bl b)
  | int i => exact .base (.int i)
  | str x => exact .base (.str x)
  | lst s _ => exact sql_ty s
  | tup s _ => exact sqt_ty s
theorem ty_mono {K : PySem.W.Frag} {H H' : Hp} {v : V} {d : PyData} (h : Dp K H v d) (e : Same H H') : TyX K H' v (.type (dName d)) := dp_ty (dp_mono e d h)
/-- data of less than n levels, no list longer than 100000 -/
def Lk : Nat → PyData → Prop
  | 0, _ => False
  | n + 1, .list ds => ds.length ≤ 100000 ∧ ∀ d ∈ ds, Lk n d
  | n + 1, .tuple ds => ds.length ≤ 100000 ∧ ∀ d ∈ ds, Lk n d
  | _ + 1, .dict _ => False
  | _ + 1, _ => True

theorem walk_zipT {K : PySem.W.Frag} {a b : Addr} {xs ys : List V} {n : Nat} (hn : n = min xs.length ys.length) :
    Walk (RZ.ItzT K a b) n (fun H => SqT K H a xs ∧ SqT K H b ys) (YPair (fun i => xs[i]?) (fun i => ys[i]?)) := by
  subst hn
  constructor
  · rintro i H hi ⟨p, q⟩
    have h1 : i < xs.length := by omega
    have h2 : i < ys.length := by omega
    exact ⟨xs, ys, xs[i], ys[i], p, q, List.getElem?_eq_getElem h1, List.getElem?_eq_getElem h2⟩
  · rintro H ⟨p, q⟩
    exact ⟨xs, ys, p, q, by omega⟩
  · rintro i H v H' _ ⟨p, q⟩ ⟨T, x, z, h1, h2, h3, h4, h5⟩
    exact ⟨T, x, z, h1, h2, h3, h4 xs p, h5 ys q⟩
theorem lk_item {n : Nat} {ds : List PyData} {i : Nat} {d : PyData} (h : ∀ d ∈ ds, Lk n d) (e : ds[i]? = some d) : Lk n d := h d (List.mem_of_getElem? e)
theorem all_true (n : Nat) : ((List.range n).map fun _ => true).all id = true := by
  rw [List.all_eq_true]
  intro b h
  obtain ⟨_, _, rfl⟩ := List.mem_map.mp h
  rfl
end Fb

set_option Elab.async false
set_option linter.all false
set_option maxRecDepth 100000
set_option maxHeartbeats 4000000
namespace Fb
open PySem PySem.Spec L2
open PyProof.Rows hiding St
/-! ### names and numbers, without a heap -/
def letC (c : Nat) : Bool := decide (97 ≤ c) && decide (c ≤ 122)
def nameB : V → Bool
  | .str z => decide (1 ≤ z.length) && decide (z.length ≤ 8) && z.cps.toList.all letC
  | _ => false
theorem nameB_no {v : V} (h : ∀ z, v ≠ .str z) : nameB v = false := by
  cases v with
  | str z => exact absurd rfl (h z)
  | _ => rfl
theorem lt1 (a b : Nat) : decide ((#[a] : Array Nat).toList < (#[b] : Array Nat).toList) = decide (a < b) := by
  refine decide_eq_decide.mpr ?_
  show ([a] : List Nat) < [b] ↔ a < b
  rw [List.cons_lt_cons_iff]
  constructor
  · rintro (h | ⟨_, h⟩)
    · exact h
    · exact absurd h (List.not_lt_nil _)
  · exact fun h => .inl h
def numB (v : V) (l : Int) (h : Option Int) : Bool := match v with
  | .int i => decide (l ≤ i) && (match h with | none => true | some m => decide (i ≤ m))
  | _ => false
theorem numB_no {v : V} {l : Int} {h : Option Int} (no : ∀ z, v ≠ .int z) : numB v l h = false := by
  cases v with
  | int z => exact absurd rfl (no z)
  | _ => rfl
theorem numB_hi {a : V} {l : Int} {h : Option Int} (e : numB a l none = false) : numB a l h = false := by
  cases a with
  | int i =>
    have e : (decide (l ≤ i) && true) = false := e
    rw [Bool.and_true] at e
    show (decide (l ≤ i) && _) = false
    rw [e, Bool.false_and]
  | _ => rfl
theorem numB_int {a : V} {l : Int} (e : numB a l none = true) : ∃ i, a = .int i ∧ l ≤ i := by
  cases a with
  | int i =>
    have e : (decide (l ≤ i) && true) = true := e
    rw [Bool.and_true] at e
    exact ⟨i, rfl, of_decide_eq_true e⟩
  | _ => cases e
def az : Str := "abcdefghijklmnopqrstuvwxyz"
theorem az_in (c : Nat) : decide (c ∈ az.cps.toList) = letC c := by
  have e : az.cps.toList = (List.range 26).map (· + 97) := by decide +kernel
  rw [e]
  unfold letC
  rw [← Bool.decide_and]
  refine decide_eq_decide.mpr ?_
  rw [List.mem_map]
  constructor
  · rintro ⟨k, hk, rfl⟩
    have := List.mem_range.mp hk
    omega
  · intro h
    exact ⟨c - 97, List.mem_range.mpr (by omega), by omega⟩

theorem eqv_list_nil (ds : List PyData) : PyData.eqv (.list ds) (.list []) = ds.isEmpty := by
  cases ds <;> rfl

theorem filt_none (l : List Nat) : ((List.range l.length).filter fun i => !letC (l.getD i 0)).isEmpty = l.all letC := by
  induction l with
  | nil => rfl
  | cons a r ih =>
    rw [List.length_cons, List.range_succ_eq_map, List.filter_cons, List.all_cons, List.filter_map]
    show (if (!letC a) = true then _ else _ : List Nat).isEmpty = _
    cases h : letC a with
    | true =>
      rw [if_neg (by decide), List.isEmpty_map, Bool.true_and]
      exact ih
    | false =>
      rw [if_pos (by decide), Bool.false_and]
      rfl

/-- values that are all of one form are the images of what tells them -/
theorem all_of {α : Type} (f : α → V) : ∀ xs : List V, (∀ (i : Nat) v, xs[i]? = some v → ∃ c, v = f c) → ∃ cs : List α, xs = cs.map f
  | [], _ => ⟨[], rfl⟩
  | x :: r, h => by
    obtain ⟨c, hc⟩ := h 0 x rfl
    obtain ⟨cs, hcs⟩ := all_of f r fun i v e => h (i + 1) v e
    exact ⟨c :: cs, by rw [hc, hcs]; rfl⟩

theorem ones_sum : ∀ cs : List Nat, ((cs.map fun c => (⟨#[c]⟩ : Str)).map (·.length)).sum = cs.length
  | [] => rfl
  | c :: r => by
    rw [List.map_cons, List.map_cons, List.sum_cons, ones_sum r, List.length_cons]
    exact Nat.add_comm 1 _
theorem one_join (cs : List Nat) : (Txt.join "" (cs.map fun c => (⟨#[c]⟩ : Str))).length = cs.length := by
  have h := size_glued "" (cs.map fun c => (⟨#[c]⟩ : Str))
  rw [ones_sum] at h
  exact h

theorem num_text {i : Int} (h : i.natAbs < 10 ^ 20) : i.natAbs.log2 < 1920 ∧ (Str.ofString (toString i)).length ≤ 100000 := by
  have e := int_text_length_le10 (k := 20) (by decide) h
  refine ⟨Nat.lt_of_lt_of_le (PySem.Flt.log2_lt_of (k := 67) (by decide) (by omega)) (by decide), ?_⟩
  rw [PySem.ofString_length]
  omega

theorem str_cat (a b : Str) : (a ++ b).length = a.length + b.length := PySem.Str.length_append a b
end Fb

set_option Elab.async false
set_option linter.all false
set_option maxRecDepth 100000
set_option maxHeartbeats 4000000
/-! enumerate over a tuple -/
namespace PySem
open Sem (wp)
set_option maxHeartbeats 1000000 in
theorem fb_enum_new {v : Value} {o : Obj} {G : Heap → Prop} (B : Begins v o G) :
    Meets (Builtin.«enumerate.__new__» ⟨[.type "enumerate", v], []⟩) (fun _ R s => G s.heap ∧
      R (.ok (.ret (.ref (s.heap.push o).objs.size))) { s with heap := (s.heap.push o).push { cls := .type "enumerate", data := .fields #[.none, .bool false, .ref s.heap.objs.size, rawInt 0, .none, .none] } }) := by
  refine .of_wp fun prog w A R s h => ?_
  obtain ⟨h0, g, d, tk, os⟩ := s
  obtain ⟨h1, h⟩ := h
  have sb := sub_enumerate
  have go : ∀ {A' : Around} {E Q : Value → Shared → Prop}, Q (.ref h0.objs.size) ⟨h0.push o, g, d, tk, os⟩ → wpAny (model prog w) A' (pyIter v) Q E ⟨h0, g, d, tk, os⟩ := by
    intro A' E Q q
    exact B.iter prog w _ _ ⟨h0, g, d, tk, os⟩ _ h1 q
  wp_walk using go
  refine wpAny_stack_any fun stk => wpAny_pure ?_
  split
  · rename_i c _ _ _ _ _
    cases (c == Value.type "enumerate") <;> (wp_walk using go; exact ⟨_, rfl, h⟩)
  · wp_walk using go
    exact ⟨_, rfl, h⟩
theorem fb_enum {prog : Program} {w : World} {A : Around} {E Q : Value → Shared → Prop} {s : Shared} {v : Value} {o : Obj} {G : Heap → Prop} (B : Begins v o G) (h1 : G s.heap)
    (h : ∀ h', IsEnum h' (s.heap.objs.size + 1) s.heap.objs.size 0 .none → h'.get? s.heap.objs.size = some o → (∀ b u, s.heap.get? b = some u → h'.get? b = some u) → Q (.ref (s.heap.objs.size + 1)) { s with heap := h' }) :
    wpAny (model prog w) A (call (.type "enumerate") [v]) Q E s := by
  refine callType_new F.called_enumerate (by decide) (F.typeCall_enumerate_1 _) (F.newCall_enumerate_1 _) (fun _ => F.args_object_init_2 _ _) F.entry_enumerate_new (fb_enum_new B) ⟨h1, ?_⟩
  have z : (s.heap.push o).objs.size = s.heap.objs.size + 1 := Heap.size_push ..
  have he : IsEnum ((s.heap.push o).push { cls := .type "enumerate", data := .fields #[.none, .bool false, .ref s.heap.objs.size, rawInt 0, .none, .none] }) (s.heap.objs.size + 1) s.heap.objs.size 0 .none := by
    rw [← z]
    exact Heap.get?_push_size _ rfl
  show _ ∧ _
  rw [z]
  exact ⟨⟨_, he, rfl⟩, h _ he (Heap.get?_push_of_some _ (Heap.get?_push_size _ B.free)) fun b u e => Heap.get?_push_of_some _ (Heap.get?_push_of_some _ e)⟩
end PySem
namespace Fb
open PySem PySem.Spec L2
open PyProof.Rows hiding St
/-- the tuple at a, each item behind its place in a new pair -/
def IteT (K : PySem.W.Frag) (a : Addr) : It where
  go := fun i H => ∃ (xs : List V) (x : V), SqT K H a xs ∧ xs[i]? = some x
  yld := fun i H v H' => ∃ T x, v = .ref T ∧ H T = none ∧ H' = upd H T (.tup [.int (i : Nat), x]) ∧ ∀ xs, SqT K H a xs → xs[i]? = some x
  stop := fun i H => ∃ xs : List V, SqT K H a xs ∧ xs.length = i
theorem turn_enumT {P : Program} {w : World} {K : PySem.W.Frag} {elts : List Expr} {kk : Nat} {tpos : Pos} (a e it : Addr) :
    Turn P w K (.Tuple elts kk tpos) (IteT K a) [e, it] e (fun i h => (∃ old, IsEnum h e it ((i : Nat) : Int) old) ∧ h.IsTupleIter it a i ∧ e ≠ it) where
  mem := List.mem_cons_self ..
  obj := by
    rintro i h ⟨⟨old, h1⟩, ⟨o, h2, _, h3⟩, _⟩ b hb
    rcases List.mem_cons.mp hb with rfl | hb
    · exact ⟨_, h1, fun v q => nomatch q⟩
    · cases List.mem_singleton.mp hb
      exact ⟨o, h2, fun v q => by rw [h3] at q; cases q⟩
  keep := by
    rintro i h h' ⟨⟨old, h1⟩, h2, h3⟩ k
    exact ⟨⟨old, k e (List.mem_cons_self ..) _ h1⟩, h2.at fun o q => k it (List.mem_cons_of_mem _ (List.mem_singleton.mpr rfl)) o q, h3⟩
  item := by
    intro X hP hw hK hc i pins s σ H E I hf st hg
    subst hP hw hK
    obtain ⟨⟨old, h1⟩, h2, h3⟩ := st
    obtain ⟨xs, x, hq, hx⟩ := hg
    obtain ⟨its, rv, p, hz⟩ := I.tuple hq
    obtain ⟨u, hu, ru⟩ := rv.get hx
    have le : e < s.heap.objs.size := Heap.lt_size h1
    have li : it < s.heap.objs.size := by
      obtain ⟨_, q, _⟩ := h2
      exact Heap.lt_size q
    have ea : e ≠ a := by
      rintro rfl
      obtain ⟨o, q, c, _⟩ := p
      rw [h1] at q
      cases q
      exact absurd (Value.type.inj c) (by decide)
    have ia : a ≠ it := by
      rintro rfl
      obtain ⟨o, q, c, _⟩ := p
      obtain ⟨o2, q2, c2, _⟩ := h2
      rw [q] at q2
      cases q2
      rw [c] at c2
      exact absurd (Value.type.inj c2) (by decide)
    have lt : i < its.toArray.size := by
      rw [List.size_toArray]
      exact (List.getElem?_eq_some_iff.mp hu).1
    have nf : e ∉ ([it, a] : List Addr) := by
      intro q
      rcases List.mem_cons.mp q with q | q
      · exact h3 q
      · exact ea (List.mem_singleton.mp q)
    refine wpAny_pyNext_enum_itemD (Draws.tuple (prog := X.prog) (w := X.w) (A := X.A.in1) (I.ok.hd hc) it a ia its.toArray) h1 ⟨h2, p⟩ lt h3 nf fun y h' tk hy ho hs hT hsz hk => ?_
    have ey : y = u := by
      have hy : its.toArray[i]? = some y := hy
      rw [List.getElem?_toArray, hu] at hy
      exact (Option.some.inj hy).symm
    subst ey
    refine ⟨_, rfl, wpAny_letOwnedTupleGo_enum (s := { s with heap := h', toks := tk + 1 }) ho fun g he sb => ?_⟩
    have hT2 := (sb.2 _ (Nat.ne_of_gt le)).trans hT
    have hk2 : ∀ b ob, b ∉ [e, it] → s.heap.get? b = some ob → g.get? b = some ob := by
      intro b ob nb q
      have n1 : b ≠ e := fun z => nb (by rw [z]; exact List.mem_cons_self ..)
      have n2 : b ≠ it := fun z => nb (by rw [z]; exact List.mem_cons_of_mem _ (List.mem_singleton.mpr rfl))
      exact (sb.2 b n1).trans (hk b ob n1 n2 q)
    have new : ObjOk X.prog X.w (upd H s.heap.objs.size (.tup [.int (i : Nat), x])) g s.heap.objs.size (.tup [.int (i : Nat), x]) :=
      ⟨by show 2 ≤ sizeLine; decide, [.int i tk, y], .cons ⟨_, rfl⟩ (.cons ru .nil), ⟨_, hT2, rfl, _, rfl⟩⟩
    have I1 : Inv X pins σ (upd H s.heap.objs.size (.tup [.int (i : Nat), x])) { s with heap := g, toks := tk + 1 } := I.turnedNew (ch := [e, it]) hk2 hf (Nat.le_refl _) new
    refine ⟨.ref s.heap.objs.size, _, I1, rfl, ⟨_, x, rfl, I.hok.fresh (Nat.le_refl _), rfl, fun ys hys => by rw [I.tuple_inj hys hq]; exact hx⟩, ⟨⟨y, ?_⟩, hs.1.at fun o q => (sb.2 it (Ne.symm h3)).trans q, h3⟩, fun b hb => ?_⟩
    · rw [show ((i + 1 : Nat) : Int) = (i : Int) + 1 by omega]
      exact he
    · rw [upd_ne ?_]
      · exact (hf b hb).1
      · rcases List.mem_cons.mp hb with rfl | hb
        · exact Nat.ne_of_lt le
        · cases List.mem_singleton.mp hb
          exact Nat.ne_of_lt li
  done := by
    intro X hP hw hK hc i pins s σ H E I hf st hg
    subst hP hw hK
    obtain ⟨⟨old, h1⟩, h2, h3⟩ := st
    obtain ⟨xs, hq, hx⟩ := hg
    obtain ⟨its, rv, p, hz⟩ := I.tuple hq
    have ia : a ≠ it := by
      rintro rfl
      obtain ⟨o, q, c, _⟩ := p
      obtain ⟨o2, q2, c2, _⟩ := h2
      rw [q] at q2
      cases q2
      rw [c] at c2
      exact absurd (Value.type.inj c2) (by decide)
    have en : i = its.toArray.size := by
      rw [List.size_toArray, ← rv.length]
      exact hx.symm
    obtain ⟨f0, f1, f2, f3, f4, f5⟩ := hf it (List.mem_cons_of_mem _ (List.mem_singleton.mpr rfl))
    refine wpAny_pyNext_enum_endD (Draws.tuple (prog := X.prog) (w := X.w) (A := X.A.in1) (I.ok.hd hc) it a ia its.toArray) h1 ⟨en ▸ h2, p⟩ fun h' eb => ⟨rfl, ?_⟩
    exact I.turned (t' := s.toks) (fun b o hb q => eb b o hb q) f0 f1 f3 f4 f5
  self := by
    rintro A i s Q E ⟨⟨_, h1⟩, _⟩ h
    exact wpAny_pyIter_enum h1 h
def iEnumT (K : PySem.W.Frag) (ta : TA) : TI := fun σ H R => ta σ H fun vs H1 => ∃ a xs, vs = [.ref a] ∧ SqT K H1 a xs ∧ R (IteT K a) H1
theorem pi_enumT {X : Cx} {K : PySem.W.Frag} (eK : X.K = K) {e : Expr} {ta : TA} {p pos tpos : Pos} {elts : List Expr} {kk : Nat} (hg : Gl X "enumerate") (hm : X.mg "enumerate" = none) (ha : PA X [e] ta) (hs : starEach [e] X.env = [(false, eval e X.env)] := by rfl) :
    PI X (.Tuple elts kk tpos) (.Call (.Name "enumerate" p) [e] [] pos) (iEnumT K ta) := by
  subst eK
  constructor
  intro pins s σ H R I h
  refine Call_ (ld_blt I hg hm boot_enumerate (PyProof.Rows.callWith_type1 (thn (ha.run pos pins s σ H _ I h) ?_) hs rfl))
  rintro us s1 ⟨vs, H1, I1, r1, a, xs, rfl, hq, q⟩
  cases r1 with
  | cons r rr =>
    cases rr
    cases r
    obtain ⟨its, rv, p', hz⟩ := I1.tuple hq
    refine fb_enum (begins_tuple a its.toArray) p' fun h' he ho hk => wpAny_pyIter_enum he ?_
    have I2 : Inv X pins σ H1 { s1 with heap := h' } := I1.kept (t' := s1.toks) hk
    refine ⟨s1.heap.objs.size + 1, [s1.heap.objs.size + 1, s1.heap.objs.size], _, _, H1, rfl, I2, turn_enumT a _ _, ⟨⟨.none, he⟩, ⟨_, ho, rfl, rfl⟩, Nat.succ_ne_self _⟩, fun b hb => ?_, q⟩
    have le : s1.heap.objs.size ≤ b := by
      rcases List.mem_cons.mp hb with rfl | hb
      · exact Nat.le_succ _
      · cases List.mem_singleton.mp hb
        exact Nat.le_refl _
    exact I1.fpOk le (I1.hok.fresh le)
theorem walk_enumT {K : PySem.W.Frag} {a : Addr} {xs : List V} : Walk (IteT K a) xs.length (fun H => SqT K H a xs) (YPair (fun i => some (.int (i : Nat))) (fun i => xs[i]?)) := by
  constructor
  · intro i H hi q
    exact ⟨xs, xs[i], q, List.getElem?_eq_getElem hi⟩
  · intro H q
    exact ⟨xs, q, rfl⟩
  · rintro i H v H' _ q ⟨T, x, h1, h2, h3, h4⟩
    exact ⟨T, .int (i : Nat), x, h1, h2, h3, rfl, h4 xs q⟩
section
variable {X : Cx} {K : PySem.W.Frag} (e : X.K = K)
include e
theorem max_K (hc : X.calm = true) : CallR X (.builtin "max") (rMax K) := e ▸ cr_max hc
theorem slT_K : SlR X (rSlT K) := e ▸ sl_tup
end
theorem tup_inj {X : Cx} {pins : List (Addr × Obj)} {σ : L2.St} {H : Hp} {s : Shared} {a : Addr} {xs ys : List V} (I : Inv X pins σ H s) (h1 : SqT X.K H a xs) (h2 : SqT X.K H a ys) : xs = ys := I.tuple_inj h1 h2
end Fb

set_option Elab.async false
set_option linter.all false
set_option maxRecDepth 100000
set_option maxHeartbeats 4000000
namespace Fb
open PySem PySem.Spec L2
open PyProof.Rows hiding St
/-! ### methods by their body -/
section
variable {P : Program} {w : World} {K : PySem.W.Frag} {mg : Str → Option Value} {base : Heap} {m qual : Str} {st : Stmt} {f : Addr} {fd : FuncData} {N : List Str} {k : Nat} {p1 p2 p3 : Str}
theorem fm1 {g : V → Hp → VK → Prop} (F : C8.Fun K m qual st f fd) (S : FnScope N [p1] (C8.fnScope st))
    (body : ∀ (cdv : Value) (A : Around) (outer : List Env) (s : Shared) (H : Hp) (a : V) (Q : VK) (E : XK), Room k (A.deeper (envOfC qual (C8.fnScope st) s.heap.objs.size f cdv)) → g a H Q →
      ∃ t, PSs (cxOf C8.CX0 P w K mg base N qual (C8.fnScope st) f cdv A outer s H E).nox (C8.fnBody st) t ∧ t { nx := fun _ H' => Q .non H', rt := Q } (start N [a]) H) : FnOk P w K mg base C8.CX0 (k + 1) f fd [p1] (sp1 g) := by
  refine C8.fn0 F S ?_ ?_
  · rintro vs H Q E ⟨a, rfl, _⟩
    rfl
  · rintro cdv A outer s H vs Q E hr ⟨a, rfl, h⟩
    exact body cdv A outer s H a Q E hr h
theorem fm2 {g : V → V → Hp → VK → Prop} (F : C8.Fun K m qual st f fd) (S : FnScope N [p1, p2] (C8.fnScope st))
    (body : ∀ (cdv : Value) (A : Around) (outer : List Env) (s : Shared) (H : Hp) (a b : V) (Q : VK) (E : XK), Room k (A.deeper (envOfC qual (C8.fnScope st) s.heap.objs.size f cdv)) → g a b H Q →
      ∃ t, PSs (cxOf C8.CX0 P w K mg base N qual (C8.fnScope st) f cdv A outer s H E).nox (C8.fnBody st) t ∧ t { nx := fun _ H' => Q .non H', rt := Q } (start N [a, b]) H) : FnOk P w K mg base C8.CX0 (k + 1) f fd [p1, p2] (sp2 g) := by
  refine C8.fn0 F S ?_ ?_
  · rintro vs H Q E ⟨a, b, rfl, _⟩
    rfl
  · rintro cdv A outer s H vs Q E hr ⟨a, b, rfl, h⟩
    exact body cdv A outer s H a b Q E hr h
theorem fm3 {g : V → V → V → Hp → VK → Prop} (F : C8.Fun K m qual st f fd) (S : FnScope N [p1, p2, p3] (C8.fnScope st))
    (body : ∀ (cdv : Value) (A : Around) (outer : List Env) (s : Shared) (H : Hp) (a b c : V) (Q : VK) (E : XK), Room k (A.deeper (envOfC qual (C8.fnScope st) s.heap.objs.size f cdv)) → g a b c H Q →
      ∃ t, PSs (cxOf C8.CX0 P w K mg base N qual (C8.fnScope st) f cdv A outer s H E).nox (C8.fnBody st) t ∧ t { nx := fun _ H' => Q .non H', rt := Q } (start N [a, b, c]) H) : FnOk P w K mg base C8.CX0 (k + 1) f fd [p1, p2, p3] (sp3 g) := by
  refine C8.fn0 F S ?_ ?_
  · rintro vs H Q E ⟨a, b, c, rfl, _⟩
    rfl
  · rintro cdv A outer s H vs Q E hr ⟨a, b, c, rfl, h⟩
    exact body cdv A outer s H a b c Q E hr h
end
/-! ### hours of a day, without a heap -/
/-- can it be entered at t -/
def openM (ws : Option (List (Int × Int))) (t : Int) : Bool := match ws with
  | none => true
  | some l => l.any fun p => decide (p.1 ≤ t) && decide (t < p.2)
/-- what is read at any time -/
def readM (f : List Int) (t : Int) : Int := f.getD (t % (f.length : Int)).toNat 0 + t / (f.length : Int) * f.length
/-! ### windows on the heap -/
def dW (l : List (Int × Int)) : List PyData := l.map fun p => .tuple [.int p.1, .int p.2]
def WinV (K : PySem.W.Frag) (H : Hp) (v : V) (ws : Option (List (Int × Int))) : Prop :=
  (ws = none ∧ v = .non) ∨ ∃ l, ws = some l ∧ l.length ≤ 1000 ∧ (Dp K H v (.list (dW l)) ∨ Dp K H v (.tuple (dW l)))
theorem WinV.mono {K : PySem.W.Frag} {H H' : Hp} {v : V} {ws : Option (List (Int × Int))} (h : WinV K H v ws) (e : Same H H') : WinV K H' v ws := by
  rcases h with h | ⟨l, h1, h2, h | h⟩
  · exact .inl h
  · exact .inr ⟨l, h1, h2, .inl (dp_mono e _ h)⟩
  · exact .inr ⟨l, h1, h2, .inr (dp_mono e _ h)⟩
theorem dp_pair {K : PySem.W.Frag} {H : Hp} {v : V} {a b : Int} (h : Dp K H v (.tuple [.int a, .int b])) : ∃ T, v = .ref T ∧ SqT K H T [.int a, .int b] := by
  cases h with
  | tup s x =>
    cases x with
    | cons p q =>
      cases q with
      | cons r u =>
        cases u
        cases p
        cases r
        exact ⟨_, rfl, s⟩
theorem dW_get {K : PySem.W.Frag} {H : Hp} {xs : List V} {l : List (Int × Int)} {i : Nat} {x : V} (h : DpAll K H xs (dW l)) (e : xs[i]? = some x) : ∃ p T, l[i]? = some p ∧ x = .ref T ∧ SqT K H T [.int p.1, .int p.2] := by
  obtain ⟨d, hd, hx⟩ := dpAll_get h e
  unfold dW at hd
  rw [List.getElem?_map] at hd
  cases hl : l[i]? with
  | none =>
    rw [hl] at hd
    cases hd
  | some p =>
    rw [hl] at hd
    cases hd
    obtain ⟨T, e1, e2⟩ := dp_pair hx
    exact ⟨p, T, rfl, e1, e2⟩
/-- a tuple of ints -/
def TupI (K : PySem.W.Frag) (H : Hp) (v : V) (f : List Int) : Prop := ∃ a, v = .ref a ∧ SqT K H a (f.map V.int)
theorem TupI.mono {K : PySem.W.Frag} {H H' : Hp} {v : V} {f : List Int} (h : TupI K H v f) (e : Same H H') : TupI K H' v f := by
  obtain ⟨a, h1, h2⟩ := h
  exact ⟨a, h1, same_tup e h2⟩
/-- the i-th of what a comprehension over a list makes -/
theorem map_get {α β : Type} (d : α) (f : α → β) (l : List α) {n : Nat} (h : n = l.length) : (List.range n).map (fun i => f (l.getD i d)) = l.map f := by
  rw [h]
  exact map_range_get d f l
theorem getD_of {α : Type} {l : List α} {i : Nat} {x d : α} (h : l[i]? = some x) : l.getD i d = x := by
  rw [List.getD_eq_getElem?_getD, h]
  rfl
theorem int_get {f : List Int} {i : Nat} {x : V} (h : (f.map V.int)[i]? = some x) : ∃ z, f[i]? = some z ∧ x = .int z := by
  rw [List.getElem?_map] at h
  cases e : f[i]? with
  | none =>
    rw [e] at h
    cases h
  | some z =>
    rw [e] at h
    exact ⟨z, rfl, (Option.some.inj h).symm⟩
/-! ### the walk, time by time -/
def walkM (n : Int) (ws : Option (List (Int × Int))) : Int → Nat → Int
  | t, 0 => t
  | t, m + 1 => if openM ws (t % n) = true then t else walkM n ws (t + 1) m
def anyO (n : Nat) (ws : Option (List (Int × Int))) : Bool := (List.range n).any fun i => openM ws (i : Nat)
def hoursM (n : Nat) (ws : Option (List (Int × Int))) (k : Int) : Option (List Int) :=
  if anyO n ws = true then some ((List.range n).map fun i => walkM n ws (i : Nat) n + k) else none
/-- u is the next open time from t -/
structure PB (n : Nat) (ws : Option (List (Int × Int))) (t u : Int) : Prop where
  le : t ≤ u
  op : openM ws (u % n) = true
  no : ∀ s, t ≤ s → s < u → openM ws (s % n) = false
  hi : u ≤ t + n
theorem walk_pb {n : Nat} {ws : Option (List (Int × Int))} {u : Int} (hop : openM ws (u % n) = true) : ∀ (m : Nat) (t : Int), t ≤ u → (∀ s, t ≤ s → s < u → openM ws (s % n) = false) → u ≤ t + m → walkM n ws t m = u
  | 0, t, h1, _, h3 => by
    show t = u
    omega
  | m + 1, t, h1, h2, h3 => by
    show (if openM ws (t % n) = true then t else walkM n ws (t + 1) m) = u
    by_cases e : t = u
    · subst e
      rw [if_pos hop]
    · have h := h2 t (Int.le_refl _) (by omega)
      rw [if_neg (by rw [h]; exact Bool.false_ne_true)]
      exact walk_pb hop m (t + 1) (by omega) (fun s a b => h2 s (by omega) b) (by omega)
theorem PB.walk {n : Nat} {ws : Option (List (Int × Int))} {t u : Int} (p : PB n ws t u) : walkM n ws t n = u := walk_pb p.op n t p.le p.no p.hi
/-- from the day's end backward -/
def bM (n : Nat) (ws : Option (List (Int × Int))) (a : Nat) : Nat → Int
  | 0 => (a : Int) + n
  | j + 1 => if openM ws ((n : Int) - 1 - j) = true then (n : Int) - 1 - j else bM n ws a j
theorem bM_pb {n a : Nat} {ws : Option (List (Int × Int))} (ha : a < n) (hop : openM ws (a : Nat) = true) (hno : ∀ s : Nat, s < a → openM ws (s : Nat) = false) : ∀ j : Nat, j ≤ n → PB n ws ((n : Int) - j) (bM n ws a j)
  | 0, _ => by
    have e : ((a : Int) + n) % n = a := by
      rw [Int.add_emod_right]
      exact Int.emod_eq_of_lt (by omega) (by omega)
    refine ⟨by show (n : Int) - (0 : Nat) ≤ a + n; omega, by show openM ws (((a : Int) + n) % n) = true; rw [e]; exact hop, ?_, by show (a : Int) + n ≤ _; omega⟩
    intro s h1 h2
    have h2 : s < (a : Int) + n := h2
    obtain ⟨k, rfl⟩ : ∃ k : Nat, s = (k : Int) + n := ⟨(s - n).toNat, by omega⟩
    rw [Int.add_emod_right, Int.emod_eq_of_lt (by omega) (by omega)]
    exact hno k (by omega)
  | j + 1, h => by
    have p := bM_pb ha hop hno j (by omega)
    have e : ((n : Int) - 1 - j) % n = (n : Int) - 1 - j := Int.emod_eq_of_lt (by omega) (by omega)
    show PB n ws ((n : Int) - (j + 1 : Nat)) (if openM ws ((n : Int) - 1 - j) = true then (n : Int) - 1 - j else bM n ws a j)
    by_cases o : openM ws ((n : Int) - 1 - j) = true
    · rw [if_pos o]
      exact ⟨by omega, by rw [e]; exact o, fun s a b => by omega, by omega⟩
    · rw [if_neg o]
      have hle := p.le
      have hhi := p.hi
      have o : openM ws ((n : Int) - 1 - j) = false := by
        cases q : openM ws ((n : Int) - 1 - j) with
        | false => rfl
        | true => exact absurd q o
      refine ⟨by omega, p.op, ?_, ?_⟩
      · intro s h1 h2
        by_cases q : s = (n : Int) - 1 - j
        · rw [q, e]
          exact o
        · exact p.no s (by omega) h2
      · by_cases q : bM n ws a j = (n : Int) - j + n
        · exfalso
          have h1 := p.op
          rw [q, Int.add_emod_right] at h1
          have h2 := p.no ((n : Int) - j) (Int.le_refl _) (by omega)
          rw [h1] at h2
          cases h2
        · omega
theorem first_open {n a : Nat} {p : Nat → Bool} {r : List Nat} (h : (List.range n).filter p = a :: r) : a < n ∧ p a = true ∧ ∀ s, s < a → p s = false := by
  have e : (List.range n).find? p = some a := by
    rw [← List.head?_filter, h]
    rfl
  obtain ⟨h1, h2, h3⟩ := List.find?_range_eq_some.mp e
  refine ⟨List.mem_range.mp h2, h1, fun s hs => ?_⟩
  have := h3 s hs
  cases q : p s with
  | false => rfl
  | true =>
    rw [q] at this
    cases this
theorem none_open {n : Nat} {p : Nat → Bool} (h : (List.range n).filter p = []) : (List.range n).any p = false := by
  cases e : (List.range n).any p with
  | false => rfl
  | true =>
    obtain ⟨x, hx, px⟩ := List.any_eq_true.mp e
    have := List.mem_filter.mpr ⟨hx, px⟩
    rw [h] at this
    cases this
theorem some_open {n a : Nat} {p : Nat → Bool} {r : List Nat} (h : (List.range n).filter p = a :: r) : (List.range n).any p = true := by
  obtain ⟨h1, h2, _⟩ := first_open h
  exact List.any_eq_true.mpr ⟨a, List.mem_range.mpr h1, h2⟩
/-- what is told of a day with an open time -/
structure Day (n : Nat) (ws : Option (List (Int × Int))) (E : Nat → Int) : Prop where
  lo : ∀ i, i < n → (i : Int) ≤ E i
  hi : ∀ i, i < n → E i ≤ i + n
  up : ∀ i, i + 1 < n → E i ≤ E (i + 1)
  last : E (n - 1) ≤ E 0 + n
theorem day_of {n a : Nat} {ws : Option (List (Int × Int))} (ha : a < n) (hop : openM ws (a : Nat) = true) (hno : ∀ s : Nat, s < a → openM ws (s : Nat) = false) :
    (∀ i, i < n → walkM n ws (i : Nat) n = bM n ws a (n - i)) ∧ Day n ws (fun i => walkM n ws (i : Nat) n) := by
  have pb : ∀ i, i < n → PB n ws (i : Nat) (bM n ws a (n - i)) := fun i hi => by
    have p := bM_pb ha hop hno (n - i) (by omega)
    rw [show (n : Int) - (n - i : Nat) = (i : Nat) by omega] at p
    exact p
  have w : ∀ i, i < n → walkM n ws (i : Nat) n = bM n ws a (n - i) := fun i hi => (pb i hi).walk
  refine ⟨w, ⟨fun i hi => ?_, fun i hi => ?_, fun i hi => ?_, ?_⟩⟩
  · show (i : Int) ≤ walkM n ws (i : Nat) n
    rw [w i hi]
    exact (pb i hi).le
  · show walkM n ws (i : Nat) n ≤ _
    rw [w i hi]
    exact (pb i hi).hi
  · show walkM n ws (i : Nat) n ≤ walkM n ws (i + 1 : Nat) n
    rw [w i (by omega), w (i + 1) hi, show n - i = (n - (i + 1)) + 1 by omega]
    have p := (pb (i + 1) hi).le
    show (if openM ws ((n : Int) - 1 - (n - (i + 1) : Nat)) = true then (n : Int) - 1 - (n - (i + 1) : Nat) else bM n ws a (n - (i + 1))) ≤ bM n ws a (n - (i + 1))
    by_cases o : openM ws ((n : Int) - 1 - (n - (i + 1) : Nat)) = true
    · rw [if_pos o]
      omega
    · rw [if_neg o]
      exact Int.le_refl _
  · show walkM n ws (n - 1 : Nat) n ≤ walkM n ws (0 : Nat) n + n
    rw [w (n - 1) (by omega), w 0 (by omega), show n - (n - 1) = 0 + 1 by omega]
    have p0 := pb 0 (by omega)
    have q : (a : Int) ≤ bM n ws a (n - 0) := by
      by_cases h : (a : Int) ≤ bM n ws a (n - 0)
      · exact h
      · exfalso
        have h1 := p0.le
        have h2 := p0.op
        generalize bM n ws a (n - 0) = u at *
        rw [Int.emod_eq_of_lt (by omega) (by omega)] at h2
        have h3 := hno u.toNat (by omega)
        rw [show ((u.toNat : Nat) : Int) = u by omega, h2] at h3
        cases h3
    show (if openM ws ((n : Int) - 1 - (0 : Nat)) = true then (n : Int) - 1 - (0 : Nat) else (a : Int) + n) ≤ _
    by_cases o : openM ws ((n : Int) - 1 - (0 : Nat)) = true
    · rw [if_pos o]
      omega
    · rw [if_neg o]
      omega
/-! ### tuples of ints as data -/
def optD : Option (List Int) → PyData
  | none => .none
  | some f => .tuple (f.map .int)
theorem TupI.dp {K : PySem.W.Frag} {H : Hp} {v : V} {f : List Int} (h : TupI K H v f) : Dp K H v (.tuple (f.map .int)) := by
  obtain ⟨a, rfl, s⟩ := h
  exact .tup s (dpAll_map fun x _ => .int x)
theorem tup_at {f : List Int} {i : Int} (h0 : 0 ≤ i) (h1 : i < f.length) : atI (f.map V.int) i = some (.int (f.getD i.toNat 0)) := by
  obtain ⟨j, rfl⟩ := Int.eq_ofNat_of_zero_le h0
  have hj : j < f.length := by omega
  refine (atI_nat ?_).trans rfl
  rw [List.getElem?_map, List.getElem?_eq_getElem hj, Int.toNat_natCast, List.getD_eq_getElem?_getD, List.getElem?_eq_getElem hj]
  rfl
theorem mod_in {t n : Int} (h : 0 < n) : 0 ≤ t % n ∧ t % n < n := ⟨Int.emod_nonneg _ (by omega), Int.emod_lt_of_pos _ h⟩
/-- the greatest time at which one is through by e -/
theorem latest {f : List Int} {e m : Int} (h0 : 0 < f.length) (hm : ∃ i, i < f.length ∧ m = (i : Nat) + (e - f.getD i 0) / (f.length : Int) * f.length) (hx : ∀ i, i < f.length → (i : Nat) + (e - f.getD i 0) / (f.length : Int) * f.length ≤ m) :
    readM f m ≤ e ∧ e < readM f (m + 1) := by
  have hn : (0 : Int) < f.length := by omega
  have key : ∀ t : Int, readM f t ≤ e → t ≤ m := by
    intro t ht
    obtain ⟨h1, h2⟩ := mod_in (t := t) hn
    have h3 := hx (t % f.length).toNat (by omega)
    unfold readM at ht
    rw [Int.toNat_of_nonneg h1] at h3
    have h4 : t / (f.length : Int) ≤ (e - f.getD (t % f.length).toNat 0) / (f.length : Int) := by
      refine (Int.le_ediv_iff_mul_le hn).mpr ?_
      omega
    have h5 := Int.mul_le_mul_of_nonneg_right h4 (Int.le_of_lt hn)
    have h6 := Int.emod_add_mul_ediv t f.length
    rw [Int.mul_comm] at h6
    omega
  constructor
  · obtain ⟨i, hi, rfl⟩ := hm
    unfold readM
    rw [Int.add_mul_emod_self_right, Int.add_mul_ediv_right _ _ (by omega), Int.emod_eq_of_lt (by omega) (by omega), Int.ediv_eq_zero_of_lt (by omega) (by omega), Int.toNat_natCast, Int.zero_add]
    have := Int.ediv_mul_le (e - f.getD i 0) (show (f.length : Int) ≠ 0 by omega)
    omega
  · by_cases h : e < readM f (m + 1)
    · exact h
    · have := key (m + 1) (by omega)
      omega
theorem latest_bound {f : List Int} {e : Int} {i : Nat} (h0 : 0 < f.length) (hl : f.length ≤ 1000) (hi : i < f.length) (b0 : 0 ≤ f.getD i 0) (b1 : f.getD i 0 ≤ 100000) (e0 : -1000000 ≤ e) (e1 : e ≤ 1000000) :
    -2000000 ≤ (i : Nat) + (e - f.getD i 0) / (f.length : Int) * f.length ∧ (i : Nat) + (e - f.getD i 0) / (f.length : Int) * f.length ≤ 2000000 := by
  have hn : (0 : Int) < f.length := by omega
  have h1 := Int.emod_add_mul_ediv (e - f.getD i 0) f.length
  obtain ⟨h2, h3⟩ := mod_in (t := e - f.getD i 0) hn
  rw [Int.mul_comm] at h1
  omega
theorem read_mod (f : List Int) (t : Int) : t - t / (f.length : Int) * f.length = t % (f.length : Int) := by
  have h := Int.emod_add_mul_ediv t f.length
  rw [Int.mul_comm] at h
  omega
theorem bw_any (l : List (Int × Int)) (t : Int) : openM (some l) t = (l.map fun p => decide (p.1 ≤ t) && decide (t < p.2)).any id := by
  rw [List.any_map]
  rfl
/-- windows as what is walked: a list or a tuple of pairs -/
theorem WinV.some {K : PySem.W.Frag} {H : Hp} {v : V} {l : List (Int × Int)} (h : WinV K H v (some l)) : l.length ≤ 1000 ∧ ∃ W xs, v = .ref W ∧ (SqL K H W xs ∨ SqT K H W xs) ∧ DpAll K H xs (dW l) ∧ l.length = xs.length := by
  rcases h with ⟨h, _⟩ | ⟨l', h1, h2, h3⟩
  · cases h
  · cases h1
    have len : ∀ xs, DpAll K H xs (dW l) → l.length = xs.length := fun xs hx => by
      have := dpAll_len hx
      unfold dW at this
      rw [List.length_map] at this
      exact this.symm
    rcases h3 with h | h
    · cases h with
      | lst s x => exact ⟨h2, _, _, rfl, .inl s, x, len _ x⟩
    · cases h with
      | tup s x => exact ⟨h2, _, _, rfl, .inr s, x, len _ x⟩
theorem WinV.none {K : PySem.W.Frag} {H : Hp} {v : V} (h : WinV K H v none) : v = .non := by
  rcases h with ⟨_, h⟩ | ⟨l', h1, _⟩
  · exact h
  · cases h1
/-- an object of the class Hours -/
def hfl (d : Int) (t : Addr) : List (Str × V) := putF "stay" (.ref t) (putF "day" (.int d) [])
def HoursAt (CH : Addr) (H : Hp) (p : Addr) (d : Nat) : Prop := ∃ dx t, H p = some (.ins CH dx (hfl d t)) ∧ H t = some (.tup (rgV 0 d))
theorem HoursAt.mono {CH : Addr} {H H' : Hp} {p : Addr} {d : Nat} (h : HoursAt CH H p d) (e : Same H H') : HoursAt CH H' p d := by
  obtain ⟨dx, t, a, b⟩ := h
  exact ⟨dx, t, e _ _ a, e _ _ b⟩
theorem ne_ds : ¬ (("day" : Str) = "stay") := by decide +kernel
theorem hfl_day (d : Int) (t : Addr) : (hfl d t).lookup ("day" : Str) = some (.int d) := by
  unfold hfl
  rw [lookup_putF, if_neg ne_ds, lookup_putF, if_pos rfl]
theorem hfl_stay (d : Int) (t : Addr) : (hfl d t).lookup ("stay" : Str) = some (.ref t) := by
  unfold hfl
  rw [lookup_putF, if_pos rfl]
theorem hfl_no (d : Int) (t : Addr) {m : Str} (h1 : ¬ m = "stay") (h2 : ¬ m = "day") : (hfl d t).lookup m = none := by
  unfold hfl
  rw [lookup_putF, if_neg h1, lookup_putF, if_neg h2]
  rfl
theorem tup_last {f : List Int} (h : 0 < f.length) : atI (f.map V.int) (-1) = some (.int (f.getD (f.length - 1) 0)) := by
  have e : ixN (f.map V.int).length (-1) = some (f.length - 1) := by
    unfold ixN
    rw [List.length_map, if_neg (by decide), if_pos (by omega)]
    exact congrArg some (by omega)
  unfold atI
  rw [e]
  show (f.map V.int)[f.length - 1]? = _
  rw [List.getElem?_map, List.getD_eq_getElem?_getD, List.getElem?_eq_getElem (show f.length - 1 < f.length by omega)]
  rfl
theorem cut_tail {f : List Int} (h : 0 < f.length) : HT.sIx (f.map V.int).length 0 (some 1) = 1 ∧ cutV (f.map V.int) (some 1) none = (f.drop 1).map V.int := by
  have e : HT.sIx (f.map V.int).length 0 (some 1) = 1 := by
    rw [List.length_map]
    refine (HT.sIx_nat f.length 0 1).trans ?_
    exact Nat.min_eq_left (by omega)
  refine ⟨e, ?_⟩
  unfold cutV
  rw [e, HT.sIx_none, List.length_map, ← List.map_drop]
  exact List.take_of_length_le (by rw [List.length_map, List.length_drop]; exact Nat.le_refl _)
theorem rev_bM {n a : Nat} {ws : Option (List (Int × Int))} {k : Int} (w : ∀ i, i < n → walkM n ws (i : Nat) n = bM n ws a (n - i)) :
    ((List.range n).map fun i => V.int (bM n ws a (i + 1) + k)).reverse = ((List.range n).map fun i => walkM n ws (i : Nat) n + k).map V.int := by
  rw [List.map_map]
  refine List.ext_getElem (by simp) fun i h1 h2 => ?_
  have hi : i < n := by simpa using h2
  rw [List.getElem_reverse, List.getElem_map, List.getElem_map, List.getElem_range, List.getElem_range]
  show V.int _ = V.int (walkM n ws (i : Nat) n + k)
  rw [w i hi, List.length_map, List.length_range, show n - 1 - i + 1 = n - i by omega]
theorem at0 {x : V} {xs : List V} : atI (x :: xs) 0 = some x := (show atI (x :: xs) ((0 : Nat) : Int) = some x from atI_nat rfl)
theorem at1 {x y : V} {xs : List V} : atI (x :: y :: xs) 1 = some y := (show atI (x :: y :: xs) ((1 : Nat) : Int) = some y from atI_nat rfl)
theorem filt_open (l : List (Int × Int)) (t : Int) : (!((List.range l.length).filter fun i => decide ((l.getD i (0, 0)).1 ≤ t) && decide (t < (l.getD i (0, 0)).2)).isEmpty) = openM (some l) t := by
  show _ = l.any fun p => decide (p.1 ≤ t) && decide (t < p.2)
  generalize e : (fun p : Int × Int => decide (p.1 ≤ t) && decide (t < p.2)) = b
  have e2 : (fun i => decide ((l.getD i (0, 0)).1 ≤ t) && decide (t < (l.getD i (0, 0)).2)) = fun i => b (l.getD i (0, 0)) := by
    funext i
    rw [← e]
  rw [e2]
  clear e e2
  induction l with
  | nil => rfl
  | cons a r ih =>
    rw [List.length_cons, List.range_succ_eq_map, List.filter_cons, List.any_cons, List.filter_map]
    show (!(if b a = true then _ else _ : List Nat).isEmpty) = _
    cases h : b a with
    | true =>
      rw [if_pos rfl, Bool.true_or]
      rfl
    | false =>
      rw [if_neg Bool.false_ne_true, List.isEmpty_map, Bool.false_or]
      exact ih
/-- what the law's loop has found behind j turns: stood at an open time, or still going -/
def stepM (n : Nat) (ws : Option (List (Int × Int))) (t : Int) (j : Nat) : Prop := ∀ m, walkM n ws t (j + m) = walkM n ws (t + j) m
theorem stepM_zero {n : Nat} {ws : Option (List (Int × Int))} {t : Int} : stepM n ws t 0 := fun m => by
  rw [Nat.zero_add, show t + ((0 : Nat) : Int) = t by omega]
theorem stepM_succ {n : Nat} {ws : Option (List (Int × Int))} {t : Int} {j : Nat} (h : stepM n ws t j) (o : openM ws ((t + j) % n) = false) : stepM n ws t (j + 1) := fun m => by
  have h1 := h (m + 1)
  rw [show j + (m + 1) = j + 1 + m by omega] at h1
  rw [h1, show t + ((j + 1 : Nat) : Int) = t + j + 1 by omega]
  exact if_neg (by rw [o]; exact Bool.false_ne_true)
theorem stepM_end {n : Nat} {ws : Option (List (Int × Int))} {t : Int} (h : stepM n ws t n) : t + n = walkM n ws t n := (h 0).symm
theorem stepM_stop {n : Nat} {ws : Option (List (Int × Int))} {t : Int} {j : Nat} (h : stepM n ws t j) (hj : j < n) (o : openM ws ((t + j) % n) = true) : t + j = walkM n ws t n := by
  have h1 := h (n - j - 1 + 1)
  rw [show j + (n - j - 1 + 1) = n by omega] at h1
  rw [h1]
  exact (if_pos o).symm
theorem sqt_upd {K : PySem.W.Frag} {H : Hp} {q U : Addr} {xs ys : List V} {o : HO} (hq : H q = some (.lst ys)) (h : SqT K H U xs) : SqT K (upd H q o) U xs := by
  rcases h with (h | ⟨o2, h⟩) | h
  · refine .inl (.inl ?_)
    rw [upd_ne fun e => by rw [e, hq] at h; cases h]
    exact h
  · refine .inl (.inr ⟨o2, ?_⟩)
    rw [upd_ne fun e => by rw [e, hq] at h; cases h]
    exact h
  · exact .inr h
theorem dW_upd {K : PySem.W.Frag} {H : Hp} {q : Addr} {ys : List V} {o : HO} (hq : H q = some (.lst ys)) : ∀ {l : List (Int × Int)} {xs : List V}, DpAll K H xs (dW l) → DpAll K (upd H q o) xs (dW l)
  | [], _, h => by
    cases h
    exact .nil
  | p :: r, _, h => by
    have h : DpAll K H _ (.tuple [.int p.1, .int p.2] :: dW r) := h
    cases h with
    | cons a b =>
      obtain ⟨U, rfl, s⟩ := dp_pair a
      exact .cons (.tup (sqt_upd hq s) (.cons (.int _) (.cons (.int _) .nil))) (dW_upd hq b)
theorem dW_snoc (l : List (Int × Int)) (a b : Int) : dW (l ++ [(a, b)]) = dW l ++ [.tuple [.int a, .int b]] := List.map_append
theorem dpAll_snoc {K : PySem.W.Frag} {H : Hp} : ∀ {xs : List V} {ds : List PyData} {x : V} {d : PyData}, DpAll K H xs ds → Dp K H x d → DpAll K H (xs ++ [x]) (ds ++ [d])
  | _, _, _, _, .nil, h => .cons h .nil
  | _, _, _, _, .cons a b, h => .cons a (dpAll_snoc b h)
theorem cut_mem (cs : List Int) (lo hi : Option Int) : ∃ ms : List Int, cutV (cs.map V.int) lo hi = ms.map V.int ∧ (∀ z ∈ ms, z ∈ cs) ∧ ms.length ≤ cs.length := by
  unfold cutV
  rw [← List.map_drop, ← List.map_take]
  refine ⟨_, rfl, fun z hz => List.mem_of_mem_drop (List.mem_of_mem_take hz), ?_⟩
  rw [List.length_take, List.length_drop]
  omega
/-- what the law's own windows are: None or a new list of pairs -/
def WinL (K : PySem.W.Frag) (H : Hp) (v : V) (ws : Option (List (Int × Int))) : Prop :=
  (ws = none ∧ v = .non) ∨ ∃ l D xs, ws = some l ∧ l.length ≤ 1000 ∧ v = .ref D ∧ H D = some (.lst xs) ∧ DpAll K H xs (dW l)
theorem WinL.mono {K : PySem.W.Frag} {H H' : Hp} {v : V} {ws : Option (List (Int × Int))} (h : WinL K H v ws) (e : Same H H') : WinL K H' v ws := by
  rcases h with h | ⟨l, D, xs, h1, h2, h3, h4, h5⟩
  · exact .inl h
  · exact .inr ⟨l, D, xs, h1, h2, h3, e _ _ h4, dpAll_mono e _ h5⟩
theorem WinL.win {K : PySem.W.Frag} {H : Hp} {v : V} {ws : Option (List (Int × Int))} (h : WinL K H v ws) : WinV K H v ws := by
  rcases h with h | ⟨l, D, xs, h1, h2, rfl, h4, h5⟩
  · exact .inl h
  · exact .inr ⟨l, h1, h2, .inl (.lst (SqL.of h4) h5)⟩
def OkF (n : Nat) (f : List Int) : Prop := f.length = n ∧ ∀ i, i < n → 0 ≤ f.getD i 0 ∧ f.getD i 0 ≤ 2000
theorem okF_of {n : Nat} {f : List Int} (h : f.length = n) (p : ∀ x ∈ f, 0 ≤ x ∧ x ≤ 2000) : OkF n f := by
  refine ⟨h, fun i hi => ?_⟩
  rw [getD_of (List.getElem?_eq_getElem (show i < f.length by omega))]
  exact p _ (List.getElem_mem _)
theorem okF_stay {n : Nat} (h : n ≤ 96) : OkF n ((List.range n).map fun i => ((i : Nat) : Int)) := by
  refine okF_of (by rw [List.length_map, List.length_range]) fun x hx => ?_
  obtain ⟨i, hi, rfl⟩ := List.mem_map.mp hx
  have := List.mem_range.mp hi
  omega
theorem rg_nat (n : Nat) : rgV 0 (n : Int) = ((List.range n).map fun i => ((i : Nat) : Int)).map V.int := by
  unfold rgV
  rw [show ((n : Int) - 0).toNat = n by omega, List.map_map]
  refine List.map_congr_left fun i _ => ?_
  show V.int (0 + (i : Nat)) = V.int (i : Nat)
  rw [Int.zero_add]
def FoundAt (K : PySem.W.Frag) (H : Hp) (q : Addr) (n m : Nat) : Prop := ∃ us : List V, H q = some (.lst us) ∧ 0 < us.length ∧ us.length ≤ m ∧ ∀ u ∈ us, ∃ f, TupI K H u f ∧ OkF n f
theorem FoundAt.mono {K : PySem.W.Frag} {H H' : Hp} {q : Addr} {n m m' : Nat} (h : FoundAt K H q n m) (e : Same H H') (hm : m ≤ m') : FoundAt K H' q n m' := by
  obtain ⟨us, h1, h2, h3, h4⟩ := h
  refine ⟨us, e _ _ h1, h2, by omega, fun u hu => ?_⟩
  obtain ⟨f, t, o⟩ := h4 u hu
  exact ⟨f, t.mono e, o⟩
theorem tupI_upd {K : PySem.W.Frag} {H : Hp} {q : Addr} {ys : List V} {o : HO} {v : V} {f : List Int} (hq : H q = some (.lst ys)) (h : TupI K H v f) : TupI K (upd H q o) v f := by
  obtain ⟨a, h1, h2⟩ := h
  exact ⟨a, h1, sqt_upd hq h2⟩
theorem span_in {z : V} (h : z ∈ ([.int 1, .int 2, .int 3, .int 4, .int 5, .int 6, .int 7, .int 8, .int 8, .int 24, .int 96] : List V)) : ∃ n : Nat, z = .int n ∧ 1 ≤ n ∧ n ≤ 96 := by
  simp only [List.mem_cons, List.not_mem_nil, or_false] at h
  rcases h with rfl | rfl | rfl | rfl | rfl | rfl | rfl | rfl | rfl | rfl | rfl
  · exact ⟨1, rfl, by decide, by decide⟩
  · exact ⟨2, rfl, by decide, by decide⟩
  · exact ⟨3, rfl, by decide, by decide⟩
  · exact ⟨4, rfl, by decide, by decide⟩
  · exact ⟨5, rfl, by decide, by decide⟩
  · exact ⟨6, rfl, by decide, by decide⟩
  · exact ⟨7, rfl, by decide, by decide⟩
  · exact ⟨8, rfl, by decide, by decide⟩
  · exact ⟨8, rfl, by decide, by decide⟩
  · exact ⟨24, rfl, by decide, by decide⟩
  · exact ⟨96, rfl, by decide, by decide⟩
/-- what hours tell keeps what a value must keep -/
theorem hours_ok {n : Nat} {ws : Option (List (Int × Int))} {k : Int} {f : List Int} (h : hoursM n ws k = some f) (n0 : 1 ≤ n) (n1 : n ≤ 96) (k0 : 0 ≤ k) (k1 : k ≤ 961) :
    OkF n f ∧ (∀ i, i < f.length → (i : Int) ≤ f.getD i 0) ∧ (∀ i, i + 1 < f.length → f.getD i 0 ≤ f.getD (i + 1) 0) ∧ f.getD (f.length - 1) 0 ≤ f.getD 0 0 + f.length := by
  unfold hoursM at h
  cases hA : anyO n ws with
  | false =>
    rw [hA] at h
    cases h
  | true =>
    rw [hA, if_pos rfl] at h
    cases h
    cases hF : (List.range n).filter (fun i => openM ws (i : Nat)) with
    | nil =>
      have := none_open hF
      unfold anyO at hA
      rw [hA] at this
      cases this
    | cons a r =>
      obtain ⟨ha, hop, hno⟩ := first_open hF
      obtain ⟨_, D⟩ := day_of ha hop hno
      have ln : ((List.range n).map fun i => walkM n ws (i : Nat) n + k).length = n := by rw [List.length_map, List.length_range]
      have g : ∀ i, i < n → ((List.range n).map fun i => walkM n ws (i : Nat) n + k).getD i 0 = walkM n ws (i : Nat) n + k := fun i hi => by
        rw [List.getD_eq_getElem?_getD, List.getElem?_map, List.getElem?_range hi]
        rfl
      have lo := D.lo
      have hi := D.hi
      have up := D.up
      have la := D.last
      refine ⟨⟨ln, fun i hi' => ?_⟩, fun i hi' => ?_, fun i hi' => ?_, ?_⟩
      · rw [g i hi']
        have a1 := lo i hi'
        have a2 := hi i hi'
        constructor <;> omega
      · rw [ln] at hi'
        rw [g i hi']
        have a1 := lo i hi'
        omega
      · rw [ln] at hi'
        rw [g i (by omega), g (i + 1) hi']
        have a1 := up i hi'
        omega
      · rw [ln, g (n - 1) (by omega), g 0 (by omega)]
        have a1 := la
        omega
theorem dpAll_rep {K : PySem.W.Frag} {H : Hp} {d : PyData} : ∀ {us : List V}, (∀ u ∈ us, Dp K H u d) → DpAll K H us (List.replicate us.length d)
  | [], _ => .nil
  | u :: r, h => .cons (h u (List.mem_cons_self ..)) (dpAll_rep fun x hx => h x (List.mem_cons_of_mem _ hx))
theorem lk_optD {m : Nat} {o : Option (List Int)} (h : ∀ f, o = some f → f.length ≤ 100000) : Lk (m + 2) (optD o) := by
  cases o with
  | none => trivial
  | some f =>
    refine ⟨by rw [List.length_map]; exact h f rfl, fun d hd => ?_⟩
    obtain ⟨z, _, rfl⟩ := List.mem_map.mp hd
    trivial
theorem optD_upd {K : PySem.W.Frag} {H : Hp} {q : Addr} {ys : List V} {o : HO} {v : V} {r : Option (List Int)} (hq : H q = some (.lst ys)) (h : Dp K H v (optD r)) : Dp K (upd H q o) v (optD r) := by
  cases r with
  | none =>
    cases h
    exact .non
  | some f =>
    cases h with
    | tup s x => exact .tup (sqt_upd hq s) (ints_free x)
where ints_free {K : PySem.W.Frag} {H H' : Hp} : ∀ {f : List Int} {xs : List V}, DpAll K H xs (f.map .int) → DpAll K H' xs (f.map .int)
  | [], _, h => by
    cases h
    exact .nil
  | z :: r, _, h => by
    cases h with
    | cons a b =>
      cases a
      exact .cons (.int _) (ints_free b)
theorem optD_tup {K : PySem.W.Frag} {H : Hp} {v : V} {f : List Int} (h : Dp K H v (optD (some f))) : TupI K H v f := by
  cases h with
  | tup s x =>
    refine ⟨_, rfl, ?_⟩
    rw [← ints_are x]
    exact s
where ints_are {K : PySem.W.Frag} {H : Hp} : ∀ {f : List Int} {xs : List V}, DpAll K H xs (f.map .int) → xs = f.map V.int
  | [], _, h => by
    cases h
    rfl
  | z :: r, _, h => by
    cases h with
    | cons a b =>
      cases a
      rw [ints_are b]
      rfl
theorem dpAll_rep2 {K : PySem.W.Frag} {H : Hp} {d : PyData} {v : V} (h : Dp K H v d) : ∀ {m : Nat}, DpAll K H ((List.range m).map fun _ => v) (List.replicate m d) := fun {m} => by
  rw [List.map_const', List.length_range]
  induction m with
  | zero => exact .nil
  | succ m ih => exact .cons h ih
theorem lk_dW {l : List (Int × Int)} {m : Nat} (h : l.length ≤ 1000) : Lk (m + 3) (.list (dW l)) := by
  refine ⟨by unfold dW; rw [List.length_map]; omega, fun d hd => ?_⟩
  obtain ⟨z, _, rfl⟩ := List.mem_map.mp hd
  refine ⟨Nat.le_of_ble_eq_true rfl, fun d hd => ?_⟩
  simp only [List.mem_cons, List.not_mem_nil, or_false] at hd
  rcases hd with rfl | rfl
  · trivial
  · trivial
def BdM (f : List Int) : Prop := 0 < f.length ∧ f.length ≤ 96 ∧ ∀ i, i < f.length → 0 ≤ f.getD i 0 ∧ f.getD i 0 ≤ 10000
theorem bd_of {n : Nat} {f : List Int} (h : OkF n f) (n0 : 1 ≤ n) (n1 : n ≤ 96) : BdM f := by
  obtain ⟨rfl, p⟩ := h
  refine ⟨n0, n1, fun i hi => ?_⟩
  have := p i hi
  omega
theorem bd_joined {n : Nat} {f g : List Int} (h : OkF n f) (h2 : OkF n g) (n0 : 1 ≤ n) (n1 : n ≤ 96) : BdM (f.map (readM g)) := by
  obtain ⟨lf, p⟩ := h
  obtain ⟨lg, p2⟩ := h2
  refine ⟨by rw [List.length_map]; omega, by rw [List.length_map]; omega, fun i hi => ?_⟩
  rw [List.length_map] at hi
  have e : (f.map (readM g)).getD i 0 = readM g (f.getD i 0) := by
    rw [List.getD_eq_getElem?_getD, List.getD_eq_getElem?_getD, List.getElem?_map, List.getElem?_eq_getElem hi]
    rfl
  rw [e]
  have a := p i (by omega)
  generalize f.getD i 0 = t at a
  have hn : (0 : Int) < g.length := by omega
  obtain ⟨m0, m1⟩ := mod_in (t := t) hn
  have b := p2 (t % g.length).toNat (by omega)
  have c := Int.emod_add_mul_ediv t g.length
  rw [Int.mul_comm] at c
  have d : 0 ≤ t / (g.length : Int) * g.length := Int.mul_nonneg (Int.ediv_nonneg a.1 (by omega)) (by omega)
  unfold readM
  constructor <;> omega
theorem bd_lower {n : Nat} {f g : List Int} (h : OkF n f) (h2 : OkF n g) (n0 : 1 ≤ n) (n1 : n ≤ 96) : BdM ((List.range f.length).map fun i => if g.getD i 0 < f.getD i 0 then g.getD i 0 else f.getD i 0) := by
  obtain ⟨lf, p⟩ := h
  obtain ⟨lg, p2⟩ := h2
  refine ⟨by rw [List.length_map, List.length_range]; omega, by rw [List.length_map, List.length_range]; omega, fun i hi => ?_⟩
  rw [List.length_map, List.length_range] at hi
  have e : ((List.range f.length).map fun i => if g.getD i 0 < f.getD i 0 then g.getD i 0 else f.getD i 0).getD i 0 = if g.getD i 0 < f.getD i 0 then g.getD i 0 else f.getD i 0 := by
    rw [List.getD_eq_getElem?_getD, List.getElem?_map, List.getElem?_range hi]
    rfl
  rw [e]
  have a := p i (by omega)
  have b := p2 i (by omega)
  split <;> omega
end Fb

set_option Elab.async false
set_option linter.all false
set_option maxRecDepth 100000
set_option maxHeartbeats 4000000
namespace Fb
open PySem PySem.Spec L2
open PyProof.Rows hiding St
open C8 (Cal Met Mak Def cal0 met0 mak0 pe_c pe_mk pe_mt pe_mt0 fnScope fnBody fnArgs pss_cut tCut)
/-! ### the text by places -/
def topS (i : Nat) : Stmt := PySem.Challenge.pw_feeblind_k08_whole_hours_walked.main.body.getD i (.Pass ⟨0, 0, 0, 0⟩)
abbrev s_is_number : Stmt := topS 6
theorem sc_is_number : FnScope ["value", "least", "most"] ["value", "least", "most"] (fnScope s_is_number) := ⟨rfl, rfl, rfl, by decide +kernel, rfl, by decide +kernel, by decide +kernel⟩
abbrev s_can_enter : Stmt := topS 11
theorem sc_can_enter : FnScope ["windows", "t", "first", "behind"] ["windows", "t"] (fnScope s_can_enter) := ⟨rfl, rfl, rfl, by decide +kernel, rfl, by decide +kernel, by decide +kernel⟩
abbrev s_hours_of : Stmt := topS 12
theorem sc_hours_of : FnScope ["day", "windows", "ticks", "times", "entered", "through", "t"] ["day", "windows", "ticks"] (fnScope s_hours_of) := ⟨rfl, rfl, rfl, by decide +kernel, rfl, by decide +kernel, by decide +kernel⟩
abbrev s_read_hours : Stmt := topS 13
theorem sc_read_hours : FnScope ["value", "t", "days", "hour"] ["value", "t"] (fnScope s_read_hours) := ⟨rfl, rfl, rfl, by decide +kernel, rfl, by decide +kernel, by decide +kernel⟩
abbrev s_latest_begin : Stmt := topS 14
theorem sc_latest_begin : FnScope ["value", "end", "day", "hour", "through"] ["value", "end"] (fnScope s_latest_begin) := ⟨rfl, rfl, rfl, by decide +kernel, rfl, by decide +kernel, by decide +kernel⟩
abbrev s_never_falls : Stmt := topS 15
theorem sc_never_falls : FnScope ["value", "left", "right"] ["value"] (fnScope s_never_falls) := ⟨rfl, rfl, rfl, by decide +kernel, rfl, by decide +kernel, by decide +kernel⟩
abbrev s__law_bag : Stmt := topS 18
theorem sc__law_bag : FnScope ["script", "stir", "lump"] ["script"] (fnScope s__law_bag) := ⟨rfl, rfl, rfl, by decide +kernel, rfl, by decide +kernel, by decide +kernel⟩
abbrev s__law_draw : Stmt := topS 19
theorem sc__law_draw : FnScope ["bag", "sides", "lump", "digit"] ["bag", "sides"] (fnScope s__law_draw) := ⟨rfl, rfl, rfl, by decide +kernel, rfl, by decide +kernel, by decide +kernel⟩
abbrev s__law_of : Stmt := topS 20
theorem sc__law_of : FnScope ["bag", "things"] ["bag", "things"] (fnScope s__law_of) := ⟨rfl, rfl, rfl, by decide +kernel, rfl, by decide +kernel, by decide +kernel⟩
abbrev s__law_turned : Stmt := topS 21
theorem sc__law_turned : FnScope ["bag", "things", "left", "found", "k"] ["bag", "things"] (fnScope s__law_turned) := ⟨rfl, rfl, rfl, by decide +kernel, rfl, by decide +kernel, by decide +kernel⟩
abbrev s__law_like : Stmt := topS 22
theorem sc__law_like : FnScope ["told", "due", "k", "a", "b"] ["told", "due"] (fnScope s__law_like) := ⟨rfl, rfl, rfl, by decide +kernel, rfl, by decide +kernel, by decide +kernel⟩
abbrev s__law_is_number : Stmt := topS 23
theorem sc__law_is_number : FnScope ["thing", "low"] ["thing", "low"] (fnScope s__law_is_number) := ⟨rfl, rfl, rfl, by decide +kernel, rfl, by decide +kernel, by decide +kernel⟩
abbrev s__law_hours : Stmt := topS 24
theorem sc__law_hours : FnScope ["bag", "span_y", "found", "late", "k"] ["bag", "span_y"] (fnScope s__law_hours) := ⟨rfl, rfl, rfl, by decide +kernel, rfl, by decide +kernel, by decide +kernel⟩
abbrev s__law_windows : Stmt := topS 25
theorem sc__law_windows : FnScope ["bag", "span_y", "k", "found", "at_y", "behind_y"] ["bag", "span_y"] (fnScope s__law_windows) := ⟨rfl, rfl, rfl, by decide +kernel, rfl, by decide +kernel, by decide +kernel⟩
abbrev s__law_is_open : Stmt := topS 26
theorem sc__law_is_open : FnScope ["wins", "t_y", "x"] ["wins", "t_y"] (fnScope s__law_is_open) := ⟨rfl, rfl, rfl, by decide +kernel, rfl, by decide +kernel, by decide +kernel⟩
abbrev s__law_walk : Stmt := topS 27
theorem sc__law_walk : FnScope ["span_y", "wins", "more", "found", "k", "t_y", "j"] ["span_y", "wins", "more"] (fnScope s__law_walk) := ⟨rfl, rfl, rfl, by decide +kernel, rfl, by decide +kernel, by decide +kernel⟩
abbrev s__law_reading : Stmt := topS 28
theorem sc__law_reading : FnScope ["f", "t_y", "days"] ["f", "t_y"] (fnScope s__law_reading) := ⟨rfl, rfl, rfl, by decide +kernel, rfl, by decide +kernel, by decide +kernel⟩
abbrev s__law_times : Stmt := topS 29
theorem sc__law_times : FnScope ["bag", "span_y", "found"] ["bag", "span_y"] (fnScope s__law_times) := ⟨rfl, rfl, rfl, by decide +kernel, rfl, by decide +kernel, by decide +kernel⟩
abbrev s__law_read_so : Stmt := topS 30
theorem sc__law_read_so : FnScope ["bag", "f", "t_y", "due", "begin_y"] ["bag", "f"] (fnScope s__law_read_so) := ⟨rfl, rfl, rfl, by decide +kernel, rfl, by decide +kernel, by decide +kernel⟩
abbrev s_Hours___init__ : Stmt := inClass (topS 16) 0
theorem sc_Hours___init__ : FnScope ["self", "day"] ["self", "day"] (fnScope s_Hours___init__) := ⟨rfl, rfl, rfl, by decide +kernel, rfl, by decide +kernel, by decide +kernel⟩
abbrev s_Hours_best : Stmt := inClass (topS 16) 1
theorem sc_Hours_best : FnScope ["self", "one", "other", "left", "right"] ["self", "one", "other"] (fnScope s_Hours_best) := ⟨rfl, rfl, rfl, by decide +kernel, rfl, by decide +kernel, by decide +kernel⟩
abbrev s_Hours_then : Stmt := inClass (topS 16) 2
theorem sc_Hours_then : FnScope ["self", "one", "other", "through"] ["self", "one", "other"] (fnScope s_Hours_then) := ⟨rfl, rfl, rfl, by decide +kernel, rfl, by decide +kernel, by decide +kernel⟩
abbrev s_Hours_is_value : Stmt := inClass (topS 16) 3
theorem sc_Hours_is_value : FnScope ["self", "value", "t", "through"] ["self", "value"] (fnScope s_Hours_is_value) := ⟨rfl, rfl, rfl, by decide +kernel, rfl, by decide +kernel, by decide +kernel⟩
abbrev s_law : Stmt := topS 31
theorem sc_law : FnScope ["script", "bag", "turn", "span_y", "made", "found", "k", "joined", "lower", "f", "wins", "more", "held", "due", "told", "g", "t_y", "x", "y"] ["script"] (fnScope s_law) := ⟨rfl, rfl, rfl, by decide +kernel, rfl, by decide +kernel, by decide +kernel⟩
structure Top (K : PySem.W.Frag) (mg : Str → Option Value) (CH : Addr) : Prop where
  cl_Hours : Cls K CH
  g_Hours : mg "Hours" = some (.ref CH)
  na_day : NoAttr K CH "day"
  na_stay : NoAttr K CH "stay"
  d_is_number : ∃ (f : Addr) (fd : FuncData), Def K mg "is_number" s_is_number f fd ∧ DflV K fd.defaults [.int 0, .non]
  d_can_enter : ∃ (f : Addr) (fd : FuncData), Def K mg "can_enter" s_can_enter f fd ∧ fd.defaults = .none
  d_hours_of : ∃ (f : Addr) (fd : FuncData), Def K mg "hours_of" s_hours_of f fd ∧ fd.defaults = .none
  d_read_hours : ∃ (f : Addr) (fd : FuncData), Def K mg "read_hours" s_read_hours f fd ∧ fd.defaults = .none
  d_latest_begin : ∃ (f : Addr) (fd : FuncData), Def K mg "latest_begin" s_latest_begin f fd ∧ fd.defaults = .none
  d_never_falls : ∃ (f : Addr) (fd : FuncData), Def K mg "never_falls" s_never_falls f fd ∧ fd.defaults = .none
  d__law_bag : ∃ (f : Addr) (fd : FuncData), Def K mg "_law_bag" s__law_bag f fd ∧ fd.defaults = .none
  d__law_draw : ∃ (f : Addr) (fd : FuncData), Def K mg "_law_draw" s__law_draw f fd ∧ fd.defaults = .none
  d__law_of : ∃ (f : Addr) (fd : FuncData), Def K mg "_law_of" s__law_of f fd ∧ fd.defaults = .none
  d__law_turned : ∃ (f : Addr) (fd : FuncData), Def K mg "_law_turned" s__law_turned f fd ∧ fd.defaults = .none
  d__law_like : ∃ (f : Addr) (fd : FuncData), Def K mg "_law_like" s__law_like f fd ∧ fd.defaults = .none
  d__law_is_number : ∃ (f : Addr) (fd : FuncData), Def K mg "_law_is_number" s__law_is_number f fd ∧ fd.defaults = .none
  d__law_hours : ∃ (f : Addr) (fd : FuncData), Def K mg "_law_hours" s__law_hours f fd ∧ fd.defaults = .none
  d__law_windows : ∃ (f : Addr) (fd : FuncData), Def K mg "_law_windows" s__law_windows f fd ∧ fd.defaults = .none
  d__law_is_open : ∃ (f : Addr) (fd : FuncData), Def K mg "_law_is_open" s__law_is_open f fd ∧ fd.defaults = .none
  d__law_walk : ∃ (f : Addr) (fd : FuncData), Def K mg "_law_walk" s__law_walk f fd ∧ fd.defaults = .none
  d__law_reading : ∃ (f : Addr) (fd : FuncData), Def K mg "_law_reading" s__law_reading f fd ∧ fd.defaults = .none
  d__law_times : ∃ (f : Addr) (fd : FuncData), Def K mg "_law_times" s__law_times f fd ∧ fd.defaults = .none
  d__law_read_so : ∃ (f : Addr) (fd : FuncData), Def K mg "_law_read_so" s__law_read_so f fd ∧ fd.defaults = .none
  d_Hours___init__ : ∃ (f : Addr) (fd : FuncData), Mk K CH f ∧ C8.Fun K "__init__" "Hours.__init__" s_Hours___init__ f fd ∧ fd.defaults = .none
  d_Hours_best : ∃ (f : Addr) (fd : FuncData), Meth K CH "best" f ∧ C8.Fun K "best" "Hours.best" s_Hours_best f fd ∧ fd.defaults = .none
  d_Hours_then : ∃ (f : Addr) (fd : FuncData), Meth K CH "then" f ∧ C8.Fun K "then" "Hours.then" s_Hours_then f fd ∧ fd.defaults = .none
  d_Hours_is_value : ∃ (f : Addr) (fd : FuncData), Meth K CH "is_value" f ∧ C8.Fun K "is_value" "Hours.is_value" s_Hours_is_value f fd ∧ fd.defaults = .none
  d_law : ∃ (f : Addr) (fd : FuncData), Def K mg "law" s_law f fd ∧ fd.defaults = .none
  all : mg "all" = none
  any : mg "any" = none
  bool : mg "bool" = none
  dict : mg "dict" = none
  divmod : mg "divmod" = none
  enumerate : mg "enumerate" = none
  int : mg "int" = none
  isinstance : mg "isinstance" = none
  len : mg "len" = none
  list : mg "list" = none
  max : mg "max" = none
  min : mg "min" = none
  range : mg "range" = none
  reversed : mg "reversed" = none
  str : mg "str" = none
  tuple : mg "tuple" = none
  zip : mg "zip" = none
  m_LONGEST_DAY : ∃ u, mg "LONGEST_DAY" = some u ∧ RelV (.int 96) u
end Fb

set_option Elab.async false
set_option linter.all false
set_option maxRecDepth 100000
set_option maxHeartbeats 4000000
namespace Fb
open PySem PySem.Spec L2
open PyProof.Rows hiding St
open C8 (Cal Met Mak Def cal0 met0 mak0 pe_c pe_mk pe_mt pe_mt0 fnScope fnBody fnArgs pss_cut tCut)
local macro_rules | `(tactic| walk_at "hp") => `(tactic| first | exact upd_same | assumption | (refine grow (by assumption) _ _ ?_; walk_at "hp") | (refine (show Same _ _ by assumption) _ _ ?_; walk_at "hp"))
local macro_rules | `(tactic| walk_at "sm") => `(tactic| first | exact Same.refl _ | assumption | (refine Same.trans ?_ (grow (by assumption)); walk_at "sm") | (refine Same.trans ?_ (show Same _ _ by assumption); walk_at "sm"))
section
variable {P : Program} {w : World} {K : PySem.W.Frag} {mg : Str → Option Value} {base : Heap}
variable {CH : Addr}
/-! ### _law_bag -/
theorem cut_ints (ns : List Int) (lo hi : Option Int) : ∃ ms : List Int, cutV (ns.map V.int) lo hi = ms.map V.int := by
  unfold cutV
  rw [← List.map_drop, ← List.map_take]
  exact ⟨_, rfl⟩
def spBag (K : PySem.W.Frag) : Sp := sp1 fun a H Q => ∃ (l : Addr) (ns : List Int), a = .ref l ∧ SqL K H l (ns.map V.int) ∧ ∀ p H', Same H H' → BagAt H' p → Q (.ref p) H'
theorem c__law_bag (T : Top K mg CH) : Cal P w K mg base 1 "_law_bag" (spBag K) [] := by
  obtain ⟨f, fd, F, df⟩ := T.d__law_bag
  refine cal_of F df (fn1 F sc__law_bag fun cdv A outer s H a Q E hr h => ?_) fun _ _ _ _ _ _ us hl => match us, hl with | [_], _ => rfl
  have nd := sc__law_bag.nd
  obtain ⟨l, ns, rfl, hs, k⟩ := h
  refine ⟨_, pss_bagNew (pss_cons 
      (ps_set (i := 1) nd rfl (Or.inl rfl) pe_int) (pss_cons 
      (ps_for PassesOwn.never rfl (pi_K (K := K) rfl (pe_slice (sl_K (K := K) rfl) (pv 0) po_none (po_some pe_int))) (pg_name (i := 2) nd rfl (Or.inl rfl)) (pss_one 
      (ps_set (i := 1) nd rfl (Or.inl rfl) (pe_op op_mod (pe_callTy call_int1 (by rfl) T.int (by decide +kernel) (pa_cons (pe_op op_addU (pe_op op_addU (pe_op op_mul (pv 1) pe_int) (pe_op op_mul (pe_op op_mod (pe_callTy call_int1 (by rfl) T.int (by decide +kernel) (pa_cons (pv 2) pa_nil)) pe_int) pe_int)) pe_int) pa_nil)) pe_int)))) (pss_one 
      (ps_ret (pe_lst (pa_cons (pe_callTy (listOf_K (K := K) rfl) (by rfl) T.list (by decide +kernel) (pa_cons (pe_slice (sl_K (K := K) rfl) (pv 0) po_none (po_some pe_int)) pa_nil)) (pa_cons pe_int (pa_cons pe_int (pa_cons (pv 1) (pa_cons pe_int pa_nil)))))))))), ?_⟩
  -- for lump in script[:63]
  refine ⟨_, rfl, _, rfl, .inl ⟨l, _, rfl, hs, fun c nc => .inl ⟨c, rfl, ⟨_, SqL.of upd_same⟩, ?_⟩⟩⟩
  obtain ⟨ms, em⟩ := cut_ints ns none (some 63)
  rw [em]
  refine for_it (walk_list (xs := ms.map V.int)) (fun i σ H' => H' = upd H c (.lst (ms.map V.int)) ∧ ∃ (st : Int) (y : Option V), σ = [some (.ref l), some (.int st), y] ∧ 0 ≤ st ∧ st < 2147483629) ⟨rfl, _, _, rfl, by decide, by decide⟩ ?_ ?_ ?_
  · rintro i σ H' _ ⟨rfl, _⟩
    exact SqL.of upd_same
  · rintro i x σ H1 H2 hi ⟨rfl, st, y, rfl, s0, s1⟩ ⟨rfl, hx⟩
    obtain ⟨z, rfl⟩ : ∃ z, x = V.int z := by
      rw [List.getElem?_map] at hx
      cases e : ms[i]? with
      | none =>
        rw [e] at hx
        cases hx
      | some z =>
        rw [e] at hx
        exact ⟨z, (Option.some.inj hx).symm⟩
    refine ⟨_, rfl, _, _, rfl, rfl, .inr ⟨by decide, by decide⟩, _, rfl, .inl ⟨_, rfl, _, _, rfl, rfl, (by show (0 : Int) < _; decide), _, _, rfl, rfl, .inr ⟨by decide, by decide⟩, .inl ⟨_, _, rfl, rfl, .inl ⟨_, _, rfl, rfl, .inl ⟨_, rfl, _, _, rfl, rfl, (by show (0 : Int) < _; decide), ?_⟩⟩⟩⟩⟩
    exact ⟨rfl, _, _, rfl, Int.emod_nonneg _ (by decide), Int.emod_lt_of_pos _ (by decide)⟩
  · rintro σ H' ⟨rfl, st, y, rfl, s0, s1⟩
    -- return [list(script[:63]), 0, 0, stir, 0]
    have e1 : Same H (upd H c (.lst (ms.map V.int))) := grow nc
    refine ⟨_, rfl, _, rfl, .inl ⟨l, _, rfl, e1.seq hs, fun c2 n2 => ?_⟩⟩
    rw [em]
    refine ⟨c2, _, rfl, .inl (SqL.of upd_same), fun q nq => ⟨_, rfl, (by show 5 ≤ sizeLine; decide), fun p np => ?_⟩⟩
    have e2 := e1.trans (grow (o := .lst (ms.map V.int)) n2)
    have e3 := e2.trans (grow (o := .lst (ms.map V.int)) nq)
    have npq : q ≠ p := ne_of_none upd_same np
    refine ⟨p, q, rfl, 0, 0, st, 0, ⟨by decide, s0, s1⟩, upd_same, ?_⟩
    rw [upd_upd]
    refine k p _ (same_mut e3 (e3.free np)) ⟨q, ms, upd_same, ?_⟩
    rw [upd_ne npq, upd_same]

end
end Fb

set_option Elab.async false
set_option linter.all false
set_option maxRecDepth 100000
set_option maxHeartbeats 4000000
namespace Fb
open PySem PySem.Spec L2
open PyProof.Rows hiding St
open C8 (Cal Met Mak Def cal0 met0 mak0 pe_c pe_mk pe_mt pe_mt0 fnScope fnBody fnArgs pss_cut tCut)
local macro_rules | `(tactic| walk_at "hp") => `(tactic| first | exact upd_same | assumption | (refine grow (by assumption) _ _ ?_; walk_at "hp") | (refine (show Same _ _ by assumption) _ _ ?_; walk_at "hp"))
local macro_rules | `(tactic| walk_at "sm") => `(tactic| first | exact Same.refl _ | assumption | (refine Same.trans ?_ (grow (by assumption)); walk_at "sm") | (refine Same.trans ?_ (show Same _ _ by assumption); walk_at "sm"))
section
variable {P : Program} {w : World} {K : PySem.W.Frag} {mg : Str → Option Value} {base : Heap}
variable {CH : Addr}
/-! ### _law_draw -/
def spDraw : Sp := sp2 fun a b H Q => ∃ (p : Addr) (n : Int), a = .ref p ∧ b = .int n ∧ BagAt H p ∧ 0 < n ∧ n.natAbs.log2 < 9000 ∧ ∀ d : Int, 0 ≤ d → d < n → Q (.int d) H
theorem c__law_draw (T : Top K mg CH) : Cal P w K mg base 1 "_law_draw" spDraw [] := by
  obtain ⟨f, fd, F, df⟩ := T.d__law_draw
  refine cal_of F df (fn2 F sc__law_draw fun cdv A outer s H a b Q E hr h => ?_) fun _ _ _ _ _ _ us hl => match us, hl with | [_, _], _ => rfl
  have nd := sc__law_draw.nd
  obtain ⟨p, n, rfl, rfl, ⟨q, ns, hp, hq⟩, h0, h9, k⟩ := h
  have npq : q ≠ p := fun e => by
    rw [e, hp] at hq
    cases hq
  have hq' : ∀ L, upd H p (.lst L) q = some (.lst (ns.map V.int)) := fun L => by
    rw [upd_ne npq]
    exact hq
  refine ⟨_, pss_bag (pss_cons 
      (ps_asg (pe_op op_addU (pe_ix (ix_K (K := K) rfl) (pv 0) pe_int (fun _ _ => rfl)) pe_int) (pg_sub (pv 0) pe_int set_list)) (pss_cut 
      (ps_if (PW.pt (pw_and (pt_cmpR (eq_K (K := K) rfl hr) (pe_ix (ix_K (K := K) rfl) (pv 0) pe_int (fun _ _ => rfl)) pe_int (nomark _)) (pw_and1 (pt_cmpR (lt_K (K := K) rfl hr) (pe_ix (ix_K (K := K) rfl) (pv 0) pe_int (fun _ _ => rfl)) (pe_callB (len_K (K := K) rfl) (by rfl) T.len (by decide +kernel) (pa_cons (pe_ix (ix_K (K := K) rfl) (pv 0) pe_int (fun _ _ => rfl)) pa_nil)) (nomark _))))) (pss_cons 
      (ps_set (i := 2) nd rfl (Or.inl rfl) (pe_callTy call_int1 (by rfl) T.int (by decide +kernel) (pa_cons (pe_ix (ix_K (K := K) rfl) (pe_ix (ix_K (K := K) rfl) (pv 0) pe_int (fun _ _ => rfl)) (pe_ix (ix_K (K := K) rfl) (pv 0) pe_int (fun _ _ => rfl)) (fun _ _ => rfl)) pa_nil))) (pss_cons 
      (ps_asg (pe_op op_addU (pe_ix (ix_K (K := K) rfl) (pv 0) pe_int (fun _ _ => rfl)) pe_int) (pg_sub (pv 0) pe_int set_list)) (pss_one 
      (ps_if (pt_cmpR op_geU (pv 2) (pe_op op_pow pe_int pe_int) (nomark _)) (pss_one 
      (ps_asg (pv 2) (pg_sub (pv 0) pe_int set_list))) (pss_one 
      (ps_asg (pe_op op_mod (pe_callTy call_int1 (by rfl) T.int (by decide +kernel) (pa_cons (pe_op op_addU (pe_op op_addU (pe_op op_mul (pe_ix (ix_K (K := K) rfl) (pv 0) pe_int (fun _ _ => rfl)) pe_int) (pe_op op_mul (pe_op op_mod (pv 2) pe_int) pe_int)) pe_int) pa_nil)) pe_int) (pg_sub (pv 0) pe_int set_list))))))) pss_nil) (pss_cons 
      (ps_if (pt_cmpR op_gtU (pe_ix (ix_K (K := K) rfl) (pv 0) pe_int (fun _ _ => rfl)) pe_int (nomark _)) (pss_cons 
      (ps_set (i := 3) nd rfl (Or.inl rfl) (pe_op op_mod (pe_callTy call_int1 (by rfl) T.int (by decide +kernel) (pa_cons (pe_ix (ix_K (K := K) rfl) (pv 0) pe_int (fun _ _ => rfl)) pa_nil)) (pv 1))) (pss_cons 
      (ps_asg (pe_op op_fdivW (pe_ix (ix_K (K := K) rfl) (pv 0) pe_int (fun _ _ => rfl)) (pv 1)) (pg_sub (pv 0) pe_int set_list)) (pss_one 
      (ps_ret (pv 3))))) pss_nil) (pss_cons 
      (ps_asg (pe_op op_mod (pe_callTy call_int1 (by rfl) T.int (by decide +kernel) (pa_cons (pe_op op_addU (pe_op op_addU (pe_op op_pow (pe_ix (ix_K (K := K) rfl) (pv 0) pe_int (fun _ _ => rfl)) pe_int) (pe_op op_mul (pe_ix (ix_K (K := K) rfl) (pv 0) pe_int (fun _ _ => rfl)) pe_int)) pe_int) pa_nil)) pe_int) (pg_sub (pv 0) pe_int set_list)) (pss_one 
      (ps_ret (pe_op op_mod (pe_callTy call_int1 (by rfl) T.int (by decide +kernel) (pa_cons (pe_op op_addU (pe_op op_fdivW (pe_ix (ix_K (K := K) rfl) (pv 0) pe_int (fun _ _ => rfl)) pe_int) (pe_op op_mul (pe_op op_mod (pe_callTy call_int1 (by rfl) T.int (by decide +kernel) (pa_cons (pe_ix (ix_K (K := K) rfl) (pv 0) pe_int (fun _ _ => rfl)) pa_nil)) pe_int) pe_int)) pa_nil)) (pv 1)))))))), ?_⟩
  refine ⟨p, q, hp, fun i c st t bk => ?_⟩
  obtain ⟨bi, b0, b1⟩ := id bk
  have md : ∀ x m : Int, 0 < m → m < 2147483629 → 0 ≤ x % m ∧ x % m < 2147483629 := fun x m h1 h2 =>
    ⟨Int.emod_nonneg _ (by omega), Int.lt_trans (Int.emod_lt_of_pos _ h1) h2⟩
  -- bag[4] = bag[4] + 1
  refine ⟨_, rfl, rd_bag rfl (.inl ⟨_, _, rfl, rfl, ⟨_, rfl, set_bag rfl ?_⟩⟩)⟩
  -- behind the first if: a bag, whatever it holds
  refine ⟨fun σ H' => ∃ i c st t y, BagOk i st ∧ H' = upd H p (.lst (bagL q i c st t)) ∧ σ = [some (.ref p), some (.int n), y, none], ?_, ?_⟩
  -- if bag[2] == 0 and ..
  · refine ⟨_, rfl, rd_bag rfl (.inl ⟨rfl, _, rfl, ite2 (fun ec => ?_) (fun ec => ?_)⟩)⟩
    · refine ⟨_, rfl, rd_bag rfl ⟨_, rfl, rd_bag rfl (.inl ⟨q, _, rfl, .inl (SqL.of (hq' _)), .inl ⟨_, _, rfl, rfl, _, rfl, ite2 (fun ei => ?_) (fun ei => ?_)⟩⟩)⟩⟩
      · have ei := of_decide_eq_true ei
        rw [List.length_map] at ei
        obtain ⟨j, rfl⟩ := Int.eq_ofNat_of_zero_le bi
        have hj : j < ns.length := by omega
        have gj : atI (ns.map V.int) (j : Int) = some (.int ns[j]) := atI_nat (by rw [List.getElem?_map, List.getElem?_eq_getElem hj]; rfl)
        -- lump = int(bag[0][bag[1]]); bag[1] = bag[1] + 1
        refine ⟨_, rfl, rd_bag rfl ⟨_, rfl, rd_bag rfl (.inl ⟨q, _, _, _, rfl, rfl, SqL.of (hq' _), gj, .inl ⟨_, rfl, ?_⟩⟩)⟩⟩
        refine ⟨_, rfl, rd_bag rfl (.inl ⟨_, _, rfl, rfl, ⟨_, rfl, set_bag rfl ?_⟩⟩)⟩
        refine ⟨_, rfl, _, _, rfl, rfl, ⟨by decide, by decide, by decide⟩, _, _, rfl, rfl, _, rfl, ite2 (fun el => ?_) (fun el => ?_)⟩
        · refine ⟨_, rfl, _, rfl, set_bag rfl ?_⟩
          exact ⟨(j : Int) + 1, ns[j], st, t + 1, _, ⟨by omega, b0, b1⟩, rfl, rfl⟩
        · refine ⟨_, rfl, rd_bag rfl ⟨_, _, rfl, rfl, .inr ⟨by decide, by decide⟩, _, rfl, _, _, rfl, rfl, (by show (0 : Int) < _; decide), _, _, rfl, rfl, .inr ⟨by decide, by decide⟩, .inl ⟨_, _, rfl, rfl, .inl ⟨_, _, rfl, rfl, .inl ⟨_, rfl, _, _, rfl, rfl, (by show (0 : Int) < _; decide), _, rfl, set_bag rfl ?_⟩⟩⟩⟩⟩
          obtain ⟨m1, m2⟩ := md (st * 69621 + ns[j] % 2147483549 * 271 + 97) 2147483579 (by decide) (by decide)
          exact ⟨(j : Int) + 1, c, _, t + 1, _, ⟨by omega, m1, m2⟩, rfl, rfl⟩
      · exact ⟨i, c, st, t + 1, _, bk, rfl, rfl⟩
    · exact iteF ⟨i, c, st, t + 1, _, bk, rfl, rfl⟩
  · rintro σ H' ⟨i, c, st, t, y, ⟨bi, b0, b1⟩, rfl, rfl⟩
    -- if bag[2] > 0
    refine ⟨_, rfl, rd_bag rfl ⟨_, _, rfl, rfl, _, rfl, ite2 (fun ec => ?_) (fun ec => ?_)⟩⟩
    · refine ⟨_, rfl, rd_bag rfl (.inl ⟨_, rfl, _, rfl, _, _, rfl, rfl, h0, ?_⟩)⟩
      refine ⟨_, rfl, rd_bag rfl ⟨_, rfl, _, _, rfl, rfl, ⟨h0, h9⟩, _, rfl, set_bag rfl ?_⟩⟩
      exact ⟨_, rfl, shut_bag hp ⟨bi, b0, b1⟩ (k _ (Int.emod_nonneg _ (by omega)) (Int.emod_lt_of_pos _ h0))⟩
    · refine ⟨_, rfl, rd_bag rfl ⟨_, _, rfl, rfl, ⟨by decide, by decide, by omega⟩, _, rfl, rd_bag rfl ⟨_, _, rfl, rfl, .inr ⟨by decide, by decide⟩, .inl ⟨_, _, rfl, rfl, .inl ⟨_, _, rfl, rfl, .inl ⟨_, rfl, _, _, rfl, rfl, (by show (0 : Int) < _; decide), _, rfl, set_bag rfl ?_⟩⟩⟩⟩⟩⟩
      obtain ⟨m1, m2⟩ := md (st ^ (3 : Int).toNat + t * 1299709 + 60013) 2147483579 (by decide) (by decide)
      refine ⟨_, rfl, rd_bag rfl ⟨_, _, rfl, rfl, ⟨by decide, by decide⟩, _, rfl, rd_bag rfl (.inl ⟨_, rfl, _, _, rfl, rfl, (by show (0 : Int) < _; decide), _, _, rfl, rfl, .inr ⟨by decide, by decide⟩, .inl ⟨_, _, rfl, rfl, .inl ⟨_, rfl, _, rfl, _, _, rfl, rfl, h0, ?_⟩⟩⟩)⟩⟩
      exact shut_bag hp ⟨bi, m1, m2⟩ (k _ (Int.emod_nonneg _ (by omega)) (Int.emod_lt_of_pos _ h0))

end
end Fb

set_option Elab.async false
set_option linter.all false
set_option maxRecDepth 100000
set_option maxHeartbeats 4000000
namespace Fb
open PySem PySem.Spec L2
open PyProof.Rows hiding St
open C8 (Cal Met Mak Def cal0 met0 mak0 pe_c pe_mk pe_mt pe_mt0 fnScope fnBody fnArgs pss_cut tCut)
local macro_rules | `(tactic| walk_at "hp") => `(tactic| first | exact upd_same | assumption | (refine grow (by assumption) _ _ ?_; walk_at "hp") | (refine (show Same _ _ by assumption) _ _ ?_; walk_at "hp"))
local macro_rules | `(tactic| walk_at "sm") => `(tactic| first | exact Same.refl _ | assumption | (refine Same.trans ?_ (grow (by assumption)); walk_at "sm") | (refine Same.trans ?_ (show Same _ _ by assumption); walk_at "sm"))
section
variable {P : Program} {w : World} {K : PySem.W.Frag} {mg : Str → Option Value} {base : Heap}
variable {CH : Addr}
/-! ### _law_of -/
def spOf (K : PySem.W.Frag) : Sp := sp2 fun a b H Q => ∃ (p : Addr), a = .ref p ∧ BagAt H p ∧
  ((∃ (l : Addr) (xs : List V), b = .ref l ∧ (SqL K H l xs ∨ SqT K H l xs) ∧ 0 < xs.length ∧ xs.length ≤ 100000 ∧ ∀ x ∈ xs, Q x H) ∨
    ∃ z : Str, b = .str z ∧ 0 < z.length ∧ z.length ≤ 100000 ∧ ∀ c ∈ z.cps.toList, Q (.str ⟨#[c]⟩) H)
theorem c__law_of (T : Top K mg CH) : Cal P w K mg base 2 "_law_of" (spOf K) [] := by
  obtain ⟨f, fd, F, df⟩ := T.d__law_of
  refine cal_of F df (fn2 F sc__law_of fun cdv A outer s H a b Q E hr h => ?_) fun _ _ _ _ _ _ us hl => match us, hl with | [_, _], _ => rfl
  have nd := sc__law_of.nd
  obtain ⟨p, rfl, hb, h⟩ := h
  refine ⟨_, (pss_one 
      (ps_ret (pe_ix (ix_K (K := K) rfl) (pv 1) (pe_c (c__law_draw T) hr (by decide) (by rfl) (pa_cons (pv 0) (pa_cons (pe_callB (len_K (K := K) rfl) (by rfl) T.len (by decide +kernel) (pa_cons (pv 1) pa_nil)) pa_nil))) (fun _ _ => rfl)))), ?_⟩
  rcases h with ⟨l, xs, rfl, hs, h0, h1, q⟩ | ⟨z, rfl, h0, h1, q⟩
  · refine ⟨_, rfl, _, rfl, _, rfl, .inl ⟨l, xs, rfl, hs, _, _, rfl, p, _, rfl, rfl, hb, by omega, small_log (by omega) (by omega), fun d d0 d1 => ?_⟩⟩
    obtain ⟨j, rfl⟩ := Int.eq_ofNat_of_zero_le d0
    have hj : j < xs.length := by omega
    have g : atI xs (j : Int) = some xs[j] := atI_nat (List.getElem?_eq_getElem hj)
    have k := q _ (List.getElem_mem hj)
    rcases hs with hs | hs
    · exact .inl ⟨l, xs, _, _, rfl, rfl, hs, g, k⟩
    · exact .inr (.inl ⟨l, xs, _, _, rfl, rfl, hs, g, k⟩)
  · refine ⟨_, rfl, _, rfl, _, rfl, .inr ⟨z, rfl, size5' h1, _, _, rfl, p, _, rfl, rfl, hb, by omega, small_log (by omega) (by omega), fun d d0 d1 => ?_⟩⟩
    obtain ⟨j, rfl⟩ := Int.eq_ofNat_of_zero_le d0
    have hj : j < z.cps.toList.length := by
      have : z.length = z.cps.size := rfl
      rw [← str_len]
      omega
    exact .inr (.inr ⟨z, _, _, rfl, rfl, size5' h1, atI_nat (List.getElem?_eq_getElem hj), q _ (List.getElem_mem hj)⟩)

end
end Fb

set_option Elab.async false
set_option linter.all false
set_option maxRecDepth 100000
set_option maxHeartbeats 4000000
namespace Fb
open PySem PySem.Spec L2
open PyProof.Rows hiding St
open C8 (Cal Met Mak Def cal0 met0 mak0 pe_c pe_mk pe_mt pe_mt0 fnScope fnBody fnArgs pss_cut tCut)
local macro_rules | `(tactic| walk_at "hp") => `(tactic| first | exact upd_same | assumption | (refine grow (by assumption) _ _ ?_; walk_at "hp") | (refine (show Same _ _ by assumption) _ _ ?_; walk_at "hp"))
local macro_rules | `(tactic| walk_at "sm") => `(tactic| first | exact Same.refl _ | assumption | (refine Same.trans ?_ (grow (by assumption)); walk_at "sm") | (refine Same.trans ?_ (show Same _ _ by assumption); walk_at "sm"))
section
variable {P : Program} {w : World} {K : PySem.W.Frag} {mg : Str → Option Value} {base : Heap}
variable {CH : Addr}
/-! ### is_number -/
def spIsNumber (K : PySem.W.Frag) : Sp := sp3 fun a b c H Q => ∃ (l : Int) (h : Option Int), AnyV K H a ∧ b = .int l ∧ c = (match h with | none => .non | some m => .int m) ∧ Q (.bl (numB a l h)) H
theorem ok_is_number (T : Top K mg CH) {f : Addr} {fd : FuncData} (F : Def K mg "is_number" s_is_number f fd) : FnOk P w K mg base C8.CX0 1 f fd ["value", "least", "most"] (spIsNumber K) := by
  refine fn3 F sc_is_number fun cdv A outer s H a b c Q E hr h => ?_
  have nd := sc_is_number.nd
  obtain ⟨l, h, ha, rfl, rfl, q⟩ := h
  refine ⟨_, (pss_cons 
      (ps_if (PW.pt (pw_or (pt_not (pt_val (pe_callB (isi_K (K := K) rfl) (by rfl) T.isinstance (by decide +kernel) (pa_cons (pv 0) (pa_cons (pe_bltn (v := .ty "int") (by rfl) T.int (by decide +kernel) rfl) pa_nil))))) (pw_or1 (pt_val (pe_callB (isi_K (K := K) rfl) (by rfl) T.isinstance (by decide +kernel) (pa_cons (pv 0) (pa_cons (pe_bltn (v := .ty "bool") (by rfl) T.bool (by decide +kernel) rfl) pa_nil))))))) (pss_one 
      (ps_ret pe_bl)) pss_nil) (pss_one 
      (ps_ret (pe_and (pe_cmpR op_geU (pv 0) (pv 1) (nomark _)) (pe_one (pe_or (pe_cmpR op_isN (pv 2) pe_non (nomark _)) (pe_one (pe_cmpR op_leU (pv 0) (pv 2) (nomark _))))))))), ?_⟩
  rcases ha.intOr with ⟨i, rfl⟩ | ⟨b, rfl⟩ | ⟨no, t, ty, kb⟩
  · refine ⟨_, rfl, .inl ⟨_, _, _, true, rfl, .base (.int i), by decide +kernel, _, rfl, iteF ?_⟩⟩
    refine ⟨_, rfl, .inl ⟨_, _, _, false, rfl, .base (.int i), by decide +kernel, _, rfl, iteF ?_⟩⟩
    refine ⟨_, rfl, _, rfl, _, _, rfl, rfl, _, rfl, ite2 (fun e => ?_) (fun e => ?_)⟩
    · have e := of_decide_eq_true e
      cases h with
      | none =>
        refine ⟨_, rfl, rfl, _, rfl, iteT ?_⟩
        rw [show numB (.int i) l none = true by show (decide (l ≤ i) && true) = true; rw [decide_eq_true e]; rfl] at q
        exact q
      | some m =>
        refine ⟨_, rfl, rfl, _, rfl, iteF ⟨_, rfl, _, rfl, .inl ⟨_, _, rfl, rfl, ?_⟩⟩⟩
        rw [show numB (.int i) l (some m) = decide (i ≤ m) by show (decide (l ≤ i) && _) = _; rw [decide_eq_true e, Bool.true_and]] at q
        exact q
    · rw [show numB (.int i) l h = false by show (decide (l ≤ i) && _) = _; rw [decide_eq_false (fun z => e (decide_eq_true z)), Bool.false_and]] at q
      exact q
  · refine ⟨_, rfl, .inl ⟨_, _, _, true, rfl, .base (.bl b), by decide +kernel, _, rfl, iteF ?_⟩⟩
    exact ⟨_, rfl, .inl ⟨_, _, _, true, rfl, .base (.bl b), by decide +kernel, _, rfl, iteT q⟩⟩
  · rw [numB_no no] at q
    exact ⟨_, rfl, .inl ⟨_, _, _, false, rfl, ty, kb, _, rfl, iteT q⟩⟩

theorem c_is_number_2 (T : Top K mg CH) : Cal P w K mg base 1 "is_number" (spIsNumber K) [.non] := by
  obtain ⟨f, fd, F, D⟩ := T.d_is_number
  obtain ⟨ds, r, b⟩ := dfl_binds (ps := ["value", "least", "most"]) F D (by intro h; cases h) 2 1 rfl fun _ _ _ _ _ _ _ us its l1 l2 => match us, its, l1, l2 with | [_, _], [_, _], _, _ => ⟨_, rfl, rfl⟩
  exact ⟨f, fd, _, ds, ok_is_number T F, F.mgf, F.kp, b, r⟩
theorem c_is_number_3 (T : Top K mg CH) : Cal P w K mg base 1 "is_number" (spIsNumber K) [] := by
  obtain ⟨f, fd, F, D⟩ := T.d_is_number
  obtain ⟨ds, r, b⟩ := dfl_binds (ps := ["value", "least", "most"]) F D (by intro h; cases h) 3 2 rfl fun _ _ _ _ _ _ _ us its l1 l2 => match us, its, l1, l2 with | [_, _, _], [_, _], _, _ => ⟨_, rfl, rfl⟩
  exact ⟨f, fd, _, ds, ok_is_number T F, F.mgf, F.kp, b, r⟩

end
end Fb

set_option Elab.async false
set_option linter.all false
set_option maxRecDepth 100000
set_option maxHeartbeats 4000000
namespace Fb
open PySem PySem.Spec L2
open PyProof.Rows hiding St
open C8 (Cal Met Mak Def cal0 met0 mak0 pe_c pe_mk pe_mt pe_mt0 fnScope fnBody fnArgs pss_cut tCut)
local macro_rules | `(tactic| walk_at "hp") => `(tactic| first | exact upd_same | assumption | (refine grow (by assumption) _ _ ?_; walk_at "hp") | (refine (show Same _ _ by assumption) _ _ ?_; walk_at "hp"))
local macro_rules | `(tactic| walk_at "sm") => `(tactic| first | exact Same.refl _ | assumption | (refine Same.trans ?_ (grow (by assumption)); walk_at "sm") | (refine Same.trans ?_ (show Same _ _ by assumption); walk_at "sm"))
section
variable {P : Program} {w : World} {K : PySem.W.Frag} {mg : Str → Option Value} {base : Heap}
variable {CH : Addr}
/-! ### Hours.__init__ -/
def spInit (CH : Addr) : Sp := sp2 fun a b H Q => ∃ (p dx : Addr) (d : Nat), a = .ref p ∧ H p = some (.ins CH dx []) ∧ b = .int d ∧ 1 ≤ d ∧ d ≤ 96 ∧
  ∀ H' : Hp, (∀ c o, H c = some o → c ≠ p → H' c = some o) → HoursAt CH H' p d → Q .non H'
theorem c_Hours___init__ (T : Top K mg CH) : Mak P w K mg base 2 "Hours" CH (spInit CH) [] := by
  obtain ⟨f, fd, me, F, df⟩ := T.d_Hours___init__
  refine ⟨f, fd, ["self", "day"], [], me, ?_, T.g_Hours, F.binds df fun _ _ _ _ _ _ us hl => match us, hl with | [_, _], _ => rfl, .nil⟩
  refine fm2 F sc_Hours___init__ fun cdv A outer s H a b Q E hr h => ?_
  have nd := sc_Hours___init__.nd
  obtain ⟨p, dx, d, rfl, hp, rfl, d0, d1, k⟩ := h
  refine ⟨_, (pss_cons 
      (ps_if (pt_not (pt_val (pe_c (c_is_number_3 T) hr (by decide) (by rfl) (pa_cons (pv 1) (pa_cons pe_int (pa_cons (C8.pe_gc (v := .int 96) (by rfl) T.m_LONGEST_DAY) pa_nil)))))) (pss_one 
      ps_never) pss_nil) (pss_cons 
      (ps_fld (pv 0) (pv 1) rfl) (pss_one 
      (ps_fld (pv 0) (pe_tupRg rfl (by rfl) T.tuple (prg_1 (by rfl) T.range (pv 1))) rfl)))), ?_⟩
  refine ⟨_, rfl, _, _, _, rfl, 1, some 96, any_int _, rfl, rfl, _, rfl, ?_⟩
  rw [show numB (.int (d : Int)) 1 (some 96) = true by show (decide ((1 : Int) ≤ d) && decide ((d : Int) ≤ 96)) = true; rw [decide_eq_true (by omega), decide_eq_true (by omega)]; rfl]
  refine iteF ?_
  refine ⟨_, rfl, _, rfl, p, CH, dx, _, rfl, hp, T.cl_Hours, T.na_day, (by show 0 < 1000; decide), ?_⟩
  refine ⟨_, rfl, _, rfl, ⟨by omega, by omega, by omega, by omega, by omega⟩, fun t nt => ?_⟩
  have npt : p ≠ t := fun e => by
    rw [← e, upd_same] at nt
    cases nt
  have ft : H t = none := by
    rw [upd_ne npt.symm] at nt
    exact nt
  refine ⟨_, rfl, p, CH, dx, _, rfl, (by rw [upd_ne npt]; exact upd_same), T.cl_Hours, T.na_stay, (by show 1 < 1000; decide), ?_⟩
  refine k _ (fun c o e nc => ?_) ⟨dx, t, upd_same, by rw [upd_ne npt.symm, upd_same]⟩
  rw [upd_ne nc, upd_ne (ne_of_none e ft), upd_ne nc]
  exact e

end
end Fb

set_option Elab.async false
set_option linter.all false
set_option maxRecDepth 100000
set_option maxHeartbeats 4000000
namespace Fb
open PySem PySem.Spec L2
open PyProof.Rows hiding St
open C8 (Cal Met Mak Def cal0 met0 mak0 pe_c pe_mk pe_mt pe_mt0 fnScope fnBody fnArgs pss_cut tCut)
local macro_rules | `(tactic| walk_at "hp") => `(tactic| first | exact upd_same | assumption | (refine grow (by assumption) _ _ ?_; walk_at "hp") | (refine (show Same _ _ by assumption) _ _ ?_; walk_at "hp"))
local macro_rules | `(tactic| walk_at "sm") => `(tactic| first | exact Same.refl _ | assumption | (refine Same.trans ?_ (grow (by assumption)); walk_at "sm") | (refine Same.trans ?_ (show Same _ _ by assumption); walk_at "sm"))
section
variable {P : Program} {w : World} {K : PySem.W.Frag} {mg : Str → Option Value} {base : Heap}
variable {CH : Addr}
/-! ### _law_hours -/
def spLHours (K : PySem.W.Frag) : Sp := sp2 fun a b H Q => ∃ (p : Addr) (n : Nat), a = .ref p ∧ BagAt H p ∧ b = .int n ∧ 1 ≤ n ∧ n ≤ 96 ∧
  ∀ (H' : Hp) (v : V) (f : List Int), Same H H' → TupI K H' v f → f.length = n → (∀ x ∈ f, 0 ≤ x ∧ x ≤ 2000) → Q v H'
theorem c__law_hours (T : Top K mg CH) : Cal P w K mg base 3 "_law_hours" (spLHours K) [] := by
  obtain ⟨f, fd, F, df⟩ := T.d__law_hours
  refine cal_of F df (fn2 F sc__law_hours fun cdv A outer s H a b Q E hr h => ?_) fun _ _ _ _ _ _ us hl => match us, hl with | [_, _], _ => rfl
  have nd := sc__law_hours.nd
  obtain ⟨p, n, rfl, hb, rfl, h0, h1, k⟩ := h
  refine ⟨_, (pss_cons 
      (ps_set (i := 2) nd rfl (Or.inl rfl) (pe_lst pa_nil)) (pss_cut 
      (ps_set (i := 3) nd rfl (Or.inl rfl) (pe_ifExp (pt_cmpR op_gtU (pe_c (c__law_draw T) hr (by decide) (by rfl) (pa_cons (pv 0) (pa_cons pe_int pa_nil))) pe_int (nomark _)) (pe_c (c__law_draw T) hr (by decide) (by rfl) (pa_cons (pv 0) (pa_cons pe_int pa_nil))) (pe_c (c__law_draw T) hr (by decide) (by rfl) (pa_cons (pv 0) (pa_cons pe_int pa_nil))))) (pss_cons 
      (ps_for PassesOwn.never rfl (pi_range1 (by rfl) T.range (pa_cons (pv 1) pa_nil)) (pg_name (i := 4) nd rfl (Or.inl rfl)) (pss_cut 
      (ps_if (pt_cmpR op_gtU (pv 4) pe_int (nomark _)) (pss_cons 
      (ps_set (i := 3) nd rfl (Or.inl rfl) (pe_callB (call_max2 rfl) (by rfl) T.max (by decide +kernel) (pa_cons (pv 4) (pa_cons (pe_op op_addU (pv 3) (pe_c (c__law_of T) hr (by decide) (by rfl) (pa_cons (pv 0) (pa_cons (pe_lst (pa_cons pe_int (pa_cons pe_int (pa_cons pe_int (pa_cons pe_int (pa_cons pe_int (pa_cons pe_int (pa_cons pe_int (pa_cons (pv 1) pa_nil))))))))) pa_nil)))) pa_nil)))) (pss_one 
      (ps_set (i := 3) nd rfl (Or.inl rfl) (pe_callB (call_min2 rfl) (by rfl) T.min (by decide +kernel) (pa_cons (pv 3) (pa_cons (pe_op op_addU (pe_ix (ix_K (K := K) rfl) (pv 2) pe_int (fun _ _ => rfl)) (pv 1)) pa_nil)))))) pss_nil) (pss_one 
      (ps_expr (pe_bm PySem.F.plainAttrs_list PySem.F.slot_list_append PySem.F.type_list_append mt_append (pv 2) (pa_cons (pv 3) pa_nil)))))) (pss_one 
      (ps_ret (pe_callTy (tupleOf_K (K := K) rfl) (by rfl) T.tuple (by decide +kernel) (pa_cons (pv 2) pa_nil))))))), ?_⟩
  refine ⟨Nat.le_of_ble_eq_true rfl, fun q nq => ?_⟩
  have hb1 := hb.mono (grow (o := .lst []) nq)
  refine ⟨fun σ H' => H' = upd H q (.lst []) ∧ ∃ late : Int, 0 ≤ late ∧ late < 1000 ∧ ∃ y4, σ = [some (.ref p), some (.int n), some (.ref q), some (.int late), y4], ?_, ?_⟩
  · refine ⟨_, rfl, _, _, rfl, p, 8, rfl, rfl, hb1, by decide, small_log (by decide) (by decide), fun d d0 d1 => ⟨_, _, rfl, rfl, _, rfl, ite2 (fun _ => ?_) (fun _ => ?_)⟩⟩
    · exact ⟨_, rfl, _, _, rfl, p, 3, rfl, rfl, hb1, by decide, small_log (by decide) (by decide), fun d2 e0 e1 => ⟨rfl, d2, e0, by omega, _, rfl⟩⟩
    · exact ⟨_, rfl, _, _, rfl, p, 1000, rfl, rfl, hb1, by decide, small_log (by decide) (by decide), fun d2 e0 e1 => ⟨rfl, d2, e0, by omega, _, rfl⟩⟩
  rintro σ H0 ⟨rfl, late, l0, l1, y4, rfl⟩
  refine ⟨_, rfl, (n : Int), rfl, by omega, by omega, ?_⟩
  rw [show ((n : Nat) : Int).toNat = n from rfl]
  refine for_it walk_range (fun i σ H' => Same H H' ∧ ∃ (late : Int) (f : List Int), H' q = some (.lst (f.map V.int)) ∧ f.length = i ∧ (∀ x ∈ f, 0 ≤ x ∧ x ≤ 2000) ∧ 0 ≤ late ∧ late ≤ 2000 ∧ (i = 0 → late < 1000) ∧ (0 < i → 0 ≤ f.getD 0 0 ∧ f.getD 0 0 < 1000) ∧ ∃ y4, σ = [some (.ref p), some (.int n), some (.ref q), some (.int late), y4])
    ⟨grow nq, late, [], upd_same, rfl, (fun x hx => by cases hx), l0, by omega, fun _ => l1, (fun h => absurd h (by decide)), _, rfl⟩ (fun _ _ _ _ _ => trivial) ?_ ?_
  · rintro i x σ H1 H2 hi ⟨e, late, f, hq, lf, pf, l0, l1, li, lh, y4, rfl⟩ ⟨rfl, hx⟩
    have hx : x = V.int (i : Nat) := hx.trans (congrArg V.int (Int.zero_add _))
    subst hx
    have hb2 := hb.mono e
    refine ⟨fun σ' H' => Same H2 H' ∧ ∃ late : Int, 0 ≤ late ∧ late ≤ 2000 ∧ (i = 0 → late < 1000) ∧ σ' = [some (.ref p), some (.int n), some (.ref q), some (.int late), some (.int (i : Nat))], ?_, ?_⟩
    · refine ⟨_, rfl, _, _, rfl, rfl, _, rfl, ite2 (fun hk => ?_) (fun hk => ?_)⟩
      · have hk := of_decide_eq_true hk
        obtain ⟨f0, f1⟩ := lh (by omega)
        refine ⟨_, rfl, _, rfl, _, rfl, _, rfl, Nat.le_of_ble_eq_true rfl, fun c nc => ?_⟩
        refine ⟨_, _, rfl, p, rfl, hb2.mono (grow nc), .inl ⟨c, _, rfl, .inl (SqL.of upd_same), Nat.le_of_ble_eq_true rfl, Nat.le_of_ble_eq_true rfl, fun x hx => ?_⟩⟩
        obtain ⟨m, rfl, m0, m1⟩ : ∃ m : Int, x = .int m ∧ 0 ≤ m ∧ m ≤ 96 := by
          simp only [List.mem_cons, List.not_mem_nil, or_false] at hx
          rcases hx with rfl | rfl | rfl | rfl | rfl | rfl | rfl | rfl
          all_goals exact ⟨_, rfl, by omega, by omega⟩
        refine .inl ⟨_, _, rfl, rfl, _, _, rfl, ?_⟩
        refine ⟨_, rfl, _, rfl, .inl ⟨q, _, 0, _, rfl, rfl, SqL.of ((grow nc) _ _ hq), tup_at (by omega) (by omega), _, rfl, .inl ⟨_, _, rfl, rfl, _, _, rfl, ?_⟩⟩⟩
        have f0 : 0 ≤ f.getD (Int.toNat 0) 0 := f0
        have f1 : f.getD (Int.toNat 0) 0 < 1000 := f1
        generalize f.getD (Int.toNat 0) 0 = g at f0 f1
        refine ⟨grow nc, _, ?_, ?_, fun h => absurd h (by omega), rfl⟩
        · split <;> split <;> omega
        · split <;> split <;> omega
      · have hk : ¬ (0 : Int) < (i : Nat) := fun h => hk (decide_eq_true h)
        exact ⟨Same.refl _, late, l0, l1, li, rfl⟩
    · rintro σ' H3 ⟨e3, late, l0, l1, li, rfl⟩
      have hq3 := e3 _ _ hq
      refine ⟨_, rfl, .inl ⟨rfl, _, SqL.of hq3⟩, _, rfl, q, _, _, rfl, rfl, hq3, size5 (by rw [List.length_map]; omega), ?_⟩
      refine ⟨same_mut (e.trans e3) nq, late, f ++ [late], ?_, by rw [List.length_append, lf]; rfl, fun x hx => ?_, l0, l1, fun h => absurd h (by omega), fun _ => ?_, _, rfl⟩
      · rw [upd_same, List.map_append]
        rfl
      · rcases List.mem_append.mp hx with hx | hx
        · exact pf x hx
        · cases List.mem_singleton.mp hx
          exact ⟨l0, l1⟩
      · cases f with
        | nil =>
          have := li lf.symm
          exact ⟨l0, this⟩
        | cons a r =>
          exact lh (by rw [← lf]; exact Nat.succ_pos _)
  · rintro σ H1 ⟨e, late, f, hq, lf, pf, l0, l1, li, lh, y4, rfl⟩
    exact ⟨_, rfl, q, _, rfl, .inl ⟨SqL.of hq, fun c nc => k _ _ f (e.trans (grow nc)) ⟨c, rfl, SqT.of upd_same⟩ lf pf⟩⟩

end
end Fb

set_option Elab.async false
set_option linter.all false
set_option maxRecDepth 100000
set_option maxHeartbeats 4000000
namespace Fb
open PySem PySem.Spec L2
open PyProof.Rows hiding St
open C8 (Cal Met Mak Def cal0 met0 mak0 pe_c pe_mk pe_mt pe_mt0 fnScope fnBody fnArgs pss_cut tCut)
local macro_rules | `(tactic| walk_at "hp") => `(tactic| first | exact upd_same | assumption | (refine grow (by assumption) _ _ ?_; walk_at "hp") | (refine (show Same _ _ by assumption) _ _ ?_; walk_at "hp"))
local macro_rules | `(tactic| walk_at "sm") => `(tactic| first | exact Same.refl _ | assumption | (refine Same.trans ?_ (grow (by assumption)); walk_at "sm") | (refine Same.trans ?_ (show Same _ _ by assumption); walk_at "sm"))
section
variable {P : Program} {w : World} {K : PySem.W.Frag} {mg : Str → Option Value} {base : Heap}
variable {CH : Addr}
/-! ### _law_windows -/
def spLWin (K : PySem.W.Frag) : Sp := sp2 fun a b H Q => ∃ (p : Addr) (n : Nat), a = .ref p ∧ BagAt H p ∧ b = .int n ∧ 1 ≤ n ∧ n ≤ 96 ∧
  ∀ (H' : Hp) (v : V) ws, Same H H' → WinL K H' v ws → Q v H'
theorem c__law_windows (T : Top K mg CH) : Cal P w K mg base 3 "_law_windows" (spLWin K) [] := by
  obtain ⟨f, fd, F, df⟩ := T.d__law_windows
  refine cal_of F df (fn2 F sc__law_windows fun cdv A outer s H a b Q E hr h => ?_) fun _ _ _ _ _ _ us hl => match us, hl with | [_, _], _ => rfl
  have nd := sc__law_windows.nd
  obtain ⟨p, n, rfl, hb, rfl, h0, h1, k⟩ := h
  refine ⟨_, (pss_cons 
      (ps_if (pt_cmpR (eq_K (K := K) rfl hr) (pe_c (c__law_draw T) hr (by decide) (by rfl) (pa_cons (pv 0) (pa_cons pe_int pa_nil))) pe_int (nomark _)) (pss_one 
      (ps_ret pe_non)) pss_nil) (pss_cons 
      (ps_par (i := 3) (j := 4) rfl nd rfl rfl (by decide) rfl rfl (pa_cons (pe_lst pa_nil) (pa_cons (pe_c (c__law_draw T) hr (by decide) (by rfl) (pa_cons (pv 0) (pa_cons pe_int pa_nil))) pa_nil)) (by rfl)) (pss_cons 
      (ps_for PassesOwn.never rfl (pi_range1 (by rfl) T.range (pa_cons (pe_c (c__law_draw T) hr (by decide) (by rfl) (pa_cons (pv 0) (pa_cons pe_int pa_nil))) pa_nil)) (pg_name (i := 2) nd rfl (Or.inl rfl)) (pss_cons 
      (ps_set (i := 5) nd rfl (Or.inl rfl) (pe_op op_addU (pe_op op_addU (pv 4) pe_int) (pe_c (c__law_draw T) hr (by decide) (by rfl) (pa_cons (pv 0) (pa_cons pe_int pa_nil))))) (pss_cut 
      (ps_if (pt_cmpR (eq_K (K := K) rfl hr) (pe_c (c__law_draw T) hr (by decide) (by rfl) (pa_cons (pv 0) (pa_cons pe_int pa_nil))) pe_int (nomark _)) (pss_one 
      (ps_set (i := 5) nd rfl (Or.inl rfl) (pe_op op_addU (pv 5) (pe_c (c__law_draw T) hr (by decide) (by rfl) (pa_cons (pv 0) (pa_cons (pe_op op_addU (pv 1) pe_int) pa_nil)))))) pss_nil) (pss_cut 
      (ps_if (pt_cmpR op_leU (pv 5) pe_int (nomark _)) (pss_one 
      (ps_expr (pe_bm PySem.F.plainAttrs_list PySem.F.slot_list_append PySem.F.type_list_append mt_append (pv 3) (pa_cons (pe_tup (pa_cons (pv 4) (pa_cons (pv 5) pa_nil))) pa_nil)))) pss_nil) (pss_one 
      (ps_set (i := 4) nd rfl (Or.inl rfl) (pe_op op_addU (pe_op op_addU (pv 5) pe_int) (pe_c (c__law_draw T) hr (by decide) (by rfl) (pa_cons (pv 0) (pa_cons (pe_c (c__law_of T) hr (by decide) (by rfl) (pa_cons (pv 0) (pa_cons (pe_lst (pa_cons pe_int (pa_cons pe_int (pa_cons (pv 1) pa_nil)))) pa_nil))) pa_nil)))))))))) (pss_one 
      (ps_ret (pv 3)))))), ?_⟩
  refine ⟨_, rfl, _, _, rfl, p, 6, rfl, rfl, hb, by decide, small_log (by decide) (by decide), fun d d0 d1 => .inl ⟨rfl, _, rfl, ite2 (fun _ => ?_) (fun _ => ?_)⟩⟩
  · exact k H _ none (Same.refl _) (.inl ⟨rfl, rfl⟩)
  refine ⟨Nat.le_of_ble_eq_true rfl, fun q nq => ?_⟩
  have hb1 := hb.mono (grow (o := .lst []) nq)
  refine ⟨_, rfl, _, _, rfl, p, 3, rfl, rfl, hb1, by decide, small_log (by decide) (by decide), fun d2 _ _ => ⟨_, _, rfl, ?_⟩⟩
  refine ⟨_, rfl, _, _, rfl, p, 4, rfl, rfl, hb1, by decide, small_log (by decide) (by decide), fun d3 e0 e1 => ⟨d3, rfl, by omega, by omega, ?_⟩⟩
  refine for_it walk_range (fun i σ H' => Same H H' ∧ (∃ (l : List (Int × Int)) (xs : List V), H' q = some (.lst xs) ∧ DpAll K H' xs (dW l) ∧ xs.length = l.length ∧ l.length ≤ i) ∧ ∃ (at1 : Int) (y2 y5 : Option V), σ = [some (.ref p), some (.int n), y2, some (.ref q), some (.int at1), y5])
    ⟨grow nq, ⟨[], [], upd_same, .nil, rfl, Nat.le_refl _⟩, _, _, _, rfl⟩ (fun _ _ _ _ _ => trivial) ?_ ?_
  · rintro i x σ H1 H2 hi ⟨e, ⟨l, xs, hq, hx, lx, ll⟩, at1, y2, y5, rfl⟩ ⟨rfl, rfl⟩
    have hb2 := hb.mono e
    refine ⟨_, rfl, .inl ⟨_, _, rfl, rfl, _, rfl, _, _, rfl, p, 3, rfl, rfl, hb2, by decide, small_log (by decide) (by decide), fun d4 _ _ => .inl ⟨_, _, rfl, rfl, ?_⟩⟩⟩
    refine ⟨fun σ' H' => H' = H2 ∧ ∃ bh : Int, σ' = [some (.ref p), some (.int n), some (.int (0 + (i : Nat))), some (.ref q), some (.int at1), some (.int bh)], ?_, ?_⟩
    · refine ⟨_, rfl, _, _, rfl, p, 12, rfl, rfl, hb2, by decide, small_log (by decide) (by decide), fun d5 _ _ => .inl ⟨rfl, _, rfl, ite2 (fun _ => ?_) (fun _ => ?_)⟩⟩
      · exact ⟨_, rfl, _, rfl, _, rfl, .inl ⟨_, _, rfl, rfl, _, _, rfl, p, _, rfl, rfl, hb2, by omega, small_log (by omega) (by omega), fun d6 _ _ => .inl ⟨_, _, rfl, rfl, rfl, _, rfl⟩⟩⟩
      · exact ⟨rfl, _, rfl⟩
    rintro σ' H3 ⟨rfl, bh, rfl⟩
    refine ⟨fun σ' H' => Same H H' ∧ (∃ (l : List (Int × Int)) (xs : List V), H' q = some (.lst xs) ∧ DpAll K H' xs (dW l) ∧ xs.length = l.length ∧ l.length ≤ i + 1) ∧ σ' = [some (.ref p), some (.int n), some (.int (0 + (i : Nat))), some (.ref q), some (.int at1), some (.int bh)], ?_, ?_⟩
    · refine ⟨_, rfl, .inl ⟨_, _, rfl, rfl, _, rfl, ite2 (fun _ => ?_) (fun _ => ?_)⟩⟩
      · refine ⟨_, rfl, .inl ⟨rfl, _, SqL.of hq⟩, _, rfl, _, rfl, Nat.le_of_ble_eq_true rfl, fun c nc => ?_⟩
        have hq3 := (grow (o := .tup [.int at1, .int bh]) nc) _ _ hq
        refine ⟨q, _, _, rfl, rfl, hq3, size5 (by omega), ?_⟩
        have ncq : c ≠ q := fun z => by
          rw [z, hq] at nc
          cases nc
        refine ⟨same_mut (e.trans (grow nc)) nq, ⟨l ++ [(at1, bh)], xs ++ [.ref c], upd_same, ?_, by rw [List.length_append, List.length_append, lx]; rfl, by rw [List.length_append]; exact Nat.succ_le_succ ll⟩, rfl⟩
        rw [dW_snoc]
        exact dpAll_snoc (dW_upd hq3 (dpAll_mono (grow nc) _ hx)) (.tup (SqT.of (by rw [upd_ne ncq, upd_same])) (.cons (.int _) (.cons (.int _) .nil)))
      · exact ⟨e, ⟨l, xs, hq, hx, lx, by omega⟩, rfl⟩
    rintro σ' H4 ⟨e4, rest, rfl⟩
    refine ⟨_, rfl, .inl ⟨_, _, rfl, rfl, _, rfl, _, rfl, _, rfl, Nat.le_of_ble_eq_true rfl, fun c nc => ?_⟩⟩
    have hb5 := (hb.mono e4).mono (grow (o := .lst [.int 2, .int 3, .int n]) nc)
    refine ⟨_, _, rfl, p, rfl, hb5, .inl ⟨c, _, rfl, .inl (SqL.of upd_same), Nat.le_of_ble_eq_true rfl, Nat.le_of_ble_eq_true rfl, fun x hx => ?_⟩⟩
    obtain ⟨m, rfl, m0, m1⟩ : ∃ m : Int, x = .int m ∧ 0 < m ∧ m ≤ 96 := by
      simp only [List.mem_cons, List.not_mem_nil, or_false] at hx
      rcases hx with rfl | rfl | rfl
      all_goals exact ⟨_, rfl, by omega, by omega⟩
    refine ⟨_, _, rfl, p, m, rfl, rfl, hb5, m0, small_log (by omega) (by omega), fun d7 _ _ => .inl ⟨_, _, rfl, rfl, ?_⟩⟩
    obtain ⟨l, xs, hq, hx, lx, ll⟩ := rest
    exact ⟨e4.trans (grow nc), ⟨l, xs, (grow nc) _ _ hq, dpAll_mono (grow nc) _ hx, lx, ll⟩, _, _, _, rfl⟩
  · rintro σ H1 ⟨e, ⟨l, xs, hq, hx, lx, ll⟩, at1, y2, y5, rfl⟩
    exact ⟨_, rfl, k _ _ (some l) e (.inr ⟨l, q, xs, rfl, by omega, rfl, hq, hx⟩)⟩

end
end Fb

set_option Elab.async false
set_option linter.all false
set_option maxRecDepth 100000
set_option maxHeartbeats 4000000
namespace Fb
open PySem PySem.Spec L2
open PyProof.Rows hiding St
open C8 (Cal Met Mak Def cal0 met0 mak0 pe_c pe_mk pe_mt pe_mt0 fnScope fnBody fnArgs pss_cut tCut)
local macro_rules | `(tactic| walk_at "hp") => `(tactic| first | exact upd_same | assumption | (refine grow (by assumption) _ _ ?_; walk_at "hp") | (refine (show Same _ _ by assumption) _ _ ?_; walk_at "hp"))
local macro_rules | `(tactic| walk_at "sm") => `(tactic| first | exact Same.refl _ | assumption | (refine Same.trans ?_ (grow (by assumption)); walk_at "sm") | (refine Same.trans ?_ (show Same _ _ by assumption); walk_at "sm"))
section
variable {P : Program} {w : World} {K : PySem.W.Frag} {mg : Str → Option Value} {base : Heap}
variable {CH : Addr}
/-! ### _law_is_open -/
def spLIsOpen (K : PySem.W.Frag) : Sp := sp2 fun a b H Q => ∃ ws t, WinV K H a ws ∧ b = .int t ∧ Then H Q (.bl (openM ws t))
theorem c__law_is_open (T : Top K mg CH) : Cal P w K mg base 1 "_law_is_open" (spLIsOpen K) [] := by
  obtain ⟨f, fd, F, df⟩ := T.d__law_is_open
  refine cal_of F df (fn2 F sc__law_is_open fun cdv A outer s H a b Q E hr h => ?_) fun _ _ _ _ _ _ us hl => match us, hl with | [_, _], _ => rfl
  have nd := sc__law_is_open.nd
  obtain ⟨ws, t, hw, rfl, q⟩ := h
  refine ⟨_, (pss_one 
      (ps_ret (pe_or (pe_cmpR op_isN (pv 0) pe_non (nomark _)) (pe_one (pe_cmpR (ne_K (K := K) rfl hr) (pe_lc (own := [("x", 2)]) rfl nd (pi_K (K := K) rfl (pv 0)) (blkOk_by (N := ["wins", "t_y", "x"]) (sc := fnScope s__law_is_open) (by decide +kernel)) (fun _ _ _ _ _ => (pg_name (i := 2) nd rfl (Or.inl rfl))) (fun _ _ _ _ _ => (pts_one (PW.pt (pw_and (pt_cmpR op_leU (pe_ix (ix_K (K := K) rfl) (pv 2) pe_int (fun _ _ => rfl)) (pv 1) (nomark _)) (pw_and1 (pt_cmpR (lt_K (K := K) rfl hr) (pv 1) (pe_ix (ix_K (K := K) rfl) (pv 2) pe_int (fun _ _ => rfl)) (nomark _))))))) (fun _ _ _ _ _ => (pv 2))) (pe_lst pa_nil) (nomark _)))))), ?_⟩
  cases ws with
  | none =>
    cases hw.none
    exact ⟨_, rfl, rfl, _, rfl, iteT q.here⟩
  | some l =>
    obtain ⟨hl, W, xs, rfl, hs, hx, len⟩ := hw.some
    refine ⟨_, rfl, rfl, _, rfl, iteF ?_⟩
    rcases hs with hs | hs
    · refine ⟨_, rfl, .inl ⟨W, rfl, ⟨_, hs⟩, fun D hD => ?_⟩⟩
      refine lc_filt walk_list (fun i => decide ((l.getD i (0, 0)).1 ≤ t) && decide (t < (l.getD i (0, 0)).2)) (fun i => xs.getD i .non) grow_at (by omega) hD (fun H1 e => e.seq hs) ?_ ?_
      · rintro i x H1 H2 hi e ⟨rfl, g⟩ F R k1 k2
        obtain ⟨p, U, g1, rfl, sU⟩ := dW_get (dpAll_mono e _ hx) g
        have k1 := k1 H2 (Same.refl _)
        have k2 := k2 H2 (Same.refl _)
        rw [getD_of g1] at k1 k2
        rw [getD_of g] at k1
        refine ⟨rfl, _, rfl, .inr (.inl ⟨U, _, _, _, rfl, rfl, sU, at0, _, rfl, .inl ⟨_, _, rfl, rfl, _, rfl, ite2 (fun h1 => ?_) (fun h1 => ?_)⟩⟩)⟩
        · rw [h1, Bool.true_and] at k1 k2
          refine ⟨_, rfl, _, rfl, .inr (.inl ⟨U, _, _, _, rfl, rfl, sU, at1, .inl ⟨_, _, rfl, rfl, _, rfl, ?_⟩⟩)⟩
          cases o : decide (t < p.2) with
          | true => exact iteT ⟨_, rfl, k1 o⟩
          | false => exact iteF (k2 o)
        · rw [show decide (p.1 ≤ t) = false from (Bool.not_eq_true _).mp h1, Bool.false_and] at k2
          exact k2 rfl
      · intro H1 e hd
        refine ⟨Nat.zero_le _, fun p np => .inr ⟨.list (((List.range xs.length).filter fun i => decide ((l.getD i (0, 0)).1 ≤ t) && decide (t < (l.getD i (0, 0)).2)).map fun i => .tuple [.int (l.getD i (0, 0)).1, .int (l.getD i (0, 0)).2]), .list [], .lst (SqL.of ((grow np) _ _ hd)) (dpAll_map fun i hi => ?_), .lst (SqL.of upd_same) .nil, Nat.le_trans (Nat.min_le_right _ _) (by decide), ?_⟩⟩
        · have hi := List.mem_range.mp (List.mem_filter.mp hi).1
          have gx := List.getElem?_eq_getElem hi
          obtain ⟨d, g1, g2⟩ := dpAll_get hx gx
          unfold dW at g1
          rw [List.getElem?_map, List.getElem?_eq_getElem (show i < l.length by omega)] at g1
          cases g1
          rw [getD_of gx, getD_of (List.getElem?_eq_getElem (show i < l.length by omega))]
          exact dp_mono (e.trans (grow np)) _ g2
        · rw [eqv_list_nil, List.isEmpty_map, ← len, filt_open]
          exact q _ (e.trans (grow np))
    · refine ⟨_, rfl, .inr (.inl ⟨W, rfl, ⟨_, hs⟩, fun D hD => ?_⟩)⟩
      refine lc_filt walk_tup (fun i => decide ((l.getD i (0, 0)).1 ≤ t) && decide (t < (l.getD i (0, 0)).2)) (fun i => xs.getD i .non) grow_at (by omega) hD (fun H1 e => same_tup e hs) ?_ ?_
      · rintro i x H1 H2 hi e ⟨rfl, g⟩ F R k1 k2
        obtain ⟨p, U, g1, rfl, sU⟩ := dW_get (dpAll_mono e _ hx) g
        have k1 := k1 H2 (Same.refl _)
        have k2 := k2 H2 (Same.refl _)
        rw [getD_of g1] at k1 k2
        rw [getD_of g] at k1
        refine ⟨rfl, _, rfl, .inr (.inl ⟨U, _, _, _, rfl, rfl, sU, at0, _, rfl, .inl ⟨_, _, rfl, rfl, _, rfl, ite2 (fun h1 => ?_) (fun h1 => ?_)⟩⟩)⟩
        · rw [h1, Bool.true_and] at k1 k2
          refine ⟨_, rfl, _, rfl, .inr (.inl ⟨U, _, _, _, rfl, rfl, sU, at1, .inl ⟨_, _, rfl, rfl, _, rfl, ?_⟩⟩)⟩
          cases o : decide (t < p.2) with
          | true => exact iteT ⟨_, rfl, k1 o⟩
          | false => exact iteF (k2 o)
        · rw [show decide (p.1 ≤ t) = false from (Bool.not_eq_true _).mp h1, Bool.false_and] at k2
          exact k2 rfl
      · intro H1 e hd
        refine ⟨Nat.zero_le _, fun p np => .inr ⟨.list (((List.range xs.length).filter fun i => decide ((l.getD i (0, 0)).1 ≤ t) && decide (t < (l.getD i (0, 0)).2)).map fun i => .tuple [.int (l.getD i (0, 0)).1, .int (l.getD i (0, 0)).2]), .list [], .lst (SqL.of ((grow np) _ _ hd)) (dpAll_map fun i hi => ?_), .lst (SqL.of upd_same) .nil, Nat.le_trans (Nat.min_le_right _ _) (by decide), ?_⟩⟩
        · have hi := List.mem_range.mp (List.mem_filter.mp hi).1
          have gx := List.getElem?_eq_getElem hi
          obtain ⟨d, g1, g2⟩ := dpAll_get hx gx
          unfold dW at g1
          rw [List.getElem?_map, List.getElem?_eq_getElem (show i < l.length by omega)] at g1
          cases g1
          rw [getD_of gx, getD_of (List.getElem?_eq_getElem (show i < l.length by omega))]
          exact dp_mono (e.trans (grow np)) _ g2
        · rw [eqv_list_nil, List.isEmpty_map, ← len, filt_open]
          exact q _ (e.trans (grow np))

end
end Fb

set_option Elab.async false
set_option linter.all false
set_option maxRecDepth 100000
set_option maxHeartbeats 4000000
namespace Fb
open PySem PySem.Spec L2
open PyProof.Rows hiding St
open C8 (Cal Met Mak Def cal0 met0 mak0 pe_c pe_mk pe_mt pe_mt0 fnScope fnBody fnArgs pss_cut tCut)
local macro_rules | `(tactic| walk_at "hp") => `(tactic| first | exact upd_same | assumption | (refine grow (by assumption) _ _ ?_; walk_at "hp") | (refine (show Same _ _ by assumption) _ _ ?_; walk_at "hp"))
local macro_rules | `(tactic| walk_at "sm") => `(tactic| first | exact Same.refl _ | assumption | (refine Same.trans ?_ (grow (by assumption)); walk_at "sm") | (refine Same.trans ?_ (show Same _ _ by assumption); walk_at "sm"))
section
variable {P : Program} {w : World} {K : PySem.W.Frag} {mg : Str → Option Value} {base : Heap}
variable {CH : Addr}
/-! ### _law_walk -/
def spLWalk (K : PySem.W.Frag) : Sp := sp3 fun a b c H Q => ∃ (n : Nat) (ws : Option (List (Int × Int))) (k : Int), a = .int n ∧ 1 ≤ n ∧ n ≤ 96 ∧ WinV K H b ws ∧ c = .int k ∧ ∀ H' v, Same H H' → Dp K H' v (optD (hoursM n ws k)) → Q v H'
theorem c__law_walk (T : Top K mg CH) : Cal P w K mg base 2 "_law_walk" (spLWalk K) [] := by
  obtain ⟨f, fd, F, df⟩ := T.d__law_walk
  refine cal_of F df (fn3 F sc__law_walk fun cdv A outer s H a b c Q E hr h => ?_) fun _ _ _ _ _ _ us hl => match us, hl with | [_, _, _], _ => rfl
  have nd := sc__law_walk.nd
  obtain ⟨n, ws, kk, rfl, h0, h1, hw, rfl, k⟩ := h
  refine ⟨_, (pss_cons 
      (ps_if (pt_not (pt_val (pe_callB (any_K (K := K) rfl rfl) (by rfl) T.any (by decide +kernel) (pa_cons (pe_lc (own := [("k", 4)]) rfl nd (pi_range1 (by rfl) T.range (pa_cons (pv 0) pa_nil)) (blkOk_by (N := ["span_y", "wins", "more", "found", "k", "t_y", "j"]) (sc := fnScope s__law_walk) (by decide +kernel)) (fun _ _ _ _ _ => (pg_name (i := 4) nd rfl (Or.inl rfl))) (fun _ _ _ _ _ => pts_nil) (fun _ _ _ _ _ => (pe_c (c__law_is_open T) hr (by decide) (by rfl) (pa_cons (pv 1) (pa_cons (pv 4) pa_nil))))) pa_nil)))) (pss_one 
      (ps_ret pe_non)) pss_nil) (pss_cons 
      (ps_set (i := 3) nd rfl (Or.inl rfl) (pe_lst pa_nil)) (pss_cons 
      (ps_for PassesOwn.never rfl (pi_range1 (by rfl) T.range (pa_cons (pv 0) pa_nil)) (pg_name (i := 4) nd rfl (Or.inl rfl)) (pss_cons 
      (ps_set (i := 5) nd rfl (Or.inl rfl) (pv 4)) (pss_cut 
      (ps_for PassesOwn.never rfl (pi_range1 (by rfl) T.range (pa_cons (pv 0) pa_nil)) (pg_name (i := 6) nd rfl (Or.inl rfl)) (pss_cons 
      (ps_if (pt_val (pe_c (c__law_is_open T) hr (by decide) (by rfl) (pa_cons (pv 1) (pa_cons (pe_op op_mod (pe_callTy call_int1 (by rfl) T.int (by decide +kernel) (pa_cons (pv 5) pa_nil)) (pv 0)) pa_nil)))) (pss_one ps_break) pss_nil) (pss_one 
      (ps_set (i := 5) nd rfl (Or.inl rfl) (pe_op op_addU (pv 5) pe_int))))) (pss_one 
      (ps_expr (pe_bm PySem.F.plainAttrs_list PySem.F.slot_list_append PySem.F.type_list_append mt_append (pv 3) (pa_cons (pe_op op_addU (pv 5) (pv 2)) pa_nil))))))) (pss_one 
      (ps_ret (pe_callTy (tupleOf_K (K := K) rfl) (by rfl) T.tuple (by decide +kernel) (pa_cons (pv 3) pa_nil))))))), ?_⟩
  refine ⟨_, rfl, (n : Int), rfl, by omega, by omega, fun D hD => ?_⟩
  rw [show ((n : Nat) : Int).toNat = n from rfl]
  refine lc_map walk_range (fun i => .bl (openM ws (i : Nat))) grow_fn (by omega) hD (fun _ _ => trivial) ?_ ?_
  · rintro i x H1 H2 hi e ⟨rfl, rfl⟩ R q
    refine ⟨rfl, _, rfl, _, rfl, _, _, rfl, ws, _, hw.mono e, rfl, ?_⟩
    rw [Int.zero_add]
    exact q
  · intro H1 e hd
    refine ⟨D, (List.range n).map fun i => openM ws (i : Nat), rfl, SqL.of (by rw [hd, List.map_map]; rfl), ?_⟩
    have ea : ((List.range n).map fun i => openM ws (i : Nat)).any id = anyO n ws := by
      unfold anyO
      rw [List.any_map]
      rfl
    rw [ea]
    cases hA : anyO n ws with
    | false =>
      refine ⟨_, rfl, iteT ?_⟩
      refine k H1 _ e ?_
      unfold hoursM
      rw [hA, if_neg Bool.false_ne_true]
      exact .non
    | true =>
      refine ⟨_, rfl, iteF ?_⟩
      refine ⟨Nat.le_of_ble_eq_true rfl, fun p np => ?_⟩
      refine ⟨_, rfl, (n : Int), rfl, by omega, by omega, ?_⟩
      rw [show ((n : Nat) : Int).toNat = n from rfl]
      refine for_it walk_range (fun i σ H' => Same H1 H' ∧ H' p = some (.lst ((List.range i).map fun i => .int (walkM n ws (i : Nat) n + kk))) ∧ ∃ y4 y5 y6, σ = [some (.int n), some b, some (.int kk), some (.ref p), y4, y5, y6]) ⟨grow np, upd_same, _, _, _, rfl⟩ (fun _ _ _ _ _ => trivial) ?_ ?_
      · rintro i x σ H2 H3 hi ⟨e2, hl, y4, y5, y6, rfl⟩ ⟨rfl, hx⟩
        have hx : x = V.int (i : Nat) := hx.trans (congrArg V.int (Int.zero_add _))
        subst hx
        refine ⟨_, rfl, ?_⟩
        refine ⟨fun σ' H' => Same H3 H' ∧ ∃ y6, σ' = [some (.int n), some b, some (.int kk), some (.ref p), some (.int (i : Nat)), some (.int (walkM n ws (i : Nat) n)), y6], ?_, ?_⟩
        · refine ⟨_, rfl, (n : Int), rfl, by omega, by omega, ?_⟩
          rw [show ((n : Nat) : Int).toNat = n from rfl]
          refine for_it walk_range (fun j σ H' => Same H3 H' ∧ stepM n ws (i : Nat) j ∧ ∃ y6, σ = [some (.int n), some b, some (.int kk), some (.ref p), some (.int (i : Nat)), some (.int ((i : Nat) + (j : Nat))), y6]) ⟨Same.refl _, stepM_zero, _, by rw [show ((i : Nat) : Int) + ((0 : Nat) : Int) = (i : Nat) by omega]; rfl⟩ (fun _ _ _ _ _ => trivial) ?_ ?_
          · rintro j z σ G1 G2 hj ⟨e3, hm, y6, rfl⟩ ⟨rfl, rfl⟩
            refine ⟨_, rfl, _, rfl, .inl ⟨_, rfl, _, rfl, _, _, rfl, rfl, by omega, _, _, rfl, ws, _, ((hw.mono e).mono e2).mono e3, rfl, fun G3 e4 => ⟨_, rfl, ?_⟩⟩⟩
            cases o : openM ws ((((i : Nat) : Int) + (j : Nat)) % n) with
            | true =>
              refine iteT ?_
              exact ⟨e3.trans e4, _, by rw [stepM_stop hm hj o]; rfl⟩
            | false =>
              refine iteF ⟨_, rfl, .inl ⟨_, _, rfl, rfl, ?_⟩⟩
              exact ⟨e3.trans e4, stepM_succ hm o, _, by rw [show ((i : Nat) : Int) + ((j + 1 : Nat) : Int) = (i : Nat) + (j : Nat) + 1 by omega]; rfl⟩
          · rintro σ G1 ⟨e3, hm, y6, rfl⟩
            exact ⟨e3, _, by rw [stepM_end hm]⟩
        · rintro σ' G1 ⟨e3, y6, rfl⟩
          have hl4 := e3 _ _ hl
          refine ⟨_, rfl, .inl ⟨rfl, _, SqL.of hl4⟩, _, rfl, _, rfl, .inl ⟨_, _, rfl, rfl, p, _, _, rfl, rfl, hl4, size5 (by rw [List.length_map, List.length_range]; omega), ?_⟩⟩
          refine ⟨same_mut (e2.trans e3) np, ?_, _, _, _, rfl⟩
          rw [upd_same, List.range_succ, List.map_append]
          rfl
      · rintro σ H2 ⟨e2, hl, y4, y5, y6, rfl⟩
        refine ⟨_, rfl, p, _, rfl, .inl ⟨SqL.of hl, fun q nq => k _ _ (e.trans (e2.trans (grow nq))) ?_⟩⟩
        unfold hoursM
        rw [hA, if_pos rfl]
        exact TupI.dp ⟨q, rfl, SqT.of (by rw [upd_same, List.map_map]; rfl)⟩

end
end Fb

set_option Elab.async false
set_option linter.all false
set_option maxRecDepth 100000
set_option maxHeartbeats 4000000
namespace Fb
open PySem PySem.Spec L2
open PyProof.Rows hiding St
open C8 (Cal Met Mak Def cal0 met0 mak0 pe_c pe_mk pe_mt pe_mt0 fnScope fnBody fnArgs pss_cut tCut)
local macro_rules | `(tactic| walk_at "hp") => `(tactic| first | exact upd_same | assumption | (refine grow (by assumption) _ _ ?_; walk_at "hp") | (refine (show Same _ _ by assumption) _ _ ?_; walk_at "hp"))
local macro_rules | `(tactic| walk_at "sm") => `(tactic| first | exact Same.refl _ | assumption | (refine Same.trans ?_ (grow (by assumption)); walk_at "sm") | (refine Same.trans ?_ (show Same _ _ by assumption); walk_at "sm"))
section
variable {P : Program} {w : World} {K : PySem.W.Frag} {mg : Str → Option Value} {base : Heap}
variable {CH : Addr}
/-! ### _law_like -/
def spLike (K : PySem.W.Frag) (n : Nat) : Sp := sp2 fun a b H Q => ∃ d, Lk n d ∧ Dp K H a d ∧ Dp K H b d ∧ Then H Q (.bl true)
theorem c__law_like_n (T : Top K mg CH) : ∀ n, Cal P w K mg base (n + 1) "_law_like" (spLike K n) []
  | 0 => by
    obtain ⟨f, fd, F, df⟩ := T.d__law_like
    refine cal_of F df (fn2 F sc__law_like fun cdv A outer s H a b Q E hr h => ?_) fun _ _ _ _ _ _ us hl => match us, hl with | [_, _], _ => rfl
    obtain ⟨d, h, _⟩ := h
    exact h.elim
  | n + 1 => by
    have ih := @c__law_like_n T n
    obtain ⟨f, fd, F, df⟩ := T.d__law_like
    refine cal_of F df (fn2 F sc__law_like fun cdv A outer s H a b Q E hr h => ?_) fun _ _ _ _ _ _ us hl => match us, hl with | [_, _], _ => rfl
    have nd := sc__law_like.nd
    obtain ⟨d, lk, ha, hb, q⟩ := h
    refine ⟨_, (pss_cons 
      (ps_if (pt_val (pe_callB (isi_K (K := K) rfl) (by rfl) T.isinstance (by decide +kernel) (pa_cons (pv 1) (pa_cons (pe_tup (pa_cons (pe_bltn (v := .ty "list") (by rfl) T.list (by decide +kernel) rfl) (pa_cons (pe_bltn (v := .ty "tuple") (by rfl) T.tuple (by decide +kernel) rfl) pa_nil))) pa_nil)))) (pss_cons 
      (ps_if (PW.pt (pw_or (pt_cmpR (ne_K (K := K) rfl hr) (pe_callB (isi_K (K := K) rfl) (by rfl) T.isinstance (by decide +kernel) (pa_cons (pv 0) (pa_cons (pe_bltn (v := .ty "list") (by rfl) T.list (by decide +kernel) rfl) pa_nil))) (pe_callB (isi_K (K := K) rfl) (by rfl) T.isinstance (by decide +kernel) (pa_cons (pv 1) (pa_cons (pe_bltn (v := .ty "list") (by rfl) T.list (by decide +kernel) rfl) pa_nil))) (nomark _)) (pw_or1 (pt_cmpR (ne_K (K := K) rfl hr) (pe_callB (isi_K (K := K) rfl) (by rfl) T.isinstance (by decide +kernel) (pa_cons (pv 0) (pa_cons (pe_bltn (v := .ty "tuple") (by rfl) T.tuple (by decide +kernel) rfl) pa_nil))) (pe_callB (isi_K (K := K) rfl) (by rfl) T.isinstance (by decide +kernel) (pa_cons (pv 1) (pa_cons (pe_bltn (v := .ty "tuple") (by rfl) T.tuple (by decide +kernel) rfl) pa_nil))) (nomark _))))) (pss_one 
      (ps_ret pe_bl)) pss_nil) (pss_one 
      (ps_ret (pe_and (pe_cmpR (eq_K (K := K) rfl hr) (pe_callB (len_K (K := K) rfl) (by rfl) T.len (by decide +kernel) (pa_cons (pv 0) pa_nil)) (pe_callB (len_K (K := K) rfl) (by rfl) T.len (by decide +kernel) (pa_cons (pv 1) pa_nil)) (nomark _)) (pe_one (pe_callB (all_K (K := K) rfl rfl) (by rfl) T.all (by decide +kernel) (pa_cons (pe_lc (own := [("a", 3), ("b", 4)]) rfl nd (zip_K (K := K) rfl (by rfl) T.zip (pa_cons (pv 0) (pa_cons (pv 1) pa_nil))) (blkOk_by (N := ["told", "due", "k", "a", "b"]) (sc := fnScope s__law_like) (by decide +kernel)) (fun _ _ _ _ _ => (tup_K (K := K) (n := 2) rfl rfl (pgs_cons (pg_name (i := 3) nd rfl (Or.inl rfl)) (pgs_cons (pg_name (i := 4) nd rfl (Or.inl rfl)) pgs_nil)))) (fun _ _ _ _ _ => pts_nil) (fun _ _ _ _ _ => (pe_c ih hr (Nat.le_refl _) (by rfl) (pa_cons (pv 3) (pa_cons (pv 4) pa_nil))))) pa_nil))))))) pss_nil) (pss_cons 
      (ps_if (pt_val (pe_callB (isi_K (K := K) rfl) (by rfl) T.isinstance (by decide +kernel) (pa_cons (pv 1) (pa_cons (pe_bltn (v := .ty "dict") (by rfl) T.dict (by decide +kernel) rfl) pa_nil)))) (pss_cons 
      (ps_if (pt_not (pt_val (pe_callB (isi_K (K := K) rfl) (by rfl) T.isinstance (by decide +kernel) (pa_cons (pv 0) (pa_cons (pe_bltn (v := .ty "dict") (by rfl) T.dict (by decide +kernel) rfl) pa_nil))))) (pss_one 
      (ps_ret pe_bl)) pss_nil) (pss_one 
      (ps_ret (pe_c ih hr (Nat.le_refl _) (by rfl) (pa_cons (pe_lc (own := [("k", 2)]) rfl nd (pi_K (K := K) rfl (pv 0)) (blkOk_by (N := ["told", "due", "k", "a", "b"]) (sc := fnScope s__law_like) (by decide +kernel)) (fun _ _ _ _ _ => (pg_name (i := 2) nd rfl (Or.inl rfl))) (fun _ _ _ _ _ => pts_nil) (fun _ _ _ _ _ => (pe_lst (pa_cons (pv 2) (pa_cons (pe_ix (ix_K (K := K) rfl) (pv 0) (pv 2) (fun _ _ => rfl)) pa_nil))))) (pa_cons (pe_lc (own := [("k", 2)]) rfl nd (pi_K (K := K) rfl (pv 1)) (blkOk_by (N := ["told", "due", "k", "a", "b"]) (sc := fnScope s__law_like) (by decide +kernel)) (fun _ _ _ _ _ => (pg_name (i := 2) nd rfl (Or.inl rfl))) (fun _ _ _ _ _ => pts_nil) (fun _ _ _ _ _ => (pe_lst (pa_cons (pv 2) (pa_cons (pe_ix (ix_K (K := K) rfl) (pv 1) (pv 2) (fun _ _ => rfl)) pa_nil))))) pa_nil)))))) pss_nil) (pss_cons 
      (ps_if (PW.pt (pw_or (pt_cmpR op_isN (pv 1) pe_non (nomark _)) (pw_or1 (pt_cmpR op_isN (pv 0) pe_non (nomark _))))) (pss_one 
      (ps_ret (pe_and (pe_cmpR op_isN (pv 1) pe_non (nomark _)) (pe_one (pe_cmpR op_isN (pv 0) pe_non (nomark _)))))) pss_nil) (pss_cons 
      (ps_if (PW.pt (pw_or (pt_val (pe_callB (isi_K (K := K) rfl) (by rfl) T.isinstance (by decide +kernel) (pa_cons (pv 0) (pa_cons (pe_tup (pa_cons (pe_bltn (v := .ty "list") (by rfl) T.list (by decide +kernel) rfl) (pa_cons (pe_bltn (v := .ty "tuple") (by rfl) T.tuple (by decide +kernel) rfl) (pa_cons (pe_bltn (v := .ty "dict") (by rfl) T.dict (by decide +kernel) rfl) pa_nil)))) pa_nil)))) (pw_or1 (pt_cmpR (ne_K (K := K) rfl hr) (pe_callB (isi_K (K := K) rfl) (by rfl) T.isinstance (by decide +kernel) (pa_cons (pv 0) (pa_cons (pe_bltn (v := .ty "bool") (by rfl) T.bool (by decide +kernel) rfl) pa_nil))) (pe_callB (isi_K (K := K) rfl) (by rfl) T.isinstance (by decide +kernel) (pa_cons (pv 1) (pa_cons (pe_bltn (v := .ty "bool") (by rfl) T.bool (by decide +kernel) rfl) pa_nil))) (nomark _))))) (pss_one 
      (ps_ret pe_bl)) pss_nil) (pss_cons 
      (ps_if (PW.pt (pw_or (pt_cmpR (ne_K (K := K) rfl hr) (pe_callB (isi_K (K := K) rfl) (by rfl) T.isinstance (by decide +kernel) (pa_cons (pv 0) (pa_cons (pe_bltn (v := .ty "str") (by rfl) T.str (by decide +kernel) rfl) pa_nil))) (pe_callB (isi_K (K := K) rfl) (by rfl) T.isinstance (by decide +kernel) (pa_cons (pv 1) (pa_cons (pe_bltn (v := .ty "str") (by rfl) T.str (by decide +kernel) rfl) pa_nil))) (nomark _)) (pw_or1 (pt_cmpR (ne_K (K := K) rfl hr) (pe_callB (isi_K (K := K) rfl) (by rfl) T.isinstance (by decide +kernel) (pa_cons (pv 0) (pa_cons (pe_bltn (v := .ty "int") (by rfl) T.int (by decide +kernel) rfl) pa_nil))) (pe_callB (isi_K (K := K) rfl) (by rfl) T.isinstance (by decide +kernel) (pa_cons (pv 1) (pa_cons (pe_bltn (v := .ty "int") (by rfl) T.int (by decide +kernel) rfl) pa_nil))) (nomark _))))) (pss_one 
      (ps_ret pe_bl)) pss_nil) (pss_one 
      (ps_ret (pe_callTy call_bool1 (by rfl) T.bool (by decide +kernel) (pa_cons (pe_cmpR (eq_K (K := K) rfl hr) (pv 0) (pv 1) (nomark _)) pa_nil))))))))), ?_⟩
    have tb := dp_ty hb
    have ta := dp_ty ha
    cases d with
    | dict _ => exact lk.elim
    | none =>
      cases hb
      cases ha
      refine ⟨_, rfl, by decide, fun t nt => .inr ⟨_, _, ["list", "tuple"], "NoneType", false, rfl, upd_same, ty_mono .non (grow nt), by decide +kernel, _, rfl, iteF ?_⟩⟩
      refine ⟨_, rfl, .inl ⟨_, _, _, false, rfl, .base .non, by decide +kernel, _, rfl, iteF ?_⟩⟩
      refine ⟨_, rfl, rfl, _, rfl, iteT ⟨_, rfl, rfl, _, rfl, iteT ⟨_, rfl, rfl, q _ (grow nt)⟩⟩⟩
    | bool x =>
      cases hb
      cases ha
      refine ⟨_, rfl, by decide, fun t nt => .inr ⟨_, _, ["list", "tuple"], "bool", false, rfl, upd_same, .base (.bl x), by decide +kernel, _, rfl, iteF ?_⟩⟩
      refine ⟨_, rfl, .inl ⟨_, _, _, false, rfl, .base (.bl x), by decide +kernel, _, rfl, iteF ?_⟩⟩
      refine ⟨_, rfl, rfl, _, rfl, iteF ⟨_, rfl, rfl, _, rfl, iteF ?_⟩⟩
      refine ⟨_, rfl, by decide, fun t2 nt2 => .inr ⟨_, _, ["list", "tuple", "dict"], "bool", false, rfl, upd_same, .base (.bl x), by decide +kernel, _, rfl, iteF ?_⟩⟩
      refine ⟨_, rfl, .inl ⟨_, _, _, true, rfl, .base (.bl x), by decide +kernel, ⟨_, rfl, .inl ⟨_, _, _, true, rfl, .base (.bl x), by decide +kernel, .inl ⟨rfl, _, rfl, iteF ?_⟩⟩⟩⟩⟩
      refine ⟨_, rfl, .inl ⟨_, _, _, false, rfl, .base (.bl x), by decide +kernel, ⟨_, rfl, .inl ⟨_, _, _, false, rfl, .base (.bl x), by decide +kernel, .inl ⟨rfl, _, rfl, iteF ?_⟩⟩⟩⟩⟩
      refine ⟨_, rfl, .inl ⟨_, _, _, true, rfl, .base (.bl x), by decide +kernel, ⟨_, rfl, .inl ⟨_, _, _, true, rfl, .base (.bl x), by decide +kernel, .inl ⟨rfl, _, rfl, iteF ?_⟩⟩⟩⟩⟩
      refine ⟨_, rfl, _, rfl, .inl ⟨rfl, .inr ⟨_, rfl, ?_⟩⟩⟩
      rw [decide_eq_true (rfl : V.bl x = V.bl x)]
      exact q _ ((grow nt).trans (grow nt2))
    | int x =>
      cases hb
      cases ha
      refine ⟨_, rfl, by decide, fun t nt => .inr ⟨_, _, ["list", "tuple"], "int", false, rfl, upd_same, .base (.int x), by decide +kernel, _, rfl, iteF ?_⟩⟩
      refine ⟨_, rfl, .inl ⟨_, _, _, false, rfl, .base (.int x), by decide +kernel, _, rfl, iteF ?_⟩⟩
      refine ⟨_, rfl, rfl, _, rfl, iteF ⟨_, rfl, rfl, _, rfl, iteF ?_⟩⟩
      refine ⟨_, rfl, by decide, fun t2 nt2 => .inr ⟨_, _, ["list", "tuple", "dict"], "int", false, rfl, upd_same, .base (.int x), by decide +kernel, _, rfl, iteF ?_⟩⟩
      refine ⟨_, rfl, .inl ⟨_, _, _, false, rfl, .base (.int x), by decide +kernel, ⟨_, rfl, .inl ⟨_, _, _, false, rfl, .base (.int x), by decide +kernel, .inl ⟨rfl, _, rfl, iteF ?_⟩⟩⟩⟩⟩
      refine ⟨_, rfl, .inl ⟨_, _, _, false, rfl, .base (.int x), by decide +kernel, ⟨_, rfl, .inl ⟨_, _, _, false, rfl, .base (.int x), by decide +kernel, .inl ⟨rfl, _, rfl, iteF ?_⟩⟩⟩⟩⟩
      refine ⟨_, rfl, .inl ⟨_, _, _, true, rfl, .base (.int x), by decide +kernel, ⟨_, rfl, .inl ⟨_, _, _, true, rfl, .base (.int x), by decide +kernel, .inl ⟨rfl, _, rfl, iteF ?_⟩⟩⟩⟩⟩
      refine ⟨_, rfl, _, rfl, .inl ⟨rfl, .inr ⟨_, rfl, ?_⟩⟩⟩
      rw [decide_eq_true (rfl : V.int x = V.int x)]
      exact q _ ((grow nt).trans (grow nt2))
    | str x =>
      cases hb
      cases ha
      refine ⟨_, rfl, by decide, fun t nt => .inr ⟨_, _, ["list", "tuple"], "str", false, rfl, upd_same, .base (.str x), by decide +kernel, _, rfl, iteF ?_⟩⟩
      refine ⟨_, rfl, .inl ⟨_, _, _, false, rfl, .base (.str x), by decide +kernel, _, rfl, iteF ?_⟩⟩
      refine ⟨_, rfl, rfl, _, rfl, iteF ⟨_, rfl, rfl, _, rfl, iteF ?_⟩⟩
      refine ⟨_, rfl, by decide, fun t2 nt2 => .inr ⟨_, _, ["list", "tuple", "dict"], "str", false, rfl, upd_same, .base (.str x), by decide +kernel, _, rfl, iteF ?_⟩⟩
      refine ⟨_, rfl, .inl ⟨_, _, _, false, rfl, .base (.str x), by decide +kernel, ⟨_, rfl, .inl ⟨_, _, _, false, rfl, .base (.str x), by decide +kernel, .inl ⟨rfl, _, rfl, iteF ?_⟩⟩⟩⟩⟩
      refine ⟨_, rfl, .inl ⟨_, _, _, true, rfl, .base (.str x), by decide +kernel, ⟨_, rfl, .inl ⟨_, _, _, true, rfl, .base (.str x), by decide +kernel, .inl ⟨rfl, _, rfl, iteF ?_⟩⟩⟩⟩⟩
      refine ⟨_, rfl, .inl ⟨_, _, _, false, rfl, .base (.str x), by decide +kernel, ⟨_, rfl, .inl ⟨_, _, _, false, rfl, .base (.str x), by decide +kernel, .inl ⟨rfl, _, rfl, iteF ?_⟩⟩⟩⟩⟩
      refine ⟨_, rfl, _, rfl, .inl ⟨rfl, .inr ⟨_, rfl, ?_⟩⟩⟩
      rw [decide_eq_true (rfl : V.str x = V.str x)]
      exact q _ ((grow nt).trans (grow nt2))
    | list ds =>
      obtain ⟨hl, lks⟩ := lk
      cases hb with
      | lst sb db =>
      cases ha with
      | lst sa da =>
      rename_i bb ys aa xs
      have l1 := dpAll_len da
      have l2 := dpAll_len db
      refine ⟨_, rfl, by decide, fun t nt => .inr ⟨_, _, ["list", "tuple"], "list", true, rfl, upd_same, sql_ty (Same.seq (grow nt) sb), by decide +kernel, _, rfl, iteT ?_⟩⟩
      have sa := Same.seq (grow (o := .tup (["list", "tuple"].map V.ty)) nt) sa
      have sb := Same.seq (grow (o := .tup (["list", "tuple"].map V.ty)) nt) sb
      have da := dpAll_mono (grow (o := .tup (["list", "tuple"].map V.ty)) nt) ds da
      have db := dpAll_mono (grow (o := .tup (["list", "tuple"].map V.ty)) nt) ds db
      refine ⟨_, rfl, .inl ⟨_, _, _, true, rfl, sql_ty sa, by decide +kernel, ⟨_, rfl, .inl ⟨_, _, _, true, rfl, sql_ty sb, by decide +kernel, .inl ⟨rfl, _, rfl, iteF ?_⟩⟩⟩⟩⟩
      refine ⟨_, rfl, .inl ⟨_, _, _, false, rfl, sql_ty sa, by decide +kernel, ⟨_, rfl, .inl ⟨_, _, _, false, rfl, sql_ty sb, by decide +kernel, .inl ⟨rfl, _, rfl, iteF ?_⟩⟩⟩⟩⟩
      refine ⟨_, rfl, .inl ⟨_, _, rfl, .inl sa, ⟨_, rfl, .inl ⟨_, _, rfl, .inl sb, .inl ⟨rfl, _, rfl, ?_⟩⟩⟩⟩⟩
      rw [decide_eq_true (show V.int xs.length = V.int ys.length by rw [l1, l2])]
      refine iteT ⟨_, rfl, _, rfl, _, _, xs, ys, rfl, .inl ⟨sa, sb, fun D hD => ?_⟩⟩
      refine lc_map (walk_zip (n := ds.length) (by omega)) (fun _ => .bl true) grow_pair hl hD (fun H1 e => ⟨Same.seq e sa, Same.seq e sb⟩) ?_ ?_
      · rintro i x H1 H2 hi e ⟨T, x1, x2, rfl, nT, rfl, g1, g2⟩ R k
        obtain ⟨d1, h1, p1⟩ := dpAll_get da g1
        obtain ⟨d2, h2, p2⟩ := dpAll_get db g2
        have ed : d2 = d1 := Option.some.inj (h2.symm.trans h1)
        subst ed
        have e2 := e.trans (grow (o := .tup [x1, x2]) nT)
        exact ⟨T, [x1, x2], rfl, SqT.of upd_same, rfl, x1, [x2], rfl, x2, [], rfl, rfl, rfl, _, rfl, _, rfl, _, _, rfl, d2, lk_item lks h1, dp_mono e2 _ p1, dp_mono e2 _ p2, k⟩
      · intro H1 e hd
        refine ⟨D, (List.range ds.length).map fun _ => true, rfl, SqL.of (by rw [hd, List.map_map]; rfl), ?_⟩
        rw [all_true]
        exact q _ ((grow nt).trans e)
    | tuple ds =>
      obtain ⟨hl, lks⟩ := lk
      cases hb with
      | tup sb db =>
      cases ha with
      | tup sa da =>
      rename_i bb ys aa xs
      have l1 := dpAll_len da
      have l2 := dpAll_len db
      refine ⟨_, rfl, by decide, fun t nt => .inr ⟨_, _, ["list", "tuple"], "tuple", true, rfl, upd_same, sqt_ty (same_tup (grow nt) sb), by decide +kernel, _, rfl, iteT ?_⟩⟩
      have sa := same_tup (grow (o := .tup (["list", "tuple"].map V.ty)) nt) sa
      have sb := same_tup (grow (o := .tup (["list", "tuple"].map V.ty)) nt) sb
      have da := dpAll_mono (grow (o := .tup (["list", "tuple"].map V.ty)) nt) ds da
      have db := dpAll_mono (grow (o := .tup (["list", "tuple"].map V.ty)) nt) ds db
      refine ⟨_, rfl, .inl ⟨_, _, _, false, rfl, sqt_ty sa, by decide +kernel, ⟨_, rfl, .inl ⟨_, _, _, false, rfl, sqt_ty sb, by decide +kernel, .inl ⟨rfl, _, rfl, iteF ?_⟩⟩⟩⟩⟩
      refine ⟨_, rfl, .inl ⟨_, _, _, true, rfl, sqt_ty sa, by decide +kernel, ⟨_, rfl, .inl ⟨_, _, _, true, rfl, sqt_ty sb, by decide +kernel, .inl ⟨rfl, _, rfl, iteF ?_⟩⟩⟩⟩⟩
      refine ⟨_, rfl, .inl ⟨_, _, rfl, .inr sa, ⟨_, rfl, .inl ⟨_, _, rfl, .inr sb, .inl ⟨rfl, _, rfl, ?_⟩⟩⟩⟩⟩
      rw [decide_eq_true (show V.int xs.length = V.int ys.length by rw [l1, l2])]
      refine iteT ⟨_, rfl, _, rfl, _, _, xs, ys, rfl, .inr ⟨sa, sb, fun D hD => ?_⟩⟩
      refine lc_map (walk_zipT (n := ds.length) (by omega)) (fun _ => .bl true) grow_pair hl hD (fun H1 e => ⟨same_tup e sa, same_tup e sb⟩) ?_ ?_
      · rintro i x H1 H2 hi e ⟨T, x1, x2, rfl, nT, rfl, g1, g2⟩ R k
        obtain ⟨d1, h1, p1⟩ := dpAll_get da g1
        obtain ⟨d2, h2, p2⟩ := dpAll_get db g2
        have ed : d2 = d1 := Option.some.inj (h2.symm.trans h1)
        subst ed
        have e2 := e.trans (grow (o := .tup [x1, x2]) nT)
        exact ⟨T, [x1, x2], rfl, SqT.of upd_same, rfl, x1, [x2], rfl, x2, [], rfl, rfl, rfl, _, rfl, _, rfl, _, _, rfl, d2, lk_item lks h1, dp_mono e2 _ p1, dp_mono e2 _ p2, k⟩
      · intro H1 e hd
        refine ⟨D, (List.range ds.length).map fun _ => true, rfl, SqL.of (by rw [hd, List.map_map]; rfl), ?_⟩
        rw [all_true]
        exact q _ ((grow nt).trans e)
theorem c__law_like (T : Top K mg CH) : Cal P w K mg base 8 "_law_like" (spLike K 7) [] := c__law_like_n T 7

end
end Fb

set_option Elab.async false
set_option linter.all false
set_option maxRecDepth 100000
set_option maxHeartbeats 4000000
namespace Fb
open PySem PySem.Spec L2
open PyProof.Rows hiding St
open C8 (Cal Met Mak Def cal0 met0 mak0 pe_c pe_mk pe_mt pe_mt0 fnScope fnBody fnArgs pss_cut tCut)
local macro_rules | `(tactic| walk_at "hp") => `(tactic| first | exact upd_same | assumption | (refine grow (by assumption) _ _ ?_; walk_at "hp") | (refine (show Same _ _ by assumption) _ _ ?_; walk_at "hp"))
local macro_rules | `(tactic| walk_at "sm") => `(tactic| first | exact Same.refl _ | assumption | (refine Same.trans ?_ (grow (by assumption)); walk_at "sm") | (refine Same.trans ?_ (show Same _ _ by assumption); walk_at "sm"))
section
variable {P : Program} {w : World} {K : PySem.W.Frag} {mg : Str → Option Value} {base : Heap}
variable {CH : Addr}
/-! ### can_enter -/
def spCanEnter (K : PySem.W.Frag) : Sp := sp2 fun a b H Q => ∃ ws t, WinV K H a ws ∧ b = .int t ∧ Then H Q (.bl (openM ws t))
theorem c_can_enter (T : Top K mg CH) : Cal P w K mg base 1 "can_enter" (spCanEnter K) [] := by
  obtain ⟨f, fd, F, df⟩ := T.d_can_enter
  refine cal_of F df (fn2 F sc_can_enter fun cdv A outer s H a b Q E hr h => ?_) fun _ _ _ _ _ _ us hl => match us, hl with | [_, _], _ => rfl
  have nd := sc_can_enter.nd
  obtain ⟨ws, t, hw, rfl, q⟩ := h
  refine ⟨_, (pss_cons 
      (ps_if (pt_cmpR op_isN (pv 0) pe_non (nomark _)) (pss_one 
      (ps_ret pe_bl)) pss_nil) (pss_one 
      (ps_ret (pe_callB (any_K (K := K) rfl rfl) (by rfl) T.any (by decide +kernel) (pa_cons (pe_lc (own := [("first", 2), ("behind", 3)]) rfl nd (pi_K (K := K) rfl (pv 0)) (blkOk_by (N := ["windows", "t", "first", "behind"]) (sc := fnScope s_can_enter) (by decide +kernel)) (fun _ _ _ _ _ => (tup_K (K := K) (n := 2) rfl rfl (pgs_cons (pg_name (i := 2) nd rfl (Or.inl rfl)) (pgs_cons (pg_name (i := 3) nd rfl (Or.inl rfl)) pgs_nil)))) (fun _ _ _ _ _ => pts_nil) (fun _ _ _ _ _ => (pe_chain op_leU (lt_K (K := K) rfl hr) (pv 2) (pv 1) (pv 3)))) pa_nil))))), ?_⟩
  cases ws with
  | none =>
    cases hw.none
    exact ⟨_, rfl, rfl, _, rfl, iteT q.here⟩
  | some l =>
    obtain ⟨hl, W, xs, rfl, hs, hx, len⟩ := hw.some
    refine ⟨_, rfl, rfl, _, rfl, iteF ?_⟩
    rw [bw_any] at q
    rcases hs with hs | hs
    · refine ⟨_, rfl, .inl ⟨W, rfl, ⟨_, hs⟩, fun D hD => ?_⟩⟩
      refine lc_map walk_list (fun i => .bl (decide ((l.getD i (0, 0)).1 ≤ t) && decide (t < (l.getD i (0, 0)).2))) grow_at (by omega) hD (fun H1 e => e.seq hs) ?_ ?_
      · rintro i x H1 H2 hi e ⟨rfl, g⟩ R k
        obtain ⟨p, U, g1, rfl, sU⟩ := dW_get (dpAll_mono e _ hx) g
        rw [getD_of g1] at k
        refine ⟨U, _, rfl, sU, rfl, _, _, rfl, _, _, rfl, rfl, rfl, _, rfl, _, rfl, .inl ⟨_, _, rfl, rfl, _, rfl, ite2 (fun h1 => ?_) (fun h1 => ?_)⟩⟩
        · have k := k H2 (Same.refl _)
          rw [h1, Bool.true_and] at k
          exact ⟨_, rfl, .inl ⟨_, _, rfl, rfl, k⟩⟩
        · have k := k H2 (Same.refl _)
          rw [show decide (p.1 ≤ t) = false from (Bool.not_eq_true _).mp h1, Bool.false_and] at k
          exact k
      · intro H1 e hd
        exact ⟨D, _, rfl, SqL.of (by rw [hd, ← len, List.map_map]; exact congrArg (fun z => some (HO.lst z)) (map_range_get (0, 0) (fun p : Int × Int => V.bl (decide (p.1 ≤ t) && decide (t < p.2))) l)), q _ e⟩
    · refine ⟨_, rfl, .inr (.inl ⟨W, rfl, ⟨_, hs⟩, fun D hD => ?_⟩)⟩
      refine lc_map walk_tup (fun i => .bl (decide ((l.getD i (0, 0)).1 ≤ t) && decide (t < (l.getD i (0, 0)).2))) grow_at (by omega) hD (fun H1 e => same_tup e hs) ?_ ?_
      · rintro i x H1 H2 hi e ⟨rfl, g⟩ R k
        obtain ⟨p, U, g1, rfl, sU⟩ := dW_get (dpAll_mono e _ hx) g
        rw [getD_of g1] at k
        refine ⟨U, _, rfl, sU, rfl, _, _, rfl, _, _, rfl, rfl, rfl, _, rfl, _, rfl, .inl ⟨_, _, rfl, rfl, _, rfl, ite2 (fun h1 => ?_) (fun h1 => ?_)⟩⟩
        · have k := k H2 (Same.refl _)
          rw [h1, Bool.true_and] at k
          exact ⟨_, rfl, .inl ⟨_, _, rfl, rfl, k⟩⟩
        · have k := k H2 (Same.refl _)
          rw [show decide (p.1 ≤ t) = false from (Bool.not_eq_true _).mp h1, Bool.false_and] at k
          exact k
      · intro H1 e hd
        exact ⟨D, _, rfl, SqL.of (by rw [hd, ← len, List.map_map]; exact congrArg (fun z => some (HO.lst z)) (map_range_get (0, 0) (fun p : Int × Int => V.bl (decide (p.1 ≤ t) && decide (t < p.2))) l)), q _ e⟩

end
end Fb

set_option Elab.async false
set_option linter.all false
set_option maxRecDepth 100000
set_option maxHeartbeats 4000000
namespace Fb
open PySem PySem.Spec L2
open PyProof.Rows hiding St
open C8 (Cal Met Mak Def cal0 met0 mak0 pe_c pe_mk pe_mt pe_mt0 fnScope fnBody fnArgs pss_cut tCut)
local macro_rules | `(tactic| walk_at "hp") => `(tactic| first | exact upd_same | assumption | (refine grow (by assumption) _ _ ?_; walk_at "hp") | (refine (show Same _ _ by assumption) _ _ ?_; walk_at "hp"))
local macro_rules | `(tactic| walk_at "sm") => `(tactic| first | exact Same.refl _ | assumption | (refine Same.trans ?_ (grow (by assumption)); walk_at "sm") | (refine Same.trans ?_ (show Same _ _ by assumption); walk_at "sm"))
section
variable {P : Program} {w : World} {K : PySem.W.Frag} {mg : Str → Option Value} {base : Heap}
variable {CH : Addr}
/-! ### hours_of -/
def spHoursOf (K : PySem.W.Frag) : Sp := sp3 fun a b c H Q => ∃ (n : Nat) (ws : Option (List (Int × Int))) (k : Int), a = .int n ∧ 1 ≤ n ∧ n ≤ 96 ∧ WinV K H b ws ∧ c = .int k ∧ ∀ H' v, Same H H' → Dp K H' v (optD (hoursM n ws k)) → Q v H'
theorem ok_hours_of (T : Top K mg CH) {f : Addr} {fd : FuncData} (F : Def K mg "hours_of" s_hours_of f fd) : FnOk P w K mg base C8.CX0 2 f fd ["day", "windows", "ticks"] (spHoursOf K) := by
  refine fn3 F sc_hours_of fun cdv A outer s H a b c Q E hr h => ?_
  have nd := sc_hours_of.nd
  obtain ⟨n, ws, kk, rfl, h0, h1, hw, rfl, k⟩ := h
  refine ⟨_, (pss_cons 
      (ps_setLc (i := 3) (own := [("t", 6)]) rfl nd rfl rfl (sw_true rfl rfl rfl (by decide +kernel)) (pi_range1 (by rfl) T.range (pa_cons (pv 0) pa_nil)) (blkOk_by (N := ["day", "windows", "ticks", "times", "entered", "through", "t"]) (sc := fnScope s_hours_of) (by decide +kernel)) (fun _ _ _ _ _ => (pg_name (i := 6) nd rfl (Or.inl rfl))) (fun _ _ _ _ _ => (pts_one (pt_val (pe_c (c_can_enter T) hr (by decide) (by rfl) (pa_cons (pv 1) (pa_cons (pv 6) pa_nil)))))) (fun _ _ _ _ _ => (pv 6))) (pss_cons 
      (ps_if (pt_not (pt_truth (pv 3) (fun _ => rfl))) (pss_one 
      (ps_ret pe_non)) pss_nil) (pss_cons 
      (ps_set (i := 4) nd rfl (Or.inl rfl) (pe_op op_addU (pe_ix (ix_K (K := K) rfl) (pv 3) pe_int (fun _ _ => rfl)) (pv 0))) (pss_cons 
      (ps_set (i := 5) nd rfl (Or.inl rfl) (pe_lst pa_nil)) (pss_cons 
      (ps_for PassesOwn.never rfl (pi_revR (by rfl) T.reversed (prg_1 (by rfl) T.range (pv 0))) (pg_name (i := 6) nd rfl (Or.inl rfl)) (pss_cons 
      (ps_if (pt_val (pe_c (c_can_enter T) hr (by decide) (by rfl) (pa_cons (pv 1) (pa_cons (pv 6) pa_nil)))) (pss_one 
      (ps_set (i := 4) nd rfl (Or.inl rfl) (pv 6))) pss_nil) (pss_one 
      (ps_expr (pe_bm PySem.F.plainAttrs_list PySem.F.slot_list_append PySem.F.type_list_append mt_append (pv 5) (pa_cons (pe_op op_addU (pv 4) (pv 2)) pa_nil)))))) (pss_one 
      (ps_ret (RT.pe_tupRev rfl (by rfl) T.tuple (by rfl) T.reversed (pv 5))))))))), ?_⟩
  refine ⟨_, rfl, (n : Int), rfl, by omega, by omega, fun D hD => ?_⟩
  rw [show ((n : Nat) : Int).toNat = n from rfl]
  refine lc_filt walk_range (fun i => openM ws (i : Nat)) (fun i => .int (i : Nat)) grow_fn (by omega) hD (fun _ _ => trivial) ?_ ?_
  · rintro i x H1 H2 hi e ⟨rfl, rfl⟩ F R k1 k2
    refine ⟨rfl, _, rfl, _, rfl, _, _, rfl, ws, _, hw.mono e, rfl, fun H3 e3 => ⟨_, rfl, ?_⟩⟩
    rw [Int.zero_add]
    cases o : openM ws (i : Nat) with
    | true =>
      refine iteT ⟨_, rfl, ?_⟩
      show R (.int (0 + ((i : Nat) : Int))) H3
      rw [Int.zero_add]
      exact k1 H3 e3 o
    | false => exact iteF (k2 H3 e3 o)
  · intro H1 e hd
    refine ⟨_, rfl, _, .inl ⟨_, SqL.of hd, rfl⟩, ?_⟩
    cases hF : (List.range n).filter (fun i => openM ws (i : Nat)) with
    | nil =>
      refine iteT ?_
      refine k H1 _ e ?_
      unfold hoursM anyO
      rw [none_open hF, if_neg Bool.false_ne_true]
      exact .non
    | cons a r =>
      rw [hF] at hd
      obtain ⟨ha, hop, hno⟩ := first_open hF
      obtain ⟨wk, _⟩ := day_of ha hop hno
      refine iteF ?_
      refine ⟨_, rfl, .inl ⟨D, _, 0, _, rfl, rfl, SqL.of hd, at0, _, rfl, .inl ⟨_, _, rfl, rfl, ?_⟩⟩⟩
      refine ⟨Nat.le_of_ble_eq_true rfl, fun p np => ?_⟩
      refine ⟨_, rfl, (n : Int), rfl, by omega, by omega, by omega, by omega, ?_⟩
      rw [show ((n : Int) - 0).toNat = n by omega]
      refine for_it walk_rangeC (fun j σ H' => Same H1 H' ∧ H' p = some (.lst ((List.range j).map fun i => .int (bM n ws a (i + 1) + kk))) ∧ ∃ y, σ = [some (.int n), some b, some (.int kk), some (.ref D), some (.int (bM n ws a j)), some (.ref p), y]) ⟨grow np, upd_same, _, rfl⟩ (fun _ _ _ _ _ => trivial) ?_ ?_
      · rintro j x σ H2 H3 hj ⟨e2, hl, y, rfl⟩ ⟨rfl, hx⟩
        have hx : x = V.int ((n : Int) - 1 - (j : Nat)) := hx.trans (congrArg V.int (by omega))
        subst hx
        refine ⟨_, rfl, _, rfl, _, _, rfl, ws, _, (hw.mono e).mono e2, rfl, fun H4 e4 => ⟨_, rfl, ?_⟩⟩
        have len : ((List.range j).map fun i => V.int (bM n ws a (i + 1) + kk)).length < sizeLine := size5 (by rw [List.length_map, List.length_range]; omega)
        have hl4 := e4 _ _ hl
        have app : ∀ z : Int, z = bM n ws a (j + 1) → (((List.range j).map fun i => V.int (bM n ws a (i + 1) + kk)) ++ [V.int (z + kk)]) = (List.range (j + 1)).map fun i => V.int (bM n ws a (i + 1) + kk) := fun z hz => by
          rw [List.range_succ, List.map_append, hz]
          rfl
        cases o : openM ws ((n : Int) - 1 - (j : Nat)) with
        | true =>
          have hz : (n : Int) - 1 - (j : Nat) = bM n ws a (j + 1) := (if_pos o).symm
          refine iteT ⟨_, rfl, ?_⟩
          refine ⟨_, rfl, .inl ⟨rfl, _, SqL.of hl4⟩, _, rfl, _, rfl, .inl ⟨_, _, rfl, rfl, p, _, _, rfl, rfl, hl4, len, ?_⟩⟩
          rw [app _ hz]
          exact ⟨same_mut (e2.trans e4) np, upd_same, _, by rw [← hz]; rfl⟩
        | false =>
          have hz : bM n ws a j = bM n ws a (j + 1) := (if_neg (by rw [o]; exact Bool.false_ne_true)).symm
          refine iteF ?_
          refine ⟨_, rfl, .inl ⟨rfl, _, SqL.of hl4⟩, _, rfl, _, rfl, .inl ⟨_, _, rfl, rfl, p, _, _, rfl, rfl, hl4, len, ?_⟩⟩
          rw [app _ hz]
          exact ⟨same_mut (e2.trans e4) np, upd_same, _, by rw [← hz]; rfl⟩
      · rintro σ H2 ⟨e2, hl, y, rfl⟩
        refine ⟨_, rfl, p, _, rfl, SqL.of hl, fun q nq => k _ _ (e.trans (e2.trans (grow nq))) ?_⟩
        unfold hoursM anyO
        rw [some_open hF, if_pos rfl]
        exact TupI.dp ⟨q, rfl, SqT.of (by rw [upd_same, rev_bM wk])⟩

theorem k_hours_of_0_ticks_windows_day (T : Top K mg CH) : CalK P w K mg base 2 "hours_of" (spHoursOf K) 0 ["ticks", "windows", "day"] (fun vs zs => pick vs [] zs [(2, 2), (2, 1), (2, 0)]) := by
  obtain ⟨f, fd, F, df⟩ := T.d_hours_of
  exact ⟨f, fd, _, _, ok_hours_of T F, F.mgf, F.kp, nod_kbn (ps := ["day", "windows", "ticks"]) (ks := ["ticks", "windows", "day"]) F df 0 [(2, 2), (2, 1), (2, 0)] fun _ _ _ _ _ _ us ws l1 l2 => match us, ws, l1, l2 with | [], [_, _, _], _, _ => rfl⟩
theorem c_hours_of (T : Top K mg CH) : Cal P w K mg base 2 "hours_of" (spHoursOf K) [] := by
  obtain ⟨f, fd, F, df⟩ := T.d_hours_of
  exact cal_of F df (ok_hours_of T F) fun _ _ _ _ _ _ us hl => match us, hl with | [_, _, _], _ => rfl

end
end Fb

set_option Elab.async false
set_option linter.all false
set_option maxRecDepth 100000
set_option maxHeartbeats 4000000
namespace Fb
open PySem PySem.Spec L2
open PyProof.Rows hiding St
open C8 (Cal Met Mak Def cal0 met0 mak0 pe_c pe_mk pe_mt pe_mt0 fnScope fnBody fnArgs pss_cut tCut)
local macro_rules | `(tactic| walk_at "hp") => `(tactic| first | exact upd_same | assumption | (refine grow (by assumption) _ _ ?_; walk_at "hp") | (refine (show Same _ _ by assumption) _ _ ?_; walk_at "hp"))
local macro_rules | `(tactic| walk_at "sm") => `(tactic| first | exact Same.refl _ | assumption | (refine Same.trans ?_ (grow (by assumption)); walk_at "sm") | (refine Same.trans ?_ (show Same _ _ by assumption); walk_at "sm"))
section
variable {P : Program} {w : World} {K : PySem.W.Frag} {mg : Str → Option Value} {base : Heap}
variable {CH : Addr}
/-! ### _law_reading -/
def spLReading (K : PySem.W.Frag) : Sp := sp2 fun a b H Q => ∃ f t, TupI K H a f ∧ 0 < f.length ∧ f.length ≤ 1000 ∧ b = .int t ∧ Q (.int (readM f t)) H
theorem c__law_reading (T : Top K mg CH) : Cal P w K mg base 1 "_law_reading" (spLReading K) [] := by
  obtain ⟨f, fd, F, df⟩ := T.d__law_reading
  refine cal_of F df (fn2 F sc__law_reading fun cdv A outer s H a b Q E hr h => ?_) fun _ _ _ _ _ _ us hl => match us, hl with | [_, _], _ => rfl
  have nd := sc__law_reading.nd
  obtain ⟨f, t, ⟨A1, rfl, hs⟩, h0, h1, rfl, q⟩ := h
  have ln : (f.map V.int).length = f.length := List.length_map ..
  have hn : (0 : Int) < f.length := by omega
  obtain ⟨m0, m1⟩ := mod_in (t := t) hn
  refine ⟨_, (pss_cons 
      (ps_set (i := 2) nd rfl (Or.inl rfl) (pe_op op_fdivW (pe_callTy call_int1 (by rfl) T.int (by decide +kernel) (pa_cons (pv 1) pa_nil)) (pe_callB (len_K (K := K) rfl) (by rfl) T.len (by decide +kernel) (pa_cons (pv 0) pa_nil)))) (pss_one 
      (ps_ret (pe_op op_addU (pe_ix (ix_K (K := K) rfl) (pv 0) (pe_op op_sub (pv 1) (pe_op op_mul (pv 2) (pe_callB (len_K (K := K) rfl) (by rfl) T.len (by decide +kernel) (pa_cons (pv 0) pa_nil)))) (fun _ _ => rfl)) (pe_op op_mul (pv 2) (pe_callB (len_K (K := K) rfl) (by rfl) T.len (by decide +kernel) (pa_cons (pv 0) pa_nil))))))), ?_⟩
  refine ⟨_, rfl, .inl ⟨_, rfl, _, rfl, .inl ⟨A1, _, rfl, .inr hs, ?_⟩⟩⟩
  rw [ln]
  refine ⟨_, _, rfl, rfl, ⟨hn, small_log (by omega) (by omega)⟩, ?_⟩
  refine ⟨_, rfl, _, rfl, _, rfl, _, rfl, .inl ⟨A1, _, rfl, .inr hs, ?_⟩⟩
  rw [ln]
  refine ⟨_, _, rfl, rfl, .inr ⟨by omega, by omega⟩, _, _, rfl, rfl, ?_⟩
  refine .inr (.inl ⟨A1, _, _, _, rfl, rfl, hs, (by rw [read_mod]; exact tup_at m0 m1), ?_⟩)
  refine ⟨_, rfl, _, rfl, .inl ⟨A1, _, rfl, .inr hs, ?_⟩⟩
  rw [ln]
  exact ⟨_, _, rfl, rfl, .inr ⟨by omega, by omega⟩, .inl ⟨_, _, rfl, rfl, q⟩⟩

end
end Fb

set_option Elab.async false
set_option linter.all false
set_option maxRecDepth 100000
set_option maxHeartbeats 4000000
namespace Fb
open PySem PySem.Spec L2
open PyProof.Rows hiding St
open C8 (Cal Met Mak Def cal0 met0 mak0 pe_c pe_mk pe_mt pe_mt0 fnScope fnBody fnArgs pss_cut tCut)
local macro_rules | `(tactic| walk_at "hp") => `(tactic| first | exact upd_same | assumption | (refine grow (by assumption) _ _ ?_; walk_at "hp") | (refine (show Same _ _ by assumption) _ _ ?_; walk_at "hp"))
local macro_rules | `(tactic| walk_at "sm") => `(tactic| first | exact Same.refl _ | assumption | (refine Same.trans ?_ (grow (by assumption)); walk_at "sm") | (refine Same.trans ?_ (show Same _ _ by assumption); walk_at "sm"))
section
variable {P : Program} {w : World} {K : PySem.W.Frag} {mg : Str → Option Value} {base : Heap}
variable {CH : Addr}
/-! ### _law_turned -/
def spTurned (K : PySem.W.Frag) : Sp := sp2 fun a b H Q => ∃ (p l : Addr) (zs : List Int), a = .ref p ∧ BagAt H p ∧ b = .ref l ∧ SqL K H l (zs.map V.int) ∧ zs.length ≤ 1000 ∧
  ∀ (H' : Hp) (D : Addr) (cs : List Int), Same H H' → H' D = some (.lst (cs.map V.int)) → (∀ z ∈ cs, z ∈ zs) → Q (.ref D) H'
theorem c__law_turned (T : Top K mg CH) : Cal P w K mg base 2 "_law_turned" (spTurned K) [] := by
  obtain ⟨f, fd, F, df⟩ := T.d__law_turned
  refine cal_of F df (fn2 F sc__law_turned fun cdv A outer s H a b Q E hr h => ?_) fun _ _ _ _ _ _ us hl => match us, hl with | [_, _], _ => rfl
  have nd := sc__law_turned.nd
  obtain ⟨p, l, zs, rfl, hb, rfl, hs, hl, k⟩ := h
  have ln : (zs.map V.int).length = zs.length := List.length_map ..
  refine ⟨_, (pss_cons 
      (ps_set (i := 2) nd rfl (Or.inl rfl) (pe_callTy (listOf_K (K := K) rfl) (by rfl) T.list (by decide +kernel) (pa_cons (pv 1) pa_nil))) (pss_cons 
      (ps_set (i := 3) nd rfl (Or.inl rfl) (pe_lst pa_nil)) (pss_cons 
      (ps_for PassesOwn.never rfl (pi_range1 (by rfl) T.range (pa_cons (pe_callB (len_K (K := K) rfl) (by rfl) T.len (by decide +kernel) (pa_cons (pv 1) pa_nil)) pa_nil)) (pg_name (i := 4) nd rfl (Or.inl rfl)) (pss_one 
      (ps_expr (pe_bm PySem.F.plainAttrs_list PySem.F.slot_list_append PySem.F.type_list_append mt_append (pv 3) (pa_cons (pe_bm PySem.F.plainAttrs_list PySem.F.slot_list_pop PySem.F.type_list_pop mt_popAt (pv 2) (pa_cons (pe_c (c__law_draw T) hr (by decide) (by rfl) (pa_cons (pv 0) (pa_cons (pe_callB (len_K (K := K) rfl) (by rfl) T.len (by decide +kernel) (pa_cons (pv 2) pa_nil)) pa_nil))) pa_nil)) pa_nil))))) (pss_one 
      (ps_ret (pv 3)))))), ?_⟩
  refine ⟨_, rfl, l, _, rfl, .inl hs, fun c nc => ?_⟩
  refine ⟨Nat.le_of_ble_eq_true rfl, fun q nq => ?_⟩
  have ncq : c ≠ q := ne_of_none upd_same nq
  have nq0 : H q = none := by
    rw [upd_ne ncq.symm] at nq
    exact nq
  have e0 : Same H (upd (upd H c (.lst (zs.map V.int))) q (.lst [])) := (grow nc).trans (grow nq)
  refine ⟨_, rfl, .inl ⟨l, _, rfl, .inl (e0.seq hs), ?_⟩⟩
  rw [ln]
  refine ⟨(zs.length : Int), rfl, by omega, by omega, ?_⟩
  rw [show ((zs.length : Nat) : Int).toNat = zs.length from rfl]
  refine for_it walk_range (fun i σ H' => Same H H' ∧ (∃ ys us : List V, H' c = some (.lst ys) ∧ ys.length = zs.length - i ∧ (∀ v ∈ ys, ∃ z ∈ zs, v = .int z) ∧ H' q = some (.lst us) ∧ us.length = i ∧ ∀ v ∈ us, ∃ z ∈ zs, v = .int z) ∧ ∃ y, σ = [some (.ref p), some (.ref l), some (.ref c), some (.ref q), y])
    ⟨e0, ⟨zs.map V.int, [], by rw [upd_ne ncq, upd_same], by rw [ln]; rfl, fun v hv => ?_, upd_same, rfl, fun v hv => by cases hv⟩, _, rfl⟩ (fun _ _ _ _ _ => trivial) ?_ ?_
  · obtain ⟨z, hz, rfl⟩ := List.mem_map.mp hv
    exact ⟨z, hz, rfl⟩
  · rintro i x σ H1 H2 hi ⟨e, ⟨ys, us, hc, ly, py, hq, lu, pu⟩, y, rfl⟩ ⟨rfl, rfl⟩
    refine ⟨_, rfl, .inl ⟨rfl, _, SqL.of hq⟩, _, rfl, .inl ⟨rfl, _, SqL.of hc⟩, _, rfl, _, rfl, .inl ⟨c, _, rfl, .inl (SqL.of hc), ?_⟩⟩
    refine ⟨_, _, rfl, p, (ys.length : Int), rfl, rfl, hb.mono e, by omega, small_log (by omega) (by omega), fun d d0 d1 => ?_⟩
    obtain ⟨j, rfl⟩ := Int.eq_ofNat_of_zero_le d0
    have hj : j < ys.length := by omega
    have ix : ixN ys.length (j : Int) = some j := by
      unfold ixN
      rw [if_pos (by omega), if_pos (by omega)]
      rfl
    refine ⟨c, ys, (j : Int), j, ys[j], rfl, rfl, hc, by omega, by omega, (ixN_seq ix).1, List.getElem?_eq_getElem hj, ?_⟩
    have hq' : upd H2 c (.lst (ys.eraseIdx j)) q = some (.lst us) := by
      rw [upd_ne ncq.symm]
      exact hq
    refine ⟨q, us, _, rfl, rfl, hq', size5 (by omega), ?_⟩
    refine ⟨same_mut (same_mut e nc) nq0, ⟨ys.eraseIdx j, us ++ [ys[j]], by rw [upd_ne ncq, upd_same], ?_, fun v hv => py v (List.mem_of_mem_eraseIdx hv), upd_same, by rw [List.length_append, lu]; rfl, fun v hv => ?_⟩, _, rfl⟩
    · rw [List.length_eraseIdx_of_lt hj]
      omega
    · rcases List.mem_append.mp hv with hv | hv
      · exact pu v hv
      · cases List.mem_singleton.mp hv
        exact py _ (List.getElem_mem hj)
  · rintro σ H1 ⟨e, ⟨ys, us, hc, ly, py, hq, lu, pu⟩, y, rfl⟩
    obtain ⟨cs, rfl⟩ := all_of V.int us fun i v hv => by
      obtain ⟨z, _, hz⟩ := pu v (List.mem_of_getElem? hv)
      exact ⟨z, hz⟩
    refine ⟨_, rfl, k H1 q cs e hq fun z hz => ?_⟩
    obtain ⟨z', h1, h2⟩ := pu _ (List.mem_map.mpr ⟨z, hz, rfl⟩)
    cases h2
    exact h1

end
end Fb

set_option Elab.async false
set_option linter.all false
set_option maxRecDepth 100000
set_option maxHeartbeats 4000000
namespace Fb
open PySem PySem.Spec L2
open PyProof.Rows hiding St
open C8 (Cal Met Mak Def cal0 met0 mak0 pe_c pe_mk pe_mt pe_mt0 fnScope fnBody fnArgs pss_cut tCut)
local macro_rules | `(tactic| walk_at "hp") => `(tactic| first | exact upd_same | assumption | (refine grow (by assumption) _ _ ?_; walk_at "hp") | (refine (show Same _ _ by assumption) _ _ ?_; walk_at "hp"))
local macro_rules | `(tactic| walk_at "sm") => `(tactic| first | exact Same.refl _ | assumption | (refine Same.trans ?_ (grow (by assumption)); walk_at "sm") | (refine Same.trans ?_ (show Same _ _ by assumption); walk_at "sm"))
section
variable {P : Program} {w : World} {K : PySem.W.Frag} {mg : Str → Option Value} {base : Heap}
variable {CH : Addr}
/-! ### _law_times -/
def spTimes (K : PySem.W.Frag) : Sp := sp2 fun a b H Q => ∃ (p : Addr) (n : Nat), a = .ref p ∧ BagAt H p ∧ b = .int n ∧ 1 ≤ n ∧ n ≤ 96 ∧
  ∀ (H' : Hp) (D : Addr) (cs : List Int), Same H H' → H' D = some (.lst (cs.map V.int)) → (∀ z ∈ cs, -1000000 ≤ z ∧ z ≤ 1000000) → Q (.ref D) H'
theorem c__law_times (T : Top K mg CH) : Cal P w K mg base 3 "_law_times" (spTimes K) [] := by
  obtain ⟨f, fd, F, df⟩ := T.d__law_times
  refine cal_of F df (fn2 F sc__law_times fun cdv A outer s H a b Q E hr h => ?_) fun _ _ _ _ _ _ us hl => match us, hl with | [_, _], _ => rfl
  have nd := sc__law_times.nd
  obtain ⟨p, n, rfl, hb, rfl, h0, h1, k⟩ := h
  refine ⟨_, (pss_cons 
      (ps_set (i := 2) nd rfl (Or.inl rfl) (pe_lst (pa_cons pe_int (pa_cons (pe_op op_sub (pv 1) pe_int) (pa_cons (pv 1) (pa_cons (pe_un un_neg pe_int) (pa_cons (pe_un un_neg (pv 1)) (pa_cons (pe_op op_addU (pe_op op_mul pe_int (pv 1)) (pe_c (c__law_draw T) hr (by decide) (by rfl) (pa_cons (pv 0) (pa_cons (pv 1) pa_nil)))) (pa_cons (pe_un un_neg pe_int) (pa_cons pe_int pa_nil)))))))))) (pss_cons 
      (ps_set (i := 2) nd rfl (Or.inl rfl) (pe_op op_addU (pv 2) (pe_lst (pa_cons (pe_op op_sub (pe_c (c__law_draw T) hr (by decide) (by rfl) (pa_cons (pv 0) (pa_cons pe_int pa_nil))) pe_int) (pa_cons (pe_op op_sub (pe_c (c__law_draw T) hr (by decide) (by rfl) (pa_cons (pv 0) (pa_cons (pe_op op_mul pe_int (pv 1)) pa_nil))) (pe_op op_mul pe_int (pv 1))) pa_nil))))) (pss_one 
      (ps_ret (pe_slice (sl_K (K := K) rfl) (pe_c (c__law_turned T) hr (by decide) (by rfl) (pa_cons (pv 0) (pa_cons (pv 2) pa_nil))) po_none (po_some pe_int)))))), ?_⟩
  refine ⟨_, rfl, _, _, rfl, rfl, _, rfl, _, rfl, _, rfl, _, rfl, _, rfl, _, _, rfl, rfl, .inr ⟨by omega, by omega⟩, ?_⟩
  refine ⟨_, rfl, _, rfl, _, _, rfl, p, (n : Int), rfl, rfl, hb, by omega, small_log (by omega) (by omega), fun d1 a1 b1 => .inl ⟨_, _, rfl, rfl, ?_⟩⟩
  refine ⟨_, rfl, Nat.le_of_ble_eq_true rfl, fun q nq => ?_⟩
  have e1 := grow (o := .lst [.int 0, .int ((n : Int) - 1), .int n, .int (-1), .int (-(n : Int)), .int (2 * (n : Int) + d1), .int (-1000000), .int 1000000]) nq
  have hb1 := hb.mono e1
  refine ⟨_, rfl, _, rfl, _, _, rfl, p, 2000001, rfl, rfl, hb1, by decide, small_log (by decide) (by decide), fun d2 a2 b2 => ⟨_, _, rfl, rfl, ?_⟩⟩
  refine ⟨_, rfl, _, rfl, _, _, rfl, rfl, .inr ⟨by omega, by omega⟩, _, _, rfl, p, 5 * (n : Int), rfl, rfl, hb1, by omega, small_log (by omega) (by omega), fun d3 a3 b3 => ?_⟩
  refine ⟨_, rfl, _, _, rfl, rfl, .inr ⟨by omega, by omega⟩, _, _, rfl, rfl, Nat.le_of_ble_eq_true rfl, fun q2 nq2 => ?_⟩
  have e2 := grow (o := .lst [.int (d2 - 1000000), .int (d3 - 2 * (n : Int))]) nq2
  refine .inr (.inr ⟨q, q2, _, _, rfl, rfl, e2 _ _ upd_same, upd_same, Nat.le_of_ble_eq_true rfl, fun c nc => ?_⟩)
  have e3 := grow (o := .lst ([0, (n : Int) - 1, n, -1, -(n : Int), 2 * (n : Int) + d1, -1000000, 1000000, d2 - 1000000, d3 - 2 * (n : Int)].map V.int)) nc
  refine ⟨_, rfl, _, rfl, _, _, rfl, p, c, [0, (n : Int) - 1, n, -1, -(n : Int), 2 * (n : Int) + d1, -1000000, 1000000, d2 - 1000000, d3 - 2 * (n : Int)], rfl, (hb1.mono e2).mono e3, rfl, SqL.of upd_same, Nat.le_of_ble_eq_true rfl, fun H1 D cs e4 hD hm => ?_⟩
  obtain ⟨ms, em, mm, ml⟩ := cut_mem cs none (some 5)
  refine ⟨_, rfl, .inl ⟨D, _, rfl, SqL.of hD, fun r nr => ?_⟩⟩
  rw [em]
  refine k _ r ms (e1.trans (e2.trans (e3.trans (e4.trans (grow nr))))) upd_same fun z hz => ?_
  have h := hm z (mm z hz)
  simp only [List.mem_cons, List.not_mem_nil, or_false] at h
  rcases h with rfl | rfl | rfl | rfl | rfl | rfl | rfl | rfl | rfl | rfl
  all_goals constructor <;> omega

end
end Fb

set_option Elab.async false
set_option linter.all false
set_option maxRecDepth 100000
set_option maxHeartbeats 4000000
namespace Fb
open PySem PySem.Spec L2
open PyProof.Rows hiding St
open C8 (Cal Met Mak Def cal0 met0 mak0 pe_c pe_mk pe_mt pe_mt0 fnScope fnBody fnArgs pss_cut tCut)
local macro_rules | `(tactic| walk_at "hp") => `(tactic| first | exact upd_same | assumption | (refine grow (by assumption) _ _ ?_; walk_at "hp") | (refine (show Same _ _ by assumption) _ _ ?_; walk_at "hp"))
local macro_rules | `(tactic| walk_at "sm") => `(tactic| first | exact Same.refl _ | assumption | (refine Same.trans ?_ (grow (by assumption)); walk_at "sm") | (refine Same.trans ?_ (show Same _ _ by assumption); walk_at "sm"))
section
variable {P : Program} {w : World} {K : PySem.W.Frag} {mg : Str → Option Value} {base : Heap}
variable {CH : Addr}
/-! ### latest_begin -/
def spLatest (K : PySem.W.Frag) : Sp := sp2 fun a b H Q => ∃ (f : List Int) (t : Int), TupI K H a f ∧ 0 < f.length ∧ f.length ≤ 1000 ∧ b = .int t ∧
  ∀ m : Int, (∃ i, i < f.length ∧ m = (i : Nat) + (t - f.getD i 0) / (f.length : Int) * f.length) → (∀ i, i < f.length → (i : Nat) + (t - f.getD i 0) / (f.length : Int) * f.length ≤ m) → Then H Q (.int m)
theorem ok_latest_begin (T : Top K mg CH) {f : Addr} {fd : FuncData} (F : Def K mg "latest_begin" s_latest_begin f fd) : FnOk P w K mg base C8.CX0 1 f fd ["value", "end"] (spLatest K) := by
  refine fn2 F sc_latest_begin fun cdv A outer s H a b Q E hr h => ?_
  have nd := sc_latest_begin.nd
  obtain ⟨f, t, ⟨A1, rfl, hs⟩, h0, h1, rfl, q⟩ := h
  have ln : (f.map V.int).length = f.length := List.length_map ..
  have hn : (0 : Int) < f.length := by omega
  refine ⟨_, (pss_cons 
      (ps_set (i := 2) nd rfl (Or.inr rfl) (pe_callB (len_K (K := K) rfl) (by rfl) T.len (by decide +kernel) (pa_cons (pv 0) pa_nil))) (pss_one 
      (ps_ret (pe_callB (max_K (K := K) rfl rfl) (by rfl) T.max (by decide +kernel) (pa_cons (pe_lc (own := [("hour", 3), ("through", 4)]) rfl nd (pi_enumT (K := K) rfl (by rfl) T.enumerate (pa_cons (pv 0) pa_nil)) (blkOk_by (N := ["value", "end", "day", "hour", "through"]) (sc := fnScope s_latest_begin) (by decide +kernel)) (fun _ _ _ _ _ => (tup_K (K := K) (n := 2) rfl rfl (pgs_cons (pg_name (i := 3) nd rfl (Or.inl rfl)) (pgs_cons (pg_name (i := 4) nd rfl (Or.inl rfl)) pgs_nil)))) (fun _ _ _ _ _ => pts_nil) (fun _ _ _ _ _ => (pe_op op_addU (pv 3) (pe_op op_mul (pe_op op_fdivW (pe_op op_sub (pv 1) (pv 4)) (pv 2)) (pv 2))))) pa_nil))))), ?_⟩
  refine ⟨_, rfl, .inl ⟨A1, _, rfl, .inr hs, ?_⟩⟩
  rw [ln]
  refine ⟨_, rfl, A1, _, rfl, hs, fun D hD => ?_⟩
  refine lc_map walk_enumT (fun i => .int ((i : Nat) + (t - f.getD i 0) / (f.length : Int) * f.length)) grow_pair (by rw [ln]; omega) hD (fun H1 e => same_tup e hs) ?_ ?_
  · rintro i x H1 H2 hi e ⟨U, x1, x2, rfl, nU, rfl, g1, g2⟩ R k
    cases g1
    obtain ⟨z, g3, rfl⟩ := int_get g2
    have k := k _ (Same.refl _)
    rw [getD_of g3] at k
    exact ⟨U, _, rfl, SqT.of upd_same, rfl, _, _, rfl, _, _, rfl, rfl, rfl, _, rfl, _, rfl, _, rfl, _, _, rfl, rfl, _, rfl, _, _, rfl, rfl, ⟨hn, small_log (by omega) (by omega)⟩, _, rfl, _, _, rfl, rfl, .inr ⟨by omega, by omega⟩, .inl ⟨_, _, rfl, rfl, k⟩⟩
  · intro H1 e hd
    rw [ln] at hd
    refine ⟨D, (List.range f.length).map fun i => ((i : Nat) : Int) + (t - f.getD i 0) / (f.length : Int) * f.length, rfl, SqL.of (by rw [hd, List.map_map]; rfl), by rw [List.length_map, List.length_range]; exact h0, fun m hm hx => q m ?_ ?_ _ e⟩
    · obtain ⟨i, hi, rfl⟩ := List.mem_map.mp hm
      exact ⟨i, List.mem_range.mp hi, rfl⟩
    · exact fun i hi => hx _ (List.mem_map.mpr ⟨i, List.mem_range.mpr hi, rfl⟩)

theorem k_latest_begin_0_end_value (T : Top K mg CH) : CalK P w K mg base 1 "latest_begin" (spLatest K) 0 ["end", "value"] (fun vs zs => pick vs [] zs [(2, 1), (2, 0)]) := by
  obtain ⟨f, fd, F, df⟩ := T.d_latest_begin
  exact ⟨f, fd, _, _, ok_latest_begin T F, F.mgf, F.kp, nod_kbn (ps := ["value", "end"]) (ks := ["end", "value"]) F df 0 [(2, 1), (2, 0)] fun _ _ _ _ _ _ us ws l1 l2 => match us, ws, l1, l2 with | [], [_, _], _, _ => rfl⟩
theorem c_latest_begin (T : Top K mg CH) : Cal P w K mg base 1 "latest_begin" (spLatest K) [] := by
  obtain ⟨f, fd, F, df⟩ := T.d_latest_begin
  exact cal_of F df (ok_latest_begin T F) fun _ _ _ _ _ _ us hl => match us, hl with | [_, _], _ => rfl

end
end Fb

set_option Elab.async false
set_option linter.all false
set_option maxRecDepth 100000
set_option maxHeartbeats 4000000
namespace Fb
open PySem PySem.Spec L2
open PyProof.Rows hiding St
open C8 (Cal Met Mak Def cal0 met0 mak0 pe_c pe_mk pe_mt pe_mt0 fnScope fnBody fnArgs pss_cut tCut)
local macro_rules | `(tactic| walk_at "hp") => `(tactic| first | exact upd_same | assumption | (refine grow (by assumption) _ _ ?_; walk_at "hp") | (refine (show Same _ _ by assumption) _ _ ?_; walk_at "hp"))
local macro_rules | `(tactic| walk_at "sm") => `(tactic| first | exact Same.refl _ | assumption | (refine Same.trans ?_ (grow (by assumption)); walk_at "sm") | (refine Same.trans ?_ (show Same _ _ by assumption); walk_at "sm"))
section
variable {P : Program} {w : World} {K : PySem.W.Frag} {mg : Str → Option Value} {base : Heap}
variable {CH : Addr}
/-! ### _law_is_number -/
def spLIsNumber (K : PySem.W.Frag) : Sp := sp2 fun a b H Q => ∃ l, AnyV K H a ∧ b = .int l ∧ Q (.bl (numB a l none)) H
theorem c__law_is_number (T : Top K mg CH) : Cal P w K mg base 1 "_law_is_number" (spLIsNumber K) [] := by
  obtain ⟨f, fd, F, df⟩ := T.d__law_is_number
  refine cal_of F df (fn2 F sc__law_is_number fun cdv A outer s H a b Q E hr h => ?_) fun _ _ _ _ _ _ us hl => match us, hl with | [_, _], _ => rfl
  have nd := sc__law_is_number.nd
  obtain ⟨l, ha, rfl, q⟩ := h
  refine ⟨_, (pss_one 
      (ps_ret (pe_and (pe_callB (isi_K (K := K) rfl) (by rfl) T.isinstance (by decide +kernel) (pa_cons (pv 0) (pa_cons (pe_bltn (v := .ty "int") (by rfl) T.int (by decide +kernel) rfl) pa_nil))) (pe_and (pe_not (pe_callB (isi_K (K := K) rfl) (by rfl) T.isinstance (by decide +kernel) (pa_cons (pv 0) (pa_cons (pe_bltn (v := .ty "bool") (by rfl) T.bool (by decide +kernel) rfl) pa_nil)))) (pe_one (pe_cmpR op_geU (pv 0) (pv 1) (nomark _))))))), ?_⟩
  rcases ha.intOr with ⟨i, rfl⟩ | ⟨b, rfl⟩ | ⟨no, t, ty, kb⟩
  · refine ⟨_, rfl, .inl ⟨_, _, _, true, rfl, .base (.int i), by decide +kernel, _, rfl, iteT ?_⟩⟩
    refine ⟨_, rfl, .inl ⟨_, _, _, false, rfl, .base (.int i), by decide +kernel, _, rfl, _, rfl, iteT ?_⟩⟩
    refine ⟨_, rfl, _, rfl, _, _, rfl, rfl, ?_⟩
    rw [show numB (.int i) l none = decide (l ≤ i) from Bool.and_true _] at q
    exact q
  · refine ⟨_, rfl, .inl ⟨_, _, _, true, rfl, .base (.bl b), by decide +kernel, _, rfl, iteT ?_⟩⟩
    exact ⟨_, rfl, .inl ⟨_, _, _, true, rfl, .base (.bl b), by decide +kernel, _, rfl, _, rfl, iteF q⟩⟩
  · rw [numB_no no] at q
    exact ⟨_, rfl, .inl ⟨_, _, _, false, rfl, ty, kb, _, rfl, iteF q⟩⟩

end
end Fb

set_option Elab.async false
set_option linter.all false
set_option maxRecDepth 100000
set_option maxHeartbeats 4000000
namespace Fb
open PySem PySem.Spec L2
open PyProof.Rows hiding St
open C8 (Cal Met Mak Def cal0 met0 mak0 pe_c pe_mk pe_mt pe_mt0 fnScope fnBody fnArgs pss_cut tCut)
local macro_rules | `(tactic| walk_at "hp") => `(tactic| first | exact upd_same | assumption | (refine grow (by assumption) _ _ ?_; walk_at "hp") | (refine (show Same _ _ by assumption) _ _ ?_; walk_at "hp"))
local macro_rules | `(tactic| walk_at "sm") => `(tactic| first | exact Same.refl _ | assumption | (refine Same.trans ?_ (grow (by assumption)); walk_at "sm") | (refine Same.trans ?_ (show Same _ _ by assumption); walk_at "sm"))
section
variable {P : Program} {w : World} {K : PySem.W.Frag} {mg : Str → Option Value} {base : Heap}
variable {CH : Addr}
/-! ### read_hours -/
def spReadHours (K : PySem.W.Frag) : Sp := sp2 fun a b H Q => ∃ f t, TupI K H a f ∧ 0 < f.length ∧ f.length ≤ 1000 ∧ b = .int t ∧ Then H Q (.int (readM f t))
theorem ok_read_hours (T : Top K mg CH) {f : Addr} {fd : FuncData} (F : Def K mg "read_hours" s_read_hours f fd) : FnOk P w K mg base C8.CX0 1 f fd ["value", "t"] (spReadHours K) := by
  refine fn2 F sc_read_hours fun cdv A outer s H a b Q E hr h => ?_
  have nd := sc_read_hours.nd
  obtain ⟨f, t, ⟨A1, rfl, hs⟩, h0, h1, rfl, q⟩ := h
  have ln : (f.map V.int).length = f.length := List.length_map ..
  have hn : (0 : Int) < f.length := by omega
  refine ⟨_, (pss_cons 
      (ps_asg (pe_callB call_divmod (by rfl) T.divmod (by decide +kernel) (pa_cons (pv 1) (pa_cons (pe_callB (len_K (K := K) rfl) (by rfl) T.len (by decide +kernel) (pa_cons (pv 0) pa_nil)) pa_nil))) (tup_K (K := K) (n := 2) rfl rfl (pgs_cons (pg_name (i := 2) nd rfl (Or.inl rfl)) (pgs_cons (pg_name (i := 3) nd rfl (Or.inl rfl)) pgs_nil)))) (pss_one 
      (ps_ret (pe_op op_addU (pe_ix (ix_K (K := K) rfl) (pv 0) (pv 3) (fun _ _ => rfl)) (pe_op op_mul (pv 2) (pe_callB (len_K (K := K) rfl) (by rfl) T.len (by decide +kernel) (pa_cons (pv 0) pa_nil))))))), ?_⟩
  refine ⟨_, rfl, _, rfl, .inl ⟨A1, _, rfl, .inr hs, ?_⟩⟩
  rw [ln]
  refine ⟨_, _, rfl, ⟨hn, by omega⟩, fun p np => ?_⟩
  have e := grow (o := .tup [.int (t / f.length), .int (t % f.length)]) np
  have hs2 := same_tup e hs
  obtain ⟨m0, m1⟩ := mod_in (t := t) hn
  refine ⟨p, _, rfl, SqT.of upd_same, rfl, _, _, rfl, _, _, rfl, rfl, ?_⟩
  refine ⟨_, rfl, _, rfl, .inr (.inl ⟨A1, _, _, _, rfl, rfl, hs2, tup_at m0 m1, ?_⟩)⟩
  refine ⟨_, rfl, _, rfl, .inl ⟨A1, _, rfl, .inr hs2, ?_⟩⟩
  rw [ln]
  exact ⟨_, _, rfl, rfl, .inr ⟨by omega, by omega⟩, .inl ⟨_, _, rfl, rfl, q _ e⟩⟩

theorem k_read_hours_0_t_value (T : Top K mg CH) : CalK P w K mg base 1 "read_hours" (spReadHours K) 0 ["t", "value"] (fun vs zs => pick vs [] zs [(2, 1), (2, 0)]) := by
  obtain ⟨f, fd, F, df⟩ := T.d_read_hours
  exact ⟨f, fd, _, _, ok_read_hours T F, F.mgf, F.kp, nod_kbn (ps := ["value", "t"]) (ks := ["t", "value"]) F df 0 [(2, 1), (2, 0)] fun _ _ _ _ _ _ us ws l1 l2 => match us, ws, l1, l2 with | [], [_, _], _, _ => rfl⟩
theorem c_read_hours (T : Top K mg CH) : Cal P w K mg base 1 "read_hours" (spReadHours K) [] := by
  obtain ⟨f, fd, F, df⟩ := T.d_read_hours
  exact cal_of F df (ok_read_hours T F) fun _ _ _ _ _ _ us hl => match us, hl with | [_, _], _ => rfl

end
end Fb

set_option Elab.async false
set_option linter.all false
set_option maxRecDepth 100000
set_option maxHeartbeats 4000000
namespace Fb
open PySem PySem.Spec L2
open PyProof.Rows hiding St
open C8 (Cal Met Mak Def cal0 met0 mak0 pe_c pe_mk pe_mt pe_mt0 fnScope fnBody fnArgs pss_cut tCut)
local macro_rules | `(tactic| walk_at "hp") => `(tactic| first | exact upd_same | assumption | (refine grow (by assumption) _ _ ?_; walk_at "hp") | (refine (show Same _ _ by assumption) _ _ ?_; walk_at "hp"))
local macro_rules | `(tactic| walk_at "sm") => `(tactic| first | exact Same.refl _ | assumption | (refine Same.trans ?_ (grow (by assumption)); walk_at "sm") | (refine Same.trans ?_ (show Same _ _ by assumption); walk_at "sm"))
section
variable {P : Program} {w : World} {K : PySem.W.Frag} {mg : Str → Option Value} {base : Heap}
variable {CH : Addr}
/-! ### _law_read_so -/
def spReadSo (K : PySem.W.Frag) : Sp := sp2 fun a b H Q => ∃ (p : Addr) (f : List Int), a = .ref p ∧ BagAt H p ∧ TupI K H b f ∧ BdM f ∧ Then H Q (.bl true)
theorem c__law_read_so (T : Top K mg CH) : Cal P w K mg base 9 "_law_read_so" (spReadSo K) [] := by
  obtain ⟨f, fd, F, df⟩ := T.d__law_read_so
  refine cal_of F df (fn2 F sc__law_read_so fun cdv A outer s H a b Q E hr h => ?_) fun _ _ _ _ _ _ us hl => match us, hl with | [_, _], _ => rfl
  have nd := sc__law_read_so.nd
  obtain ⟨p, f, rfl, hb, ⟨A1, rfl, hs⟩, ⟨h0, h1, bd⟩, q⟩ := h
  have ln : (f.map V.int).length = f.length := List.length_map ..
  have tu : ∀ {G : Hp}, Same H G → TupI K G (.ref A1) f := fun e => ⟨A1, rfl, same_tup e hs⟩
  refine ⟨_, (pss_cons 
      (ps_for PassesOwn.never rfl (pi_K (K := K) rfl (pe_c (c__law_times T) hr (by decide) (by rfl) (pa_cons (pv 0) (pa_cons (pe_callB (len_K (K := K) rfl) (by rfl) T.len (by decide +kernel) (pa_cons (pv 1) pa_nil)) pa_nil)))) (pg_name (i := 2) nd rfl (Or.inl rfl)) (pss_cons 
      (ps_set (i := 3) nd rfl (Or.inl rfl) (pe_c (c__law_reading T) hr (by decide) (by rfl) (pa_cons (pv 1) (pa_cons (pv 2) pa_nil)))) (pss_cons 
      (ps_if (pt_not (pt_val (pe_c (c__law_like T) hr (by decide) (by rfl) (pa_cons (pe_lst (pa_cons (pe_c (c_read_hours T) hr (by decide) (by rfl) (pa_cons (pv 1) (pa_cons (pv 2) pa_nil))) (pa_cons (pe_kw0 (k_read_hours_0_t_value T) hr (by decide) (by rfl) (pk_cons (pv 2) (pk_cons (pv 1) pk_nil))) pa_nil))) (pa_cons (pe_lst (pa_cons (pv 3) (pa_cons (pv 3) pa_nil))) pa_nil))))) (pss_one 
      (ps_ret pe_bl)) pss_nil) (pss_cons 
      (ps_set (i := 4) nd rfl (Or.inl rfl) (pe_c (c_latest_begin T) hr (by decide) (by rfl) (pa_cons (pv 1) (pa_cons (pv 2) pa_nil)))) (pss_cons 
      (ps_if (PW.pt (pw_or (pt_not (pt_val (pe_c (c__law_like T) hr (by decide) (by rfl) (pa_cons (pe_kw0 (k_latest_begin_0_end_value T) hr (by decide) (by rfl) (pk_cons (pv 2) (pk_cons (pv 1) pk_nil))) (pa_cons (pv 4) pa_nil))))) (pw_or1 (pt_not (pt_val (pe_c (c__law_is_number T) hr (by decide) (by rfl) (pa_cons (pv 4) (pa_cons (pe_un un_neg pe_int) pa_nil)))))))) (pss_one 
      (ps_ret pe_bl)) pss_nil) (pss_one 
      (ps_if (PW.pt (pw_or (pt_cmpR op_gtU (pv 4) pe_int (nomark _)) (pw_or (pt_cmpR op_gtU (pe_c (c__law_reading T) hr (by decide) (by rfl) (pa_cons (pv 1) (pa_cons (pv 4) pa_nil))) (pv 2) (nomark _)) (pw_or1 (pt_cmpR op_leU (pe_c (c__law_reading T) hr (by decide) (by rfl) (pa_cons (pv 1) (pa_cons (pe_op op_addU (pv 4) pe_int) pa_nil))) (pv 2) (nomark _)))))) (pss_one 
      (ps_ret pe_bl)) pss_nil))))))) (pss_one 
      (ps_ret pe_bl))), ?_⟩
  refine ⟨_, rfl, _, rfl, .inl ⟨A1, _, rfl, .inr hs, ?_⟩⟩
  rw [ln]
  refine ⟨_, _, rfl, p, f.length, rfl, hb, rfl, h0, h1, fun H1 D cs e1 hD hz => ?_⟩
  refine .inl ⟨D, rfl, ⟨_, SqL.of hD⟩, ?_⟩
  refine for_it (walk_list (xs := cs.map V.int)) (fun i σ H' => Same H1 H' ∧ ∃ y2 y3 y4, σ = [some (.ref p), some (.ref A1), y2, y3, y4]) ⟨Same.refl _, _, _, _, rfl⟩ ?_ ?_ ?_
  · rintro i σ H' _ ⟨e, _⟩
    exact SqL.of (e _ _ hD)
  · rintro i x σ H2 H3 hi ⟨e2, y2, y3, y4, rfl⟩ ⟨rfl, hx⟩
    obtain ⟨t, ht, rfl⟩ := int_get hx
    obtain ⟨t0, t1⟩ := hz t (List.mem_of_getElem? ht)
    have e3 := e1.trans e2
    -- due
    refine ⟨_, rfl, _, rfl, _, _, rfl, f, t, tu e3, h0, by omega, rfl, ?_⟩
    -- read_hours, by place and by name
    refine ⟨_, rfl, _, rfl, _, _, rfl, f, t, tu e3, h0, by omega, rfl, fun G1 g1 => ?_⟩
    refine ⟨_, rfl, _, rfl, rfl, rfl, _, _, rfl, f, t, tu (e3.trans g1), h0, by omega, rfl, fun G2 g2 => ⟨Nat.le_of_ble_eq_true rfl, fun L1 n1 => ?_⟩⟩
    refine ⟨_, rfl, _, rfl, Nat.le_of_ble_eq_true rfl, fun L2 n2 => ?_⟩
    refine ⟨_, _, rfl, .list [.int (readM f t), .int (readM f t)], ⟨Nat.le_of_ble_eq_true rfl, ?_⟩, .lst (SqL.of ((grow n2) _ _ upd_same)) (.cons (.int _) (.cons (.int _) .nil)), .lst (SqL.of upd_same) (.cons (.int _) (.cons (.int _) .nil)), fun G3 g3 => ⟨_, rfl, iteF ?_⟩⟩
    · intro d hd
      simp only [List.mem_cons, List.not_mem_nil, or_false, or_self] at hd
      subst hd
      trivial
    have e4 : Same H G3 := (((e3.trans g1).trans g2).trans ((grow n1).trans (grow n2))).trans g3
    have e5 : Same H3 G3 := ((g1.trans g2).trans ((grow n1).trans (grow n2))).trans g3
    clear g3 n2 n1 g2 g1
    -- begin_y
    refine ⟨_, rfl, _, rfl, _, _, rfl, f, t, tu e4, h0, by omega, rfl, fun m hm hx => fun G4 g4 => ?_⟩
    obtain ⟨le, lt⟩ := latest h0 hm hx
    have mb : -2000000 ≤ m ∧ m ≤ 2000000 := by
      obtain ⟨i, hi, rfl⟩ := hm
      exact latest_bound h0 (by omega) hi (bd i hi).1 (by have := (bd i hi).2; omega) t0 t1
    refine ⟨_, rfl, _, rfl, rfl, rfl, _, _, rfl, f, t, tu (e4.trans g4), h0, by omega, rfl, fun m2 hm2 hx2 => fun G5 g5 => ?_⟩
    have em : m2 = m := by
      obtain ⟨i, hi, r1⟩ := hm
      obtain ⟨j, hj, r2⟩ := hm2
      have a := hx j hj
      have b := hx2 i hi
      omega
    subst em
    refine ⟨_, rfl, _, _, rfl, .int m2, trivial, .int _, .int _, fun G6 g6 => ⟨_, rfl, iteF ?_⟩⟩
    refine ⟨_, rfl, _, rfl, _, _, rfl, -2000000, any_int _, rfl, ?_⟩
    rw [show numB (.int m2) (-2000000) none = true by show (decide ((-2000000 : Int) ≤ m2) && true) = true; rw [decide_eq_true mb.1]; rfl]
    refine ⟨_, rfl, iteF ?_⟩
    have e6 := ((e4.trans g4).trans g5).trans g6
    -- the three bounds
    refine ⟨_, rfl, _, _, rfl, rfl, _, rfl, ite2 (fun h => absurd (of_decide_eq_true h) (by omega)) (fun _ => ?_)⟩
    refine ⟨_, rfl, _, rfl, _, _, rfl, f, m2, tu e6, h0, by omega, rfl, _, rfl, _, _, rfl, rfl, _, rfl, ite2 (fun h => absurd (of_decide_eq_true h) (by omega)) (fun _ => ?_)⟩
    refine ⟨_, rfl, _, rfl, .inl ⟨_, _, rfl, rfl, _, _, rfl, f, m2 + 1, tu e6, h0, by omega, rfl, _, rfl, .inl ⟨_, _, rfl, rfl, _, rfl, ite2 (fun h => absurd (of_decide_eq_true h) (by omega)) (fun _ => ?_)⟩⟩⟩
    exact ⟨((e2.trans e5).trans g4).trans (g5.trans g6), _, _, _, rfl⟩
  · rintro σ H2 ⟨e2, y2, y3, y4, rfl⟩
    exact q _ (e1.trans e2)

end
end Fb

set_option Elab.async false
set_option linter.all false
set_option maxRecDepth 100000
set_option maxHeartbeats 4000000
namespace Fb
open PySem PySem.Spec L2
open PyProof.Rows hiding St
open C8 (Cal Met Mak Def cal0 met0 mak0 pe_c pe_mk pe_mt pe_mt0 fnScope fnBody fnArgs pss_cut tCut)
local macro_rules | `(tactic| walk_at "hp") => `(tactic| first | exact upd_same | assumption | (refine grow (by assumption) _ _ ?_; walk_at "hp") | (refine (show Same _ _ by assumption) _ _ ?_; walk_at "hp"))
local macro_rules | `(tactic| walk_at "sm") => `(tactic| first | exact Same.refl _ | assumption | (refine Same.trans ?_ (grow (by assumption)); walk_at "sm") | (refine Same.trans ?_ (show Same _ _ by assumption); walk_at "sm"))
section
variable {P : Program} {w : World} {K : PySem.W.Frag} {mg : Str → Option Value} {base : Heap}
variable {CH : Addr}
/-! ### Hours.then -/
def spThen (K : PySem.W.Frag) : Sp := sp3 fun _ b c H Q => ∃ f g : List Int, TupI K H b f ∧ TupI K H c g ∧ 0 < g.length ∧ g.length ≤ 1000 ∧ f.length ≤ 1000 ∧
  ∀ H' v, Same H H' → TupI K H' v (f.map (readM g)) → Q v H'
theorem c_Hours_then (T : Top K mg CH) : Met P w K mg base 2 CH "then" (spThen K) [] := by
  obtain ⟨f, fd, me, F, df⟩ := T.d_Hours_then
  refine ⟨f, fd, ["self", "one", "other"], [], T.cl_Hours, me, ?_, F.binds df fun _ _ _ _ _ _ us hl => match us, hl with | [_, _, _], _ => rfl, .nil⟩
  refine fm3 F sc_Hours_then fun cdv A outer s H a b c Q E hr h => ?_
  have nd := sc_Hours_then.nd
  obtain ⟨f, g, ⟨A1, rfl, hs⟩, ⟨A2, rfl, hs2⟩, h0, h1, h2, k⟩ := h
  have ln : (f.map V.int).length = f.length := List.length_map ..
  refine ⟨_, (pss_cons 
      (ps_if (PW.pt (pw_or (pt_cmpR op_isN (pv 1) pe_non (nomark _)) (pw_or1 (pt_cmpR op_isN (pv 2) pe_non (nomark _))))) (pss_one 
      (ps_ret pe_non)) pss_nil) (pss_one 
      (ps_ret (pe_callTy (tupleOf_K (K := K) rfl) (by rfl) T.tuple (by decide +kernel) (pa_cons (pe_lc (own := [("through", 3)]) rfl nd (pi_K (K := K) rfl (pv 1)) (blkOk_by (N := ["self", "one", "other", "through"]) (sc := fnScope s_Hours_then) (by decide +kernel)) (fun _ _ _ _ _ => (pg_name (i := 3) nd rfl (Or.inl rfl))) (fun _ _ _ _ _ => pts_nil) (fun _ _ _ _ _ => (pe_c (c_read_hours T) hr (by decide) (by rfl) (pa_cons (pv 2) (pa_cons (pv 3) pa_nil))))) pa_nil))))), ?_⟩
  refine ⟨_, rfl, rfl, _, rfl, iteF ⟨_, rfl, rfl, _, rfl, iteF ?_⟩⟩
  refine ⟨_, rfl, .inr (.inl ⟨A1, rfl, ⟨_, hs⟩, fun D hD => ?_⟩)⟩
  refine lc_map walk_tup (fun i => .int (readM g (f.getD i 0))) grow_at (by omega) hD (fun H1 e => same_tup e hs) ?_ ?_
  · rintro i x H1 H2 hi e ⟨rfl, g1⟩ R q
    obtain ⟨z, g3, rfl⟩ := int_get g1
    rw [getD_of g3] at q
    exact ⟨rfl, _, rfl, _, rfl, _, _, rfl, g, z, ⟨A2, rfl, same_tup e hs2⟩, h0, h1, rfl, q⟩
  · intro H1 e hd
    rw [ln, map_range_get 0 (fun z => V.int (readM g z)) f] at hd
    exact ⟨D, _, rfl, .inl ⟨SqL.of hd, fun l nl => k _ _ (e.trans (grow nl)) ⟨l, rfl, SqT.of (by rw [upd_same, List.map_map]; rfl)⟩⟩⟩

end
end Fb

set_option Elab.async false
set_option linter.all false
set_option maxRecDepth 100000
set_option maxHeartbeats 4000000
namespace Fb
open PySem PySem.Spec L2
open PyProof.Rows hiding St
open C8 (Cal Met Mak Def cal0 met0 mak0 pe_c pe_mk pe_mt pe_mt0 fnScope fnBody fnArgs pss_cut tCut)
local macro_rules | `(tactic| walk_at "hp") => `(tactic| first | exact upd_same | assumption | (refine grow (by assumption) _ _ ?_; walk_at "hp") | (refine (show Same _ _ by assumption) _ _ ?_; walk_at "hp"))
local macro_rules | `(tactic| walk_at "sm") => `(tactic| first | exact Same.refl _ | assumption | (refine Same.trans ?_ (grow (by assumption)); walk_at "sm") | (refine Same.trans ?_ (show Same _ _ by assumption); walk_at "sm"))
section
variable {P : Program} {w : World} {K : PySem.W.Frag} {mg : Str → Option Value} {base : Heap}
variable {CH : Addr}
/-! ### Hours.best -/
def spBest (K : PySem.W.Frag) : Sp := sp3 fun _ b c H Q => ∃ f g : List Int, TupI K H b f ∧ TupI K H c g ∧ f.length = g.length ∧ f.length ≤ 1000 ∧
  ∀ H' v, Same H H' → TupI K H' v ((List.range f.length).map fun i => if g.getD i 0 < f.getD i 0 then g.getD i 0 else f.getD i 0) → Q v H'
theorem c_Hours_best (T : Top K mg CH) : Met P w K mg base 1 CH "best" (spBest K) [] := by
  obtain ⟨f, fd, me, F, df⟩ := T.d_Hours_best
  refine ⟨f, fd, ["self", "one", "other"], [], T.cl_Hours, me, ?_, F.binds df fun _ _ _ _ _ _ us hl => match us, hl with | [_, _, _], _ => rfl, .nil⟩
  refine fm3 F sc_Hours_best fun cdv A outer s H a b c Q E hr h => ?_
  have nd := sc_Hours_best.nd
  obtain ⟨f, g, ⟨A1, rfl, hs⟩, ⟨A2, rfl, hs2⟩, hl, h1, k⟩ := h
  have ln : (f.map V.int).length = f.length := List.length_map ..
  have ln2 : (g.map V.int).length = g.length := List.length_map ..
  refine ⟨_, (pss_cons 
      (ps_if (pt_cmpR op_isN (pv 1) pe_non (nomark _)) (pss_one 
      (ps_ret (pv 2))) pss_nil) (pss_cons 
      (ps_if (pt_cmpR op_isN (pv 2) pe_non (nomark _)) (pss_one 
      (ps_ret (pv 1))) pss_nil) (pss_one 
      (ps_ret (pe_callTy (tupleOf_K (K := K) rfl) (by rfl) T.tuple (by decide +kernel) (pa_cons (pe_lc (own := [("left", 3), ("right", 4)]) rfl nd (zip_K (K := K) rfl (by rfl) T.zip (pa_cons (pv 1) (pa_cons (pv 2) pa_nil))) (blkOk_by (N := ["self", "one", "other", "left", "right"]) (sc := fnScope s_Hours_best) (by decide +kernel)) (fun _ _ _ _ _ => (tup_K (K := K) (n := 2) rfl rfl (pgs_cons (pg_name (i := 3) nd rfl (Or.inl rfl)) (pgs_cons (pg_name (i := 4) nd rfl (Or.inl rfl)) pgs_nil)))) (fun _ _ _ _ _ => pts_nil) (fun _ _ _ _ _ => (pe_callB (call_min2 rfl) (by rfl) T.min (by decide +kernel) (pa_cons (pv 3) (pa_cons (pv 4) pa_nil))))) pa_nil)))))), ?_⟩
  refine ⟨_, rfl, rfl, _, rfl, iteF ⟨_, rfl, rfl, _, rfl, iteF ?_⟩⟩
  refine ⟨_, rfl, _, rfl, _, _, _, _, rfl, .inr ⟨hs, hs2, fun D hD => ?_⟩⟩
  refine lc_map (walk_zipT (n := f.length) (by omega)) (fun i => .int (if g.getD i 0 < f.getD i 0 then g.getD i 0 else f.getD i 0)) grow_pair (by omega) hD (fun H1 e => ⟨same_tup e hs, same_tup e hs2⟩) ?_ ?_
  · rintro i x H1 H2 hi e ⟨U, x1, x2, rfl, nU, rfl, g1, g2⟩ R q
    obtain ⟨z1, g3, rfl⟩ := int_get g1
    obtain ⟨z2, g4, rfl⟩ := int_get g2
    have q := q _ (Same.refl _)
    rw [getD_of g3, getD_of g4] at q
    exact ⟨U, _, rfl, SqT.of upd_same, rfl, _, _, rfl, _, _, rfl, rfl, rfl, _, rfl, _, rfl, _, _, rfl, q⟩
  · intro H1 e hd
    exact ⟨D, _, rfl, .inl ⟨SqL.of hd, fun l nl => k _ _ (e.trans (grow nl)) ⟨l, rfl, SqT.of (by rw [upd_same, List.map_map]; rfl)⟩⟩⟩

end
end Fb

set_option Elab.async false
set_option linter.all false
set_option maxRecDepth 100000
set_option maxHeartbeats 4000000
namespace Fb
open PySem PySem.Spec L2
open PyProof.Rows hiding St
open C8 (Cal Met Mak Def cal0 met0 mak0 pe_c pe_mk pe_mt pe_mt0 fnScope fnBody fnArgs pss_cut tCut)
local macro_rules | `(tactic| walk_at "hp") => `(tactic| first | exact upd_same | assumption | (refine grow (by assumption) _ _ ?_; walk_at "hp") | (refine (show Same _ _ by assumption) _ _ ?_; walk_at "hp"))
local macro_rules | `(tactic| walk_at "sm") => `(tactic| first | exact Same.refl _ | assumption | (refine Same.trans ?_ (grow (by assumption)); walk_at "sm") | (refine Same.trans ?_ (show Same _ _ by assumption); walk_at "sm"))
section
variable {P : Program} {w : World} {K : PySem.W.Frag} {mg : Str → Option Value} {base : Heap}
variable {CH : Addr}
/-! ### never_falls -/
def spNeverFalls (K : PySem.W.Frag) : Sp := sp1 fun a H Q => ∃ f : List Int, TupI K H a f ∧ 0 < f.length ∧ f.length ≤ 1000 ∧ (∀ i, i + 1 < f.length → f.getD i 0 ≤ f.getD (i + 1) 0) ∧ Then H Q (.bl true)
theorem c_never_falls (T : Top K mg CH) : Cal P w K mg base 1 "never_falls" (spNeverFalls K) [] := by
  obtain ⟨f, fd, F, df⟩ := T.d_never_falls
  refine cal_of F df (fn1 F sc_never_falls fun cdv A outer s H a Q E hr h => ?_) fun _ _ _ _ _ _ us hl => match us, hl with | [_], _ => rfl
  have nd := sc_never_falls.nd
  obtain ⟨f, ⟨A1, rfl, hs⟩, h0, h1, hf, q⟩ := h
  have ln : (f.map V.int).length = f.length := List.length_map ..
  obtain ⟨s1, s2⟩ := cut_tail h0
  refine ⟨_, (pss_one 
      (ps_ret (pe_callB (all_K (K := K) rfl rfl) (by rfl) T.all (by decide +kernel) (pa_cons (pe_lc (own := [("left", 1), ("right", 2)]) rfl nd (zip_K (K := K) rfl (by rfl) T.zip (pa_cons (pv 0) (pa_cons (pe_slice (slT_K (K := K) rfl) (pv 0) (po_some pe_int) po_none) pa_nil))) (blkOk_by (N := ["value", "left", "right"]) (sc := fnScope s_never_falls) (by decide +kernel)) (fun _ _ _ _ _ => (tup_K (K := K) (n := 2) rfl rfl (pgs_cons (pg_name (i := 1) nd rfl (Or.inl rfl)) (pgs_cons (pg_name (i := 2) nd rfl (Or.inl rfl)) pgs_nil)))) (fun _ _ _ _ _ => pts_nil) (fun _ _ _ _ _ => (pe_cmpR op_leU (pv 1) (pv 2) (nomark _)))) pa_nil)))), ?_⟩
  refine ⟨_, rfl, _, rfl, _, rfl, A1, _, rfl, hs, fun z => absurd (s1.symm.trans z.1) (by decide), fun p np => ?_⟩
  rw [s2]
  have e0 := grow (o := .tup ((f.drop 1).map V.int)) np
  have ld : ((f.drop 1).map V.int).length = f.length - 1 := by rw [List.length_map, List.length_drop]
  refine ⟨_, _, _, _, rfl, .inr ⟨same_tup e0 hs, SqT.of upd_same, fun D hD => ?_⟩⟩
  refine lc_map (walk_zipT (n := f.length - 1) (by omega)) (fun _ => .bl true) grow_pair (by omega) hD (fun H1 e => ⟨same_tup (e0.trans e) hs, same_tup e (SqT.of upd_same)⟩) ?_ ?_
  · rintro i x H1 H2 hi e ⟨U, x1, x2, rfl, nU, rfl, g1, g2⟩ R k
    obtain ⟨z1, g3, rfl⟩ := int_get g1
    obtain ⟨z2, g4, rfl⟩ := int_get g2
    rw [List.getElem?_drop, Nat.add_comm] at g4
    have le := hf i (by omega)
    rw [getD_of g3, getD_of g4] at le
    have k := k _ (Same.refl _)
    refine ⟨U, _, rfl, SqT.of upd_same, rfl, _, _, rfl, _, _, rfl, rfl, rfl, _, rfl, _, rfl, .inl ⟨_, _, rfl, rfl, ?_⟩⟩
    show R (.bl (decide (z1 ≤ z2))) _
    rw [decide_eq_true le]
    exact k
  · intro H1 e hd
    refine ⟨D, (List.range (f.length - 1)).map fun _ => true, rfl, SqL.of (by rw [hd, List.map_map]; rfl), ?_⟩
    rw [all_true]
    exact q _ (e0.trans e)

end
end Fb

set_option Elab.async false
set_option linter.all false
set_option maxRecDepth 100000
set_option maxHeartbeats 4000000
namespace Fb
open PySem PySem.Spec L2
open PyProof.Rows hiding St
open C8 (Cal Met Mak Def cal0 met0 mak0 pe_c pe_mk pe_mt pe_mt0 fnScope fnBody fnArgs pss_cut tCut)
local macro_rules | `(tactic| walk_at "hp") => `(tactic| first | exact upd_same | assumption | (refine grow (by assumption) _ _ ?_; walk_at "hp") | (refine (show Same _ _ by assumption) _ _ ?_; walk_at "hp"))
local macro_rules | `(tactic| walk_at "sm") => `(tactic| first | exact Same.refl _ | assumption | (refine Same.trans ?_ (grow (by assumption)); walk_at "sm") | (refine Same.trans ?_ (show Same _ _ by assumption); walk_at "sm"))
section
variable {P : Program} {w : World} {K : PySem.W.Frag} {mg : Str → Option Value} {base : Heap}
variable {CH : Addr}
/-! ### Hours.is_value -/
def spIsValue (K : PySem.W.Frag) (CH : Addr) : Sp := sp2 fun a b H Q => ∃ (p : Addr) (f : List Int), a = .ref p ∧ HoursAt CH H p f.length ∧ TupI K H b f ∧ 0 < f.length ∧ f.length ≤ 1000 ∧
  (∀ i, i < f.length → (i : Int) ≤ f.getD i 0) ∧ (∀ i, i + 1 < f.length → f.getD i 0 ≤ f.getD (i + 1) 0) ∧ f.getD (f.length - 1) 0 ≤ f.getD 0 0 + f.length ∧ Then H Q (.bl true)
theorem c_Hours_is_value (T : Top K mg CH) : Met P w K mg base 2 CH "is_value" (spIsValue K CH) [] := by
  obtain ⟨f, fd, me, F, df⟩ := T.d_Hours_is_value
  refine ⟨f, fd, ["self", "value"], [], T.cl_Hours, me, ?_, F.binds df fun _ _ _ _ _ _ us hl => match us, hl with | [_, _], _ => rfl, .nil⟩
  refine fm2 F sc_Hours_is_value fun cdv A outer s H a b Q E hr h => ?_
  have nd := sc_Hours_is_value.nd
  obtain ⟨p, f, rfl, ho, ⟨A1, rfl, hs⟩, h0, h1, hlo, hf, hl, q⟩ := h
  obtain ⟨dx, t, hp, ht⟩ := id ho
  have ln : (f.map V.int).length = f.length := List.length_map ..
  refine ⟨_, (pss_cons 
      (ps_if (PW.pt (pw_or (pt_not (pt_val (pe_callB (isi_K (K := K) rfl) (by rfl) T.isinstance (by decide +kernel) (pa_cons (pv 1) (pa_cons (pe_bltn (v := .ty "tuple") (by rfl) T.tuple (by decide +kernel) rfl) pa_nil))))) (pw_or1 (pt_cmpR (ne_K (K := K) rfl hr) (pe_callB (len_K (K := K) rfl) (by rfl) T.len (by decide +kernel) (pa_cons (pv 1) pa_nil)) (pe_fld (pv 0) rfl) (nomark _))))) (pss_one 
      (ps_ret pe_bl)) pss_nil) (pss_cons 
      (ps_if (pt_not (pt_val (pe_callB (all_K (K := K) rfl rfl) (by rfl) T.all (by decide +kernel) (pa_cons (pe_lc (own := [("t", 2), ("through", 3)]) rfl nd (pi_enumT (K := K) rfl (by rfl) T.enumerate (pa_cons (pv 1) pa_nil)) (blkOk_by (N := ["self", "value", "t", "through"]) (sc := fnScope s_Hours_is_value) (by decide +kernel)) (fun _ _ _ _ _ => (tup_K (K := K) (n := 2) rfl rfl (pgs_cons (pg_name (i := 2) nd rfl (Or.inl rfl)) (pgs_cons (pg_name (i := 3) nd rfl (Or.inl rfl)) pgs_nil)))) (fun _ _ _ _ _ => pts_nil) (fun _ _ _ _ _ => (pe_c (c_is_number_2 T) hr (by decide) (by rfl) (pa_cons (pv 3) (pa_cons (pv 2) pa_nil))))) pa_nil)))) (pss_one 
      (ps_ret pe_bl)) pss_nil) (pss_one 
      (ps_ret (pe_and (pe_c (c_never_falls T) hr (by decide) (by rfl) (pa_cons (pv 1) pa_nil)) (pe_one (pe_cmpR op_leU (pe_ix (ix_K (K := K) rfl) (pv 1) (pe_un un_neg pe_int) (fun _ _ => rfl)) (pe_op op_addU (pe_ix (ix_K (K := K) rfl) (pv 1) pe_int (fun _ _ => rfl)) (pe_fld (pv 0) rfl)) (nomark _)))))))), ?_⟩
  refine ⟨_, rfl, .inl ⟨_, _, _, true, rfl, sqt_ty hs, by decide +kernel, _, rfl, iteF ?_⟩⟩
  refine ⟨_, rfl, .inl ⟨A1, _, rfl, .inr hs, ?_⟩⟩
  rw [ln]
  refine ⟨_, rfl, p, CH, dx, _, _, rfl, hp, T.cl_Hours, T.na_day, hfl_day _ _, .inl ⟨rfl, _, rfl, ?_⟩⟩
  rw [decide_eq_true (rfl : V.int (f.length : Int) = V.int f.length)]
  refine iteF ?_
  refine ⟨_, rfl, A1, _, rfl, hs, fun D hD => ?_⟩
  refine lc_map walk_enumT (fun _ => .bl true) grow_pair (by rw [ln]; omega) hD (fun H1 e => same_tup e hs) ?_ ?_
  · rintro i x H1 H2 hi e ⟨U, x1, x2, rfl, nU, rfl, g1, g2⟩ R k
    cases g1
    obtain ⟨z, g3, rfl⟩ := int_get g2
    rw [ln] at hi
    have le := hlo i hi
    rw [getD_of g3] at le
    have k := k _ (Same.refl _)
    refine ⟨U, _, rfl, SqT.of upd_same, rfl, _, _, rfl, _, _, rfl, rfl, rfl, _, rfl, _, rfl, _, _, _, rfl, (i : Nat), none, any_int _, rfl, rfl, ?_⟩
    rw [show numB (.int z) (i : Nat) none = true by show (decide (((i : Nat) : Int) ≤ z) && true) = true; rw [decide_eq_true le]; rfl]
    exact k
  · intro H1 e hd
    rw [ln] at hd
    refine ⟨D, (List.range f.length).map fun _ => true, rfl, SqL.of (by rw [hd, List.map_map]; rfl), ?_⟩
    rw [all_true]
    refine ⟨_, rfl, iteF ?_⟩
    refine ⟨_, rfl, _, rfl, f, ⟨A1, rfl, same_tup e hs⟩, h0, h1, hf, fun H2 e2 => ⟨_, rfl, iteT ?_⟩⟩
    have e3 := e.trans e2
    refine ⟨_, rfl, _, rfl, .inr (.inl ⟨A1, _, _, _, rfl, rfl, same_tup e3 hs, tup_last h0, ?_⟩)⟩
    refine ⟨_, rfl, .inr (.inl ⟨A1, _, _, _, rfl, rfl, same_tup e3 hs, tup_at (i := 0) (by omega) (by omega), ?_⟩)⟩
    refine ⟨_, rfl, p, CH, dx, _, _, rfl, e3 _ _ hp, T.cl_Hours, T.na_day, hfl_day _ _, .inl ⟨_, _, rfl, rfl, .inl ⟨_, _, rfl, rfl, ?_⟩⟩⟩
    show Q (.bl (decide (f.getD (f.length - 1) 0 ≤ f.getD (Int.toNat 0) 0 + (f.length : Int)))) H2
    rw [decide_eq_true (show f.getD (f.length - 1) 0 ≤ f.getD (Int.toNat 0) 0 + f.length from hl)]
    exact q _ e3

end
end Fb

set_option Elab.async false
set_option linter.all false
set_option maxRecDepth 100000
set_option maxHeartbeats 4000000
namespace Fb
open PySem PySem.Spec L2
open PyProof.Rows hiding St
open C8 (Cal Met Mak Def cal0 met0 mak0 pe_c pe_mk pe_mt pe_mt0 fnScope fnBody fnArgs pss_cut tCut)
local macro_rules | `(tactic| walk_at "hp") => `(tactic| first | exact upd_same | assumption | (refine grow (by assumption) _ _ ?_; walk_at "hp") | (refine (show Same _ _ by assumption) _ _ ?_; walk_at "hp"))
local macro_rules | `(tactic| walk_at "sm") => `(tactic| first | exact Same.refl _ | assumption | (refine Same.trans ?_ (grow (by assumption)); walk_at "sm") | (refine Same.trans ?_ (show Same _ _ by assumption); walk_at "sm"))
section
variable {P : Program} {w : World} {K : PySem.W.Frag} {mg : Str → Option Value} {base : Heap}
variable {CH : Addr}
/-! ### law -/
def spLaw1 (K : PySem.W.Frag) : Sp := sp1 fun a H Q => ∃ (l : Addr) (ns : List Int), a = .ref l ∧ SqL K H l (ns.map V.int) ∧ ∀ H', Q (.bl true) H'
theorem ok_law (T : Top K mg CH) {f : Addr} {fd : FuncData} (F : Def K mg "law" s_law f fd) : FnOk P w K mg base C8.CX0 10 f fd ["script"] (spLaw1 K) := by
  refine fn1 F sc_law fun cdv A outer s H a Q E hr h => ?_
  have nd := sc_law.nd
  obtain ⟨l, ns, rfl, hs, k⟩ := h
  refine ⟨_, (pss_cons 
      (ps_set (i := 1) nd rfl (Or.inl rfl) (pe_c (c__law_bag T) hr (by decide) (by rfl) (pa_cons (pv 0) pa_nil))) (pss_cons 
      (ps_for PassesOwn.never rfl (pi_range1 (by rfl) T.range (pa_cons pe_int pa_nil)) (pg_name (i := 2) nd rfl (Or.inl rfl)) (pss_cons 
      (ps_set (i := 3) nd rfl (Or.inl rfl) (pe_c (c__law_of T) hr (by decide) (by rfl) (pa_cons (pv 1) (pa_cons (pe_lst (pa_cons pe_int (pa_cons pe_int (pa_cons pe_int (pa_cons pe_int (pa_cons pe_int (pa_cons pe_int (pa_cons pe_int (pa_cons pe_int (pa_cons pe_int (pa_cons pe_int (pa_cons pe_int pa_nil)))))))))))) pa_nil)))) (pss_cons 
      (ps_set (i := 4) nd rfl (Or.inl rfl) (pe_mk (c_Hours___init__ T) hr (by decide) (by rfl) (pa_cons (pv 3) pa_nil))) (pss_cons 
      (ps_set (i := 5) nd rfl (Or.inl rfl) (pe_lst (pa_cons (pe_fld (pv 4) rfl) (pa_cons (pe_c (c__law_hours T) hr (by decide) (by rfl) (pa_cons (pv 1) (pa_cons (pv 3) pa_nil))) pa_nil)))) (pss_cut 
      (ps_for PassesOwn.never rfl (pi_range1 (by rfl) T.range (pa_cons pe_int pa_nil)) (pg_name (i := 6) nd rfl (Or.inl rfl)) (pss_cons 
      (ps_set (i := 10) nd rfl (Or.inl rfl) (pe_c (c__law_windows T) hr (by decide) (by rfl) (pa_cons (pv 1) (pa_cons (pv 3) pa_nil)))) (pss_cons 
      (ps_set (i := 11) nd rfl (Or.inl rfl) (pe_c (c__law_of T) hr (by decide) (by rfl) (pa_cons (pv 1) (pa_cons (pe_lst (pa_cons pe_int (pa_cons pe_int (pa_cons pe_int (pa_cons pe_int (pa_cons pe_int (pa_cons pe_int (pa_cons (pv 3) (pa_cons pe_int (pa_cons (pe_c (c__law_draw T) hr (by decide) (by rfl) (pa_cons (pv 1) (pa_cons pe_int pa_nil))) pa_nil)))))))))) pa_nil)))) (pss_cut 
      (ps_set (i := 12) nd rfl (Or.inl rfl) (pe_ifExp (pt_cmpR op_isN (pv 10) pe_non (nomark _)) pe_non (pe_callTy (listOf_K (K := K) rfl) (by rfl) T.list (by decide +kernel) (pa_cons (pv 10) pa_nil)))) (pss_cons 
      (ps_set (i := 13) nd rfl (Or.inr rfl) (pe_c (c__law_walk T) hr (by decide) (by rfl) (pa_cons (pv 3) (pa_cons (pv 10) (pa_cons (pv 11) pa_nil))))) (pss_cons 
      (ps_set (i := 14) nd rfl (Or.inl rfl) (pe_lst (pa_cons (pe_c (c_hours_of T) hr (by decide) (by rfl) (pa_cons (pv 3) (pa_cons (pv 10) (pa_cons (pv 11) pa_nil)))) (pa_cons (pe_kw0 (k_hours_of_0_ticks_windows_day T) hr (by decide) (by rfl) (pk_cons (pv 11) (pk_cons (pv 10) (pk_cons (pv 3) pk_nil)))) pa_nil)))) (pss_cut 
      (ps_if (pt_cmpR op_notN (pv 10) pe_non (nomark _)) (pss_one 
      (ps_expr (pe_bm PySem.F.plainAttrs_list PySem.F.slot_list_append PySem.F.type_list_append mt_append (pv 14) (pa_cons (pe_c (c_hours_of T) hr (by decide) (by rfl) (pa_cons (pv 3) (pa_cons (pe_callTy (tupleOf_K (K := K) rfl) (by rfl) T.tuple (by decide +kernel) (pa_cons (pv 10) pa_nil)) (pa_cons (pv 11) pa_nil)))) pa_nil)))) pss_nil) (pss_cons 
      (ps_if (PW.pt (pw_or (pt_not (pt_val (pe_c (c__law_like T) hr (by decide) (by rfl) (pa_cons (pv 14) (pa_cons (pe_lc (own := [("x", 17)]) rfl nd (pi_K (K := K) rfl (pv 14)) (blkOk_by (N := ["script", "bag", "turn", "span_y", "made", "found", "k", "joined", "lower", "f", "wins", "more", "held", "due", "told", "g", "t_y", "x", "y"]) (sc := fnScope s_law) (by decide +kernel)) (fun _ _ _ _ _ => (pg_name (i := 17) nd rfl (Or.inl rfl))) (fun _ _ _ _ _ => pts_nil) (fun _ _ _ _ _ => (pv 13))) pa_nil))))) (pw_or1 (pt_not (pt_val (pe_c (c__law_like T) hr (by decide) (by rfl) (pa_cons (pv 10) (pa_cons (pv 12) pa_nil)))))))) (pss_one 
      (ps_ret pe_bl)) pss_nil) (pss_one 
      (ps_if (pt_cmpR op_notN (pv 13) pe_non (nomark _)) (pss_cons 
      (ps_expr (pe_bm PySem.F.plainAttrs_list PySem.F.slot_list_append PySem.F.type_list_append mt_append (pv 5) (pa_cons (pv 13) pa_nil))) (pss_one 
      (ps_if (pt_not (pt_val (pe_c (c__law_like T) hr (by decide) (by rfl) (pa_cons (pe_mt (c_Hours_is_value T) hr (by decide) (pv 4) (pa_cons (pv 13) pa_nil)) (pa_cons pe_bl pa_nil))))) (pss_one 
      (ps_ret pe_bl)) pss_nil))) pss_nil)))))))))) (pss_cons 
      (ps_asg (pe_tup (pa_cons (pe_c (c__law_of T) hr (by decide) (by rfl) (pa_cons (pv 1) (pa_cons (pv 5) pa_nil))) (pa_cons (pe_c (c__law_of T) hr (by decide) (by rfl) (pa_cons (pv 1) (pa_cons (pv 5) pa_nil))) pa_nil))) (tup_K (K := K) (n := 2) rfl rfl (pgs_cons (pg_name (i := 9) nd rfl (Or.inl rfl)) (pgs_cons (pg_name (i := 15) nd rfl (Or.inr rfl)) pgs_nil)))) (pss_cons 
      (ps_set (i := 7) nd rfl (Or.inl rfl) (pe_callTy (tupleOf_K (K := K) rfl) (by rfl) T.tuple (by decide +kernel) (pa_cons (pe_lc (own := [("t_y", 16)]) rfl nd (pi_K (K := K) rfl (pv 9)) (blkOk_by (N := ["script", "bag", "turn", "span_y", "made", "found", "k", "joined", "lower", "f", "wins", "more", "held", "due", "told", "g", "t_y", "x", "y"]) (sc := fnScope s_law) (by decide +kernel)) (fun _ _ _ _ _ => (pg_name (i := 16) nd rfl (Or.inl rfl))) (fun _ _ _ _ _ => pts_nil) (fun _ _ _ _ _ => (pe_c (c__law_reading T) hr (by decide) (by rfl) (pa_cons (pv 15) (pa_cons (pv 16) pa_nil))))) pa_nil))) (pss_cons 
      (ps_set (i := 8) nd rfl (Or.inl rfl) (pe_callTy (tupleOf_K (K := K) rfl) (by rfl) T.tuple (by decide +kernel) (pa_cons (pe_lc (own := [("x", 17), ("y", 18)]) rfl nd (zip_K (K := K) rfl (by rfl) T.zip (pa_cons (pv 9) (pa_cons (pv 15) pa_nil))) (blkOk_by (N := ["script", "bag", "turn", "span_y", "made", "found", "k", "joined", "lower", "f", "wins", "more", "held", "due", "told", "g", "t_y", "x", "y"]) (sc := fnScope s_law) (by decide +kernel)) (fun _ _ _ _ _ => (tup_K (K := K) (n := 2) rfl rfl (pgs_cons (pg_name (i := 17) nd rfl (Or.inl rfl)) (pgs_cons (pg_name (i := 18) nd rfl (Or.inl rfl)) pgs_nil)))) (fun _ _ _ _ _ => pts_nil) (fun _ _ _ _ _ => (pe_callB (call_min2 rfl) (by rfl) T.min (by decide +kernel) (pa_cons (pv 17) (pa_cons (pv 18) pa_nil))))) pa_nil))) (pss_cons 
      (ps_if (pt_not (pt_val (pe_c (c__law_like T) hr (by decide) (by rfl) (pa_cons (pe_lst (pa_cons (pe_mt (c_Hours_then T) hr (by decide) (pv 4) (pa_cons (pv 9) (pa_cons (pv 15) pa_nil))) (pa_cons (pe_mt (c_Hours_best T) hr (by decide) (pv 4) (pa_cons (pv 9) (pa_cons (pv 15) pa_nil))) pa_nil))) (pa_cons (pe_lst (pa_cons (pv 7) (pa_cons (pv 8) pa_nil))) pa_nil))))) (pss_one 
      (ps_ret pe_bl)) pss_nil) (pss_one 
      (ps_for PassesOwn.never rfl (pi_K (K := K) rfl (pe_lst (pa_cons (pv 9) (pa_cons (pv 7) (pa_cons (pv 8) (pa_cons (pe_c (c__law_of T) hr (by decide) (by rfl) (pa_cons (pv 1) (pa_cons (pv 5) pa_nil))) pa_nil)))))) (pg_name (i := 9) nd rfl (Or.inl rfl)) (pss_one 
      (ps_if (pt_not (pt_val (pe_c (c__law_read_so T) hr (by decide) (by rfl) (pa_cons (pv 1) (pa_cons (pv 9) pa_nil))))) (pss_one 
      (ps_ret pe_bl)) pss_nil))))))))))))) (pss_one 
      (ps_ret pe_bl)))), ?_⟩
  refine ⟨_, rfl, _, rfl, l, ns, rfl, hs, fun p H1 e1 hb => ?_⟩
  refine ⟨3, rfl, by decide, by decide, for_it walk_range (fun i σ H' => BagAt H' p ∧ ∃ y2 y3 y4 y5 y6 y7 y8 y9 y10 y11 y12 y13 y14 y15 y16 y17 y18, σ = [some (.ref l), some (.ref p), y2, y3, y4, y5, y6, y7, y8, y9, y10, y11, y12, y13, y14, y15, y16, y17, y18]) ⟨hb, _, _, _, _, _, _, _, _, _, _, _, _, _, _, _, _, _, rfl⟩ (fun _ _ _ _ _ => trivial) ?_ ?_⟩
  rotate_left
  · rintro σ H3 ⟨hb, y2, y3, y4, y5, y6, y7, y8, y9, y10, y11, y12, y13, y14, y15, y16, y17, y18, rfl⟩
    exact k H3
  rintro ti tx σ H2 H3 hti ⟨hb, y2, y3, y4, y5, y6, y7, y8, y9, y10, y11, y12, y13, y14, y15, y16, y17, y18, rfl⟩ ⟨rfl, rfl⟩
  -- span_y
  refine ⟨_, rfl, Nat.le_of_ble_eq_true rfl, fun c nc => ?_⟩
  refine ⟨_, _, rfl, p, rfl, hb.mono (grow nc), .inl ⟨c, _, rfl, .inl (SqL.of upd_same), Nat.le_of_ble_eq_true rfl, Nat.le_of_ble_eq_true rfl, fun z hz => ?_⟩⟩
  obtain ⟨n, rfl, n0, n1⟩ := span_in hz
  have hb4 := hb.mono (grow (o := .lst [.int 1, .int 2, .int 3, .int 4, .int 5, .int 6, .int 7, .int 8, .int 8, .int 24, .int 96]) nc)
  -- made = Hours(span_y)
  refine ⟨_, rfl, fun x dx nx ndx nex => ?_⟩
  refine ⟨_, _, rfl, x, dx, n, rfl, upd_same, rfl, n0, n1, fun H5 kp ho => ⟨rfl, ?_⟩⟩
  have e5 : Same _ H5 := fun b o e => kp b o (by
    rw [upd_ne (ne_of_none e nx), upd_ne (ne_of_none e ndx)]
    exact e) (ne_of_none e nx)
  have hb5 := hb4.mono e5
  clear e5 kp nx ndx nex nc hb4 hb
  obtain ⟨dx, st, hx, hst⟩ := id ho
  -- found = [made.stay, _law_hours(bag, span_y)]
  refine ⟨_, rfl, x, CH, dx, _, _, rfl, hx, T.cl_Hours, T.na_stay, hfl_stay _ _, ?_⟩
  refine ⟨_, rfl, _, rfl, _, _, rfl, p, n, rfl, hb5, rfl, n0, n1, fun H6 v f e6 tf lf pf => ⟨Nat.le_of_ble_eq_true rfl, fun q nq => ?_⟩⟩
  have hb6 := hb5.mono e6
  have ho6 := ho.mono e6
  have fo : FoundAt K (upd H6 q (.lst [.ref st, v])) q n 2 := by
    refine ⟨[.ref st, v], upd_same, Nat.le_of_ble_eq_true rfl, Nat.le_of_ble_eq_true rfl, fun u hu => ?_⟩
    simp only [List.mem_cons, List.not_mem_nil, or_false] at hu
    rcases hu with rfl | rfl
    · exact ⟨(List.range n).map fun i => ((i : Nat) : Int), ⟨st, rfl, SqT.of (((grow nq) _ _ (e6 _ _ hst)).trans (congrArg (fun z => some (HO.tup z)) (rg_nat n)))⟩, okF_stay n1⟩
    · exact ⟨f, tf.mono (grow nq), okF_of lf pf⟩
  clear tf lf pf hst hx e6 hb5 ho e1
  -- for k in range(3)
  refine ⟨fun σ H' => Same H6 H' ∧ FoundAt K H' q n 5 ∧ ∃ y2 y6 y7 y8 y9 y10 y11 y12 y13 y14 y15 y16 y17 y18, σ = [some (.ref l), some (.ref p), y2, some (.int n), some (.ref x), some (.ref q), y6, y7, y8, y9, y10, y11, y12, y13, y14, y15, y16, y17, y18], ?_, ?_⟩
  · refine ⟨3, rfl, by decide, by decide, for_it walk_range (fun i σ H' => Same H6 H' ∧ FoundAt K H' q n (2 + i) ∧ ∃ y2 y6 y7 y8 y9 y10 y11 y12 y13 y14 y15 y16 y17 y18, σ = [some (.ref l), some (.ref p), y2, some (.int n), some (.ref x), some (.ref q), y6, y7, y8, y9, y10, y11, y12, y13, y14, y15, y16, y17, y18]) ⟨grow nq, fo, _, _, _, _, _, _, _, _, _, _, _, _, _, _, rfl⟩ (fun _ _ _ _ _ => trivial) ?_ ?_⟩
    rotate_left
    · rintro σ G ⟨e, fo, y2, y6, y7, y8, y9, y10, y11, y12, y13, y14, y15, y16, y17, y18, rfl⟩
      exact ⟨e, fo, _, _, _, _, _, _, _, _, _, _, _, _, _, _, rfl⟩
    rintro i z σ G0 G hi ⟨e, fo, y2, y6, y7, y8, y9, y10, y11, y12, y13, y14, y15, y16, y17, y18, rfl⟩ ⟨rfl, rfl⟩
    have hb7 := hb6.mono e
    -- wins
    refine ⟨_, rfl, _, rfl, _, _, rfl, p, n, rfl, hb7, rfl, n0, n1, fun G1 w ws g1 hw => ?_⟩
    -- more
    refine ⟨_, rfl, _, rfl, _, rfl, _, _, rfl, p, 961, rfl, rfl, hb7.mono g1, by decide, small_log (by decide) (by decide), fun d d0 d1 => ⟨Nat.le_of_ble_eq_true rfl, fun c nc => ?_⟩⟩
    refine ⟨_, _, rfl, p, rfl, (hb7.mono g1).mono (grow nc), .inl ⟨c, _, rfl, .inl (SqL.of upd_same), Nat.le_of_ble_eq_true rfl, Nat.le_of_ble_eq_true rfl, fun z hz => ?_⟩⟩
    obtain ⟨mo, rfl, m0, m1⟩ : ∃ m : Int, z = .int m ∧ 0 ≤ m ∧ m ≤ 961 := by
      simp only [List.mem_cons, List.not_mem_nil, or_false] at hz
      rcases hz with rfl | rfl | rfl | rfl | rfl | rfl | rfl | rfl | rfl
      all_goals exact ⟨_, rfl, by omega, by omega⟩
    have hw2 := hw.mono (grow (o := .lst [.int 0, .int 1, .int 1, .int 2, .int 3, .int 4, .int n, .int 960, .int d]) nc)
    have g2 := g1.trans (grow (o := .lst [.int 0, .int 1, .int 1, .int 2, .int 3, .int 4, .int n, .int 960, .int d]) nc)
    clear hw nc d0 d1 g1
    generalize upd G1 c _ = G2 at hw2 g2
    -- held
    refine ⟨fun σ H' => Same G2 H' ∧ ∃ hd, (∃ dt, Lk 7 dt ∧ Dp K H' w dt ∧ Dp K H' hd dt) ∧ ∃ y2 y6 y7 y8 y9 y13 y14 y15 y16 y17 y18, σ = [some (.ref l), some (.ref p), y2, some (.int n), some (.ref x), some (.ref q), y6, y7, y8, y9, some (w), some (.int mo), some (hd), y13, y14, y15, y16, y17, y18], ?_, ?_⟩
    · rcases hw2 with ⟨rfl, rfl⟩ | ⟨wl, WD, xs, rfl, wl1, rfl, hWD, hxs⟩
      · exact ⟨_, rfl, rfl, _, rfl, iteT ⟨Same.refl _, .non, ⟨.none, trivial, .non, .non⟩, _, _, _, _, _, _, _, _, _, _, _, rfl⟩⟩
      · refine ⟨_, rfl, rfl, _, rfl, iteF ⟨_, rfl, WD, _, rfl, .inl (SqL.of hWD), fun c nc => ?_⟩⟩
        exact ⟨grow nc, .ref c, ⟨.list (dW wl), lk_dW wl1, .lst (SqL.of ((grow nc) _ _ hWD)) (dpAll_mono (grow nc) _ hxs), .lst (SqL.of upd_same) (dpAll_mono (grow nc) _ hxs)⟩, _, _, _, _, _, _, _, _, _, _, _, rfl⟩
    rintro σ G3 ⟨g3, hd, ⟨dt, lk, dp1, dp2⟩, y2, y6, y7, y8, y9, y13, y14, y15, y16, y17, y18, rfl⟩
    have hw3 := (hw2.mono g3).win
    -- due
    refine ⟨_, rfl, _, rfl, _, rfl, _, _, _, rfl, n, ws, mo, rfl, n0, n1, hw3, rfl, fun G4 dv g4 hv => ?_⟩
    -- told
    refine ⟨_, rfl, _, rfl, _, rfl, _, _, _, rfl, n, ws, mo, rfl, n0, n1, hw3.mono g4, rfl, fun G5 v1 g5 hv1 => ?_⟩
    refine ⟨_, rfl, _, rfl, _, rfl, rfl, rfl, _, _, _, rfl, n, ws, mo, rfl, n0, n1, (hw3.mono g4).mono g5, rfl, fun G6 v2 g6 hv2 => ⟨Nat.le_of_ble_eq_true rfl, fun tq ntq => ?_⟩⟩
    have g7 := (g3.trans g4).trans (g5.trans g6)
    -- if wins is not None
    have hv1 := dp_mono g6 _ hv1
    refine ⟨fun σ H' => Same G6 H' ∧ (∃ us : List V, H' tq = some (.lst us) ∧ us.length ≤ 3 ∧ ∀ u ∈ us, Dp K H' u (optD (hoursM n ws mo))) ∧ ∃ y2 y6 y7 y8 y9 y15 y16 y17 y18, σ = [some (.ref l), some (.ref p), y2, some (.int n), some (.ref x), some (.ref q), y6, y7, y8, y9, some (w), some (.int mo), some (hd), some (dv), some (.ref tq), y15, y16, y17, y18], ?_, ?_⟩
    · have base : ∀ u ∈ ([v1, v2] : List V), Dp K (upd G6 tq (.lst [v1, v2])) u (optD (hoursM n ws mo)) := fun u hu => by
        simp only [List.mem_cons, List.not_mem_nil, or_false] at hu
        rcases hu with rfl | rfl
        · exact dp_mono (grow ntq) _ hv1
        · exact dp_mono (grow ntq) _ hv2
      rcases hw2 with ⟨rfl, rfl⟩ | ⟨wl, WD, xs, rfl, wl1, rfl, hWD, hxs⟩
      · exact ⟨_, rfl, rfl, _, rfl, iteF ⟨grow ntq, ⟨[v1, v2], upd_same, Nat.le_of_ble_eq_true rfl, base⟩, _, _, _, _, _, _, _, _, _, rfl⟩⟩
      · have hWD2 := (g7.trans (grow (o := .lst [v1, v2]) ntq)) _ _ hWD
        have hxs2 := dpAll_mono (g7.trans (grow (o := .lst [v1, v2]) ntq)) _ hxs
        refine ⟨_, rfl, rfl, _, rfl, iteT ⟨_, rfl, .inl ⟨rfl, _, SqL.of upd_same⟩, ?_⟩⟩
        refine ⟨_, rfl, _, rfl, WD, _, rfl, .inl ⟨SqL.of hWD2, fun tp ntp => ?_⟩⟩
        refine ⟨_, rfl, _, _, _, rfl, n, _, mo, rfl, n0, n1, .inr ⟨wl, rfl, wl1, .inr (.tup (SqT.of upd_same) (dpAll_mono (grow ntp) _ hxs2))⟩, rfl, fun G7 v3 g8 hv3 => ?_⟩
        have up := (grow (o := .tup xs) ntp).trans g8
        have htq := up _ _ upd_same
        refine ⟨tq, _, _, rfl, rfl, htq, size5 (Nat.le_of_ble_eq_true rfl), ?_⟩
        refine ⟨same_mut ((grow ntq).trans up) ntq, ⟨[v1, v2] ++ [v3], upd_same, Nat.le_of_ble_eq_true rfl, fun u hu => ?_⟩, _, _, _, _, _, _, _, _, _, rfl⟩
        rcases List.mem_append.mp hu with hu | hu
        · exact optD_upd htq (dp_mono up _ (base u hu))
        · cases List.mem_singleton.mp hu
          exact optD_upd htq hv3
    rintro σ G7 ⟨g8, ⟨us, htq, lus, pus⟩, y2, y6, y7, y8, y9, y15, y16, y17, y18, rfl⟩
    have hvG := dp_mono ((g5.trans g6).trans g8) _ hv
    have fl : ∀ f, hoursM n ws mo = some f → f.length ≤ 100000 := fun f hf => by
      have := (hours_ok hf n0 n1 m0 m1).1.1
      omega
    -- like(told, ..), like(wins, held)
    refine ⟨_, rfl, _, rfl, .inl ⟨tq, rfl, ⟨_, SqL.of htq⟩, fun D hD => ?_⟩⟩
    refine lc_map walk_list (fun _ => dv) grow_at (by omega) hD (fun H1 e => SqL.of (e _ _ htq)) ?_ ?_
    · rintro j y A1 A2 hj e ⟨rfl, hy⟩ R kk
      exact ⟨rfl, _, rfl, kk A2 (Same.refl _)⟩
    intro G8 g9 hD8
    refine ⟨_, _, rfl, .list (List.replicate us.length (optD (hoursM n ws mo))), ⟨by rw [List.length_replicate]; omega, fun d hd => ?_⟩, .lst (SqL.of (g9 _ _ htq)) (dpAll_rep fun u hu => dp_mono g9 _ (pus u hu)), .lst (SqL.of hD8) (dpAll_rep2 (dp_mono g9 _ hvG)), fun G9 g10 => ⟨_, rfl, iteF ?_⟩⟩
    · rw [(List.mem_replicate.mp hd).2]
      exact lk_optD fl
    have g11 := (g7.trans g8).trans (g9.trans g10)
    refine ⟨_, rfl, _, rfl, _, _, rfl, dt, lk, dp_mono ((((g4.trans g5).trans g6).trans g8).trans (g9.trans g10)) _ dp1, dp_mono ((((g4.trans g5).trans g6).trans g8).trans (g9.trans g10)) _ dp2, fun G10 g12 => ⟨_, rfl, iteF ?_⟩⟩
    have g13 := (g2.trans g11).trans g12
    have hvE := dp_mono ((g9.trans g10).trans g12) _ hvG
    have fo2 := fo.mono g13 (Nat.le_refl _)
    have e13 := e.trans g13
    clear pus htq hvG hv hv1 hv2 hD8 dp1 dp2 g12 g10 g9 g8 g7 g6 g5 g4 g3 g2 g11 g13
    -- if due is not None
    cases hM : hoursM n ws mo with
    | none =>
      rw [hM] at hvE
      cases hvE
      exact ⟨_, rfl, rfl, _, rfl, iteF ⟨e13, fo2.mono (Same.refl _) (by omega), _, _, _, _, _, _, _, _, _, _, _, _, _, _, rfl⟩⟩
    | some f =>
      rw [hM] at hvE
      obtain ⟨DV, rfl, hDV⟩ := optD_tup hvE
      obtain ⟨of, f1, f2, f3⟩ := hours_ok hM n0 n1 m0 m1
      obtain ⟨us2, hq2, lu0, lu, pu⟩ := fo2
      refine ⟨_, rfl, rfl, _, rfl, iteT ?_⟩
      refine ⟨_, rfl, .inl ⟨rfl, _, SqL.of hq2⟩, _, rfl, q, _, _, rfl, rfl, hq2, size5 (by omega), ?_⟩
      have fo3 : FoundAt K (upd G10 q (.lst (us2 ++ [.ref DV]))) q n (2 + (i + 1)) := by
        refine ⟨_, upd_same, by rw [List.length_append]; omega, by rw [List.length_append]; exact Nat.succ_le_succ lu, fun u hu => ?_⟩
        rcases List.mem_append.mp hu with hu | hu
        · obtain ⟨f', t', o'⟩ := pu u hu
          exact ⟨f', tupI_upd hq2 t', o'⟩
        · cases List.mem_singleton.mp hu
          exact ⟨f, tupI_upd hq2 ⟨DV, rfl, hDV⟩, of⟩
      have e14 : Same H6 (upd G10 q (.lst (us2 ++ [.ref DV]))) := same_mut e13 nq
      have ho7 := ho6.mono e14
      obtain ⟨dx2, st2, hx2, hst2⟩ := id ho7
      have ol := of.1
      refine ⟨_, rfl, x, dx2, _, rfl, hx2, hfl_no _ _ (by decide +kernel) (by decide +kernel), _, rfl, _, _, rfl, x, f, rfl, (by rw [ol]; exact ho7), tupI_upd hq2 ⟨DV, rfl, hDV⟩, by omega, by omega, f1, f2, f3, fun G11 g14 => ?_⟩
      refine ⟨_, _, rfl, .bool true, trivial, .bl _, .bl _, fun G12 g15 => ⟨_, rfl, iteF ?_⟩⟩
      exact ⟨e14.trans (g14.trans g15), fo3.mono (g14.trans g15) (Nat.le_refl _), _, _, _, _, _, _, _, _, _, _, _, _, _, _, rfl⟩
  rintro σ H7 ⟨e7, ⟨us, hq, lu0, lu, pu⟩, y2, y6, y7, y8, y9, y10, y11, y12, y13, y14, y15, y16, y17, y18, rfl⟩
  have hb7 := hb6.mono e7
  -- f, g
  refine ⟨_, rfl, _, rfl, _, _, rfl, p, rfl, hb7, .inl ⟨q, us, rfl, .inl (SqL.of hq), lu0, by omega, fun vf hf => ?_⟩⟩
  refine ⟨_, rfl, _, rfl, _, _, rfl, p, rfl, hb7, .inl ⟨q, us, rfl, .inl (SqL.of hq), lu0, by omega, fun vg hg => ?_⟩⟩
  obtain ⟨f, ⟨A1, rfl, tf⟩, of⟩ := pu vf hf
  obtain ⟨g, ⟨A2, rfl, tg⟩, og⟩ := pu vg hg
  have lf := of.1
  have lg := og.1
  have lnf : (f.map V.int).length = f.length := List.length_map ..
  have lng : (g.map V.int).length = g.length := List.length_map ..
  refine ⟨Nat.le_of_ble_eq_true rfl, fun c nc => ?_⟩
  have e8 := grow (o := .tup [.ref A1, .ref A2]) nc
  refine ⟨c, _, rfl, SqT.of upd_same, rfl, _, _, rfl, _, _, rfl, rfl, ?_⟩
  generalize upd H7 c _ = H8 at e8
  -- joined
  refine ⟨_, rfl, .inr (.inl ⟨A1, rfl, ⟨_, same_tup e8 tf⟩, fun D hD => ?_⟩)⟩
  refine lc_map walk_tup (fun i => .int (readM g (f.getD i 0))) grow_at (by omega) hD (fun H1 e => same_tup (e8.trans e) tf) ?_ ?_
  · rintro i y B1 B2 hi e ⟨rfl, g1⟩ R kk
    obtain ⟨z, g3, rfl⟩ := int_get g1
    rw [getD_of g3] at kk
    exact ⟨rfl, _, rfl, _, rfl, _, _, rfl, g, z, ⟨A2, rfl, same_tup (e8.trans e) tg⟩, by omega, by omega, rfl, kk B2 (Same.refl _)⟩
  intro H9 e9 hD9
  rw [lnf, map_range_get 0 (fun z => V.int (readM g z)) f] at hD9
  refine ⟨D, _, rfl, .inl ⟨SqL.of hD9, fun jd njd => ?_⟩⟩
  have e10 := e8.trans (e9.trans (grow (o := .tup (f.map fun z => V.int (readM g z))) njd))
  have tj : TupI K (upd H9 jd (.tup (f.map fun z => V.int (readM g z)))) (.ref jd) (f.map (readM g)) := ⟨jd, rfl, SqT.of (by rw [upd_same, List.map_map]; rfl)⟩
  generalize upd H9 jd _ = H10 at e10 tj
  clear hD9 hD e9 njd
  -- lower
  refine ⟨_, rfl, _, rfl, _, _, _, _, rfl, .inr ⟨same_tup e10 tf, same_tup e10 tg, fun D hD => ?_⟩⟩
  refine lc_map (walk_zipT (n := f.length) (by omega)) (fun i => .int (if g.getD i 0 < f.getD i 0 then g.getD i 0 else f.getD i 0)) grow_pair (by omega) hD (fun H1 e => ⟨same_tup (e10.trans e) tf, same_tup (e10.trans e) tg⟩) ?_ ?_
  · rintro i y B1 B2 hi e ⟨U, x1, x2, rfl, nU, rfl, g1, g2⟩ R kk
    obtain ⟨z1, g3, rfl⟩ := int_get g1
    obtain ⟨z2, g4, rfl⟩ := int_get g2
    have kk := kk _ (Same.refl _)
    rw [getD_of g3, getD_of g4] at kk
    exact ⟨U, _, rfl, SqT.of upd_same, rfl, _, _, rfl, _, _, rfl, rfl, rfl, _, rfl, _, rfl, _, _, rfl, kk⟩
  intro H11 e11 hD11
  refine ⟨D, _, rfl, .inl ⟨SqL.of hD11, fun ld nld => ?_⟩⟩
  have e12 := e10.trans (e11.trans (grow (o := .tup ((List.range f.length).map fun i => V.int (if g.getD i 0 < f.getD i 0 then g.getD i 0 else f.getD i 0))) nld))
  have tj := tj.mono (e11.trans (grow (o := .tup ((List.range f.length).map fun i => V.int (if g.getD i 0 < f.getD i 0 then g.getD i 0 else f.getD i 0))) nld))
  have tl : TupI K (upd H11 ld (.tup ((List.range f.length).map fun i => V.int (if g.getD i 0 < f.getD i 0 then g.getD i 0 else f.getD i 0)))) (.ref ld) ((List.range f.length).map fun i => if g.getD i 0 < f.getD i 0 then g.getD i 0 else f.getD i 0) := ⟨ld, rfl, SqT.of (by rw [upd_same, List.map_map]; rfl)⟩
  generalize upd H11 ld _ = H12 at e12 tj tl
  clear hD11 hD e11 nld e10 e8
  have ho12 := ho6.mono (e7.trans e12)
  obtain ⟨dx2, st2, hx2, hst2⟩ := id ho12
  -- made.then, made.best
  refine ⟨_, rfl, x, dx2, _, rfl, hx2, hfl_no _ _ (by decide +kernel) (by decide +kernel), _, rfl, _, rfl, _, _, _, rfl, f, g, ⟨A1, rfl, same_tup e12 tf⟩, ⟨A2, rfl, same_tup e12 tg⟩, by omega, by omega, by omega, fun H13 v1 e13 tv1 => ?_⟩
  refine ⟨_, rfl, x, dx2, _, rfl, e13 _ _ hx2, hfl_no _ _ (by decide +kernel) (by decide +kernel), _, rfl, _, rfl, _, _, _, rfl, f, g, ⟨A1, rfl, same_tup (e12.trans e13) tf⟩, ⟨A2, rfl, same_tup (e12.trans e13) tg⟩, by omega, by omega, fun H14 v2 e14 tv2 => ⟨Nat.le_of_ble_eq_true rfl, fun L1 nL1 => ?_⟩⟩
  refine ⟨_, rfl, _, rfl, Nat.le_of_ble_eq_true rfl, fun L2 nL2 => ?_⟩
  have e15 := (grow (o := .lst [v1, v2]) nL1).trans (grow (o := .lst [.ref jd, .ref ld]) nL2)
  have e16 := (e13.trans e14).trans e15
  refine ⟨_, _, rfl, .list [optD (some (f.map (readM g))), optD (some ((List.range f.length).map fun i => if g.getD i 0 < f.getD i 0 then g.getD i 0 else f.getD i 0))], ⟨Nat.le_of_ble_eq_true rfl, ?_⟩,
    .lst (SqL.of ((grow nL2) _ _ upd_same)) (.cons (tv1.mono (e14.trans e15)).dp (.cons (tv2.mono e15).dp .nil)),
    .lst (SqL.of upd_same) (.cons (tj.mono e16).dp (.cons (tl.mono e16).dp .nil)), fun H15 e17 => ⟨_, rfl, iteF ?_⟩⟩
  · intro d hd
    simp only [List.mem_cons, List.not_mem_nil, or_false] at hd
    rcases hd with rfl | rfl
    · exact lk_optD fun h hh => by
        cases hh
        rw [List.length_map]
        omega
    · exact lk_optD fun h hh => by
        cases hh
        rw [List.length_map, List.length_range]
        omega
  have e18 := e12.trans (e16.trans e17)
  have hb15 := hb7.mono e18
  -- for f in [..]
  refine ⟨_, rfl, _, rfl, _, rfl, _, rfl, _, rfl, _, _, rfl, p, rfl, hb15, .inl ⟨q, us, rfl, .inl (SqL.of (e18 _ _ hq)), lu0, by omega, fun vr hr => ?_⟩⟩
  refine ⟨Nat.le_of_ble_eq_true rfl, fun c2 nc2 => .inl ⟨c2, rfl, ⟨_, SqL.of upd_same⟩, ?_⟩⟩
  have e19 := e18.trans (grow (o := .lst [.ref A1, .ref jd, .ref ld, vr]) nc2)
  have each : ∀ u ∈ ([.ref A1, .ref jd, .ref ld, vr] : List V), ∃ f, TupI K (upd H15 c2 (.lst [.ref A1, .ref jd, .ref ld, vr])) u f ∧ BdM f := fun u hu => by
    simp only [List.mem_cons, List.not_mem_nil, or_false] at hu
    rcases hu with rfl | rfl | rfl | rfl
    · exact ⟨f, ⟨A1, rfl, same_tup e19 tf⟩, bd_of of n0 n1⟩
    · exact ⟨_, tj.mono ((e16.trans e17).trans (grow nc2)), bd_joined of og n0 n1⟩
    · exact ⟨_, tl.mono ((e16.trans e17).trans (grow nc2)), bd_lower of og n0 n1⟩
    · obtain ⟨h, th, oh⟩ := pu u hr
      exact ⟨h, th.mono e19, bd_of oh n0 n1⟩
  refine for_it (walk_list (xs := [.ref A1, .ref jd, .ref ld, vr])) (fun i σ H' => Same (upd H15 c2 (.lst [.ref A1, .ref jd, .ref ld, vr])) H' ∧ ∃ y2 y3 y4 y5 y6 y7 y8 y9 y10 y11 y12 y13 y14 y15 y16 y17 y18, σ = [some (.ref l), some (.ref p), y2, y3, y4, y5, y6, y7, y8, y9, y10, y11, y12, y13, y14, y15, y16, y17, y18]) ⟨Same.refl _, _, _, _, _, _, _, _, _, _, _, _, _, _, _, _, _, _, rfl⟩ ?_ ?_ ?_
  · rintro i σ H' _ ⟨e, _⟩
    exact SqL.of (e _ _ upd_same)
  · rintro i y σ B1 B2 hi ⟨e, y2, y3, y4, y5, y6, y7, y8, y9, y10, y11, y12, y13, y14, y15, y16, y17, y18, rfl⟩ ⟨rfl, hy⟩
    obtain ⟨h, th, bh⟩ := each y (List.mem_of_getElem? hy)
    refine ⟨_, rfl, _, rfl, _, _, rfl, p, h, rfl, (hb7.mono e19).mono e, th.mono e, bh, fun B3 e20 => ⟨_, rfl, iteF ?_⟩⟩
    exact ⟨e.trans e20, _, _, _, _, _, _, _, _, _, _, _, _, _, _, _, _, _, rfl⟩
  · rintro σ H' ⟨e, y2, y3, y4, y5, y6, y7, y8, y9, y10, y11, y12, y13, y14, y15, y16, y17, y18, rfl⟩
    exact ⟨(hb7.mono e19).mono e, _, _, _, _, _, _, _, _, _, _, _, _, _, _, _, _, _, rfl⟩

end
end Fb

set_option Elab.async false
set_option linter.all false
set_option maxRecDepth 100000
set_option maxHeartbeats 4000000
namespace Fb
open PySem PySem.Spec L2
open PyProof.Rows hiding St
open C8 (Cal Met Mak Def cal0 met0 mak0 pe_c pe_mk pe_mt pe_mt0 fnScope fnBody fnArgs pss_cut tCut)
/-! ### what the top has written, each a fact that k_is finds -/
theorem all_mk {l : PySem.W.OpenLaw} {w : World} {K : PySem.W.Frag} {h : Heap} {mg : Str → Option Value} {fa CH f1 t1 f2 f3 f4 f5 f6 f7 f8 f9 f10 f11 f12 f13 f14 f15 f16 f17 f18 f19 f20 f21 f22 f23 f24 : Addr} {od1 an1 : Option Addr} {sl1 : Array (Option Value)} {oc1 kV1 dc1 pm1 cd1 ct1 : Value}
    {dt1_0 : Tok}
    {to1 : Value} {td1 : Option Addr} {tn1 : Nat} {ts1 : Array (Option Value)}
    {od2 an2 : Option Addr} {sl2 : Array (Option Value)} {oc2 kV2 dc2 pm2 cd2 ct2 : Value}
    {od3 an3 : Option Addr} {sl3 : Array (Option Value)} {oc3 kV3 dc3 pm3 cd3 ct3 : Value}
    {od4 an4 : Option Addr} {sl4 : Array (Option Value)} {oc4 kV4 dc4 pm4 cd4 ct4 : Value}
    {od5 an5 : Option Addr} {sl5 : Array (Option Value)} {oc5 kV5 dc5 pm5 cd5 ct5 : Value}
    {od6 an6 : Option Addr} {sl6 : Array (Option Value)} {oc6 kV6 dc6 pm6 cd6 ct6 : Value}
    {od7 an7 : Option Addr} {sl7 : Array (Option Value)} {oc7 kV7 dc7 pm7 cd7 ct7 : Value}
    {od8 an8 : Option Addr} {sl8 : Array (Option Value)} {oc8 kV8 dc8 pm8 cd8 ct8 : Value}
    {od9 an9 : Option Addr} {sl9 : Array (Option Value)} {oc9 kV9 dc9 pm9 cd9 ct9 : Value}
    {od10 an10 : Option Addr} {sl10 : Array (Option Value)} {oc10 kV10 dc10 pm10 cd10 ct10 : Value}
    {od11 an11 : Option Addr} {sl11 : Array (Option Value)} {oc11 kV11 dc11 pm11 cd11 ct11 : Value}
    {od12 an12 : Option Addr} {sl12 : Array (Option Value)} {oc12 kV12 dc12 pm12 cd12 ct12 : Value}
    {od13 an13 : Option Addr} {sl13 : Array (Option Value)} {oc13 kV13 dc13 pm13 cd13 ct13 : Value}
    {od14 an14 : Option Addr} {sl14 : Array (Option Value)} {oc14 kV14 dc14 pm14 cd14 ct14 : Value}
    {od15 an15 : Option Addr} {sl15 : Array (Option Value)} {oc15 kV15 dc15 pm15 cd15 ct15 : Value}
    {od16 an16 : Option Addr} {sl16 : Array (Option Value)} {oc16 kV16 dc16 pm16 cd16 ct16 : Value}
    {od17 an17 : Option Addr} {sl17 : Array (Option Value)} {oc17 kV17 dc17 pm17 cd17 ct17 : Value}
    {od18 an18 : Option Addr} {sl18 : Array (Option Value)} {oc18 kV18 dc18 pm18 cd18 ct18 : Value}
    {od19 an19 : Option Addr} {sl19 : Array (Option Value)} {oc19 kV19 dc19 pm19 cd19 ct19 : Value}
    {od20 an20 : Option Addr} {sl20 : Array (Option Value)} {oc20 kV20 dc20 pm20 cd20 ct20 : Value}
    {od21 an21 : Option Addr} {sl21 : Array (Option Value)} {oc21 kV21 dc21 pm21 cd21 ct21 : Value}
    {od22 an22 : Option Addr} {sl22 : Array (Option Value)} {oc22 kV22 dc22 pm22 cd22 ct22 : Value}
    {od23 an23 : Option Addr} {sl23 : Array (Option Value)} {oc23 kV23 dc23 pm23 cd23 ct23 : Value}
    {od24 an24 : Option Addr} {sl24 : Array (Option Value)} {oc24 kV24 dc24 pm24 cd24 ct24 : Value}
    {g0 : Tok}
    (X : K.In h) (G : h.Ns mainGlobals mg) (hfa : mg "law" = some (.ref fa))
    (aC : PySem.W.nsIn K mainGlobals "Hours" = some (some (.ref CH)))
    (pg : PySem.W.plainGet K CH Str.empty = true)
    (hd : PySem.W.hasDictIn K CH = true)
    (po : PySem.W.plainOver K CH = true)
    (sa : PySem.W.findIn K (.ref CH) "__setattr__" = some (some (.builtin "object.__setattr__")))
    (mk : PySem.W.makesIn K CH = true)
    (kC : PySem.W.keepIn K (.ref CH) = true)
    (nday : PySem.W.findIn K (.ref CH) "day" = some none)
    (nstay : PySem.W.findIn K (.ref CH) "stay" = some none)
    (a1 : PySem.W.nsIn K mainGlobals "is_number" = some (some (.ref f1)))
    (l1 : K.lookup f1 = some ⟨oc1, od1, .func (PySem.W.fnOf "is_number" "is_number" (fnArgs s_is_number) (fnBody s_is_number) (fnScope s_is_number) (.ref t1) kV1 dc1 pm1 an1 cd1 ct1), sl1⟩)
    (c1 : PySem.W.codeIn K cd1 "is_number" = true)
    (k1 : PySem.W.keepIn K (.ref f1) = true)
    (d1 : K.lookup t1 = some ⟨to1, td1, .seq #[.int 0 dt1_0, .none] tn1, ts1⟩)
    (a2 : PySem.W.nsIn K mainGlobals "can_enter" = some (some (.ref f2)))
    (l2 : K.lookup f2 = some ⟨oc2, od2, .func (PySem.W.fnOf "can_enter" "can_enter" (fnArgs s_can_enter) (fnBody s_can_enter) (fnScope s_can_enter) .none kV2 dc2 pm2 an2 cd2 ct2), sl2⟩)
    (c2 : PySem.W.codeIn K cd2 "can_enter" = true)
    (k2 : PySem.W.keepIn K (.ref f2) = true)
    (a3 : PySem.W.nsIn K mainGlobals "hours_of" = some (some (.ref f3)))
    (l3 : K.lookup f3 = some ⟨oc3, od3, .func (PySem.W.fnOf "hours_of" "hours_of" (fnArgs s_hours_of) (fnBody s_hours_of) (fnScope s_hours_of) .none kV3 dc3 pm3 an3 cd3 ct3), sl3⟩)
    (c3 : PySem.W.codeIn K cd3 "hours_of" = true)
    (k3 : PySem.W.keepIn K (.ref f3) = true)
    (a4 : PySem.W.nsIn K mainGlobals "read_hours" = some (some (.ref f4)))
    (l4 : K.lookup f4 = some ⟨oc4, od4, .func (PySem.W.fnOf "read_hours" "read_hours" (fnArgs s_read_hours) (fnBody s_read_hours) (fnScope s_read_hours) .none kV4 dc4 pm4 an4 cd4 ct4), sl4⟩)
    (c4 : PySem.W.codeIn K cd4 "read_hours" = true)
    (k4 : PySem.W.keepIn K (.ref f4) = true)
    (a5 : PySem.W.nsIn K mainGlobals "latest_begin" = some (some (.ref f5)))
    (l5 : K.lookup f5 = some ⟨oc5, od5, .func (PySem.W.fnOf "latest_begin" "latest_begin" (fnArgs s_latest_begin) (fnBody s_latest_begin) (fnScope s_latest_begin) .none kV5 dc5 pm5 an5 cd5 ct5), sl5⟩)
    (c5 : PySem.W.codeIn K cd5 "latest_begin" = true)
    (k5 : PySem.W.keepIn K (.ref f5) = true)
    (a6 : PySem.W.nsIn K mainGlobals "never_falls" = some (some (.ref f6)))
    (l6 : K.lookup f6 = some ⟨oc6, od6, .func (PySem.W.fnOf "never_falls" "never_falls" (fnArgs s_never_falls) (fnBody s_never_falls) (fnScope s_never_falls) .none kV6 dc6 pm6 an6 cd6 ct6), sl6⟩)
    (c6 : PySem.W.codeIn K cd6 "never_falls" = true)
    (k6 : PySem.W.keepIn K (.ref f6) = true)
    (a7 : PySem.W.nsIn K mainGlobals "_law_bag" = some (some (.ref f7)))
    (l7 : K.lookup f7 = some ⟨oc7, od7, .func (PySem.W.fnOf "_law_bag" "_law_bag" (fnArgs s__law_bag) (fnBody s__law_bag) (fnScope s__law_bag) .none kV7 dc7 pm7 an7 cd7 ct7), sl7⟩)
    (c7 : PySem.W.codeIn K cd7 "_law_bag" = true)
    (k7 : PySem.W.keepIn K (.ref f7) = true)
    (a8 : PySem.W.nsIn K mainGlobals "_law_draw" = some (some (.ref f8)))
    (l8 : K.lookup f8 = some ⟨oc8, od8, .func (PySem.W.fnOf "_law_draw" "_law_draw" (fnArgs s__law_draw) (fnBody s__law_draw) (fnScope s__law_draw) .none kV8 dc8 pm8 an8 cd8 ct8), sl8⟩)
    (c8 : PySem.W.codeIn K cd8 "_law_draw" = true)
    (k8 : PySem.W.keepIn K (.ref f8) = true)
    (a9 : PySem.W.nsIn K mainGlobals "_law_of" = some (some (.ref f9)))
    (l9 : K.lookup f9 = some ⟨oc9, od9, .func (PySem.W.fnOf "_law_of" "_law_of" (fnArgs s__law_of) (fnBody s__law_of) (fnScope s__law_of) .none kV9 dc9 pm9 an9 cd9 ct9), sl9⟩)
    (c9 : PySem.W.codeIn K cd9 "_law_of" = true)
    (k9 : PySem.W.keepIn K (.ref f9) = true)
    (a10 : PySem.W.nsIn K mainGlobals "_law_turned" = some (some (.ref f10)))
    (l10 : K.lookup f10 = some ⟨oc10, od10, .func (PySem.W.fnOf "_law_turned" "_law_turned" (fnArgs s__law_turned) (fnBody s__law_turned) (fnScope s__law_turned) .none kV10 dc10 pm10 an10 cd10 ct10), sl10⟩)
    (c10 : PySem.W.codeIn K cd10 "_law_turned" = true)
    (k10 : PySem.W.keepIn K (.ref f10) = true)
    (a11 : PySem.W.nsIn K mainGlobals "_law_like" = some (some (.ref f11)))
    (l11 : K.lookup f11 = some ⟨oc11, od11, .func (PySem.W.fnOf "_law_like" "_law_like" (fnArgs s__law_like) (fnBody s__law_like) (fnScope s__law_like) .none kV11 dc11 pm11 an11 cd11 ct11), sl11⟩)
    (c11 : PySem.W.codeIn K cd11 "_law_like" = true)
    (k11 : PySem.W.keepIn K (.ref f11) = true)
    (a12 : PySem.W.nsIn K mainGlobals "_law_is_number" = some (some (.ref f12)))
    (l12 : K.lookup f12 = some ⟨oc12, od12, .func (PySem.W.fnOf "_law_is_number" "_law_is_number" (fnArgs s__law_is_number) (fnBody s__law_is_number) (fnScope s__law_is_number) .none kV12 dc12 pm12 an12 cd12 ct12), sl12⟩)
    (c12 : PySem.W.codeIn K cd12 "_law_is_number" = true)
    (k12 : PySem.W.keepIn K (.ref f12) = true)
    (a13 : PySem.W.nsIn K mainGlobals "_law_hours" = some (some (.ref f13)))
    (l13 : K.lookup f13 = some ⟨oc13, od13, .func (PySem.W.fnOf "_law_hours" "_law_hours" (fnArgs s__law_hours) (fnBody s__law_hours) (fnScope s__law_hours) .none kV13 dc13 pm13 an13 cd13 ct13), sl13⟩)
    (c13 : PySem.W.codeIn K cd13 "_law_hours" = true)
    (k13 : PySem.W.keepIn K (.ref f13) = true)
    (a14 : PySem.W.nsIn K mainGlobals "_law_windows" = some (some (.ref f14)))
    (l14 : K.lookup f14 = some ⟨oc14, od14, .func (PySem.W.fnOf "_law_windows" "_law_windows" (fnArgs s__law_windows) (fnBody s__law_windows) (fnScope s__law_windows) .none kV14 dc14 pm14 an14 cd14 ct14), sl14⟩)
    (c14 : PySem.W.codeIn K cd14 "_law_windows" = true)
    (k14 : PySem.W.keepIn K (.ref f14) = true)
    (a15 : PySem.W.nsIn K mainGlobals "_law_is_open" = some (some (.ref f15)))
    (l15 : K.lookup f15 = some ⟨oc15, od15, .func (PySem.W.fnOf "_law_is_open" "_law_is_open" (fnArgs s__law_is_open) (fnBody s__law_is_open) (fnScope s__law_is_open) .none kV15 dc15 pm15 an15 cd15 ct15), sl15⟩)
    (c15 : PySem.W.codeIn K cd15 "_law_is_open" = true)
    (k15 : PySem.W.keepIn K (.ref f15) = true)
    (a16 : PySem.W.nsIn K mainGlobals "_law_walk" = some (some (.ref f16)))
    (l16 : K.lookup f16 = some ⟨oc16, od16, .func (PySem.W.fnOf "_law_walk" "_law_walk" (fnArgs s__law_walk) (fnBody s__law_walk) (fnScope s__law_walk) .none kV16 dc16 pm16 an16 cd16 ct16), sl16⟩)
    (c16 : PySem.W.codeIn K cd16 "_law_walk" = true)
    (k16 : PySem.W.keepIn K (.ref f16) = true)
    (a17 : PySem.W.nsIn K mainGlobals "_law_reading" = some (some (.ref f17)))
    (l17 : K.lookup f17 = some ⟨oc17, od17, .func (PySem.W.fnOf "_law_reading" "_law_reading" (fnArgs s__law_reading) (fnBody s__law_reading) (fnScope s__law_reading) .none kV17 dc17 pm17 an17 cd17 ct17), sl17⟩)
    (c17 : PySem.W.codeIn K cd17 "_law_reading" = true)
    (k17 : PySem.W.keepIn K (.ref f17) = true)
    (a18 : PySem.W.nsIn K mainGlobals "_law_times" = some (some (.ref f18)))
    (l18 : K.lookup f18 = some ⟨oc18, od18, .func (PySem.W.fnOf "_law_times" "_law_times" (fnArgs s__law_times) (fnBody s__law_times) (fnScope s__law_times) .none kV18 dc18 pm18 an18 cd18 ct18), sl18⟩)
    (c18 : PySem.W.codeIn K cd18 "_law_times" = true)
    (k18 : PySem.W.keepIn K (.ref f18) = true)
    (a19 : PySem.W.nsIn K mainGlobals "_law_read_so" = some (some (.ref f19)))
    (l19 : K.lookup f19 = some ⟨oc19, od19, .func (PySem.W.fnOf "_law_read_so" "_law_read_so" (fnArgs s__law_read_so) (fnBody s__law_read_so) (fnScope s__law_read_so) .none kV19 dc19 pm19 an19 cd19 ct19), sl19⟩)
    (c19 : PySem.W.codeIn K cd19 "_law_read_so" = true)
    (k19 : PySem.W.keepIn K (.ref f19) = true)
    (a20 : PySem.W.findIn K (.ref CH) "__init__" = some (some (.ref f20)))
    (i20 : PySem.W.isFn K (.ref f20) = true)
    (l20 : K.lookup f20 = some ⟨oc20, od20, .func (PySem.W.fnOf "__init__" "Hours.__init__" (fnArgs s_Hours___init__) (fnBody s_Hours___init__) (fnScope s_Hours___init__) .none kV20 dc20 pm20 an20 cd20 ct20), sl20⟩)
    (c20 : PySem.W.codeIn K cd20 "Hours.__init__" = true)
    (k20 : PySem.W.keepIn K (.ref f20) = true)
    (a21 : PySem.W.findIn K (.ref CH) "best" = some (some (.ref f21)))
    (i21 : PySem.W.isFn K (.ref f21) = true)
    (l21 : K.lookup f21 = some ⟨oc21, od21, .func (PySem.W.fnOf "best" "Hours.best" (fnArgs s_Hours_best) (fnBody s_Hours_best) (fnScope s_Hours_best) .none kV21 dc21 pm21 an21 cd21 ct21), sl21⟩)
    (c21 : PySem.W.codeIn K cd21 "Hours.best" = true)
    (k21 : PySem.W.keepIn K (.ref f21) = true)
    (a22 : PySem.W.findIn K (.ref CH) "then" = some (some (.ref f22)))
    (i22 : PySem.W.isFn K (.ref f22) = true)
    (l22 : K.lookup f22 = some ⟨oc22, od22, .func (PySem.W.fnOf "then" "Hours.then" (fnArgs s_Hours_then) (fnBody s_Hours_then) (fnScope s_Hours_then) .none kV22 dc22 pm22 an22 cd22 ct22), sl22⟩)
    (c22 : PySem.W.codeIn K cd22 "Hours.then" = true)
    (k22 : PySem.W.keepIn K (.ref f22) = true)
    (a23 : PySem.W.findIn K (.ref CH) "is_value" = some (some (.ref f23)))
    (i23 : PySem.W.isFn K (.ref f23) = true)
    (l23 : K.lookup f23 = some ⟨oc23, od23, .func (PySem.W.fnOf "is_value" "Hours.is_value" (fnArgs s_Hours_is_value) (fnBody s_Hours_is_value) (fnScope s_Hours_is_value) .none kV23 dc23 pm23 an23 cd23 ct23), sl23⟩)
    (c23 : PySem.W.codeIn K cd23 "Hours.is_value" = true)
    (k23 : PySem.W.keepIn K (.ref f23) = true)
    (a24 : PySem.W.nsIn K mainGlobals "law" = some (some (.ref f24)))
    (l24 : K.lookup f24 = some ⟨oc24, od24, .func (PySem.W.fnOf "law" "law" (fnArgs s_law) (fnBody s_law) (fnScope s_law) .none kV24 dc24 pm24 an24 cd24 ct24), sl24⟩)
    (c24 : PySem.W.codeIn K cd24 "law" = true)
    (k24 : PySem.W.keepIn K (.ref f24) = true)
    (z0 : PySem.W.nsIn K mainGlobals "all" = some none)
    (z1 : PySem.W.nsIn K mainGlobals "any" = some none)
    (z2 : PySem.W.nsIn K mainGlobals "bool" = some none)
    (z3 : PySem.W.nsIn K mainGlobals "dict" = some none)
    (z4 : PySem.W.nsIn K mainGlobals "divmod" = some none)
    (z5 : PySem.W.nsIn K mainGlobals "enumerate" = some none)
    (z6 : PySem.W.nsIn K mainGlobals "int" = some none)
    (z7 : PySem.W.nsIn K mainGlobals "isinstance" = some none)
    (z8 : PySem.W.nsIn K mainGlobals "len" = some none)
    (z9 : PySem.W.nsIn K mainGlobals "list" = some none)
    (z10 : PySem.W.nsIn K mainGlobals "max" = some none)
    (z11 : PySem.W.nsIn K mainGlobals "min" = some none)
    (z12 : PySem.W.nsIn K mainGlobals "range" = some none)
    (z13 : PySem.W.nsIn K mainGlobals "reversed" = some none)
    (z14 : PySem.W.nsIn K mainGlobals "str" = some none)
    (z15 : PySem.W.nsIn K mainGlobals "tuple" = some none)
    (z16 : PySem.W.nsIn K mainGlobals "zip" = some none)
    (m0 : PySem.W.nsIn K mainGlobals "LONGEST_DAY" = some (some (.int 96 g0))) :
    ∃ fd : FuncData, (∀ (s : Shared) (v : Value), BindsTo s fd ⟨[v], []⟩ [("script", v)]) ∧ ∀ base : Heap, K.In base → base.Ns mainGlobals mg → FnOk l.prog w K mg base C8.CX0 10 fa fd ["script"] (spLaw1 K) := by
  have T : Top K mg CH :=
    { cl_Hours := ⟨pg, hd, po, sa⟩
      g_Hours := PySem.W.mg_of X G aC
      na_day := nday
      na_stay := nstay
      d_is_number := ⟨f1, _, ⟨⟨_, _, _, _, _, _, _, _, _, _, rfl, l1, c1⟩, PySem.W.mg_of X G a1, k1⟩, .inr ⟨(by intro h; cases h), t1, _, [.int 0 dt1_0, .none], tn1, rfl, d1, rfl, (.cons ⟨_, rfl⟩ (.cons rfl .nil))⟩⟩
      d_can_enter := ⟨f2, _, ⟨⟨_, _, _, _, _, _, _, _, _, _, rfl, l2, c2⟩, PySem.W.mg_of X G a2, k2⟩, rfl⟩
      d_hours_of := ⟨f3, _, ⟨⟨_, _, _, _, _, _, _, _, _, _, rfl, l3, c3⟩, PySem.W.mg_of X G a3, k3⟩, rfl⟩
      d_read_hours := ⟨f4, _, ⟨⟨_, _, _, _, _, _, _, _, _, _, rfl, l4, c4⟩, PySem.W.mg_of X G a4, k4⟩, rfl⟩
      d_latest_begin := ⟨f5, _, ⟨⟨_, _, _, _, _, _, _, _, _, _, rfl, l5, c5⟩, PySem.W.mg_of X G a5, k5⟩, rfl⟩
      d_never_falls := ⟨f6, _, ⟨⟨_, _, _, _, _, _, _, _, _, _, rfl, l6, c6⟩, PySem.W.mg_of X G a6, k6⟩, rfl⟩
      d__law_bag := ⟨f7, _, ⟨⟨_, _, _, _, _, _, _, _, _, _, rfl, l7, c7⟩, PySem.W.mg_of X G a7, k7⟩, rfl⟩
      d__law_draw := ⟨f8, _, ⟨⟨_, _, _, _, _, _, _, _, _, _, rfl, l8, c8⟩, PySem.W.mg_of X G a8, k8⟩, rfl⟩
      d__law_of := ⟨f9, _, ⟨⟨_, _, _, _, _, _, _, _, _, _, rfl, l9, c9⟩, PySem.W.mg_of X G a9, k9⟩, rfl⟩
      d__law_turned := ⟨f10, _, ⟨⟨_, _, _, _, _, _, _, _, _, _, rfl, l10, c10⟩, PySem.W.mg_of X G a10, k10⟩, rfl⟩
      d__law_like := ⟨f11, _, ⟨⟨_, _, _, _, _, _, _, _, _, _, rfl, l11, c11⟩, PySem.W.mg_of X G a11, k11⟩, rfl⟩
      d__law_is_number := ⟨f12, _, ⟨⟨_, _, _, _, _, _, _, _, _, _, rfl, l12, c12⟩, PySem.W.mg_of X G a12, k12⟩, rfl⟩
      d__law_hours := ⟨f13, _, ⟨⟨_, _, _, _, _, _, _, _, _, _, rfl, l13, c13⟩, PySem.W.mg_of X G a13, k13⟩, rfl⟩
      d__law_windows := ⟨f14, _, ⟨⟨_, _, _, _, _, _, _, _, _, _, rfl, l14, c14⟩, PySem.W.mg_of X G a14, k14⟩, rfl⟩
      d__law_is_open := ⟨f15, _, ⟨⟨_, _, _, _, _, _, _, _, _, _, rfl, l15, c15⟩, PySem.W.mg_of X G a15, k15⟩, rfl⟩
      d__law_walk := ⟨f16, _, ⟨⟨_, _, _, _, _, _, _, _, _, _, rfl, l16, c16⟩, PySem.W.mg_of X G a16, k16⟩, rfl⟩
      d__law_reading := ⟨f17, _, ⟨⟨_, _, _, _, _, _, _, _, _, _, rfl, l17, c17⟩, PySem.W.mg_of X G a17, k17⟩, rfl⟩
      d__law_times := ⟨f18, _, ⟨⟨_, _, _, _, _, _, _, _, _, _, rfl, l18, c18⟩, PySem.W.mg_of X G a18, k18⟩, rfl⟩
      d__law_read_so := ⟨f19, _, ⟨⟨_, _, _, _, _, _, _, _, _, _, rfl, l19, c19⟩, PySem.W.mg_of X G a19, k19⟩, rfl⟩
      d_Hours___init__ := ⟨f20, _, ⟨mk, a20, i20, kC⟩, ⟨_, _, _, _, _, _, _, _, _, _, rfl, l20, c20⟩, rfl⟩
      d_Hours_best := ⟨f21, _, ⟨a21, i21, k21⟩, ⟨_, _, _, _, _, _, _, _, _, _, rfl, l21, c21⟩, rfl⟩
      d_Hours_then := ⟨f22, _, ⟨a22, i22, k22⟩, ⟨_, _, _, _, _, _, _, _, _, _, rfl, l22, c22⟩, rfl⟩
      d_Hours_is_value := ⟨f23, _, ⟨a23, i23, k23⟩, ⟨_, _, _, _, _, _, _, _, _, _, rfl, l23, c23⟩, rfl⟩
      d_law := ⟨f24, _, ⟨⟨_, _, _, _, _, _, _, _, _, _, rfl, l24, c24⟩, PySem.W.mg_of X G a24, k24⟩, rfl⟩
      all := PySem.W.mg_none_of X G z0
      any := PySem.W.mg_none_of X G z1
      bool := PySem.W.mg_none_of X G z2
      dict := PySem.W.mg_none_of X G z3
      divmod := PySem.W.mg_none_of X G z4
      enumerate := PySem.W.mg_none_of X G z5
      int := PySem.W.mg_none_of X G z6
      isinstance := PySem.W.mg_none_of X G z7
      len := PySem.W.mg_none_of X G z8
      list := PySem.W.mg_none_of X G z9
      max := PySem.W.mg_none_of X G z10
      min := PySem.W.mg_none_of X G z11
      range := PySem.W.mg_none_of X G z12
      reversed := PySem.W.mg_none_of X G z13
      str := PySem.W.mg_none_of X G z14
      tuple := PySem.W.mg_none_of X G z15
      zip := PySem.W.mg_none_of X G z16
      m_LONGEST_DAY := ⟨_, PySem.W.mg_of X G m0, _, rfl⟩ }
  have ea := hfa.symm.trans (PySem.W.mg_of X G a24)
  cases ea
  exact ⟨_, fun s v => .of_eq rfl, fun base _ _ => ok_law T ⟨⟨_, _, _, _, _, _, _, _, _, _, rfl, l24, c24⟩, PySem.W.mg_of X G a24, k24⟩⟩
end Fb
open PySem PySem.W PyProof.Rows
set_option maxRecDepth 100000 in
set_option maxHeartbeats 0 in
theorem PySem.Challenge.cw_feeblind_k08_whole_hours_walked_holds : PySem.Challenge.rw_feeblind_k08_whole_hours_walked.Holds := by
  w_on; o_law; k_head; (case hw => w_witness2)
  k_fill
  refine L2.walk_of (l := PySem.Challenge.rw_feeblind_k08_whole_hours_walked) (n := 63) (k := 10) (x := "script") (CX := fun _ => C8.CX0) (sp := fun w => Fb.spLaw1 _) rfl (by decide) rfl ⟨rfl, by decide, by decide⟩ (fun w h Y => PySem.W.kIn_of Y) ?F (fun _ _ a ns hl _ hS => ⟨_, rfl, a, ns, rfl, hS, fun _ => rfl⟩) (fun _ _ _ _ _ z => z)
  case F =>
    intro w mg fa h KX G hmg
    refine' Fb.all_mk KX G hmg ?aC ?pg ?hd ?po ?sa ?mk ?kC ?nday ?nstay ?a1 ?l1 ?c1 ?k1 ?d1 ?a2 ?l2 ?c2 ?k2 ?a3 ?l3 ?c3 ?k3 ?a4 ?l4 ?c4 ?k4 ?a5 ?l5 ?c5 ?k5 ?a6 ?l6 ?c6 ?k6 ?a7 ?l7 ?c7 ?k7 ?a8 ?l8 ?c8 ?k8 ?a9 ?l9 ?c9 ?k9 ?a10 ?l10 ?c10 ?k10 ?a11 ?l11 ?c11 ?k11 ?a12 ?l12 ?c12 ?k12 ?a13 ?l13 ?c13 ?k13 ?a14 ?l14 ?c14 ?k14 ?a15 ?l15 ?c15 ?k15 ?a16 ?l16 ?c16 ?k16 ?a17 ?l17 ?c17 ?k17 ?a18 ?l18 ?c18 ?k18 ?a19 ?l19 ?c19 ?k19 ?a20 ?i20 ?l20 ?c20 ?k20 ?a21 ?i21 ?l21 ?c21 ?k21 ?a22 ?i22 ?l22 ?c22 ?k22 ?a23 ?i23 ?l23 ?c23 ?k23 ?a24 ?l24 ?c24 ?k24 ?z0 ?z1 ?z2 ?z3 ?z4 ?z5 ?z6 ?z7 ?z8 ?z9 ?z10 ?z11 ?z12 ?z13 ?z14 ?z15 ?z16 ?m0
    (case aC => k_is)
    (case pg => k_is)
    (case hd => k_is)
    (case po => k_is)
    (case sa => k_is)
    (case mk => k_is)
    (case kC => k_is)
    (case nday => k_is)
    (case nstay => k_is)
    (case a1 => k_is)
    (case l1 => k_is)
    (case c1 => k_is)
    (case k1 => k_is)
    (case d1 => k_is)
    (case a2 => k_is)
    (case l2 => k_is)
    (case c2 => k_is)
    (case k2 => k_is)
    (case a3 => k_is)
    (case l3 => k_is)
    (case c3 => k_is)
    (case k3 => k_is)
    (case a4 => k_is)
    (case l4 => k_is)
    (case c4 => k_is)
    (case k4 => k_is)
    (case a5 => k_is)
    (case l5 => k_is)
    (case c5 => k_is)
    (case k5 => k_is)
    (case a6 => k_is)
    (case l6 => k_is)
    (case c6 => k_is)
    (case k6 => k_is)
    (case a7 => k_is)
    (case l7 => k_is)
    (case c7 => k_is)
    (case k7 => k_is)
    (case a8 => k_is)
    (case l8 => k_is)
    (case c8 => k_is)
    (case k8 => k_is)
    (case a9 => k_is)
    (case l9 => k_is)
    (case c9 => k_is)
    (case k9 => k_is)
    (case a10 => k_is)
    (case l10 => k_is)
    (case c10 => k_is)
    (case k10 => k_is)
    (case a11 => k_is)
    (case l11 => k_is)
    (case c11 => k_is)
    (case k11 => k_is)
    (case a12 => k_is)
    (case l12 => k_is)
    (case c12 => k_is)
    (case k12 => k_is)
    (case a13 => k_is)
    (case l13 => k_is)
    (case c13 => k_is)
    (case k13 => k_is)
    (case a14 => k_is)
    (case l14 => k_is)
    (case c14 => k_is)
    (case k14 => k_is)
    (case a15 => k_is)
    (case l15 => k_is)
    (case c15 => k_is)
    (case k15 => k_is)
    (case a16 => k_is)
    (case l16 => k_is)
    (case c16 => k_is)
    (case k16 => k_is)
    (case a17 => k_is)
    (case l17 => k_is)
    (case c17 => k_is)
    (case k17 => k_is)
    (case a18 => k_is)
    (case l18 => k_is)
    (case c18 => k_is)
    (case k18 => k_is)
    (case a19 => k_is)
    (case l19 => k_is)
    (case c19 => k_is)
    (case k19 => k_is)
    (case a20 => k_is)
    (case i20 => k_is)
    (case l20 => k_is)
    (case c20 => k_is)
    (case k20 => k_is)
    (case a21 => k_is)
    (case i21 => k_is)
    (case l21 => k_is)
    (case c21 => k_is)
    (case k21 => k_is)
    (case a22 => k_is)
    (case i22 => k_is)
    (case l22 => k_is)
    (case c22 => k_is)
    (case k22 => k_is)
    (case a23 => k_is)
    (case i23 => k_is)
    (case l23 => k_is)
    (case c23 => k_is)
    (case k23 => k_is)
    (case a24 => k_is)
    (case l24 => k_is)
    (case c24 => k_is)
    (case k24 => k_is)
    (case z0 => k_is)
    (case z1 => k_is)
    (case z2 => k_is)
    (case z3 => k_is)
    (case z4 => k_is)
    (case z5 => k_is)
    (case z6 => k_is)
    (case z7 => k_is)
    (case z8 => k_is)
    (case z9 => k_is)
    (case z10 => k_is)
    (case z11 => k_is)
    (case z12 => k_is)
    (case z13 => k_is)
    (case z14 => k_is)
    (case z15 => k_is)
    (case z16 => k_is)
    (case m0 => k_is)

